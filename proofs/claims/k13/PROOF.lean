import PyProof.Rows.All
import Wide.All
import OpenK.AllK
import Wide.FinOn
import HandS.ForMost
import HandS.IsInst
import HandS.Wide
import HandS.Evl
import HandS.TupAny
import HandS.Style
import HandS.Walk
import HandS.WideBits
import HandS.Conv
import HandS.SortKw
import KE.DataMinMax
import HandS.Comp
import HandS.SetFor
import HandS.SortInts
import HandS.Strs
import KE.GoesMore
import PyProof.LongRange
import HandS.Lambda
import HandS.EndTab
import HandS.HotCalls
import HandS.ExcIs
import HandS.ExcOwn
import HandS.Zip
import KE.GoesZip
import KE.GoesComp
import KE.GoesEnum
import KE.GoesNew
import PySem.Challenge.RW_longyears_k13_whole_lands_by_words
set_option Elab.async false
set_option linter.all false
set_option maxRecDepth 100000
set_option maxHeartbeats 4200000
namespace LY
open PySem PySem.Spec PyProof.Rows L2 Evl

/-! ### own bridges: whatever the library walks, as something that a loop of the hand layer walks -/
/-- n values f 0, f 1, .., the heap left alone -/
def ItF (n : Nat) (f : Nat → V) : It where
  go i _ := i < n
  yld i H x H' := H' = H ∧ x = f i
  stop i _ := i = n
theorem walk_itF {n : Nat} {f : Nat → V} : Walk (ItF n f) n (fun _ => True) (YFn f) :=
  { goes := fun _ _ h _ => h, stops := fun _ _ => rfl, yields := fun _ _ _ _ _ _ y => y }
/-- one record that the walk turns, which keeps no tuple of its own -/
def Lone (St : Nat → Heap → Prop) (it : Addr) : Prop := ∀ i h, St i h → ∃ (o : Obj) (c : String) (vs : Array Value), h.get? it = some o ∧ o.cls = .type c ∧ o.data = .fields vs ∧
  ["enumerate", "zip", "dict_itemiterator", "dict_reverseitemiterator", "odict_iterator", "itertools.zip_longest", "itertools.pairwise"].contains c = false
theorem turn_lone {P : Program} {w : World} {K : PySem.W.Frag} {tg : Expr} {it : Addr} {n : Nat} {f : Nat → V} {Pv : Nat → Value → Prop} {St : Nat → Heap → Prop}
    (W : ∀ A : Around, A.handled = none → Walks P w A it [it] [it] n Pv St) (hv : ∀ i v, Pv i v → RelV (f i) v) (lone : Lone St it)
    (self : ∀ (A : Around) i (s : Shared) Q E, St i s.heap → Q (.ref it) s → wpAny (model P w) A (pyIter (.ref it)) Q E s) : Turn P w K tg (ItF n f) [it] it St := by
  have one : ∀ {b : Addr}, b ∈ [it] → b = it := fun hb => List.mem_singleton.mp hb
  refine { mem := List.mem_singleton.mpr rfl, obj := ?o, keep := ?k, item := ?i, done := ?d, self := ?s }
  case o =>
    rintro i h st b hb
    obtain ⟨o, c, vs, g1, _, g3, _⟩ := lone i h st
    exact ⟨o, one hb ▸ g1, fun v z => by rw [g3] at z; exact Data.noConfusion z⟩
  case k =>
    intro i h h' st kp
    exact (W { callerA with handled := none } rfl).frame i h h' st kp
  case i =>
    rintro X rfl rfl rfl calm i pins s σ H E I fp st lt
    have a := fp it (List.mem_singleton.mpr rfl)
    refine (W X.A (I.ok.hd calm)).item i s _ _ lt st fun v h2 tk pv st2 kp => ⟨v, rfl, ?_⟩
    obtain ⟨o, c, vs, g1, g2, g3, g4⟩ := lone _ _ st2
    exact go_of (s := { s with heap := h2, toks := tk }) g1 g2 g3 g4 ⟨f i, H, I.turned (fun b u hb e => kp b u (fun z => hb (one z)) e) a.1 a.2.1 a.2.2.2.1 a.2.2.2.2.1 a.2.2.2.2.2, hv i v pv, ⟨rfl, rfl⟩, st2, fun b hb => (fp b hb).1⟩
  case d =>
    rintro X rfl rfl rfl calm i pins s σ H E I fp st rfl
    have a := fp it (List.mem_singleton.mpr rfl)
    exact (W X.A (I.ok.hd calm)).done s _ _ st fun h2 tk kp => ⟨rfl, I.turned (fun b u hb e => kp b u (fun z => hb (one z)) e) a.1 a.2.1 a.2.2.2.1 a.2.2.2.2.1 a.2.2.2.2.2⟩
  case s => exact self
section
variable {X : Cx} {tg : Expr}
/-- range(a, b), whatever the size: the small iterator or the long one -/
def iSpan (ta : TA) : TI := fun σ H R => ta σ H fun vs H1 => ∃ a b : Int, vs = [.int a, .int b] ∧ R (ItF (b - a).toNat fun i => .int (a + i)) H1
theorem span_count (a b : Int) : ((b - a).toNat : Int) = Builtin.Range.rangeSize a b 1 := by
  rw [rangeSize_one]
  split
  · omega
  · omega
theorem span_start {pins : List (Addr × Obj)} {σ : L2.St} {H : Hp} {s : Shared} {R : It → Hp → Prop} {E : Value → Shared → Prop} {a b : Int} {t u v : Tok} {tk : Nat} (I : Inv X pins σ H s) (q : R (ItF (b - a).toNat fun i => .int (a + i)) H) :
    wpAny (model X.prog X.w) X.A (pyIter (.ref s.heap.objs.size)) (PIE X pins σ tg R) E { s with heap := s.heap.push { cls := .type "range", data := .fields #[.int a t, .int b u, .int 1 v] }, toks := tk } := by
  generalize hr : ({ cls := .type "range", data := .fields #[.int a t, .int b u, .int 1 v] } : Obj) = rg
  have J : Inv X pins σ H { s with heap := s.heap.push rg, toks := tk } := I.kept fun _ _ => Heap.get?_push_of_some _
  have rng : IsRange (s.heap.push rg) s.heap.objs.size a b 1 t u v := by
    subst hr
    exact IsRange.new ..
  have at0 : a + ((0 : Nat) : Int) * 1 = a := by omega
  have left : ((b - a).toNat : Int) - ((0 : Nat) : Int) = Builtin.Range.rangeSize a b 1 := by
    have := span_count a b
    omega
  have val : ∀ (i : Nat) (x : Value), (∃ t, x = .int (a + i * 1) t) → RelV (.int (a + i)) x := fun i x ⟨t, e⟩ => ⟨t, by rw [e, Int.mul_one]⟩
  have mine : ∀ c ∈ [(s.heap.push rg).objs.size], FpOk X pins H c := fun c hc => by
    rw [List.mem_singleton.mp hc]
    exact J.fpOk (Nat.le_refl _) (J.hok.fresh (Nat.le_refl _))
  cases sm : Builtin.Range.small a b 1
  · refine wpAny_pyIter_longrange (s := { s with heap := s.heap.push rg, toks := tk }) rng sm ⟨_, [_], _, _, H, rfl, J.kept (t' := tk) fun _ _ => Heap.get?_push_of_some _, turn_lone (fun A hA => Walks.longrange hA _ a 1 _) val (fun i h st => ⟨_, "longrange_iterator", _, st, rfl, rfl, rfl⟩) (fun A i s' Q E' st h => wpAny_pyIter_longiter st h), ?_, mine, q⟩
    show IsLongIter _ _ _ _ _
    rw [at0, left]
    apply Heap.get?_push_size
    rfl
  · refine wpAny_pyIter_range (s := { s with heap := s.heap.push rg, toks := tk }) rng sm ⟨_, [_], _, _, H, rfl, J.kept (t' := tk) fun _ _ => Heap.get?_push_of_some _, turn_lone (fun A hA => Walks.range hA _ a 1 _) val (fun i h st => ⟨_, "range_iterator", _, st, rfl, rfl, rfl⟩) (fun A i s' Q E' st h => wpAny_pyIter_rangeiter st h), ?_, mine, q⟩
    show IsRangeIter _ _ _ _ _
    rw [at0, left]
    apply Heap.get?_push_size
    rfl
theorem pi_span {a b : Expr} {ta : TA} {p pos : Pos} (gl : Gl X "range") (no : X.mg "range" = none) (args : PA X [a, b] ta) (two : starEach [a, b] X.env = [(false, eval a X.env), (false, eval b X.env)] := by rfl) (last : starEach [b] X.env = [(false, eval b X.env)] := by rfl) :
    PI X tg (.Call (.Name "range" p) [a, b] [] pos) (iSpan ta) := by
  constructor
  intro pins s σ H R I h
  have run := args.run pos pins s σ H _ I h
  refine Call_ (ld_blt I gl no boot_range (PyProof.Rows.callWith_type1 (thn run fun us s1 got => ?_) (by rw [two, last]) (by rw [last]; rfl)))
  obtain ⟨vs, H1, I1, rel, x, y, rfl, q⟩ := got
  obtain ⟨u1, u2, rfl, ⟨t1, rfl⟩, ⟨t2, rfl⟩⟩ := vals2 rel
  exact call_range_2 (span_start I1 q)
end

/-! ### enumerate of a tracked tuple, by the library's WalksT -/
/-- pairs (i, the i-th of xs), each new -/
def ItP (xs : List V) (t : Addr) : It where
  go i H := i < xs.length ∧ H t = some (.tup xs)
  yld i H v H' := ∃ p x, v = .ref p ∧ H p = none ∧ H' = upd H p (.tup [.int (i : Nat), x]) ∧ xs[i]? = some x
  stop i H := i = xs.length ∧ H t = some (.tup xs)
theorem walk_itP {xs : List V} {t : Addr} : Walk (ItP xs t) xs.length (fun H => H t = some (.tup xs)) (YPair (fun i => some (.int (i : Nat))) (fun i => xs[i]?)) :=
  { goes := fun _ _ h k => ⟨h, k⟩, stops := fun _ k => ⟨rfl, k⟩, yields := fun i _ _ _ _ _ ⟨p, x, h1, h2, h3, h4⟩ => ⟨p, .int (i : Nat), x, h1, h2, h3, rfl, h4⟩ }
theorem turn_pairs {P : Program} {w : World} {K : PySem.W.Frag} {elts : List Expr} {kk : Nat} {tpos : Pos} {xs : List V} {t e it : Addr} (ne : e ≠ it) :
    Turn P w K (.Tuple elts kk tpos) (ItP xs t) [e, it] e (fun i h => (∃ old, IsEnum h e it i old) ∧ h.IsTupleIter it t i) := by
  have me : e ∈ [e, it] := List.mem_cons_self ..
  have mi : it ∈ [e, it] := List.mem_cons_of_mem _ (List.mem_singleton.mpr rfl)
  refine { mem := me, obj := ?o, keep := ?k, item := ?i, done := ?d, self := ?s }
  case o =>
    rintro i h ⟨⟨old, he⟩, o, ho, hc, hd⟩ b hb
    refine (List.mem_cons.mp hb).elim (fun z => ?_) (fun z => ?_)
    · exact ⟨_, z ▸ he, fun v y => Data.noConfusion y⟩
    · exact ⟨o, List.mem_singleton.mp z ▸ ho, fun v y => by rw [hd] at y; exact Data.noConfusion y⟩
  case k => exact fun i h h' st kp => ⟨st.1.imp fun old he => kp e me _ he, st.2.at fun o g => kp it mi o g⟩
  case i =>
    rintro X rfl rfl rfl calm i pins s σ H E I fp ⟨en, ti⟩ ⟨lt, ht⟩
    obtain ⟨its, rel, tup, _⟩ := I.tuple (st_of ht)
    have te : t ≠ e := ne_of_none ht (fp e me).1
    have tt : t ≠ it := ne_of_none ht (fp it mi).1
    have size : its.toArray.size = xs.length := by rw [List.size_toArray, rel.length]
    have D := Draws.tuple (prog := X.prog) (w := X.w) (A := X.A.in1) (show X.A.in1.handled = none from I.ok.hd calm) it t tt its.toArray
    have W := WalksT.enumerateD D e ne (by simp [ne, Ne.symm te]) (by simp)
    obtain ⟨u, hu, ru⟩ := rel.get (List.getElem?_eq_getElem lt)
    refine W.item i s _ _ (by omega) ⟨en, ti, tup⟩ fun p vals h2 tk pv big isT mid kp => ⟨_, rfl, W.go elts kk tpos i p _ _ _ mid fun h3 st3 kp3 => ?_⟩
    obtain ⟨tok, y, hy, rfl⟩ := pv
    have same : y = u := Option.some.inj (hy.symm.trans (by simpa using hu))
    subst same
    have pf := W.apart i p h2 mid
    have isT3 : IsTup h3 p #[.int i tok, y] := isT.at fun o g => kp3 p o pf g
    have fresh : H p = none := I.hok.fresh big
    have J : Inv X pins σ (upd H p (.tup [.int (i : Nat), xs[i]])) { s with heap := h3, toks := tk } :=
      I.turnedNew (ch := [e, it]) (fun b o hb g => kp3 b o hb (kp b o hb g)) fp big ⟨by show 2 ≤ sizeLine; decide, [.int i tok, y], .cons ⟨tok, rfl⟩ (.cons ru .nil), isT3⟩
    refine ⟨.ref p, _, J, rfl, ⟨p, xs[i], rfl, fresh, rfl, List.getElem?_eq_getElem lt⟩, ⟨st3.1, st3.2.1⟩, fun b hb => ?_⟩
    have bp : b ≠ p := fun z => pf (z ▸ hb)
    rw [upd_ne bp]
    exact (fp b hb).1
  case d =>
    rintro X rfl rfl rfl calm i pins s σ H E I fp ⟨⟨old, he⟩, ti⟩ ⟨rfl, ht⟩
    obtain ⟨its, rel, tup, _⟩ := I.tuple (st_of ht)
    have size : xs.length = its.toArray.size := by rw [List.size_toArray, rel.length]
    rw [size] at he ti
    have tt : t ≠ it := ne_of_none ht (fp it mi).1
    have f := fp it mi
    exact wpAny_pyNext_enum_endD (Draws.tuple (show X.A.in1.handled = none from I.ok.hd calm) it t tt its.toArray) he ⟨ti, tup⟩ fun h2 kp => ⟨rfl, I.turned (t' := s.toks) kp f.1 f.2.1 f.2.2.2.1 f.2.2.2.2.1 f.2.2.2.2.2⟩
  case s => exact fun A i s Q E st h => st.1.elim fun _ he => wpAny_pyIter_enum he h

/-! ### enumerate(v) begun: over whatever the library says how iter(v) begins -/
def enumOf (it : Addr) : Obj := { cls := .type "enumerate", data := .fields #[.none, .bool false, .ref it, rawInt 0, .none, .none] }
theorem enum_made {v : Value} {o : Obj} {Hv : Heap → Prop} (B : Begins v o Hv) :
    Meets (Builtin.«enumerate.__new__» ⟨[.type "enumerate", v], []⟩) (fun _ R s => Hv s.heap ∧ R (.ok (.ret (.ref (s.heap.push o).objs.size))) { s with heap := (s.heap.push o).push (enumOf s.heap.objs.size) }) := by
  refine .of_wp fun prog w A R s hyp => ?_
  have sub := sub_enumerate
  rcases s with ⟨hp, gn, dr, tk, os⟩
  rcases hyp with ⟨hv, goal⟩
  have begun := fun (A' : Around) (E : Value → Shared → Prop) (Q : Value → Shared → Prop) => B.iter prog w A' E ⟨hp, gn, dr, tk, os⟩ Q hv
  wp_walk
  refine wpAny_stack_any fun _ => ?_
  refine wpAny_pure ?_
  split
  case _ c _ _ _ _ _ =>
    generalize (c == Value.type "enumerate") = same
    cases same
    all_goals wp_walk using begun
    all_goals exact ⟨_, rfl, goal⟩
  case _ =>
    wp_walk using begun
    exact ⟨_, rfl, goal⟩
theorem enum_call {prog : Program} {w : World} {A : Around} {E : Value → Shared → Prop} {s : Shared} {v : Value} {o : Obj} {Hv : Heap → Prop} {Q : Value → Shared → Prop} (B : Begins v o Hv) (hv : Hv s.heap)
    (q : IsEnum ((s.heap.push o).push (enumOf s.heap.objs.size)) (s.heap.objs.size + 1) s.heap.objs.size 0 .none → Q (.ref (s.heap.objs.size + 1)) { s with heap := (s.heap.push o).push (enumOf s.heap.objs.size) }) :
    wpAny (model prog w) A (call (.type "enumerate") [v]) Q E s := by
  have next : (s.heap.push o).objs.size = s.heap.objs.size + 1 := Heap.size_push ..
  have en : IsEnum ((s.heap.push o).push (enumOf s.heap.objs.size)) (s.heap.objs.size + 1) s.heap.objs.size 0 .none := next ▸ Heap.get?_push_size (s.heap.push o) rfl
  refine callType_new F.called_enumerate (by decide) (F.typeCall_enumerate_1 v) (F.newCall_enumerate_1 v) (fun x => F.args_object_init_2 x v) F.entry_enumerate_new (enum_made B) ⟨hv, ?_⟩
  rw [next]
  exact ⟨⟨_, en, rfl⟩, q en⟩
/-- enumerate of a list that is read, or of a tracked tuple -/
def iEnumS (K : PySem.W.Frag) (ta : TA) : TI := fun σ H R => ta σ H fun vs H1 => ∃ t xs, vs = [.ref t] ∧ ((SqL K H1 t xs ∧ R (Ite K t) H1) ∨ (H1 t = some (.tup xs) ∧ R (ItP xs t) H1))
theorem pi_enumS {X : Cx} {e : Expr} {ta : TA} {p pos tpos : Pos} {elts : List Expr} {kk : Nat} (gl : Gl X "enumerate") (no : X.mg "enumerate" = none) (arg : PA X [e] ta) (one : starEach [e] X.env = [(false, eval e X.env)] := by rfl) :
    PI X (.Tuple elts kk tpos) (.Call (.Name "enumerate" p) [e] [] pos) (iEnumS X.K ta) := by
  constructor
  intro pins s σ H R I h
  have run := arg.run pos pins s σ H _ I h
  refine Call_ (ld_blt I gl no boot_enumerate (PyProof.Rows.callWith_type1 (thn run fun us s1 got => ?_) one rfl))
  obtain ⟨vs, H1, I1, rel, t, xs, rfl, q⟩ := got
  obtain ⟨u, rfl, ru⟩ := vals1 rel
  obtain rfl : u = .ref t := ru
  have mine : ∀ c ∈ [s1.heap.objs.size + 1, s1.heap.objs.size], FpOk X pins H1 c := fun c hc => by
    have le : s1.heap.objs.size ≤ c := by
      simp only [List.mem_cons, List.not_mem_nil, or_false] at hc
      omega
    exact I1.fpOk le (I1.hok.fresh le)
  have grow : ∀ (a b : Obj) (c : Addr) (o : Obj), s1.heap.get? c = some o → ((s1.heap.push a).push b).get? c = some o := fun a b c o g => Heap.get?_push_of_some b (Heap.get?_push_of_some a g)
  have first : ∀ a b : Obj, a.isFreed = false → ((s1.heap.push a).push b).get? s1.heap.objs.size = some a := fun a b fr => Heap.get?_push_of_some b (Heap.get?_push_size _ fr)
  rcases q with ⟨hl, q⟩ | ⟨ht, q⟩
  · obtain ⟨its, _, pl, _⟩ := I1.list hl
    refine enum_call (begins_list t its.toArray) pl.isList fun en => wpAny_pyIter_enum en ⟨_, _, _, _, H1, rfl, I1.kept (t' := s1.toks) (grow _ _), turn_enum t _ _, ⟨⟨_, en⟩, ⟨_, first _ _ rfl, rfl, rfl⟩, Nat.succ_ne_self _⟩, mine, q⟩
  · obtain ⟨its, _, tu, _⟩ := I1.tuple (st_of ht)
    exact enum_call (begins_tuple t its.toArray) tu fun en => wpAny_pyIter_enum en ⟨_, _, _, _, H1, rfl, I1.kept (t' := s1.toks) (grow _ _), turn_pairs (Nat.succ_ne_self _), ⟨⟨_, en⟩, _, first _ _ rfl, rfl, rfl⟩, mine, q⟩

/-! ### xs + ys of lists that are read -/
section
variable {X : Cx}
def rCatL (K : PySem.W.Frag) : R2 := fun x y H Q => ∃ l b xs zs, x = .ref l ∧ y = .ref b ∧ SqL K H l xs ∧ SqL K H b zs ∧ xs.length + zs.length ≤ sizeLine ∧ ∀ p, H p = none → Q (.ref p) (upd H p (.lst (xs ++ zs)))
theorem op_catL : OpR X (binaryOp .Add) (rCatL X.K) := by
  rintro pins s σ H _ _ v u Q I rx ry ⟨l, b, xs, zs, rfl, rfl, ha, hb, hz, q⟩
  cases rx
  cases ry
  obtain ⟨i1, r1, p1, _⟩ := I.list ha
  obtain ⟨i2, r2, p2, _⟩ := I.list hb
  have g1 := r1.length
  have g2 := r2.length
  obtain ⟨⟨c1, dd1, dt1, s1⟩, o1, k1, m1, e1⟩ := p1.isList
  obtain ⟨⟨c2, dd2, dt2, s2⟩, o2, k2, m2, e2⟩ := p2.isList
  simp only at k1 e1 k2 e2
  subst k1 e1 k2 e2
  have ea : i1.toArray ++ i2.toArray = (i1 ++ i2).toArray := by simp
  refine concat_meets ⟨_, o1, rfl⟩ ⟨_, o2, rfl⟩ noFill_list_add seq_list_add PySem.F.slot_list_add PySem.F.entry_list_add (PySem.F.args_list_add_2 _ _)
    (list_addW l b i1.toArray i2.toArray m1 m2 dd1 dd2 s1 s2 (by rw [List.size_toArray, List.size_toArray]; omega)) ⟨o1, o2, ?_⟩
  rw [ea]
  exact ⟨.ref _, _, I.lnew (t' := s.toks) (r1.append r2) (by rw [List.length_append]; omega), rfl, q _ I.fresh⟩
end

/-! ### a truth and a number; a truth's text; a tuple from behind -/
section
variable {X : Cx}
theorem op_either {f : Value → Value → Sem Value} {r r' : R2} (h : OpR X f r) (h' : OpR X f r') : OpR X f (fun x y H Q => r x y H Q ∨ r' x y H Q) :=
  fun pins s σ H x y v u Q I rx ry q => q.elim (h pins s σ H x y v u Q I rx ry) (h' pins s σ H x y v u Q I rx ry)
/-- a truth, then a number -/
def rTN (g : Int → Int → Int) : R2 := fun x y H Q => ∃ (b : Bool) (j : Int), x = .bl b ∧ y = .int j ∧ Q (.int (g (if b = true then 1 else 0) j)) H
theorem op_addB : OpR X (binaryOp .Add) (rTN fun i j => i + j) := by
  rintro pins s σ H _ _ v u Q I rx ry ⟨b, j, rfl, rfl, q⟩
  obtain rfl : v = .bool b := rx
  obtain ⟨t, rfl⟩ : ∃ t, u = .int j t := ry
  exact PySem.IntBool.add_bool_int ⟨.int _, H, I.tok _, ⟨_, rfl⟩, q⟩
theorem op_subB : OpR X (binaryOp .Sub) (rTN fun i j => i - j) := by
  rintro pins s σ H _ _ v u Q I rx ry ⟨b, j, rfl, rfl, q⟩
  obtain rfl : v = .bool b := rx
  obtain ⟨t, rfl⟩ : ∃ t, u = .int j t := ry
  exact PySem.IntBool.sub_bool_int ⟨.int _, H, I.tok _, ⟨_, rfl⟩, q⟩
theorem op_addU : OpR X (binaryOp .Add) (fun x y H Q => rI0 (fun i j => .int (i + j)) x y H Q ∨ rTN (fun i j => i + j) x y H Q) := op_either op_add op_addB
theorem op_subU : OpR X (binaryOp .Sub) (fun x y H Q => rI0 (fun i j => .int (i - j)) x y H Q ∨ rTN (fun i j => i - j) x y H Q) := op_either op_sub op_subB
def rCatU (K : PySem.W.Frag) : R2 := fun x y H Q => rCatL K x y H Q ∨ rCatA K x y H Q
theorem op_catU : OpR X (binaryOp .Add) (rCatU X.K) := op_either op_catL op_catA
theorem sl_U : SlR X (fun x lo hi H Q => rSlL X.K x lo hi H Q ∨ rSlA X.K x lo hi H Q) := SlR.or sl_list sl_tupA
/-- every text of Lean's is a text of Python's -/
theorem strOk_of (s : String) : PyData.strOk (Str.ofString s) = true := by
  rw [Str.ofString_eq_toList]
  refine Array.all_eq_true'.mpr fun x hx => ?_
  obtain ⟨c, _, rfl⟩ : ∃ c, c ∈ s.toList ∧ Char.toNat c = x := by simpa using hx
  exact decide_eq_true (c.valid.elim (fun low => Nat.lt_trans low (by decide)) And.right)
def truthText (b : Bool) : Str := if b then "True" else "False"
theorem truth_text {P : Program} {w : World} {A : Around} {E : Value → Shared → Prop} {s : Shared} {b : Bool} {Q : Value → Shared → Prop} (q : Q (.str (truthText b) s.toks) { s with toks := s.toks + 1 }) : wpAny (model P w) A (call (.type "str") [.bool b]) Q E s := by
  have made : Meets (Builtin.«str.__new__» ⟨[.type "str", .bool b], []⟩) (fun _ R s => R (.ok (.ret (.str (truthText b) s.toks))) { s with toks := s.toks + 1 }) :=
    meets_str_new fun _ _ _ _ s r => wpAny_strOf_gives rfl (PySem.typeIs_bool s b) F.slot_bool_str F.slot_bool_repr F.entry_bool_repr (F.args_bool_repr_1 _) (gives_bool_repr b) r (hsz := by cases b <;> decide)
  exact callType_new F.called_str (by decide) (F.typeCall_str_1 _) (F.newCall_str_1 _) (fun x => F.args_object_init_2 x _) F.entry_str_new made ⟨typeIs_str _ _ _, q⟩
/-- str of a number or of a truth: some text -/
def rStrU : List V → Hp → VK → Prop := fun xs H Q => ((∃ i : Int, xs = [.int i] ∧ i.natAbs.log2 < 1920) ∨ ∃ b, xs = [.bl b]) ∧ ∀ x : Str, PyData.strOk x = true → Q (.str x) H
theorem call_strU : CallR X (.type "str") rStrU := by
  rintro pins s σ H xs us Q I r ⟨⟨i, e, hz⟩ | ⟨b, rfl⟩, q⟩
  · exact call_str_int pins s σ H xs us Q I r ⟨i, e, hz, q _ (strOk_of _)⟩
  · obtain ⟨_, rfl, rfl⟩ := vals1 r
    exact truth_text ⟨.str (truthText b), H, I.tok _, ⟨_, rfl⟩, q _ (by cases b <;> exact strOk_of _)⟩
end
/-- what the model's slices say of [::-1] -/
theorem back_bounds (n : Nat) : Builtin.Slice.sliceAdjust none none (-1) n = ((n : Int) - 1, -1) ∧ Builtin.Slice.slicePlaces ((n : Int) - 1) (-1) (-1) = n := by
  refine ⟨by simp [Builtin.Slice.sliceAdjust], ?_⟩
  simp [Builtin.Slice.slicePlaces]
  omega
theorem back_items (its : Array Value) : ((List.range its.size).filterMap fun k : Nat => its[(((its.size : Int) - 1) + (k : Int) * (-1)).toNat]?) = its.toList.reverse := by
  have there : ∀ k : Nat, its[(((its.size : Int) - 1) + (k : Int) * (-1)).toNat]? = its[its.size - 1 - k]? := fun k => by
    rw [show (((its.size : Int) - 1) + (k : Int) * (-1)).toNat = its.size - 1 - k by omega]
  have back := congrArg (List.filterMap (its[·]?)) (PySem.W.krv_range its.size)
  rw [List.filterMap_map, List.filterMap_reverse, PySem.W.krv_all] at back
  rw [← back]
  exact congrArg (List.filterMap · _) (funext there)
section
variable {s : Shared} {P : Program} {w : World} {A : Around} {E : Value → Shared → Prop}
/-- the slice object of [::-1], taken of n items -/
theorem back_applied {sl : Addr} {tk : Tok} {n : Nat} {Q : Int × Int × Nat → Shared → Prop} (hs : s.heap.IsSliceOf sl .none .none (.int (-1) tk)) (q : Q ((n : Int) - 1, -1, n) s) :
    wpAny (model P w) A (Builtin.Slice.sliceApplied (.ref sl) (pure (n : Int))) Q E s := by
  obtain ⟨o, ho, _, hd⟩ := hs
  have none0 : IsPart Value.none none := .none
  have part : ∀ {i : Nat} {v : Value} {Q' : Value → Shared → Prop}, (#[Value.none, .none, .int (-1) tk] : Array Value)[i]? = some v → Q' v s → wpAny (model P w) A (field (.ref sl) i) Q' E s := fun hi h => wpAny_field ho hd hi h
  simp only [Builtin.Slice.sliceApplied, Builtin.Slice.sliceFields]
  refine wpAny_bind (wpAny_bind (part rfl (wpAny_bind (part rfl (wpAny_bind (part rfl (wpAny_pure ?_)))))))
  refine wpAny_bind (HT.slicePart_ (o := some (-1)) (.int (-1) tk) ?_)
  refine wpAny_bind (HT.slicePart_ none0 (wpAny_bind (HT.slicePart_ none0 (wpAny_bind (wpAny_pure ?_)))))
  have e := back_bounds n
  simp only [Option.getD, e.1, e.2]
  exact wpAny_pure q
/-- t[::-1] asked of the tuple's own __getitem__ -/
theorem back_got {t sl : Addr} {tk : Tok} {its : Array Value} {Q : Value → Shared → Prop} (ht : IsTup s.heap t its) (hs : s.heap.IsSliceOf sl .none .none (.int (-1) tk)) (hz : its.size ≤ sizeLine)
    (q : Q (.ref s.heap.objs.size) { s with heap := s.heap.push { cls := .type "tuple", data := .seq its.toList.reverse.toArray } }) : wpAny (model P w) A (getItem (.ref t) (.ref sl)) Q E s := by
  have slice : s.TypeIs (.ref sl) "slice" := hs.elim fun o h => ⟨o, h.1, h.2.1⟩
  have room : sizeOk (.seq its.toList.reverse.toArray) := by
    simpa [sizeOk] using hz
  have own : wpAny (model P w) A.in1 (Builtin.«tuple.__getitem__» ⟨[.ref t, .ref sl], []⟩) (fun fin s' => ∃ v, fin = .done (.ret v) ∧ Q v s') E s := by
    refine wpAny_bind (m := Builtin.Tuple.tupleItemsOf (.ref t)) (tupleItemsOf_ ht (wpAny_bind (wpAny_typeOf slice ?_)))
    rw [if_pos (by decide)]
    refine wpAny_bind (back_applied hs ?_)
    show wpAny _ _ (if ((its.size : Int) - 1 == 0 && (-1 : Int) == 1 && its.size == its.size) = true then _ else _) _ _ s
    rw [if_neg (by simp)]
    refine wpAny_bind (m := Builtin.Tuple.tupleExact _) ?_
    rw [back_items]
    refine wpAny_newObj_type ?_ room
    exact wpAny_pure ⟨_, rfl, q⟩
  have asked : wpAny (model P w) A (callSpecial? (.ref t) "__getitem__" [.ref sl]) (fun r s' => ∃ v, r = some v ∧ Q v s') E s :=
    wpAny_callSpecial?_slot ht.typeIs PyProof.Rows.slot_tuple_getitem (wpAny_call_entry PyProof.Rows.slot_tuple_getitem ht.typeIs entry_tuple_getitem (wpAny_mono own (fun f s' ⟨v, e, h⟩ => ⟨v, e, v, rfl, h⟩) fun _ _ h => h) (args_tuple_getitem _ _))
  simp only [getItem]
  refine wpAny_holding (wpAny_bind (wpAny_sequenceKey (hT := ht.typeIs) (by decide) ?_))
  refine wpAny_bind (wpAny_mono asked (fun r s' h => ?_) fun _ _ h => h)
  obtain ⟨v, rfl, h⟩ := h
  exact wpAny_pure h
end
section
variable {X : Cx}
/-- t[::-1], t a tuple -/
def tBack (K : PySem.W.Frag) (te : TE) : TE := fun σ H Q => te σ H fun x H1 => ∃ a xs, x = .ref a ∧ SqT K H1 a xs ∧ ∀ p, H1 p = none → Q (.ref p) (upd H1 p (.tup xs.reverse))
theorem pe_back {e : Expr} {te : TE} {k : Nat} {p1 p2 p3 pos : Pos} (he : PE X e te) : PE X (.Subscript e (.Slice none none (some (.UnaryOp .USub (.Constant (.int 1) k p1) p2)) p3) pos) (tBack X.K te) := by
  constructor
  intro pins s σ H Q I h
  have minus : PE X (.UnaryOp .USub (.Constant (.int 1) k p1) p2) (tUn (rU fun i => .int (-i)) (tC (.int 1))) := pe_un un_neg pe_int
  refine Subscript_ (thn (he.run pins s σ H _ I h) fun v s1 got => ?_)
  obtain ⟨_, H1, I1, rv, a, xs, rfl, hx, q⟩ := got
  obtain rfl : v = .ref a := rv
  refine wpAny_Slice (thn (po_none.run pins s1 σ H1 (fun o H' => o = none ∧ H' = H1) I1 ⟨rfl, rfl⟩) fun v2 s2 g2 => ?_)
  obtain ⟨_, H2, I2, n2, rfl, e2⟩ := g2
  rw [e2] at I2
  refine thn (po_none.run pins s2 σ H1 (fun o H' => o = none ∧ H' = H1) I2 ⟨rfl, rfl⟩) fun v3 s3 g3 => ?_
  obtain ⟨_, H3, I3, n3, rfl, e3⟩ := g3
  rw [e3] at I3
  refine thn ((po_some minus).run pins s3 σ H1 (fun o H' => o = some (-1) ∧ H' = H1) I3 ⟨1, rfl, -1, rfl, rfl, rfl⟩) fun v4 s4 g4 => ?_
  obtain ⟨_, H4, I4, n4, rfl, e4⟩ := g4
  rw [e4] at I4
  cases n2
  cases n3
  cases n4 with
  | int _ tk =>
    generalize hsl : ({ cls := .type "slice", data := .fields #[Value.none, .none, .int (-1) tk] } : Obj) = so
    have J : Inv X pins σ H1 { s4 with heap := s4.heap.push so } := I4.kept (t' := s4.toks) fun _ _ => Heap.get?_push_of_some _
    have sl : (s4.heap.push so).IsSliceOf s4.heap.objs.size .none .none (.int (-1) tk) := hsl ▸ Heap.IsSliceOf.new ..
    obtain ⟨its, rel, tup, z⟩ := J.tuple hx
    have sz := rel.length
    refine tail_any (s := { s4 with heap := s4.heap.push so }) (ops := [.ref a, .ref s4.heap.objs.size]) tup.typeIs PyProof.Rows.slot_tuple_getitem.lookup (back_got tup sl (by rw [List.size_toArray]; omega) ?_) (by with_unfolding_all rfl)
    refine ⟨.ref _, _, J.laid (t' := s4.toks) (o := .tup xs.reverse) (fun _ _ => Heap.get?_push_of_some _) (Nat.le_refl _) ⟨?_, its.reverse, rel.reverse, IsTup.new _ _⟩, rfl, q _ J.fresh⟩
    rw [List.length_reverse]
    exact z
end

/-! ### lists and tuples of numbers compared -/
theorem dps_ints {K : PySem.W.Frag} {H : Hp} : ∀ ns : List Int, DpAll K H (ns.map V.int) (ns.map PyData.int)
  | [] => .nil
  | n :: ns => .cons (.int n) (dps_ints ns)
theorem lays_ints : ∀ ns : List Int, PyData.canLayAll0 (ns.map PyData.int) = true
  | [] => rfl
  | n :: ns => by
    have h := lays_ints ns
    simp only [List.map_cons, PyData.canLayAll0, PyData.canLay0, h, Bool.and_true, Bool.true_and]
theorem deep_ints : ∀ ns : List Int, PyData.depthAll (ns.map PyData.int) ≤ 1
  | [] => by decide
  | n :: ns => by
    have h := deep_ints ns
    simp only [List.map_cons, PyData.depth, PyData.depthAll]
    omega
theorem shaped_lst (ns : List Int) : SeqAt.shaped (.list (ns.map PyData.int)) = true := by
  have h1 := lays_ints ns
  have h2 := deep_ints ns
  unfold SeqAt.shaped
  rw [PyData.canLay0, PyData.depth, h1, Bool.true_and]
  exact decide_eq_true (show _ ≤ 64 by omega)
theorem shaped_tup (ns : List Int) : SeqAt.shaped (.tuple (ns.map PyData.int)) = true := by
  have h1 := lays_ints ns
  have h2 := deep_ints ns
  unfold SeqAt.shaped
  rw [PyData.canLay0, PyData.depth, h1, Bool.true_and]
  exact decide_eq_true (show _ ≤ 64 by omega)
theorem eqv_ints : ∀ ns ms : List Int, PyData.eqvAll (ns.map PyData.int) (ms.map PyData.int) = decide (ns = ms)
  | [], [] => rfl
  | [], m :: ms => rfl
  | n :: ns, [] => rfl
  | n :: ns, m :: ms => by
    have h := eqv_ints ns ms
    simp only [List.map_cons, PyData.eqvAll, PyData.eqv, h]
    by_cases e : n = m <;> by_cases e' : ns = ms <;> simp [e, e']
section
variable {K : PySem.W.Frag} {H : Hp} {Q : VK} {a b : Addr} {ns ms : List Int}
theorem eq_lsts (ha : SqL K H a (ns.map V.int)) (hb : SqL K H b (ms.map V.int)) (q : Q (.bl (decide (ns = ms))) H) : rEqD K (.ref a) (.ref b) H Q :=
  ⟨_, _, .lst ha (dps_ints ns), .lst hb (dps_ints ms), shaped_lst ns, shaped_lst ms, by rw [PyData.eqv, eqv_ints]; exact q⟩
theorem ne_lsts (ha : SqL K H a (ns.map V.int)) (hb : SqL K H b (ms.map V.int)) (q : Q (.bl (!decide (ns = ms))) H) : rNeD K (.ref a) (.ref b) H Q :=
  ⟨_, _, .lst ha (dps_ints ns), .lst hb (dps_ints ms), shaped_lst ns, shaped_lst ms, by rw [PyData.eqv, eqv_ints]; exact q⟩
theorem eq_tups (ha : SqT K H a (ns.map V.int)) (hb : SqT K H b (ms.map V.int)) (q : Q (.bl (decide (ns = ms))) H) : rEqD K (.ref a) (.ref b) H Q :=
  ⟨_, _, .tup ha (dps_ints ns), .tup hb (dps_ints ms), shaped_tup ns, shaped_tup ms, by rw [PyData.eqv, eqv_ints]; exact q⟩
theorem ne_tups (ha : SqT K H a (ns.map V.int)) (hb : SqT K H b (ms.map V.int)) (q : Q (.bl (!decide (ns = ms))) H) : rNeD K (.ref a) (.ref b) H Q :=
  ⟨_, _, .tup ha (dps_ints ns), .tup hb (dps_ints ms), shaped_tup ns, shaped_tup ms, by rw [PyData.eqv, eqv_ints]; exact q⟩
end
/-- a comprehension over a list of numbers, with a test -/
theorem given_list (xs : List Int) (p : Int → Bool) (g : Int → Int) : given xs.length (fun i => p (xs[i]?.getD 0)) (fun i => V.int (g (xs[i]?.getD 0))) = ((xs.filter p).map g).map V.int := by
  unfold given
  induction xs with
  | nil => rfl
  | cons x xs ih =>
    have h0 : (x :: xs)[(0 : Nat)]?.getD 0 = x := rfl
    have hs : ∀ i : Nat, (x :: xs)[i + 1]?.getD 0 = xs[i]?.getD 0 := fun i => by rw [List.getElem?_cons_succ]
    rw [List.length_cons, List.range_succ_eq_map, List.filter_cons, List.filter_map, List.filter_cons, h0]
    have e1 : ((fun i => p ((x :: xs)[i]?.getD 0)) ∘ Nat.succ) = fun i : Nat => p (xs[i]?.getD 0) := funext fun i => congrArg p (hs i)
    have e2 : ((fun i => V.int (g ((x :: xs)[i]?.getD 0))) ∘ Nat.succ) = fun i : Nat => V.int (g (xs[i]?.getD 0)) := funext fun i => congrArg (fun z => V.int (g z)) (hs i)
    rw [e1]
    by_cases h : p x = true
    · rw [if_pos h, if_pos h]
      simp only [List.map_cons, List.map_map, e2, h0]
      rw [ih, List.map_map]
    · rw [if_neg h, if_neg h, List.map_map, e2, ih]
theorem given_pick (xs : List Int) (p : Int → Bool) : given xs.length (fun i => p (xs[i]?.getD 0)) (fun i => V.int (xs[i]?.getD 0)) = (xs.filter p).map V.int := by
  have h := given_list xs p fun z => z
  rw [List.map_id'] at h
  exact h

section
variable {X : Cx}
theorem op_isT : OpR X (compareOp .Is) (fun x y H Q => ∃ a b, x = .bl a ∧ y = .bl b ∧ Q (.bl (a == b)) H) := by
  rintro pins s σ H x y v u Q I rx ry ⟨a, b, rfl, rfl, q⟩
  cases rx
  cases ry
  exact is_bool ⟨.bl _, H, I, rfl, q⟩
theorem op_isntT : OpR X (compareOp .IsNot) (fun x y H Q => ∃ a b, x = .bl a ∧ y = .bl b ∧ Q (.bl (a != b)) H) := by
  rintro pins s σ H x y v u Q I rx ry ⟨a, b, rfl, rfl, q⟩
  cases rx
  cases ry
  exact isnot_bool ⟨.bl _, H, I, rfl, q⟩
end

/-! ### min(xs, default=None) of a list of numbers -/
section
variable {X : Cx}
def rMinD (K : PySem.W.Frag) : List V → List V → Hp → VK → Prop := fun vs zs H Q => ∃ (a : Addr) (ns : List Int), vs = [.ref a] ∧ zs = [.non] ∧ SqL K H a (ns.map V.int) ∧ (ns = [] → Q .non H) ∧ ∀ m, m ∈ ns → (∀ y, y ∈ ns → m ≤ y) → Q (.int m) H
theorem cr_minD (calm : X.calm = true) : CallRK X (.builtin "min") [Str.ofString "default"] (rMinD X.K) := by
  rintro pins s σ H vs zs us ws Q I r rz ⟨a, ns, rfl, rfl, hq, q0, q1⟩
  obtain ⟨its, rel, pl, _⟩ := I.list hq
  obtain rfl := Vals.ref1 r
  obtain ⟨w1, ew, e1⟩ := vals1 rz
  subst ew
  replace e1 : w1 = Value.none := e1
  subst e1
  have nums : IntsAre its ns := intsAre_of rel
  have many : its.toArray.size = ns.length := by simpa using nums.length
  have newL : a ≠ s.heap.objs.size := Nat.ne_of_lt pl.lt
  have calm' : X.A.in1.handled = none := by simpa using I.ok.hd calm
  refine call_min_walkD (wpAny_pyIter_list pl.isList ?_)
  have kept : ∀ {s' : Shared}, Moved [s.heap.objs.size] (fun x y => y = x) { s with heap := s.heap.push { cls := .type "list_iterator", data := .fields #[.ref a, .int 0 0] } } s' → ∀ b o, s.heap.get? b = some o → s'.heap.get? b = some o := fun mv b o g =>
    mv.heap b o (fun z => Nat.ne_of_lt (Heap.lt_size g) (List.mem_singleton.mp z)) (Heap.get?_push_of_some _ g)
  have after : ∀ {s' : Shared}, Moved [s.heap.objs.size] (fun x y => y = x) { s with heap := s.heap.push { cls := .type "list_iterator", data := .fields #[.ref a, .int 0 0] } } s' → Inv X pins σ H s' := fun {s'} mv => by
    have J := I.kept (t' := s'.toks) (kept mv)
    rcases s' with ⟨h1, g1, d1, t1, o1⟩
    have eg := mv.gens
    have ed := mv.drawn
    have eo := mv.os
    simp only at eg ed eo
    subst eg ed eo
    exact J
  refine ⟨s.heap.objs.size, _, _, _, _, _, _, s.heap, fun i j => decide (ns.getD i 0 < ns.getD j 0), rfl, (Walks.list calm' s.heap.objs.size a newL its.toArray).toS, ⟨⟨_, Heap.get?_push_size _ rfl, rfl, rfl⟩, pl.isList.push _⟩, ?_, ?_, fun b o g => Heap.get?_push_of_some _ g, fun none_ s' mv => ?_, fun pos => ⟨?_, fun v s' hv mv => ?_⟩⟩
  · intro b hb
    rw [Heap.size_push]
    simp only [List.not_mem_nil, List.mem_cons, or_false] at hb
    rcases hb with rfl | rfl
    · exact Nat.lt_succ_self _
    · exact Nat.lt_succ_of_lt pl.lt
  · intro b o g z
    exact Nat.ne_of_lt (Heap.lt_size g) (List.mem_singleton.mp z)
  · refine ⟨.non, H, after mv, rfl, q0 ?_⟩
    rw [many] at none_
    exact List.eq_nil_of_length_eq_zero none_
  · intro i j vi vj s1 Q1 E1 _ hi hj q
    obtain ⟨t, rfl⟩ := nums.int_at i vi (by rw [← List.getElem?_toArray]; exact hi)
    obtain ⟨t', rfl⟩ := nums.int_at j vj (by rw [← List.getElem?_toArray]; exact hj)
    show wpAny _ _ (compareOp .Lt _ _) _ _ _
    exact lt_int q
  · obtain ⟨h1, h2⟩ := argBest_lt (fun i => ns.getD i 0) (its.toArray.size - 1)
    obtain ⟨t, rfl⟩ := nums.int_at _ v (by rw [← List.getElem?_toArray]; exact hv)
    rw [many] at pos h1 h2
    refine ⟨.int _, H, after mv, ⟨t, rfl⟩, ?_⟩
    rw [many]
    refine q1 _ (PySem.getD_mem (by omega)) fun y hy => ?_
    obtain ⟨j, hj, rfl⟩ := mem_getD hy
    exact h2 j (by omega)
end

/-! ### where a list's iterator ends while an error is handled -/
section
variable {prog : Program} {w : World} {B : Around} {hot : Addr}
/-- the new error that tells the end bears the handled one; nothing that stood is written -/
theorem tells_end {β : Type} {t : Shared} {G : β → Shared → Prop} {Z : Value → Shared → Prop} (h : HotX.HotAt B hot t.heap)
    (z : ∀ g n, (∀ c u, t.heap.get? c = some u → g.get? c = some u) → (∃ u, g.get? n = some u ∧ u.cls = .type "StopIteration") → Z (.ref n) { t with heap := g }) :
    wpAny (model prog w) B (Builtin.SmallTypes.stopIteration : Sem β) G Z t := by
  have two : ∀ {x y : Obj} {c : Addr} {u : Obj}, t.heap.get? c = some u → ((t.heap.push x).push y).get? c = some u ∧ c ≠ (t.heap.push x).objs.size := fun {x y c u} e =>
    ⟨Heap.get?_push_of_some _ (Heap.get?_push_of_some _ e), Nat.ne_of_lt (Heap.lt_size (Heap.get?_push_of_some x e))⟩
  obtain ⟨yes, u, fs, e, d, c⟩ := h
  show wpAny _ _ (newExc (.type "StopIteration") [] >>= fun v => raiseNew v) _ _ _
  refine wpAny_bind ?_
  unfold newExc newTuple
  have plain : firstArgMember (.type "StopIteration") [] = pure Value.none := rfl
  rw [plain]
  refine wpAny_bind (wpAny_newObj_type (wpAny_bind (wpAny_pure (wpAny_newObj_type ?_))))
  exact HotX.raiseNew_hot ⟨yes, u, fs, (two e).1, d, c⟩ (two (y := u) e).2 (Heap.get?_push_size _ rfl) rfl (by rw [Array.size_append]; exact Nat.lt_of_lt_of_le (show 2 < 6 by decide) (Nat.le_add_right 6 _)) (z _ _ (fun b o g => (Heap.get?_update_other _ _ (Ne.symm (two (y := u) g).2)).trans (two g).1) ⟨_, Heap.get?_update_self _ (Heap.get?_push_size _ rfl) rfl, rfl⟩)
/-- drawn from by zip: the same list, the handled error's object stands by -/
theorem draws_by {it l : Addr} (il : l ≠ it) (ih : hot ≠ it) (yes : B.in1.handled = some (.ref hot)) (items : Array Value) :
    Draws prog w B it [it, l, hot] items.size (fun i v => items[i]? = some v) (fun i h => h.IsListIter it l i ∧ h.IsList l items ∧ HotX.HotAt B.in1 hot h) := by
  constructor
  case live => exact fun _ _ st => st.1.imp fun _ e => e.1
  case frame => exact fun _ _ _ ⟨a, b, _, u, fs, e, r⟩ k => ⟨a.at fun o => k it (by simp) o, b.at fun o => k l (by simp) o, yes, u, fs, k hot (by simp) u e, r⟩
  case item => exact fun i s Q E lt ⟨a, b, _, u, fs, e, r⟩ q => wpAny_nextOf_list_item a b (x := items[i]) (getElem?_pos items i lt) fun g a' sb => q _ g s.toks (getElem?_pos items i lt) ⟨a', b.extBut sb.extBut il, yes, u, fs, sb.extBut _ _ ih e, r⟩ sb
  case done =>
    rintro s Q E ⟨a, ⟨ol, el, _, k, dl⟩, _, u, fs, e, r⟩ out
    obtain ⟨o, eo, co, fo⟩ := id a
    have past : items[items.size]? = none := getElem?_neg items items.size (Nat.lt_irrefl _)
    have ends : ∀ {G : Fin → Shared → Prop}, wpAny (model prog w) B.in1 (Builtin.«list_iterator.__next__» ⟨[.ref it], []⟩) G E s := fun {G} => by
      have off : (Value.ref l == Value.none) = false := rfl
      refine wpAny_bind (m := field _ 0) (wpAny_field eo fo (x := .ref l) rfl ?_)
      simp only [off, Bool.false_eq_true, if_false]
      refine wpAny_bind (m := field _ 1) (wpAny_field eo fo (x := .int (items.size : Nat) 0) rfl (wpAny_bind (m := seqItems? _) (wpAny_seqItems el dl ?_)))
      simp only [Int.toNat_natCast, past]
      refine wpAny_bind (wpAny_rule (wpAny_bind (wpAny_setField eo fo (Nat.zero_lt_succ _) (tells_end ⟨yes, u, fs, ?_, r⟩ fun g n k h => out g n (fun c v nc ec => k c v ?_) h))))
      · exact (Heap.get?_update_other _ _ (Ne.symm ih)).trans e
      · exact (Heap.get?_update_other _ _ (Ne.symm nc)).trans ec
    exact wpAny_bind (wpAny_callSpecial?_slot (name := Str.ofString "__next__") a.typeIs slot_listiter_next (wpAny_call_entry slot_listiter_next a.typeIs entry_listiter_next ends (args_listiter_next _)))
end

/-! ### comprehensions of any number of fors, calm or while an error is handled -/
section
variable {X Y : Cx} {pins : List (Addr × Obj)} {σ : L2.St} {H : Hp} {s : Shared} {tg : Expr} {J : It} {fp : List Addr} {it : Addr} {tn : Nat → Heap → Prop}
/-- the block of a comprehension; what the def has pinned stays pinned in it -/
abbrev blkP (X : Cx) (s : Shared) (H : Hp) (scope : Scope) (cenv : Env) (fp : List Addr) : Cx := { X.blk s H scope cenv fp with pn := X.pn }
/-- an iterator whose turns the library tells for this context -/
def Goer (X : Cx) (tg : Expr) (J : It) (fp : List Addr) (it : Addr) (tn : Nat → Heap → Prop) : Prop :=
  (X.calm = true ∧ Turn X.prog X.w X.K tg J fp it tn) ∨ (L2H.HotC X ∧ L2H.TurnH X.prog X.w X.K tg J fp it tn)
theorem Goer.self (g : Goer X tg J fp it tn) {A : Around} {i : Nat} {Q : Value → Shared → Prop} {E : Value → Shared → Prop} (st : tn i s.heap) (h : Q (.ref it) s) : wpAny (model X.prog X.w) A (pyIter (.ref it)) Q E s :=
  g.elim (fun t => t.2.self A i s Q E st h) fun t => t.2.self A i s Q E st h
theorem Goer.obj (g : Goer X tg J fp it tn) {i : Nat} {h : Heap} (st : tn i h) : ∀ b ∈ fp, ∃ o, h.get? b = some o ∧ ∀ v, o.data ≠ .cell v := g.elim (fun t => t.2.obj i h st) fun t => t.2.obj i h st
theorem Goer.keep (g : Goer X tg J fp it tn) {i : Nat} {h h' : Heap} (st : tn i h) (k : ∀ b ∈ fp, ∀ o, h.get? b = some o → h'.get? b = some o) : tn i h' := g.elim (fun t => t.2.keep i h h' st k) fun t => t.2.keep i h h' st k
/-- an item of turn i has come as u -/
def Came (X : Cx) (pins : List (Addr × Obj)) (σ : L2.St) (J : It) (fp : List Addr) (tn : Nat → Heap → Prop) (i : Nat) (H : Hp) (u : Value) (s : Shared) : Prop :=
  ∃ x H1, J.yld i H x H1 ∧ RelV x u ∧ (Inv X pins σ H1 s ∧ tn (i + 1) s.heap) ∧ ∀ b ∈ fp, H1 b = none
theorem Goer.next (g : Goer X tg J fp it tn) {i : Nat} {Q : Option Value → Shared → Prop} {E : Value → Shared → Prop} (I : Inv X pins σ H s) (f : ∀ b ∈ fp, FpOk X pins H b) (st : tn i s.heap)
    (h : (J.stop i H ∧ ∀ s1, Inv X pins σ H s1 → Q none s1) ∨ (J.go i H ∧ ∀ u s1, wpAny (model X.prog X.w) X.A (letOwnedTupleGo tg (.ref it) u) (fun _ s2 => Came X pins σ J fp tn i H u s2) E s1 → Q (some u) s1)) :
    wpAny (model X.prog X.w) X.A (pyNext (.ref it)) Q E s := by
  have made : ∀ u s2, (∃ x H', Inv X pins σ H' s2 ∧ RelV x u ∧ J.yld i H x H' ∧ tn (i + 1) s2.heap ∧ ∀ b ∈ fp, H' b = none) → Came X pins σ J fp tn i H u s2 := fun u s2 ⟨x, H1, a, b, c, d, e⟩ => ⟨x, H1, c, b, ⟨a, d⟩, e⟩
  rcases h with ⟨no, q⟩ | ⟨yes, q⟩ <;> rcases g with ⟨c, t⟩ | ⟨c, t⟩
  · exact thn (t.done X rfl rfl rfl c i pins s σ H E I f st no) fun r s1 z => z.1 ▸ q s1 z.2
  · exact thn (t.done X rfl rfl rfl c i pins s σ H E I f st no) fun r s1 z => z.1 ▸ q s1 z.2
  · exact thn (t.item X rfl rfl rfl c i pins s σ H E I f st yes) fun r s1 ⟨u, e, k⟩ => e ▸ q u s1 (thn k fun _ s2 z => made u s2 z)
  · exact thn (t.item X rfl rfl rfl c i pins s σ H E I f st yes) fun r s1 ⟨u, e, k⟩ => e ▸ q u s1 (thn k fun _ s2 z => made u s2 z)
/-- what stands behind an in: an iterator comes -/
def Begun (X : Cx) (pins : List (Addr × Obj)) (σ : L2.St) (tg : Expr) (R : It → Hp → Prop) (u : Value) (s : Shared) : Prop :=
  ∃ it J fp tn H1, u = .ref it ∧ Goer X tg J fp it tn ∧ R J H1 ∧ Inv X pins σ H1 s ∧ tn 0 s.heap ∧ ∀ b ∈ fp, FpOk X pins H1 b
def Brings (X : Cx) (tg iter : Expr) (wi : TI) : Prop := ∀ (pins : List (Addr × Obj)) (s : Shared) (σ : L2.St) (H : Hp) (R : It → Hp → Prop), Inv X pins σ H s → wi σ H R →
  wpAny (model X.prog X.w) X.A (eval iter X.env) (fun v s1 => wpAny (model X.prog X.w) X.A (pyIter v) (Begun X pins σ tg R) X.xe s1) X.xe s
theorem brings_calm {iter : Expr} {wi : TI} (c : X.calm = true) (h : PI X tg iter wi) : Brings X tg iter wi := fun pins s σ H R I q =>
  thn (h.run pins s σ H R I q) fun _ _ z => thn z fun _ _ ⟨it, fp, tn, J, H1, e, I1, t, st, f, r⟩ => ⟨it, J, fp, tn, H1, e, .inl ⟨c, t⟩, r, I1, st, f⟩
theorem brings_hot {iter : Expr} {wi : TI} (c : L2H.HotC X) (h : L2H.PIH X tg iter wi) : Brings X tg iter wi := fun pins s σ H R I q =>
  thn (h.run pins s σ H R I q) fun _ _ z => thn z fun _ _ ⟨it, fp, tn, J, H1, e, I1, t, st, f, r⟩ => ⟨it, J, fp, tn, H1, e, .inr ⟨c, t⟩, r, I1, st, f⟩
end
section
variable {prog : Program} {w : World} {A : Around} {E : Value → Shared → Prop} {s : Shared} {elt : Expr} {gens : List Comprehension} {scope : Scope} {pos : Pos} {k : Nat} {it : Value} {D : Addr} {env : Env}
/-- what is done at depth k: the next for is begun, or the item is appended; Z afterwards -/
def Into (prog : Program) (w : World) (A : Around) (E : Value → Shared → Prop) (elt : Expr) (gens : List Comprehension) (scope : Scope) (pos : Pos) (k : Nat) (D : Addr) (env : Env) (Z : Shared → Prop) (s : Shared) : Prop :=
  (gens[k]?).elim (wpAny (model prog w) A (eval elt env) (fun v s1 => wpAny (model prog w) A (call (.builtin "list.append") [.ref D, v]) (fun _ => Z) E s1) E s)
    fun g => wpAny (model prog w) A (eval g.iter env) (fun v s1 => wpAny (model prog w) A (pyIter v) (fun u => codeAny (model prog w) A (.compStart (.ListComp elt gens scope pos) k u (.ref D) env) fun r s3 => (∃ f, r = .ok f) ∧ Z s3) E s1) E s
theorem comp_turn {g : Comprehension} {Q : Fin → Shared → Prop} (hg : gens[k]? = some g) (h0 : g.is_async = 0) (h1 : ∀ g', gens[k + 1]? = some g' → g'.is_async = 0 ∧ ∀ x, foldedSetIterable g'.iter env x = pure x)
    (h : wpAny (model prog w) A (pyNext it) (fun r s1 => (r = none → Q (.done .next) s1) ∧ ∀ v, r = some v → wpAny (model prog w) A (letOwnedTupleGo g.target it v) (fun _ s2 => wpAny (model prog w) A (assign g.target env v) (fun _ s3 =>
      wpAny (model prog w) A (forIn g.ifs true fun c r => if r = true then do let ok ← isTrue c env (eval c env); pure (ForInStep.yield ok) else pure (ForInStep.yield r)) (fun ok s4 =>
        if ok = true then Into prog w A (fun _ _ => False) elt gens scope pos (k + 1) D env (Q (.again (.compLoop (.ListComp elt gens scope pos) k it (.ref D) env))) s4 else Q (.again (.compLoop (.ListComp elt gens scope pos) k it (.ref D) env)) s4) E s3) E s2) E s1) E s) :
    wpAny (model prog w) A (compTurn (.ListComp elt gens scope pos) k it (.ref D) env) Q E s := by
  unfold compTurn
  simp only [hg, h0]
  simp only [if_false, bne_self_eq_false, Bool.false_eq_true]
  refine wpAny_bind (wpAny_standAt (wpAny_bind (thn h fun r s1 ⟨no, yes⟩ => ?_)))
  cases r with
  | none => exact wpAny_pure (no rfl)
  | some v =>
    refine wpAny_bind (thn (yes v rfl) fun _ s2 z2 => wpAny_bind (thn z2 fun _ s3 z3 => wpAny_bind (thn z3 fun ok s4 z4 => ?_)))
    cases ok with
    | false => exact wpAny_pure z4
    | true =>
      unfold Into at z4
      simp only [if_true] at z4 ⊢
      cases eg : gens[k + 1]? with
      | none =>
        rw [eg] at z4
        exact wpAny_bind (wpAny_bind (thnF z4 fun v s5 z5 => wpAny_bind (thnF z5 fun _ s6 z6 => wpAny_pure (wpAny_pure z6))))
      | some g1 =>
        obtain ⟨a0, fs⟩ := h1 g1 eg
        rw [eg] at z4
        simp only [a0, bne_self_eq_false, Bool.false_eq_true, if_false]
        refine wpAny_bind (thnF z4 fun v s5 z5 => wpAny_bind (wpAny_standAt (wpAny_bind (wpAny_of_eq (fs v) (wpAny_bind (wpAny_holding (thnF z5 fun u s6 z6 => ?_)))))))
        refine wpAny_bind (wpAny_runOwn (codeAny_mono z6 fun r s7 ⟨⟨f, e⟩, z7⟩ => ?_))
        subst e
        exact wpAny_pure z7
theorem comp_start {R : Result → Shared → Prop} {g : Comprehension} (hg : gens[k]? = some g) (h0 : g.is_async = 0) (same : codeAny (model prog w) A (.compLoop (.ListComp elt gens scope pos) k it (.ref D) env) R s)
    (more : wpAny (model prog w) A (pyIter it) (fun u s1 => codeAny (model prog w) A (.compLoop (.ListComp elt gens scope pos) k u (.ref D) env) R s1) (fun _ _ => False) s) :
    codeAny (model prog w) A (.compStart (.ListComp elt gens scope pos) k it (.ref D) env) R s := by
  have at_ : (clausesOf (.ListComp elt gens scope pos))[k]? = some g := hg
  have tree : wpAny (model prog w) A (compStart (.ListComp elt gens scope pos) k it (.ref D) env) (fun f s' => match f with | .done f => R (.ok f) s' | .again c => c.quiet = true ∧ codeAny (model prog w) A c R s') (fun _ _ => False) s := by
    unfold compStart
    simp only [at_, Option.elim_some, h0, bne_self_eq_false, Bool.false_eq_true, if_false]
    refine wpAny_bind ?_
    refine wpAny_askSetting ?_
    refine wpAny_ite ?_
    split
    · exact wpAny_pure ⟨rfl, same⟩
    · exact wpAny_bind (wpAny_rule (wpAny_bind (wpAny_standAt (wpAny_bind (thnF more fun u s1 z => wpAny_pure ⟨rfl, z⟩)))))
  refine codeAny_of_tree ?_
  exact wpAny_onRaise (thnF tree fun f s' z => z)
end
/-! #### how it is read -/
abbrev TR := Addr → L2.St → Hp → (Hp → Prop) → Prop
/-- the item is appended to the new list -/
def rEnd (te : TE) : TR := fun D σ H Q => te σ H fun y H1 => ∃ had, H1 D = some (.lst had) ∧ had.length < sizeLine ∧ Q (upd H1 D (.lst (had ++ [y])))
/-- one turn with the item x: N behind it -/
def rTurn (g : TG) (tt : TT) (r : TR) (vs : List Nat) (D : Addr) (σ : L2.St) (x : V) (H : Hp) (N : Hp → Prop) : Prop := g x σ H fun σ3 H3 => wipe σ3 vs = wipe σ vs ∧ tt σ3 H3 fun b H4 => cond b (r D σ3 H4 N) (N H4)
/-- the turns of one for: a condition W on (turn, how many at most are left, heap) -/
def rTurns (J : It) (g : TG) (tt : TT) (r : TR) (vs : List Nat) : TR := fun D σ H Q => ∃ W : Nat → Nat → Hp → Prop, (∃ m, W 0 m H) ∧ ∀ i m H1, W i m H1 → (J.stop i H1 ∧ Q H1) ∨
  (J.go i H1 ∧ ∃ N : Hp → Prop, (∀ H2, N H2 → ∃ m', m' < m ∧ W (i + 1) m' H2) ∧ ∀ x H2, J.yld i H1 x H2 → rTurn g tt r vs D σ x H2 N)
def rFor (wi : TI) (g : TG) (tt : TT) (r : TR) (vs : List Nat) : TR := fun D σ H Q => wi σ H fun J H1 => rTurns J g tt r vs D (wipe σ vs) H1 Q
/-- what is done from depth k on is read by r; the slots vs are forgotten behind it -/
def Rest (Y : Cx) (elt : Expr) (gens : List Comprehension) (scope : Scope) (pos : Pos) (k : Nat) (vs : List Nat) (r : TR) : Prop := ∀ (D : Addr) (pins : List (Addr × Obj)) (s : Shared) (σ : L2.St) (H : Hp) (Q : Hp → Prop), Inv Y pins σ H s → r D σ H Q →
  Into Y.prog Y.w Y.A (fun _ _ => False) elt gens scope pos k D Y.env (fun s' => ∃ H', Inv Y pins (wipe σ vs) H' s' ∧ Q H') s
section
variable {Y : Cx} {elt tg iter : Expr} {ifs : List Expr} {gens : List Comprehension} {scope : Scope} {pos : Pos} {k : Nat} {vs vs1 : List Nat} {g : TG} {tt : TT} {te : TE} {r : TR} {wi : TI}
theorem rest_end (hx : Y.xe = fun _ _ => False) (hk : gens[k]? = none) (he : PE Y elt te) : Rest Y elt gens scope pos k [] (rEnd te) := fun D pins s σ H Q I h => by
  unfold Into
  rw [hk]
  refine thn (hx ▸ he.run pins s σ H _ I h) fun v s1 ⟨y, H1, I1, rv, had, hD, hz, q⟩ => ?_
  exact app_ok I1 hD hz rv fun s2 I2 => ⟨_, I2, q⟩
theorem wipe_sub {σ σ1 : L2.St} (e : wipe σ1 vs = wipe σ vs) (hv : ∀ i ∈ vs1, i ∈ vs) : ∀ (i : Nat) v, (wipe σ vs)[i]? = some (some v) → (wipe σ1 vs1)[i]? = some (some v) := fun i v h => by
  obtain ⟨a, b⟩ := wipe_some (e ▸ h)
  rw [wipe_out fun z => b (hv i z)]
  exact a
theorem wipe_in {σ : L2.St} {i : Nat} : ∀ {vs : List Nat}, i ∈ vs → (wipe σ vs)[i]? = if i < σ.length then some none else none
  | v :: vs, h => by
    unfold wipe
    rw [List.getElem?_set, wipe_length]
    by_cases e : v = i
    · rw [if_pos e, e]
    · rw [if_neg e]; exact wipe_in ((List.mem_cons.mp h).resolve_left fun z => e z.symm)
theorem wipe_idem {σ : L2.St} : wipe (wipe σ vs) vs = wipe σ vs := List.ext_getElem? fun i => by
  by_cases h : i ∈ vs
  · rw [wipe_in h, wipe_in h, wipe_length]
  · exact wipe_out h
theorem Into.mono {prog : Program} {w : World} {A : Around} {E : Value → Shared → Prop} {D : Addr} {env : Env} {Z Z' : Shared → Prop} {s : Shared} (h : Into prog w A E elt gens scope pos k D env Z s) (z : ∀ s, Z s → Z' s) : Into prog w A E elt gens scope pos k D env Z' s := by
  unfold Into at h ⊢
  cases e : gens[k]? with
  | none => rw [e] at h; exact thn h fun _ _ a => thn a fun _ s b => z s b
  | some g => rw [e] at h; exact thn h fun _ _ a => thn a fun _ _ b => codeAny_mono b fun _ s c => ⟨c.1, z s c.2⟩
/-- the turns of a for at depth k -/
theorem loop_at {J : It} {fp : List Addr} {it D : Addr} {tn : Nat → Heap → Prop} {pins : List (Addr × Obj)} {s : Shared} {σ : L2.St} {H : Hp} {Q : Hp → Prop} (hx : Y.xe = fun _ _ => False) (hk : gens[k]? = some ⟨tg, iter, ifs, 0⟩)
    (h1 : ∀ g', gens[k + 1]? = some g' → g'.is_async = 0 ∧ ∀ x, foldedSetIterable g'.iter Y.env x = pure x) (G : Goer Y tg J fp it tn) (hg : PG Y tg g) (ht : PTs Y ifs tt) (hr : Rest Y elt gens scope pos (k + 1) vs1 r) (hv : ∀ i ∈ vs1, i ∈ vs)
    (I : Inv Y pins σ H s) (st : tn 0 s.heap) (f : ∀ b ∈ fp, FpOk Y pins H b) (h : rTurns J g tt r vs D σ H Q) (hw : wipe σ vs = σ) :
    codeAny (model Y.prog Y.w) Y.A (.compLoop (.ListComp elt gens scope pos) k (.ref it) (.ref D) Y.env) (fun r s' => (∃ fl, r = .ok fl) ∧ ∃ H', Inv Y pins σ H' s' ∧ Q H') s := by
  obtain ⟨W, ⟨m0, w0⟩, step⟩ := h
  refine codeAny_loop rfl (fun m s' => ∃ i H1, W i m H1 ∧ Inv Y pins σ H1 s' ∧ tn i s'.heap ∧ ∀ b ∈ fp, FpOk Y pins H1 b) ?_ m0 ⟨0, H, w0, I, st, f⟩
  rintro m s1 ⟨i, H1, w1, I1, st1, f1⟩
  refine wpAny_onRaise (E := fun e s' => _) (wpAny_mono (E := fun _ _ => False) ?_ (fun _ _ z => z) fun _ _ z => z.elim)
  refine comp_turn hk rfl h1 ?_
  rcases step i m H1 w1 with ⟨no, q⟩ | ⟨yes, N, fewer, q⟩
  · exact G.next I1 f1 st1 (.inl ⟨no, fun s2 I2 => ⟨fun _ => ⟨⟨_, rfl⟩, H1, I2, q⟩, fun v e => (by cases e)⟩⟩)
  · refine G.next I1 f1 st1 (.inr ⟨yes, fun u s2 z => ⟨fun e => (by cases e), fun v e => ?_⟩⟩)
    cases e
    refine thn z fun _ s3 ⟨x, H3, y3, rv, ⟨I3, st3⟩, n3⟩ => ?_
    have f3 : ∀ b ∈ fp, FpOk Y pins H3 b := fun b hb => ⟨n3 b hb, (f1 b hb).2⟩
    have P3 := I3.pinned f3 (G.obj st3)
    have back : ∀ {H5 : Hp} {σ5 : L2.St} {s5 : Shared}, Inv Y (pins ++ pinsAt fp s3.heap) σ5 H5 s5 → (∀ (j : Nat) v, σ[j]? = some (some v) → σ5[j]? = some (some v)) → N H5 → ∃ m', m' < m ∧ ∃ i H1, W i m' H1 ∧ Inv Y pins σ H1 s5 ∧ tn i s5.heap ∧ ∀ b ∈ fp, FpOk Y pins H1 b := fun {H5 σ5 s5} I5 le n5 => by
      obtain ⟨m', lt, w5⟩ := fewer H5 n5
      have at5 : ∀ b ∈ fp, ∀ o, s3.heap.get? b = some o → s5.heap.get? b = some o ∧ H5 b = none := fun b hb o e => by
        have p := I5.pin (b, o) (List.mem_append_right _ (List.mem_append_right _ (mem_pinsAt hb e)))
        exact ⟨p.1, p.2.1⟩
      refine ⟨m', lt, i + 1, H5, w5, (I5.unpinned).weak (I.len.trans I5.len.symm) le, G.keep st3 fun b hb o e => (at5 b hb o e).1, fun b hb => ⟨?_, (f1 b hb).2⟩⟩
      obtain ⟨o, e, _⟩ := G.obj st3 b hb
      exact (at5 b hb o e).2
    refine thnF (hx ▸ hg.run _ s3 σ H3 x u _ P3 rv (q x H3 y3)) fun _ s4 ⟨σ4, H4, P4, same, t4⟩ => thnF (hx ▸ ht.run _ s4 σ4 H4 _ P4 t4) fun ok s5 ⟨H5, P5, q5⟩ => ?_
    have le0 : ∀ (j : Nat) v, σ[j]? = some (some v) → σ4[j]? = some (some v) := fun j v e => (wipe_sub (vs1 := []) same (fun _ z => by cases z)) j v (hw.symm ▸ e)
    cases ok with
    | false => exact ⟨rfl, back P5 le0 q5⟩
    | true =>
      have le1 : ∀ (j : Nat) v, σ[j]? = some (some v) → (wipe σ4 vs1)[j]? = some (some v) := fun j v e => wipe_sub same hv j v (hw.symm ▸ e)
      exact (hr D _ s5 σ4 H5 _ P5 q5).mono fun s6 ⟨H6, P6, q6⟩ => ⟨rfl, back P6 le1 q6⟩
theorem rest_for (hx : Y.xe = fun _ _ => False) (hk : gens[k]? = some ⟨tg, iter, ifs, 0⟩) (h1 : ∀ g', gens[k + 1]? = some g' → g'.is_async = 0 ∧ ∀ x, foldedSetIterable g'.iter Y.env x = pure x)
    (hi : Brings Y tg iter wi) (hg : PG Y tg g) (ht : PTs Y ifs tt) (hr : Rest Y elt gens scope pos (k + 1) vs1 r) (hv : ∀ i ∈ vs1, i ∈ vs) : Rest Y elt gens scope pos k vs (rFor wi g tt r vs) := fun D pins s σ H Q I h => by
  unfold Into
  rw [hk]
  refine thn (hx ▸ hi pins s σ H _ I h) fun v s1 z => thn z fun u s2 ⟨it, J, fp, tn, H1, e, G, q, I2, st, f⟩ => ?_
  subst e
  have I3 : Inv Y pins (wipe σ vs) H1 s2 := I2.weak (wipe_length σ vs) fun i v e => (wipe_some e).1
  have go := loop_at (iter := iter) hx hk h1 G hg ht hr hv I3 st f q wipe_idem
  exact comp_start hk rfl go (G.self st go)
/-- the whole: an iterator, a new list, the turns -/
def tDeep (wi : TI) (g : TG) (tt : TT) (r : TR) (vs : List Nat) : TE := fun σ H Q => wi σ H fun J H1 => ∀ D, H1 D = none → rTurns J g tt r vs D (wipe σ vs) (upd H1 D (.lst [])) (Q (.ref D))
/-- the block begins; the pins are told in it too -/
theorem blk_begins {X : Cx} {pins : List (Addr × Obj)} {σ : L2.St} {H : Hp} {s : Shared} {own : List (Str × Nat)} {fp : List Addr} (I : Inv X pins σ H s) (ok : BlkOk X.N X.env.scope scope own) (hN : X.N.Nodup) (hf : ∀ b ∈ fp, FpOk X pins H b ∧ b < s.heap.objs.size) :
    Inv (blkP X s H scope (compEnvC scope (cellsFrom (s.heap.objs.size + 1) scope.names (cloFrom X.env.cells scope.names [])) s.heap.objs.size X.env) fp) [] (wipe σ (own.map (·.2))) H { s with heap := pushCells (s.heap.push { cls := .type "dict", data := .dict #[] }) scope.names } := by
  have B := block_start I ok hN hf
  refine { B with ok := { B.ok with }, pin := fun p hp => ?_ }
  have hp' : p ∈ X.pn := by simpa using hp
  obtain ⟨a, b, c, d, e⟩ := I.pin p (List.mem_append_left _ hp')
  have lt := Heap.lt_size a
  refine ⟨?_, b, Nat.ne_of_lt lt, fun z => ?_, e⟩
  · exact pushCells_keeps _ _ _ _ (Heap.get?_push_of_some _ a)
  · exact (List.mem_cons.mp (I.stkSub _ z)).elim c d
theorem pe_deep {X : Cx} {own : List (Str × Nat)} {rest : List Comprehension} (hN : X.N.Nodup) (hi : Brings X tg iter wi) (ok : BlkOk X.N X.env.scope scope own)
    (hg : ∀ (s : Shared) (H : Hp) (C : Addr) (cl : List (Str × Addr)) (fp : List Addr), PG (blkP X s H scope (compEnvC scope cl C X.env) fp) tg g)
    (ht : ∀ (s : Shared) (H : Hp) (C : Addr) (cl : List (Str × Addr)) (fp : List Addr), PTs (blkP X s H scope (compEnvC scope cl C X.env) fp) ifs tt)
    (hr : ∀ (s : Shared) (H : Hp) (C : Addr) (cl : List (Str × Addr)) (fp : List Addr), Rest (blkP X s H scope (compEnvC scope cl C X.env) fp) elt (⟨tg, iter, ifs, 0⟩ :: rest) scope pos 1 vs1 r)
    (hv : ∀ i ∈ vs1, i ∈ own.map (·.2)) (h1 : ∀ g', rest[0]? = some g' → g'.is_async = 0 ∧ ∀ env x, foldedSetIterable g'.iter env x = pure x) (hs : ∀ x, foldedSetIterable iter X.env x = pure x := by intro _; rfl) :
    PE X (.ListComp elt (⟨tg, iter, ifs, 0⟩ :: rest) scope pos) (tDeep wi g tt r (own.map (·.2))) := by
  refine ⟨fun pins s σ H Q I h => ?_⟩
  have caught : ∀ y ∈ scope.names, y.2 = .free → ∃ c, X.env.cells.lookup y.1 = some c := fun y hy e => I.ok.has _ (ok.free y hy e)
  rw [eval_ListComp]
  refine wpAny_comprehension_free rfl hs (closure_ok caught) ok.kind (fun y hy e => (ok.uniq y hy).trans (congrArg some e)) (thn (hi pins s σ H _ I h) fun v s1 z => thn z fun u s2 ⟨it, J, fp, tn, H1, e, G, q, I2, st, f⟩ => ?_)
  subst e
  have I3 := I2.lnew (ys := []) (its := []) (t' := s2.toks) .nil (Nat.zero_le _)
  refine wpAny_newObj_type (newEnv_comp ?_) (Nat.zero_le _)
  have old : ∀ b ∈ fp, b < s2.heap.objs.size := fun b hb => let ⟨_, e, _⟩ := G.obj st b hb; Heap.lt_size e
  have f3 : ∀ b ∈ fp, FpOk X pins (upd H1 s2.heap.objs.size (.lst [])) b := fun b hb => ⟨(upd_ne (Nat.ne_of_lt (old b hb))).trans (f b hb).1, (f b hb).2⟩
  have B := blk_begins I3 ok hN fun b hb => ⟨f3 b hb, by rw [Heap.size_push]; exact Nat.lt_succ_of_lt (old b hb)⟩
  have fresh := q s2.heap.objs.size I2.fresh
  generalize hs3 : ({ s2 with heap := s2.heap.push { cls := .type "list", data := .seq ([] : List Value).toArray } } : Shared) = s3 at I3 B
  have st3 : tn 0 (pushCells (s3.heap.push { cls := .type "dict", data := .dict #[] }) scope.names) := G.keep st fun b _ o e => pushCells_keeps _ _ _ _ (Heap.get?_push_of_some _ (by rw [← hs3]; exact Heap.get?_push_of_some _ e))
  have G' : Goer (blkP X s3 (upd H1 s2.heap.objs.size (.lst [])) scope (compEnvC scope (cellsFrom (s3.heap.objs.size + 1) scope.names (cloFrom X.env.cells scope.names [])) s3.heap.objs.size X.env) fp) tg J fp it tn := G
  have f4 : ∀ b ∈ fp, FpOk (blkP X s3 (upd H1 s2.heap.objs.size (.lst [])) scope (compEnvC scope (cellsFrom (s3.heap.objs.size + 1) scope.names (cloFrom X.env.cells scope.names [])) s3.heap.objs.size X.env) fp) [] (upd H1 s2.heap.objs.size (.lst [])) b := fun b hb => by
    obtain ⟨a0, a1, a2, a3, a4, a5⟩ := f3 b hb
    refine ⟨a0, (B.ok.exf b hb).1, B.ok.exfs b hb, .inl hb, (B.ok.exf b hb).2, fun p hp => ?_⟩
    exact a5 p (List.mem_append_left _ (by simpa using hp))
  have go := loop_at (elt := elt) (gens := ⟨tg, iter, ifs, 0⟩ :: rest) (pos := pos) (k := 0) (iter := iter) (D := s2.heap.objs.size) rfl rfl (fun g' e => ⟨(h1 g' e).1, (h1 g' e).2 _⟩) G' (hg _ _ _ _ _) (ht _ _ _ _ _) (hr _ _ _ _ _) hv B st3 f4 fresh wipe_idem
  have ended := comp_start rfl rfl go (G'.self st3 go)
  refine codeAny_mono ended fun res s5 ⟨⟨fl, e⟩, H5, I5, q5⟩ => ?_
  subst e
  obtain ⟨m, hm, _⟩ := I5.loc
  refine ⟨m, hm, fun h' sb => ⟨.ref s2.heap.objs.size, H5, ?_, rfl, q5⟩⟩
  obtain ⟨z0, z1, z2, z3, z4, z5⟩ := I3.fpOk (Nat.le_refl _) I5.free
  have I6 : Inv X pins σ H5 s5 := I3.call' I5.os I5.base I5.hok I5.bare fun b hb => ⟨(f3 b hb).2.2.2.1, (f3 b hb).2.1, (f3 b hb).2.2.2.2.1, (f3 b hb).2.2.2.2.2⟩
  exact I6.turned (t' := s5.toks) (fun b o hb e => (sb.2 b hb).trans e) z0 z1 z3 z4 z5
end

/-! ### the text -/
def topS (i : Nat) : Stmt := PySem.Challenge.pw_longyears_k13_whole_lands_by_words.main.body.getD i (.Pass ⟨0, 0, 0, 0⟩)
abbrev s__wall : Stmt := topS 0
abbrev s_is_whole : Stmt := topS 12
abbrev s_is_between : Stmt := topS 13
abbrev s_common_measure : Stmt := topS 14
abbrev s_undoing_factor : Stmt := topS 15
abbrev s_is_land : Stmt := topS 21
abbrev s_need_land : Stmt := topS 22
abbrev s_need_year : Stmt := topS 23
abbrev s_need_years : Stmt := topS 24
abbrev s_need_day : Stmt := topS 25
abbrev s_need_days : Stmt := topS 26
abbrev s_need_place : Stmt := topS 27
abbrev s_step_of : Stmt := topS 28
abbrev s_first_day : Stmt := topS 29
abbrev s_date_of : Stmt := topS 30
abbrev s_added_days : Stmt := topS 31
abbrev s_begin : Stmt := topS 32
abbrev s_date : Stmt := topS 33
abbrev s_is_long : Stmt := topS 34
abbrev s_next_long : Stmt := topS 35
abbrev s_need_week : Stmt := topS 38
abbrev s_need_name : Stmt := topS 39
abbrev s_need_asked : Stmt := topS 40
abbrev s_ring_of : Stmt := topS 41
abbrev s_shared_measure : Stmt := topS 42
abbrev s_cycle_of : Stmt := topS 43
abbrev s_falls : Stmt := topS 44
abbrev s_falling_years : Stmt := topS 45
abbrev s_next_year : Stmt := topS 46
abbrev s_how_many : Stmt := topS 47
abbrev s_lengths : Stmt := topS 48
abbrev s_is_barring : Stmt := topS 49
abbrev s_barring : Stmt := topS 50
abbrev s_bars : Stmt := topS 51
abbrev s_need_places : Stmt := topS 53
abbrev s_placed_days : Stmt := topS 54
abbrev s_shared_step : Stmt := topS 55
abbrev s_round_from : Stmt := topS 56
abbrev s_ends_ahead : Stmt := topS 57
abbrev s_next_day : Stmt := topS 58
abbrev s_days : Stmt := topS 59
abbrev s_is_parting : Stmt := topS 60
abbrev s_parting : Stmt := topS 61
abbrev s_first_parting : Stmt := topS 68
abbrev s_is_seen_year : Stmt := topS 69
abbrev s_is_seen : Stmt := topS 70
abbrev s_need_seen : Stmt := topS 71
abbrev s_need_most : Stmt := topS 72
abbrev s_possible_days : Stmt := topS 73
abbrev s_possible_shifts : Stmt := topS 74
abbrev s_lands_of : Stmt := topS 75
abbrev s_need_realm_place : Stmt := topS 77
abbrev s__law_deck : Stmt := topS 80
abbrev s__law_pick : Stmt := topS 81
abbrev s__law_suns_right : Stmt := topS 82
abbrev s_law : Stmt := topS 83
abbrev s_Realm_init : Stmt := inClass (topS 78) 0
abbrev s_Realm_change : Stmt := inClass (topS 78) 1
abbrev s_Realm_date : Stmt := inClass (topS 78) 3
abbrev s_Realm_days_of : Stmt := inClass (topS 78) 4
abbrev s_Realm_is_later : Stmt := inClass (topS 78) 8
abbrev s_Realm_rules : Stmt := inClass (topS 78) 9
abbrev s_Realm_land_on : Stmt := inClass (topS 78) 10
theorem sc__wall : FnScope ["k"] ["k"] (defScope s__wall) := ⟨rfl, rfl, rfl, by decide +kernel, rfl, by decide +kernel, by decide +kernel⟩
theorem sc_is_whole : FnScope ["thing"] ["thing"] (defScope s_is_whole) := ⟨rfl, rfl, rfl, by decide +kernel, rfl, by decide +kernel, by decide +kernel⟩
theorem sc_is_between : FnScope ["thing", "least", "most"] ["thing", "least", "most"] (defScope s_is_between) := ⟨rfl, rfl, rfl, by decide +kernel, rfl, by decide +kernel, by decide +kernel⟩
theorem sc_common_measure : FnScope ["one", "other"] ["one", "other"] (defScope s_common_measure) := ⟨rfl, rfl, rfl, by decide +kernel, rfl, by decide +kernel, by decide +kernel⟩
theorem sc_undoing_factor : FnScope ["number", "ring", "one", "other", "times_one", "times_other", "whole"] ["number", "ring"] (defScope s_undoing_factor) := ⟨rfl, rfl, rfl, by decide +kernel, rfl, by decide +kernel, by decide +kernel⟩
theorem sc_is_land : FnScope ["thing", "days", "top", "bottom", "shift"] ["thing"] (defScope s_is_land) := ⟨rfl, rfl, rfl, by decide +kernel, rfl, by decide +kernel, by decide +kernel⟩
theorem sc_need_land : FnScope ["thing"] ["thing"] (defScope s_need_land) := ⟨rfl, rfl, rfl, by decide +kernel, rfl, by decide +kernel, by decide +kernel⟩
theorem sc_need_year : FnScope ["thing"] ["thing"] (defScope s_need_year) := ⟨rfl, rfl, rfl, by decide +kernel, rfl, by decide +kernel, by decide +kernel⟩
theorem sc_need_years : FnScope ["first", "last"] ["first", "last"] (defScope s_need_years) := ⟨rfl, rfl, rfl, by decide +kernel, rfl, by decide +kernel, by decide +kernel⟩
theorem sc_need_day : FnScope ["thing"] ["thing"] (defScope s_need_day) := ⟨rfl, rfl, rfl, by decide +kernel, rfl, by decide +kernel, by decide +kernel⟩
theorem sc_need_days : FnScope ["first", "last"] ["first", "last"] (defScope s_need_days) := ⟨rfl, rfl, rfl, by decide +kernel, rfl, by decide +kernel, by decide +kernel⟩
theorem sc_need_place : FnScope ["land", "thing", "days"] ["land", "thing"] (defScope s_need_place) := ⟨rfl, rfl, rfl, by decide +kernel, rfl, by decide +kernel, by decide +kernel⟩
theorem sc_step_of : FnScope ["land", "days", "top", "bottom", "shift"] ["land"] (defScope s_step_of) := ⟨rfl, rfl, rfl, by decide +kernel, rfl, by decide +kernel, by decide +kernel⟩
theorem sc_first_day : FnScope ["land", "year", "days", "top", "bottom", "shift"] ["land", "year"] (defScope s_first_day) := ⟨rfl, rfl, rfl, by decide +kernel, rfl, by decide +kernel, by decide +kernel⟩
theorem sc_date_of : FnScope ["land", "day", "days", "top", "bottom", "shift", "year"] ["land", "day"] (defScope s_date_of) := ⟨rfl, rfl, rfl, by decide +kernel, rfl, by decide +kernel, by decide +kernel⟩
theorem sc_added_days : FnScope ["land", "year", "days", "top", "bottom", "shift"] ["land", "year"] (defScope s_added_days) := ⟨rfl, rfl, rfl, by decide +kernel, rfl, by decide +kernel, by decide +kernel⟩
theorem sc_begin : FnScope ["land", "year"] ["land", "year"] (defScope s_begin) := ⟨rfl, rfl, rfl, by decide +kernel, rfl, by decide +kernel, by decide +kernel⟩
theorem sc_date : FnScope ["land", "day"] ["land", "day"] (defScope s_date) := ⟨rfl, rfl, rfl, by decide +kernel, rfl, by decide +kernel, by decide +kernel⟩
theorem sc_is_long : FnScope ["land", "year"] ["land", "year"] (defScope s_is_long) := ⟨rfl, rfl, rfl, by decide +kernel, rfl, by decide +kernel, by decide +kernel⟩
theorem sc_next_long : FnScope ["land", "year", "days", "top", "bottom", "shift"] ["land", "year"] (defScope s_next_long) := ⟨rfl, rfl, rfl, by decide +kernel, rfl, by decide +kernel, by decide +kernel⟩
theorem sc_need_week : FnScope ["thing"] ["thing"] (defScope s_need_week) := ⟨rfl, rfl, rfl, by decide +kernel, rfl, by decide +kernel, by decide +kernel⟩
theorem sc_need_name : FnScope ["week", "thing"] ["week", "thing"] (defScope s_need_name) := ⟨rfl, rfl, rfl, by decide +kernel, rfl, by decide +kernel, by decide +kernel⟩
theorem sc_need_asked : FnScope ["land", "place", "week", "name"] ["land", "place", "week", "name"] (defScope s_need_asked) := ⟨rfl, rfl, rfl, by decide +kernel, rfl, by decide +kernel, by decide +kernel⟩
theorem sc_ring_of : FnScope ["land", "week", "bottom"] ["land", "week"] (defScope s_ring_of) := ⟨rfl, rfl, rfl, by decide +kernel, rfl, by decide +kernel, by decide +kernel⟩
theorem sc_shared_measure : FnScope ["land", "week"] ["land", "week"] (defScope s_shared_measure) := ⟨rfl, rfl, rfl, by decide +kernel, rfl, by decide +kernel, by decide +kernel⟩
theorem sc_cycle_of : FnScope ["land", "week"] ["land", "week"] (defScope s_cycle_of) := ⟨rfl, rfl, rfl, by decide +kernel, rfl, by decide +kernel, by decide +kernel⟩
theorem sc_falls : FnScope ["land", "place", "week", "name", "year"] ["land", "place", "week", "name", "year"] (defScope s_falls) := ⟨rfl, rfl, rfl, by decide +kernel, rfl, by decide +kernel, by decide +kernel⟩
theorem sc_falling_years : FnScope ["land", "place", "week", "name", "first", "last", "year"] ["land", "place", "week", "name", "first", "last"] (defScope s_falling_years) := ⟨rfl, rfl, rfl, by decide +kernel, rfl, by decide +kernel, by decide +kernel⟩
theorem sc_next_year : FnScope ["land", "place", "week", "name", "year", "later"] ["land", "place", "week", "name", "year"] (defScope s_next_year) := ⟨rfl, rfl, rfl, by decide +kernel, rfl, by decide +kernel, by decide +kernel⟩
theorem sc_how_many : FnScope ["land", "place", "week", "name", "first", "last", "cycle", "cycles", "rest", "in_rest", "in_others"] ["land", "place", "week", "name", "first", "last"] (defScope s_how_many) := ⟨rfl, rfl, rfl, by decide +kernel, rfl, by decide +kernel, by decide +kernel⟩
theorem sc_lengths : FnScope ["land", "place", "week", "name", "cycle", "years", "year", "nexts", "found", "later"] ["land", "place", "week", "name"] (defScope s_lengths) := ⟨rfl, rfl, rfl, by decide +kernel, rfl, by decide +kernel, by decide +kernel⟩
theorem sc_is_barring : FnScope ["land", "place", "week", "name", "measure", "days", "top", "bottom", "shift", "least", "left", "number"] ["land", "place", "week", "name", "measure"] (defScope s_is_barring) := ⟨rfl, rfl, rfl, by decide +kernel, rfl, by decide +kernel, by decide +kernel⟩
theorem sc_barring : FnScope ["land", "place", "week", "name", "measure"] ["land", "place", "week", "name"] (defScope s_barring) := ⟨rfl, rfl, rfl, by decide +kernel, rfl, by decide +kernel, by decide +kernel⟩
theorem sc_bars : FnScope ["land", "place", "week", "name", "thing"] ["land", "place", "week", "name", "thing"] (defScope s_bars) := ⟨rfl, rfl, rfl, by decide +kernel, rfl, by decide +kernel, by decide +kernel⟩
theorem sc_need_places : FnScope ["one", "place_one", "other", "place_other"] ["one", "place_one", "other", "place_other"] (defScope s_need_places) := ⟨rfl, rfl, rfl, by decide +kernel, rfl, by decide +kernel, by decide +kernel⟩
theorem sc_placed_days : FnScope ["land", "place", "bottom", "shift", "step", "least", "number"] ["land", "place"] (defScope s_placed_days) := ⟨rfl, rfl, rfl, by decide +kernel, rfl, by decide +kernel, by decide +kernel⟩
theorem sc_shared_step : FnScope ["one", "other"] ["one", "other"] (defScope s_shared_step) := ⟨rfl, rfl, rfl, by decide +kernel, rfl, by decide +kernel, by decide +kernel⟩
theorem sc_round_from : FnScope ["one", "place_one", "other", "place_other", "day", "shared", "step_one", "steps", "again", "lead", "row", "starts", "ends", "later_ends", "one_day", "other_day", "end"] ["one", "place_one", "other", "place_other", "day"] (defScope s_round_from) := ⟨rfl, rfl, rfl, by decide +kernel, rfl, by decide +kernel, by decide +kernel⟩
theorem sc_ends_ahead : FnScope ["starts", "ends", "ahead", "at", "start"] ["starts", "ends"] (defScope s_ends_ahead) := ⟨rfl, rfl, rfl, by decide +kernel, rfl, by decide +kernel, by decide +kernel⟩
theorem sc_next_day : FnScope ["one", "place_one", "other", "place_other", "day", "again", "starts", "ends", "nearest", "start", "at"] ["one", "place_one", "other", "place_other", "day"] (defScope s_next_day) := ⟨rfl, rfl, rfl, by decide +kernel, rfl, by decide +kernel, by decide +kernel⟩
theorem sc_days : FnScope ["one", "place_one", "other", "place_other", "first", "last", "again", "starts", "ends", "rounds", "rest", "ahead", "in_round", "in_rest", "start"] ["one", "place_one", "other", "place_other", "first", "last"] (defScope s_days) := ⟨rfl, rfl, rfl, by decide +kernel, rfl, by decide +kernel, by decide +kernel⟩
theorem sc_is_parting : FnScope ["one", "place_one", "other", "place_other", "number", "left", "day"] ["one", "place_one", "other", "place_other", "number"] (defScope s_is_parting) := ⟨rfl, rfl, rfl, by decide +kernel, rfl, by decide +kernel, by decide +kernel⟩
theorem sc_parting : FnScope ["one", "place_one", "other", "place_other", "number"] ["one", "place_one", "other", "place_other"] (defScope s_parting) := ⟨rfl, rfl, rfl, by decide +kernel, rfl, by decide +kernel, by decide +kernel⟩
theorem sc_first_parting : FnScope ["one", "other", "year"] ["one", "other"] (defScope s_first_parting) := ⟨rfl, rfl, rfl, by decide +kernel, rfl, by decide +kernel, by decide +kernel⟩
theorem sc_is_seen_year : FnScope ["thing", "year", "day"] ["thing"] (defScope s_is_seen_year) := ⟨rfl, rfl, rfl, by decide +kernel, rfl, by decide +kernel, by decide +kernel⟩
theorem sc_is_seen : FnScope ["thing", "pair", "later"] ["thing"] (defScope s_is_seen) := ⟨rfl, rfl, rfl, by decide +kernel, rfl, by decide +kernel, by decide +kernel⟩
theorem sc_need_seen : FnScope ["thing"] ["thing"] (defScope s_need_seen) := ⟨rfl, rfl, rfl, by decide +kernel, rfl, by decide +kernel, by decide +kernel⟩
theorem sc_need_most : FnScope ["thing"] ["thing"] (defScope s_need_most) := ⟨rfl, rfl, rfl, by decide +kernel, rfl, by decide +kernel, by decide +kernel⟩
theorem sc_possible_days : FnScope ["seen", "year", "day", "last_year", "last_day", "most", "number"] ["seen"] (defScope s_possible_days) := ⟨rfl, rfl, rfl, by decide +kernel, rfl, by decide +kernel, by decide +kernel⟩
theorem sc_possible_shifts : FnScope ["seen", "days", "top", "bottom", "step", "leasts", "year", "day"] ["seen", "days", "top", "bottom"] (defScope s_possible_shifts) := ⟨rfl, rfl, rfl, by decide +kernel, rfl, by decide +kernel, by decide +kernel⟩
theorem sc_lands_of : FnScope ["seen", "most", "days", "bottom", "top", "shift"] ["seen", "most"] (defScope s_lands_of) := ⟨rfl, rfl, rfl, by decide +kernel, rfl, by decide +kernel, by decide +kernel⟩
theorem sc_need_realm_place : FnScope ["thing"] ["thing"] (defScope s_need_realm_place) := ⟨rfl, rfl, rfl, by decide +kernel, rfl, by decide +kernel, by decide +kernel⟩
theorem sc__law_deck : FnScope ["cell", "turn"] ["cell", "turn"] (defScope s__law_deck) := ⟨rfl, rfl, rfl, by decide +kernel, rfl, by decide +kernel, by decide +kernel⟩
theorem sc__law_pick : FnScope ["deck", "size", "found", "number"] ["deck", "size"] (defScope s__law_pick) := ⟨rfl, rfl, rfl, by decide +kernel, rfl, by decide +kernel, by decide +kernel⟩
theorem sc__law_suns_right : FnScope ["sun", "moon", "even", "seven", "twice", "year"] ["sun", "moon"] (defScope s__law_suns_right) := ⟨rfl, rfl, rfl, by decide +kernel, rfl, by decide +kernel, by decide +kernel⟩
theorem sc_law : FnScope ["script", "sun", "moon", "cell", "deck", "days_so_", "plain", "realm", "year", "day"] ["script"] (defScope s_law) := ⟨rfl, rfl, rfl, by decide +kernel, rfl, by decide +kernel, by decide +kernel⟩
theorem sc_Realm_init : FnScope ["self", "land"] ["self", "land"] (defScope s_Realm_init) := ⟨rfl, rfl, rfl, by decide +kernel, rfl, by decide +kernel, by decide +kernel⟩
theorem sc_Realm_change : FnScope ["self", "day", "land"] ["self", "day", "land"] (defScope s_Realm_change) := ⟨rfl, rfl, rfl, by decide +kernel, rfl, by decide +kernel, by decide +kernel⟩
theorem sc_Realm_date : FnScope ["self", "day"] ["self", "day"] (defScope s_Realm_date) := ⟨rfl, rfl, rfl, by decide +kernel, rfl, by decide +kernel, by decide +kernel⟩
theorem sc_Realm_days_of : FnScope ["self", "year", "place", "found", "at", "pair", "land", "day"] ["self", "year", "place"] (defScope s_Realm_days_of) := ⟨rfl, rfl, rfl, by decide +kernel, rfl, by decide +kernel, by decide +kernel⟩
theorem sc_Realm_is_later : FnScope ["self", "day", "start"] ["self", "day"] (defScope s_Realm_is_later) := ⟨rfl, rfl, rfl, by decide +kernel, rfl, by decide +kernel, by decide +kernel⟩
theorem sc_Realm_rules : FnScope ["self", "at", "day", "start"] ["self", "at", "day"] (defScope s_Realm_rules) := ⟨rfl, rfl, rfl, by decide +kernel, rfl, by decide +kernel, by decide +kernel⟩
theorem sc_Realm_land_on : FnScope ["self", "day", "found", "start", "land"] ["self", "day"] (defScope s_Realm_land_on) := ⟨rfl, rfl, rfl, by decide +kernel, rfl, by decide +kernel, by decide +kernel⟩
structure DefAt (K : PySem.W.Frag) (mg : Str → Option Value) (x : Str) (st : Stmt) (ps : List Str) where
  f : Addr
  fd : FuncData
  F : Fun K x x st f fd
  b : Binds K fd ps []
  g : mg x = some (.ref f)
structure MethAt (K : PySem.W.Frag) (C : Addr) (m q : Str) (st : Stmt) (ps : List Str) where
  f : Addr
  fd : FuncData
  F : Fun K m q st f fd
  b : Binds K fd ps []
  m : Meth K C m f
structure Txt (K : PySem.W.Frag) (mg : Str → Option Value) where
  C_Realm : Addr
  cl_Realm : Cls K C_Realm
  g_Realm : mg "Realm" = some (.ref C_Realm)
  n_Realm_pairs : NoAttr K C_Realm "pairs"
  Realm_init : MethAt K C_Realm "__init__" "Realm.__init__" s_Realm_init ["self", "land"]
  mk_Realm : Mk K C_Realm Realm_init.f
  Realm_change : MethAt K C_Realm "change" "Realm.change" s_Realm_change ["self", "day", "land"]
  Realm_date : MethAt K C_Realm "date" "Realm.date" s_Realm_date ["self", "day"]
  Realm_days_of : MethAt K C_Realm "days_of" "Realm.days_of" s_Realm_days_of ["self", "year", "place"]
  Realm_is_later : MethAt K C_Realm "is_later" "Realm.is_later" s_Realm_is_later ["self", "day"]
  Realm_rules : MethAt K C_Realm "rules" "Realm.rules" s_Realm_rules ["self", "at", "day"]
  Realm_land_on : MethAt K C_Realm "land_on" "Realm.land_on" s_Realm_land_on ["self", "day"]
  _wall : DefAt K mg "_wall" s__wall ["k"]
  is_whole : DefAt K mg "is_whole" s_is_whole ["thing"]
  is_between : DefAt K mg "is_between" s_is_between ["thing", "least", "most"]
  common_measure : DefAt K mg "common_measure" s_common_measure ["one", "other"]
  undoing_factor : DefAt K mg "undoing_factor" s_undoing_factor ["number", "ring"]
  is_land : DefAt K mg "is_land" s_is_land ["thing"]
  need_land : DefAt K mg "need_land" s_need_land ["thing"]
  need_year : DefAt K mg "need_year" s_need_year ["thing"]
  need_years : DefAt K mg "need_years" s_need_years ["first", "last"]
  need_day : DefAt K mg "need_day" s_need_day ["thing"]
  need_days : DefAt K mg "need_days" s_need_days ["first", "last"]
  need_place : DefAt K mg "need_place" s_need_place ["land", "thing"]
  step_of : DefAt K mg "step_of" s_step_of ["land"]
  first_day : DefAt K mg "first_day" s_first_day ["land", "year"]
  date_of : DefAt K mg "date_of" s_date_of ["land", "day"]
  added_days : DefAt K mg "added_days" s_added_days ["land", "year"]
  begin : DefAt K mg "begin" s_begin ["land", "year"]
  date : DefAt K mg "date" s_date ["land", "day"]
  is_long : DefAt K mg "is_long" s_is_long ["land", "year"]
  next_long : DefAt K mg "next_long" s_next_long ["land", "year"]
  need_week : DefAt K mg "need_week" s_need_week ["thing"]
  need_name : DefAt K mg "need_name" s_need_name ["week", "thing"]
  need_asked : DefAt K mg "need_asked" s_need_asked ["land", "place", "week", "name"]
  ring_of : DefAt K mg "ring_of" s_ring_of ["land", "week"]
  shared_measure : DefAt K mg "shared_measure" s_shared_measure ["land", "week"]
  cycle_of : DefAt K mg "cycle_of" s_cycle_of ["land", "week"]
  falls : DefAt K mg "falls" s_falls ["land", "place", "week", "name", "year"]
  falling_years : DefAt K mg "falling_years" s_falling_years ["land", "place", "week", "name", "first", "last"]
  next_year : DefAt K mg "next_year" s_next_year ["land", "place", "week", "name", "year"]
  how_many : DefAt K mg "how_many" s_how_many ["land", "place", "week", "name", "first", "last"]
  lengths : DefAt K mg "lengths" s_lengths ["land", "place", "week", "name"]
  is_barring : DefAt K mg "is_barring" s_is_barring ["land", "place", "week", "name", "measure"]
  barring : DefAt K mg "barring" s_barring ["land", "place", "week", "name"]
  bars : DefAt K mg "bars" s_bars ["land", "place", "week", "name", "thing"]
  need_places : DefAt K mg "need_places" s_need_places ["one", "place_one", "other", "place_other"]
  placed_days : DefAt K mg "placed_days" s_placed_days ["land", "place"]
  shared_step : DefAt K mg "shared_step" s_shared_step ["one", "other"]
  round_from : DefAt K mg "round_from" s_round_from ["one", "place_one", "other", "place_other", "day"]
  ends_ahead : DefAt K mg "ends_ahead" s_ends_ahead ["starts", "ends"]
  next_day : DefAt K mg "next_day" s_next_day ["one", "place_one", "other", "place_other", "day"]
  days : DefAt K mg "days" s_days ["one", "place_one", "other", "place_other", "first", "last"]
  is_parting : DefAt K mg "is_parting" s_is_parting ["one", "place_one", "other", "place_other", "number"]
  parting : DefAt K mg "parting" s_parting ["one", "place_one", "other", "place_other"]
  first_parting : DefAt K mg "first_parting" s_first_parting ["one", "other"]
  is_seen_year : DefAt K mg "is_seen_year" s_is_seen_year ["thing"]
  is_seen : DefAt K mg "is_seen" s_is_seen ["thing"]
  need_seen : DefAt K mg "need_seen" s_need_seen ["thing"]
  need_most : DefAt K mg "need_most" s_need_most ["thing"]
  possible_days : DefAt K mg "possible_days" s_possible_days ["seen"]
  possible_shifts : DefAt K mg "possible_shifts" s_possible_shifts ["seen", "days", "top", "bottom"]
  lands_of : DefAt K mg "lands_of" s_lands_of ["seen", "most"]
  need_realm_place : DefAt K mg "need_realm_place" s_need_realm_place ["thing"]
  _law_deck : DefAt K mg "_law_deck" s__law_deck ["cell", "turn"]
  _law_pick : DefAt K mg "_law_pick" s__law_pick ["deck", "size"]
  _law_suns_right : DefAt K mg "_law_suns_right" s__law_suns_right ["sun", "moon"]
  t_MOST_DAYS : Tok
  c_MOST_DAYS : mg "MOST_DAYS" = some (.int 400 t_MOST_DAYS)
  t_MOST_BOTTOM : Tok
  c_MOST_BOTTOM : mg "MOST_BOTTOM" = some (.int 60 t_MOST_BOTTOM)
  t_MOST_SHIFT : Tok
  c_MOST_SHIFT : mg "MOST_SHIFT" = some (.int 1000000 t_MOST_SHIFT)
  t_FARTHEST : Tok
  c_FARTHEST : mg "FARTHEST" = some (.int 1000000000000000000000000000000 t_FARTHEST)
  t_LONGEST_WEEK : Tok
  c_LONGEST_WEEK : mg "LONGEST_WEEK" = some (.int 20 t_LONGEST_WEEK)
  t_FEWEST_SEEN : Tok
  c_FEWEST_SEEN : mg "FEWEST_SEEN" = some (.int 2 t_FEWEST_SEEN)
  t_MOST_SEEN : Tok
  c_MOST_SEEN : mg "MOST_SEEN" = some (.int 6 t_MOST_SEEN)
  t_FARTHEST_SEEN_YEAR : Tok
  c_FARTHEST_SEEN_YEAR : mg "FARTHEST_SEEN_YEAR" = some (.int 10000 t_FARTHEST_SEEN_YEAR)
  t_FARTHEST_SEEN_DAY : Tok
  c_FARTHEST_SEEN_DAY : mg "FARTHEST_SEEN_DAY" = some (.int 1000000 t_FARTHEST_SEEN_DAY)
  t_MOST_TOLD_BOTTOM : Tok
  c_MOST_TOLD_BOTTOM : mg "MOST_TOLD_BOTTOM" = some (.int 12 t_MOST_TOLD_BOTTOM)
  isinstance : mg "isinstance" = none
  b_int : mg "int" = none
  b_bool : mg "bool" = none
  tuple : mg "tuple" = none
  len : mg "len" = none
  range : mg "range" = none
  divmod : mg "divmod" = none
  zip : mg "zip" = none
  sorted : mg "sorted" = none
  min : mg "min" = none
  sum : mg "sum" = none
  any : mg "any" = none
  all : mg "all" = none
  b_list : mg "list" = none
  max : mg "max" = none
  enumerate : mg "enumerate" = none
  ValueError : mg "ValueError" = none

/-! ### things: plain data by kinds -/
inductive Kd where
  | non | bl | int | str | lst | tup
def Kd.nm : Kd → String
  | .non => "NoneType" | .bl => "bool" | .int => "int" | .str => "str" | .lst => "list" | .tup => "tuple"
inductive Dat (H : Hp) : V → Kd → Prop where
  | non : Dat H .non .non
  | bl (b : Bool) : Dat H (.bl b) .bl
  | int (i : Int) : Dat H (.int i) .int
  | str (x : Str) : Dat H (.str x) .str
  | lst {a : Addr} {xs : List V} (h : H a = some (.lst xs)) : Dat H (.ref a) .lst
  | tup {a : Addr} {xs : List V} (h : H a = some (.tup xs)) : Dat H (.ref a) .tup
theorem Dat.ty {K : PySem.W.Frag} {H : Hp} {x : V} {t : Kd} (d : Dat H x t) : TyX K H x (.type t.nm) := by
  cases d with
  | non => exact .base .non
  | bl b => exact .base (.bl b)
  | int i => exact .base (.int i)
  | str x => exact .base (.str x)
  | lst h => exact .base (.lst h)
  | tup h => exact .base (.tup h)
theorem Dat.ex {H H' : Hp} {x : V} {t : Kd} (e : Ex H H') (d : Dat H x t) : Dat H' x t := by
  cases d with
  | non => exact .non
  | bl b => exact .bl b
  | int i => exact .int i
  | str x => exact .str x
  | lst h => exact .lst (e _ _ h)
  | tup h => exact .tup (e _ _ h)
/-- isinstance among these kinds -/
def Kd.isa : Kd → Kd → Bool
  | .non, .non => true | .bl, .bl => true | .bl, .int => true | .int, .int => true | .str, .str => true | .lst, .lst => true | .tup, .tup => true
  | _, _ => false
theorem kit_kd {K : PySem.W.Frag} (a b : Kd) (hb : b.nm ≠ "NoneType") : PySem.W.kitOne K (.type a.nm) (.type b.nm) = some (a.isa b) := by
  cases b
  case non => exact absurd rfl hb
  all_goals cases a <;> exact kit_ty (by decide +kernel)
def wholeV : V → Bool
  | .int _ => true
  | _ => false
def btw (x : V) (lo hi : Int) : Bool := match x with
  | .int i => decide (lo ≤ i) && decide (i ≤ hi)
  | _ => false
section
variable {P : Program} {w : World} {K : PySem.W.Frag} {mg : Str → Option Value} {base : Heap}
def spWhole : Sp := fun vs H Q _ => ∃ x t, vs = [x] ∧ Dat H x t ∧ RetV (.bl (wholeV x)) H Q
theorem ok_is_whole (T : Txt K mg) {k : Nat} : FnOk P w K mg base CX0 (k + 1) T.is_whole.f T.is_whole.fd ["thing"] spWhole := by
  refine T.is_whole.F.ok sc_is_whole (fun vs H Q E h => ?_) (fun cdv A outer s H vs Q E hr h => ?_)
  · obtain ⟨x, t, rfl, _⟩ := h
    rfl
  · obtain ⟨x, t, rfl, d, q⟩ := h
    have q0 := q H (Ex.refl H)
    refine ⟨_, (pss_one (ps_ret (pe_and (pe_callB call_isi (by rfl) T.isinstance (by decide +kernel) (pa_cons (pv 0) (pa_cons (pe_bltn (v := .ty "int") (by rfl) T.b_int (by decide +kernel) rfl) pa_nil))) (pe_one (pe_not (pe_callB call_isi (by rfl) T.isinstance (by decide +kernel) (pa_cons (pv 0) (pa_cons (pe_bltn (v := .ty "bool") (by rfl) T.b_bool (by decide +kernel) rfl) pa_nil)))))))), ?_⟩
    refine ⟨_, rfl, _, _, _, _, _, rfl, .ty _, d.ty, kit_kd t .int (by decide), _, rfl, ?_⟩
    cases d
    case non => exact iteF q0
    case str => exact iteF q0
    case lst => exact iteF q0
    case tup => exact iteF q0
    case bl b => exact iteT ⟨_, rfl, _, _, _, _, _, rfl, .ty _, Dat.ty (.bl b), kit_kd .bl .bl (by decide), _, rfl, q0⟩
    case int i => exact iteT ⟨_, rfl, _, _, _, _, _, rfl, .ty _, Dat.ty (.int i), kit_kd .int .bl (by decide), _, rfl, q0⟩
def spBetween : Sp := fun vs H Q _ => ∃ x t lo hi, vs = [x, .int lo, .int hi] ∧ Dat H x t ∧ RetV (.bl (btw x lo hi)) H Q
theorem ok_is_between (T : Txt K mg) : FnOk P w K mg base CX0 2 T.is_between.f T.is_between.fd ["thing", "least", "most"] spBetween := by
  have G_is_whole : FnOk P w K mg base CX0 1 T.is_whole.f T.is_whole.fd ["thing"] spWhole := ok_is_whole T
  refine T.is_between.F.ok sc_is_between (fun vs H Q E h => ?_) (fun cdv A outer s H vs Q E hr h => ?_)
  · obtain ⟨x, t, lo, hi, rfl, _⟩ := h
    rfl
  · obtain ⟨x, t, lo, hi, rfl, d, q⟩ := h
    refine ⟨_, (pss_one (ps_ret (pe_and (pe_call G_is_whole (hr.mono (by omega)) (by rfl) T.is_whole.g T.is_whole.F.kp T.is_whole.b .nil pass0 (pa_cons (pv 0) pa_nil)) (pe_one (pe_chain op_le op_le (pv 1) (pv 0) (pv 2)))))), ?_⟩
    refine ⟨_, rfl, x, t, rfl, d, fun H1 e1 => ⟨_, rfl, ?_⟩⟩
    have q1 := q H1 e1
    cases x with
    | int i =>
      refine iteT ⟨_, rfl, _, rfl, _, _, rfl, rfl, _, rfl, ?_⟩
      by_cases h1 : lo ≤ i
      · rw [if_pos (decide_eq_true h1)]
        refine ⟨_, rfl, _, _, rfl, rfl, ?_⟩
        have e : btw (.int i) lo hi = decide (i ≤ hi) := by
          show (decide (lo ≤ i) && decide (i ≤ hi)) = _
          rw [decide_eq_true h1, Bool.true_and]
        rw [e] at q1
        exact q1
      · rw [if_neg (by rw [decide_eq_false h1]; decide)]
        have e : btw (.int i) lo hi = false := by
          show (decide (lo ≤ i) && decide (i ≤ hi)) = _
          rw [decide_eq_false h1, Bool.false_and]
        rw [e] at q1
        exact q1
    | _ => exact iteF q1
end

/-! ### is_land -/
def topB (t b : V) : Bool := match b with
  | .int b' => btw t 0 (b' - 1)
  | _ => false
def landL : List V → Bool
  | [d, t, b, s] => btw d 1 400 && (btw b 1 60 && (topB t b && btw s (-1000000) 1000000))
  | _ => false
def landB (H : Hp) (x : V) : Bool := match x with
  | .ref a => match H a with
    | some (.tup xs) => landL xs
    | _ => false
  | _ => false
theorem landB_tup {H : Hp} {a : Addr} {xs : List V} (h : H a = some (.tup xs)) : landB H (.ref a) = landL xs := by
  show (match H a with | some (.tup xs) => landL xs | _ => false) = _
  rw [h]
theorem landB_lst {H : Hp} {a : Addr} {xs : List V} (h : H a = some (.lst xs)) : landB H (.ref a) = false := by
  show (match H a with | some (.tup xs) => landL xs | _ => false) = _
  rw [h]
/-- all parts of a tuple are plain data -/
def Parts (H : Hp) (x : V) : Prop := ∀ a xs, x = .ref a → H a = some (.tup xs) → ∀ y ∈ xs, ∃ u, Dat H y u
theorem landL_len {xs : List V} (h : xs.length ≠ 4) : landL xs = false := by
  match xs, h with
  | [], _ => rfl
  | [_], _ => rfl
  | [_, _], _ => rfl
  | [_, _, _], _ => rfl
  | [_, _, _, _], h => exact absurd rfl h
  | _ :: _ :: _ :: _ :: _ :: _, _ => rfl
section
variable {P : Program} {w : World} {K : PySem.W.Frag} {mg : Str → Option Value} {base : Heap}
def spIsLand : Sp := fun vs H Q _ => ∃ x t, vs = [x] ∧ Dat H x t ∧ Parts H x ∧ RetV (.bl (landB H x)) H Q
theorem ok_is_land (T : Txt K mg) : FnOk P w K mg base CX0 3 T.is_land.f T.is_land.fd ["thing"] spIsLand := by
  have G_is_between : FnOk P w K mg base CX0 2 T.is_between.f T.is_between.fd ["thing", "least", "most"] spBetween := ok_is_between T
  refine T.is_land.F.ok sc_is_land (fun vs H Q E h => ?_) (fun cdv A outer s H vs Q E hr h => ?_)
  · obtain ⟨x, t, rfl, _⟩ := h
    rfl
  · obtain ⟨x, t, rfl, d, hp, q⟩ := h
    have q0 := q H (Ex.refl H)
    refine ⟨_, (pss_cons (ps_if (PW.pt (pw_or (pt_not (pt_val (pe_callB call_isi (by rfl) T.isinstance (by decide +kernel) (pa_cons (pv 0) (pa_cons (pe_bltn (v := .ty "tuple") (by rfl) T.tuple (by decide +kernel) rfl) pa_nil))))) (pw_or1 (pt_cmpR op_ne (pe_callB call_len_seq (by rfl) T.len (by decide +kernel) (pa_cons (pv 0) pa_nil)) pe_int (nomark _)))))
        (pss_one (ps_ret pe_bl))
        pss_nil)
      (pss_cons (ps_asg (pv 0) (pg_tup rfl (pgs_cons (pg_name (i := 1) sc_is_land.nd rfl (Or.inl rfl)) (pgs_cons (pg_name (i := 2) sc_is_land.nd rfl (Or.inl rfl)) (pgs_cons (pg_name (i := 3) sc_is_land.nd rfl (Or.inl rfl)) (pgs_cons (pg_name (i := 4) sc_is_land.nd rfl (Or.inl rfl)) pgs_nil))))))
      (pss_one (ps_ret (pe_and (pe_call G_is_between (hr.mono (by omega)) (by rfl) T.is_between.g T.is_between.F.kp T.is_between.b .nil pass0 (pa_cons (pv 1) (pa_cons pe_int (pa_cons (pe_glob (v := .int 400) rfl T.c_MOST_DAYS ⟨_, rfl⟩) pa_nil)))) (pe_and (pe_call G_is_between (hr.mono (by omega)) (by rfl) T.is_between.g T.is_between.F.kp T.is_between.b .nil pass0 (pa_cons (pv 3) (pa_cons pe_int (pa_cons (pe_glob (v := .int 60) rfl T.c_MOST_BOTTOM ⟨_, rfl⟩) pa_nil)))) (pe_and (pe_call G_is_between (hr.mono (by omega)) (by rfl) T.is_between.g T.is_between.F.kp T.is_between.b .nil pass0 (pa_cons (pv 2) (pa_cons pe_int (pa_cons (pe_op op_sub (pv 3) pe_int) pa_nil)))) (pe_one (pe_call G_is_between (hr.mono (by omega)) (by rfl) T.is_between.g T.is_between.F.kp T.is_between.b .nil pass0 (pa_cons (pv 4) (pa_cons (pe_un un_neg (pe_glob (v := .int 1000000) rfl T.c_MOST_SHIFT ⟨_, rfl⟩)) (pa_cons (pe_glob (v := .int 1000000) rfl T.c_MOST_SHIFT ⟨_, rfl⟩) pa_nil)))))))))))), ?_⟩
    refine ⟨_, rfl, _, _, _, _, _, rfl, .ty _, d.ty, kit_kd t .tup (by decide), _, rfl, ?_⟩
    cases d
    case non => exact iteT (iteT q0)
    case bl => exact iteT (iteT q0)
    case int => exact iteT (iteT q0)
    case str => exact iteT (iteT q0)
    case lst h =>
      rw [landB_lst h] at q0
      exact iteT (iteT q0)
    case tup a xs h =>
      refine iteF ⟨_, rfl, a, xs, rfl, .inr (st_of h), rfl, _, rfl, ite2 (fun e => ?_) (fun e => ?_)⟩
      · have hl : xs.length ≠ 4 := fun z => by
          rw [z] at e
          exact absurd e (by decide)
        rw [landB_tup h, landL_len hl] at q0
        exact q0
      · have hl : xs.length = 4 := by
          have e2 := Bool.eq_false_iff.mpr e
          have e3 := of_decide_eq_true (by simpa using e2 : decide (V.int (xs.length : Int) = V.int 4) = true)
          have := V.int.inj e3
          omega
        obtain ⟨dd, tt, bb, ss, rfl⟩ : ∃ d t b s, xs = [d, t, b, s] := by
          match xs, hl with
          | [d, t, b, s], _ => exact ⟨d, t, b, s, rfl⟩
        have hd := hp a _ rfl h
        obtain ⟨kd, dd'⟩ := hd dd (by simp)
        obtain ⟨kt, dt'⟩ := hd tt (by simp)
        obtain ⟨kb, db'⟩ := hd bb (by simp)
        obtain ⟨ks, ds'⟩ := hd ss (by simp)
        have q1 : ∀ H1, Ex H H1 → Q (.bl (btw dd 1 400 && (btw bb 1 60 && (topB tt bb && btw ss (-1000000) 1000000)))) H1 := fun H1 e1 => by
          have z := q H1 e1
          rw [landB_tup h] at z
          exact z
        refine ⟨.ref a, rfl, a, _, rfl, st_of h, rfl, dd, _, rfl, tt, _, rfl, bb, _, rfl, ss, _, rfl, rfl, ?_⟩
        refine ⟨dd, rfl, dd, kd, 1, 400, rfl, dd', fun H1 e1 => ⟨_, rfl, ?_⟩⟩
        cases c1 : btw dd 1 400 with
        | false =>
          have z := q1 H1 e1
          rw [c1, Bool.false_and] at z
          exact iteF z
        | true =>
        rw [c1, Bool.true_and] at q1
        refine iteT ⟨bb, rfl, bb, kb, 1, 60, rfl, db'.ex e1, fun H2 e2 => ⟨_, rfl, ?_⟩⟩
        have e12 := e1.trans e2
        cases c2 : btw bb 1 60 with
        | false =>
          have z := q1 H2 e12
          rw [c2, Bool.false_and] at z
          exact iteF z
        | true =>
        rw [c2, Bool.true_and] at q1
        match bb, c2 with
        | .int b', c2 =>
        refine iteT ⟨tt, rfl, .int b', rfl, b', 1, rfl, rfl, tt, kt, 0, b' - 1, rfl, dt'.ex e12, fun H3 e3 => ⟨_, rfl, ?_⟩⟩
        have e123 := e12.trans e3
        cases c3 : btw tt 0 (b' - 1) with
        | false =>
          have z := q1 H3 e123
          rw [show topB tt (V.int b') = btw tt 0 (b' - 1) from rfl, c3, Bool.false_and] at z
          exact iteF z
        | true =>
          refine iteT ⟨ss, rfl, 1000000, rfl, ss, ks, -1000000, 1000000, rfl, ds'.ex e123, fun H4 e4 => ?_⟩
          have z := q1 H4 (e123.trans e4)
          rw [show topB tt (V.int b') = btw tt 0 (b' - 1) from rfl, c3, Bool.true_and] at z
          exact z
end

/-! ### a land at a value -/
def Land (H : Hp) (v : V) (D T B S : Int) : Prop := ∃ a, v = .ref a ∧ H a = some (.tup [.int D, .int T, .int B, .int S]) ∧ (1 ≤ D ∧ D ≤ 400) ∧ (0 ≤ T ∧ T < B) ∧ (1 ≤ B ∧ B ≤ 60) ∧ (-1000000 ≤ S ∧ S ≤ 1000000)
theorem Land.ex {H H' : Hp} {v : V} {D T B S : Int} (e : Ex H H') (h : Land H v D T B S) : Land H' v D T B S := by
  obtain ⟨a, rfl, ha, r⟩ := h
  exact ⟨a, rfl, e _ _ ha, r⟩
theorem btw_yes {i lo hi : Int} (h : lo ≤ i ∧ i ≤ hi) : btw (.int i) lo hi = true := by
  show (decide (lo ≤ i) && decide (i ≤ hi)) = true
  rw [decide_eq_true h.1, decide_eq_true h.2]
  rfl
theorem btw_iff {i lo hi : Int} : btw (.int i) lo hi = true ↔ (lo ≤ i ∧ i ≤ hi) := by
  show (decide (lo ≤ i) && decide (i ≤ hi)) = true ↔ _
  rw [Bool.and_eq_true, decide_eq_true_iff, decide_eq_true_iff]
theorem Land.is {H : Hp} {v : V} {D T B S : Int} (h : Land H v D T B S) : landB H v = true := by
  obtain ⟨a, rfl, ha, r1, r2, r3, r4⟩ := h
  rw [landB_tup ha]
  show (btw (.int D) 1 400 && (btw (.int B) 1 60 && (btw (.int T) 0 (B - 1) && btw (.int S) (-1000000) 1000000))) = true
  rw [btw_yes r1, btw_yes r3, btw_yes ⟨r2.1, by omega⟩, btw_yes r4]
  rfl
theorem Land.parts {H : Hp} {v : V} {D T B S : Int} (h : Land H v D T B S) : Parts H v ∧ Dat H v .tup := by
  obtain ⟨a, rfl, ha, _⟩ := h
  refine ⟨fun b xs e hb y hy => ?_, .tup ha⟩
  cases e
  rw [ha] at hb
  cases hb
  simp only [List.mem_cons, List.not_mem_nil, or_false] at hy
  rcases hy with rfl | rfl | rfl | rfl <;> exact ⟨_, .int _⟩
/-- the day on which a year begins; how many days of these are added -/
def fst (D T B S y : Int) : Int := ((D * B + T) * y + S) / B
def add (T B S y : Int) : Int := (T * y + S) / B
def yr (D T B S n : Int) : Int := ((n + 1) * B - S - 1) / (D * B + T)
theorem cm_l {i j : Int} (h : -1000000000 ≤ i ∧ i ≤ 1000000000) : CMul i j := .inl ⟨by omega, by omega⟩
theorem cm_r {i j : Int} (h : -1000000000 ≤ j ∧ j ≤ 1000000000) : CMul i j := .inr ⟨by omega, by omega⟩
theorem step_bd {D T B : Int} (r1 : 1 ≤ D ∧ D ≤ 400) (r2 : 0 ≤ T ∧ T < B) (r3 : 1 ≤ B ∧ B ≤ 60) : 1 ≤ D * B + T ∧ D * B + T ≤ 24060 := by
  have h1 : D * B ≤ 400 * B := Int.mul_le_mul_of_nonneg_right r1.2 (by omega)
  have h2 : 1 * B ≤ D * B := Int.mul_le_mul_of_nonneg_right r1.1 (by omega)
  omega

section
variable {P : Program} {w : World} {K : PySem.W.Frag} {mg : Str → Option Value} {base : Heap}
def spNeedLand : Sp := fun vs H Q _ => ∃ v D T B S, vs = [v] ∧ Land H v D T B S ∧ RetV .non H Q
theorem ok_need_land (T : Txt K mg) : FnOk P w K mg base CX0 4 T.need_land.f T.need_land.fd ["thing"] spNeedLand := by
  have G_is_land : FnOk P w K mg base CX0 3 T.is_land.f T.is_land.fd ["thing"] spIsLand := ok_is_land T
  refine T.need_land.F.ok sc_need_land (fun vs H Q E h => ?_) (fun cdv A outer s H vs Q E hr h => ?_)
  · obtain ⟨x, _, _, _, _, rfl, _⟩ := h
    rfl
  · obtain ⟨x, d, t, b, sh, rfl, hl, q⟩ := h
    refine ⟨_, (pss_one (ps_if (pt_not (pt_val (pe_call G_is_land (hr.mono (by omega)) (by rfl) T.is_land.g T.is_land.F.kp T.is_land.b .nil pass0 (pa_cons (pv 0) pa_nil))))
        (pss_one ps_never)
        pss_nil)), ?_⟩
    refine ⟨_, rfl, x, _, rfl, hl.parts.2, hl.parts.1, fun H1 e1 => ⟨_, rfl, ?_⟩⟩
    rw [hl.is]
    exact iteF (q H1 e1)
def spNum : Sp := fun vs H Q _ => ∃ i : Int, vs = [.int i] ∧ (-1000000000000000000000000000000 ≤ i ∧ i ≤ 1000000000000000000000000000000) ∧ RetV .non H Q
theorem ok_need_year (T : Txt K mg) : FnOk P w K mg base CX0 3 T.need_year.f T.need_year.fd ["thing"] spNum := by
  have G_is_between : FnOk P w K mg base CX0 2 T.is_between.f T.is_between.fd ["thing", "least", "most"] spBetween := ok_is_between T
  refine T.need_year.F.ok sc_need_year (fun vs H Q E h => ?_) (fun cdv A outer s H vs Q E hr h => ?_)
  · obtain ⟨i, rfl, _⟩ := h
    rfl
  · obtain ⟨i, rfl, hb, q⟩ := h
    refine ⟨_, (pss_one (ps_if (pt_not (pt_val (pe_call G_is_between (hr.mono (by omega)) (by rfl) T.is_between.g T.is_between.F.kp T.is_between.b .nil pass0 (pa_cons (pv 0) (pa_cons (pe_un un_neg (pe_glob (v := .int 1000000000000000000000000000000) rfl T.c_FARTHEST ⟨_, rfl⟩)) (pa_cons (pe_glob (v := .int 1000000000000000000000000000000) rfl T.c_FARTHEST ⟨_, rfl⟩) pa_nil))))))
        (pss_one ps_never)
        pss_nil)), ?_⟩
    refine ⟨_, rfl, _, rfl, _, _, _, _, rfl, .int i, fun H1 e1 => ⟨_, rfl, ?_⟩⟩
    rw [btw_yes hb]
    exact iteF (q H1 e1)

theorem ok_need_day (T : Txt K mg) : FnOk P w K mg base CX0 3 T.need_day.f T.need_day.fd ["thing"] spNum := by
  have G_is_between : FnOk P w K mg base CX0 2 T.is_between.f T.is_between.fd ["thing", "least", "most"] spBetween := ok_is_between T
  refine T.need_day.F.ok sc_need_day (fun vs H Q E h => ?_) (fun cdv A outer s H vs Q E hr h => ?_)
  · obtain ⟨i, rfl, _⟩ := h
    rfl
  · obtain ⟨i, rfl, hb, q⟩ := h
    refine ⟨_, (pss_one (ps_if (pt_not (pt_val (pe_call G_is_between (hr.mono (by omega)) (by rfl) T.is_between.g T.is_between.F.kp T.is_between.b .nil pass0 (pa_cons (pv 0) (pa_cons (pe_un un_neg (pe_glob (v := .int 1000000000000000000000000000000) rfl T.c_FARTHEST ⟨_, rfl⟩)) (pa_cons (pe_glob (v := .int 1000000000000000000000000000000) rfl T.c_FARTHEST ⟨_, rfl⟩) pa_nil))))))
        (pss_one ps_never)
        pss_nil)), ?_⟩
    refine ⟨_, rfl, _, rfl, _, _, _, _, rfl, .int i, fun H1 e1 => ⟨_, rfl, ?_⟩⟩
    rw [btw_yes hb]
    exact iteF (q H1 e1)

def spStep : Sp := fun vs H Q _ => ∃ v D T B S, vs = [v] ∧ Land H v D T B S ∧ RetV (.int (D * B + T)) H Q
theorem ok_step_of (T : Txt K mg) : FnOk P w K mg base CX0 1 T.step_of.f T.step_of.fd ["land"] spStep := by
  refine T.step_of.F.ok sc_step_of (fun vs H Q E h => ?_) (fun cdv A outer s H vs Q E hr h => ?_)
  · obtain ⟨x, _, _, _, _, rfl, _⟩ := h
    rfl
  · obtain ⟨x, D, T', B, S, rfl, ⟨a, rfl, ha, r1, r2, r3, r4⟩, q⟩ := h
    refine ⟨_, (pss_cons (ps_asg (pv 0) (pg_tup rfl (pgs_cons (pg_name (i := 1) sc_step_of.nd rfl (Or.inl rfl)) (pgs_cons (pg_name (i := 2) sc_step_of.nd rfl (Or.inl rfl)) (pgs_cons (pg_name (i := 3) sc_step_of.nd rfl (Or.inl rfl)) (pgs_cons (pg_name (i := 4) sc_step_of.nd rfl (Or.inl rfl)) pgs_nil))))))
      (pss_one (ps_ret (pe_op op_add (pe_op op_mul (pv 1) (pv 3)) (pv 2))))), ?_⟩
    refine ⟨_, rfl, a, _, rfl, st_of ha, rfl, _, _, rfl, _, _, rfl, _, _, rfl, _, _, rfl, rfl, ?_⟩
    exact ⟨_, rfl, _, rfl, _, _, rfl, rfl, cm_l (by omega), _, rfl, _, _, rfl, rfl, q H (Ex.refl H)⟩
def spFirst : Sp := fun vs H Q _ => ∃ v D T B S y, vs = [v, .int y] ∧ Land H v D T B S ∧ RetV (.int (fst D T B S y)) H Q
theorem ok_first_day (T : Txt K mg) : FnOk P w K mg base CX0 2 T.first_day.f T.first_day.fd ["land", "year"] spFirst := by
  have G_step_of : FnOk P w K mg base CX0 1 T.step_of.f T.step_of.fd ["land"] spStep := ok_step_of T
  refine T.first_day.F.ok sc_first_day (fun vs H Q E h => ?_) (fun cdv A outer s H vs Q E hr h => ?_)
  · obtain ⟨x, _, _, _, _, _, rfl, _⟩ := h
    rfl
  · obtain ⟨x, D, T', B, S, y, rfl, hL, q⟩ := h
    obtain ⟨a, rfl, ha, r1, r2, r3, r4⟩ := id hL
    have hs := step_bd r1 r2 r3
    refine ⟨_, (pss_cons (ps_asg (pv 0) (pg_tup rfl (pgs_cons (pg_name (i := 2) sc_first_day.nd rfl (Or.inl rfl)) (pgs_cons (pg_name (i := 3) sc_first_day.nd rfl (Or.inl rfl)) (pgs_cons (pg_name (i := 4) sc_first_day.nd rfl (Or.inl rfl)) (pgs_cons (pg_name (i := 5) sc_first_day.nd rfl (Or.inl rfl)) pgs_nil))))))
      (pss_one (ps_ret (pe_op op_fdiv (pe_op op_add (pe_op op_mul (pe_call G_step_of (hr.mono (by omega)) (by rfl) T.step_of.g T.step_of.F.kp T.step_of.b .nil pass0 (pa_cons (pv 0) pa_nil)) (pv 1)) (pv 5)) (pv 4))))), ?_⟩
    refine ⟨_, rfl, a, _, rfl, st_of ha, rfl, _, _, rfl, _, _, rfl, _, _, rfl, _, _, rfl, rfl, ?_⟩
    refine ⟨_, rfl, _, D, T', B, S, rfl, hL, fun H1 e1 => ?_⟩
    exact ⟨_, rfl, _, _, rfl, rfl, cm_l (by omega), _, rfl, _, _, rfl, rfl, _, rfl, _, _, rfl, rfl, ⟨by omega, by omega⟩, q H1 e1⟩

def spAdded : Sp := fun vs H Q _ => ∃ v D T B S y, vs = [v, .int y] ∧ Land H v D T B S ∧ RetV (.int (add T B S y)) H Q
theorem ok_added_days (T : Txt K mg) : FnOk P w K mg base CX0 1 T.added_days.f T.added_days.fd ["land", "year"] spAdded := by
  refine T.added_days.F.ok sc_added_days (fun vs H Q E h => ?_) (fun cdv A outer s H vs Q E hr h => ?_)
  · obtain ⟨x, _, _, _, _, _, rfl, _⟩ := h
    rfl
  · obtain ⟨x, D, T', B, S, y, rfl, hL, q⟩ := h
    obtain ⟨a, rfl, ha, r1, r2, r3, r4⟩ := id hL
    refine ⟨_, (pss_cons (ps_asg (pv 0) (pg_tup rfl (pgs_cons (pg_name (i := 2) sc_added_days.nd rfl (Or.inl rfl)) (pgs_cons (pg_name (i := 3) sc_added_days.nd rfl (Or.inl rfl)) (pgs_cons (pg_name (i := 4) sc_added_days.nd rfl (Or.inl rfl)) (pgs_cons (pg_name (i := 5) sc_added_days.nd rfl (Or.inl rfl)) pgs_nil))))))
      (pss_one (ps_ret (pe_op op_fdiv (pe_op op_add (pe_op op_mul (pv 3) (pv 1)) (pv 5)) (pv 4))))), ?_⟩
    refine ⟨_, rfl, a, _, rfl, st_of ha, rfl, _, _, rfl, _, _, rfl, _, _, rfl, _, _, rfl, rfl, ?_⟩
    exact ⟨_, rfl, _, rfl, _, _, rfl, rfl, cm_l (by omega), _, rfl, _, _, rfl, rfl, _, rfl, _, _, rfl, rfl, ⟨by omega, by omega⟩, q H (Ex.refl H)⟩

abbrev Far (i : Int) : Prop := -1000000000000000000000000000000 ≤ i ∧ i ≤ 1000000000000000000000000000000
def spBegin : Sp := fun vs H Q _ => ∃ v D T B S y, vs = [v, .int y] ∧ Land H v D T B S ∧ Far y ∧ RetV (.int (fst D T B S y)) H Q
theorem ok_begin (T : Txt K mg) : FnOk P w K mg base CX0 5 T.begin.f T.begin.fd ["land", "year"] spBegin := by
  have G_need_land : FnOk P w K mg base CX0 4 T.need_land.f T.need_land.fd ["thing"] spNeedLand := ok_need_land T
  have G_need_year : FnOk P w K mg base CX0 3 T.need_year.f T.need_year.fd ["thing"] spNum := ok_need_year T
  have G_first_day : FnOk P w K mg base CX0 2 T.first_day.f T.first_day.fd ["land", "year"] spFirst := ok_first_day T
  refine T.begin.F.ok sc_begin (fun vs H Q E h => ?_) (fun cdv A outer s H vs Q E hr h => ?_)
  · obtain ⟨x, _, _, _, _, _, rfl, _⟩ := h
    rfl
  · obtain ⟨x, D, T', B, S, y, rfl, hL, hy, q⟩ := h
    refine ⟨_, (pss_cons (ps_expr (pe_call G_need_land (hr.mono (by omega)) (by rfl) T.need_land.g T.need_land.F.kp T.need_land.b .nil pass0 (pa_cons (pv 0) pa_nil)))
      (pss_cons (ps_expr (pe_call G_need_year (hr.mono (by omega)) (by rfl) T.need_year.g T.need_year.F.kp T.need_year.b .nil pass0 (pa_cons (pv 1) pa_nil)))
      (pss_one (ps_ret (pe_call G_first_day (hr.mono (by omega)) (by rfl) T.first_day.g T.first_day.F.kp T.first_day.b .nil pass0 (pa_cons (pv 0) (pa_cons (pv 1) pa_nil))))))), ?_⟩
    refine ⟨_, rfl, _, D, T', B, S, rfl, hL, fun H1 e1 => ?_⟩
    refine ⟨_, rfl, y, rfl, hy, fun H2 e2 => ?_⟩
    exact ⟨_, rfl, _, rfl, _, D, T', B, S, y, rfl, hL.ex (e1.trans e2), fun H3 e3 => q H3 ((e1.trans e2).trans e3)⟩
def spDate : Sp := fun vs H Q _ => ∃ v D T B S n, vs = [v, .int n] ∧ Land H v D T B S ∧ Far n ∧
  ∀ p H2, H p = none → Ex H H2 → H2 p = some (.tup [.int (yr D T B S n), .int (n - fst D T B S (yr D T B S n))]) → Q (.ref p) H2
def spDateOf : Sp := fun vs H Q _ => ∃ v D T B S n, vs = [v, .int n] ∧ Land H v D T B S ∧
  ∀ p H2, H p = none → Ex H H2 → H2 p = some (.tup [.int (yr D T B S n), .int (n - fst D T B S (yr D T B S n))]) → Q (.ref p) H2
theorem ok_date_of (T : Txt K mg) : FnOk P w K mg base CX0 3 T.date_of.f T.date_of.fd ["land", "day"] spDateOf := by
  have G_first_day : FnOk P w K mg base CX0 2 T.first_day.f T.first_day.fd ["land", "year"] spFirst := ok_first_day T
  have G_step_of : FnOk P w K mg base CX0 1 T.step_of.f T.step_of.fd ["land"] spStep := ok_step_of T
  refine T.date_of.F.ok sc_date_of (fun vs H Q E h => ?_) (fun cdv A outer s H vs Q E hr h => ?_)
  · obtain ⟨x, _, _, _, _, _, rfl, _⟩ := h
    rfl
  · obtain ⟨x, D, T', B, S, n, rfl, hL, q⟩ := h
    obtain ⟨a, rfl, ha, r1, r2, r3, r4⟩ := id hL
    have hs := step_bd r1 r2 r3
    refine ⟨_, (pss_cons (ps_asg (pv 0) (pg_tup rfl (pgs_cons (pg_name (i := 2) sc_date_of.nd rfl (Or.inl rfl)) (pgs_cons (pg_name (i := 3) sc_date_of.nd rfl (Or.inl rfl)) (pgs_cons (pg_name (i := 4) sc_date_of.nd rfl (Or.inl rfl)) (pgs_cons (pg_name (i := 5) sc_date_of.nd rfl (Or.inl rfl)) pgs_nil))))))
      (pss_cons (ps_set (i := 6) sc_date_of.nd rfl (Or.inl rfl) (pe_op op_fdiv (pe_op op_sub (pe_op op_sub (pe_op op_mul (pe_op op_add (pv 1) pe_int) (pv 4)) (pv 5)) pe_int) (pe_call G_step_of (hr.mono (by omega)) (by rfl) T.step_of.g T.step_of.F.kp T.step_of.b .nil pass0 (pa_cons (pv 0) pa_nil))))
      (pss_one (ps_ret (pe_tup (pa_cons (pv 6) (pa_cons (pe_op op_sub (pv 1) (pe_call G_first_day (hr.mono (by omega)) (by rfl) T.first_day.g T.first_day.F.kp T.first_day.b .nil pass0 (pa_cons (pv 0) (pa_cons (pv 6) pa_nil)))) pa_nil))))))), ?_⟩
    refine ⟨_, rfl, a, _, rfl, st_of ha, rfl, _, _, rfl, _, _, rfl, _, _, rfl, _, _, rfl, rfl, ?_⟩
    refine ⟨_, rfl, _, _, rfl, rfl, _, rfl, _, _, rfl, rfl, cm_r (by omega), _, rfl, _, _, rfl, rfl, _, _, rfl, rfl, ?_⟩
    refine ⟨_, rfl, _, D, T', B, S, rfl, hL, fun H3 e3 => ?_⟩
    refine ⟨_, _, rfl, rfl, ⟨by omega, by omega⟩, ?_⟩
    refine ⟨_, rfl, _, rfl, _, rfl, _, rfl, _, D, T', B, S, yr D T' B S n, rfl, hL.ex e3, fun H4 e4 => ?_⟩
    exact ⟨_, _, rfl, rfl, by show 2 ≤ sizeLine; decide, fun p hp => q p _ (fresh_back (e3.trans e4) hp) ((e3.trans e4).trans (Ex.new hp)) upd_same⟩
theorem ok_date (T : Txt K mg) : FnOk P w K mg base CX0 5 T.date.f T.date.fd ["land", "day"] spDate := by
  have G_need_land : FnOk P w K mg base CX0 4 T.need_land.f T.need_land.fd ["thing"] spNeedLand := ok_need_land T
  have G_need_day : FnOk P w K mg base CX0 3 T.need_day.f T.need_day.fd ["thing"] spNum := ok_need_day T
  have G_date_of : FnOk P w K mg base CX0 3 T.date_of.f T.date_of.fd ["land", "day"] spDateOf := ok_date_of T
  refine T.date.F.ok sc_date (fun vs H Q E h => ?_) (fun cdv A outer s H vs Q E hr h => ?_)
  · obtain ⟨x, _, _, _, _, _, rfl, _⟩ := h
    rfl
  · obtain ⟨x, D, T', B, S, n, rfl, hL, hy, q⟩ := h
    refine ⟨_, (pss_cons (ps_expr (pe_call G_need_land (hr.mono (by omega)) (by rfl) T.need_land.g T.need_land.F.kp T.need_land.b .nil pass0 (pa_cons (pv 0) pa_nil)))
      (pss_cons (ps_expr (pe_call G_need_day (hr.mono (by omega)) (by rfl) T.need_day.g T.need_day.F.kp T.need_day.b .nil pass0 (pa_cons (pv 1) pa_nil)))
      (pss_one (ps_ret (pe_call G_date_of (hr.mono (by omega)) (by rfl) T.date_of.g T.date_of.F.kp T.date_of.b .nil pass0 (pa_cons (pv 0) (pa_cons (pv 1) pa_nil))))))), ?_⟩
    refine ⟨_, rfl, _, D, T', B, S, rfl, hL, fun H1 e1 => ?_⟩
    refine ⟨_, rfl, n, rfl, hy, fun H2 e2 => ?_⟩
    have e12 := e1.trans e2
    exact ⟨_, rfl, _, rfl, _, D, T', B, S, n, rfl, hL.ex e12, fun p H3 np e3 h3 => q p H3 (fresh_back e12 np) (e12.trans e3) h3⟩
def spIsLong : Sp := fun vs H Q _ => ∃ v D T B S y, vs = [v, .int y] ∧ Land H v D T B S ∧ Far y ∧ RetV (.bl (decide (add T B S (y + 1) > add T B S y))) H Q
theorem ok_is_long (T : Txt K mg) : FnOk P w K mg base CX0 5 T.is_long.f T.is_long.fd ["land", "year"] spIsLong := by
  have G_need_land : FnOk P w K mg base CX0 4 T.need_land.f T.need_land.fd ["thing"] spNeedLand := ok_need_land T
  have G_need_year : FnOk P w K mg base CX0 3 T.need_year.f T.need_year.fd ["thing"] spNum := ok_need_year T
  have G_added_days : FnOk P w K mg base CX0 1 T.added_days.f T.added_days.fd ["land", "year"] spAdded := ok_added_days T
  refine T.is_long.F.ok sc_is_long (fun vs H Q E h => ?_) (fun cdv A outer s H vs Q E hr h => ?_)
  · obtain ⟨x, _, _, _, _, _, rfl, _⟩ := h
    rfl
  · obtain ⟨x, D, T', B, S, y, rfl, hL, hy, q⟩ := h
    refine ⟨_, (pss_cons (ps_expr (pe_call G_need_land (hr.mono (by omega)) (by rfl) T.need_land.g T.need_land.F.kp T.need_land.b .nil pass0 (pa_cons (pv 0) pa_nil)))
      (pss_cons (ps_expr (pe_call G_need_year (hr.mono (by omega)) (by rfl) T.need_year.g T.need_year.F.kp T.need_year.b .nil pass0 (pa_cons (pv 1) pa_nil)))
      (pss_one (ps_ret (pe_cmpR op_gt (pe_call G_added_days (hr.mono (by omega)) (by rfl) T.added_days.g T.added_days.F.kp T.added_days.b .nil pass0 (pa_cons (pv 0) (pa_cons (pe_op op_add (pv 1) pe_int) pa_nil))) (pe_call G_added_days (hr.mono (by omega)) (by rfl) T.added_days.g T.added_days.F.kp T.added_days.b .nil pass0 (pa_cons (pv 0) (pa_cons (pv 1) pa_nil))) (nomark _)))))), ?_⟩
    refine ⟨_, rfl, _, D, T', B, S, rfl, hL, fun H1 e1 => ?_⟩
    refine ⟨_, rfl, y, rfl, hy, fun H2 e2 => ?_⟩
    have e12 := e1.trans e2
    refine ⟨_, rfl, _, rfl, _, _, rfl, rfl, _, D, T', B, S, y + 1, rfl, hL.ex e12, fun H3 e3 => ?_⟩
    have e13 := e12.trans e3
    refine ⟨_, rfl, _, rfl, _, D, T', B, S, y, rfl, hL.ex e13, fun H4 e4 => ?_⟩
    exact ⟨_, _, rfl, rfl, q H4 (e13.trans e4)⟩

end

/-! ### the deck -/
def Dk (n : Nat) (H : Hp) (d : Addr) : Prop := ∃ x y z : Int, H d = some (.lst [.int x, .int y, .int z]) ∧ (0 ≤ y ∧ y < 2147483579) ∧ (0 ≤ z ∧ z ≤ (n : Int))
/-- all but the deck stands as it stood -/
def ExD (d : Addr) (H H' : Hp) : Prop := ∀ a o, a ≠ d → H a = some o → H' a = some o
theorem ExD.refl {d : Addr} {H : Hp} : ExD d H H := fun _ _ _ h => h
theorem ExD.trans {d : Addr} {H H1 H2 : Hp} (a : ExD d H H1) (b : ExD d H1 H2) : ExD d H H2 := fun x o n h => b x o n (a x o n h)
theorem ExD.of {d : Addr} {H H' : Hp} (e : Ex H H') : ExD d H H' := fun a o _ h => e a o h
theorem ExD.upd {d : Addr} {H : Hp} {o : HO} : ExD d H (upd H d o) := fun a u n h => by
  rw [upd_ne n]
  exact h
theorem Dk.ex {n : Nat} {H H' : Hp} {d : Addr} (e : Ex H H') (h : Dk n H d) : Dk n H' d := by
  obtain ⟨x, y, z, hd, r⟩ := h
  exact ⟨x, y, z, e _ _ hd, r⟩
theorem Dk.ne_tup {n : Nat} {H : Hp} {d a : Addr} {xs : List V} (h : Dk n H d) (ha : H a = some (.tup xs)) : a ≠ d := by
  obtain ⟨x, y, z, hd, r⟩ := h
  exact ne_of ha hd (fun z => by cases z)
theorem ExD.tup {n : Nat} {H H' : Hp} {d a : Addr} {xs : List V} (e : ExD d H H') (h : Dk n H d) (ha : H a = some (.tup xs)) : H' a = some (.tup xs) := e _ _ (h.ne_tup ha) ha
theorem ExD.land {n : Nat} {H H' : Hp} {d : Addr} {v : V} {D T B S : Int} (e : ExD d H H') (h : Dk n H d) (hl : Land H v D T B S) : Land H' v D T B S := by
  obtain ⟨a, rfl, ha, r⟩ := hl
  exact ⟨a, rfl, e.tup h ha, r⟩
/-- new addresses are new -/
theorem ExD.fresh {n : Nat} {d : Addr} {H H' : Hp} {p : Addr} (e : ExD d H H') (hd : Dk n H' d) (h : H' p = none) : H p = none := by
  cases q : H p with
  | none => rfl
  | some o =>
    by_cases hp : p = d
    · obtain ⟨x, y, z, h1, _⟩ := hd
      rw [hp, h1] at h
      cases h
    · rw [e _ _ hp q] at h
      cases h
section
variable {P : Program} {w : World} {K : PySem.W.Frag} {mg : Str → Option Value} {base : Heap}
def spDeck : Sp := fun vs H Q _ => ∃ (c : Int) (n : Nat), vs = [.int c, .int n] ∧ ∀ p H2, H p = none → Ex H H2 → Dk n H2 p → Q (.ref p) H2
theorem ok__law_deck (T : Txt K mg) : FnOk P w K mg base CX0 1 T._law_deck.f T._law_deck.fd ["cell", "turn"] spDeck := by
  refine T._law_deck.F.ok sc__law_deck (fun vs H Q E h => ?_) (fun cdv A outer s H vs Q E hr h => ?_)
  · obtain ⟨c, n, rfl, _⟩ := h
    rfl
  · obtain ⟨c, n, rfl, q⟩ := h
    have hm := Int.emod_nonneg c (show (2147483579 : Int) ≠ 0 by decide)
    have hm2 := Int.emod_lt_of_pos c (show (0 : Int) < 2147483579 by decide)
    refine ⟨_, (pss_cons (ps_if (pt_cmpR op_ge (pv 0) (pe_op op_pow pe_int pe_int) (nomark _))
        (pss_one (ps_ret (pe_lst (pa_cons (pe_op op_sub (pv 0) (pe_op op_pow pe_int pe_int)) (pa_cons (pe_op op_mod (pv 0) pe_int) (pa_cons (pv 1) pa_nil))))))
        pss_nil)
      (pss_one (ps_ret (pe_lst (pa_cons pe_int (pa_cons (pe_op op_mod (pv 0) pe_int) (pa_cons (pv 1) pa_nil))))))), ?_⟩
    refine ⟨_, rfl, _, _, rfl, rfl, ⟨by decide, by decide, by decide⟩, _, _, rfl, rfl, _, rfl, ite2 (fun e => ?_) (fun e => ?_)⟩
    · refine ⟨_, rfl, _, _, rfl, rfl, ⟨by decide, by decide, by decide⟩, _, _, rfl, rfl, _, rfl, _, _, rfl, rfl, by show (0 : Int) < 2147483579; decide, _, rfl, by show 3 ≤ sizeLine; decide, fun p hp => ?_⟩
      exact q p _ hp (Ex.new hp) ⟨_, _, _, upd_same, ⟨hm, hm2⟩, by omega, by omega⟩
    · refine ⟨_, rfl, _, _, rfl, rfl, by show (0 : Int) < 2147483579; decide, _, rfl, by show 3 ≤ sizeLine; decide, fun p hp => ?_⟩
      exact q p _ hp (Ex.new hp) ⟨_, _, _, upd_same, ⟨hm, hm2⟩, by omega, by omega⟩
def spPick : Sp := fun vs H Q _ => ∃ (d : Addr) (m : Int) (n : Nat), vs = [.ref d, .int m] ∧ Dk n H d ∧ n < 1000000 ∧ (0 < m ∧ m.natAbs < 2 ^ 100) ∧ ∀ r H', 0 ≤ r → r < m → ExD d H H' → Dk (n + 1) H' d → Q (.int r) H'
theorem ok__law_pick (T : Txt K mg) : FnOk P w K mg base CX0 1 T._law_pick.f T._law_pick.fd ["deck", "size"] spPick := by
  refine T._law_pick.F.ok sc__law_pick (fun vs H Q E h => ?_) (fun cdv A outer s H vs Q E hr h => ?_)
  · obtain ⟨d, m, n, rfl, _⟩ := h
    rfl
  · obtain ⟨d, m, n, rfl, ⟨x, y, z, hd, hy, hz⟩, hn, hm, q⟩ := h
    refine ⟨_, (pss_cons (ps_if (pt_cmpR op_gt (pe_ix ix_list (pv 0) pe_int (fun _ _ => rfl)) pe_int (nomark _))
        (pss_cons (ps_set (i := 2) sc__law_pick.nd rfl (Or.inl rfl) (pe_op op_mod (pe_ix ix_list (pv 0) pe_int (fun _ _ => rfl)) (pv 1)))
      (pss_cons (ps_asg (pe_op op_fdivW (pe_ix ix_list (pv 0) pe_int (fun _ _ => rfl)) (pv 1)) (pg_sub (pv 0) pe_int set_list))
      (pss_one (ps_ret (pv 2)))))
        pss_nil)
      (pss_cons (ps_asg (pe_op op_add (pe_ix ix_list (pv 0) pe_int (fun _ _ => rfl)) pe_int) (pg_sub (pv 0) pe_int set_list))
      (pss_cons (ps_set (i := 3) sc__law_pick.nd rfl (Or.inl rfl) (pe_op op_mod (pe_op op_pow (pe_op op_add (pe_ix ix_list (pv 0) pe_int (fun _ _ => rfl)) (pe_op op_mul pe_int (pe_ix ix_list (pv 0) pe_int (fun _ _ => rfl)))) pe_int) pe_int))
      (pss_cons (ps_set (i := 2) sc__law_pick.nd rfl (Or.inl rfl) (pe_op op_fdiv (pe_op op_mod (pe_op op_pow (pe_op op_add (pv 3) (pe_op op_mul pe_int (pe_ix ix_list (pv 0) pe_int (fun _ _ => rfl)))) pe_int) pe_int) pe_int))
      (pss_one (ps_ret (pe_op op_mod (pv 2) (pv 1)))))))), ?_⟩
    refine ⟨.ref d, rfl, d, _, 0, _, rfl, rfl, sq_of hd, rfl, _, _, rfl, rfl, _, rfl, ite2 (fun e => ?_) (fun e => ?_)⟩
    · refine ⟨.ref d, rfl, d, _, 0, _, rfl, rfl, sq_of hd, rfl, _, rfl, _, _, rfl, rfl, hm.1, ?_⟩
      refine ⟨.ref d, rfl, d, _, 0, _, rfl, rfl, sq_of hd, rfl, _, rfl, _, _, rfl, rfl, wide_div hm.1 hm.2 (by decide) (by decide), ?_⟩
      refine ⟨.ref d, rfl, d, _, _, _, rfl, rfl, hd, rfl, ?_⟩
      refine ⟨_, rfl, ?_⟩
      exact q _ _ (Int.emod_nonneg x (by omega)) (Int.emod_lt_of_pos x hm.1) ExD.upd ⟨_, _, _, upd_same, hy, by omega, by omega⟩
    · refine ⟨.ref d, rfl, d, _, 2, _, rfl, rfl, sq_of hd, rfl, _, _, rfl, rfl, ?_⟩
      refine ⟨.ref d, rfl, d, _, _, _, rfl, rfl, hd, rfl, ?_⟩
      have hd2 : upd H d (.lst ([V.int x, V.int y, V.int z].set 2 (.int (z + 1)))) d = some (.lst [.int x, .int y, .int (z + 1)]) := upd_same
      have hE : ExD d H (upd H d (.lst ([V.int x, V.int y, V.int z].set 2 (.int (z + 1))))) := ExD.upd
      revert hd2 hE
      show ∀ _ _, tSeq _ _ _ _ (upd H d (.lst ([V.int x, V.int y, V.int z].set 2 (.int (z + 1)))))
      generalize upd H d (.lst ([V.int x, V.int y, V.int z].set 2 (.int (z + 1)))) = H2
      intro hd2 hE
      refine ⟨.ref d, rfl, d, _, 1, _, rfl, rfl, sq_of hd2, rfl, .ref d, rfl, d, _, 2, _, rfl, rfl, sq_of hd2, rfl, _, _, rfl, rfl, cm_l (by omega), _, _, rfl, rfl, _, _, rfl, rfl, ⟨by decide, by decide, by omega⟩, _, _, rfl, rfl, by show (0 : Int) < 2147483647; decide, ?_⟩
      have g1 := Int.emod_nonneg ((y + 15485867 * (z + 1)) ^ (5 : Int).toNat) (show (2147483647 : Int) ≠ 0 by decide)
      have g2 := Int.emod_lt_of_pos ((y + 15485867 * (z + 1)) ^ (5 : Int).toNat) (show (0 : Int) < 2147483647 by decide)
      revert g1 g2
      generalize ((y + 15485867 * (z + 1)) ^ (5 : Int).toNat) % 2147483647 = N
      intro g1 g2
      refine ⟨_, rfl, .ref d, rfl, d, _, 2, _, rfl, rfl, sq_of hd2, rfl, _, _, rfl, rfl, cm_l (by omega), _, _, rfl, rfl, _, _, rfl, rfl, ⟨by decide, by decide, by omega⟩, _, _, rfl, rfl, by show (0 : Int) < 2147483629; decide, _, _, rfl, rfl, ⟨by decide, by decide⟩, ?_⟩
      refine ⟨_, rfl, _, rfl, _, _, rfl, rfl, hm.1, ?_⟩
      exact q _ _ (Int.emod_nonneg _ (by omega)) (Int.emod_lt_of_pos _ hm.1) hE ⟨_, _, _, hd2, hy, by omega, by omega⟩
def spOne : Sp := fun vs H Q _ => ∃ (d b : Addr) (xs : List V) (n : Nat), vs = [.ref d, .ref b] ∧ Dk n H d ∧ n < 1000000 ∧ H b = some (.lst xs) ∧ b ≠ d ∧ (0 < xs.length ∧ xs.length ≤ 1000) ∧
  ∀ v H', v ∈ xs → ExD d H H' → Dk (n + 1) H' d → Q v H'
end

/-! ### sameness -/
def Kd.sort : Kd → Int
  | .bl => 1 | .int => 2 | .str => 3 | .lst => 4 | .tup => 5 | .non => 6
section
variable {P : Program} {w : World} {K : PySem.W.Frag} {mg : Str → Option Value} {base : Heap}
def spSort : Sp := fun vs H Q _ => ∃ x t, vs = [x] ∧ Dat H x t ∧ RetV (.int t.sort) H Q
end
/-- x and y are the same data, to the depth n -/
inductive Sm (H : Hp) : Nat → V → V → Prop where
  | non {n : Nat} : Sm H n .non .non
  | bl {n : Nat} (b : Bool) : Sm H n (.bl b) (.bl b)
  | int {n : Nat} (i : Int) : Sm H n (.int i) (.int i)
  | str {n : Nat} (x : Str) : Sm H n (.str x) (.str x)
  | lst {n : Nat} {a b : Addr} {xs ys : List V} (ha : H a = some (.lst xs)) (hb : H b = some (.lst ys)) (hl : xs.length = ys.length) (hz : xs.length ≤ 1000) (h : ∀ (i : Nat) (x y : V), xs[i]? = some x → ys[i]? = some y → Sm H n x y) : Sm H (n + 1) (.ref a) (.ref b)
  | tup {n : Nat} {a b : Addr} {xs ys : List V} (ha : H a = some (.tup xs)) (hb : H b = some (.tup ys)) (hl : xs.length = ys.length) (hz : xs.length ≤ 1000) (h : ∀ (i : Nat) (x y : V), xs[i]? = some x → ys[i]? = some y → Sm H n x y) : Sm H (n + 1) (.ref a) (.ref b)
theorem Sm.ex {H H' : Hp} {n : Nat} {x y : V} (e : Ex H H') (h : Sm H n x y) : Sm H' n x y := by
  induction h with
  | non => exact .non
  | bl b => exact .bl b
  | int i => exact .int i
  | str x => exact .str x
  | lst ha hb hl hz _ ih => exact .lst (e _ _ ha) (e _ _ hb) hl hz ih
  | tup ha hb hl hz _ ih => exact .tup (e _ _ ha) (e _ _ hb) hl hz ih
theorem Sm.kd {H : Hp} {n : Nat} {x y : V} (h : Sm H n x y) : ∃ t, Dat H x t ∧ Dat H y t := by
  cases h with
  | non => exact ⟨_, .non, .non⟩
  | bl b => exact ⟨_, .bl b, .bl b⟩
  | int i => exact ⟨_, .int i, .int i⟩
  | str x => exact ⟨_, .str x, .str x⟩
  | lst ha hb _ _ _ => exact ⟨_, .lst ha, .lst hb⟩
  | tup ha hb _ _ _ => exact ⟨_, .tup ha, .tup hb⟩
def spSame : Nat → Sp
  | 0 => fun _ _ _ _ => False
  | n + 1 => fun vs H Q _ => ∃ x y, vs = [x, y] ∧ Sm H n x y ∧ RetV (.bl true) H Q
section
variable {P : Program} {w : World} {K : PySem.W.Frag} {mg : Str → Option Value} {base : Heap}
end

/-! ### the mathematics of one land -/
theorem mul_bd {x b K L : Int} (hx : -K ≤ x ∧ x ≤ K) (hb : 0 ≤ b ∧ b ≤ L) (hK : 0 ≤ K) : -(K * L) ≤ x * b ∧ x * b ≤ K * L := by
  have h1 : x * b ≤ K * b := Int.mul_le_mul_of_nonneg_right hx.2 hb.1
  have h2 : -K * b ≤ x * b := Int.mul_le_mul_of_nonneg_right hx.1 hb.1
  have h3 : K * b ≤ K * L := Int.mul_le_mul_of_nonneg_left hb.2 hK
  rw [Int.neg_mul] at h2
  omega
theorem div_bd {a s M : Int} (hs : 1 ≤ s) (ha : -M ≤ a ∧ a ≤ M) (hM : 0 ≤ M) : -M ≤ a / s ∧ a / s ≤ M := by
  have h1 : M * 1 ≤ M * s := Int.mul_le_mul_of_nonneg_left hs hM
  constructor
  · rw [Int.le_ediv_iff_mul_le (by omega), Int.neg_mul]
    omega
  · have h2 : a / s < M + 1 := by
      rw [Int.ediv_lt_iff_lt_mul (by omega), Int.add_mul]
      omega
    omega
theorem add_step {T B S y : Int} (hT : 0 ≤ T ∧ T < B) : add T B S y ≤ add T B S (y + 1) ∧ add T B S (y + 1) ≤ add T B S y + 1 := by
  have hB : 0 < B := by omega
  unfold add
  rw [Int.mul_add, Int.mul_one]
  have e := Int.mul_ediv_add_emod (T * y + S) B
  have r0 := Int.emod_nonneg (T * y + S) (show B ≠ 0 by omega)
  have r1 := Int.emod_lt_of_pos (T * y + S) hB
  constructor
  · rw [Int.le_ediv_iff_mul_le hB, Int.mul_comm]
    omega
  · have h : (T * y + T + S) / B < (T * y + S) / B + 1 + 1 := by
      rw [Int.ediv_lt_iff_lt_mul hB, Int.add_mul, Int.add_mul, Int.mul_comm _ B, Int.one_mul]
      omega
    omega
theorem fst_beg {D T B S y : Int} (hB : 1 ≤ B) : fst D T B S y = D * y + add T B S y := by
  unfold fst add
  have e : (D * B + T) * y + S = (T * y + S) + B * (D * y) := by
    rw [Int.add_mul, Int.mul_right_comm, Int.mul_comm (D * y) B]
    omega
  rw [e, Int.add_mul_ediv_left _ _ (by omega)]
  omega
theorem fst_succ {D T B S y : Int} (hB : 1 ≤ B) : fst D T B S (y + 1) - fst D T B S y = D + (add T B S (y + 1) - add T B S y) := by
  rw [fst_beg hB, fst_beg hB, Int.mul_add, Int.mul_one]
  omega
theorem fst_le {D T B S y n : Int} (hB : 1 ≤ B) (hs : 1 ≤ D * B + T) : fst D T B S y ≤ n ↔ y ≤ yr D T B S n := by
  unfold yr fst
  rw [Int.le_ediv_iff_mul_le (by omega), ← Int.lt_add_one_iff, Int.ediv_lt_iff_lt_mul (by omega), Int.mul_comm y]
  omega
theorem yr_spec {D T B S n : Int} (hB : 1 ≤ B) (hs : 1 ≤ D * B + T) : fst D T B S (yr D T B S n) ≤ n ∧ n < fst D T B S (yr D T B S n + 1) := by
  constructor
  · exact (fst_le hB hs).mpr (Int.le_refl _)
  · have h := mt (fst_le (D := D) (T := T) (B := B) (S := S) (y := yr D T B S n + 1) (n := n) hB hs).mp (by omega)
    omega
theorem yr_eq {D T B S n y : Int} (hB : 1 ≤ B) (hs : 1 ≤ D * B + T) (h1 : fst D T B S y ≤ n) (h2 : n < fst D T B S (y + 1)) : yr D T B S n = y := by
  have a1 := (fst_le hB hs).mp h1
  have a2 := mt (fst_le (D := D) (T := T) (B := B) (S := S) (y := y + 1) (n := n) hB hs).mpr (by omega)
  omega
theorem yr_bd {D T B S n : Int} (r1 : 1 ≤ D ∧ D ≤ 400) (r2 : 0 ≤ T ∧ T < B) (r3 : 1 ≤ B ∧ B ≤ 60) (r4 : -1000000 ≤ S ∧ S ≤ 1000000) {M : Int} (hM : 0 ≤ M) (hn : -M ≤ n ∧ n ≤ M) :
    -((M + 1) * 60 + 1000001) ≤ yr D T B S n ∧ yr D T B S n ≤ (M + 1) * 60 + 1000001 := by
  have hs := step_bd r1 r2 r3
  have h := mul_bd (x := n + 1) (b := B) (K := M + 1) (L := 60) (by omega) (by omega) (by omega)
  unfold yr
  exact div_bd hs.1 (by omega) (by omega)
theorem fst_bd {D T B S y : Int} (r1 : 1 ≤ D ∧ D ≤ 400) (r2 : 0 ≤ T ∧ T < B) (r3 : 1 ≤ B ∧ B ≤ 60) (r4 : -1000000 ≤ S ∧ S ≤ 1000000) {M : Int} (hM : 0 ≤ M) (hn : -M ≤ y ∧ y ≤ M) :
    -(M * 401 + 1000000) ≤ fst D T B S y ∧ fst D T B S y ≤ M * 401 + 1000000 := by
  have hd : D * B ≤ 400 * B := Int.mul_le_mul_of_nonneg_right r1.2 (by omega)
  have hd0 : 0 ≤ D * B := Int.mul_nonneg (by omega) (by omega)
  have h := mul_bd (x := y) (b := D * B + T) (K := M) (L := 401 * B) hn (by omega) hM
  rw [Int.mul_comm y] at h
  have e : M * (401 * B) = (M * 401) * B := by rw [Int.mul_assoc]
  rw [e] at h
  unfold fst
  have hB : 0 < B := by omega
  generalize (D * B + T) * y = Z at h ⊢
  constructor
  · rw [Int.le_ediv_iff_mul_le hB, Int.neg_mul, Int.add_mul]
    omega
  · have g : (Z + S) / B < M * 401 + 1000000 + 1 := by
      rw [Int.ediv_lt_iff_lt_mul hB, Int.add_mul, Int.add_mul]
      omega
    omega
theorem fst_round {D T B S y : Int} (hB : 1 ≤ B) : fst D T B S (y + B) = fst D T B S y + (D * B + T) := by
  unfold fst
  have e : (D * B + T) * (y + B) + S = ((D * B + T) * y + S) + (D * B + T) * B := by
    rw [Int.mul_add]
    omega
  rw [e]
  exact Int.add_mul_ediv_right _ _ (by omega)
/-- how many of the n years from y on are long -/
def longs (T B S y : Int) (n : Nat) : Nat := ((List.range n).filter fun (i : Nat) => decide (add T B S (y + (i : Int) + 1) > add T B S (y + (i : Int)))).length
theorem longs_eq {T B S y : Int} (hT : 0 ≤ T ∧ T < B) (n : Nat) : (longs T B S y n : Int) = add T B S (y + n) - add T B S y := by
  induction n with
  | zero =>
    have e : y + ((0 : Nat) : Int) = y := by omega
    rw [e]
    show ((0 : Nat) : Int) = _
    omega
  | succ n ih =>
    have hst := add_step (S := S) (y := y + (n : Int)) hT
    unfold longs at ih ⊢
    rw [List.range_succ, List.filter_append, List.length_append, List.filter_cons]
    have e : y + ((n + 1 : Nat) : Int) = y + (n : Int) + 1 := by omega
    rw [e]
    by_cases h : add T B S (y + (n : Int) + 1) > add T B S (y + (n : Int))
    · rw [if_pos (decide_eq_true h)]
      show ((_ + ([n].length) : Nat) : Int) = _
      have : [n].length = 1 := rfl
      omega
    · rw [if_neg (by rw [decide_eq_false h]; decide)]
      show ((_ + ([] : List Nat).length : Nat) : Int) = _
      have : ([] : List Nat).length = 0 := rfl
      omega
theorem add_bds {T B S y m : Int} (hT : 0 ≤ T ∧ T < B) : m * T / B ≤ add T B S (y + m) - add T B S y ∧ add T B S (y + m) - add T B S y ≤ (m * T + B - 1) / B := by
  have hB : 0 < B := by omega
  unfold add
  rw [Int.mul_add, Int.mul_comm T m]
  have e := Int.mul_ediv_add_emod (T * y + S) B
  have r0 := Int.emod_nonneg (T * y + S) (show B ≠ 0 by omega)
  have r1 := Int.emod_lt_of_pos (T * y + S) hB
  have e2 := Int.mul_ediv_add_emod (m * T) B
  have q0 := Int.emod_nonneg (m * T) (show B ≠ 0 by omega)
  have q1 := Int.emod_lt_of_pos (m * T) hB
  have e3 := Int.mul_ediv_add_emod (T * y + m * T + S) B
  have u0 := Int.emod_nonneg (T * y + m * T + S) (show B ≠ 0 by omega)
  have u1 := Int.emod_lt_of_pos (T * y + m * T + S) hB
  constructor
  · have h : m * T / B + (T * y + S) / B ≤ (T * y + m * T + S) / B := by
      rw [Int.le_ediv_iff_mul_le hB, Int.add_mul, Int.mul_comm _ B, Int.mul_comm _ B]
      omega
    omega
  · rw [Int.le_ediv_iff_mul_le hB, Int.sub_mul, Int.mul_comm _ B, Int.mul_comm _ B]
    omega
theorem add_round {T B S : Int} (hB : 1 ≤ B) : add T B S (0 + B) - add T B S 0 = T := by
  unfold add
  rw [Int.zero_add, Int.mul_zero, Int.add_comm (T * B), Int.add_mul_ediv_right _ _ (by omega), Int.zero_add]
  omega
theorem yr_fst {D T B S y : Int} (r1 : 1 ≤ D) (r2 : 0 ≤ T ∧ T < B) (hs : 1 ≤ D * B + T) : yr D T B S (fst D T B S y) = y := by
  have h := fst_succ (D := D) (T := T) (B := B) (S := S) (y := y) (by omega)
  have a := add_step (S := S) (y := y) r2
  exact yr_eq (by omega) hs (Int.le_refl _) (by omega)
theorem yr_fst1 {D T B S y : Int} (r1 : 1 ≤ D) (r2 : 0 ≤ T ∧ T < B) (hs : 1 ≤ D * B + T) : yr D T B S (fst D T B S y - 1) = y - 1 := by
  have h := fst_succ (D := D) (T := T) (B := B) (S := S) (y := y - 1) (by omega)
  have a := add_step (S := S) (y := y - 1) r2
  rw [Int.sub_add_cancel] at h a
  exact yr_eq (by omega) hs (by omega) (by rw [Int.sub_add_cancel]; omega)

/-! ### rows of numbers that have a thing -/
def cnt (f : Int → Bool) (a : Int) (n : Nat) : Nat := ((List.range n).filter fun (i : Nat) => f (a + i)).length
theorem cnt_succ {f : Int → Bool} {a : Int} (n : Nat) : cnt f a (n + 1) = cnt f a n + (if f (a + n) = true then 1 else 0) := by
  unfold cnt
  rw [List.range_succ, List.filter_append, List.length_append]
  congr 1
  cases h : f (a + (n : Int)) <;> simp [h]
theorem cnt_add {f : Int → Bool} {a : Int} (m n : Nat) : cnt f a (m + n) = cnt f a m + cnt f (a + m) n := by
  induction n with
  | zero => simp [cnt]
  | succ n ih =>
    rw [show m + (n + 1) = m + n + 1 by omega, cnt_succ, cnt_succ, ih, show a + ((m + n : Nat) : Int) = a + (m : Int) + (n : Int) by omega]
    omega
theorem cnt_shift {f : Int → Bool} {c : Int} (per : ∀ y, f (y + c) = f y) (a : Int) (n : Nat) : cnt f (a + c) n = cnt f a n := by
  unfold cnt
  congr 2
  funext i
  rw [show a + c + (i : Int) = a + (i : Int) + c by omega, per]
theorem cnt_rounds {f : Int → Bool} {c : Nat} (per : ∀ y, f (y + c) = f y) (a : Int) (k r : Nat) : cnt f a (k * c + r) = k * cnt f a c + cnt f a r := by
  induction k with
  | zero => simp
  | succ k ih =>
    rw [show (k + 1) * c + r = c + (k * c + r) by rw [Nat.succ_mul]; omega, cnt_add, cnt_shift per, ih, Nat.succ_mul]
    omega
def yrs (f : Int → Bool) (a : Int) (n : Nat) : List Int := ((List.range n).filter fun (i : Nat) => f (a + i)).map fun (i : Nat) => a + (i : Int)
theorem yrs_mem {f : Int → Bool} {a : Int} {n : Nat} {y : Int} : y ∈ yrs f a n ↔ a ≤ y ∧ y < a + n ∧ f y = true := by
  unfold yrs
  simp only [List.mem_map, List.mem_filter, List.mem_range]
  constructor
  · rintro ⟨i, ⟨hi, hf⟩, rfl⟩
    exact ⟨by omega, by omega, hf⟩
  · rintro ⟨h1, h2, h3⟩
    refine ⟨(y - a).toNat, ⟨by omega, ?_⟩, by omega⟩
    rw [show a + ((y - a).toNat : Int) = y by omega]
    exact h3
theorem yrs_up (f : Int → Bool) (a : Int) (n : Nat) : (yrs f a n).Pairwise (· < ·) := by
  unfold yrs
  rw [List.pairwise_map]
  refine List.Pairwise.imp ?_ ((List.pairwise_lt_range (n := n)).filter _)
  intro i j h
  omega
theorem up_at {xs : List Int} (h : xs.Pairwise (· < ·)) {i j : Nat} {y z : Int} (hi : xs[i]? = some y) (hj : xs[j]? = some z) : i < j → y < z := by
  intro ij
  obtain ⟨i1, rfl⟩ := List.getElem?_eq_some_iff.mp hi
  obtain ⟨j1, rfl⟩ := List.getElem?_eq_some_iff.mp hj
  exact List.pairwise_iff_getElem.mp h i j i1 j1 ij
/-- two rising rows with the same members are the same -/
theorem up_same {xs ys : List Int} (h : xs.Pairwise (· < ·)) (h' : ys.Pairwise (· < ·)) (m : ∀ k, k ∈ xs ↔ k ∈ ys) : xs = ys := by
  induction xs generalizing ys with
  | nil =>
    cases ys with
    | nil => rfl
    | cons y ys => exact absurd ((m y).mpr List.mem_cons_self) List.not_mem_nil
  | cons x xs ih =>
    cases ys with
    | nil => exact absurd ((m x).mp List.mem_cons_self) List.not_mem_nil
    | cons y ys =>
      rw [List.pairwise_cons] at h h'
      have exy : x = y := by
        rcases List.mem_cons.mp ((m x).mp List.mem_cons_self) with e | e
        · exact e
        · rcases List.mem_cons.mp ((m y).mpr List.mem_cons_self) with e' | e'
          · exact e'.symm
          · have := h'.1 x e
            have := h.1 y e'
            omega
      subst exy
      congr 1
      refine ih h.2 h'.2 fun k => ⟨fun hk => ?_, fun hk => ?_⟩
      · rcases List.mem_cons.mp ((m k).mp (List.mem_cons_of_mem _ hk)) with e | e
        · have := h.1 k hk
          omega
        · exact e
      · rcases List.mem_cons.mp ((m k).mpr (List.mem_cons_of_mem _ hk)) with e | e
        · have := h'.1 k hk
          omega
        · exact e

theorem per_many {f : Int → Bool} {c : Nat} (per : ∀ y, f (y + c) = f y) (y t : Int) : f (y + t * c) = f y := by
  have up : ∀ (n : Nat) (y : Int), f (y + n * c) = f y := by
    intro n
    induction n with
    | zero => intro y; simp
    | succ n ih =>
      intro y
      rw [show y + ((n + 1 : Nat) : Int) * c = (y + n * c) + c by rw [Int.natCast_add, Int.add_mul]; omega, per, ih]
  by_cases h : 0 ≤ t
  · have := up t.toNat y
    rwa [show ((t.toNat : Nat) : Int) = t by omega] at this
  · have := up (-t).toNat (y + t * c)
    rw [show (((-t).toNat : Nat) : Int) = -t by omega, Int.neg_mul, show y + t * (c : Int) + -(t * (c : Int)) = y by omega] at this
    exact this.symm
theorem yrs_none {f : Int → Bool} {a : Int} {n : Nat} (h : yrs f a n = []) (k : Nat) (hk : k < n) : f (a + k) = false := by
  cases e : f (a + k) with
  | false => rfl
  | true =>
    have m : a + (k : Int) ∈ yrs f a n := yrs_mem.mpr ⟨by omega, by omega, e⟩
    rw [h] at m
    cases m
theorem yrs_first {f : Int → Bool} {a : Int} {n : Nat} {y : Int} {r : List Int} (h : yrs f a n = y :: r) : ∃ k : Nat, k < n ∧ y = a + k ∧ f (a + k) = true ∧ ∀ j : Nat, j < k → f (a + j) = false := by
  have m := yrs_mem.mp (show y ∈ yrs f a n by rw [h]; exact List.mem_cons_self)
  have up := yrs_up f a n
  rw [h, List.pairwise_cons] at up
  refine ⟨(y - a).toNat, by omega, by omega, ?_, fun j hj => ?_⟩
  · rw [show a + ((y - a).toNat : Int) = y by omega]
    exact m.2.2
  · cases e : f (a + j) with
    | false => rfl
    | true =>
      have mj : a + (j : Int) ∈ yrs f a n := yrs_mem.mpr ⟨by omega, by omega, e⟩
      rw [h] at mj
      rcases List.mem_cons.mp mj with z | z
      · omega
      · have := up.1 _ z
        omega
theorem yrs_later {f : Int → Bool} {a : Int} {n m : Nat} (hm : m ≤ n) : (yrs f a n).filter (fun y => decide (y ≥ a + m)) = yrs f (a + m) (n - m) := by
  refine up_same ((yrs_up f a n).filter _) (yrs_up f (a + m) (n - m)) fun k => ?_
  rw [List.mem_filter, yrs_mem, yrs_mem]
  simp only [decide_eq_true_eq]
  constructor
  · rintro ⟨⟨h1, h2, h3⟩, h4⟩
    exact ⟨by omega, by omega, h3⟩
  · rintro ⟨h1, h2, h3⟩
    exact ⟨⟨by omega, by omega, h3⟩, by omega⟩
/-- none from a + m on in this turn: the first of the next turn is the first -/
theorem yrs_over {f : Int → Bool} {c : Nat} (per : ∀ y, f (y + c) = f y) {a : Int} {m : Nat} {y : Int} {r : List Int} (hm : m ≤ c) (h : yrs f a c = y :: r) (no : yrs f (a + m) (c - m) = []) :
    ∃ k : Nat, k < c ∧ y + c = a + m + k ∧ f (a + m + k) = true ∧ ∀ j : Nat, j < k → f (a + m + j) = false := by
  obtain ⟨k, kc, rfl, hk, before⟩ := yrs_first h
  have km : k < m := by
    rcases Nat.lt_or_ge k m with l | g
    · exact l
    · have := yrs_none no (k - m) (by omega)
      rw [show a + (m : Int) + ((k - m : Nat) : Int) = a + k by omega, hk] at this
      cases this
  refine ⟨k + c - m, by omega, by omega, ?_, fun j hj => ?_⟩
  · rw [show a + (m : Int) + ((k + c - m : Nat) : Int) = a + k + c by omega, per]
    exact hk
  · rcases Nat.lt_or_ge (m + j) c with l | g
    · exact yrs_none no j (by omega)
    · have := before (m + j - c) (by omega)
      rw [← per, show a + ((m + j - c : Nat) : Int) + c = a + m + j by omega] at this
      exact this
theorem yrs_cnt (f : Int → Bool) (a : Int) (n : Nat) : (yrs f a n).length = cnt f a n := by
  unfold yrs cnt
  rw [List.length_map]

/-- the first of a row, None where there is none -/
def hd : List Int → V
  | [] => .non
  | y :: _ => .int y
theorem hd_first {f : Int → Bool} {a : Int} {n k : Nat} (kn : k < n) (hk : f (a + k) = true) (before : ∀ j : Nat, j < k → f (a + j) = false) : hd (yrs f a n) = .int (a + k) := by
  cases h : yrs f a n with
  | nil =>
    have := yrs_none h k kn
    rw [hk] at this
    cases this
  | cons y r =>
    obtain ⟨k', kn', rfl, hk', before'⟩ := yrs_first h
    rcases Nat.lt_trichotomy k k' with l | e | l
    · rw [before' k l] at hk
      cases hk
    · rw [e]
      rfl
    · rw [before k' l] at hk'
      cases hk'
theorem hd_none {f : Int → Bool} {a : Int} {n : Nat} (no : ∀ k : Nat, k < n → f (a + k) = false) : hd (yrs f a n) = .non := by
  cases h : yrs f a n with
  | nil => rfl
  | cons y r =>
    obtain ⟨k, kn, _, hk, _⟩ := yrs_first h
    rw [no k kn] at hk
    cases hk
/-- where a row from a later year on is empty, the first one of the whole row a turn later -/
def hdOr (zs xs : List Int) (c : Int) : V := match zs, xs with
  | z :: _, _ => .int z
  | [], y :: _ => .int (y + c)
  | [], [] => .non
theorem hd_turn {f : Int → Bool} {c : Nat} (per : ∀ y, f (y + c) = f y) {a : Int} {m : Nat} (hm : m ≤ c) : hd (yrs f (a + m) c) = hdOr (yrs f (a + m) (c - m)) (yrs f a c) c := by
  cases hz : yrs f (a + m) (c - m) with
  | cons z r =>
    obtain ⟨k, kc, rfl, hk, before⟩ := yrs_first hz
    exact hd_first (by omega) hk before
  | nil =>
    cases hx : yrs f a c with
    | cons y r =>
      obtain ⟨k, kc, e, hk, before⟩ := yrs_over per hm hx hz
      rw [hd_first kc hk before, ← e]
      rfl
    | nil =>
      refine hd_none fun k kc => ?_
      by_cases l : m + k < c
      · have := yrs_none hx (m + k) l
        rwa [show a + ((m + k : Nat) : Int) = a + m + k by omega] at this
      · have := yrs_none hx (m + k - c) (by omega)
        rw [← per, show a + ((m + k - c : Nat) : Int) + c = a + m + k by omega] at this
        exact this
theorem sm_hd {H : Hp} {n : Nat} (xs : List Int) : Sm H n (hd xs) (hd xs) := by
  cases xs with
  | nil => exact .non
  | cons x xs => exact .int x
theorem sm_ints {H : Hp} {n : Nat} {a b : Addr} {ns : List Int} (ha : H a = some (.tup (ns.map V.int))) (hb : H b = some (.tup (ns.map V.int))) (hz : ns.length ≤ 1000) : Sm H (n + 1) (.ref a) (.ref b) :=
  .tup ha hb rfl (by rw [List.length_map]; exact hz) fun i x y hx hy => by
    rw [hx] at hy
    cases hy
    rw [List.getElem?_map] at hx
    cases hz : ns[i]? with
    | none => rw [hz] at hx; cases hx
    | some z => rw [hz] at hx; cases hx; exact .int z

theorem few {xs ys : List Int} (nd : xs.Nodup) (sub : ∀ x ∈ xs, x ∈ ys) : xs.length ≤ ys.length := by
  induction xs generalizing ys with
  | nil => exact Nat.zero_le _
  | cons x xs ih =>
    rw [List.nodup_cons] at nd
    have mx := sub x List.mem_cons_self
    have h := ih (ys := ys.erase x) nd.2 fun y hy => (List.mem_erase_of_ne (fun (e : y = x) => nd.1 (e ▸ hy))).mpr (sub y (List.mem_cons_of_mem _ hy))
    rw [List.length_erase_of_mem mx] at h
    have := List.length_pos_of_mem mx
    rw [List.length_cons]
    omega
theorem ex_put {H H' : Hp} {l : Addr} {o : HO} (e : Ex H H') (n : H l = none) : Ex H (upd H' l o) := fun a u h => by
  have ne : a ≠ l := fun z => by
    rw [z, n] at h
    cases h
  rw [upd_ne ne]
  exact e a u h
theorem inV_int (k : Int) : ∀ xs : List Int, inV (.int k) (xs.map V.int) = decide (k ∈ xs) := fun xs => by
  induction xs with
  | nil => rfl
  | cons x xs ih =>
    unfold inV at ih ⊢
    rw [List.map_cons, List.any_cons, ih]
    by_cases e : x = k
    · subst e
      simp [eqV]
    · have e' : ¬ k = x := fun z => e z.symm
      simp [eqV, e, e']
theorem flat_ints (xs : List Int) : (xs.map V.int).all flatV = true := by
  rw [List.all_map, List.all_eq_true]
  intro x _
  rfl
theorem cut_tail (xs : List V) : cutV xs (some 1) none = xs.drop 1 := by
  unfold cutV HT.sIx
  cases xs with
  | nil => rfl
  | cons x xs => simp
theorem cut_head (xs : List V) : cutV xs none (some 1) = xs.take 1 := by
  unfold cutV HT.sIx
  cases xs with
  | nil => rfl
  | cons x xs => simp
theorem given_all (n : Nat) (v : Nat → V) : given n (fun _ => true) v = (List.range n).map v := by
  unfold given
  rw [List.filter_eq_self.mpr fun _ _ => rfl]
theorem range_ints (xs : List Int) (g : Int → Int) : ((List.range xs.length).map fun i => V.int (g (xs[i]?.getD 0))) = (xs.map g).map V.int := by
  refine List.ext_getElem? fun i => ?_
  simp only [List.getElem?_map]
  by_cases h : i < xs.length
  · rw [List.getElem?_range h]
    show some (V.int (g (xs[i]?.getD 0))) = _
    rw [List.getElem?_eq_getElem h]
    rfl
  · rw [List.getElem?_eq_none (by rw [List.length_range]; omega), List.getElem?_eq_none (by omega)] <;> rfl
theorem given_ints (n : Nat) (p : Nat → Bool) (g : Nat → Int) : given n p (fun j => V.int (g j)) = (((List.range n).filter p).map g).map V.int := by
  unfold given
  rw [List.map_map]
  rfl
theorem none_any (n : Nat) (p : Nat → Bool) (g : Nat → Int) : decide (((List.range n).filter p).map g = []) = !((List.range n).any p) := by
  rw [Bool.eq_iff_iff, decide_eq_true_iff, List.map_eq_nil_iff, List.filter_eq_nil_iff]
  simp
theorem inV_any (k : Int) (n : Nat) (g : Nat → Int) : inV (.int k) (((List.range n).map g).map V.int) = (List.range n).any fun j => decide (g j = k) := by
  rw [inV_int, Bool.eq_iff_iff, decide_eq_true_iff, List.any_eq_true, List.mem_map]
  constructor
  · rintro ⟨j, hj, e⟩
    exact ⟨j, hj, decide_eq_true e⟩
  · rintro ⟨j, hj, e⟩
    exact ⟨j, hj, of_decide_eq_true e⟩
theorem ite_else {b : Bool} {X Y : Prop} (h : b = true → Y → X) (y : Y) : if b = true then X else Y := by
  cases b with
  | false => exact y
  | true => exact h rfl y
theorem if_join {b : Bool} {X : Prop} {N : Hp → Prop} {H : Hp} (h : b = true → (∀ H', Ex H H' → N H') → X) (n : ∀ H', Ex H H' → N H') : if b = true then X else N H := by
  cases b with
  | false => exact n H (Ex.refl H)
  | true => exact h rfl n
theorem iteD {c A B : Prop} [Decidable c] (hc : c) (h : A) : if decide c = true then A else B := by
  rw [decide_eq_true hc]
  exact iteT h
theorem iteND {c A B : Prop} [Decidable c] (hc : ¬ c) (h : B) : if decide c = true then A else B := by
  rw [decide_eq_false hc]
  exact iteF h
theorem at_map {n : Nat} {g : Nat → V} {i : Int} (h0 : 0 ≤ i) (h1 : i.toNat < n) : atI ((List.range n).map g) i = some (g i.toNat) := by
  unfold atI ixN
  rw [List.length_map, List.length_range, if_pos h0, if_pos (by omega)]
  show ((List.range n).map g)[i.toNat]? = _
  rw [List.getElem?_map, List.getElem?_range h1]
  rfl
section
variable {K : PySem.W.Frag} {H : Hp} {Q : VK} {σ : L2.St} {a b : Addr} {i j k : Nat} {xs zs : List Int}
theorem ix_first {x : Int} {xs : List Int} (ha : SqL K H a ((x :: xs).map V.int)) (q : Q (.int x) H) : rIxL K (.ref a) (.int 0) H Q := ⟨a, _, 0, _, rfl, rfl, ha, by unfold atI ixN; simp, q⟩
theorem if_hd (hσ : σ[i]? = some (some (.ref a))) (ha : SqL K H a (xs.map V.int)) (q : Q (hd xs) H) : if (!decide (xs = [])) = true then tOp (rIxL K) (tVar i) (tC (.int 0)) σ H Q else tC .non σ H Q := by
  cases xs with
  | nil => exact iteF q
  | cons x xs => exact iteT ⟨_, hσ, ix_first ha q⟩
theorem if_hdOr {c : Int} (hσ : σ[i]? = some (some (.ref a))) (hj : σ[j]? = some (some (.int c))) (ha : SqL K H a (xs.map V.int)) (e : zs = []) (q : Q (hdOr zs xs c) H) : if (!decide (xs = [])) = true then tOp (rI0 fun i j => .int (i + j)) (tOp (rIxL K) (tVar i) (tC (.int 0))) (tVar j) σ H Q else tC .non σ H Q := by
  subst e
  cases xs with
  | nil => exact iteF q
  | cons x xs => exact iteT ⟨_, hσ, ix_first (Q := fun x H1 => tVar j σ H1 fun y H2 => rI0 (fun i j => .int (i + j)) x y H2 Q) ha ⟨_, hj, _, _, rfl, rfl, q⟩⟩
theorem if_later {c : Int} (hi : σ[i]? = some (some (.ref a))) (hj : σ[j]? = some (some (.ref b))) (hk : σ[k]? = some (some (.int c))) (ha : H a = some (.lst (zs.map V.int))) (hb : H b = some (.lst (xs.map V.int))) (q : ∀ H', Ex H H' → Q (hdOr zs xs c) H') :
    tIf (tTest (tOp (rNeD K) (tVar i) (tLst tNil))) (tOp (rIxL K) (tVar i) (tC (.int 0))) (tIf (tTest (tOp (rNeD K) (tVar j) (tLst tNil))) (tOp (rI0 fun i j => .int (i + j)) (tOp (rIxL K) (tVar j) (tC (.int 0))) (tVar k)) (tC .non)) σ H Q := by
  refine ⟨_, hi, by decide, fun p np => ?_⟩
  have x := Ex.new (o := .lst []) np
  refine ne_lsts (ns := zs) (ms := []) (sq_of (x _ _ ha)) (sq_of upd_same) ⟨_, rfl, ?_⟩
  cases zs with
  | cons z zs => exact iteT ⟨_, hi, ix_first (sq_of (x _ _ ha)) (q _ x)⟩
  | nil =>
    refine iteF ⟨_, hj, by decide, fun p' np' => ?_⟩
    have x' := Ex.new (o := .lst []) np'
    have xx := x.trans x'
    exact ne_lsts (ns := xs) (ms := []) (sq_of (xx _ _ hb)) (sq_of upd_same) ⟨_, rfl, if_hdOr hj hk (sq_of (xx _ _ hb)) rfl (q _ xx)⟩
end

theorem cut_mem {xs : List V} {lo hi : Option Int} {x : V} (h : x ∈ cutV xs lo hi) : x ∈ xs := by
  unfold cutV at h
  exact List.mem_of_mem_drop (List.mem_of_mem_take h)
theorem cells_int {ns : List Int} {lo hi : Option Int} {i : Nat} {x : V} (h : (cutV (V.int 0 :: ns.map V.int) lo hi)[i]? = some x) : ∃ c : Int, x = .int c := by
  have hm := cut_mem (List.mem_of_getElem? h)
  rcases List.mem_cons.mp hm with rfl | there
  · exact ⟨0, rfl⟩
  · obtain ⟨c, _, rfl⟩ := List.mem_map.mp there
    exact ⟨c, rfl⟩

/-! ### what stands through a cell's turn -/
structure Cv (p : Addr) (cells : List V) (v : V) (D T B S : Int) (d : Addr) (n : Nat) (H : Hp) : Prop where
  hp : H p = some (.lst cells)
  ne : p ≠ d
  land : Land H v D T B S
  dk : Dk n H d
section
variable {p d : Addr} {cells : List V} {v : V} {D T B S : Int} {n m : Nat} {H H' : Hp}
theorem Cv.ex (c : Cv p cells v D T B S d n H) (e : Ex H H') : Cv p cells v D T B S d n H' := ⟨e _ _ c.hp, c.ne, c.land.ex e, c.dk.ex e⟩
theorem Cv.exd (c : Cv p cells v D T B S d n H) (e : ExD d H H') (k : Dk m H' d) : Cv p cells v D T B S d m H' := ⟨e _ _ c.ne c.hp, c.ne, e.land c.dk c.land, k⟩
end
def spLaw (K : PySem.W.Frag) : Sp := fun vs H Q _ => ∃ (a : Addr) (ns : List Int), vs = [.ref a] ∧ SqL K H a (ns.map V.int) ∧ ns.length ≤ 63 ∧ ∀ H', Q (.bl true) H'

/-! ### weeks: what is asked -/
abbrev Far' (i : Int) : Prop := -1000000000000000000000000000000 ≤ i ∧ i ≤ 1000000000000000000000000000000
section
variable {P : Program} {w : World} {K : PySem.W.Frag} {mg : Str → Option Value} {base : Heap}
def spTwo : Sp := fun vs H Q _ => ∃ i j : Int, vs = [.int i, .int j] ∧ Far' i ∧ Far' j ∧ i ≤ j ∧ RetV .non H Q
theorem ok_need_years (T : Txt K mg) : FnOk P w K mg base CX0 4 T.need_years.f T.need_years.fd ["first", "last"] spTwo := by
  have G_need_year : FnOk P w K mg base CX0 3 T.need_year.f T.need_year.fd ["thing"] spNum := ok_need_year T
  refine T.need_years.F.ok sc_need_years (fun vs H Q E h => ?_) (fun cdv A outer s H vs Q E hr h => ?_)
  · obtain ⟨_, _, rfl, _⟩ := h
    rfl
  · obtain ⟨i, j, rfl, fi, fj, le, q⟩ := h
    refine ⟨_, (pss_cons (ps_expr (pe_call G_need_year (hr.mono (by omega)) (by rfl) T.need_year.g T.need_year.F.kp T.need_year.b .nil pass0 (pa_cons (pv 0) pa_nil)))
      (pss_cons (ps_expr (pe_call G_need_year (hr.mono (by omega)) (by rfl) T.need_year.g T.need_year.F.kp T.need_year.b .nil pass0 (pa_cons (pv 1) pa_nil)))
      (pss_one (ps_if (pt_cmpR op_lt (pv 1) (pv 0) (nomark _))
        (pss_one ps_never)
        pss_nil)))), ?_⟩
    refine ⟨_, rfl, i, rfl, fi, fun H1 e1 => ⟨_, rfl, j, rfl, fj, fun H2 e2 => ?_⟩⟩
    refine ⟨_, rfl, _, rfl, _, _, rfl, rfl, _, rfl, ?_⟩
    rw [decide_eq_false (show ¬ j < i by omega)]
    exact iteF (q H2 (e1.trans e2))

def spPlace : Sp := fun vs H Q _ => ∃ v D T B S i, vs = [v, .int i] ∧ Land H v D T B S ∧ (0 ≤ i ∧ i < D) ∧ RetV .non H Q
theorem ok_need_place (T : Txt K mg) : FnOk P w K mg base CX0 3 T.need_place.f T.need_place.fd ["land", "thing"] spPlace := by
  have G_is_between : FnOk P w K mg base CX0 2 T.is_between.f T.is_between.fd ["thing", "least", "most"] spBetween := ok_is_between T
  refine T.need_place.F.ok sc_need_place (fun vs H Q E h => ?_) (fun cdv A outer s H vs Q E hr h => ?_)
  · obtain ⟨_, _, _, _, _, _, rfl, _⟩ := h
    rfl
  · obtain ⟨v, D, T', B, S, i, rfl, ⟨a, rfl, ha, r⟩, hi, q⟩ := h
    refine ⟨_, (pss_cons (ps_set (i := 2) sc_need_place.nd rfl (Or.inl rfl) (pe_ix ix_tup (pv 0) pe_int (fun _ _ => rfl)))
      (pss_one (ps_if (pt_not (pt_val (pe_call G_is_between (hr.mono (by omega)) (by rfl) T.is_between.g T.is_between.F.kp T.is_between.b .nil pass0 (pa_cons (pv 1) (pa_cons pe_int (pa_cons (pe_op op_sub (pv 2) pe_int) pa_nil))))))
        (pss_one ps_never)
        pss_nil))), ?_⟩
    refine ⟨_, rfl, a, _, 0, _, rfl, rfl, st_of ha, rfl, ?_⟩
    refine ⟨_, rfl, _, rfl, _, _, rfl, rfl, _, _, _, _, rfl, .int i, fun H1 e1 => ⟨_, rfl, ?_⟩⟩
    rw [btw_yes ⟨hi.1, by omega⟩]
    exact iteF (q H1 e1)
def spWeek : Sp := fun vs H Q _ => ∃ i : Int, vs = [.int i] ∧ (1 ≤ i ∧ i ≤ 20) ∧ RetV .non H Q
theorem ok_need_week (T : Txt K mg) : FnOk P w K mg base CX0 3 T.need_week.f T.need_week.fd ["thing"] spWeek := by
  have G_is_between : FnOk P w K mg base CX0 2 T.is_between.f T.is_between.fd ["thing", "least", "most"] spBetween := ok_is_between T
  refine T.need_week.F.ok sc_need_week (fun vs H Q E h => ?_) (fun cdv A outer s H vs Q E hr h => ?_)
  · obtain ⟨_, rfl, _⟩ := h
    rfl
  · obtain ⟨i, rfl, hi, q⟩ := h
    refine ⟨_, (pss_one (ps_if (pt_not (pt_val (pe_call G_is_between (hr.mono (by omega)) (by rfl) T.is_between.g T.is_between.F.kp T.is_between.b .nil pass0 (pa_cons (pv 0) (pa_cons pe_int (pa_cons (pe_glob (v := .int 20) rfl T.c_LONGEST_WEEK ⟨_, rfl⟩) pa_nil))))))
        (pss_one ps_never)
        pss_nil)), ?_⟩
    refine ⟨_, rfl, _, _, _, _, rfl, .int i, fun H1 e1 => ⟨_, rfl, ?_⟩⟩
    rw [btw_yes hi]
    exact iteF (q H1 e1)
def spName : Sp := fun vs H Q _ => ∃ k i : Int, vs = [.int k, .int i] ∧ (0 ≤ i ∧ i < k) ∧ RetV .non H Q
theorem ok_need_name (T : Txt K mg) : FnOk P w K mg base CX0 3 T.need_name.f T.need_name.fd ["week", "thing"] spName := by
  have G_is_between : FnOk P w K mg base CX0 2 T.is_between.f T.is_between.fd ["thing", "least", "most"] spBetween := ok_is_between T
  refine T.need_name.F.ok sc_need_name (fun vs H Q E h => ?_) (fun cdv A outer s H vs Q E hr h => ?_)
  · obtain ⟨_, _, rfl, _⟩ := h
    rfl
  · obtain ⟨k, i, rfl, hi, q⟩ := h
    refine ⟨_, (pss_one (ps_if (pt_not (pt_val (pe_call G_is_between (hr.mono (by omega)) (by rfl) T.is_between.g T.is_between.F.kp T.is_between.b .nil pass0 (pa_cons (pv 1) (pa_cons pe_int (pa_cons (pe_op op_sub (pv 0) pe_int) pa_nil))))))
        (pss_one ps_never)
        pss_nil)), ?_⟩
    refine ⟨_, rfl, _, rfl, _, _, rfl, rfl, _, _, _, _, rfl, .int i, fun H1 e1 => ⟨_, rfl, ?_⟩⟩
    rw [btw_yes ⟨hi.1, by omega⟩]
    exact iteF (q H1 e1)
/-- a land, a place, a week and a day of it -/
def Asked (H : Hp) (v : V) (D T B S pl wk nm : Int) : Prop := Land H v D T B S ∧ (0 ≤ pl ∧ pl < D) ∧ (1 ≤ wk ∧ wk ≤ 20) ∧ (0 ≤ nm ∧ nm < wk)
theorem Asked.ex {H H' : Hp} {v : V} {D T B S pl wk nm : Int} (e : Ex H H') (h : Asked H v D T B S pl wk nm) : Asked H' v D T B S pl wk nm := ⟨h.1.ex e, h.2⟩
def spAsked : Sp := fun vs H Q _ => ∃ v D T B S pl wk nm, vs = [v, .int pl, .int wk, .int nm] ∧ Asked H v D T B S pl wk nm ∧ RetV .non H Q
theorem ok_need_asked (T : Txt K mg) : FnOk P w K mg base CX0 5 T.need_asked.f T.need_asked.fd ["land", "place", "week", "name"] spAsked := by
  have G_need_land : FnOk P w K mg base CX0 4 T.need_land.f T.need_land.fd ["thing"] spNeedLand := ok_need_land T
  have G_need_place : FnOk P w K mg base CX0 3 T.need_place.f T.need_place.fd ["land", "thing"] spPlace := ok_need_place T
  have G_need_week : FnOk P w K mg base CX0 3 T.need_week.f T.need_week.fd ["thing"] spWeek := ok_need_week T
  have G_need_name : FnOk P w K mg base CX0 3 T.need_name.f T.need_name.fd ["week", "thing"] spName := ok_need_name T
  refine T.need_asked.F.ok sc_need_asked (fun vs H Q E h => ?_) (fun cdv A outer s H vs Q E hr h => ?_)
  · obtain ⟨_, _, _, _, _, _, _, _, rfl, _⟩ := h
    rfl
  · obtain ⟨v, D, T', B, S, pl, wk, nm, rfl, ⟨hL, hp, hw, hn⟩, q⟩ := h
    refine ⟨_, (pss_cons (ps_expr (pe_call G_need_land (hr.mono (by omega)) (by rfl) T.need_land.g T.need_land.F.kp T.need_land.b .nil pass0 (pa_cons (pv 0) pa_nil)))
      (pss_cons (ps_expr (pe_call G_need_place (hr.mono (by omega)) (by rfl) T.need_place.g T.need_place.F.kp T.need_place.b .nil pass0 (pa_cons (pv 0) (pa_cons (pv 1) pa_nil))))
      (pss_cons (ps_expr (pe_call G_need_week (hr.mono (by omega)) (by rfl) T.need_week.g T.need_week.F.kp T.need_week.b .nil pass0 (pa_cons (pv 2) pa_nil)))
      (pss_one (ps_expr (pe_call G_need_name (hr.mono (by omega)) (by rfl) T.need_name.g T.need_name.F.kp T.need_name.b .nil pass0 (pa_cons (pv 2) (pa_cons (pv 3) pa_nil)))))))), ?_⟩
    refine ⟨_, rfl, v, D, T', B, S, rfl, hL, fun H1 e1 => ?_⟩
    refine ⟨_, rfl, _, rfl, v, D, T', B, S, pl, rfl, hL.ex e1, hp, fun H2 e2 => ?_⟩
    refine ⟨_, rfl, wk, rfl, hw, fun H3 e3 => ?_⟩
    exact ⟨_, rfl, _, rfl, wk, nm, rfl, hn, fun H4 e4 => q H4 ((e1.trans e2).trans (e3.trans e4))⟩
end

/-! ### the shared measure, the cycle, the days of the week -/
/-- the cycle of a week of wk days in a land: ring / gcd -/
def cyc (D T B wk : Int) : Nat := (wk * B).toNat / Nat.gcd (D * B + T).toNat (wk * B).toNat
def hits (D T B S pl wk nm y : Int) : Bool := decide ((fst D T B S y + pl) % wk = nm)
theorem ring_bd {B wk : Int} (r3 : 1 ≤ B ∧ B ≤ 60) (hw : 1 ≤ wk ∧ wk ≤ 20) : 1 ≤ wk * B ∧ wk * B ≤ 1200 := by
  have h1 : 1 * B ≤ wk * B := Int.mul_le_mul_of_nonneg_right hw.1 (by omega)
  have h2 : wk * B ≤ 20 * B := Int.mul_le_mul_of_nonneg_right hw.2 (by omega)
  omega
theorem gcd_pos {a b : Nat} (h : 0 < a) : 0 < Nat.gcd a b := Nat.gcd_pos_of_pos_left b h
theorem cyc_bd {D T B wk : Int} (r1 : 1 ≤ D ∧ D ≤ 400) (r2 : 0 ≤ T ∧ T < B) (r3 : 1 ≤ B ∧ B ≤ 60) (hw : 1 ≤ wk ∧ wk ≤ 20) : 1 ≤ cyc D T B wk ∧ cyc D T B wk ≤ 1200 := by
  have hr := ring_bd r3 hw
  have hs := step_bd r1 r2 r3
  have g0 := gcd_pos (a := (D * B + T).toNat) (b := (wk * B).toNat) (by omega)
  have gle := Nat.gcd_le_right (n := (wk * B).toNat) (D * B + T).toNat (by omega)
  unfold cyc
  refine ⟨(Nat.le_div_iff_mul_le g0).mpr (by omega), Nat.le_trans (Nat.div_le_self _ _) (by omega)⟩
section
variable {P : Program} {w : World} {K : PySem.W.Frag} {mg : Str → Option Value} {base : Heap}
def spGcd : Sp := fun vs H Q _ => ∃ a b : Nat, vs = [.int a, .int b] ∧ RetV (.int (Nat.gcd a b)) H Q
theorem ok_common_measure (T : Txt K mg) : FnOk P w K mg base CX0 1 T.common_measure.f T.common_measure.fd ["one", "other"] spGcd := by
  refine T.common_measure.F.ok sc_common_measure (fun vs H Q E h => ?_) (fun cdv A outer s H vs Q E hr h => ?_)
  · obtain ⟨_, _, rfl, _⟩ := h
    rfl
  · obtain ⟨a, b, rfl, q⟩ := h
    refine ⟨_, (pss_cons (ps_while PassesOwn.never (pt_cmpR op_ne (pv 1) pe_int (nomark _))
        (pss_one (ps_par (i := 0) (j := 1) (by rfl) sc_common_measure.nd rfl rfl (by decide) rfl rfl (pa_cons (pv 1) (pa_cons (pe_op op_mod (pv 0) (pv 1)) pa_nil)) (by rfl))))
      (pss_one (ps_ret (pv 0)))), ?_⟩
    refine q_while (fun m σ H' => ∃ c : Nat, σ = [some (.int c), some (.int (m : Nat))] ∧ Nat.gcd c m = Nat.gcd a b ∧ Ex H H') b ⟨a, rfl, rfl, Ex.refl H⟩ ?_
    rintro m σ H1 ⟨c, rfl, hg, e1⟩
    by_cases hm : m = 0
    · subst hm
      refine ⟨false, fun H2 e2 Q2 q2 => ⟨_, rfl, rfl, _, rfl, q2 H2 (Ex.refl H2)⟩, fun z => Bool.noConfusion z, fun _ H2 e2 => ?_⟩
      rw [Nat.gcd_zero_right] at hg
      have z := q H2 (e1.trans e2)
      rw [← hg] at z
      exact ⟨_, rfl, z⟩
    · have hne : decide (V.int ((m : Nat) : Int) = V.int 0) = false := decide_eq_false fun z => hm (by have := V.int.inj z; omega)
      refine ⟨true, fun H2 e2 Q2 q2 => ⟨_, rfl, rfl, _, rfl, ?_⟩, fun _ H2 e2 => ?_, fun z => Bool.noConfusion z⟩
      · rw [hne]
        exact q2 H2 (Ex.refl H2)
      · have next : Nat.gcd m (c % m) = Nat.gcd a b := by
          rw [← hg, Nat.gcd_comm c m, Nat.gcd_rec m c, Nat.gcd_comm]
        refine ⟨fun σ' H' => σ' = [some (.int (m : Nat)), some (.int ((c % m : Nat) : Int))] ∧ Ex H H', fun σ' H' ⟨es, ex⟩ => ⟨c % m, Nat.mod_lt c (by omega), m, es, next, ex⟩, ?_⟩
        refine ⟨_, rfl, _, rfl, _, rfl, _, _, rfl, rfl, by show (0 : Int) < m; omega, _, _, rfl, ?_, e1.trans e2⟩
        rw [Int.natCast_emod]
        rfl
def spRing : Sp := fun vs H Q _ => ∃ v D T B S wk, vs = [v, .int wk] ∧ Land H v D T B S ∧ (1 ≤ wk ∧ wk ≤ 20) ∧ RetV (.int (wk * B)) H Q
theorem ok_ring_of (T : Txt K mg) : FnOk P w K mg base CX0 1 T.ring_of.f T.ring_of.fd ["land", "week"] spRing := by
  refine T.ring_of.F.ok sc_ring_of (fun vs H Q E h => ?_) (fun cdv A outer s H vs Q E hr h => ?_)
  · obtain ⟨_, _, _, _, _, _, rfl, _⟩ := h
    rfl
  · obtain ⟨v, D, T', B, S, wk, rfl, ⟨a, rfl, ha, r⟩, hw, q⟩ := h
    refine ⟨_, (pss_cons (ps_set (i := 2) sc_ring_of.nd rfl (Or.inl rfl) (pe_ix ix_tup (pv 0) pe_int (fun _ _ => rfl)))
      (pss_one (ps_ret (pe_op op_mul (pv 1) (pv 2))))), ?_⟩
    refine ⟨_, rfl, a, _, 2, _, rfl, rfl, st_of ha, rfl, ?_⟩
    exact ⟨_, rfl, _, rfl, _, _, rfl, rfl, cm_l (by omega), q H (Ex.refl H)⟩
def spShared : Sp := fun vs H Q _ => ∃ v D T B S wk, vs = [v, .int wk] ∧ Land H v D T B S ∧ (1 ≤ wk ∧ wk ≤ 20) ∧ RetV (.int (Nat.gcd (D * B + T).toNat (wk * B).toNat)) H Q
theorem ok_shared_measure (T : Txt K mg) : FnOk P w K mg base CX0 2 T.shared_measure.f T.shared_measure.fd ["land", "week"] spShared := by
  have G_common_measure : FnOk P w K mg base CX0 1 T.common_measure.f T.common_measure.fd ["one", "other"] spGcd := ok_common_measure T
  have G_step_of : FnOk P w K mg base CX0 1 T.step_of.f T.step_of.fd ["land"] spStep := ok_step_of T
  have G_ring_of : FnOk P w K mg base CX0 1 T.ring_of.f T.ring_of.fd ["land", "week"] spRing := ok_ring_of T
  refine T.shared_measure.F.ok sc_shared_measure (fun vs H Q E h => ?_) (fun cdv A outer s H vs Q E hr h => ?_)
  · obtain ⟨_, _, _, _, _, _, rfl, _⟩ := h
    rfl
  · obtain ⟨v, D, T', B, S, wk, rfl, hL, hw, q⟩ := h
    obtain ⟨_, _, _, r1, r2, r3, r4⟩ := id hL
    have hs := step_bd r1 r2 r3
    have hg := ring_bd r3 hw
    refine ⟨_, (pss_one (ps_ret (pe_call G_common_measure (hr.mono (by omega)) (by rfl) T.common_measure.g T.common_measure.F.kp T.common_measure.b .nil pass0 (pa_cons (pe_call G_step_of (hr.mono (by omega)) (by rfl) T.step_of.g T.step_of.F.kp T.step_of.b .nil pass0 (pa_cons (pv 0) pa_nil)) (pa_cons (pe_call G_ring_of (hr.mono (by omega)) (by rfl) T.ring_of.g T.ring_of.F.kp T.ring_of.b .nil pass0 (pa_cons (pv 0) (pa_cons (pv 1) pa_nil))) pa_nil))))), ?_⟩
    refine ⟨_, rfl, v, D, T', B, S, rfl, hL, fun H1 e1 => ⟨_, rfl, _, rfl, v, D, T', B, S, wk, rfl, hL.ex e1, hw, fun H2 e2 => ?_⟩⟩
    refine ⟨(D * B + T').toNat, (wk * B).toNat, ?_, fun H3 e3 => q H3 ((e1.trans e2).trans e3)⟩
    rw [show ((D * B + T').toNat : Int) = D * B + T' by omega, show ((wk * B).toNat : Int) = wk * B by omega]
    rfl
def spCycle : Sp := fun vs H Q _ => ∃ v D T B S wk, vs = [v, .int wk] ∧ Land H v D T B S ∧ (1 ≤ wk ∧ wk ≤ 20) ∧ RetV (.int (cyc D T B wk)) H Q
theorem ok_cycle_of (T : Txt K mg) : FnOk P w K mg base CX0 3 T.cycle_of.f T.cycle_of.fd ["land", "week"] spCycle := by
  have G_ring_of : FnOk P w K mg base CX0 1 T.ring_of.f T.ring_of.fd ["land", "week"] spRing := ok_ring_of T
  have G_shared_measure : FnOk P w K mg base CX0 2 T.shared_measure.f T.shared_measure.fd ["land", "week"] spShared := ok_shared_measure T
  refine T.cycle_of.F.ok sc_cycle_of (fun vs H Q E h => ?_) (fun cdv A outer s H vs Q E hr h => ?_)
  · obtain ⟨_, _, _, _, _, _, rfl, _⟩ := h
    rfl
  · obtain ⟨v, D, T', B, S, wk, rfl, hL, hw, q⟩ := h
    obtain ⟨_, _, _, r1, r2, r3, r4⟩ := id hL
    have hs := step_bd r1 r2 r3
    have hg := ring_bd r3 hw
    have g0 := gcd_pos (a := (D * B + T').toNat) (b := (wk * B).toNat) (by omega)
    have gle := Nat.gcd_le_right (n := (wk * B).toNat) (D * B + T').toNat (by omega)
    refine ⟨_, (pss_one (ps_ret (pe_op op_fdiv (pe_call G_ring_of (hr.mono (by omega)) (by rfl) T.ring_of.g T.ring_of.F.kp T.ring_of.b .nil pass0 (pa_cons (pv 0) (pa_cons (pv 1) pa_nil))) (pe_call G_shared_measure (hr.mono (by omega)) (by rfl) T.shared_measure.g T.shared_measure.F.kp T.shared_measure.b .nil pass0 (pa_cons (pv 0) (pa_cons (pv 1) pa_nil)))))), ?_⟩
    refine ⟨_, rfl, _, rfl, v, D, T', B, S, wk, rfl, hL, hw, fun H1 e1 => ⟨_, rfl, _, rfl, v, D, T', B, S, wk, rfl, hL.ex e1, hw, fun H2 e2 => ?_⟩⟩
    refine ⟨_, _, rfl, rfl, ⟨by omega, by omega⟩, ?_⟩
    have z := q H2 (e1.trans e2)
    unfold cyc at z
    rw [Int.natCast_ediv, show ((wk * B).toNat : Int) = wk * B by omega] at z
    exact z
def spFalls : Sp := fun vs H Q _ => ∃ v D T B S pl wk nm y, vs = [v, .int pl, .int wk, .int nm, .int y] ∧ Asked H v D T B S pl wk nm ∧ RetV (.bl (hits D T B S pl wk nm y)) H Q
theorem ok_falls (T : Txt K mg) : FnOk P w K mg base CX0 3 T.falls.f T.falls.fd ["land", "place", "week", "name", "year"] spFalls := by
  have G_first_day : FnOk P w K mg base CX0 2 T.first_day.f T.first_day.fd ["land", "year"] spFirst := ok_first_day T
  refine T.falls.F.ok sc_falls (fun vs H Q E h => ?_) (fun cdv A outer s H vs Q E hr h => ?_)
  · obtain ⟨_, _, _, _, _, _, _, _, _, rfl, _⟩ := h
    rfl
  · obtain ⟨v, D, T', B, S, pl, wk, nm, y, rfl, ⟨hL, hp, hw, hn⟩, q⟩ := h
    refine ⟨_, (pss_one (ps_ret (pe_cmpR op_eq (pe_op op_mod (pe_op op_add (pe_call G_first_day (hr.mono (by omega)) (by rfl) T.first_day.g T.first_day.F.kp T.first_day.b .nil pass0 (pa_cons (pv 0) (pa_cons (pv 4) pa_nil))) (pv 1)) (pv 2)) (pv 3) (nomark _)))), ?_⟩
    refine ⟨_, rfl, _, rfl, v, D, T', B, S, y, rfl, hL, fun H1 e1 => ?_⟩
    refine ⟨_, rfl, _, _, rfl, rfl, _, rfl, _, _, rfl, rfl, by show 0 < wk; omega, _, rfl, rfl, ?_⟩
    have z := q H1 e1
    unfold hits at z
    rw [show decide ((fst D T' B S y + pl) % wk = nm) = decide (V.int ((fst D T' B S y + pl) % wk) = V.int nm) by simp] at z
    exact z
end
/-- a cycle later all is the same day of the week -/
theorem hits_cyc {D T B S pl wk nm y : Int} (r1 : 1 ≤ D ∧ D ≤ 400) (r2 : 0 ≤ T ∧ T < B) (r3 : 1 ≤ B ∧ B ≤ 60) (hw : 1 ≤ wk ∧ wk ≤ 20) : hits D T B S pl wk nm (y + cyc D T B wk) = hits D T B S pl wk nm y := by
  have hs := step_bd r1 r2 r3
  have hg := ring_bd r3 hw
  obtain ⟨u, hu⟩ := Nat.gcd_dvd_left (D * B + T).toNat (wk * B).toNat
  obtain ⟨v, hv⟩ := Nat.gcd_dvd_right (D * B + T).toNat (wk * B).toNat
  have g0 := gcd_pos (a := (D * B + T).toNat) (b := (wk * B).toNat) (by omega)
  have ec : cyc D T B wk = v := by
    unfold cyc
    rw [Nat.div_eq_of_eq_mul_right g0 hv]
  have nat : (D * B + T).toNat * v = (wk * B).toNat * u := by
    generalize Nat.gcd (D * B + T).toNat (wk * B).toNat = g at hu hv
    rw [hu, hv, Nat.mul_right_comm]
  have prod : (D * B + T) * (cyc D T B wk : Int) = wk * u * B := by
    have z := congrArg (fun k : Nat => (k : Int)) nat
    simp only [Int.natCast_mul] at z
    rw [show ((D * B + T).toNat : Int) = D * B + T by omega, show ((wk * B).toNat : Int) = wk * B by omega] at z
    rw [ec, z, Int.mul_right_comm]
  have later : fst D T B S (y + cyc D T B wk) = fst D T B S y + wk * u := by
    unfold fst
    rw [Int.mul_add, prod, show (D * B + T) * y + wk * u * B + S = (D * B + T) * y + S + wk * u * B by omega]
    exact Int.add_mul_ediv_right _ _ (by omega)
  unfold hits
  rw [later, show fst D T B S y + wk * u + pl = fst D T B S y + pl + wk * u by omega, Int.add_mul_emod_self_left]

/-! ### counts of such years -/
/-- the list of such years among the n from a on -/
def yearsL (f : Int → Bool) (a : Int) (n : Nat) : List V := given n (fun i => f (a + (i : Nat))) (fun i => .int (a + (i : Nat)))
theorem yearsL_len (f : Int → Bool) (a : Int) (n : Nat) : (yearsL f a n).length = cnt f a n := by
  unfold yearsL given cnt
  rw [List.length_map]
section
variable {P : Program} {w : World} {K : PySem.W.Frag} {mg : Str → Option Value} {base : Heap}
def spFalling : Sp := fun vs H Q _ => ∃ v D T B S pl wk nm a b, vs = [v, .int pl, .int wk, .int nm, .int a, .int b] ∧ Asked H v D T B S pl wk nm ∧ b - a ≤ 2000 ∧
  ∀ p H2, H p = none → Ex H H2 → H2 p = some (.lst (yearsL (hits D T B S pl wk nm) a (b - a).toNat)) → Q (.ref p) H2
theorem ok_falling_years (T : Txt K mg) : FnOk P w K mg base CX0 4 T.falling_years.f T.falling_years.fd ["land", "place", "week", "name", "first", "last"] spFalling := by
  have G_falls : FnOk P w K mg base CX0 3 T.falls.f T.falls.fd ["land", "place", "week", "name", "year"] spFalls := ok_falls T
  refine T.falling_years.F.ok sc_falling_years (fun vs H Q E h => ?_) (fun cdv A outer s H vs Q E hr h => ?_)
  · obtain ⟨_, _, _, _, _, _, _, _, _, _, rfl, _⟩ := h
    rfl
  · obtain ⟨v, D, T', B, S, pl, wk, nm, a, b, rfl, hA, hab, q⟩ := h
    refine ⟨_, (pss_one (ps_ret (pe_lc (own := [("year", 6)]) (g := gName 6) (by rfl) sc_falling_years.nd (pi_span rfl T.range (pa_cons (pv 4) (pa_cons (pv 5) pa_nil))) (blkOk_by (own := [("year", 6)]) (N := ["land", "place", "week", "name", "first", "last", "year"]) (sc := defScope s_falling_years) (by decide +kernel)) (fun _ _ _ _ _ => (pg_name (i := 6) sc_falling_years.nd rfl (Or.inl rfl))) (fun _ _ _ _ _ => (pts_one (pt_val (pe_call G_falls (hr.mono (by omega)) (by rfl) T.falls.g T.falls.F.kp T.falls.b .nil pass0 (pa_cons (pv 0) (pa_cons (pv 1) (pa_cons (pv 2) (pa_cons (pv 3) (pa_cons (pv 6) pa_nil))))))))) (fun _ _ _ _ _ => (pv 6))))), ?_⟩
    refine ⟨_, rfl, _, rfl, _, _, rfl, fun Dl hD => ?_⟩
    refine lc_it walk_itF (Cw H (fun i => hits D T' B S pl wk nm (a + (i : Nat))) (fun i => .int (a + (i : Nat))) Dl) ⟨hD, Ex.new hD, upd_same⟩ (fun _ _ _ _ => True.intro) (fun i x H' H'' hi p y => y.1 ▸ y.2 ▸ ⟨rfl, cw_turn p (by omega) ?_ ?_⟩) (fun H' p => q Dl H' hD p.2.1 p.2.2)
    · intro Ha ea Qa qa
      exact ⟨_, rfl, _, rfl, _, rfl, _, rfl, _, rfl, v, D, T', B, S, pl, wk, nm, _, rfl, hA.ex ea, fun Hb eb => ⟨_, rfl, qa Hb eb⟩⟩
    · intro _ Ha ea Qa qa
      exact ⟨_, rfl, qa Ha (Ex.refl Ha)⟩
def spNextY : Sp := fun vs H Q _ => ∃ v D T B S pl wk nm y, vs = [v, .int pl, .int wk, .int nm, .int y] ∧ Asked H v D T B S pl wk nm ∧ Far' y ∧
  (∀ k : Nat, k < cyc D T B wk → hits D T B S pl wk nm (y + k) = true → (∀ j : Nat, j < k → hits D T B S pl wk nm (y + j) = false) → RetV (.int (y + k)) H Q) ∧
  ((∀ k : Nat, k < cyc D T B wk → hits D T B S pl wk nm (y + k) = false) → RetV .non H Q)
theorem ok_next_year (T : Txt K mg) : FnOk P w K mg base CX0 6 T.next_year.f T.next_year.fd ["land", "place", "week", "name", "year"] spNextY := by
  have G_need_asked : FnOk P w K mg base CX0 5 T.need_asked.f T.need_asked.fd ["land", "place", "week", "name"] spAsked := ok_need_asked T
  have G_need_year : FnOk P w K mg base CX0 3 T.need_year.f T.need_year.fd ["thing"] spNum := ok_need_year T
  have G_cycle_of : FnOk P w K mg base CX0 3 T.cycle_of.f T.cycle_of.fd ["land", "week"] spCycle := ok_cycle_of T
  have G_falls : FnOk P w K mg base CX0 3 T.falls.f T.falls.fd ["land", "place", "week", "name", "year"] spFalls := ok_falls T
  refine T.next_year.F.ok sc_next_year (fun vs H Q E h => ?_) (fun cdv A outer s H vs Q E hr h => ?_)
  · obtain ⟨_, _, _, _, _, _, _, _, _, rfl, _⟩ := h
    rfl
  · obtain ⟨v, D, T', B, S, pl, wk, nm, y, rfl, hA, hy, q1, q2⟩ := h
    refine ⟨_, (pss_cons (ps_expr (pe_call G_need_asked (hr.mono (by omega)) (by rfl) T.need_asked.g T.need_asked.F.kp T.need_asked.b .nil pass0 (pa_cons (pv 0) (pa_cons (pv 1) (pa_cons (pv 2) (pa_cons (pv 3) pa_nil))))))
      (pss_cons (ps_expr (pe_call G_need_year (hr.mono (by omega)) (by rfl) T.need_year.g T.need_year.F.kp T.need_year.b .nil pass0 (pa_cons (pv 4) pa_nil)))
      (pss_cons (ps_for PassesOwn.never rfl (pi_span rfl T.range (pa_cons (pv 4) (pa_cons (pe_op op_add (pv 4) (pe_call G_cycle_of (hr.mono (by omega)) (by rfl) T.cycle_of.g T.cycle_of.F.kp T.cycle_of.b .nil pass0 (pa_cons (pv 0) (pa_cons (pv 2) pa_nil)))) pa_nil))) (pg_name (i := 5) sc_next_year.nd rfl (Or.inl rfl))
        (pss_one (ps_if (pt_val (pe_call G_falls (hr.mono (by omega)) (by rfl) T.falls.g T.falls.F.kp T.falls.b .nil pass0 (pa_cons (pv 0) (pa_cons (pv 1) (pa_cons (pv 2) (pa_cons (pv 3) (pa_cons (pv 5) pa_nil)))))))
        (pss_one (ps_ret (pv 5)))
        pss_nil)))
      (pss_one (ps_ret pe_non))))), ?_⟩
    refine ⟨_, rfl, _, rfl, _, rfl, _, rfl, v, D, T', B, S, pl, wk, nm, rfl, hA, fun H1 e1 => ⟨_, rfl, y, rfl, hy, fun H2 e2 => ?_⟩⟩
    have e12 := e1.trans e2
    refine ⟨_, rfl, _, rfl, _, rfl, _, rfl, v, D, T', B, S, wk, rfl, hA.1.ex e12, hA.2.2.1, fun H3 e3 => ⟨_, _, rfl, rfl, _, _, rfl, ?_⟩⟩
    have e13 := e12.trans e3
    refine for_it walk_itF (fun i σ H' => (∃ z, σ = [some v, some (.int pl), some (.int wk), some (.int nm), some (.int y), z]) ∧ Ex H H' ∧ ∀ j : Nat, j < i → hits D T' B S pl wk nm (y + j) = false) ⟨⟨_, rfl⟩, e13, fun j hj => absurd hj (Nat.not_lt_zero j)⟩ (fun _ _ _ _ _ => True.intro) ?_ ?_
    · rintro i x σ H4 H5 hi ⟨⟨z, rfl⟩, e4, no⟩ ⟨rfl, rfl⟩
      refine ⟨_, rfl, _, rfl, _, rfl, _, rfl, _, rfl, v, D, T', B, S, pl, wk, nm, _, rfl, hA.ex e4, fun H6 e6 => ⟨_, rfl, ?_⟩⟩
      cases hh : hits D T' B S pl wk nm (y + (i : Nat)) with
      | true => exact iteT ⟨_, rfl, q1 i (by omega) hh no H6 (e4.trans e6)⟩
      | false =>
        refine iteF ⟨⟨_, rfl⟩, e4.trans e6, fun j hj => ?_⟩
        by_cases e : j = i
        · exact e ▸ hh
        · exact no j (by omega)
    · rintro σ H4 ⟨⟨z, rfl⟩, e4, no⟩
      exact q2 (fun k hk => no k (by omega)) H4 e4
end

section
variable {P : Program} {w : World} {K : PySem.W.Frag} {mg : Str → Option Value} {base : Heap}
def spMany : Sp := fun vs H Q _ => ∃ v D T B S pl wk nm a b, vs = [v, .int pl, .int wk, .int nm, .int a, .int b] ∧ Asked H v D T B S pl wk nm ∧ Far' a ∧ Far' b ∧ a ≤ b ∧ RetV (.int (cnt (hits D T B S pl wk nm) a (b - a).toNat)) H Q
theorem ok_how_many (T : Txt K mg) : FnOk P w K mg base CX0 6 T.how_many.f T.how_many.fd ["land", "place", "week", "name", "first", "last"] spMany := by
  have G_need_asked : FnOk P w K mg base CX0 5 T.need_asked.f T.need_asked.fd ["land", "place", "week", "name"] spAsked := ok_need_asked T
  have G_need_years : FnOk P w K mg base CX0 4 T.need_years.f T.need_years.fd ["first", "last"] spTwo := ok_need_years T
  have G_cycle_of : FnOk P w K mg base CX0 3 T.cycle_of.f T.cycle_of.fd ["land", "week"] spCycle := ok_cycle_of T
  have G_falling_years : FnOk P w K mg base CX0 4 T.falling_years.f T.falling_years.fd ["land", "place", "week", "name", "first", "last"] spFalling := ok_falling_years T
  refine T.how_many.F.ok sc_how_many (fun vs H Q E h => ?_) (fun cdv A outer s H vs Q E hr h => ?_)
  · obtain ⟨_, _, _, _, _, _, _, _, _, _, rfl, _⟩ := h
    rfl
  · obtain ⟨v, D, T', B, S, pl, wk, nm, a, b, rfl, hA, fa, fb, le, q⟩ := h
    obtain ⟨⟨_, _, _, r1, r2, r3, r4⟩, hp, hw, hn⟩ := id hA
    have hc := cyc_bd r1 r2 r3 hw
    refine ⟨_, (pss_cons (ps_expr (pe_call G_need_asked (hr.mono (by omega)) (by rfl) T.need_asked.g T.need_asked.F.kp T.need_asked.b .nil pass0 (pa_cons (pv 0) (pa_cons (pv 1) (pa_cons (pv 2) (pa_cons (pv 3) pa_nil))))))
      (pss_cons (ps_expr (pe_call G_need_years (hr.mono (by omega)) (by rfl) T.need_years.g T.need_years.F.kp T.need_years.b .nil pass0 (pa_cons (pv 4) (pa_cons (pv 5) pa_nil))))
      (pss_cons (ps_set (i := 6) sc_how_many.nd rfl (Or.inl rfl) (pe_call G_cycle_of (hr.mono (by omega)) (by rfl) T.cycle_of.g T.cycle_of.F.kp T.cycle_of.b .nil pass0 (pa_cons (pv 0) (pa_cons (pv 2) pa_nil))))
      (pss_cons (ps_asg (pe_callB call_divmodW (by rfl) T.divmod (by decide +kernel) (pa_cons (pe_op op_sub (pv 5) (pv 4)) (pa_cons (pv 6) pa_nil))) (pg_tup rfl (pgs_cons (pg_name (i := 7) sc_how_many.nd rfl (Or.inl rfl)) (pgs_cons (pg_name (i := 8) sc_how_many.nd rfl (Or.inl rfl)) pgs_nil))))
      (pss_cons (ps_set (i := 9) sc_how_many.nd rfl (Or.inl rfl) (pe_callB call_len_seq (by rfl) T.len (by decide +kernel) (pa_cons (pe_call G_falling_years (hr.mono (by omega)) (by rfl) T.falling_years.g T.falling_years.F.kp T.falling_years.b .nil pass0 (pa_cons (pv 0) (pa_cons (pv 1) (pa_cons (pv 2) (pa_cons (pv 3) (pa_cons (pv 4) (pa_cons (pe_op op_add (pv 4) (pv 8)) pa_nil))))))) pa_nil)))
      (pss_cons (ps_set (i := 10) sc_how_many.nd rfl (Or.inl rfl) (pe_callB call_len_seq (by rfl) T.len (by decide +kernel) (pa_cons (pe_call G_falling_years (hr.mono (by omega)) (by rfl) T.falling_years.g T.falling_years.F.kp T.falling_years.b .nil pass0 (pa_cons (pv 0) (pa_cons (pv 1) (pa_cons (pv 2) (pa_cons (pv 3) (pa_cons (pe_op op_add (pv 4) (pv 8)) (pa_cons (pe_op op_add (pv 4) (pv 6)) pa_nil))))))) pa_nil)))
      (pss_one (ps_ret (pe_op op_add (pe_op op_mul (pv 7) (pe_op op_add (pv 9) (pv 10))) (pv 9)))))))))), ?_⟩
    refine ⟨_, rfl, _, rfl, _, rfl, _, rfl, v, D, T', B, S, pl, wk, nm, rfl, hA, fun H1 e1 => ⟨_, rfl, _, rfl, a, b, rfl, fa, fb, le, fun H2 e2 => ?_⟩⟩
    have e12 := e1.trans e2
    refine ⟨_, rfl, _, rfl, v, D, T', B, S, wk, rfl, hA.1.ex e12, hw, fun H3 e3 => ?_⟩
    have e13 := e12.trans e3
    refine ⟨_, rfl, _, rfl, _, _, rfl, rfl, _, rfl, b - a, cyc D T' B wk, rfl, ⟨by omega, PyProof.noPylong_small (by omega)⟩, fun pd npd => ?_⟩
    have x4 := Ex.new (o := .tup [.int ((b - a) / (cyc D T' B wk : Int)), .int ((b - a) % (cyc D T' B wk : Int))]) npd
    refine ⟨pd, _, rfl, st_of upd_same, rfl, _, _, rfl, _, _, rfl, rfl, ?_⟩
    have m0 := Int.emod_nonneg (b - a) (show (cyc D T' B wk : Int) ≠ 0 by omega)
    have m1 := Int.emod_lt_of_pos (b - a) (show (0 : Int) < cyc D T' B wk by omega)
    have q0 := Int.ediv_nonneg (a := b - a) (b := (cyc D T' B wk : Int)) (by omega) (by omega)
    have dm := Int.mul_ediv_add_emod (b - a) (cyc D T' B wk : Int)
    have per : ∀ y, hits D T' B S pl wk nm (y + (cyc D T' B wk : Nat)) = hits D T' B S pl wk nm y := fun y => hits_cyc r1 r2 r3 hw
    have e14 := e13.trans x4
    revert m0 m1 q0 dm e14
    generalize (b - a) % (cyc D T' B wk : Int) = rest
    generalize (b - a) / (cyc D T' B wk : Int) = rounds
    generalize upd H3 pd _ = H4
    intro m0 m1 q0 dm e14
    refine ⟨_, rfl, _, rfl, _, rfl, _, rfl, _, rfl, _, rfl, _, rfl, _, _, rfl, rfl, v, D, T', B, S, pl, wk, nm, a, a + rest, rfl, hA.ex e14, by omega, fun l1 H5 nl1 e5 h5 => ?_⟩
    refine ⟨l1, _, rfl, .inl (sq_of h5), ?_⟩
    have e15 := e14.trans e5
    refine ⟨_, rfl, _, rfl, _, rfl, _, rfl, _, rfl, _, rfl, _, _, rfl, rfl, _, rfl, _, rfl, _, _, rfl, rfl, v, D, T', B, S, pl, wk, nm, a + rest, a + cyc D T' B wk, rfl, hA.ex e15, by omega, fun l2 H6 nl2 e6 h6 => ?_⟩
    refine ⟨l2, _, rfl, .inl (sq_of h6), ?_⟩
    rw [yearsL_len, yearsL_len]
    have k1 : cnt (hits D T' B S pl wk nm) a (a + rest - a).toNat ≤ 1200 := Nat.le_trans (by unfold cnt; exact List.length_filter_le _ _) (by rw [List.length_range]; omega)
    have k2 : cnt (hits D T' B S pl wk nm) (a + rest) (a + cyc D T' B wk - (a + rest)).toNat ≤ 1200 := Nat.le_trans (by unfold cnt; exact List.length_filter_le _ _) (by rw [List.length_range]; omega)
    refine ⟨_, rfl, _, rfl, _, rfl, _, _, rfl, rfl, _, _, rfl, rfl, cm_r (by omega), _, rfl, _, _, rfl, rfl, ?_⟩
    have z := q H6 (e15.trans e6)
    have whole : cnt (hits D T' B S pl wk nm) a (cyc D T' B wk) = cnt (hits D T' B S pl wk nm) a (a + rest - a).toNat + cnt (hits D T' B S pl wk nm) (a + rest) (a + cyc D T' B wk - (a + rest)).toNat := by
      have s := cnt_add (f := hits D T' B S pl wk nm) (a := a) rest.toNat (cyc D T' B wk - rest.toNat)
      rw [show rest.toNat + (cyc D T' B wk - rest.toNat) = cyc D T' B wk by omega, show ((rest.toNat : Nat) : Int) = rest by omega] at s
      rw [s, show (a + rest - a).toNat = rest.toNat by omega, show (a + (cyc D T' B wk : Int) - (a + rest)).toNat = cyc D T' B wk - rest.toNat by omega]
    have total := cnt_rounds per a rounds.toNat rest.toNat
    have span : (b - a).toNat = rounds.toNat * cyc D T' B wk + rest.toNat := by
      have : ((rounds.toNat * cyc D T' B wk : Nat) : Int) = cyc D T' B wk * rounds := by
        rw [Int.natCast_mul, show ((rounds.toNat : Nat) : Int) = rounds by omega, Int.mul_comm]
      omega
    rw [span, total, whole] at z
    rw [show (a + rest - a).toNat = rest.toNat by omega] at z ⊢
    simp only [Int.natCast_add, Int.natCast_mul, show ((rounds.toNat : Nat) : Int) = rounds by omega] at z
    exact z
end

section
variable {P : Program} {w : World} {K : PySem.W.Frag} {mg : Str → Option Value} {base : Heap}
def spDrawn : Sp := fun vs H Q _ => ∃ (d : Addr) (v : V) (D T B S : Int) (n : Nat), vs = [.ref d, v] ∧ Land H v D T B S ∧ Dk n H d ∧ n < 900000 ∧
  ∀ p H' pl wk nm, H' p = some (.tup [.int pl, .int wk, .int nm]) → Asked H' v D T B S pl wk nm → ExD d H H' → Dk (n + 5) H' d → Q (.ref p) H'
end

/-! ### returns of a turning number to an interval: three lengths at most -/
/-- a number that turns by st on a ring of M -/
def turnR (st M : Int) (n : Nat) : Int := (st * n) % M
theorem turnR_bd {st M : Int} (hM : 0 < M) (n : Nat) : 0 ≤ turnR st M n ∧ turnR st M n < M := ⟨Int.emod_nonneg _ (by omega), Int.emod_lt_of_pos _ hM⟩
theorem turnR_add {st M : Int} (a b : Nat) : turnR st M (a + b) = (turnR st M a + turnR st M b) % M := by
  unfold turnR
  rw [← Int.add_emod, ← Int.mul_add]
  congr 2
/-- behind n turns x is in [0, B) again -/
def Back (st M B x : Int) (n : Nat) : Prop := x + turnR st M n < B ∨ M ≤ x + turnR st M n
/-- the first return -/
def First (st M B x : Int) (n : Nat) : Prop := 1 ≤ n ∧ Back st M B x n ∧ ∀ m, 1 ≤ m → m < n → ¬ Back st M B x m
def Least (Pr : Nat → Prop) (n : Nat) : Prop := 1 ≤ n ∧ Pr n ∧ ∀ m, 1 ≤ m → m < n → ¬ Pr m
theorem least_of {Pr : Nat → Prop} : ∀ n, 1 ≤ n → Pr n → ∃ k, k ≤ n ∧ Least Pr k := by
  intro n
  refine Nat.strongRecOn n fun n ih => ?_
  · intro h1 hp
    by_cases hm : ∃ m, 1 ≤ m ∧ m < n ∧ Pr m
    · obtain ⟨m, m1, mn, pm⟩ := hm
      obtain ⟨k, kle, hk⟩ := ih m mn m1 pm
      exact ⟨k, by omega, hk⟩
    · exact ⟨n, Nat.le_refl n, h1, hp, fun m m1 mn pm => hm ⟨m, m1, mn, pm⟩⟩
/-- how a difference of turns lies on the ring -/
theorem turnR_sub {st M : Int} (hM : 0 < M) (a b : Nat) : turnR st M b = turnR st M (a + b) - turnR st M a ∨ turnR st M b = turnR st M (a + b) - turnR st M a + M := by
  have ba := turnR_bd (st := st) hM a
  have bb := turnR_bd (st := st) hM b
  have e := turnR_add (st := st) (M := M) a b
  by_cases h : turnR st M a + turnR st M b < M
  · rw [Int.emod_eq_of_lt (by omega) h] at e
    exact .inl (by omega)
  · have e2 : (turnR st M a + turnR st M b) % M = turnR st M a + turnR st M b - M := by
      rw [← Int.sub_emod_right, Int.emod_eq_of_lt (by omega) (by omega)]
    rw [e2] at e
    exact .inr (by omega)
theorem not_back {st M B x : Int} {n : Nat} (h : ¬ Back st M B x n) : B ≤ x + turnR st M n ∧ x + turnR st M n < M := by
  simp only [Back, not_or] at h
  omega
/-- a first return to the right is p, or p + q -/
theorem right_back {st M B x : Int} {p n : Nat} (hBM : B ≤ M) (hB : 0 < B) (x0 : 0 ≤ x) (xB : x < B) (hp : Least (fun n => turnR st M n < B) p) (hn : First st M B x n) (right : x + turnR st M n < B) :
    n = p ∨ (B ≤ x + turnR st M p ∧ ∃ m, n = p + m ∧ 1 ≤ m ∧ M - B < turnR st M m) := by
  have hM : 0 < M := by omega
  obtain ⟨n1, _, nmin⟩ := hn
  obtain ⟨p1, pB, pmin⟩ := hp
  have bn := turnR_bd (st := st) hM n
  have bp := turnR_bd (st := st) hM p
  by_cases lt : n < p
  · exact absurd (show turnR st M n < B by omega) (pmin n n1 lt)
  by_cases e : n = p
  · exact .inl e
  have nb := not_back (nmin p p1 (by omega))
  refine .inr ⟨nb.1, n - p, by omega, by omega, ?_⟩
  have sub := turnR_sub (st := st) hM p (n - p)
  have bm := turnR_bd (st := st) hM (n - p)
  rw [show p + (n - p) = n by omega] at sub
  omega
/-- a first return to the left is q, or p + q -/
theorem left_back {st M B x : Int} {q n : Nat} (hBM : B ≤ M) (hB : 0 < B) (x0 : 0 ≤ x) (xB : x < B) (hq : Least (fun n => M - B < turnR st M n) q) (hn : First st M B x n) (left : M ≤ x + turnR st M n) :
    n = q ∨ (x + turnR st M q < M ∧ ∃ m, n = q + m ∧ 1 ≤ m ∧ turnR st M m < B) := by
  have hM : 0 < M := by omega
  obtain ⟨n1, _, nmin⟩ := hn
  obtain ⟨q1, qB, qmin⟩ := hq
  have bn := turnR_bd (st := st) hM n
  have bq := turnR_bd (st := st) hM q
  by_cases lt : n < q
  · exact absurd (show M - B < turnR st M n by omega) (qmin n n1 lt)
  by_cases e : n = q
  · exact .inl e
  have nb := not_back (nmin q q1 (by omega))
  refine .inr ⟨nb.2, n - q, by omega, by omega, ?_⟩
  have sub := turnR_sub (st := st) hM q (n - q)
  have bm := turnR_bd (st := st) hM (n - q)
  rw [show q + (n - q) = n by omega] at sub
  omega
theorem sum_back {st M B x : Int} {p q : Nat} (hBM : B ≤ M) (hB : 0 < B) (x0 : 0 ≤ x) (xB : x < B) (pB : turnR st M p < B) (qB : M - B < turnR st M q) (lp : B ≤ x + turnR st M p) (lq : x + turnR st M q < M) : Back st M B x (p + q) := by
  have hM : 0 < M := by omega
  have bp := turnR_bd (st := st) hM p
  have bq := turnR_bd (st := st) hM q
  have b := turnR_bd (st := st) hM (p + q)
  have sub := turnR_sub (st := st) hM p q
  unfold Back
  omega
/-- first returns are p, q or p + q: p the least that goes right, q the least that goes left (where there is one) -/
theorem three_back {st M B : Int} (hB : 0 < B) (hBM : B ≤ M) {p : Nat} (hp : Least (fun n => turnR st M n < B) p) :
    ∃ q, ∀ x n, 0 ≤ x → x < B → First st M B x n → n = p ∨ n = q ∨ n = p + q := by
  by_cases some : ∃ n, 1 ≤ n ∧ M - B < turnR st M n
  · obtain ⟨n0, n01, n0B⟩ := some
    obtain ⟨q, _, hq⟩ := least_of (Pr := fun n => M - B < turnR st M n) n0 n01 n0B
    refine ⟨q, fun x n x0 xB hn => ?_⟩
    have ends : ∀ {m}, B ≤ x + turnR st M p → x + turnR st M q < M → p + q ≤ m → n = m → n = p + q := fun {m} lp lq le e => by
      by_cases eq : n = p + q
      · exact eq
      · exact absurd (sum_back hBM hB x0 xB hp.2.1 hq.2.1 lp lq) (hn.2.2 (p + q) (by have := hp.1; omega) (by omega))
    rcases hn.2.1 with right | left
    · rcases right_back hBM hB x0 xB hp hn right with e | ⟨lp, m, e, m1, mB⟩
      · exact .inl e
      have qm : q ≤ m := by
        by_cases lt : m < q
        · exact absurd mB (hq.2.2 m m1 lt)
        · omega
      have := hp.1
      have nb := not_back (hn.2.2 q hq.1 (by omega))
      exact .inr (.inr (ends lp nb.2 (by omega) e))
    · rcases left_back hBM hB x0 xB hq hn left with e | ⟨lq, m, e, m1, mB⟩
      · exact .inr (.inl e)
      have pm : p ≤ m := by
        by_cases lt : m < p
        · exact absurd mB (hp.2.2 m m1 lt)
        · omega
      have := hq.1
      have nb := not_back (hn.2.2 p hp.1 (by omega))
      exact .inr (.inr (ends nb.1 lq (by omega) e))
  · refine ⟨0, fun x n x0 xB hn => .inl ?_⟩
    have bn := turnR_bd (st := st) (M := M) (by omega) n
    rcases hn.2.1 with right | left
    · rcases right_back hBM hB x0 xB hp hn right with e | ⟨_, m, _, m1, mB⟩
      · exact e
      · exact absurd ⟨m, m1, mB⟩ some
    · exact absurd ⟨n, hn.1, by omega⟩ some

/-! ### the years of a day of the week as such returns -/
theorem div_mod {a B wk : Int} (hB : 0 < B) (hw : 0 < wk) : a / B % wk = a % (wk * B) / B := by
  have hM : 0 < wk * B := Int.mul_pos hw hB
  have e := Int.mul_ediv_add_emod a (wk * B)
  have r0 := Int.emod_nonneg a (show wk * B ≠ 0 by omega)
  have r1 := Int.emod_lt_of_pos a hM
  revert e r0 r1
  generalize a % (wk * B) = r
  generalize a / (wk * B) = q
  intro e r0 r1
  have d : a / B = r / B + wk * q := by
    rw [← e, show wk * B * q + r = r + wk * q * B by rw [Int.mul_right_comm wk B q]; omega]
    exact Int.add_mul_ediv_right _ _ (by omega)
  have b1 : r / B < wk := (Int.ediv_lt_iff_lt_mul hB).mpr r1
  have b0 : 0 ≤ r / B := Int.ediv_nonneg r0 (by omega)
  rw [d, Int.add_mul_emod_self_left, Int.emod_eq_of_lt b0 b1]
/-- where a year's day lies on the ring -/
def ringAt (D T B S pl wk y : Int) : Int := ((D * B + T) * y + S + pl * B) % (wk * B)
theorem hits_ring {D T B S pl wk nm y : Int} (r3 : 1 ≤ B ∧ B ≤ 60) (hw : 1 ≤ wk ∧ wk ≤ 20) : hits D T B S pl wk nm y = true ↔ nm * B ≤ ringAt D T B S pl wk y ∧ ringAt D T B S pl wk y < nm * B + B := by
  unfold hits ringAt
  have hB : 0 < B := by omega
  have e : fst D T B S y + pl = ((D * B + T) * y + S + pl * B) / B := by
    unfold fst
    exact (Int.add_mul_ediv_right _ _ (by omega)).symm
  rw [e, div_mod hB (by omega), decide_eq_true_iff]
  generalize ((D * B + T) * y + S + pl * B) % (wk * B) = r
  constructor
  · intro h
    have m := Int.mul_ediv_add_emod r B
    have m0 := Int.emod_nonneg r (show B ≠ 0 by omega)
    have m1 := Int.emod_lt_of_pos r hB
    rw [h, Int.mul_comm] at m
    omega
  · rintro ⟨lo, hi⟩
    have a1 := (Int.le_ediv_iff_mul_le hB).mpr lo
    have a2 : r / B < nm + 1 := (Int.ediv_lt_iff_lt_mul hB).mpr (by rw [Int.add_mul]; omega)
    omega
theorem ring_later {D T B S pl wk y : Int} (n : Nat) : ringAt D T B S pl wk (y + n) = (ringAt D T B S pl wk y + turnR (D * B + T) (wk * B) n) % (wk * B) := by
  unfold ringAt turnR
  rw [← Int.add_emod, Int.mul_add]
  congr 1
  omega
theorem hits_back {D T B S pl wk nm y : Int} (r3 : 1 ≤ B ∧ B ≤ 60) (hw : 1 ≤ wk ∧ wk ≤ 20) (hn : 0 ≤ nm ∧ nm < wk) (h : hits D T B S pl wk nm y = true) (n : Nat) :
    hits D T B S pl wk nm (y + n) = true ↔ Back (D * B + T) (wk * B) B (ringAt D T B S pl wk y - nm * B) n := by
  have hM := ring_bd r3 hw
  have at0 := (hits_ring r3 hw).mp h
  rw [hits_ring r3 hw, ring_later]
  have bt := turnR_bd (st := D * B + T) (M := wk * B) (by omega) n
  have n0 : 0 ≤ nm * B := Int.mul_nonneg hn.1 (by omega)
  have n1 : nm * B + B ≤ wk * B := by
    have := Int.mul_le_mul_of_nonneg_right (show nm + 1 ≤ wk by omega) (show 0 ≤ B by omega)
    rw [Int.add_mul] at this
    omega
  revert at0 bt hM n0 n1
  unfold Back
  generalize turnR (D * B + T) (wk * B) n = t
  generalize ringAt D T B S pl wk y = r
  generalize wk * B = M
  generalize nm * B = z
  intro hM at0 bt n0 n1
  by_cases lt : r + t < M
  · rw [Int.emod_eq_of_lt (by omega) lt]
    omega
  · rw [← Int.sub_emod_right, Int.emod_eq_of_lt (by omega) (by omega)]
    omega
/-- from a year with it to the next one with it -/
def Gap (f : Int → Bool) (y : Int) (k : Nat) : Prop := f y = true ∧ 1 ≤ k ∧ f (y + k) = true ∧ ∀ j : Nat, 1 ≤ j → j < k → f (y + j) = false
theorem gaps_three {D T B S pl wk nm : Int} (r1 : 1 ≤ D ∧ D ≤ 400) (r2 : 0 ≤ T ∧ T < B) (r3 : 1 ≤ B ∧ B ≤ 60) (hw : 1 ≤ wk ∧ wk ≤ 20) (hn : 0 ≤ nm ∧ nm < wk) :
    ∃ p q : Nat, ∀ y k, Gap (hits D T B S pl wk nm) y k → k = p ∨ k = q ∨ k = p + q := by
  have hM := ring_bd r3 hw
  have hBM : B ≤ wk * B := by
    have := Int.mul_le_mul_of_nonneg_right hw.1 (show 0 ≤ B by omega)
    omega
  have zero : turnR (D * B + T) (wk * B) (wk * B).toNat < B := by
    unfold turnR
    rw [show (((wk * B).toNat : Nat) : Int) = wk * B by omega, Int.mul_emod_left]
    omega
  obtain ⟨p, _, hp⟩ := least_of (Pr := fun n => turnR (D * B + T) (wk * B) n < B) (wk * B).toNat (by omega) zero
  obtain ⟨q, three⟩ := three_back (by omega) hBM hp
  refine ⟨p, q, fun y k ⟨h0, k1, hk, no⟩ => ?_⟩
  have at0 := (hits_ring r3 hw).mp h0
  refine three (ringAt D T B S pl wk y - nm * B) k (by omega) (by omega) ⟨k1, (hits_back r3 hw hn h0 k).mp hk, fun m m1 mk hb => ?_⟩
  have := (hits_back r3 hw hn h0 m).mpr hb
  rw [no m m1 mk] at this
  cases this

/-! ### the years with it in a row, and the ways from each to the next -/
/-- what comes behind each, the first one of the next turn behind the last -/
def nxs (xs : List Int) (c : Int) : List Int := xs.drop 1 ++ (xs.take 1).map (· + c)
theorem nxs_len (xs : List Int) (c : Int) : (nxs xs c).length = xs.length := by
  cases xs <;> simp [nxs]
theorem gap_one {f : Int → Bool} {y : Int} {k k' : Nat} (h : Gap f y k) (h' : Gap f y k') : k = k' := by
  obtain ⟨_, k1, hk, no⟩ := h
  obtain ⟨_, k1', hk', no'⟩ := h'
  rcases Nat.lt_trichotomy k k' with l | e | l
  · rw [no' k k1 l] at hk
    cases hk
  · exact e
  · rw [no k' k1' l] at hk'
    cases hk'
theorem nxs_gap {f : Int → Bool} {c : Nat} (per : ∀ y, f (y + c) = f y) {a : Int} {i : Nat} {y z : Int} (hy : (yrs f a c)[i]? = some y) (hz : (nxs (yrs f a c) c)[i]? = some z) : y < z ∧ Gap f y (z - y).toNat := by
  have up := yrs_up f a c
  have my := yrs_mem.mp (List.mem_of_getElem? hy)
  have next : y < z ∧ f z = true ∧ ∀ x, y < x → x < z → f x = false := by
    unfold nxs at hz
    by_cases last : i + 1 < (yrs f a c).length
    · rw [List.getElem?_append_left (by rw [List.length_drop]; omega), List.getElem?_drop] at hz
      have mz := yrs_mem.mp (List.mem_of_getElem? hz)
      refine ⟨up_at up hy hz (by omega), mz.2.2, fun x x1 x2 => ?_⟩
      cases hf : f x with
      | false => rfl
      | true =>
        have mx : x ∈ yrs f a c := yrs_mem.mpr ⟨by omega, by omega, hf⟩
        obtain ⟨j, hj⟩ := List.getElem?_of_mem mx
        rcases Nat.lt_trichotomy j i with l | e | l
        · have := up_at up hj hy l
          omega
        · rw [e, hy] at hj
          have := Option.some.inj hj
          omega
        · by_cases e : j = 1 + i
          · rw [e, hz] at hj
            have := Option.some.inj hj
            omega
          · have := up_at up hz hj (by omega)
            omega
    · obtain ⟨i1, iy⟩ := List.getElem?_eq_some_iff.mp hy
      have first : ∃ h, (yrs f a c)[0]? = some h := ⟨_, List.getElem?_eq_getElem (by omega)⟩
      obtain ⟨h, hh⟩ := first
      have mh := yrs_mem.mp (List.mem_of_getElem? hh)
      have ez : z = h + c := by
        rw [List.getElem?_append_right (by rw [List.length_drop]; omega), List.length_drop, List.getElem?_map, List.getElem?_take] at hz
        rw [show i - ((yrs f a c).length - 1) = 0 by omega, if_pos (by omega), hh] at hz
        exact (Option.some.inj hz).symm
      subst ez
      refine ⟨by omega, by rw [per]; exact mh.2.2, fun x x1 x2 => ?_⟩
      cases hf : f x with
      | false => rfl
      | true =>
        by_cases far : x < a + c
        · have mx : x ∈ yrs f a c := yrs_mem.mpr ⟨by omega, far, hf⟩
          obtain ⟨j, hj⟩ := List.getElem?_of_mem mx
          obtain ⟨j1, _⟩ := List.getElem?_eq_some_iff.mp hj
          by_cases e : j = i
          · rw [e, hy] at hj
            have := Option.some.inj hj
            omega
          · have := up_at up hj hy (by omega)
            omega
        · have back := per (x - c)
          rw [show x - (c : Int) + c = x by omega, hf] at back
          have mx : x - c ∈ yrs f a c := yrs_mem.mpr ⟨by omega, by omega, back.symm⟩
          obtain ⟨j, hj⟩ := List.getElem?_of_mem mx
          by_cases e : j = 0
          · rw [e, hh] at hj
            have := Option.some.inj hj
            omega
          · have := up_at up hh hj (by omega)
            omega
  refine ⟨next.1, my.2.2, by omega, ?_, fun j j1 j2 => next.2.2 _ (by omega) (by omega)⟩
  rw [show y + ((z - y).toNat : Int) = z by omega]
  exact next.2.1
theorem gap_later {f : Int → Bool} {c : Nat} (per : ∀ y, f (y + c) = f y) {y : Int} {k : Nat} (t : Int) (h : Gap f y k) : Gap f (y + t * c) k := by
  obtain ⟨h1, k1, hk, no⟩ := h
  have mv : ∀ j : Int, f (y + t * c + j) = f (y + j) := fun j => by
    rw [show y + t * (c : Int) + j = y + j + t * c by omega, per_many per]
  refine ⟨by rw [per_many per]; exact h1, k1, by rw [mv]; exact hk, fun j j1 j2 => by rw [mv]; exact no j j1 j2⟩
theorem gap_in {f : Int → Bool} {c : Nat} (per : ∀ y, f (y + c) = f y) (hc : 1 ≤ c) (a : Int) {y : Int} {k : Nat} (h : Gap f y k) : ∃ (i : Nat) (y' z' : Int), (yrs f a c)[i]? = some y' ∧ (nxs (yrs f a c) c)[i]? = some z' ∧ z' - y' = k := by
  have g := gap_later per (-((y - a) / c)) h
  have m0 := Int.emod_nonneg (y - a) (show (c : Int) ≠ 0 by omega)
  have m1 := Int.emod_lt_of_pos (y - a) (show (0 : Int) < c by omega)
  have dm := Int.mul_ediv_add_emod (y - a) (c : Int)
  have ey : y + -((y - a) / (c : Int)) * c = a + (y - a) % c := by
    rw [Int.neg_mul, Int.mul_comm]
    omega
  rw [ey] at g
  have mem : a + (y - a) % (c : Int) ∈ yrs f a c := yrs_mem.mpr ⟨by omega, by omega, g.1⟩
  obtain ⟨i, hi⟩ := List.getElem?_of_mem mem
  obtain ⟨i1, _⟩ := List.getElem?_eq_some_iff.mp hi
  have hz : (nxs (yrs f a c) c)[i]? = some ((nxs (yrs f a c) c)[i]'(by rw [nxs_len]; exact i1)) := List.getElem?_eq_getElem _
  refine ⟨i, _, _, hi, hz, ?_⟩
  have gz := nxs_gap per hi hz
  have := gap_one gz.2 g
  omega
/-- the ways themselves -/
def ways (xs : List Int) (c : Int) : List Int := List.zipWith (fun y z => z - y) xs (nxs xs c)
theorem ways_mem {f : Int → Bool} {c : Nat} (per : ∀ y, f (y + c) = f y) (hc : 1 ≤ c) (a : Int) {k : Int} : k ∈ ways (yrs f a c) c ↔ ∃ (y : Int) (n : Nat), k = n ∧ Gap f y n := by
  constructor
  · intro h
    obtain ⟨i, hi⟩ := List.getElem?_of_mem h
    unfold ways at hi
    rw [List.getElem?_zipWith] at hi
    cases e1 : (yrs f a c)[i]? with
    | none => rw [e1] at hi; cases hi
    | some y =>
      cases e2 : (nxs (yrs f a c) c)[i]? with
      | none => rw [e1, e2] at hi; cases hi
      | some z =>
        rw [e1, e2] at hi
        have g := nxs_gap per e1 e2
        have ek : z - y = k := Option.some.inj hi
        exact ⟨y, (z - y).toNat, by omega, g.2⟩
  · rintro ⟨y, n, rfl, g⟩
    obtain ⟨i, y', z', e1, e2, e3⟩ := gap_in per hc a g
    refine List.mem_of_getElem? (i := i) ?_
    unfold ways
    rw [List.getElem?_zipWith, e1, e2, ← e3]
theorem yearsL_yrs (f : Int → Bool) (a : Int) (n : Nat) : yearsL f a n = (yrs f a n).map V.int := by
  unfold yearsL given yrs
  rw [List.map_map]
  rfl
section
variable {P : Program} {w : World} {K : PySem.W.Frag} {mg : Str → Option Value} {base : Heap}
/-- what is told of lengths: rising, and just the ways from one such year to the next -/
def Told (f : Int → Bool) (ns : List Int) : Prop := ns.Pairwise (· < ·) ∧ ∀ k : Int, k ∈ ns ↔ ∃ (y : Int) (n : Nat), k = n ∧ Gap f y n
def spLen : Sp := fun vs H Q _ => ∃ v D T B S pl wk nm, vs = [v, .int pl, .int wk, .int nm] ∧ Asked H v D T B S pl wk nm ∧
  ∀ p H' ns, Told (hits D T B S pl wk nm) ns → H p = none → Ex H H' → H' p = some (.tup (ns.map V.int)) → Q (.ref p) H'
theorem ok_lengths (T : Txt K mg) : FnOk P w K mg base CX0 6 T.lengths.f T.lengths.fd ["land", "place", "week", "name"] spLen := by
  have G_need_asked : FnOk P w K mg base CX0 5 T.need_asked.f T.need_asked.fd ["land", "place", "week", "name"] spAsked := ok_need_asked T
  have G_cycle_of : FnOk P w K mg base CX0 3 T.cycle_of.f T.cycle_of.fd ["land", "week"] spCycle := ok_cycle_of T
  have G_falling_years : FnOk P w K mg base CX0 4 T.falling_years.f T.falling_years.fd ["land", "place", "week", "name", "first", "last"] spFalling := ok_falling_years T
  refine T.lengths.F.ok sc_lengths (fun vs H Q E h => ?_) (fun cdv A outer s H vs Q E hr h => ?_)
  · obtain ⟨_, _, _, _, _, _, _, _, rfl, _⟩ := h
    rfl
  · obtain ⟨v, D, T', B, S, pl, wk, nm, rfl, hA, q⟩ := h
    obtain ⟨⟨_, _, _, r1, r2, r3, r4⟩, hp, hw, hn⟩ := id hA
    have hc := cyc_bd r1 r2 r3 hw
    refine ⟨_, (pss_cons (ps_expr (pe_call G_need_asked (hr.mono (by omega)) (by rfl) T.need_asked.g T.need_asked.F.kp T.need_asked.b .nil pass0 (pa_cons (pv 0) (pa_cons (pv 1) (pa_cons (pv 2) (pa_cons (pv 3) pa_nil))))))
      (pss_cons (ps_set (i := 4) sc_lengths.nd rfl (Or.inr rfl) (pe_call G_cycle_of (hr.mono (by omega)) (by rfl) T.cycle_of.g T.cycle_of.F.kp T.cycle_of.b .nil pass0 (pa_cons (pv 0) (pa_cons (pv 2) pa_nil))))
      (pss_cons (ps_set (i := 5) sc_lengths.nd rfl (Or.inl rfl) (pe_call G_falling_years (hr.mono (by omega)) (by rfl) T.falling_years.g T.falling_years.F.kp T.falling_years.b .nil pass0 (pa_cons (pv 0) (pa_cons (pv 1) (pa_cons (pv 2) (pa_cons (pv 3) (pa_cons pe_int (pa_cons (pv 4) pa_nil))))))))
      (pss_cons (ps_set (i := 7) sc_lengths.nd rfl (Or.inl rfl) (pe_op op_catL (pe_slice sl_list (pv 5) (po_some pe_int) po_none) (pe_lc (own := [("year", 6)]) (g := gName 6) (by rfl) sc_lengths.nd (pi_list (pe_slice sl_list (pv 5) po_none (po_some pe_int))) (blkOk_by (own := [("year", 6)]) (N := ["land", "place", "week", "name", "cycle", "years", "year", "nexts", "found", "later"]) (sc := defScope s_lengths) (by decide +kernel)) (fun _ _ _ _ _ => (pg_name (i := 6) sc_lengths.nd rfl (Or.inl rfl))) (fun _ _ _ _ _ => pts_nil) (fun _ _ _ _ _ => (pe_op op_add (pv 6) (pv 4))))))
      (pss_cons (ps_set (i := 8) sc_lengths.nd rfl (Or.inl rfl) (pe_lst pa_nil))
      (pss_cons (ps_for PassesOwn.never rfl (pi_zip (by rfl) T.zip (pa_cons (pv 5) (pa_cons (pv 7) pa_nil))) (pg_tup rfl (pgs_cons (pg_name (i := 6) sc_lengths.nd rfl (Or.inl rfl)) (pgs_cons (pg_name (i := 9) sc_lengths.nd rfl (Or.inl rfl)) pgs_nil)))
        (pss_one (ps_if (pt_cmpR op_notIn_seq (pe_op op_sub (pv 9) (pv 6)) (pv 8) (by rfl))
        (pss_one (ps_expr (pe_bm PySem.F.plainAttrs_list PySem.F.slot_list_append PySem.F.type_list_append mt_append (pv 8) (pa_cons (pe_op op_sub (pv 9) (pv 6)) pa_nil))))
        pss_nil)))
      (pss_one (ps_ret (pe_callTy call_tuple_of (by rfl) T.tuple (by decide +kernel) (pa_cons (pe_callB cr_sorted (by rfl) T.sorted (by decide +kernel) (pa_cons (pv 8) pa_nil)) pa_nil)))))))))), ?_⟩
    refine ⟨_, rfl, _, rfl, _, rfl, _, rfl, v, D, T', B, S, pl, wk, nm, rfl, hA, fun H1 e1 => ?_⟩
    refine ⟨_, rfl, _, rfl, v, D, T', B, S, wk, rfl, hA.1.ex e1, hw, fun H2 e2 => ?_⟩
    have e12 := e1.trans e2
    refine ⟨_, rfl, _, rfl, _, rfl, _, rfl, _, rfl, v, D, T', B, S, pl, wk, nm, 0, cyc D T' B wk, rfl, hA.ex e12, by omega, fun ly H3 nly e3 h3 => ?_⟩
    rw [yearsL_yrs, show ((cyc D T' B wk : Int) - 0).toNat = cyc D T' B wk by omega] at h3
    have per : ∀ y, hits D T' B S pl wk nm (y + (cyc D T' B wk : Nat)) = hits D T' B S pl wk nm y := fun y => hits_cyc r1 r2 r3 hw
    obtain ⟨a3, three⟩ := gaps_three (D := D) (T := T') (B := B) (S := S) (pl := pl) (wk := wk) (nm := nm) r1 r2 r3 hw hn
    obtain ⟨b3, three⟩ := three
    have len : (yrs (hits D T' B S pl wk nm) 0 (cyc D T' B wk)).length ≤ 1200 := by
      unfold yrs
      rw [List.length_map]
      exact Nat.le_trans (List.length_filter_le _ _) (by rw [List.length_range]; omega)
    have wm := fun k : Int => ways_mem (k := k) per hc.1 0
    generalize hits D T' B S pl wk nm = f at h3 per three len wm q
    generalize cyc D T' B wk = c at h3 per hc len wm ⊢
    generalize hx : yrs f 0 c = xs at h3 len wm
    have e13 := e12.trans e3
    refine ⟨_, rfl, _, rfl, ly, _, rfl, sq_of h3, fun p1 n1 => ?_⟩
    have x1 := Ex.new (o := .lst (cutV (xs.map V.int) (some 1) none)) n1
    refine ⟨_, rfl, _, rfl, ly, _, rfl, sq_of (x1 _ _ h3), fun p2 n2 => ⟨p2, rfl, ⟨_, sq_of upd_same⟩, fun Dl hD => ?_⟩⟩
    have x2 := Ex.new (o := .lst (cutV (xs.map V.int) none (some 1))) n2
    have h2 : upd (upd H3 p1 (.lst (cutV (xs.map V.int) (some 1) none))) p2 (.lst (cutV (xs.map V.int) none (some 1))) p2 = some (.lst (cutV (xs.map V.int) none (some 1))) := upd_same
    have h1 := x2 p1 _ upd_same
    have h3' := (x1.trans x2) _ _ h3
    have e14 := e13.trans (x1.trans x2)
    revert hD h2 h1 h3' e14
    generalize upd (upd H3 p1 (.lst (cutV (xs.map V.int) (some 1) none))) p2 (.lst (cutV (xs.map V.int) none (some 1))) = H4
    intro hD h2 h1 h3' e14
    rw [cut_tail] at h1
    rw [cut_head, ← List.map_take] at h2
    refine lc_list (xs := (xs.take 1).map V.int) (Cw H4 (fun _ => true) (fun i => .int (((xs.take 1)[i]?.getD 0) + c)) Dl) ⟨hD, Ex.new hD, upd_same⟩ (fun _ H' _ p => sq_of (p.2.1 _ _ h2)) (fun i x H' hi p => ?_) (fun H' p => ?_)
    · have i1 : i < 1 := by
        obtain ⟨lt, _⟩ := List.getElem?_eq_some_iff.mp hi
        rw [List.length_map, List.length_take] at lt
        omega
      rw [List.getElem?_map] at hi
      refine ⟨rfl, cw_turn p (by omega) ?_ ?_⟩
      · exact fun Ha ea Qa qa => qa Ha (Ex.refl Ha)
      · intro _ Ha ea Qa qa
        cases hz : (xs.take 1)[i]? with
        | none => rw [hz] at hi; cases hi
        | some z =>
          rw [hz] at hi qa
          cases hi
          exact ⟨_, rfl, _, rfl, _, _, rfl, rfl, qa Ha (Ex.refl Ha)⟩
    obtain ⟨_, e5, h5⟩ := p
    rw [given_all, show ((xs.take 1).map V.int).length = (xs.take 1).length from List.length_map _, range_ints (xs.take 1) (· + (c : Int))] at h5
    refine ⟨p1, Dl, _, _, rfl, rfl, sq_of (e5 _ _ h1), sq_of h5, by rw [List.length_drop, List.length_map, List.length_map, List.length_map, List.length_take]; show _ ≤ sizeLine; rw [sizeLine_eq]; omega, fun p6 n6 => ?_⟩
    rw [← List.map_drop, ← List.map_append, show xs.drop 1 ++ (xs.take 1).map (· + (c : Int)) = nxs xs c from rfl]
    have x6 := Ex.new (o := .lst ((nxs xs c).map V.int)) n6
    have h6 : upd H' p6 (.lst ((nxs xs c).map V.int)) p6 = some (.lst ((nxs xs c).map V.int)) := upd_same
    have hy6 := (e5.trans x6) _ _ h3'
    have e16 := e14.trans (e5.trans x6)
    revert h6 hy6 e16
    generalize upd H' p6 (.lst ((nxs xs c).map V.int)) = H6
    intro h6 hy6 e16
    refine ⟨Nat.zero_le _, fun lf nf => ?_⟩
    have x7 := Ex.new (o := .lst []) nf
    have e17 := e16.trans x7
    refine ⟨_, rfl, _, rfl, ly, p6, _, _, rfl, sq_of (x7 _ _ hy6), sq_of (x7 _ _ h6), ?_⟩
    have nly : ly ≠ lf := fun z => by
      rw [z, nf] at hy6
      cases hy6
    have n6 : p6 ≠ lf := fun z => by
      rw [z, nf] at h6
      cases h6
    have nH : H lf = none := fresh_back e16 nf
    refine for_it (walk_zip (n := xs.length) (by rw [List.length_map, List.length_map, nxs_len, Nat.min_self])) (fun i σ H' => (∃ z1 z2, σ = [some v, some (.int pl), some (.int wk), some (.int nm), some (.int c), some (.ref ly), z1, some (.ref p6), some (.ref lf), z2]) ∧ Ex H H' ∧ H' ly = some (.lst (xs.map V.int)) ∧ H' p6 = some (.lst ((nxs xs c).map V.int)) ∧ ∃ acc : List Int, H' lf = some (.lst (acc.map V.int)) ∧ acc.Nodup ∧ ∀ k, k ∈ acc ↔ k ∈ (ways xs c).take i) ⟨⟨_, _, rfl⟩, e17, x7 _ _ hy6, x7 _ _ h6, [], upd_same, List.nodup_nil, fun k => by simp⟩ (fun _ _ _ _ p => ⟨sq_of p.2.2.1, sq_of p.2.2.2.1⟩) ?_ ?_
    · rintro i x σ H7 H8 hi ⟨⟨z1, z2, rfl⟩, e7, hy7, h7, acc, ha, nd, am⟩ ⟨tp, yv, zv, rfl, ntp, rfl, hyv, hzv⟩
      obtain ⟨y, hy, rfl⟩ : ∃ y, xs[i]? = some y ∧ yv = .int y := by
        replace hyv : (xs.map V.int)[i]? = some yv := hyv
        rw [List.getElem?_map] at hyv
        cases hz : xs[i]? with
        | none => rw [hz] at hyv; cases hyv
        | some y => rw [hz] at hyv; cases hyv; exact ⟨y, rfl, rfl⟩
      obtain ⟨z, hz, rfl⟩ : ∃ z, (nxs xs c)[i]? = some z ∧ zv = .int z := by
        replace hzv : ((nxs xs c).map V.int)[i]? = some zv := hzv
        rw [List.getElem?_map] at hzv
        cases hz : (nxs xs c)[i]? with
        | none => rw [hz] at hzv; cases hzv
        | some z => rw [hz] at hzv; cases hzv; exact ⟨z, rfl, rfl⟩
      have wi : (ways xs c)[i]? = some (z - y) := by
        unfold ways
        rw [List.getElem?_zipWith, hy, hz]
      have step : ∀ k, k ∈ (ways xs c).take (i + 1) ↔ k ∈ (ways xs c).take i ∨ k = z - y := fun k => by
        rw [List.take_add_one, wi, List.mem_append, Option.mem_toList]
        constructor
        · rintro (h | h)
          · exact .inl h
          · exact .inr (Option.some.inj h).symm
        · rintro (h | h)
          · exact .inl h
          · exact .inr (by rw [h])
      have x8 := Ex.new (o := .tup [.int y, .int z]) ntp
      have ha8 := x8 _ _ ha
      refine ⟨tp, _, rfl, st_of upd_same, rfl, _, _, rfl, _, _, rfl, rfl, ?_⟩
      refine ⟨_, rfl, _, rfl, _, _, rfl, rfl, _, rfl, lf, _, rfl, .inl (sq_of ha8), rfl, flat_ints acc, _, rfl, ?_⟩
      rw [inV_int]
      by_cases mem : z - y ∈ acc
      · rw [decide_eq_true mem]
        refine iteF ⟨⟨_, _, rfl⟩, e7.trans x8, x8 _ _ hy7, x8 _ _ h7, acc, ha8, nd, fun k => ?_⟩
        rw [step, am]
        constructor
        · exact .inl
        · rintro (h | h)
          · exact h
          · exact h ▸ (am _).mp mem
      · rw [decide_eq_false mem]
        have small : acc.length ≤ 3 := few (ys := [(a3 : Int), b3, ((a3 + b3 : Nat) : Int)]) nd fun k hk => by
          have := (am k).mp hk
          obtain ⟨yy, n, rfl, g⟩ := (wm k).mp (List.mem_of_mem_take this)
          rcases three yy n g with rfl | rfl | rfl <;> simp
        refine iteT ⟨_, rfl, .inl ⟨rfl, _, sq_of ha8⟩, _, rfl, _, rfl, _, _, rfl, rfl, lf, _, _, rfl, rfl, ha8, by rw [List.length_map, sizeLine_eq]; omega, ?_⟩
        refine ⟨⟨_, _, rfl⟩, ex_put (e7.trans x8) nH, ?_, ?_, acc ++ [z - y], ?_, ?_, fun k => ?_⟩
        · rw [upd_ne nly]; exact x8 _ _ hy7
        · rw [upd_ne n6]; exact x8 _ _ h7
        · rw [upd_same, List.map_append]; rfl
        · rw [List.nodup_append]
          refine ⟨nd, by simp, fun u hu v' hv e => ?_⟩
          rw [List.mem_singleton] at hv
          exact mem (by rw [← hv, ← e]; exact hu)
        · rw [step, List.mem_append, List.mem_singleton, am]
    · rintro σ H7 ⟨⟨z1, z2, rfl⟩, e7, hy7, h7, acc, ha, nd, am⟩
      have full : (ways xs c).take xs.length = ways xs c := List.take_of_length_le (by unfold ways; rw [List.length_zipWith, nxs_len]; omega)
      rw [full] at am
      have small : acc.length ≤ 3 := few (ys := [(a3 : Int), b3, ((a3 + b3 : Nat) : Int)]) nd fun k hk => by
        obtain ⟨yy, n, rfl, g⟩ := (wm k).mp ((am k).mp hk)
        rcases three yy n g with rfl | rfl | rfl <;> simp
      refine ⟨_, rfl, lf, acc, rfl, sq_of ha, by omega, fun ns ps pm up nps => ?_⟩
      have x9 := Ex.new (o := .lst (ns.map V.int)) nps
      refine ⟨ps, _, rfl, .inl ⟨sq_of upd_same, fun pt npt => ?_⟩⟩
      have x10 := Ex.new (o := .tup (ns.map V.int)) npt
      refine q pt _ ns ⟨?_, fun k => ?_⟩ (fresh_back (e7.trans x9) npt) ((e7.trans x9).trans x10) upd_same
      · have nd' : ns.Nodup := pm.nodup_iff.mpr nd
        refine List.Pairwise.imp₂ ?_ up nd'
        intro u v' h1 h2
        omega
      · rw [pm.mem_iff, am, wm]
end

section
variable {K : PySem.W.Frag} {H : Hp} {Q : VK} {σ : L2.St} {a b : Addr} {i j k : Nat} {xs zs : List Int}
theorem nextY_list {v : V} {D T B S pl wk nm y : Int} {E : XK} (hA : Asked H v D T B S pl wk nm) (hy : Far' y) (q : RetV (hd (yrs (hits D T B S pl wk nm) y (cyc D T B wk))) H Q) : spNextY [v, .int pl, .int wk, .int nm, .int y] H Q E := by
  refine ⟨v, D, T, B, S, pl, wk, nm, y, rfl, hA, hy, fun k kc hk before => ?_, fun no => ?_⟩
  · rw [hd_first kc hk before] at q
    exact q
  · rw [hd_none no] at q
    exact q
end
theorem bez (a b : Nat) : ∃ u v : Int, u * a + v * b = Nat.gcd a b := by
  induction b using Nat.strongRecOn generalizing a with
  | ind b ih =>
    by_cases h : b = 0
    · subst h
      exact ⟨1, 0, by simp⟩
    · obtain ⟨u, v, e⟩ := ih (a % b) (Nat.mod_lt a (by omega)) b
      refine ⟨v, u - v * (a / b : Nat), ?_⟩
      have g : Nat.gcd b (a % b) = Nat.gcd a b := by rw [Nat.gcd_comm a b, Nat.gcd_rec b a, Nat.gcd_comm]
      have d : (a : Int) = b * (a / b : Nat) + (a % b : Nat) := by
        have := Nat.div_add_mod a b
        omega
      rw [← g, ← e, Int.sub_mul]
      have : v * (a : Int) = v * (b * (a / b : Nat)) + v * (a % b : Nat) := by rw [← Int.mul_add, ← d]
      have : v * (b * ((a / b : Nat) : Int)) = v * (a / b : Nat) * b := by rw [Int.mul_comm (b : Int), Int.mul_assoc]
      omega
/-! ### measures that bar -/
def barI (D T B S pl wk nm m : Int) : Bool := decide ((D * B + T) % m = 0) && (decide (wk * B % m = 0) && !((List.range B.toNat).any fun (j : Nat) => decide ((nm * B + j) % m = (S + pl * B) % m)))
theorem barI_iff {D T B S pl wk nm m : Int} : barI D T B S pl wk nm m = true ↔ m ∣ D * B + T ∧ m ∣ wk * B ∧ ∀ j : Nat, j < B.toNat → (nm * B + j) % m ≠ (S + pl * B) % m := by
  unfold barI
  simp only [Bool.and_eq_true, decide_eq_true_eq, Bool.not_eq_true', List.any_eq_false, List.mem_range]
  rw [Int.dvd_iff_emod_eq_zero, Int.dvd_iff_emod_eq_zero]
/-- what bars, bars every year -/
theorem bar_none {D T B S pl wk nm m : Int} (r3 : 1 ≤ B ∧ B ≤ 60) (hw : 1 ≤ wk ∧ wk ≤ 20) (h : barI D T B S pl wk nm m = true) (y : Int) : hits D T B S pl wk nm y = false := by
  cases e : hits D T B S pl wk nm y with
  | false => rfl
  | true =>
    obtain ⟨⟨u, hu⟩, ⟨z, hz⟩, no⟩ := barI_iff.mp h
    have at_ := (hits_ring r3 hw).mp e
    have dm := Int.mul_ediv_add_emod ((D * B + T) * y + S + pl * B) (wk * B)
    have er : ringAt D T B S pl wk y = ((D * B + T) * y + S + pl * B) % (wk * B) := rfl
    have b0 : 0 ≤ ringAt D T B S pl wk y - nm * B := by omega
    refine absurd ?_ (no (ringAt D T B S pl wk y - nm * B).toNat (by omega))
    rw [show nm * B + (((ringAt D T B S pl wk y - nm * B).toNat : Nat) : Int) = ringAt D T B S pl wk y by omega, er]
    have split : ((D * B + T) * y + S + pl * B) % (wk * B) = (S + pl * B) + m * (u * y - z * (((D * B + T) * y + S + pl * B) / (wk * B))) := by
      have e1 : (D * B + T) * y = m * (u * y) := by rw [hu, Int.mul_assoc]
      have e2 : wk * B * (((D * B + T) * y + S + pl * B) / (wk * B)) = m * (z * (((D * B + T) * y + S + pl * B) / (wk * B))) := by
        rw [← Int.mul_assoc m z, ← hz]
      rw [Int.mul_sub]
      omega
    rw [split, Int.add_mul_emod_self_left]
/-- where no year has it, the greatest measure bars -/
theorem none_bar {D T B S pl wk nm : Int} (r1 : 1 ≤ D ∧ D ≤ 400) (r2 : 0 ≤ T ∧ T < B) (r3 : 1 ≤ B ∧ B ≤ 60) (hw : 1 ≤ wk ∧ wk ≤ 20) (hn : 0 ≤ nm ∧ nm < wk) (no : ∀ y, hits D T B S pl wk nm y = false) :
    barI D T B S pl wk nm (Nat.gcd (D * B + T).toNat (wk * B).toNat : Nat) = true := by
  have hs := step_bd r1 r2 r3
  have hg := ring_bd r3 hw
  have cs : (((D * B + T).toNat : Nat) : Int) = D * B + T := by omega
  have cr : (((wk * B).toNat : Nat) : Int) = wk * B := by omega
  have d1 : ((Nat.gcd (D * B + T).toNat (wk * B).toNat : Nat) : Int) ∣ D * B + T := by
    have := Int.natCast_dvd_natCast.mpr (Nat.gcd_dvd_left (D * B + T).toNat (wk * B).toNat)
    rwa [cs] at this
  have d2 : ((Nat.gcd (D * B + T).toNat (wk * B).toNat : Nat) : Int) ∣ wk * B := by
    have := Int.natCast_dvd_natCast.mpr (Nat.gcd_dvd_right (D * B + T).toNat (wk * B).toNat)
    rwa [cr] at this
  refine barI_iff.mpr ⟨d1, d2, fun j hj e => ?_⟩
  obtain ⟨u, v, bz⟩ := bez (D * B + T).toNat (wk * B).toNat
  rw [cs, cr] at bz
  obtain ⟨t, ht⟩ : ((Nat.gcd (D * B + T).toNat (wk * B).toNat : Nat) : Int) ∣ (nm * B + j) - (S + pl * B) := Int.dvd_iff_emod_eq_zero.mpr (Int.emod_eq_emod_iff_emod_sub_eq_zero.mp e)
  have n0 : 0 ≤ nm * B := Int.mul_nonneg hn.1 (by omega)
  have n1 : nm * B + B ≤ wk * B := by
    have := Int.mul_le_mul_of_nonneg_right (show nm + 1 ≤ wk by omega) (show 0 ≤ B by omega)
    rw [Int.add_mul] at this
    omega
  have hit : hits D T B S pl wk nm (u * t) = true := by
    rw [hits_ring r3 hw]
    have er : ringAt D T B S pl wk (u * t) = nm * B + j := by
      unfold ringAt
      have e1 : (D * B + T) * (u * t) + S + pl * B = (nm * B + j) + wk * B * (-(v * t)) := by
        rw [← bz, Int.add_mul] at ht
        have a1 : (D * B + T) * (u * t) = u * (D * B + T) * t := by rw [← Int.mul_assoc, Int.mul_comm (D * B + T) u]
        have a2 : wk * B * (-(v * t)) = -(v * (wk * B) * t) := by rw [Int.mul_neg, ← Int.mul_assoc, Int.mul_comm (wk * B) v]
        omega
      rw [e1, Int.add_mul_emod_self_left, Int.emod_eq_of_lt (by omega) (by omega)]
    rw [er]
    omega
  rw [no] at hit
  cases hit
/-- told lengths are none just where no year has it -/
theorem told_none {f : Int → Bool} {c : Nat} (per : ∀ y, f (y + c) = f y) (hc : 1 ≤ c) {ns : List Int} (h : ns.Pairwise (· < ·) ∧ ∀ k : Int, k ∈ ns ↔ ∃ (y : Int) (n : Nat), k = n ∧ Gap f y n) : ns = [] ↔ ∀ y, f y = false := by
  constructor
  · rintro rfl y
    cases e : f y with
    | false => rfl
    | true =>
      obtain ⟨k, _, k1, hk, no⟩ := least_of (Pr := fun n => f (y + n) = true) c hc (by rw [per]; exact e)
      have := (h.2 k).mpr ⟨y, k, rfl, e, k1, hk, fun j j1 jk => by
        cases z : f (y + j) with
        | false => rfl
        | true => exact absurd z (no j j1 jk)⟩
      cases this
  · intro no
    cases ns with
    | nil => rfl
    | cons k ns =>
      obtain ⟨y, n, _, g, _⟩ := (h.2 k).mp List.mem_cons_self
      rw [no] at g
      cases g
theorem three_sum {p q : Nat} {x y z : Int} (hx : 1 ≤ x) (xy : x < y) (yz : y < z) (ex : x = p ∨ x = q ∨ x = (p + q : Nat)) (ey : y = p ∨ y = q ∨ y = (p + q : Nat)) (ez : z = p ∨ z = q ∨ z = (p + q : Nat)) : z = x + y := by
  rcases ex with ex | ex | ex <;> rcases ey with ey | ey | ey <;> rcases ez with ez | ez | ez <;> omega
/-- each year has one day of the week: all together have all -/
theorem cnt_all {D T B S pl wk a : Int} (hw : 1 ≤ wk) (n : Nat) : ((List.range wk.toNat).map fun (i : Nat) => ((cnt (hits D T B S pl wk i) a n : Nat) : Int)).sum = n := by
  induction n with
  | zero =>
    have : ∀ l : List Nat, (l.map fun (i : Nat) => ((cnt (hits D T B S pl wk i) a 0 : Nat) : Int)).sum = 0 := fun l => by
      induction l with
      | nil => rfl
      | cons x l ih => rw [List.map_cons, List.sum_cons, ih] <;> rfl
    exact this _
  | succ n ih =>
    have one : ∀ m : Nat, (m : Int) ≤ wk → ((List.range m).map fun (i : Nat) => ((cnt (hits D T B S pl wk i) a (n + 1) : Nat) : Int)).sum = ((List.range m).map fun (i : Nat) => ((cnt (hits D T B S pl wk i) a n : Nat) : Int)).sum + (if (fst D T B S (a + n) + pl) % wk < m then 1 else 0) := by
      intro m
      induction m with
      | zero =>
        intro _
        have := Int.emod_nonneg (fst D T B S (a + n) + pl) (show wk ≠ 0 by omega)
        rw [if_neg (by omega)]
        rfl
      | succ m ihm =>
        intro hm
        rw [List.range_succ, List.map_append, List.map_append, List.sum_append_int, List.sum_append_int, ihm (by omega)]
        simp only [List.map_nil, List.map_cons, List.sum_nil, List.sum_cons]
        have cs := cnt_succ (f := hits D T B S pl wk m) (a := a) n
        have hh : hits D T B S pl wk m (a + n) = decide ((fst D T B S (a + n) + pl) % wk = m) := rfl
        rw [hh] at cs
        have := Int.emod_nonneg (fst D T B S (a + n) + pl) (show wk ≠ 0 by omega)
        generalize (fst D T B S (a + n) + pl) % wk = r at this cs ⊢
        by_cases e : r = m
        · rw [decide_eq_true e, if_pos rfl] at cs
          rw [if_neg (by omega), if_pos (by omega)]
          omega
        · rw [decide_eq_false e, if_neg (by decide)] at cs
          by_cases l : r < m
          · rw [if_pos l, if_pos (by omega)]
            omega
          · rw [if_neg l, if_neg (by omega)]
            omega
    have w := one wk.toNat (by omega)
    have lt := Int.emod_lt_of_pos (fst D T B S (a + n) + pl) (show 0 < wk by omega)
    rw [if_pos (by omega), ih] at w
    rw [w, Int.natCast_add]
    rfl

section
variable {P : Program} {w : World} {K : PySem.W.Frag} {mg : Str → Option Value} {base : Heap}
theorem ring_mod {B nm m : Int} (n : Nat) : ((List.range n).map fun (j : Nat) => V.int ((nm * B + j) % m)) = ((List.range n).map fun (j : Nat) => (nm * B + j) % m).map V.int := by
  rw [List.map_map]
  rfl
def spBars : Sp := fun vs H Q _ => ∃ v D T B S pl wk nm m, vs = [v, .int pl, .int wk, .int nm, .int m] ∧ Asked H v D T B S pl wk nm ∧ 0 < m ∧ RetV (.bl (barI D T B S pl wk nm m)) H Q
theorem ok_is_barring (T : Txt K mg) : FnOk P w K mg base CX0 2 T.is_barring.f T.is_barring.fd ["land", "place", "week", "name", "measure"] spBars := by
  have G_step_of : FnOk P w K mg base CX0 1 T.step_of.f T.step_of.fd ["land"] spStep := ok_step_of T
  have G_ring_of : FnOk P w K mg base CX0 1 T.ring_of.f T.ring_of.fd ["land", "week"] spRing := ok_ring_of T
  refine T.is_barring.F.ok sc_is_barring (fun vs H Q E h => ?_) (fun cdv A outer s H vs Q E hr h => ?_)
  · obtain ⟨_, _, _, _, _, _, _, _, _, rfl, _⟩ := h
    rfl
  · obtain ⟨v, D, T', B, S, pl, wk, nm, m, rfl, hA, hm, q⟩ := h
    obtain ⟨hL, hp, hw, hn⟩ := id hA
    obtain ⟨a, rfl, ha, r1, r2, r3, r4⟩ := id hL
    have hs := step_bd r1 r2 r3
    have hg := ring_bd r3 hw
    refine ⟨_, (pss_cons (ps_asg (pv 0) (pg_tup rfl (pgs_cons (pg_name (i := 5) sc_is_barring.nd rfl (Or.inl rfl)) (pgs_cons (pg_name (i := 6) sc_is_barring.nd rfl (Or.inl rfl)) (pgs_cons (pg_name (i := 7) sc_is_barring.nd rfl (Or.inl rfl)) (pgs_cons (pg_name (i := 8) sc_is_barring.nd rfl (Or.inl rfl)) pgs_nil))))))
      (pss_cons (ps_if (PW.pt (pw_or (pt_cmpR op_ne (pe_op op_mod (pe_call G_step_of (hr.mono (by omega)) (by rfl) T.step_of.g T.step_of.F.kp T.step_of.b .nil pass0 (pa_cons (pv 0) pa_nil)) (pv 4)) pe_int (nomark _)) (pw_or1 (pt_cmpR op_ne (pe_op op_mod (pe_call G_ring_of (hr.mono (by omega)) (by rfl) T.ring_of.g T.ring_of.F.kp T.ring_of.b .nil pass0 (pa_cons (pv 0) (pa_cons (pv 2) pa_nil))) (pv 4)) pe_int (nomark _)))))
        (pss_one (ps_ret pe_bl))
        pss_nil)
      (pss_cons (ps_set (i := 9) sc_is_barring.nd rfl (Or.inl rfl) (pe_op op_mul (pv 3) (pv 7)))
      (pss_cons (ps_set (i := 10) sc_is_barring.nd rfl (Or.inl rfl) (pe_op op_mod (pe_op op_add (pv 8) (pe_op op_mul (pv 1) (pv 7))) (pv 4)))
      (pss_one (ps_ret (pe_cmpR op_notIn_seq (pv 10) (pe_lc (own := [("number", 11)]) (g := gName 11) (by rfl) sc_is_barring.nd (pi_span rfl T.range (pa_cons (pv 9) (pa_cons (pe_op op_add (pv 9) (pv 7)) pa_nil))) (blkOk_by (own := [("number", 11)]) (N := ["land", "place", "week", "name", "measure", "days", "top", "bottom", "shift", "least", "left", "number"]) (sc := defScope s_is_barring) (by decide +kernel)) (fun _ _ _ _ _ => (pg_name (i := 11) sc_is_barring.nd rfl (Or.inl rfl))) (fun _ _ _ _ _ => pts_nil) (fun _ _ _ _ _ => (pe_op op_mod (pv 11) (pv 4)))) (by rfl)))))))), ?_⟩
    refine ⟨_, rfl, a, _, rfl, st_of ha, rfl, _, _, rfl, _, _, rfl, _, _, rfl, _, _, rfl, rfl, ?_⟩
    have dec : ∀ i : Int, decide (V.int i = V.int 0) = decide (i = 0) := fun i => by simp
    refine ⟨_, rfl, _, D, T', B, S, rfl, hL, fun H1 e1 => ⟨_, rfl, _, _, rfl, rfl, hm, rfl, _, rfl, ?_⟩⟩
    rw [dec]
    by_cases h1 : (D * B + T') % m = 0
    · rw [decide_eq_true h1]
      refine iteF ⟨_, rfl, _, rfl, _, D, T', B, S, wk, rfl, hL.ex e1, hw, fun H2 e2 => ⟨_, rfl, _, _, rfl, rfl, hm, rfl, _, rfl, ?_⟩⟩
      rw [dec]
      have e12 := e1.trans e2
      by_cases h2 : wk * B % m = 0
      · rw [decide_eq_true h2]
        refine iteF ⟨_, rfl, _, rfl, _, _, rfl, rfl, cm_l (by omega), ?_⟩
        refine ⟨_, rfl, _, rfl, _, rfl, _, _, rfl, rfl, cm_l (by omega), _, _, rfl, rfl, _, rfl, _, _, rfl, rfl, hm, ?_⟩
        refine ⟨_, rfl, _, rfl, _, rfl, _, rfl, _, _, rfl, rfl, _, _, rfl, fun Dl hD => ?_⟩
        refine lc_it walk_itF (Cw H2 (fun _ => true) (fun j => .int ((nm * B + (j : Nat)) % m)) Dl) ⟨hD, Ex.new hD, upd_same⟩ (fun _ _ _ _ => True.intro) (fun i x H' H'' hi p y => y.1 ▸ y.2 ▸ ⟨rfl, cw_turn p (by omega) ?_ ?_⟩) (fun H' p => ?_)
        · exact fun Ha ea Qa qa => qa Ha (Ex.refl Ha)
        · intro _ Ha ea Qa qa
          exact ⟨_, rfl, _, rfl, _, _, rfl, rfl, hm, qa Ha (Ex.refl Ha)⟩
        obtain ⟨_, e3, h3⟩ := p
        rw [show (nm * B + B - nm * B).toNat = B.toNat by omega, given_all, ring_mod] at h3
        refine ⟨Dl, _, rfl, .inl (sq_of h3), rfl, flat_ints _, ?_⟩
        rw [inV_any]
        have z := q H' (e12.trans e3)
        unfold barI at z
        rw [decide_eq_true h1, decide_eq_true h2, Bool.true_and, Bool.true_and] at z
        exact z
      · rw [decide_eq_false h2]
        have z := q H2 e12
        unfold barI at z
        rw [decide_eq_false h2, Bool.false_and, Bool.and_false] at z
        exact iteT z
    · rw [decide_eq_false h1]
      have z := q H1 e1
      unfold barI at z
      rw [decide_eq_false h1, Bool.false_and] at z
      exact iteT (iteT z)
def spBarring : Sp := fun vs H Q _ => ∃ v D T B S pl wk nm, vs = [v, .int pl, .int wk, .int nm] ∧ Asked H v D T B S pl wk nm ∧
  ((∀ y, hits D T B S pl wk nm y = false) → RetV (.int (Nat.gcd (D * B + T).toNat (wk * B).toNat : Nat)) H Q) ∧ ((∃ y, hits D T B S pl wk nm y = true) → RetV .non H Q)
theorem ok_barring (T : Txt K mg) : FnOk P w K mg base CX0 6 T.barring.f T.barring.fd ["land", "place", "week", "name"] spBarring := by
  have G_need_asked : FnOk P w K mg base CX0 5 T.need_asked.f T.need_asked.fd ["land", "place", "week", "name"] spAsked := ok_need_asked T
  have G_shared_measure : FnOk P w K mg base CX0 2 T.shared_measure.f T.shared_measure.fd ["land", "week"] spShared := ok_shared_measure T
  have G_is_barring : FnOk P w K mg base CX0 2 T.is_barring.f T.is_barring.fd ["land", "place", "week", "name", "measure"] spBars := ok_is_barring T
  refine T.barring.F.ok sc_barring (fun vs H Q E h => ?_) (fun cdv A outer s H vs Q E hr h => ?_)
  · obtain ⟨_, _, _, _, _, _, _, _, rfl, _⟩ := h
    rfl
  · obtain ⟨v, D, T', B, S, pl, wk, nm, rfl, hA, q1, q2⟩ := h
    obtain ⟨⟨_, _, _, r1, r2, r3, r4⟩, hp, hw, hn⟩ := id hA
    have hs := step_bd r1 r2 r3
    have g0 := gcd_pos (a := (D * B + T').toNat) (b := (wk * B).toNat) (by omega)
    refine ⟨_, (pss_cons (ps_expr (pe_call G_need_asked (hr.mono (by omega)) (by rfl) T.need_asked.g T.need_asked.F.kp T.need_asked.b .nil pass0 (pa_cons (pv 0) (pa_cons (pv 1) (pa_cons (pv 2) (pa_cons (pv 3) pa_nil))))))
      (pss_cons (ps_set (i := 4) sc_barring.nd rfl (Or.inl rfl) (pe_call G_shared_measure (hr.mono (by omega)) (by rfl) T.shared_measure.g T.shared_measure.F.kp T.shared_measure.b .nil pass0 (pa_cons (pv 0) (pa_cons (pv 2) pa_nil))))
      (pss_cons (ps_if (pt_val (pe_call G_is_barring (hr.mono (by omega)) (by rfl) T.is_barring.g T.is_barring.F.kp T.is_barring.b .nil pass0 (pa_cons (pv 0) (pa_cons (pv 1) (pa_cons (pv 2) (pa_cons (pv 3) (pa_cons (pv 4) pa_nil)))))))
        (pss_one (ps_ret (pv 4)))
        pss_nil)
      (pss_one (ps_ret pe_non))))), ?_⟩
    refine ⟨_, rfl, _, rfl, _, rfl, _, rfl, v, D, T', B, S, pl, wk, nm, rfl, hA, fun H1 e1 => ?_⟩
    refine ⟨_, rfl, _, rfl, v, D, T', B, S, wk, rfl, hA.1.ex e1, hw, fun H2 e2 => ?_⟩
    have e12 := e1.trans e2
    refine ⟨_, rfl, _, rfl, _, rfl, _, rfl, _, rfl, v, D, T', B, S, pl, wk, nm, _, rfl, hA.ex e12, by omega, fun H3 e3 => ⟨_, rfl, ?_⟩⟩
    have e13 := e12.trans e3
    cases hb : barI D T' B S pl wk nm (Nat.gcd (D * B + T').toNat (wk * B).toNat : Nat) with
    | true => exact iteT ⟨_, rfl, q1 (bar_none r3 hw hb) H3 e13⟩
    | false =>
      have some_ : ∃ y, hits D T' B S pl wk nm y = true := Classical.byContradiction fun no => by
        have := none_bar (S := S) (pl := pl) r1 r2 r3 hw hn fun y => by
          cases e : hits D T' B S pl wk nm y with
          | false => rfl
          | true => exact absurd ⟨y, e⟩ no
        rw [hb] at this
        cases this
      exact iteF (q2 some_ H3 e13)
/-- of anything whether it bars -/
def barV (D T B S pl wk nm : Int) : V → Bool
  | .int m => decide (m > 0) && barI D T B S pl wk nm m
  | _ => false
theorem barV_yes {D T B S pl wk nm i : Int} (h : 0 < i) : barV D T B S pl wk nm (.int i) = barI D T B S pl wk nm i := by
  show (decide (i > 0) && barI D T B S pl wk nm i) = _
  rw [decide_eq_true (show i > 0 from h), Bool.true_and]
theorem barV_no {D T B S pl wk nm i : Int} (h : ¬ 0 < i) : barV D T B S pl wk nm (.int i) = false := by
  show (decide (i > 0) && barI D T B S pl wk nm i) = _
  rw [decide_eq_false (show ¬ i > 0 from h), Bool.false_and]
def spBarsV : Sp := fun vs H Q _ => ∃ v D T B S pl wk nm x t, vs = [v, .int pl, .int wk, .int nm, x] ∧ Asked H v D T B S pl wk nm ∧ Dat H x t ∧ RetV (.bl (barV D T B S pl wk nm x)) H Q
theorem ok_bars (T : Txt K mg) : FnOk P w K mg base CX0 6 T.bars.f T.bars.fd ["land", "place", "week", "name", "thing"] spBarsV := by
  have G_need_asked : FnOk P w K mg base CX0 5 T.need_asked.f T.need_asked.fd ["land", "place", "week", "name"] spAsked := ok_need_asked T
  have G_is_whole : FnOk P w K mg base CX0 1 T.is_whole.f T.is_whole.fd ["thing"] spWhole := ok_is_whole T
  have G_is_barring : FnOk P w K mg base CX0 2 T.is_barring.f T.is_barring.fd ["land", "place", "week", "name", "measure"] spBars := ok_is_barring T
  refine T.bars.F.ok sc_bars (fun vs H Q E h => ?_) (fun cdv A outer s H vs Q E hr h => ?_)
  · obtain ⟨_, _, _, _, _, _, _, _, _, _, rfl, _⟩ := h
    rfl
  · obtain ⟨v, D, T', B, S, pl, wk, nm, x, t, rfl, hA, dx, q⟩ := h
    refine ⟨_, (pss_cons (ps_expr (pe_call G_need_asked (hr.mono (by omega)) (by rfl) T.need_asked.g T.need_asked.F.kp T.need_asked.b .nil pass0 (pa_cons (pv 0) (pa_cons (pv 1) (pa_cons (pv 2) (pa_cons (pv 3) pa_nil))))))
      (pss_one (ps_ret (pe_and (pe_call G_is_whole (hr.mono (by omega)) (by rfl) T.is_whole.g T.is_whole.F.kp T.is_whole.b .nil pass0 (pa_cons (pv 4) pa_nil)) (pe_and (pe_cmpR op_gt (pv 4) pe_int (nomark _)) (pe_one (pe_call G_is_barring (hr.mono (by omega)) (by rfl) T.is_barring.g T.is_barring.F.kp T.is_barring.b .nil pass0 (pa_cons (pv 0) (pa_cons (pv 1) (pa_cons (pv 2) (pa_cons (pv 3) (pa_cons (pv 4) pa_nil)))))))))))), ?_⟩
    refine ⟨_, rfl, _, rfl, _, rfl, _, rfl, v, D, T', B, S, pl, wk, nm, rfl, hA, fun H1 e1 => ?_⟩
    refine ⟨_, rfl, x, t, rfl, dx.ex e1, fun H2 e2 => ?_⟩
    have e12 := e1.trans e2
    have z := q H2 e12
    cases dx
    case non => exact ⟨_, rfl, iteF z⟩
    case str => exact ⟨_, rfl, iteF z⟩
    case lst => exact ⟨_, rfl, iteF z⟩
    case tup => exact ⟨_, rfl, iteF z⟩
    case bl b => exact ⟨_, rfl, iteF z⟩
    case int i =>
      refine ⟨_, rfl, iteT ⟨_, rfl, _, _, rfl, rfl, _, rfl, ?_⟩⟩
      by_cases pos : 0 < i
      · rw [decide_eq_true pos]
        refine iteT ⟨_, rfl, _, rfl, _, rfl, _, rfl, _, rfl, v, D, T', B, S, pl, wk, nm, i, rfl, hA.ex e12, pos, fun H3 e3 => ?_⟩
        have z3 := q H3 (e12.trans e3)
        rw [barV_yes pos] at z3
        exact z3
      · rw [decide_eq_false pos]
        rw [barV_no pos] at z
        exact iteF z
end

/-! ### two turning things: when they meet -/
/-- the meeting of two rows, by the factor that undoes -/
def metOf (s t : Nat) (u a c : Int) : Int := a + ((c - a) / (Nat.gcd s t : Nat) * u % (t / Nat.gcd s t : Nat)) * s
def undoes (s t : Nat) (u : Int) : Prop := ((t / Nat.gcd s t : Nat) : Int) ∣ ((s / Nat.gcd s t : Nat) : Int) * u - 1
theorem met_one {s t : Nat} {u a c : Int} : (s : Int) ∣ metOf s t u a c - a := by
  unfold metOf
  refine ⟨(c - a) / (Nat.gcd s t : Nat) * u % (t / Nat.gcd s t : Nat), ?_⟩
  rw [Int.mul_comm (s : Int)]
  omega
theorem met_other {s t : Nat} {u a c : Int} (hs : 0 < s) (hu : undoes s t u) (hg : ((Nat.gcd s t : Nat) : Int) ∣ c - a) : (t : Int) ∣ metOf s t u a c - c := by
  have gp : 0 < Nat.gcd s t := Nat.gcd_pos_of_pos_left t hs
  obtain ⟨z, hz⟩ := hg
  obtain ⟨w, hw⟩ := hu
  have ds : (s : Int) = (Nat.gcd s t : Nat) * (s / Nat.gcd s t : Nat) := by
    have := Nat.mul_div_cancel' (Nat.gcd_dvd_left s t)
    rw [← Int.natCast_mul, this]
  have dt : (t : Int) = (Nat.gcd s t : Nat) * (t / Nat.gcd s t : Nat) := by
    have := Nat.mul_div_cancel' (Nat.gcd_dvd_right s t)
    rw [← Int.natCast_mul, this]
  unfold metOf
  rw [hz, Int.mul_ediv_cancel_left z (by omega)]
  revert hw ds dt
  generalize ((s / Nat.gcd s t : Nat) : Int) = s1
  generalize ((t / Nat.gcd s t : Nat) : Int) = t1
  generalize ((Nat.gcd s t : Nat) : Int) = g at hz ⊢
  intro hw ds dt
  have em := Int.mul_ediv_add_emod (z * u) t1
  generalize z * u / t1 = q at em
  generalize z * u % t1 = r at em ⊢
  refine ⟨z * w - q * s1, ?_⟩
  have e1 : r * (s : Int) = z * u * s - t1 * q * s := by
    rw [← Int.sub_mul]
    congr 1
    omega
  have e2 : z * u * (s : Int) = z * (g * (s1 * u)) := by
    rw [ds, Int.mul_assoc z u, Int.mul_comm u, Int.mul_assoc g]
  have e3 : s1 * u = t1 * w + 1 := by omega
  have e4 : z * (g * (t1 * w + 1)) = t * (z * w) + g * z := by
    rw [dt, Int.mul_add, Int.mul_add, Int.mul_one, Int.mul_comm z g, ← Int.mul_assoc g t1 w, Int.mul_left_comm z]
  have e5 : t1 * q * (s : Int) = t * (q * s1) := by
    rw [ds, dt, Int.mul_assoc t1 q, Int.mul_left_comm q g, Int.mul_left_comm t1 g, Int.mul_assoc g t1]
  rw [Int.mul_sub, e1, e2, e3, e4, e5]
  omega
theorem lcm_int {s t : Nat} {x : Int} (h1 : (s : Int) ∣ x) (h2 : (t : Int) ∣ x) : ((s * t / Nat.gcd s t : Nat) : Int) ∣ x := by
  have a1 : s ∣ x.natAbs := Int.ofNat_dvd_left.mp h1
  have a2 : t ∣ x.natAbs := Int.ofNat_dvd_left.mp h2
  exact Int.ofNat_dvd_left.mpr (Nat.lcm_dvd a1 a2)
theorem round_one (s t : Nat) : (s : Int) ∣ ((s * t / Nat.gcd s t : Nat) : Int) := Int.natCast_dvd_natCast.mpr (Nat.dvd_lcm_left s t)
theorem round_other (s t : Nat) : (t : Int) ∣ ((s * t / Nat.gcd s t : Nat) : Int) := Int.natCast_dvd_natCast.mpr (Nat.dvd_lcm_right s t)
theorem dvd_via {k x y z : Int} (h1 : k ∣ x - y) (h2 : k ∣ y - z) : k ∣ x - z := by
  have := Int.dvd_add h1 h2
  rwa [show x - y + (y - z) = x - z by omega] at this
theorem dvd_swap {k x y : Int} (h : k ∣ x - y) : k ∣ y - x := by
  have := Int.dvd_neg.mpr h
  rwa [show -(x - y) = y - x by omega] at this
/-- the days with both are those that are whole rounds from the meeting -/
theorem met_iff {s t : Nat} {u a c d : Int} (hs : 0 < s) (hu : undoes s t u) :
    ((s : Int) ∣ d - a ∧ (t : Int) ∣ d - c) ↔ ((Nat.gcd s t : Nat) : Int) ∣ c - a ∧ ((s * t / Nat.gcd s t : Nat) : Int) ∣ d - metOf s t u a c := by
  constructor
  · rintro ⟨h1, h2⟩
    have g1 : ((Nat.gcd s t : Nat) : Int) ∣ d - a := Int.dvd_trans (Int.natCast_dvd_natCast.mpr (Nat.gcd_dvd_left s t)) h1
    have g2 : ((Nat.gcd s t : Nat) : Int) ∣ d - c := Int.dvd_trans (Int.natCast_dvd_natCast.mpr (Nat.gcd_dvd_right s t)) h2
    have hg := dvd_via (dvd_swap g2) g1
    exact ⟨hg, lcm_int (dvd_via h1 (dvd_swap met_one)) (dvd_via h2 (dvd_swap (met_other hs hu hg)))⟩
  · rintro ⟨hg, h⟩
    exact ⟨dvd_via (Int.dvd_trans (round_one s t) h) met_one, dvd_via (Int.dvd_trans (round_other s t) h) (met_other hs hu hg)⟩
/-- rows that turn by L, none twice: their days -/
def turns (M : List Int) (L d : Int) : Bool := M.any fun m => decide (L ∣ d - m)
def apart (M : List Int) (L : Int) : Prop := M.Pairwise fun m n => ¬ L ∣ m - n
def countOf (M : List Int) (L a b : Int) : Int := (M.map fun m => (b - m - 1) / L - (a - m - 1) / L).sum
theorem floor_step {L x m : Int} (hL : 0 < L) : (x + 1 - m - 1) / L - (x - m - 1) / L = if L ∣ x - m then 1 else 0 := by
  rw [show x + 1 - m - 1 = x - m by omega]
  generalize x - m = z
  have a1 := Int.emod_nonneg z (show L ≠ 0 by omega)
  have a2 := Int.emod_lt_of_pos z hL
  have a3 := Int.mul_ediv_add_emod z L
  by_cases h : L ∣ z
  · rw [if_pos h]
    have e : z % L = 0 := Int.emod_eq_zero_of_dvd h
    have : (z - 1) / L = z / L - 1 := by
      rw [show z - 1 = (L - 1) + L * (z / L - 1) by rw [Int.mul_sub]; omega, Int.add_mul_ediv_left _ _ (by omega), Int.ediv_eq_zero_of_lt (by omega) (by omega)]
      omega
    omega
  · rw [if_neg h]
    have e : z % L ≠ 0 := fun e => h (Int.dvd_of_emod_eq_zero e)
    have : (z - 1) / L = z / L := by
      rw [show z - 1 = (z % L - 1) + L * (z / L) by omega, Int.add_mul_ediv_left _ _ (by omega), Int.ediv_eq_zero_of_lt (by omega) (by omega)]
      omega
    omega
theorem turns_cons {M : List Int} {L x m : Int} : turns (m :: M) L x = (decide (L ∣ x - m) || turns M L x) := List.any_cons
theorem count_cons {M : List Int} {L a b m : Int} : countOf (m :: M) L a b = ((b - m - 1) / L - (a - m - 1) / L) + countOf M L a b := by
  unfold countOf
  simp only [List.map_cons, List.sum_cons]
theorem count_step {M : List Int} {L a x : Int} (hL : 0 < L) (ap : apart M L) : countOf M L a (x + 1) = countOf M L a x + if turns M L x = true then 1 else 0 := by
  unfold apart at ap
  induction M with
  | nil => rfl
  | cons m M ih =>
    rw [List.pairwise_cons] at ap
    have h := ih ap.2
    have s := floor_step (x := x) (m := m) hL
    rw [count_cons, count_cons]
    by_cases d : L ∣ x - m
    · have no : ¬ turns M L x = true := by
        intro z
        obtain ⟨n, hn, e⟩ := List.any_eq_true.mp z
        exact ap.1 n hn (dvd_via (dvd_swap d) (of_decide_eq_true e))
      have yes : turns (m :: M) L x = true := by
        rw [turns_cons, decide_eq_true d, Bool.true_or]
      rw [if_neg no] at h
      rw [if_pos d] at s
      rw [if_pos yes]
      omega
    · have same : turns (m :: M) L x = turns M L x := by
        rw [turns_cons, decide_eq_false d, Bool.false_or]
      rw [if_neg d] at s
      rw [same]
      omega
theorem count_is {M : List Int} {L a : Int} (hL : 0 < L) (ap : apart M L) (n : Nat) : countOf M L a (a + n) = cnt (turns M L) a n := by
  induction n with
  | zero =>
    have z : (M.map fun m => (a + ((0 : Nat) : Int) - m - 1) / L - (a - m - 1) / L) = M.map fun _ => (0 : Int) := List.map_congr_left fun m _ => by
      rw [show a + ((0 : Nat) : Int) = a by omega]
      omega
    unfold countOf
    rw [z]
    have : ∀ M : List Int, (M.map fun _ => (0 : Int)).sum = 0 := fun M => by
      induction M with
      | nil => rfl
      | cons m M ih => rw [List.map_cons, List.sum_cons, ih]; rfl
    rw [this]
    rfl
  | succ n ih =>
    rw [show a + ((n + 1 : Nat) : Int) = a + n + 1 by omega, count_step hL ap, ih, cnt_succ, Int.natCast_add]
    congr 1
    split <;> rfl
/-- from a day on, the first whole rounds from m -/
def nextOf (L d m : Int) : Int := d + (m - d) % L
theorem next_here {L d m : Int} (hL : 0 < L) : d ≤ nextOf L d m ∧ nextOf L d m < d + L ∧ L ∣ nextOf L d m - m := by
  have a1 := Int.emod_nonneg (m - d) (show L ≠ 0 by omega)
  have a2 := Int.emod_lt_of_pos (m - d) hL
  have a3 := Int.mul_ediv_add_emod (m - d) L
  unfold nextOf
  refine ⟨by omega, by omega, -((m - d) / L), ?_⟩
  rw [Int.mul_neg]
  omega
theorem next_least {L d m e : Int} (hL : 0 < L) (h1 : d ≤ e) (h2 : L ∣ e - m) : nextOf L d m ≤ e := by
  have h := next_here (d := d) (m := m) hL
  rcases Int.lt_or_le e (nextOf L d m) with l | l
  · have z := dvd_via h.2.2 (dvd_swap h2)
    obtain ⟨k, hk⟩ := z
    have k1 : 0 < k := by
      rcases Int.lt_or_le 0 k with p | p
      · exact p
      · have := Int.mul_nonpos_of_nonneg_of_nonpos (show 0 ≤ L by omega) p
        omega
    have := Int.mul_le_mul_of_nonneg_left (show 1 ≤ k by omega) (show 0 ≤ L by omega)
    omega
  · exact l

/-! ### days with a place in a land -/
def atP (D T B S p d : Int) : Bool := decide (d - fst D T B S (yr D T B S d) = p)
def pday (D T B S p : Int) (i : Nat) : Int := fst D T B S i + p
theorem fst_mono {D T B S y : Int} (r1 : 1 ≤ D ∧ D ≤ 400) (r2 : 0 ≤ T ∧ T < B) : fst D T B S y + D ≤ fst D T B S (y + 1) := by
  have h := fst_succ (D := D) (T := T) (B := B) (S := S) (y := y) (by omega)
  have a := add_step (S := S) (y := y) r2
  omega
theorem fst_far {D T B S y : Int} (r1 : 1 ≤ D ∧ D ≤ 400) (r2 : 0 ≤ T ∧ T < B) (n : Nat) : fst D T B S y + n ≤ fst D T B S (y + n) := by
  induction n with
  | zero => simp
  | succ n ih =>
    have h := fst_mono (S := S) (y := y + n) r1 r2
    rw [show y + ((n + 1 : Nat) : Int) = y + n + 1 by omega]
    omega
theorem at_iff {D T B S p d : Int} (r1 : 1 ≤ D ∧ D ≤ 400) (r2 : 0 ≤ T ∧ T < B) (r3 : 1 ≤ B ∧ B ≤ 60) (hp : 0 ≤ p ∧ p < D) : atP D T B S p d = true ↔ ∃ y, d = fst D T B S y + p := by
  have hs := step_bd r1 r2 r3
  unfold atP
  rw [decide_eq_true_iff]
  constructor
  · intro h
    exact ⟨yr D T B S d, by omega⟩
  · rintro ⟨y, rfl⟩
    have := fst_mono (S := S) (y := y) r1 r2
    rw [yr_eq (by omega) hs.1 (by omega) (by omega : fst D T B S y + p < fst D T B S (y + 1))]
    omega
theorem fst_turn {D T B S y : Int} (hB : 1 ≤ B) (t : Int) : fst D T B S (y + t * B) = fst D T B S y + t * (D * B + T) := by
  unfold fst
  rw [show (D * B + T) * (y + t * B) + S = (D * B + T) * y + S + t * (D * B + T) * B by
    rw [Int.mul_add, ← Int.mul_assoc (D * B + T) t B, Int.mul_comm (D * B + T) t]; omega]
  exact Int.add_mul_ediv_right _ _ (by omega)
theorem at_mod {D T B S p d : Int} (r1 : 1 ≤ D ∧ D ≤ 400) (r2 : 0 ≤ T ∧ T < B) (r3 : 1 ≤ B ∧ B ≤ 60) (hp : 0 ≤ p ∧ p < D) : atP D T B S p d = true ↔ ∃ i : Nat, i < B.toNat ∧ D * B + T ∣ d - pday D T B S p i := by
  rw [at_iff r1 r2 r3 hp]
  constructor
  · rintro ⟨y, rfl⟩
    have m0 := Int.emod_nonneg y (show B ≠ 0 by omega)
    have m1 := Int.emod_lt_of_pos y (show 0 < B by omega)
    have dm := Int.mul_ediv_add_emod y B
    rw [Int.mul_comm] at dm
    refine ⟨(y % B).toNat, by omega, y / B, ?_⟩
    unfold pday
    have e := fst_turn (D := D) (T := T) (S := S) (y := y % B) r3.1 (y / B)
    rw [show y % B + y / B * B = y by omega] at e
    rw [e, show (((y % B).toNat : Nat) : Int) = y % B by omega, Int.mul_comm (D * B + T)]
    omega
  · rintro ⟨i, _, t, h⟩
    refine ⟨i + t * B, ?_⟩
    rw [fst_turn r3.1]
    unfold pday at h
    rw [Int.mul_comm] at h
    omega
theorem pday_apart {D T B S p : Int} (r1 : 1 ≤ D ∧ D ≤ 400) (r2 : 0 ≤ T ∧ T < B) (r3 : 1 ≤ B ∧ B ≤ 60) {i j : Nat} (hi : i < B.toNat) (hj : j < B.toNat) (h : D * B + T ∣ pday D T B S p i - pday D T B S p j) : i = j := by
  have hs := step_bd r1 r2 r3
  have key : ∀ i j : Nat, i < j → j < B.toNat → ¬ D * B + T ∣ pday D T B S p j - pday D T B S p i := fun i j ij hj hd => by
    have a1 := fst_far (S := S) (y := i) r1 r2 (j - i)
    have a2 := fst_far (S := S) (y := j) r1 r2 (B.toNat - j + i)
    rw [show (i : Int) + ((j - i : Nat) : Int) = j by omega] at a1
    rw [show (j : Int) + ((B.toNat - j + i : Nat) : Int) = i + 1 * B by omega, fst_turn r3.1] at a2
    unfold pday at hd
    obtain ⟨t, ht⟩ := hd
    rcases Int.lt_or_le 0 t with l | l
    · have := Int.mul_le_mul_of_nonneg_left (show 1 ≤ t by omega) (show 0 ≤ D * B + T by omega)
      omega
    · have := Int.mul_nonpos_of_nonneg_of_nonpos (show 0 ≤ D * B + T by omega) l
      omega
  rcases Nat.lt_trichotomy i j with l | e | l
  · exact absurd (by have := Int.dvd_neg.mpr h; rwa [show -(pday D T B S p i - pday D T B S p j) = pday D T B S p j - pday D T B S p i by omega] at this) (key i j l hj)
  · exact e
  · exact absurd h (key j i l hi)
/-! ### meetings of two lands -/
structure Ld (D T B S p : Int) : Prop where
  d : 1 ≤ D ∧ D ≤ 400
  t : 0 ≤ T ∧ T < B
  b : 1 ≤ B ∧ B ≤ 60
  s : -1000000 ≤ S ∧ S ≤ 1000000
  p : 0 ≤ p ∧ p < D
def stp (D T B : Int) : Nat := (D * B + T).toNat
theorem Ld.stp {D T B S p : Int} (h : Ld D T B S p) : ((stp D T B : Nat) : Int) = D * B + T ∧ 1 ≤ stp D T B ∧ stp D T B ≤ 24060 := by
  have := step_bd h.d h.t h.b
  unfold LY.stp
  omega
def meetL (D T B S p D' T' B' S' p' u : Int) : List Int := (List.range B.toNat).flatMap fun i => ((List.range B'.toNat).filter fun j => decide ((pday D' T' B' S' p' j - pday D T B S p i) % ((Nat.gcd (stp D T B) (stp D' T' B') : Nat) : Int) = 0)).map fun j => metOf (stp D T B) (stp D' T' B') u (pday D T B S p i) (pday D' T' B' S' p' j)
def rnd (D T B D' T' B' : Int) : Nat := stp D T B * stp D' T' B' / Nat.gcd (stp D T B) (stp D' T' B')
def meet (D T B S p D' T' B' S' p' d : Int) : Bool := atP D T B S p d && atP D' T' B' S' p' d
section
variable {D T B S p D' T' B' S' p' u : Int} (h : Ld D T B S p) (h' : Ld D' T' B' S' p')
theorem meetL_mem {m : Int} : m ∈ meetL D T B S p D' T' B' S' p' u ↔ ∃ i j : Nat, i < B.toNat ∧ j < B'.toNat ∧ ((Nat.gcd (stp D T B) (stp D' T' B') : Nat) : Int) ∣ pday D' T' B' S' p' j - pday D T B S p i ∧ m = metOf (stp D T B) (stp D' T' B') u (pday D T B S p i) (pday D' T' B' S' p' j) := by
  unfold meetL
  simp only [List.mem_flatMap, List.mem_map, List.mem_filter, List.mem_range, decide_eq_true_eq]
  constructor
  · rintro ⟨i, hi, j, ⟨hj, hg⟩, rfl⟩
    exact ⟨i, j, hi, hj, Int.dvd_of_emod_eq_zero hg, rfl⟩
  · rintro ⟨i, j, hi, hj, hg, rfl⟩
    exact ⟨i, hi, j, ⟨hj, Int.emod_eq_zero_of_dvd hg⟩, rfl⟩
include h h' in
theorem meet_turns (hu : undoes (stp D T B) (stp D' T' B') u) (d : Int) : turns (meetL D T B S p D' T' B' S' p' u) (rnd D T B D' T' B') d = meet D T B S p D' T' B' S' p' d := by
  have s1 := h.stp
  have s2 := h'.stp
  rw [Bool.eq_iff_iff]
  unfold turns meet
  rw [List.any_eq_true, Bool.and_eq_true, at_mod h.d h.t h.b h.p, at_mod h'.d h'.t h'.b h'.p, ← s1.1, ← s2.1]
  constructor
  · rintro ⟨m, hm, hd⟩
    obtain ⟨i, j, hi, hj, hg, rfl⟩ := meetL_mem.mp hm
    have := (met_iff (d := d) (by omega) hu).mpr ⟨hg, of_decide_eq_true hd⟩
    exact ⟨⟨i, hi, this.1⟩, j, hj, this.2⟩
  · rintro ⟨⟨i, hi, h1⟩, j, hj, h2⟩
    have := (met_iff (by omega) hu).mp ⟨h1, h2⟩
    exact ⟨_, meetL_mem.mpr ⟨i, j, hi, hj, this.1, rfl⟩, decide_eq_true this.2⟩
include h h' in
theorem meet_apart (hu : undoes (stp D T B) (stp D' T' B') u) : apart (meetL D T B S p D' T' B' S' p' u) (rnd D T B D' T' B') := by
  have s1 := h.stp
  have s2 := h'.stp
  have one : ∀ {i j i' j' : Nat}, ((rnd D T B D' T' B' : Nat) : Int) ∣ metOf (stp D T B) (stp D' T' B') u (pday D T B S p i) (pday D' T' B' S' p' j) - metOf (stp D T B) (stp D' T' B') u (pday D T B S p i') (pday D' T' B' S' p' j') → i < B.toNat → i' < B.toNat → i = i' := fun {i j i' j'} hd hi hi' => by
    have a := Int.dvd_trans (round_one (stp D T B) (stp D' T' B')) hd
    refine pday_apart h.d h.t h.b (S := S) (p := p) hi hi' ?_
    rw [← s1.1]
    exact dvd_via (dvd_swap met_one) (dvd_via a met_one)
  have other : ∀ {i j i' j' : Nat}, ((rnd D T B D' T' B' : Nat) : Int) ∣ metOf (stp D T B) (stp D' T' B') u (pday D T B S p i) (pday D' T' B' S' p' j) - metOf (stp D T B) (stp D' T' B') u (pday D T B S p i') (pday D' T' B' S' p' j') → ((Nat.gcd (stp D T B) (stp D' T' B') : Nat) : Int) ∣ pday D' T' B' S' p' j - pday D T B S p i → ((Nat.gcd (stp D T B) (stp D' T' B') : Nat) : Int) ∣ pday D' T' B' S' p' j' - pday D T B S p i' → j < B'.toNat → j' < B'.toNat → j = j' := fun {i j i' j'} hd g g' hj hj' => by
    have a := Int.dvd_trans (round_other (stp D T B) (stp D' T' B')) hd
    refine pday_apart h'.d h'.t h'.b (S := S') (p := p') hj hj' ?_
    rw [← s2.1]
    exact dvd_via (dvd_swap (met_other (by omega) hu g)) (dvd_via a (met_other (by omega) hu g'))
  unfold apart meetL
  rw [List.pairwise_flatMap]
  refine ⟨fun i hi => ?_, ?_⟩
  · rw [List.pairwise_map]
    refine List.Pairwise.imp_of_mem ?_ ((List.nodup_range (n := B'.toNat)).filter _)
    intro j j' hj hj' ne hd
    simp only [List.mem_filter, List.mem_range, decide_eq_true_eq] at hj hj'
    exact ne (other hd (Int.dvd_of_emod_eq_zero hj.2) (Int.dvd_of_emod_eq_zero hj'.2) hj.1 hj'.1)
  · refine List.Pairwise.imp_of_mem ?_ (List.nodup_range (n := B.toNat))
    intro i i' hi hi' ne x hx y hy hd
    simp only [List.mem_map] at hx hy
    obtain ⟨j, _, rfl⟩ := hx
    obtain ⟨j', _, rfl⟩ := hy
    exact ne (one hd (List.mem_range.mp hi) (List.mem_range.mp hi'))
include h h' in
theorem rnd_pos : 1 ≤ rnd D T B D' T' B' ∧ rnd D T B D' T' B' ≤ 24060 * 24060 := by
  have s1 := h.stp
  have s2 := h'.stp
  have g0 := Nat.gcd_pos_of_pos_left (stp D' T' B') (show 0 < stp D T B by omega)
  have le := Nat.gcd_le_left (stp D' T' B') (show 0 < stp D T B by omega)
  unfold rnd
  constructor
  · rw [Nat.le_div_iff_mul_le g0, Nat.one_mul]
    exact Nat.le_trans le (Nat.le_mul_of_pos_right _ (by omega))
  · exact Nat.le_trans (Nat.div_le_self _ _) (Nat.mul_le_mul s1.2.2 s2.2.2)
include h h' in
theorem meet_per (hu : undoes (stp D T B) (stp D' T' B') u) (d : Int) : meet D T B S p D' T' B' S' p' (d + (rnd D T B D' T' B' : Nat)) = meet D T B S p D' T' B' S' p' d := by
  rw [← meet_turns h h' hu, ← meet_turns h h' hu]
  unfold turns
  congr 1
  funext m
  rw [Bool.eq_iff_iff, decide_eq_true_iff, decide_eq_true_iff, show d + ((rnd D T B D' T' B' : Nat) : Int) - m = (d - m) + (rnd D T B D' T' B' : Nat) by omega]
  constructor
  · intro hd
    have := Int.dvd_sub hd (Int.dvd_refl ((rnd D T B D' T' B' : Nat) : Int))
    rwa [show d - m + ((rnd D T B D' T' B' : Nat) : Int) - (rnd D T B D' T' B' : Nat) = d - m by omega] at this
  · intro hd
    exact Int.dvd_add hd (Int.dvd_refl _)
end
theorem meet_comm {D T B S p D' T' B' S' p' : Int} : meet D' T' B' S' p' D T B S p = meet D T B S p D' T' B' S' p' := by
  funext d
  unfold meet
  exact Bool.and_comm _ _

/-- a walk within a walk: the body is told where it goes on -/
theorem walk_in {J : It} {n : Nat} {G : Hp → Prop} {Y : Nat → Hp → V → Hp → Prop} (w : Walk J n G Y) {body : V → Hp → (Hp → Prop) → Prop} {Nx : Hp → Prop} {H0 : Hp} (Pv : Nat → Hp → Prop) (h0 : Pv 0 H0) (hG : ∀ i H, i ≤ n → Pv i H → G H)
    (hs : ∀ i x H H', i < n → Pv i H → Y i H x H' → body x H' (Pv (i + 1))) (hd : ∀ H, Pv n H → Nx H) :
    ∃ W : Nat → Nat → Hp → Prop, (∃ m, W 0 m H0) ∧ ∀ i m H, W i m H → (J.stop i H ∧ Nx H) ∨ (J.go i H ∧ ∃ N : Hp → Prop, (∀ H', N H' → ∃ m', m' < m ∧ W (i + 1) m' H') ∧ ∀ x H', J.yld i H x H' → body x H' N) := by
  refine ⟨fun i m H => i + m = n ∧ Pv i H, ⟨n, Nat.zero_add n, h0⟩, fun i m H ⟨im, p⟩ => ?_⟩
  have g := hG i H (by omega) p
  cases m with
  | zero =>
    obtain rfl : i = n := by omega
    exact .inl ⟨w.stops H g, hd H p⟩
  | succ m => exact .inr ⟨w.goes i H (by omega) g, Pv (i + 1), fun H' p' => ⟨m, Nat.lt_succ_self m, by omega, p'⟩, fun x H' y => hs i x H H' (by omega) p (w.yields i H x H' (by omega) g y)⟩
section
variable {P : Program} {w : World} {K : PySem.W.Frag} {mg : Str → Option Value} {base : Heap}
def spUndo : Sp := fun vs H Q _ => ∃ a r : Nat, vs = [.int a, .int r] ∧ a ≤ 24060 ∧ (1 ≤ r ∧ r ≤ 24060) ∧ Nat.gcd a r = 1 ∧ ∀ u : Int, (0 ≤ u ∧ u < r) → (r : Int) ∣ a * u - 1 → RetV (.int u) H Q
theorem ok_undoing_factor (T : Txt K mg) : FnOk P w K mg base CX0 1 T.undoing_factor.f T.undoing_factor.fd ["number", "ring"] spUndo := by
  refine T.undoing_factor.F.ok sc_undoing_factor (fun vs H Q E h => ?_) (fun cdv A outer s H vs Q E hr h => ?_)
  · obtain ⟨_, _, rfl, _⟩ := h
    rfl
  · obtain ⟨a, r, rfl, ha, hr1, hg, q⟩ := h
    refine ⟨_, (pss_cons (ps_par (i := 2) (j := 3) (by rfl) sc_undoing_factor.nd rfl rfl (by decide) rfl rfl (pa_cons (pv 0) (pa_cons (pv 1) pa_nil)) (by rfl))
      (pss_cons (ps_asg (pe_tup (pa_cons pe_int (pa_cons pe_int pa_nil))) (pg_tup rfl (pgs_cons (pg_name (i := 4) sc_undoing_factor.nd rfl (Or.inl rfl)) (pgs_cons (pg_name (i := 5) sc_undoing_factor.nd rfl (Or.inl rfl)) pgs_nil))))
      (pss_cons (ps_while PassesOwn.never (pt_cmpR op_ne (pv 3) pe_int (nomark _))
        (pss_cons (ps_set (i := 6) sc_undoing_factor.nd rfl (Or.inl rfl) (pe_op op_fdiv (pv 2) (pv 3)))
      (pss_cons (ps_par (i := 2) (j := 3) (by rfl) sc_undoing_factor.nd rfl rfl (by decide) rfl rfl (pa_cons (pv 3) (pa_cons (pe_op op_sub (pv 2) (pe_op op_mul (pv 6) (pv 3))) pa_nil)) (by rfl))
      (pss_one (ps_par (i := 4) (j := 5) (by rfl) sc_undoing_factor.nd rfl rfl (by decide) rfl rfl (pa_cons (pv 5) (pa_cons (pe_op op_sub (pv 4) (pe_op op_mul (pv 6) (pv 5))) pa_nil)) (by rfl))))))
      (pss_one (ps_ret (pe_op op_mod (pv 4) (pv 1))))))), ?_⟩
    refine ⟨_, rfl, _, rfl, _, _, rfl, by show 2 ≤ sizeLine; decide, fun pc nc => ⟨pc, _, rfl, st_of upd_same, rfl, _, _, rfl, _, _, rfl, rfl, ?_⟩⟩
    have xc := Ex.new (o := .tup [.int 1, .int 0]) nc
    refine q_while (fun m σ H' => ∃ (c : Nat) (x y : Int) (z : Option V), σ = [some (.int a), some (.int r), some (.int c), some (.int (m : Nat)), some (.int x), some (.int y), z] ∧ Nat.gcd c m = 1 ∧ c ≤ 24060 ∧ m ≤ 24060 ∧ (r : Int) ∣ x * a - c ∧ (r : Int) ∣ y * a - m ∧ Ex H H') r ⟨a, 1, 0, none, rfl, hg, ha, hr1.2, by simp, ⟨-1, by omega⟩, xc⟩ ?_
    rintro m σ H1 ⟨c, x, y, z, rfl, hg1, hc, hm0, d1, d2, e1⟩
    by_cases hm : m = 0
    · subst hm
      refine ⟨false, fun H2 e2 Q2 q2 => ⟨_, rfl, rfl, _, rfl, q2 H2 (Ex.refl H2)⟩, fun z => Bool.noConfusion z, fun _ H2 e2 => ?_⟩
      rw [Nat.gcd_zero_right] at hg1
      subst hg1
      refine ⟨_, rfl, _, rfl, _, _, rfl, rfl, by show (0 : Int) < r; omega, ?_⟩
      have m0 := Int.emod_nonneg x (show (r : Int) ≠ 0 by omega)
      have m1 := Int.emod_lt_of_pos x (show (0 : Int) < r by omega)
      have dm := Int.mul_ediv_add_emod x r
      refine q (x % r) ⟨m0, m1⟩ ?_ H2 (e1.trans e2)
      obtain ⟨t, ht⟩ := d1
      refine ⟨t - x / r * a, ?_⟩
      rw [Int.mul_sub, ← Int.mul_assoc, Int.mul_comm (a : Int), show x % r = x - r * (x / r) by omega, Int.sub_mul]
      omega
    · have hne : decide (V.int ((m : Nat) : Int) = V.int 0) = false := decide_eq_false fun z => hm (by have := V.int.inj z; omega)
      refine ⟨true, fun H2 e2 Q2 q2 => ⟨_, rfl, rfl, _, rfl, ?_⟩, fun _ H2 e2 => ?_, fun z => Bool.noConfusion z⟩
      · rw [hne]
        exact q2 H2 (Ex.refl H2)
      · have next : Nat.gcd m (c % m) = 1 := by
          rw [← hg1, Nat.gcd_comm c m, Nat.gcd_rec m c, Nat.gcd_comm]
        have ml := Nat.mod_lt c (show 0 < m by omega)
        have dle := Nat.div_le_self c m
        have dq : ((c : Int) / (m : Int)) = ((c / m : Nat) : Int) := (Int.natCast_ediv c m).symm
        have mq : (c : Int) - ((c / m : Nat) : Int) * m = ((c % m : Nat) : Int) := by
          have := Nat.div_add_mod c m
          have e : ((c / m : Nat) : Int) * m = ((m * (c / m) : Nat) : Int) := by rw [Int.natCast_mul, Int.mul_comm]
          omega
        refine ⟨fun σ' H' => (∃ z, σ' = [some (.int a), some (.int r), some (.int (m : Nat)), some (.int ((c : Int) - (c : Int) / (m : Int) * m)), some (.int y), some (.int (x - (c : Int) / (m : Int) * y)), z]) ∧ Ex H H', fun σ' H' ⟨⟨z, es⟩, ex⟩ => ⟨c % m, ml, m, y, x - ((c / m : Nat) : Int) * y, z, by rw [es, dq, mq], next, hm0, by omega, d2, ?_, ex⟩, ?_⟩
        · obtain ⟨t1, h1⟩ := d1
          obtain ⟨t2, h2⟩ := d2
          refine ⟨t1 - ((c / m : Nat) : Int) * t2, ?_⟩
          rw [← mq, Int.mul_sub, Int.sub_mul, ← h1, Int.mul_left_comm (r : Int), ← h2, Int.mul_sub, Int.mul_assoc]
          omega
        have small : (c : Int) / (m : Int) ≤ 24060 ∧ 0 ≤ (c : Int) / (m : Int) := by
          rw [dq]
          exact ⟨Int.ofNat_le.mpr (Nat.le_trans dle hc), Int.natCast_nonneg _⟩
        refine ⟨_, rfl, _, rfl, _, _, rfl, rfl, ⟨by omega, by omega⟩, ?_⟩
        refine ⟨_, rfl, _, rfl, _, rfl, _, rfl, _, _, rfl, rfl, cm_l (by omega), _, _, rfl, rfl, _, _, rfl, ?_⟩
        exact ⟨_, rfl, _, rfl, _, rfl, _, rfl, _, _, rfl, rfl, cm_l (by omega), _, _, rfl, rfl, _, _, rfl, ⟨_, rfl⟩, e1.trans e2⟩
end

section
variable {P : Program} {w : World} {K : PySem.W.Frag} {mg : Str → Option Value} {base : Heap}
abbrev FarD (i : Int) : Prop := -1000000000000000000000000000000 ≤ i ∧ i ≤ 1000000000000000000000000000000
def spTwoD : Sp := fun vs H Q _ => ∃ i j : Int, vs = [.int i, .int j] ∧ FarD i ∧ FarD j ∧ i ≤ j ∧ RetV .non H Q
theorem ok_need_days (T : Txt K mg) : FnOk P w K mg base CX0 4 T.need_days.f T.need_days.fd ["first", "last"] spTwoD := by
  have G_need_day : FnOk P w K mg base CX0 3 T.need_day.f T.need_day.fd ["thing"] spNum := ok_need_day T
  refine T.need_days.F.ok sc_need_days (fun vs H Q E h => ?_) (fun cdv A outer s H vs Q E hr h => ?_)
  · obtain ⟨_, _, rfl, _⟩ := h
    rfl
  · obtain ⟨i, j, rfl, fi, fj, le, q⟩ := h
    refine ⟨_, (pss_cons (ps_expr (pe_call G_need_day (hr.mono (by omega)) (by rfl) T.need_day.g T.need_day.F.kp T.need_day.b .nil pass0 (pa_cons (pv 0) pa_nil)))
      (pss_cons (ps_expr (pe_call G_need_day (hr.mono (by omega)) (by rfl) T.need_day.g T.need_day.F.kp T.need_day.b .nil pass0 (pa_cons (pv 1) pa_nil)))
      (pss_one (ps_if (pt_cmpR op_lt (pv 1) (pv 0) (nomark _))
        (pss_one ps_never)
        pss_nil)))), ?_⟩
    refine ⟨_, rfl, i, rfl, fi, fun H1 e1 => ⟨_, rfl, j, rfl, fj, fun H2 e2 => ⟨_, rfl, _, rfl, _, _, rfl, rfl, _, rfl, ?_⟩⟩⟩
    rw [decide_eq_false (show ¬ j < i by omega)]
    exact iteF (q H2 (e1.trans e2))
/-- two lands with a place each -/
structure Two (H : Hp) (v : V) (D T B S p : Int) (v' : V) (D' T' B' S' p' : Int) : Prop where
  l : Land H v D T B S
  l' : Land H v' D' T' B' S'
  ld : Ld D T B S p
  ld' : Ld D' T' B' S' p'
theorem Two.ex {H H' : Hp} {v v' : V} {D T B S p D' T' B' S' p' : Int} (t : Two H v D T B S p v' D' T' B' S' p') (e : Ex H H') : Two H' v D T B S p v' D' T' B' S' p' := ⟨t.l.ex e, t.l'.ex e, t.ld, t.ld'⟩
theorem Two.swap {H : Hp} {v v' : V} {D T B S p D' T' B' S' p' : Int} (t : Two H v D T B S p v' D' T' B' S' p') : Two H v' D' T' B' S' p' v D T B S p := ⟨t.l', t.l, t.ld', t.ld⟩
def spTwoP : Sp := fun vs H Q _ => ∃ v D T B S p v' D' T' B' S' p', vs = [v, .int p, v', .int p'] ∧ Two H v D T B S p v' D' T' B' S' p' ∧ RetV .non H Q
theorem ok_need_places (T : Txt K mg) : FnOk P w K mg base CX0 5 T.need_places.f T.need_places.fd ["one", "place_one", "other", "place_other"] spTwoP := by
  have G_need_land : FnOk P w K mg base CX0 4 T.need_land.f T.need_land.fd ["thing"] spNeedLand := ok_need_land T
  have G_need_place : FnOk P w K mg base CX0 3 T.need_place.f T.need_place.fd ["land", "thing"] spPlace := ok_need_place T
  refine T.need_places.F.ok sc_need_places (fun vs H Q E h => ?_) (fun cdv A outer s H vs Q E hr h => ?_)
  · obtain ⟨_, _, _, _, _, _, _, _, _, _, _, _, rfl, _⟩ := h
    rfl
  · obtain ⟨v, D, T1, B, S, p, v', D', T', B', S', p', rfl, t, q⟩ := h
    refine ⟨_, (pss_cons (ps_expr (pe_call G_need_land (hr.mono (by omega)) (by rfl) T.need_land.g T.need_land.F.kp T.need_land.b .nil pass0 (pa_cons (pv 0) pa_nil)))
      (pss_cons (ps_expr (pe_call G_need_place (hr.mono (by omega)) (by rfl) T.need_place.g T.need_place.F.kp T.need_place.b .nil pass0 (pa_cons (pv 0) (pa_cons (pv 1) pa_nil))))
      (pss_cons (ps_expr (pe_call G_need_land (hr.mono (by omega)) (by rfl) T.need_land.g T.need_land.F.kp T.need_land.b .nil pass0 (pa_cons (pv 2) pa_nil)))
      (pss_one (ps_expr (pe_call G_need_place (hr.mono (by omega)) (by rfl) T.need_place.g T.need_place.F.kp T.need_place.b .nil pass0 (pa_cons (pv 2) (pa_cons (pv 3) pa_nil)))))))), ?_⟩
    refine ⟨_, rfl, v, D, T1, B, S, rfl, t.l, fun H1 e1 => ⟨_, rfl, _, rfl, v, D, T1, B, S, p, rfl, t.l.ex e1, t.ld.p, fun H2 e2 => ?_⟩⟩
    have e12 := e1.trans e2
    exact ⟨_, rfl, v', D', T', B', S', rfl, t.l'.ex e12, fun H3 e3 => ⟨_, rfl, _, rfl, v', D', T', B', S', p', rfl, t.l'.ex (e12.trans e3), t.ld'.p, fun H4 e4 => q H4 (e12.trans (e3.trans e4))⟩⟩
def spPlaced : Sp := fun vs H Q _ => ∃ v D T B S p, vs = [v, .int p] ∧ Land H v D T B S ∧ (0 ≤ p ∧ p < D) ∧ ∀ Dl H', H Dl = none → Ex H H' → H' Dl = some (.lst (((List.range B.toNat).map (pday D T B S p)).map V.int)) → Q (.ref Dl) H'
/-- bottom steps of a range -/
theorem steps_of {a c : Int} {n : Nat} (hc : 1 ≤ c ∧ c ≤ 30000) (hn : 1 ≤ n ∧ n ≤ 60) (ha : -2000000 ≤ a ∧ a ≤ 2000000) : RgC a (a + c * n) c n := by
  have h1 : c * 1 ≤ c * n := Int.mul_le_mul_of_nonneg_left (by omega) (by omega)
  have h2 : c * n ≤ c * 60 := Int.mul_le_mul_of_nonneg_left (by omega) (by omega)
  have size : Builtin.Range.rangeSize a (a + c * n) c = n := by
    unfold PySem.Builtin.Range.rangeSize
    rw [if_pos (show c > 0 by omega), if_pos (show a < a + c * n by omega), show a + c * (n : Int) - a - 1 = (c - 1) + c * ((n : Int) - 1) by rw [Int.mul_sub]; omega, Int.add_mul_ediv_left _ _ (by omega), Int.ediv_eq_zero_of_lt (by omega) (by omega)]
    omega
  refine ⟨by omega, by omega, ?_, size⟩
  unfold Builtin.Range.small
  rw [size, if_pos (show c > 0 by omega)]
  simp only [Builtin.Range.rangeFitsLong, Bool.and_eq_true, Bool.or_eq_true, decide_eq_true_eq]
  omega
theorem ok_placed_days (T : Txt K mg) : FnOk P w K mg base CX0 3 T.placed_days.f T.placed_days.fd ["land", "place"] spPlaced := by
  have G_step_of : FnOk P w K mg base CX0 1 T.step_of.f T.step_of.fd ["land"] spStep := ok_step_of T
  refine T.placed_days.F.ok sc_placed_days (fun vs H Q E h => ?_) (fun cdv A outer s H vs Q E hr h => ?_)
  · obtain ⟨_, _, _, _, _, _, rfl, _⟩ := h
    rfl
  · obtain ⟨v, D, T1, B, S, p, rfl, hL, hp, q⟩ := h
    obtain ⟨a, rfl, ha, r1, r2, r3, r4⟩ := id hL
    have hs := step_bd r1 r2 r3
    have hpB : 0 ≤ p * B ∧ p * B ≤ 400 * 60 := by
      have h1 := Int.mul_nonneg hp.1 (show 0 ≤ B by omega)
      have h2 := Int.mul_le_mul (show p ≤ 400 by omega) r3.2 (by omega) (by omega)
      omega
    refine ⟨_, (pss_cons (ps_asg (pe_slice sl_tup (pv 0) (po_some pe_int) po_none) (pg_tup rfl (pgs_cons (pg_name (i := 2) sc_placed_days.nd rfl (Or.inr rfl)) (pgs_cons (pg_name (i := 3) sc_placed_days.nd rfl (Or.inl rfl)) pgs_nil))))
      (pss_cons (ps_set (i := 4) sc_placed_days.nd rfl (Or.inl rfl) (pe_call G_step_of (hr.mono (by omega)) (by rfl) T.step_of.g T.step_of.F.kp T.step_of.b .nil pass0 (pa_cons (pv 0) pa_nil)))
      (pss_cons (ps_set (i := 5) sc_placed_days.nd rfl (Or.inl rfl) (pe_op op_add (pv 3) (pe_op op_mul (pv 1) (pv 2))))
      (pss_one (ps_ret (pe_lc (own := [("number", 6)]) (g := gName 6) (by rfl) sc_placed_days.nd (pi_range3 rfl T.range (pa_cons (pv 5) (pa_cons (pe_op op_add (pv 5) (pe_op op_mul (pv 4) (pv 2))) (pa_cons (pv 4) pa_nil)))) (blkOk_by (own := [("number", 6)]) (N := ["land", "place", "bottom", "shift", "step", "least", "number"]) (sc := defScope s_placed_days) (by decide +kernel)) (fun _ _ _ _ _ => (pg_name (i := 6) sc_placed_days.nd rfl (Or.inl rfl))) (fun _ _ _ _ _ => pts_nil) (fun _ _ _ _ _ => (pe_op op_fdiv (pv 6) (pv 2))))))))), ?_⟩
    refine ⟨_, rfl, _, rfl, a, _, rfl, st_of ha, (by show ¬ (HT.sIx 4 0 (some 2) = 0 ∧ HT.sIx 4 4 none = 4); decide), fun p1 n1 => ?_⟩
    refine ⟨p1, _, rfl, st_of upd_same, rfl, _, _, rfl, _, _, rfl, rfl, ?_⟩
    have x1 := Ex.new (o := .tup (cutV [V.int D, V.int T1, V.int B, V.int S] (some 2) none)) n1
    refine ⟨_, rfl, _, D, T1, B, S, rfl, hL.ex x1, fun H1 e1 => ?_⟩
    have e01 := x1.trans e1
    refine ⟨_, rfl, _, rfl, _, rfl, _, _, rfl, rfl, cm_l (by omega), _, _, rfl, rfl, ?_⟩
    refine ⟨_, rfl, _, rfl, _, rfl, _, rfl, _, _, rfl, rfl, cm_l (by omega), _, _, rfl, rfl, _, rfl, _, _, _, B.toNat, rfl, ?_, fun Dl hD => ?_⟩
    · have z := steps_of (a := S + p * B) (c := D * B + T1) (n := B.toNat) ⟨hs.1, by omega⟩ ⟨by omega, by omega⟩ ⟨by omega, by omega⟩
      rw [show ((B.toNat : Nat) : Int) = B by omega] at z
      exact z
    refine lc_it walk_rangeC (Cw H1 (fun _ => true) (fun (i : Nat) => .int (pday D T1 B S p i)) Dl) ⟨hD, Ex.new hD, upd_same⟩ (fun _ _ _ _ => trivial) (fun i x H' H'' hi c y => ?_) (fun H' c => ?_)
    · obtain ⟨rfl, rfl⟩ := y
      refine ⟨rfl, cw_turn c (by omega) (fun Ha ea Qa qa => qa Ha (Ex.refl Ha)) ?_⟩
      intro _ Ha ea Qa qa
      refine ⟨_, rfl, _, rfl, _, _, rfl, rfl, ⟨by omega, by omega⟩, ?_⟩
      have z := qa Ha (Ex.refl Ha)
      unfold pday fst at z
      show Qa (V.int ((S + p * B + (i : Int) * (D * B + T1)) / B)) Ha
      rw [show (S + p * B + (i : Int) * (D * B + T1)) / B = ((D * B + T1) * (i : Int) + S) / B + p by
        rw [show S + p * B + (i : Int) * (D * B + T1) = ((D * B + T1) * (i : Int) + S) + p * B by rw [Int.mul_comm (i : Int)]; omega, Int.add_mul_ediv_right _ _ (by omega)]]
      exact z
    · obtain ⟨_, e2, h2⟩ := c
      rw [given_all] at h2
      refine q Dl H' (fresh_back e01 hD) (e01.trans e2) ?_
      rw [h2, List.map_map]
      rfl
def spShare : Sp := fun vs H Q _ => ∃ v D T B S p v' D' T' B' S' p', vs = [v, v'] ∧ Two H v D T B S p v' D' T' B' S' p' ∧ RetV (.int (Nat.gcd (stp D T B) (stp D' T' B') : Nat)) H Q
theorem ok_shared_step (T : Txt K mg) : FnOk P w K mg base CX0 2 T.shared_step.f T.shared_step.fd ["one", "other"] spShare := by
  have G_step_of : FnOk P w K mg base CX0 1 T.step_of.f T.step_of.fd ["land"] spStep := ok_step_of T
  have G_common_measure : FnOk P w K mg base CX0 1 T.common_measure.f T.common_measure.fd ["one", "other"] spGcd := ok_common_measure T
  refine T.shared_step.F.ok sc_shared_step (fun vs H Q E h => ?_) (fun cdv A outer s H vs Q E hr h => ?_)
  · obtain ⟨_, _, _, _, _, _, _, _, _, _, _, _, rfl, _⟩ := h
    rfl
  · obtain ⟨v, D, T1, B, S, p, v', D', T', B', S', p', rfl, t, q⟩ := h
    have s1 := t.ld.stp
    have s2 := t.ld'.stp
    refine ⟨_, (pss_one (ps_ret (pe_call G_common_measure (hr.mono (by omega)) (by rfl) T.common_measure.g T.common_measure.F.kp T.common_measure.b .nil pass0 (pa_cons (pe_call G_step_of (hr.mono (by omega)) (by rfl) T.step_of.g T.step_of.F.kp T.step_of.b .nil pass0 (pa_cons (pv 0) pa_nil)) (pa_cons (pe_call G_step_of (hr.mono (by omega)) (by rfl) T.step_of.g T.step_of.F.kp T.step_of.b .nil pass0 (pa_cons (pv 1) pa_nil)) pa_nil))))), ?_⟩
    refine ⟨_, rfl, v, D, T1, B, S, rfl, t.l, fun H1 e1 => ⟨_, rfl, v', D', T', B', S', rfl, t.l'.ex e1, fun H2 e2 => ⟨stp D T1 B, stp D' T' B', ?_, fun H3 e3 => q H3 ((e1.trans e2).trans e3)⟩⟩⟩
    rw [s1.1, s2.1]
    rfl
end

/-! ### starts and ends of two turning things -/
def stO (s t : Nat) (u d a : Int) : Int := (a / (Nat.gcd s t : Nat) * (u * s) - a + d) % (s * t / Nat.gcd s t : Nat) + a % (Nat.gcd s t : Nat) * (2 * (s * t / Nat.gcd s t : Nat))
def enO (s t : Nat) (u c : Int) : Int := c / (Nat.gcd s t : Nat) * (u * s) % (s * t / Nat.gcd s t : Nat) + c % (Nat.gcd s t : Nat) * (2 * (s * t / Nat.gcd s t : Nat))
theorem lead_other {s t : Nat} {u : Int} (hu : undoes s t u) : (t : Int) ∣ u * s - (Nat.gcd s t : Nat) := by
  obtain ⟨w, hw⟩ := hu
  have ds : (s : Int) = (Nat.gcd s t : Nat) * (s / Nat.gcd s t : Nat) := by
    rw [← Int.natCast_mul, Nat.mul_div_cancel' (Nat.gcd_dvd_left s t)]
  have dt : (t : Int) = (Nat.gcd s t : Nat) * (t / Nat.gcd s t : Nat) := by
    rw [← Int.natCast_mul, Nat.mul_div_cancel' (Nat.gcd_dvd_right s t)]
  revert hw ds dt
  generalize ((s / Nat.gcd s t : Nat) : Int) = s1
  generalize ((t / Nat.gcd s t : Nat) : Int) = t1
  generalize ((Nat.gcd s t : Nat) : Int) = g
  intro hw ds dt
  refine ⟨w, ?_⟩
  rw [ds, dt, Int.mul_left_comm, Int.mul_comm u, show s1 * u = t1 * w + 1 by omega, Int.mul_add, Int.mul_assoc]
  omega
theorem far_rows {X Y k L p q e : Int} (hX : 0 ≤ X ∧ X < L) (hY : 0 ≤ Y ∧ Y < L) (hk : 0 ≤ k ∧ k < L) (he : 0 ≤ e ∧ e ≤ L) (h : X + q * (2 * L) + e = Y + p * (2 * L) + k) : q = p := by
  rcases Int.lt_trichotomy q p with l | l | l
  · have := Int.mul_le_mul_of_nonneg_right (show q + 1 ≤ p by omega) (show 0 ≤ 2 * L by omega)
    rw [Int.add_mul] at this
    omega
  · exact l
  · have := Int.mul_le_mul_of_nonneg_right (show p + 1 ≤ q by omega) (show 0 ≤ 2 * L by omega)
    rw [Int.add_mul] at this
    omega
theorem mod_back {L x : Int} : L ∣ x % L - x := by
  refine ⟨-(x / L), ?_⟩
  have := Int.mul_ediv_add_emod x L
  rw [Int.mul_neg]
  omega
theorem round_pos {s t : Nat} (hs : 0 < s) (ht : 0 < t) : (0 : Int) < (s * t / Nat.gcd s t : Nat) := by
  have g0 := Nat.gcd_pos_of_pos_left t hs
  have le := Nat.gcd_le_left t hs
  have : 0 < s * t / Nat.gcd s t := Nat.div_pos (Nat.le_trans le (Nat.le_mul_of_pos_right _ ht)) g0
  omega
theorem hit_iff {s t : Nat} {u d a c k : Int} (hs : 0 < s) (ht : 0 < t) (hu : undoes s t u) (k0 : 0 ≤ k) (kL : k < (s * t / Nat.gcd s t : Nat)) :
    (enO s t u c = stO s t u d a + k ∨ enO s t u c + (s * t / Nat.gcd s t : Nat) = stO s t u d a + k) ↔ (s : Int) ∣ d + k - a ∧ (t : Int) ∣ d + k - c := by
  have L0 := round_pos hs ht
  have l1 := round_one s t
  have l2 := round_other s t
  have lead := lead_other hu
  have both := @lcm_int s t
  have g0 : (0 : Int) < (Nat.gcd s t : Nat) := by have := Nat.gcd_pos_of_pos_left t hs; omega
  have g1 : ((Nat.gcd s t : Nat) : Int) ∣ s := Int.natCast_dvd_natCast.mpr (Nat.gcd_dvd_left s t)
  have g2 : ((Nat.gcd s t : Nat) : Int) ∣ t := Int.natCast_dvd_natCast.mpr (Nat.gcd_dvd_right s t)
  unfold enO stO
  generalize ((s * t / Nat.gcd s t : Nat) : Int) = L at *
  generalize ((Nat.gcd s t : Nat) : Int) = g at *
  have x0 := Int.emod_nonneg (c / g * (u * s)) (show L ≠ 0 by omega)
  have x1 := Int.emod_lt_of_pos (c / g * (u * s)) L0
  have y0 := Int.emod_nonneg (a / g * (u * s) - a + d) (show L ≠ 0 by omega)
  have y1 := Int.emod_lt_of_pos (a / g * (u * s) - a + d) L0
  have xb := mod_back (L := L) (x := c / g * (u * s))
  have yb := mod_back (L := L) (x := a / g * (u * s) - a + d)
  have dc := Int.mul_ediv_add_emod c g
  have da := Int.mul_ediv_add_emod a g
  -- the meeting by its quotients
  have turn : L ∣ (c / g * (u * s) % L - (a / g * (u * s) - a + d) % L - k) - ((c / g - a / g) * (u * s) + a - (d + k)) := by
    have h := Int.dvd_sub xb yb
    rwa [show c / g * (u * s) % L - c / g * (u * s) - ((a / g * (u * s) - a + d) % L - (a / g * (u * s) - a + d)) = (c / g * (u * s) % L - (a / g * (u * s) - a + d) % L - k) - ((c / g - a / g) * (u * s) + a - (d + k)) by rw [Int.sub_mul]; omega] at h
  have key : a % g = c % g → (L ∣ (c / g - a / g) * (u * s) + a - (d + k) ↔ (s : Int) ∣ d + k - a ∧ (t : Int) ∣ d + k - c) := fun same => by
    have ca : g * (c / g - a / g) = c - a := by rw [Int.mul_sub]; omega
    have s1 : (s : Int) ∣ (c / g - a / g) * (u * s) + a - (d + k) - (a - (d + k)) := by
      refine ⟨(c / g - a / g) * u, ?_⟩
      rw [Int.mul_comm (s : Int), Int.mul_assoc]
      omega
    have t1 : (t : Int) ∣ (c / g - a / g) * (u * s) + a - (d + k) - (c - (d + k)) := by
      have h := Int.dvd_mul_of_dvd_right (b := c / g - a / g) lead
      rwa [Int.mul_sub, Int.mul_comm _ g, ca, show (c / g - a / g) * (u * s) - (c - a) = (c / g - a / g) * (u * s) + a - (d + k) - (c - (d + k)) by omega] at h
    constructor
    · intro h
      have h1 := Int.dvd_sub (Int.dvd_trans l1 h) s1
      have h2 := Int.dvd_sub (Int.dvd_trans l2 h) t1
      exact ⟨dvd_swap (by rwa [show (c / g - a / g) * (u * s) + a - (d + k) - ((c / g - a / g) * (u * s) + a - (d + k) - (a - (d + k))) = a - (d + k) by omega] at h1), dvd_swap (by rwa [show (c / g - a / g) * (u * s) + a - (d + k) - ((c / g - a / g) * (u * s) + a - (d + k) - (c - (d + k))) = c - (d + k) by omega] at h2)⟩
    · rintro ⟨h1, h2⟩
      refine both ?_ ?_
      · have := Int.dvd_add s1 (dvd_swap h1)
        rwa [show (c / g - a / g) * (u * s) + a - (d + k) - (a - (d + k)) + (a - (d + k)) = (c / g - a / g) * (u * s) + a - (d + k) by omega] at this
      · have := Int.dvd_add t1 (dvd_swap h2)
        rwa [show (c / g - a / g) * (u * s) + a - (d + k) - (c - (d + k)) + (c - (d + k)) = (c / g - a / g) * (u * s) + a - (d + k) by omega] at this
  generalize (c / g - a / g) * (u * s) + a - (d + k) = W at turn key
  generalize c / g * (u * s) % L = X at *
  generalize (a / g * (u * s) - a + d) % L = Y at *
  constructor
  · intro h
    have same : c % g = a % g := by
      rcases h with h | h
      · exact far_rows (e := 0) ⟨x0, x1⟩ ⟨y0, y1⟩ ⟨k0, kL⟩ ⟨by omega, by omega⟩ (by omega)
      · exact far_rows (e := L) ⟨x0, x1⟩ ⟨y0, y1⟩ ⟨k0, kL⟩ ⟨by omega, by omega⟩ (by omega)
    refine (key same.symm).mp ?_
    rw [same] at h
    have hv : L ∣ X - Y - k := by
      rcases h with h | h
      · exact ⟨0, by omega⟩
      · exact ⟨-1, by omega⟩
    have := Int.dvd_sub hv turn
    rwa [show X - Y - k - (X - Y - k - W) = W by omega] at this
  · rintro ⟨h1, h2⟩
    have same : a % g = c % g := by
      have := dvd_via (dvd_swap (Int.dvd_trans g1 h1)) (Int.dvd_trans g2 h2)
      exact Int.emod_eq_emod_iff_emod_sub_eq_zero.mpr (Int.emod_eq_zero_of_dvd this)
    have hW := (key same).mpr ⟨h1, h2⟩
    have hv := Int.dvd_add turn hW
    rw [show X - Y - k - W + W = X - Y - k by omega] at hv
    obtain ⟨m, hm⟩ := hv
    rw [same]
    have m0 : m < 1 := by
      rcases Int.lt_or_le m 1 with l | l
      · exact l
      · have := Int.mul_le_mul_of_nonneg_left l (show 0 ≤ L by omega)
        omega
    have m1 : -2 < m := by
      rcases Int.lt_or_le (-2) m with l | l
      · exact l
      · have := Int.mul_le_mul_of_nonneg_left l (show 0 ≤ L by omega)
        omega
    rcases (show m = 0 ∨ m = -1 by omega) with rfl | rfl
    · left
      omega
    · right
      omega
/-! ### how many of a list are less -/
def lessN (E : List Int) (x : Int) : Nat := (E.filter fun e => decide (e < x)).length
def sameN (E : List Int) (x : Int) : Nat := (E.filter fun e => decide (e = x)).length
theorem less_cons (e : Int) (E : List Int) (x : Int) : lessN (e :: E) x = (if e < x then 1 else 0) + lessN E x := by
  unfold lessN
  rw [List.filter_cons]
  by_cases h : e < x
  · rw [if_pos (decide_eq_true h), if_pos h, List.length_cons, Nat.add_comm]
  · rw [if_neg (by rw [decide_eq_false h]; decide), if_neg h, Nat.zero_add]
theorem same_cons (e : Int) (E : List Int) (x : Int) : sameN (e :: E) x = (if e = x then 1 else 0) + sameN E x := by
  unfold sameN
  rw [List.filter_cons]
  by_cases h : e = x
  · rw [if_pos (decide_eq_true h), if_pos h, List.length_cons, Nat.add_comm]
  · rw [if_neg (by rw [decide_eq_false h]; decide), if_neg h, Nat.zero_add]
theorem less_step (E : List Int) (x : Int) : lessN E (x + 1) = lessN E x + sameN E x := by
  induction E with
  | nil => rfl
  | cons e E ih =>
    rw [less_cons, less_cons, same_cons, ih]
    by_cases h1 : e < x
    · rw [if_pos (by omega), if_pos h1, if_neg (by omega)]
      omega
    · by_cases h2 : e = x
      · rw [if_pos (by omega), if_neg h1, if_pos h2]
        omega
      · rw [if_neg (by omega), if_neg h1, if_neg h2]
        omega
theorem less_mono (E : List Int) {x y : Int} (h : x ≤ y) : lessN E x ≤ lessN E y := by
  induction E with
  | nil => exact Nat.le_refl _
  | cons e E ih =>
    rw [less_cons, less_cons]
    by_cases h1 : e < x
    · rw [if_pos h1, if_pos (by omega)]
      omega
    · rw [if_neg h1]
      omega
theorem less_le (E : List Int) (x : Int) : lessN E x ≤ E.length := List.length_filter_le _ _
theorem less_lt {E : List Int} {x z : Int} (hz : z ∈ E) (h : x ≤ z) : lessN E x < E.length := by
  induction E with
  | nil => cases hz
  | cons e E ih =>
    rw [less_cons, List.length_cons]
    rcases List.mem_cons.mp hz with rfl | later
    · rw [if_neg (by omega)]
      have := less_le E x
      omega
    · have := ih later
      by_cases h1 : e < x
      · rw [if_pos h1]
        omega
      · rw [if_neg h1]
        omega
theorem less_none {E : List Int} {x : Int} (h : ∀ e ∈ E, x ≤ e) : lessN E x = 0 := by
  unfold lessN
  rw [List.length_eq_zero_iff, List.filter_eq_nil_iff]
  intro e he
  have up := h e he
  rw [decide_eq_false (by omega : ¬ e < x)]
  decide
/-- of a rising list: the first so many are less -/
theorem less_at {E : List Int} (up : E.Pairwise (· ≤ ·)) {k : Nat} {y x : Int} (hk : E[k]? = some y) : y < x ↔ k < lessN E x := by
  induction E generalizing k with
  | nil => cases hk
  | cons e E ih =>
    rw [List.pairwise_cons] at up
    rw [less_cons]
    cases k with
    | zero =>
      cases hk
      by_cases h : y < x
      · rw [if_pos h]
        exact ⟨fun _ => by omega, fun _ => h⟩
      · rw [if_neg h, less_none fun z hz => by have := up.1 z hz; omega]
        exact ⟨fun z => absurd z h, fun z => absurd z (by omega)⟩
    | succ k =>
      rw [List.getElem?_cons_succ] at hk
      have hy := up.1 y (List.mem_of_getElem? hk)
      rw [ih up.2 hk]
      by_cases h : e < x
      · rw [if_pos h]
        omega
      · rw [if_neg h, less_none fun z hz => by have := up.1 z hz; omega]
        omega
theorem less_perm {E E' : List Int} (h : E.Perm E') (x : Int) : lessN E x = lessN E' x := (h.filter _).length_eq
theorem same_append (E F : List Int) (x : Int) : sameN (E ++ F) x = sameN E x + sameN F x := by
  unfold sameN
  rw [List.filter_append, List.length_append]
theorem sum_perm {xs ys : List Int} (h : xs.Perm ys) : xs.sum = ys.sum := by
  induction h with
  | nil => rfl
  | cons x _ ih => rw [List.sum_cons, List.sum_cons, ih]
  | swap x y l => simp only [List.sum_cons]; omega
  | trans _ _ h1 h2 => rw [h1, h2]
/-- over all starts, how many ends are less than so many later -/
def sumLess (S E : List Int) (n : Int) : Int := (S.map fun s => (lessN E (s + n) : Int)).sum
def sumSame (S E : List Int) (n : Int) : Int := (S.map fun s => (sameN E (s + n) : Int)).sum
theorem sumLess_step (S E : List Int) (n : Int) : sumLess S E (n + 1) = sumLess S E n + sumSame S E n := by
  unfold sumLess sumSame
  induction S with
  | nil => rfl
  | cons s S ih =>
    simp only [List.map_cons, List.sum_cons]
    rw [ih, show s + (n + 1) = s + n + 1 by omega, less_step, Int.natCast_add]
    omega
theorem sumLess_perm {S S' E E' : List Int} (hS : S.Perm S') (hE : E.Perm E') (n : Int) : sumLess S E n = sumLess S' E' n := by
  unfold sumLess
  rw [show (fun s => ((lessN E (s + n) : Nat) : Int)) = fun s => ((lessN E' (s + n) : Nat) : Int) from funext fun s => by rw [less_perm hE]]
  exact sum_perm (hS.map _)
theorem sumLess_cnt {S E : List Int} {f : Int → Bool} {d : Int} {L : Nat} (h : ∀ k : Nat, k < L → sumSame S E k = if f (d + k) = true then 1 else 0) (n : Nat) (hn : n ≤ L) : sumLess S E n = sumLess S E 0 + cnt f d n := by
  induction n with
  | zero =>
    rw [show cnt f d 0 = 0 from rfl]
    simp
  | succ n ih =>
    rw [show ((n + 1 : Nat) : Int) = n + 1 by omega, sumLess_step, ih (by omega), h n (by omega), cnt_succ, Int.natCast_add]
    split <;> simp <;> omega
/-- at most one below n -/
theorem one_of {n : Nat} {p : Nat → Bool} (h : ∀ i j, i < n → j < n → p i = true → p j = true → i = j) : ((List.range n).filter p).length = if (List.range n).any p = true then 1 else 0 := by
  induction n with
  | zero => rfl
  | succ n ih =>
    have ih := ih fun i j hi hj => h i j (by omega) (by omega)
    rw [List.range_succ, List.filter_append, List.length_append, List.any_append, ih]
    by_cases e : p n = true
    · have no : (List.range n).any p = false := by
        rw [List.any_eq_false]
        intro i hi pi
        have := h i n (by have := List.mem_range.mp hi; omega) (by omega) pi e
        have := List.mem_range.mp hi
        omega
      simp [no, e]
    · simp only [List.filter_cons, e]
      simp [e]
theorem two_ways {α : Type} (xs : List α) {p q r : α → Bool} (h1 : ∀ x ∈ xs, r x = (p x || q x)) (h2 : ∀ x ∈ xs, p x = true → q x = false) : (xs.filter p).length + (xs.filter q).length = (xs.filter r).length := by
  induction xs with
  | nil => rfl
  | cons x xs ih =>
    have ih := ih (fun y hy => h1 y (List.mem_cons_of_mem _ hy)) (fun y hy => h2 y (List.mem_cons_of_mem _ hy))
    have a := h1 x List.mem_cons_self
    have b := h2 x List.mem_cons_self
    simp only [List.filter_cons]
    cases e : p x with
    | true =>
      have b := b e
      rw [e, Bool.true_or] at a
      rw [a, b]
      simp only [if_true, List.length_cons]
      simp
      omega
    | false =>
      rw [e, Bool.false_or] at a
      rw [a]
      cases q x <;> simp <;> omega

/-! ### starts and ends of two lands -/
theorem sum_if (n : Nat) (p : Nat → Bool) : ((List.range n).map fun i => (if p i = true then (1 : Int) else 0)).sum = (((List.range n).filter p).length : Nat) := by
  induction n with
  | zero => rfl
  | succ n ih =>
    rw [List.range_succ, List.map_append, List.filter_append, List.length_append, List.sum_append, ih]
    by_cases e : p n = true
    · simp [e]
    · simp [e]
theorem same_map (n : Nat) (f : Nat → Int) (x : Int) : sameN ((List.range n).map f) x = ((List.range n).filter fun j => decide (f j = x)).length := by
  unfold sameN
  rw [List.filter_map, List.length_map]
  rfl
def startL (D T B S p D' T' B' u d : Int) : List Int := (List.range B.toNat).map fun i => stO (stp D T B) (stp D' T' B') u d (pday D T B S p i)
def end1L (D T B D' T' B' S' p' u : Int) : List Int := (List.range B'.toNat).map fun j => enO (stp D T B) (stp D' T' B') u (pday D' T' B' S' p' j)
def lastE (D T B D' T' B' : Int) : Int := ((Nat.gcd (stp D T B) (stp D' T' B') : Nat) + 1) * (2 * (rnd D T B D' T' B' : Nat))
def endL (D T B D' T' B' S' p' u : Int) : List Int := end1L D T B D' T' B' S' p' u ++ (end1L D T B D' T' B' S' p' u).map (fun e => e + ((rnd D T B D' T' B' : Nat) : Int)) ++ [lastE D T B D' T' B']
section
variable {D T B S p D' T' B' S' p' u d : Int} (h : Ld D T B S p) (h' : Ld D' T' B' S' p')
include h h' in
theorem start_last {x : Int} (hx : x ∈ startL D T B S p D' T' B' u d) : x + (rnd D T B D' T' B' : Nat) < lastE D T B D' T' B' := by
  have s1 := h.stp
  have s2 := h'.stp
  have L0 : (0 : Int) < (rnd D T B D' T' B' : Nat) := round_pos (by omega) (by omega)
  have g0 := Nat.gcd_pos_of_pos_left (stp D' T' B') (show 0 < stp D T B by omega)
  unfold startL at hx
  obtain ⟨i, _, rfl⟩ := List.mem_map.mp hx
  unfold stO lastE
  change (_ % ((rnd D T B D' T' B' : Nat) : Int) + _ * (2 * ((rnd D T B D' T' B' : Nat) : Int))) + _ < _
  have g1 := Int.emod_lt_of_pos (pday D T B S p i) (show (0 : Int) < (Nat.gcd (stp D T B) (stp D' T' B') : Nat) by omega)
  have m1 := Int.emod_lt_of_pos (pday D T B S p i / (Nat.gcd (stp D T B) (stp D' T' B') : Nat) * (u * (stp D T B : Nat)) - pday D T B S p i + d) L0
  have := Int.mul_le_mul_of_nonneg_right (show pday D T B S p i % (Nat.gcd (stp D T B) (stp D' T' B') : Nat) + 2 ≤ ((Nat.gcd (stp D T B) (stp D' T' B') : Nat) : Int) + 1 by omega) (show 0 ≤ 2 * ((rnd D T B D' T' B' : Nat) : Int) by omega)
  rw [Int.add_mul] at this
  omega
include h h' in
theorem hits_one (hu : undoes (stp D T B) (stp D' T' B') u) {k : Nat} (hk : k < rnd D T B D' T' B') {i : Nat} : sameN (endL D T B D' T' B' S' p' u) (stO (stp D T B) (stp D' T' B') u d (pday D T B S p i) + k) = if decide (((stp D T B : Nat) : Int) ∣ d + k - pday D T B S p i) = true ∧ atP D' T' B' S' p' (d + k) = true then 1 else 0 := by
  have s1 := h.stp
  have s2 := h'.stp
  have L0 : (0 : Int) < (rnd D T B D' T' B' : Nat) := round_pos (by omega) (by omega)
  have hi := fun j : Nat => hit_iff (s := stp D T B) (t := stp D' T' B') (u := u) (d := d) (a := pday D T B S p i) (c := pday D' T' B' S' p' j) (k := k) (by omega) (by omega) hu (by omega) (by have : rnd D T B D' T' B' = stp D T B * stp D' T' B' / Nat.gcd (stp D T B) (stp D' T' B') := rfl; omega)
  have no : sameN [lastE D T B D' T' B'] (stO (stp D T B) (stp D' T' B') u d (pday D T B S p i) + k) = 0 := by
    have g1 := Int.emod_lt_of_pos (pday D T B S p i) (show (0 : Int) < (Nat.gcd (stp D T B) (stp D' T' B') : Nat) by have := Nat.gcd_pos_of_pos_left (stp D' T' B') (show 0 < stp D T B by omega); omega)
    have m1 := Int.emod_lt_of_pos (pday D T B S p i / (Nat.gcd (stp D T B) (stp D' T' B') : Nat) * (u * (stp D T B : Nat)) - pday D T B S p i + d) L0
    have := Int.mul_le_mul_of_nonneg_right (show pday D T B S p i % (Nat.gcd (stp D T B) (stp D' T' B') : Nat) + 2 ≤ ((Nat.gcd (stp D T B) (stp D' T' B') : Nat) : Int) + 1 by omega) (show 0 ≤ 2 * ((rnd D T B D' T' B' : Nat) : Int) by omega)
    rw [Int.add_mul] at this
    rw [same_cons, if_neg]
    · rfl
    · unfold stO lastE
      change ¬ _ = (_ % ((rnd D T B D' T' B' : Nat) : Int) + _ * (2 * ((rnd D T B D' T' B' : Nat) : Int))) + _
      omega
  unfold endL end1L
  rw [same_append, same_append, no, List.map_map, same_map, same_map, Nat.add_zero]
  rw [two_ways (List.range B'.toNat) (r := fun j => decide (((stp D T B : Nat) : Int) ∣ d + k - pday D T B S p i) && decide (((stp D' T' B' : Nat) : Int) ∣ d + k - pday D' T' B' S' p' j))]
  · by_cases e : ((stp D T B : Nat) : Int) ∣ d + k - pday D T B S p i
    · rw [decide_eq_true e]
      simp only [Bool.true_and, true_and]
      rw [one_of]
      · congr 1
        rw [eq_iff_iff, at_mod h'.d h'.t h'.b h'.p, List.any_eq_true, ← s2.1]
        constructor
        · rintro ⟨j, hj, dj⟩
          exact ⟨j, List.mem_range.mp hj, of_decide_eq_true dj⟩
        · rintro ⟨j, hj, dj⟩
          exact ⟨j, List.mem_range.mpr hj, decide_eq_true dj⟩
      · intro j j' hj hj' e1 e2
        refine pday_apart h'.d h'.t h'.b (S := S') (p := p') hj hj' ?_
        rw [← s2.1]
        exact dvd_via (dvd_swap (of_decide_eq_true e1)) (of_decide_eq_true e2)
    · rw [decide_eq_false e]
      simp
  · intro j _
    rw [Bool.eq_iff_iff, Bool.and_eq_true, Bool.or_eq_true, decide_eq_true_iff, decide_eq_true_iff, decide_eq_true_iff, decide_eq_true_iff]
    exact (hi j).symm
  · intro j _ e
    have e := of_decide_eq_true e
    refine decide_eq_false fun z => ?_
    have z : enO (stp D T B) (stp D' T' B') u (pday D' T' B' S' p' j) + (rnd D T B D' T' B' : Nat) = _ := z
    omega
include h h' in
theorem hits_all (hu : undoes (stp D T B) (stp D' T' B') u) (k : Nat) (hk : k < rnd D T B D' T' B') : sumSame (startL D T B S p D' T' B' u d) (endL D T B D' T' B' S' p' u) k = if meet D T B S p D' T' B' S' p' (d + k) = true then 1 else 0 := by
  have s1 := h.stp
  unfold sumSame startL
  rw [List.map_map]
  have row : ((fun s => ((sameN (endL D T B D' T' B' S' p' u) (s + k) : Nat) : Int)) ∘ fun i : Nat => stO (stp D T B) (stp D' T' B') u d (pday D T B S p i)) = fun i : Nat => if (decide (((stp D T B : Nat) : Int) ∣ d + k - pday D T B S p i) && atP D' T' B' S' p' (d + k)) = true then (1 : Int) else 0 := by
    funext i
    show ((sameN _ (stO (stp D T B) (stp D' T' B') u d (pday D T B S p i) + k) : Nat) : Int) = _
    rw [hits_one h h' hu hk]
    simp only [Bool.and_eq_true]
    split <;> rfl
  rw [row, sum_if]
  unfold meet
  cases e : atP D' T' B' S' p' (d + k) with
  | false => simp
  | true =>
    simp only [Bool.and_true]
    rw [one_of]
    · have : (List.range B.toNat).any (fun i => decide (((stp D T B : Nat) : Int) ∣ d + k - pday D T B S p i)) = atP D T B S p (d + k) := by
        rw [Bool.eq_iff_iff, at_mod h.d h.t h.b h.p, List.any_eq_true, ← s1.1]
        constructor
        · rintro ⟨j, hj, dj⟩
          exact ⟨j, List.mem_range.mp hj, of_decide_eq_true dj⟩
        · rintro ⟨j, hj, dj⟩
          exact ⟨j, List.mem_range.mpr hj, decide_eq_true dj⟩
      rw [this]
      split <;> rfl
    · intro j j' hj hj' e1 e2
      refine pday_apart h.d h.t h.b (S := S) (p := p) hj hj' ?_
      rw [← s1.1]
      exact dvd_via (dvd_swap (of_decide_eq_true e1)) (of_decide_eq_true e2)
include h h' in
theorem meet_iff (hu : undoes (stp D T B) (stp D' T' B') u) (k : Nat) (hk : k < rnd D T B D' T' B') : meet D T B S p D' T' B' S' p' (d + k) = true ↔ ∃ x ∈ startL D T B S p D' T' B' u d, x + k ∈ endL D T B D' T' B' S' p' u := by
  have s1 := h.stp
  have s2 := h'.stp
  have hit := fun i j : Nat => hit_iff (s := stp D T B) (t := stp D' T' B') (u := u) (d := d) (a := pday D T B S p i) (c := pday D' T' B' S' p' j) (k := k) (by omega) (by omega) hu (by omega) (by have : rnd D T B D' T' B' = stp D T B * stp D' T' B' / Nat.gcd (stp D T B) (stp D' T' B') := rfl; omega)
  unfold meet
  rw [Bool.and_eq_true, at_mod h.d h.t h.b h.p, at_mod h'.d h'.t h'.b h'.p, ← s1.1, ← s2.1]
  constructor
  · rintro ⟨⟨i, hi, di⟩, j, hj, dj⟩
    refine ⟨_, List.mem_map.mpr ⟨i, List.mem_range.mpr hi, rfl⟩, ?_⟩
    unfold endL
    rcases (hit i j).mpr ⟨di, dj⟩ with e | e
    · rw [← e]
      exact List.mem_append_left _ (List.mem_append_left _ (List.mem_map.mpr ⟨j, List.mem_range.mpr hj, rfl⟩))
    · rw [← e]
      exact List.mem_append_left _ (List.mem_append_right _ (List.mem_map.mpr ⟨_, List.mem_map.mpr ⟨j, List.mem_range.mpr hj, rfl⟩, rfl⟩))
  · rintro ⟨x, hx, he⟩
    have far := start_last h h' hx
    obtain ⟨i, hi, rfl⟩ := List.mem_map.mp hx
    have hi := List.mem_range.mp hi
    unfold endL at he
    rcases List.mem_append.mp he with hb | he
    · rcases List.mem_append.mp hb with ha | he
      · obtain ⟨j, hj, e⟩ := List.mem_map.mp ha
        have := (hit i j).mp (.inl e)
        exact ⟨⟨i, hi, this.1⟩, j, List.mem_range.mp hj, this.2⟩
      · obtain ⟨_, hz, e⟩ := List.mem_map.mp he
        obtain ⟨j, hj, rfl⟩ := List.mem_map.mp hz
        have := (hit i j).mp (.inr e)
        exact ⟨⟨i, hi, this.1⟩, j, List.mem_range.mp hj, this.2⟩
    · have := List.mem_singleton.mp he
      omega
/-- the nearest end of all starts -/
theorem nearest_end {S E : List Int} {f : Int → Bool} {L : Nat} {d m : Int} (up : E.Pairwise (· ≤ ·)) (hit : ∀ k : Nat, k < L → (f (d + k) = true ↔ ∃ x ∈ S, x + k ∈ E)) (N : Int → Int) (hN : ∀ x ∈ S, E[lessN E x]? = some (N x)) (hm : m ∈ S.map fun x => N x - x) (least : ∀ y ∈ S.map fun x => N x - x, m ≤ y) :
    0 ≤ m ∧ (m < L → hd (yrs f d L) = .int (d + m)) ∧ ((L : Int) ≤ m → hd (yrs f d L) = .non) := by
  have near : ∀ x ∈ S, x ≤ N x ∧ N x ∈ E ∧ ∀ e ∈ E, x ≤ e → N x ≤ e := fun x hx => by
    have hx := hN x hx
    refine ⟨?_, List.mem_of_getElem? hx, fun e he le => ?_⟩
    · have := less_at up (x := x) hx
      omega
    · obtain ⟨k, hk⟩ := List.mem_iff_getElem?.mp he
      have h1 := less_at up (x := x) hk
      rcases Nat.lt_or_ge (lessN E x) k with l | l
      · obtain ⟨k1, e1⟩ := List.getElem?_eq_some_iff.mp hx
        obtain ⟨k2, e2⟩ := List.getElem?_eq_some_iff.mp hk
        have := List.pairwise_iff_getElem.mp up _ _ k1 k2 l
        rw [e1, e2] at this
        exact this
      · have : k = lessN E x := by omega
        subst this
        rw [hk] at hx
        cases hx
        exact Int.le_refl _
  obtain ⟨x0, hx0, e0⟩ := List.mem_map.mp hm
  have n0 := near x0 hx0
  have none_before : ∀ j : Nat, (j : Int) < m → j < L → f (d + j) = false := fun j jm jL => by
    cases e : f (d + j) with
    | false => rfl
    | true =>
      obtain ⟨x, hx, he⟩ := (hit j jL).mp e
      have := (near x hx).2.2 _ he (by omega)
      have := least _ (List.mem_map.mpr ⟨x, hx, rfl⟩)
      have := Int.le_trans this (show N x - x ≤ j by omega)
      omega
  have e0 : N x0 - x0 = m := e0
  refine ⟨by omega, fun lt => ?_, fun ge => ?_⟩
  · rw [show m = ((m.toNat : Nat) : Int) by omega]
    refine hd_first (by omega) ((hit m.toNat (by omega)).mpr ⟨x0, hx0, ?_⟩) fun j hj => none_before j (by omega) (by omega)
    rw [show x0 + ((m.toNat : Nat) : Int) = N x0 by omega]
    exact n0.2.1
  · exact hd_none fun k hk => none_before k (by omega) hk
end

section
variable {P : Program} {w : World} {K : PySem.W.Frag} {mg : Str → Option Value} {base : Heap}
/-- a comprehension over a list of numbers, without a test -/
theorem lc_ints {K : PySem.W.Frag} {a : Addr} {M : List Int} (f : Int → Int) {te : TE} {j : Nat} {vs : List Nat} {σ : L2.St} {H1 : Hp} {Dl : Addr} {Qd : Hp → Prop} (ha : H1 a = some (.lst (M.map V.int))) (hD : H1 Dl = none) (hz : M.length ≤ 40000) (hw : ∀ x, wipe ((wipe σ vs).set j (some x)) vs = wipe σ vs)
    (he : ∀ m ∈ M, Ev te ((wipe σ vs).set j (some (.int m))) H1 (.int (f m))) (q : ∀ H', Ex H1 H' → H' Dl = some (.lst ((M.map f).map V.int)) → Qd H') :
    ∃ W : Nat → Nat → Hp → Prop, (∃ m, W 0 m (upd H1 Dl (.lst []))) ∧ ∀ i m H, W i m H → ((Itl K a).stop i H ∧ Qd H) ∨ ((Itl K a).go i H ∧ ∃ Nx : Hp → Prop, (∀ H', Nx H' → ∃ m', m' < m ∧ W (i + 1) m' H') ∧ ∀ x H', (Itl K a).yld i H x H' → gName j x (wipe σ vs) H' fun σ2 H2 => wipe σ2 vs = wipe σ vs ∧ tYes σ2 H2 fun b H3 =>
      if b = true then te σ2 H3 fun y H4 => ∃ acc, H4 Dl = some (.lst acc) ∧ acc.length < sizeLine ∧ Nx (upd H4 Dl (.lst (acc ++ [y]))) else Nx H3) := by
  refine lc_list (xs := M.map V.int) (Cw H1 (fun _ => true) (fun i => .int (f (M[i]?.getD 0))) Dl) ⟨hD, Ex.new hD, upd_same⟩ (fun _ H' _ c => sq_of (c.2.1 _ _ ha)) (fun i x H' hi c => ?_) (fun H' c => ?_)
  · have i1 : i < M.length := by
      obtain ⟨lt, _⟩ := List.getElem?_eq_some_iff.mp hi
      rwa [List.length_map] at lt
    rw [List.getElem?_map, List.getElem?_eq_getElem i1] at hi
    cases hi
    have ei : M[i]?.getD 0 = M[i] := by rw [List.getElem?_eq_getElem i1] <;> rfl
    refine ⟨hw _, cw_turn c (by omega) (fun Ha ea Qa qa => qa Ha (Ex.refl Ha)) ?_⟩
    intro _
    rw [ei]
    exact he _ (List.getElem_mem i1)
  · obtain ⟨_, e1, h1⟩ := c
    rw [given_all, List.length_map, range_ints M f] at h1
    exact q H' e1 h1
def spAhead : Sp := fun vs H Q _ => ∃ (a b : Addr) (xs ys : List Int), vs = [.ref a, .ref b] ∧ H a = some (.lst (xs.map V.int)) ∧ H b = some (.lst (ys.map V.int)) ∧ xs.Pairwise (· ≤ ·) ∧ ys.Pairwise (· ≤ ·) ∧ (∀ x ∈ xs, ∃ z ∈ ys, x ≤ z) ∧ xs.length ≤ 1000 ∧
  ∀ Dl H', H Dl = none → Ex H H' → H' Dl = some (.lst ((xs.map fun x => ((lessN ys x : Nat) : Int)).map V.int)) → Q (.ref Dl) H'
theorem ok_ends_ahead (T : Txt K mg) : FnOk P w K mg base CX0 1 T.ends_ahead.f T.ends_ahead.fd ["starts", "ends"] spAhead := by
  refine T.ends_ahead.F.ok sc_ends_ahead (fun vs H Q E h => ?_) (fun cdv A outer s H vs Q E hr h => ?_)
  · obtain ⟨_, _, _, _, rfl, _⟩ := h
    rfl
  · obtain ⟨a, b, xs, ys, rfl, ha, hb, ux, uy, far, few_, q⟩ := h
    refine ⟨_, (pss_cons (ps_set (i := 2) sc_ends_ahead.nd rfl (Or.inl rfl) (pe_lst pa_nil))
      (pss_cons (ps_set (i := 3) sc_ends_ahead.nd rfl (Or.inl rfl) pe_int)
      (pss_cons (ps_for PassesOwn.never rfl (pi_list (pv 0)) (pg_name (i := 4) sc_ends_ahead.nd rfl (Or.inl rfl))
        (pss_cons (ps_while PassesOwn.never (pt_cmpR op_lt (pe_ix ix_list (pv 1) (pv 3) (fun _ _ => rfl)) (pv 4) (nomark _))
        (pss_one (ps_aug (i := 3) sc_ends_ahead.nd rfl (Or.inl rfl) pe_int ip_add)))
      (pss_one (ps_expr (pe_bm PySem.F.plainAttrs_list PySem.F.slot_list_append PySem.F.type_list_append mt_append (pv 2) (pa_cons (pv 3) pa_nil))))))
      (pss_one (ps_ret (pv 2)))))), ?_⟩
    refine ⟨Nat.zero_le _, fun l nl => ?_⟩
    have x1 := Ex.new (o := .lst []) nl
    refine ⟨_, rfl, a, rfl, ⟨_, sq_of (x1 _ _ ha)⟩, for_list (xs := xs.map V.int) (fun i σ' H' => ∃ (at_ : Nat) (z : Option V), σ' = [some (.ref a), some (.ref b), some (.ref l), some (.int (at_ : Nat)), z] ∧ Ex H H' ∧ H' l = some (.lst (((xs.take i).map fun x => ((lessN ys x : Nat) : Int)).map V.int)) ∧ ∀ j x, i ≤ j → xs[j]? = some x → at_ ≤ lessN ys x) ⟨0, none, rfl, x1, upd_same, fun _ _ _ _ => Nat.zero_le _⟩ (fun i σ' H' _ ⟨_, _, _, e, _⟩ => sq_of (e _ _ ha)) (fun i x σ' H' hi c => ?_) (fun σ' H' c => ?_)⟩
    · obtain ⟨at_, z, rfl, e1, h1, low⟩ := c
      have i1 : i < xs.length := by
        obtain ⟨lt, _⟩ := List.getElem?_eq_some_iff.mp hi
        rwa [List.length_map] at lt
      rw [List.getElem?_map, List.getElem?_eq_getElem i1] at hi
      cases hi
      obtain ⟨zz, hz, le⟩ := far _ (List.getElem_mem i1)
      have lt := less_lt hz le
      have l0 := low i _ (Nat.le_refl i) (List.getElem?_eq_getElem i1)
      show tSeq (tWhile _ _) _ _ _ _
      refine q_while (fun m σ2 H2 => ∃ k : Nat, k + m = lessN ys xs[i] ∧ σ2 = [some (.ref a), some (.ref b), some (.ref l), some (.int (k : Nat)), some (.int xs[i])] ∧ Ex H H2 ∧ H2 l = some (.lst (((xs.take i).map fun x => ((lessN ys x : Nat) : Int)).map V.int))) (lessN ys xs[i] - at_) ⟨at_, by omega, rfl, e1, h1⟩ ?_
      rintro m σ2 H2 ⟨k, km, rfl, e2, h2⟩
      have kl : k < ys.length := by omega
      have cmp := less_at uy (x := xs[i]) (List.getElem?_eq_getElem kl)
      refine ⟨decide (ys[k] < xs[i]), fun H3 e3 Q3 q3 => ⟨_, rfl, _, rfl, b, _, (k : Int), .int ys[k], rfl, rfl, sq_of ((e2.trans e3) _ _ hb), atI_nat (by rw [List.getElem?_map, List.getElem?_eq_getElem kl]; rfl), _, rfl, _, _, rfl, rfl, _, rfl, q3 H3 (Ex.refl H3)⟩, fun hb H3 e3 => ?_, fun hb H3 e3 => ?_⟩
      · have kk := cmp.mp (of_decide_eq_true hb)
        refine ⟨fun σ' H' => σ' = [some (.ref a), some (.ref b), some (.ref l), some (.int ((k + 1 : Nat) : Int)), some (.int xs[i])] ∧ Ex H H' ∧ H' l = some (.lst (((xs.take i).map fun x => ((lessN ys x : Nat) : Int)).map V.int)), fun σ' H' ⟨es, ex, hl⟩ => ⟨m - 1, by omega, k + 1, by omega, es, ex, hl⟩, ?_⟩
        exact ⟨_, rfl, _, _, rfl, rfl, rfl, e2.trans e3, e3 _ _ h2⟩
      · have kk : ¬ k < lessN ys xs[i] := fun z => of_decide_eq_false hb (cmp.mpr z)
        obtain rfl : k = lessN ys xs[i] := by omega
        have h3 := e3 _ _ h2
        refine ⟨_, rfl, .inl ⟨rfl, _, sq_of h3⟩, _, rfl, l, _, _, rfl, rfl, h3, by rw [List.length_map, List.length_map, List.length_take]; exact sz_lt (by omega), _, _, rfl, ex_put (e2.trans e3) nl, ?_, fun j x ij hj => ?_⟩
        · rw [upd_same, List.take_add_one, List.getElem?_eq_getElem i1, List.map_append, List.map_append]
          rfl
        · obtain ⟨jl, ej⟩ := List.getElem?_eq_some_iff.mp hj
          have := List.pairwise_iff_getElem.mp ux i j i1 jl (by omega)
          rw [ej] at this
          exact less_mono ys this
    · obtain ⟨at_, z, rfl, e1, h1, _⟩ := c
      rw [List.length_map, List.take_length] at h1
      exact ⟨_, rfl, q l H' nl e1 h1⟩
end

section
variable {P : Program} {w : World} {K : PySem.W.Frag} {mg : Str → Option Value} {base : Heap}
theorem cm_rr {i j : Int} (h : -4000000000 ≤ j ∧ j ≤ 4000000000) : CMul i j := .inr ⟨by omega, by omega⟩
def spRnd : Sp := fun vs H Q _ => ∃ v D T B S p v' D' T' B' S' p' d, vs = [v, .int p, v', .int p', .int d] ∧ Two H v D T B S p v' D' T' B' S' p' ∧
  ∀ (tp ls le : Addr) H' u (Ss Es : List Int), undoes (stp D T B) (stp D' T' B') u → Ss.Perm (startL D T B S p D' T' B' u d) → Ss.Pairwise (· ≤ ·) → Es.Perm (endL D T B D' T' B' S' p' u) → Es.Pairwise (· ≤ ·) → Ex H H' →
    H' tp = some (.tup [.int (rnd D T B D' T' B' : Nat), .ref ls, .ref le]) → H' ls = some (.lst (Ss.map V.int)) → H' le = some (.lst (Es.map V.int)) → Q (.ref tp) H'
theorem ok_round_from (T : Txt K mg) : FnOk P w K mg base CX0 4 T.round_from.f T.round_from.fd ["one", "place_one", "other", "place_other", "day"] spRnd := by
  have G_step_of : FnOk P w K mg base CX0 1 T.step_of.f T.step_of.fd ["land"] spStep := ok_step_of T
  have G_shared_step : FnOk P w K mg base CX0 2 T.shared_step.f T.shared_step.fd ["one", "other"] spShare := ok_shared_step T
  have G_undoing_factor : FnOk P w K mg base CX0 1 T.undoing_factor.f T.undoing_factor.fd ["number", "ring"] spUndo := ok_undoing_factor T
  have G_placed_days : FnOk P w K mg base CX0 3 T.placed_days.f T.placed_days.fd ["land", "place"] spPlaced := ok_placed_days T
  refine T.round_from.F.ok sc_round_from (fun vs H Q E h => ?_) (fun cdv A outer s H vs Q E hr h => ?_)
  · obtain ⟨_, _, _, _, _, _, _, _, _, _, _, _, _, rfl, _⟩ := h
    rfl
  · obtain ⟨v, D, T1, B, S, p, v', D', T', B', S', p', d, rfl, t, q⟩ := h
    have s1 := t.ld.stp
    have s2 := t.ld'.stp
    have g0 := Nat.gcd_pos_of_pos_left (stp D' T' B') (show 0 < stp D T1 B by omega)
    have gl := Nat.gcd_le_left (stp D' T' B') (show 0 < stp D T1 B by omega)
    have gr := Nat.gcd_le_right (n := stp D' T' B') (stp D T1 B) (by omega)
    have hb := t.ld.b
    have hb' := t.ld'.b
    have rp := rnd_pos t.ld t.ld'
    have d1 : ((stp D T1 B / Nat.gcd (stp D T1 B) (stp D' T' B') : Nat) : Int) = (D * B + T1) / (Nat.gcd (stp D T1 B) (stp D' T' B') : Nat) := by rw [Int.natCast_ediv, s1.1]
    have d2 : ((stp D' T' B' / Nat.gcd (stp D T1 B) (stp D' T' B') : Nat) : Int) = (D' * B' + T') / (Nat.gcd (stp D T1 B) (stp D' T' B') : Nat) := by rw [Int.natCast_ediv, s2.1]
    have q1 := Nat.div_le_self (stp D T1 B) (Nat.gcd (stp D T1 B) (stp D' T' B'))
    have q2 := Nat.div_le_self (stp D' T' B') (Nat.gcd (stp D T1 B) (stp D' T' B'))
    have q2' : 1 ≤ stp D' T' B' / Nat.gcd (stp D T1 B) (stp D' T' B') := (Nat.le_div_iff_mul_le g0).mpr (by omega)
    have hL : (D * B + T1) * ((D' * B' + T') / (Nat.gcd (stp D T1 B) (stp D' T' B') : Nat)) = (rnd D T1 B D' T' B' : Nat) := by
      unfold rnd
      rw [← d2, ← s1.1, ← Int.natCast_mul, Nat.mul_div_assoc _ (Nat.gcd_dvd_right _ _)]
    refine ⟨_, (pss_cons (ps_set (i := 5) sc_round_from.nd rfl (Or.inr rfl) (pe_call G_shared_step (hr.mono (by omega)) (by rfl) T.shared_step.g T.shared_step.F.kp T.shared_step.b .nil pass0 (pa_cons (pv 0) (pa_cons (pv 2) pa_nil))))
      (pss_cons (ps_set (i := 6) sc_round_from.nd rfl (Or.inl rfl) (pe_call G_step_of (hr.mono (by omega)) (by rfl) T.step_of.g T.step_of.F.kp T.step_of.b .nil pass0 (pa_cons (pv 0) pa_nil)))
      (pss_cons (ps_set (i := 7) sc_round_from.nd rfl (Or.inl rfl) (pe_op op_fdiv (pe_call G_step_of (hr.mono (by omega)) (by rfl) T.step_of.g T.step_of.F.kp T.step_of.b .nil pass0 (pa_cons (pv 2) pa_nil)) (pv 5)))
      (pss_cons (ps_set (i := 8) sc_round_from.nd rfl (Or.inr rfl) (pe_op op_mul (pv 6) (pv 7)))
      (pss_cons (ps_set (i := 9) sc_round_from.nd rfl (Or.inr rfl) (pe_op op_mul (pe_call G_undoing_factor (hr.mono (by omega)) (by rfl) T.undoing_factor.g T.undoing_factor.F.kp T.undoing_factor.b .nil pass0 (pa_cons (pe_op op_fdiv (pv 6) (pv 5)) (pa_cons (pv 7) pa_nil))) (pv 6)))
      (pss_cut (ps_set (i := 10) sc_round_from.nd rfl (Or.inr rfl) (pe_op op_mul pe_int (pv 8)))
      (pss_cons (ps_setLc (i := 11) (own := [("one_day", 14)]) (g := gName 14) (by rfl) sc_round_from.nd rfl rfl (sw_true rfl rfl rfl (by decide +kernel)) (pi_list (pe_call G_placed_days (hr.mono (by omega)) (by rfl) T.placed_days.g T.placed_days.F.kp T.placed_days.b .nil pass0 (pa_cons (pv 0) (pa_cons (pv 1) pa_nil)))) (blkOk_by (own := [("one_day", 14)]) (N := ["one", "place_one", "other", "place_other", "day", "shared", "step_one", "steps", "again", "lead", "row", "starts", "ends", "later_ends", "one_day", "other_day", "end"]) (sc := defScope s_round_from) (by decide +kernel)) (fun _ _ _ _ _ => (pg_name (i := 14) sc_round_from.nd rfl (Or.inl rfl))) (fun _ _ _ _ _ => pts_nil) (fun _ _ _ _ _ => (pe_op op_add (pe_op op_mod (pe_op op_add (pe_op op_sub (pe_op op_mul (pe_op op_fdiv (pv 14) (pv 5)) (pv 9)) (pv 14)) (pv 4)) (pv 8)) (pe_op op_mul (pe_op op_mod (pv 14) (pv 5)) (pv 10)))))
      (pss_cons (ps_setLc (i := 12) (own := [("other_day", 15)]) (g := gName 15) (by rfl) sc_round_from.nd rfl rfl (sw_true rfl rfl rfl (by decide +kernel)) (pi_list (pe_call G_placed_days (hr.mono (by omega)) (by rfl) T.placed_days.g T.placed_days.F.kp T.placed_days.b .nil pass0 (pa_cons (pv 2) (pa_cons (pv 3) pa_nil)))) (blkOk_by (own := [("other_day", 15)]) (N := ["one", "place_one", "other", "place_other", "day", "shared", "step_one", "steps", "again", "lead", "row", "starts", "ends", "later_ends", "one_day", "other_day", "end"]) (sc := defScope s_round_from) (by decide +kernel)) (fun _ _ _ _ _ => (pg_name (i := 15) sc_round_from.nd rfl (Or.inl rfl))) (fun _ _ _ _ _ => pts_nil) (fun _ _ _ _ _ => (pe_op op_add (pe_op op_mod (pe_op op_mul (pe_op op_fdiv (pv 15) (pv 5)) (pv 9)) (pv 8)) (pe_op op_mul (pe_op op_mod (pv 15) (pv 5)) (pv 10)))))
      (pss_cons (ps_setLc (i := 13) (own := [("end", 16)]) (g := gName 16) (by rfl) sc_round_from.nd rfl rfl (sw_true rfl rfl rfl (by decide +kernel)) (pi_list (pv 12)) (blkOk_by (own := [("end", 16)]) (N := ["one", "place_one", "other", "place_other", "day", "shared", "step_one", "steps", "again", "lead", "row", "starts", "ends", "later_ends", "one_day", "other_day", "end"]) (sc := defScope s_round_from) (by decide +kernel)) (fun _ _ _ _ _ => (pg_name (i := 16) sc_round_from.nd rfl (Or.inl rfl))) (fun _ _ _ _ _ => pts_nil) (fun _ _ _ _ _ => (pe_op op_add (pv 16) (pv 8))))
      (pss_one (ps_ret (pe_tup (pa_cons (pv 8) (pa_cons (pe_callB cr_sortedI (by rfl) T.sorted (by decide +kernel) (pa_cons (pv 11) pa_nil)) (pa_cons (pe_callB cr_sortedI (by rfl) T.sorted (by decide +kernel) (pa_cons (pe_op op_cat (pe_op op_cat (pv 12) (pv 13)) (pe_lst (pa_cons (pe_op op_mul (pe_op op_add (pv 5) pe_int) (pv 10)) pa_nil))) pa_nil)) pa_nil))))))))))))))), ?_⟩
    refine ⟨_, rfl, _, rfl, v, D, T1, B, S, p, v', D', T', B', S', p', rfl, t, fun H1 e1 => ?_⟩
    refine ⟨_, rfl, v, D, T1, B, S, rfl, t.l.ex e1, fun H2 e2 => ?_⟩
    have e12 := e1.trans e2
    refine ⟨_, rfl, v', D', T', B', S', rfl, t.l'.ex e12, fun H3 e3 => ⟨_, rfl, _, _, rfl, rfl, ⟨by omega, by omega⟩, ?_⟩⟩
    have e13 := e12.trans e3
    refine ⟨_, rfl, _, rfl, _, _, rfl, rfl, cm_l (by omega), ?_⟩
    show gName 8 (V.int ((D * B + T1) * ((D' * B' + T') / _))) _ _ _
    rw [hL]
    refine ⟨_, rfl, _, rfl, _, _, rfl, rfl, ⟨by omega, by omega⟩, _, rfl, stp D T1 B / Nat.gcd (stp D T1 B) (stp D' T' B'), stp D' T' B' / Nat.gcd (stp D T1 B) (stp D' T' B'), by rw [d1, d2]; rfl, by omega, ⟨q2', by omega⟩, Nat.gcd_div_gcd_div_gcd_of_pos_left (by omega), fun u hu du H4 e4 => ?_⟩
    have hun : undoes (stp D T1 B) (stp D' T' B') u := du
    have e14 := e13.trans e4
    have t4 := t.ex e14
    refine ⟨_, rfl, _, _, rfl, rfl, cm_r (by omega), ?_⟩
    refine q_cut (M := fun σ' H' => σ' = [some v, some (.int p), some v', some (.int p'), some (.int d), some (.int (Nat.gcd (stp D T1 B) (stp D' T' B') : Nat)), some (.int (D * B + T1)), some (.int ((D' * B' + T') / (Nat.gcd (stp D T1 B) (stp D' T' B') : Nat))), some (.int (rnd D T1 B D' T' B' : Nat)), some (.int (u * (D * B + T1))), some (.int (2 * (rnd D T1 B D' T' B' : Nat))), none, none, none, none, none, none] ∧ H' = H4) ⟨_, rfl, _, _, rfl, rfl, cm_l (by omega), rfl, rfl⟩ ?_
    rintro _ _ ⟨rfl, rfl⟩
    have zst : ∀ a, stO (stp D T1 B) (stp D' T' B') u d a = (a / (Nat.gcd (stp D T1 B) (stp D' T' B') : Nat) * (u * (D * B + T1)) - a + d) % (rnd D T1 B D' T' B' : Nat) + a % (Nat.gcd (stp D T1 B) (stp D' T' B') : Nat) * (2 * (rnd D T1 B D' T' B' : Nat)) := fun a => by
      rw [← s1.1]
      rfl
    have zen : ∀ a, enO (stp D T1 B) (stp D' T' B') u a = a / (Nat.gcd (stp D T1 B) (stp D' T' B') : Nat) * (u * (D * B + T1)) % (rnd D T1 B D' T' B' : Nat) + a % (Nat.gcd (stp D T1 B) (stp D' T' B') : Nat) * (2 * (rnd D T1 B D' T' B' : Nat)) := fun a => by
      rw [← s1.1]
      rfl
    have lead : -578883600 ≤ u * (D * B + T1) ∧ u * (D * B + T1) ≤ 578883600 := by
      have a1 := Int.mul_nonneg hu.1 (show 0 ≤ D * B + T1 by omega)
      have a2 := Int.mul_le_mul (show u ≤ 24060 by omega) (show D * B + T1 ≤ 24060 by omega) (by omega) (by omega)
      omega
    have ng : (0 : Int) < (Nat.gcd (stp D T1 B) (stp D' T' B') : Nat) := by omega
    have nL : (0 : Int) < (rnd D T1 B D' T' B' : Nat) := by omega
    refine ⟨_, rfl, _, rfl, v, D, T1, B, S, p, rfl, t4.l, t4.ld.p, fun l1 H5 n1 e5 h5 => ⟨l1, rfl, ⟨_, sq_of h5⟩, fun ls nls => ?_⟩⟩
    refine lc_ints (fun a => stO (stp D T1 B) (stp D' T' B') u d a) h5 nls (by rw [List.length_map, List.length_range]; omega) (fun _ => rfl) (fun m _ Ha ea Qa qa => ?_) (fun H6 e6 h6 => ?_)
    · have z := qa Ha (Ex.refl Ha)
      rw [zst] at z
      exact ⟨_, rfl, _, rfl, _, _, rfl, rfl, ⟨by omega, by omega⟩, _, rfl, _, _, rfl, rfl, cm_r (by omega), _, rfl, _, _, rfl, rfl, _, rfl, _, _, rfl, rfl, _, rfl, _, _, rfl, rfl, nL, _, rfl, _, rfl, _, _, rfl, rfl, ng, _, rfl, _, _, rfl, rfl, cm_rr (by omega), _, _, rfl, rfl, z⟩
    have e16 := e14.trans (e5.trans e6)
    have t6 := t.ex e16
    refine ⟨_, rfl, _, rfl, v', D', T', B', S', p', rfl, t6.l', t6.ld'.p, fun l2 H7 n2 e7 h7 => ⟨l2, rfl, ⟨_, sq_of h7⟩, fun le nle => ?_⟩⟩
    refine lc_ints (fun a => enO (stp D T1 B) (stp D' T' B') u a) h7 nle (by rw [List.length_map, List.length_range]; omega) (fun _ => rfl) (fun m _ Ha ea Qa qa => ?_) (fun H8 e8 h8 => ?_)
    · have z := qa Ha (Ex.refl Ha)
      rw [zen] at z
      exact ⟨_, rfl, _, rfl, _, _, rfl, rfl, ⟨by omega, by omega⟩, _, rfl, _, _, rfl, rfl, cm_r (by omega), _, rfl, _, _, rfl, rfl, nL, _, rfl, _, rfl, _, _, rfl, rfl, ng, _, rfl, _, _, rfl, rfl, cm_rr (by omega), _, _, rfl, rfl, z⟩
    refine ⟨_, rfl, le, rfl, ⟨_, sq_of h8⟩, fun lf nlf => ?_⟩
    refine lc_ints (fun e => e + ((rnd D T1 B D' T' B' : Nat) : Int)) h8 nlf (by rw [List.length_map, List.length_map, List.length_range]; omega) (fun _ => rfl) (fun m _ Ha ea Qa qa => ?_) (fun H9 e9 h9 => ?_)
    · exact ⟨_, rfl, _, rfl, _, _, rfl, rfl, qa Ha (Ex.refl Ha)⟩
    have h6' := (e7.trans (e8.trans e9)) _ _ h6
    have h8' := e9 _ _ h8
    have e19 := e16.trans (e7.trans (e8.trans e9))
    rw [List.map_map (g := fun a => stO (stp D T1 B) (stp D' T' B') u d a)] at h6'
    rw [List.map_map (g := fun a => enO (stp D T1 B) (stp D' T' B') u a)] at h8' h9
    change H9 ls = some (.lst ((startL D T1 B S p D' T' B' u d).map V.int)) at h6'
    change H9 le = some (.lst ((end1L D T1 B D' T' B' S' p' u).map V.int)) at h8'
    change H9 lf = some (.lst (((end1L D T1 B D' T' B' S' p' u).map fun e => e + ((rnd D T1 B D' T' B' : Nat) : Int)).map V.int)) at h9
    have len1 : (end1L D T1 B D' T' B' S' p' u).length ≤ 60 := by
      unfold end1L
      rw [List.length_map, List.length_range (n := B'.toNat)]
      omega
    refine ⟨_, rfl, _, rfl, ls, _, rfl, sq_of h6', fun Ss ps perm1 up1 new1 => ?_⟩
    have xa := Ex.new (o := .lst (Ss.map V.int)) new1
    refine ⟨_, rfl, _, rfl, le, lf, _, _, rfl, rfl, xa _ _ h8', xa _ _ h9, by rw [List.length_map, List.length_map, List.length_map]; show _ ≤ sizeLine; rw [sizeLine_eq]; omega, fun pc nc => ?_⟩
    rw [← List.map_append]
    have xb := Ex.new (o := .lst ((end1L D T1 B D' T' B' S' p' u ++ (end1L D T1 B D' T' B' S' p' u).map fun e => e + ((rnd D T1 B D' T' B' : Nat) : Int)).map V.int)) nc
    refine ⟨_, rfl, _, _, rfl, rfl, _, rfl, _, _, rfl, rfl, cm_l (by omega), by show 1 ≤ sizeLine; rw [sizeLine_eq]; decide, fun pd nd => ?_⟩
    have xc := Ex.new (o := .lst [V.int (lastE D T1 B D' T' B')]) nd
    refine ⟨pc, pd, _, _, rfl, rfl, xc _ _ upd_same, upd_same, by rw [List.length_map, List.length_append, List.length_map]; show _ + 1 ≤ sizeLine; rw [sizeLine_eq]; omega, fun pf nf => ?_⟩
    have xd := Ex.new (o := .lst ((end1L D T1 B D' T' B' S' p' u ++ (end1L D T1 B D' T' B' S' p' u).map fun e => e + ((rnd D T1 B D' T' B' : Nat) : Int)).map V.int ++ [V.int (lastE D T1 B D' T' B')])) nf
    refine ⟨pf, endL D T1 B D' T' B' S' p' u, rfl, sq_of ?_, fun Es pe perm2 up2 new2 => ?_⟩
    · refine upd_same.trans ?_
      simp only [endL, List.map_append]
      rfl
    have xe := Ex.new (o := .lst (Es.map V.int)) new2
    refine ⟨by show 3 ≤ sizeLine; rw [sizeLine_eq]; decide, fun tp ntp => ?_⟩
    have xt := Ex.new (o := .tup [.int (rnd D T1 B D' T' B' : Nat), .ref ps, .ref pe]) ntp
    refine q tp ps pe _ u Ss Es hun perm1 up1 perm2 up2 (e19.trans (xa.trans (xb.trans (xc.trans (xd.trans (xe.trans xt)))))) upd_same ?_ ?_
    · exact (xb.trans (xc.trans (xd.trans (xe.trans xt)))) _ _ upd_same
    · exact xt _ _ upd_same
end

theorem undo_some (s t : Nat) (hs : 0 < s) : ∃ u, undoes s t u := by
  obtain ⟨x, y, e⟩ := bez (s / Nat.gcd s t) (t / Nat.gcd s t)
  rw [Nat.gcd_div_gcd_div_gcd_of_pos_left hs] at e
  refine ⟨x, -y, ?_⟩
  rw [Int.mul_neg, Int.mul_comm _ x, Int.mul_comm _ y]
  omega
/-- a number that parts two lands' places -/
def partI (D T B S p D' T' B' S' p' m : Int) : Bool := decide ((D * B + T) % m = 0) && (decide ((D' * B' + T') % m = 0) && !((List.range B'.toNat).any fun j => (List.range B.toNat).any fun i => decide (pday D T B S p i % m = pday D' T' B' S' p' j % m)))
theorem partI_iff {D T B S p D' T' B' S' p' m : Int} : partI D T B S p D' T' B' S' p' m = true ↔ m ∣ D * B + T ∧ m ∣ D' * B' + T' ∧ ∀ i j : Nat, i < B.toNat → j < B'.toNat → pday D T B S p i % m ≠ pday D' T' B' S' p' j % m := by
  unfold partI
  simp only [Bool.and_eq_true, decide_eq_true_eq, Bool.not_eq_true', List.any_eq_false, List.any_eq_true, List.mem_range, not_exists, not_and]
  rw [Int.dvd_iff_emod_eq_zero, Int.dvd_iff_emod_eq_zero]
  constructor
  · rintro ⟨h1, h2, h3⟩
    exact ⟨h1, h2, fun i j hi hj => h3 j hj i hi⟩
  · rintro ⟨h1, h2, h3⟩
    exact ⟨h1, h2, fun j hj i hi => h3 i j hi hj⟩
section
variable {D T B S p D' T' B' S' p' : Int} (h : Ld D T B S p) (h' : Ld D' T' B' S' p')
include h h' in
theorem part_none {m : Int} (hp : partI D T B S p D' T' B' S' p' m = true) (d : Int) : meet D T B S p D' T' B' S' p' d = false := by
  cases e : meet D T B S p D' T' B' S' p' d with
  | false => rfl
  | true =>
    obtain ⟨h1, h2, no⟩ := partI_iff.mp hp
    unfold meet at e
    rw [Bool.and_eq_true, at_mod h.d h.t h.b h.p, at_mod h'.d h'.t h'.b h'.p] at e
    obtain ⟨⟨i, hi, di⟩, j, hj, dj⟩ := e
    have a := Int.dvd_trans h1 di
    have b := Int.dvd_trans h2 dj
    exact absurd (Int.emod_eq_emod_iff_emod_sub_eq_zero.mpr (Int.emod_eq_zero_of_dvd (dvd_via (dvd_swap a) b))) (no i j hi hj)
include h h' in
theorem none_part (no : ∀ d, meet D T B S p D' T' B' S' p' d = false) : partI D T B S p D' T' B' S' p' (Nat.gcd (stp D T B) (stp D' T' B') : Nat) = true := by
  have s1 := h.stp
  have s2 := h'.stp
  refine partI_iff.mpr ⟨?_, ?_, fun i j hi hj e => ?_⟩
  · rw [← s1.1]
    exact Int.natCast_dvd_natCast.mpr (Nat.gcd_dvd_left _ _)
  · rw [← s2.1]
    exact Int.natCast_dvd_natCast.mpr (Nat.gcd_dvd_right _ _)
  · obtain ⟨u, hu⟩ := undo_some (stp D T B) (stp D' T' B') (by omega)
    have hg : ((Nat.gcd (stp D T B) (stp D' T' B') : Nat) : Int) ∣ pday D' T' B' S' p' j - pday D T B S p i := dvd_swap (Int.dvd_of_emod_eq_zero (Int.emod_eq_emod_iff_emod_sub_eq_zero.mp e))
    have m : turns (meetL D T B S p D' T' B' S' p' u) (rnd D T B D' T' B') (metOf (stp D T B) (stp D' T' B') u (pday D T B S p i) (pday D' T' B' S' p' j)) = true := List.any_eq_true.mpr ⟨_, meetL_mem.mpr ⟨i, j, hi, hj, hg, rfl⟩, decide_eq_true (by rw [Int.sub_self]; exact Int.dvd_zero _)⟩
    rw [meet_turns h h' hu, no] at m
    cases m
include h h' in
theorem next_hd {u : Int} (hu : undoes (stp D T B) (stp D' T' B') u) (d : Int) :
    (meetL D T B S p D' T' B' S' p' u = [] → ∀ k : Nat, k < rnd D T B D' T' B' → meet D T B S p D' T' B' S' p' (d + k) = false) ∧
    ∀ m ∈ (meetL D T B S p D' T' B' S' p' u).map (nextOf (rnd D T B D' T' B' : Nat) d), (∀ y ∈ (meetL D T B S p D' T' B' S' p' u).map (nextOf (rnd D T B D' T' B' : Nat) d), m ≤ y) →
      ∃ k : Nat, k < rnd D T B D' T' B' ∧ m = d + k ∧ meet D T B S p D' T' B' S' p' (d + k) = true ∧ ∀ j : Nat, j < k → meet D T B S p D' T' B' S' p' (d + j) = false := by
  have rp := rnd_pos h h'
  refine ⟨fun e k _ => ?_, fun m hm least => ?_⟩
  · rw [← meet_turns h h' hu, e]
    rfl
  · obtain ⟨m0, hm0, rfl⟩ := List.mem_map.mp hm
    have nh := next_here (L := (rnd D T B D' T' B' : Nat)) (d := d) (m := m0) (by omega)
    refine ⟨(nextOf (rnd D T B D' T' B' : Nat) d m0 - d).toNat, by omega, by omega, ?_, fun j hj => ?_⟩
    · rw [show d + ((nextOf (rnd D T B D' T' B' : Nat) d m0 - d).toNat : Int) = nextOf (rnd D T B D' T' B' : Nat) d m0 by omega, ← meet_turns h h' hu]
      exact List.any_eq_true.mpr ⟨m0, hm0, decide_eq_true nh.2.2⟩
    · cases e : meet D T B S p D' T' B' S' p' (d + j) with
      | false => rfl
      | true =>
        rw [← meet_turns h h' hu] at e
        obtain ⟨m1, hm1, d1⟩ := List.any_eq_true.mp e
        have l1 := least _ (List.mem_map.mpr ⟨m1, hm1, rfl⟩)
        have l2 := next_least (L := (rnd D T B D' T' B' : Nat)) (d := d) (m := m1) (e := d + j) (by omega) (by omega) (of_decide_eq_true d1)
        omega
end
theorem meetL_len {D T B S p D' T' B' S' p' u : Int} (h : Ld D T B S p) (h' : Ld D' T' B' S' p') : (meetL D T B S p D' T' B' S' p' u).length ≤ 3600 := by
  have row : ∀ (f : Nat → List Int) (n : Nat), (∀ i, (f i).length ≤ 60) → ((List.range n).flatMap f).length ≤ 60 * n := fun f n hf => by
    induction n with
    | zero => exact Nat.le_refl 0
    | succ n ih =>
      rw [List.range_succ, List.flatMap_append, List.length_append, List.flatMap_cons, List.flatMap_nil, List.append_nil]
      have := hf n
      omega
  have b := h.b
  have b' := h'.b
  refine Nat.le_trans (row _ B.toNat fun i => ?_) (by omega)
  rw [List.length_map]
  exact Nat.le_trans (List.length_filter_le _ _) (by rw [List.length_range]; omega)

theorem sumLess_bd (S E : List Int) (n : Int) : 0 ≤ sumLess S E n ∧ sumLess S E n ≤ S.length * E.length := by
  unfold sumLess
  induction S with
  | nil => simp
  | cons s S ih =>
    rw [List.map_cons (l := S), List.sum_cons, List.length_cons]
    have := less_le E (s + n)
    rw [Int.natCast_add, Int.add_mul]
    omega
section
variable {P : Program} {w : World} {K : PySem.W.Frag} {mg : Str → Option Value} {base : Heap}
def spNextD : Sp := fun vs H Q _ => ∃ v D T B S p v' D' T' B' S' p' d, vs = [v, .int p, v', .int p', .int d] ∧ Two H v D T B S p v' D' T' B' S' p' ∧ FarD d ∧ RetV (hd (yrs (meet D T B S p D' T' B' S' p') d (rnd D T B D' T' B'))) H Q
theorem ok_next_day (T : Txt K mg) : FnOk P w K mg base CX0 6 T.next_day.f T.next_day.fd ["one", "place_one", "other", "place_other", "day"] spNextD := by
  have G_need_places : FnOk P w K mg base CX0 5 T.need_places.f T.need_places.fd ["one", "place_one", "other", "place_other"] spTwoP := ok_need_places T
  have G_need_day : FnOk P w K mg base CX0 3 T.need_day.f T.need_day.fd ["thing"] spNum := ok_need_day T
  have G_round_from : FnOk P w K mg base CX0 4 T.round_from.f T.round_from.fd ["one", "place_one", "other", "place_other", "day"] spRnd := ok_round_from T
  have G_ends_ahead : FnOk P w K mg base CX0 1 T.ends_ahead.f T.ends_ahead.fd ["starts", "ends"] spAhead := ok_ends_ahead T
  refine T.next_day.F.ok sc_next_day (fun vs H Q E h => ?_) (fun cdv A outer s H vs Q E hr h => ?_)
  · obtain ⟨_, _, _, _, _, _, _, _, _, _, _, _, _, rfl, _⟩ := h
    rfl
  · obtain ⟨v, D, T1, B, S, p, v', D', T', B', S', p', d, rfl, t, fd, q⟩ := h
    have rp := rnd_pos t.ld t.ld'
    refine ⟨_, (pss_cons (ps_expr (pe_call G_need_places (hr.mono (by omega)) (by rfl) T.need_places.g T.need_places.F.kp T.need_places.b .nil pass0 (pa_cons (pv 0) (pa_cons (pv 1) (pa_cons (pv 2) (pa_cons (pv 3) pa_nil))))))
      (pss_cons (ps_expr (pe_call G_need_day (hr.mono (by omega)) (by rfl) T.need_day.g T.need_day.F.kp T.need_day.b .nil pass0 (pa_cons (pv 4) pa_nil)))
      (pss_cons (ps_asg (pe_call G_round_from (hr.mono (by omega)) (by rfl) T.round_from.g T.round_from.F.kp T.round_from.b .nil pass0 (pa_cons (pv 0) (pa_cons (pv 1) (pa_cons (pv 2) (pa_cons (pv 3) (pa_cons (pv 4) pa_nil)))))) (pg_tup rfl (pgs_cons (pg_name (i := 5) sc_next_day.nd rfl (Or.inl rfl)) (pgs_cons (pg_name (i := 6) sc_next_day.nd rfl (Or.inl rfl)) (pgs_cons (pg_name (i := 7) sc_next_day.nd rfl (Or.inr rfl)) pgs_nil)))))
      (pss_cons (ps_set (i := 8) sc_next_day.nd rfl (Or.inl rfl) (pe_callB (cr_min rfl) (by rfl) T.min (by decide +kernel) (pa_cons (pe_lc (own := [("start", 9), ("at", 10)]) (g := gTup K 2 (gCons (gName 9) (gCons (gName 10) gNil))) (by rfl) sc_next_day.nd (pi_zip (by rfl) T.zip (pa_cons (pv 6) (pa_cons (pe_call G_ends_ahead (hr.mono (by omega)) (by rfl) T.ends_ahead.g T.ends_ahead.F.kp T.ends_ahead.b .nil pass0 (pa_cons (pv 6) (pa_cons (pv 7) pa_nil))) pa_nil))) (blkOk_by (own := [("start", 9), ("at", 10)]) (N := ["one", "place_one", "other", "place_other", "day", "again", "starts", "ends", "nearest", "start", "at"]) (sc := defScope s_next_day) (by decide +kernel)) (fun _ _ _ _ _ => (pg_tup rfl (pgs_cons (pg_name (i := 9) sc_next_day.nd rfl (Or.inl rfl)) (pgs_cons (pg_name (i := 10) sc_next_day.nd rfl (Or.inl rfl)) pgs_nil)))) (fun _ _ _ _ _ => pts_nil) (fun _ _ _ _ _ => (pe_op op_sub (pe_ix (show IxR _ (rIxL K) from ix_list) (pv 7) (pv 10) (fun _ _ => rfl)) (pv 9)))) pa_nil)))
      (pss_cons (ps_if (pt_cmpR op_lt (pv 8) (pv 5) (nomark _))
        (pss_one (ps_ret (pe_op op_add (pv 4) (pv 8))))
        pss_nil)
      (pss_one (ps_ret pe_non))))))), ?_⟩
    refine ⟨_, rfl, _, rfl, _, rfl, _, rfl, v, D, T1, B, S, p, v', D', T', B', S', p', rfl, t, fun H1 e1 => ⟨_, rfl, d, rfl, fd, fun H2 e2 => ?_⟩⟩
    have e12 := e1.trans e2
    refine ⟨_, rfl, _, rfl, _, rfl, _, rfl, _, rfl, v, D, T1, B, S, p, v', D', T', B', S', p', d, rfl, t.ex e12, fun tp ls le H3 u Ss Es hu ps us pe ue e3 htp hls hle => ?_⟩
    have e13 := e12.trans e3
    have hit := fun (k : Nat) hk => meet_iff (d := d) t.ld t.ld' hu k hk
    have near : ∀ k : Nat, k < rnd D T1 B D' T' B' → (meet D T1 B S p D' T' B' S' p' (d + k) = true ↔ ∃ x ∈ Ss, x + k ∈ Es) := fun k hk => (hit k hk).trans ⟨fun ⟨x, hx, he⟩ => ⟨x, ps.mem_iff.mpr hx, pe.mem_iff.mpr he⟩, fun ⟨x, hx, he⟩ => ⟨x, ps.mem_iff.mp hx, pe.mem_iff.mp he⟩⟩
    have far : ∀ x ∈ Ss, ∃ z ∈ Es, x ≤ z := fun x hx => ⟨lastE D T1 B D' T' B', pe.mem_iff.mpr (by unfold endL; simp), by have := start_last t.ld t.ld' (ps.mem_iff.mp hx); omega⟩
    have len : Ss.length = B.toNat := by rw [ps.length_eq]; unfold startL; rw [List.length_map, List.length_range]
    have hB := t.ld.b
    have at_ : ∀ x ∈ Ss, Es[lessN Es x]? = some (Es[lessN Es x]?.getD 0) := fun x hx => by
      obtain ⟨z, hz, le⟩ := far x hx
      rw [List.getElem?_eq_getElem (less_lt hz le)]
      rfl
    clear hit hu ps pe
    refine ⟨tp, _, rfl, st_of htp, rfl, _, _, rfl, _, _, rfl, _, _, rfl, rfl, ?_⟩
    refine ⟨_, rfl, _, rfl, _, rfl, ls, le, Ss, Es, rfl, hls, hle, us, ue, far, by omega, fun la H4 nla e4 hla => ?_⟩
    refine ⟨ls, la, _, _, rfl, sq_of (e4 _ _ hls), sq_of hla, fun Dl hD => ?_⟩
    refine lc_it (walk_zip (n := Ss.length) (by rw [List.length_map, List.length_map, List.length_map, Nat.min_self])) (Cw H4 (fun _ => true) (fun i => .int ((fun x => Es[lessN Es x]?.getD 0 - x) (Ss[i]?.getD 0))) Dl) ⟨hD, Ex.new hD, upd_same⟩ (fun _ H' _ c => ⟨sq_of (c.2.1 _ _ (e4 _ _ hls)), sq_of (c.2.1 _ _ hla)⟩) (fun i x H' H'' hi c y => ?_) (fun H' c => ?_)
    · obtain ⟨tq, yv, zv, rfl, ntq, rfl, hy, hz⟩ := y
      replace hy : (Ss.map V.int)[i]? = some yv := hy
      replace hz : ((Ss.map fun x => ((lessN Es x : Nat) : Int)).map V.int)[i]? = some zv := hz
      rw [List.getElem?_map, List.getElem?_eq_getElem hi] at hy
      rw [List.getElem?_map, List.getElem?_map, List.getElem?_eq_getElem hi] at hz
      cases hy
      cases hz
      have xq := Ex.new (o := .tup [.int Ss[i], .int (lessN Es Ss[i] : Nat)]) ntq
      refine ⟨tq, _, rfl, st_of upd_same, rfl, _, _, rfl, _, _, rfl, rfl, rfl, ?_⟩
      refine cw_turn (H := H4) ⟨c.1, c.2.1.trans xq, xq _ _ c.2.2⟩ (by omega) (fun Ha ea Qa qa => qa Ha (Ex.refl Ha)) ?_
      intro _ Ha ea Qa qa
      have z := qa Ha (Ex.refl Ha)
      rw [List.getElem?_eq_getElem hi] at z
      have here := at_ Ss[i] (List.getElem_mem hi)
      exact ⟨_, rfl, _, rfl, le, _, ((lessN Es Ss[i] : Nat) : Int), .int (Es[lessN Es Ss[i]]?.getD 0), rfl, rfl, sq_of ((e4.trans ea) _ _ hle), atI_nat (by rw [List.getElem?_map, here]; rfl), _, rfl, _, _, rfl, rfl, z⟩
    · obtain ⟨_, e5, h5⟩ := c
      rw [given_all, range_ints Ss (fun x => Es[lessN Es x]?.getD 0 - x)] at h5
      refine ⟨Dl, _, rfl, sq_of h5, by rw [List.length_map]; omega, fun m hm least => ?_⟩
      obtain ⟨m0, lt, ge⟩ := nearest_end (L := rnd D T1 B D' T' B') (d := d) ue near (fun x => Es[lessN Es x]?.getD 0) at_ hm least
      have e15 := e13.trans (e4.trans e5)
      refine ⟨_, rfl, _, rfl, _, _, rfl, rfl, _, rfl, ?_⟩
      by_cases c : m < (rnd D T1 B D' T' B' : Nat)
      · rw [lt c] at q
        rw [decide_eq_true c]
        exact iteT ⟨_, rfl, _, rfl, _, _, rfl, rfl, q H' e15⟩
      · rw [ge (by omega)] at q
        rw [decide_eq_false c]
        exact iteF (q H' e15)
def spDaysC : Sp := fun vs H Q _ => ∃ v D T B S p v' D' T' B' S' p' a b, vs = [v, .int p, v', .int p', .int a, .int b] ∧ Two H v D T B S p v' D' T' B' S' p' ∧ FarD a ∧ FarD b ∧ a ≤ b ∧ RetV (.int (cnt (meet D T B S p D' T' B' S' p') a (b - a).toNat : Nat)) H Q
theorem ok_days (T : Txt K mg) : FnOk P w K mg base CX0 6 T.days.f T.days.fd ["one", "place_one", "other", "place_other", "first", "last"] spDaysC := by
  have G_need_places : FnOk P w K mg base CX0 5 T.need_places.f T.need_places.fd ["one", "place_one", "other", "place_other"] spTwoP := ok_need_places T
  have G_need_days : FnOk P w K mg base CX0 4 T.need_days.f T.need_days.fd ["first", "last"] spTwoD := ok_need_days T
  have G_round_from : FnOk P w K mg base CX0 4 T.round_from.f T.round_from.fd ["one", "place_one", "other", "place_other", "day"] spRnd := ok_round_from T
  have G_ends_ahead : FnOk P w K mg base CX0 1 T.ends_ahead.f T.ends_ahead.fd ["starts", "ends"] spAhead := ok_ends_ahead T
  refine T.days.F.ok sc_days (fun vs H Q E h => ?_) (fun cdv A outer s H vs Q E hr h => ?_)
  · obtain ⟨_, _, _, _, _, _, _, _, _, _, _, _, _, _, rfl, _⟩ := h
    rfl
  · obtain ⟨v, D, T1, B, S, p, v', D', T', B', S', p', a, b, rfl, t, fa, fb, ab, q⟩ := h
    have rp := rnd_pos t.ld t.ld'
    refine ⟨_, (pss_cons (ps_expr (pe_call G_need_places (hr.mono (by omega)) (by rfl) T.need_places.g T.need_places.F.kp T.need_places.b .nil pass0 (pa_cons (pv 0) (pa_cons (pv 1) (pa_cons (pv 2) (pa_cons (pv 3) pa_nil))))))
      (pss_cons (ps_expr (pe_call G_need_days (hr.mono (by omega)) (by rfl) T.need_days.g T.need_days.F.kp T.need_days.b .nil pass0 (pa_cons (pv 4) (pa_cons (pv 5) pa_nil))))
      (pss_cons (ps_asg (pe_call G_round_from (hr.mono (by omega)) (by rfl) T.round_from.g T.round_from.F.kp T.round_from.b .nil pass0 (pa_cons (pv 0) (pa_cons (pv 1) (pa_cons (pv 2) (pa_cons (pv 3) (pa_cons (pv 4) pa_nil)))))) (pg_tup rfl (pgs_cons (pg_name (i := 6) sc_days.nd rfl (Or.inr rfl)) (pgs_cons (pg_name (i := 7) sc_days.nd rfl (Or.inl rfl)) (pgs_cons (pg_name (i := 8) sc_days.nd rfl (Or.inl rfl)) pgs_nil)))))
      (pss_cut (ps_asg (pe_callB call_divmodW (by rfl) T.divmod (by decide +kernel) (pa_cons (pe_op op_sub (pv 5) (pv 4)) (pa_cons (pv 6) pa_nil))) (pg_tup rfl (pgs_cons (pg_name (i := 9) sc_days.nd rfl (Or.inl rfl)) (pgs_cons (pg_name (i := 10) sc_days.nd rfl (Or.inr rfl)) pgs_nil))))
      (pss_cons (ps_set (i := 11) sc_days.nd rfl (Or.inl rfl) (pe_callB (cr_sum rfl) (by rfl) T.sum (by decide +kernel) (pa_cons (pe_call G_ends_ahead (hr.mono (by omega)) (by rfl) T.ends_ahead.g T.ends_ahead.F.kp T.ends_ahead.b .nil pass0 (pa_cons (pv 7) (pa_cons (pv 8) pa_nil))) pa_nil)))
      (pss_cons (ps_set (i := 12) sc_days.nd rfl (Or.inl rfl) (pe_op op_sub (pe_callB (cr_sum rfl) (by rfl) T.sum (by decide +kernel) (pa_cons (pe_call G_ends_ahead (hr.mono (by omega)) (by rfl) T.ends_ahead.g T.ends_ahead.F.kp T.ends_ahead.b .nil pass0 (pa_cons (pe_lc (own := [("start", 14)]) (g := gName 14) (by rfl) sc_days.nd (pi_list (pv 7)) (blkOk_by (own := [("start", 14)]) (N := ["one", "place_one", "other", "place_other", "first", "last", "again", "starts", "ends", "rounds", "rest", "ahead", "in_round", "in_rest", "start"]) (sc := defScope s_days) (by decide +kernel)) (fun _ _ _ _ _ => (pg_name (i := 14) sc_days.nd rfl (Or.inl rfl))) (fun _ _ _ _ _ => pts_nil) (fun _ _ _ _ _ => (pe_op op_add (pv 14) (pv 6)))) (pa_cons (pv 8) pa_nil))) pa_nil)) (pv 11)))
      (pss_cons (ps_set (i := 13) sc_days.nd rfl (Or.inl rfl) (pe_op op_sub (pe_callB (cr_sum rfl) (by rfl) T.sum (by decide +kernel) (pa_cons (pe_call G_ends_ahead (hr.mono (by omega)) (by rfl) T.ends_ahead.g T.ends_ahead.F.kp T.ends_ahead.b .nil pass0 (pa_cons (pe_lc (own := [("start", 14)]) (g := gName 14) (by rfl) sc_days.nd (pi_list (pv 7)) (blkOk_by (own := [("start", 14)]) (N := ["one", "place_one", "other", "place_other", "first", "last", "again", "starts", "ends", "rounds", "rest", "ahead", "in_round", "in_rest", "start"]) (sc := defScope s_days) (by decide +kernel)) (fun _ _ _ _ _ => (pg_name (i := 14) sc_days.nd rfl (Or.inl rfl))) (fun _ _ _ _ _ => pts_nil) (fun _ _ _ _ _ => (pe_op op_add (pv 14) (pv 10)))) (pa_cons (pv 8) pa_nil))) pa_nil)) (pv 11)))
      (pss_one (ps_ret (pe_op op_add (pe_op op_mul (pv 9) (pv 12)) (pv 13))))))))))), ?_⟩
    refine ⟨_, rfl, _, rfl, _, rfl, _, rfl, v, D, T1, B, S, p, v', D', T', B', S', p', rfl, t, fun H1 e1 => ⟨_, rfl, _, rfl, a, b, rfl, fa, fb, ab, fun H2 e2 => ?_⟩⟩
    have e12 := e1.trans e2
    refine ⟨_, rfl, _, rfl, _, rfl, _, rfl, _, rfl, v, D, T1, B, S, p, v', D', T', B', S', p', a, rfl, t.ex e12, fun tp ls le H3 u Ss Es hu ps us pe ue e3 htp hls hle => ?_⟩
    have e13 := e12.trans e3
    have all := fun (n : Nat) hn => sumLess_cnt (f := meet D T1 B S p D' T' B' S' p') (d := a) (L := rnd D T1 B D' T' B') (fun k hk => hits_all (d := a) t.ld t.ld' hu k hk) n hn
    have far : ∀ k : Int, k ≤ (rnd D T1 B D' T' B' : Nat) → ∀ x ∈ Ss.map (fun x => x + k), ∃ z ∈ Es, x ≤ z := fun k hk y hy => by
      obtain ⟨x, hx, rfl⟩ := List.mem_map.mp hy
      refine ⟨lastE D T1 B D' T' B', pe.mem_iff.mpr (by unfold endL; simp), ?_⟩
      have := start_last t.ld t.ld' (ps.mem_iff.mp hx)
      show x + k ≤ _
      omega
    have far0 : ∀ x ∈ Ss, ∃ z ∈ Es, x ≤ z := fun x hx => far 0 (by omega) x (List.mem_map.mpr ⟨x, hx, by omega⟩)
    have later : ∀ k : Int, (Ss.map (fun x => x + k)).Pairwise (· ≤ ·) := fun k => by
      rw [List.pairwise_map]
      exact us.imp fun h => by omega
    have sums : ∀ k : Int, (((Ss.map (fun x => x + k)).map fun x => ((lessN Es x : Nat) : Int))).sum = sumLess Ss Es k := fun k => by
      rw [List.map_map]
      rfl
    have sum0 : (Ss.map fun x => ((lessN Es x : Nat) : Int)).sum = sumLess Ss Es 0 := by
      unfold sumLess
      simp only [Int.add_zero]
    have same : ∀ k : Int, sumLess Ss Es k = sumLess (startL D T1 B S p D' T' B' u a) (endL D T1 B D' T' B' S' p' u) k := fun k => sumLess_perm ps pe k
    have per : ∀ y, meet D T1 B S p D' T' B' S' p' (y + (rnd D T1 B D' T' B' : Nat)) = meet D T1 B S p D' T' B' S' p' y := meet_per t.ld t.ld' hu
    have hB := t.ld.b
    have hB' := t.ld'.b
    have len : Ss.length ≤ 60 := by rw [ps.length_eq]; unfold startL; rw [List.length_map, List.length_range]; omega
    have lenE : Es.length ≤ 121 := by
      rw [pe.length_eq]
      unfold endL end1L
      simp only [List.length_append, List.length_map, List.length_range, List.length_cons, List.length_nil]
      omega
    simp only [← same] at all
    generalize meet D T1 B S p D' T' B' S' p' = f at all per q
    refine ⟨tp, _, rfl, st_of htp, rfl, _, _, rfl, _, _, rfl, _, _, rfl, rfl, ?_⟩
    have m0 := Int.emod_nonneg (b - a) (show ((rnd D T1 B D' T' B' : Nat) : Int) ≠ 0 by omega)
    have m1 := Int.emod_lt_of_pos (b - a) (show (0 : Int) < (rnd D T1 B D' T' B' : Nat) by omega)
    have q0 := Int.ediv_nonneg (a := b - a) (b := ((rnd D T1 B D' T' B' : Nat) : Int)) (by omega) (by omega)
    have dm := Int.mul_ediv_add_emod (b - a) ((rnd D T1 B D' T' B' : Nat) : Int)
    refine q_cut (M := fun σ' H' => σ' = [some v, some (.int p), some v', some (.int p'), some (.int a), some (.int b), some (.int (rnd D T1 B D' T' B' : Nat)), some (.ref ls), some (.ref le), some (.int ((b - a) / (rnd D T1 B D' T' B' : Nat))), some (.int ((b - a) % (rnd D T1 B D' T' B' : Nat))), none, none, none, none] ∧ Ex H3 H') ⟨_, rfl, _, rfl, _, _, rfl, rfl, _, rfl, b - a, (rnd D T1 B D' T' B' : Nat), rfl, ⟨by omega, PyProof.noPylong_small (by omega)⟩, fun pd npd => ⟨pd, _, rfl, st_of upd_same, rfl, _, _, rfl, _, _, rfl, rfl, rfl, Ex.new npd⟩⟩ ?_
    rintro _ H4 ⟨rfl, e4⟩
    generalize (b - a) % ((rnd D T1 B D' T' B' : Nat) : Int) = rest at m0 m1 dm ⊢
    generalize (b - a) / ((rnd D T1 B D' T' B' : Nat) : Int) = rounds at q0 dm ⊢
    generalize rnd D T1 B D' T' B' = L at *
    have hls4 := e4 _ _ hls
    have hle4 := e4 _ _ hle
    refine ⟨_, rfl, _, rfl, ls, le, Ss, Es, rfl, hls4, hle4, us, ue, far0, by omega, fun l1 H5 n1 e5 h5 => ⟨l1, _, rfl, sq_of h5, ?_⟩⟩
    rw [sum0]
    refine ⟨_, rfl, ls, rfl, ⟨_, sq_of (e5 _ _ hls4)⟩, fun D1 nD1 => ?_⟩
    refine lc_ints (fun x => x + (L : Int)) (e5 _ _ hls4) nD1 (by omega) (fun _ => rfl) (fun m _ Ha ea Qa qa => ⟨_, rfl, _, rfl, _, _, rfl, rfl, qa Ha (Ex.refl Ha)⟩) (fun H6 e6 h6 => ?_)
    have e46 := e5.trans e6
    refine ⟨_, rfl, D1, le, _, Es, rfl, h6, e46 _ _ hle4, later L, ue, far L (by omega), by rw [List.length_map]; omega, fun l2 H7 n2 e7 h7 => ⟨l2, _, rfl, sq_of h7, ?_⟩⟩
    have e47 := e46.trans e7
    refine ⟨_, rfl, _, _, rfl, rfl, ?_⟩
    refine ⟨_, rfl, ls, rfl, ⟨_, sq_of (e47 _ _ hls4)⟩, fun D2 nD2 => ?_⟩
    refine lc_ints (fun x => x + rest) (e47 _ _ hls4) nD2 (by omega) (fun _ => rfl) (fun m _ Ha ea Qa qa => ⟨_, rfl, _, rfl, _, _, rfl, rfl, qa Ha (Ex.refl Ha)⟩) (fun H8 e8 h8 => ?_)
    have e48 := e47.trans e8
    refine ⟨_, rfl, D2, le, _, Es, rfl, h8, e48 _ _ hle4, later rest, ue, far rest (by omega), by rw [List.length_map]; omega, fun l3 H9 n3 e9 h9 => ⟨l3, _, rfl, sq_of h9, ?_⟩⟩
    refine ⟨_, rfl, _, _, rfl, rfl, ?_⟩
    have z := q H9 (e13.trans (e4.trans (e48.trans e9)))
    have b0 := sumLess_bd Ss Es 0
    have b1 := sumLess_bd Ss Es L
    have bb : (Ss.length : Int) * Es.length ≤ 60 * 121 := Int.mul_le_mul (by omega) (by omega) (by omega) (by omega)
    have a1 := all L (Nat.le_refl L)
    have a2 := all rest.toNat (by omega)
    rw [show ((rest.toNat : Nat) : Int) = rest by omega] at a2
    have span : (b - a).toNat = rounds.toNat * L + rest.toNat := by
      have : ((rounds.toNat * L : Nat) : Int) = L * rounds := by
        rw [Int.natCast_mul, show ((rounds.toNat : Nat) : Int) = rounds by omega, Int.mul_comm]
      omega
    rw [span, cnt_rounds per, Int.natCast_add, Int.natCast_mul, show ((rounds.toNat : Nat) : Int) = rounds by omega, show ((cnt f a L : Nat) : Int) = sumLess Ss Es L - sumLess Ss Es 0 by omega, show ((cnt f a rest.toNat : Nat) : Int) = sumLess Ss Es rest - sumLess Ss Es 0 by omega] at z
    rw [← sums L, ← sums rest] at z
    rw [← sums L] at b1
    exact ⟨_, rfl, _, rfl, _, _, rfl, rfl, cm_r (by omega), _, rfl, _, _, rfl, rfl, z⟩
end

section
variable {P : Program} {w : World} {K : PySem.W.Frag} {mg : Str → Option Value} {base : Heap}
theorem any_map (n : Nat) (g : Nat → Bool) : ((List.range n).map g).any id = (List.range n).any g := by
  rw [List.any_map]
  rfl
theorem given_bls (n : Nat) (g : Nat → Bool) : given n (fun _ => true) (fun i => V.bl (g i)) = ((List.range n).map g).map V.bl := by
  rw [given_all, List.map_map]
  rfl
def spPartI : Sp := fun vs H Q _ => ∃ v D T B S p v' D' T' B' S' p' m, vs = [v, .int p, v', .int p', .int m] ∧ Two H v D T B S p v' D' T' B' S' p' ∧ 0 < m ∧ RetV (.bl (partI D T B S p D' T' B' S' p' m)) H Q
theorem ok_is_parting (T : Txt K mg) : FnOk P w K mg base CX0 4 T.is_parting.f T.is_parting.fd ["one", "place_one", "other", "place_other", "number"] spPartI := by
  have G_step_of : FnOk P w K mg base CX0 1 T.step_of.f T.step_of.fd ["land"] spStep := ok_step_of T
  have G_placed_days : FnOk P w K mg base CX0 3 T.placed_days.f T.placed_days.fd ["land", "place"] spPlaced := ok_placed_days T
  refine T.is_parting.F.ok sc_is_parting (fun vs H Q E h => ?_) (fun cdv A outer s H vs Q E hr h => ?_)
  · obtain ⟨_, _, _, _, _, _, _, _, _, _, _, _, _, rfl, _⟩ := h
    rfl
  · obtain ⟨v, D, T1, B, S, p, v', D', T', B', S', p', m, rfl, t, hm, q⟩ := h
    have hb := t.ld.b
    have hb' := t.ld'.b
    have dec : ∀ i : Int, decide (V.int i = V.int 0) = decide (i = 0) := fun i => by simp
    refine ⟨_, (pss_cons (ps_if (PW.pt (pw_or (pt_cmpR op_ne (pe_op op_mod (pe_call G_step_of (hr.mono (by omega)) (by rfl) T.step_of.g T.step_of.F.kp T.step_of.b .nil pass0 (pa_cons (pv 0) pa_nil)) (pv 4)) pe_int (nomark _)) (pw_or1 (pt_cmpR op_ne (pe_op op_mod (pe_call G_step_of (hr.mono (by omega)) (by rfl) T.step_of.g T.step_of.F.kp T.step_of.b .nil pass0 (pa_cons (pv 2) pa_nil)) (pv 4)) pe_int (nomark _)))))
        (pss_one (ps_ret pe_bl))
        pss_nil)
      (pss_cons (ps_set (i := 5) sc_is_parting.nd rfl (Or.inr rfl) (pe_lc (own := [("day", 6)]) (g := gName 6) (by rfl) sc_is_parting.nd (pi_list (pe_call G_placed_days (hr.mono (by omega)) (by rfl) T.placed_days.g T.placed_days.F.kp T.placed_days.b .nil pass0 (pa_cons (pv 0) (pa_cons (pv 1) pa_nil)))) (blkOk_by (own := [("day", 6)]) (N := ["one", "place_one", "other", "place_other", "number", "left", "day"]) (sc := defScope s_is_parting) (by decide +kernel)) (fun _ _ _ _ _ => (pg_name (i := 6) sc_is_parting.nd rfl (Or.inl rfl))) (fun _ _ _ _ _ => pts_nil) (fun _ _ _ _ _ => (pe_op op_mod (pv 6) (pv 4)))))
      (pss_one (ps_ret (pe_not (pe_callB (cr_any rfl) (by rfl) T.any (by decide +kernel) (pa_cons (pe_lc (own := [("day", 6)]) (g := gName 6) (by rfl) sc_is_parting.nd (pi_list (pe_call G_placed_days (hr.mono (by omega)) (by rfl) T.placed_days.g T.placed_days.F.kp T.placed_days.b .nil pass0 (pa_cons (pv 2) (pa_cons (pv 3) pa_nil)))) (blkOk_by (own := [("day", 6)]) (N := ["one", "place_one", "other", "place_other", "number", "left", "day"]) (sc := defScope s_is_parting) (by decide +kernel)) (fun _ _ _ _ _ => (pg_name (i := 6) sc_is_parting.nd rfl (Or.inl rfl))) (fun _ _ _ _ _ => pts_nil) (fun _ _ _ _ _ => (pe_cmpR (show OpR _ _ (rIn K false) from op_in_seq) (pe_op op_mod (pv 6) (pv 4)) (pv 5) (by rfl)))) pa_nil))))))), ?_⟩
    refine ⟨_, rfl, v, D, T1, B, S, rfl, t.l, fun H1 e1 => ⟨_, rfl, _, _, rfl, rfl, hm, rfl, _, rfl, ?_⟩⟩
    rw [dec]
    by_cases h1 : (D * B + T1) % m = 0
    · rw [decide_eq_true h1]
      refine iteF ⟨_, rfl, v', D', T', B', S', rfl, t.l'.ex e1, fun H2 e2 => ⟨_, rfl, _, _, rfl, rfl, hm, rfl, _, rfl, ?_⟩⟩
      rw [dec]
      have e12 := e1.trans e2
      by_cases h2 : (D' * B' + T') % m = 0
      · rw [decide_eq_true h2]
        refine iteF ⟨_, rfl, _, rfl, v, D, T1, B, S, p, rfl, (t.ex e12).l, t.ld.p, fun l1 H3 n1 e3 h3 => ⟨l1, rfl, ⟨_, sq_of h3⟩, fun D1 hD1 => ?_⟩⟩
        have e13 := e12.trans e3
        refine lc_list (xs := ((List.range B.toNat).map (pday D T1 B S p)).map V.int) (Cw H3 (fun _ => true) (fun i => .int (pday D T1 B S p i % m)) D1) ⟨hD1, Ex.new hD1, upd_same⟩ (fun _ H' _ c => sq_of (c.2.1 _ _ h3)) (fun i x H' hi c => ?_) (fun H4 c => ?_)
        · obtain ⟨lt, _⟩ := List.getElem?_eq_some_iff.mp hi
          rw [List.length_map, List.length_map, List.length_range] at lt
          rw [List.getElem?_map, List.getElem?_map, List.getElem?_range lt] at hi
          cases hi
          exact ⟨rfl, cw_turn c (by omega) (fun Ha ea Qa qa => qa Ha (Ex.refl Ha)) fun _ Ha ea Qa qa => ⟨_, rfl, _, rfl, _, _, rfl, rfl, hm, qa Ha (Ex.refl Ha)⟩⟩
        obtain ⟨_, e4, h4⟩ := c
        rw [List.length_map, List.length_map, List.length_range, given_ints (p := fun _ => true) (g := fun i => pday D T1 B S p i % m), List.filter_eq_self.mpr fun _ _ => rfl] at h4
        have e14 := e13.trans e4
        refine ⟨_, rfl, _, rfl, v', D', T', B', S', p', rfl, (t.ex e14).l', t.ld'.p, fun l2 H5 n2 e5 h5 => ⟨l2, rfl, ⟨_, sq_of h5⟩, fun D2 hD2 => ?_⟩⟩
        have h5' := e5 _ _ h4
        refine lc_list (xs := ((List.range B'.toNat).map (pday D' T' B' S' p')).map V.int) (Cw H5 (fun _ => true) (fun j => .bl ((List.range B.toNat).any fun i => decide (pday D T1 B S p i % m = pday D' T' B' S' p' j % m))) D2) ⟨hD2, Ex.new hD2, upd_same⟩ (fun _ H' _ c => sq_of (c.2.1 _ _ h5)) (fun j x H' hj c => ?_) (fun H6 c => ?_)
        · obtain ⟨lt, _⟩ := List.getElem?_eq_some_iff.mp hj
          rw [List.length_map, List.length_map, List.length_range] at lt
          rw [List.getElem?_map, List.getElem?_map, List.getElem?_range lt] at hj
          cases hj
          refine ⟨rfl, cw_turn c (by omega) (fun Ha ea Qa qa => qa Ha (Ex.refl Ha)) fun _ Ha ea Qa qa => ⟨_, rfl, _, rfl, _, _, rfl, rfl, hm, _, rfl, D1, _, rfl, .inl (sq_of (ea _ _ h5')), rfl, flat_ints _, ?_⟩⟩
          show Qa (.bl (inV _ _)) Ha
          rw [inV_any]
          exact qa Ha (Ex.refl Ha)
        obtain ⟨_, e6, h6⟩ := c
        rw [List.length_map, List.length_map, List.length_range, given_bls] at h6
        refine ⟨D2, _, rfl, sq_of h6, ?_⟩
        rw [any_map]
        refine ⟨_, rfl, ?_⟩
        have z := q H6 (e14.trans (e5.trans e6))
        unfold partI at z
        rw [decide_eq_true h1, decide_eq_true h2, Bool.true_and, Bool.true_and] at z
        exact z
      · rw [decide_eq_false h2]
        have z := q H2 e12
        unfold partI at z
        rw [decide_eq_false h2, Bool.false_and, Bool.and_false] at z
        exact iteT z
    · rw [decide_eq_false h1]
      have z := q H1 e1
      unfold partI at z
      rw [decide_eq_false h1, Bool.false_and] at z
      exact iteT (iteT z)
def spParting : Sp := fun vs H Q _ => ∃ v D T B S p v' D' T' B' S' p', vs = [v, .int p, v', .int p'] ∧ Two H v D T B S p v' D' T' B' S' p' ∧
  ((∀ d, meet D T B S p D' T' B' S' p' d = false) → RetV (.int (Nat.gcd (stp D T B) (stp D' T' B') : Nat)) H Q) ∧ ((∃ d, meet D T B S p D' T' B' S' p' d = true) → RetV .non H Q)
theorem ok_parting (T : Txt K mg) : FnOk P w K mg base CX0 6 T.parting.f T.parting.fd ["one", "place_one", "other", "place_other"] spParting := by
  have G_need_places : FnOk P w K mg base CX0 5 T.need_places.f T.need_places.fd ["one", "place_one", "other", "place_other"] spTwoP := ok_need_places T
  have G_shared_step : FnOk P w K mg base CX0 2 T.shared_step.f T.shared_step.fd ["one", "other"] spShare := ok_shared_step T
  have G_is_parting : FnOk P w K mg base CX0 4 T.is_parting.f T.is_parting.fd ["one", "place_one", "other", "place_other", "number"] spPartI := ok_is_parting T
  refine T.parting.F.ok sc_parting (fun vs H Q E h => ?_) (fun cdv A outer s H vs Q E hr h => ?_)
  · obtain ⟨_, _, _, _, _, _, _, _, _, _, _, _, rfl, _⟩ := h
    rfl
  · obtain ⟨v, D, T1, B, S, p, v', D', T', B', S', p', rfl, t, q1, q2⟩ := h
    have s1 := t.ld.stp
    have g0 := Nat.gcd_pos_of_pos_left (stp D' T' B') (show 0 < stp D T1 B by omega)
    refine ⟨_, (pss_cons (ps_expr (pe_call G_need_places (hr.mono (by omega)) (by rfl) T.need_places.g T.need_places.F.kp T.need_places.b .nil pass0 (pa_cons (pv 0) (pa_cons (pv 1) (pa_cons (pv 2) (pa_cons (pv 3) pa_nil))))))
      (pss_cons (ps_set (i := 4) sc_parting.nd rfl (Or.inl rfl) (pe_call G_shared_step (hr.mono (by omega)) (by rfl) T.shared_step.g T.shared_step.F.kp T.shared_step.b .nil pass0 (pa_cons (pv 0) (pa_cons (pv 2) pa_nil))))
      (pss_cons (ps_if (pt_val (pe_call G_is_parting (hr.mono (by omega)) (by rfl) T.is_parting.g T.is_parting.F.kp T.is_parting.b .nil pass0 (pa_cons (pv 0) (pa_cons (pv 1) (pa_cons (pv 2) (pa_cons (pv 3) (pa_cons (pv 4) pa_nil)))))))
        (pss_one (ps_ret (pv 4)))
        pss_nil)
      (pss_one (ps_ret pe_non))))), ?_⟩
    refine ⟨_, rfl, _, rfl, _, rfl, _, rfl, v, D, T1, B, S, p, v', D', T', B', S', p', rfl, t, fun H1 e1 => ?_⟩
    refine ⟨_, rfl, _, rfl, v, D, T1, B, S, p, v', D', T', B', S', p', rfl, t.ex e1, fun H2 e2 => ?_⟩
    have e12 := e1.trans e2
    refine ⟨_, rfl, _, rfl, _, rfl, _, rfl, _, rfl, v, D, T1, B, S, p, v', D', T', B', S', p', _, rfl, t.ex e12, by omega, fun H3 e3 => ⟨_, rfl, ?_⟩⟩
    have e13 := e12.trans e3
    cases hb : partI D T1 B S p D' T' B' S' p' (Nat.gcd (stp D T1 B) (stp D' T' B') : Nat) with
    | true => exact iteT ⟨_, rfl, q1 (part_none t.ld t.ld' hb) H3 e13⟩
    | false =>
      have some_ : ∃ d, meet D T1 B S p D' T' B' S' p' d = true := Classical.byContradiction fun no => by
        have := none_part t.ld t.ld' fun d => by
          cases e : meet D T1 B S p D' T' B' S' p' d with
          | false => rfl
          | true => exact absurd ⟨d, e⟩ no
        rw [hb] at this
        cases this
      exact iteF (q2 some_ H3 e13)
/-- of anything whether it parts -/
def partV (D T B S p D' T' B' S' p' : Int) : V → Bool
  | .int m => decide (m > 0) && partI D T B S p D' T' B' S' p' m
  | _ => false
theorem partV_yes {D T B S p D' T' B' S' p' i : Int} (h : 0 < i) : partV D T B S p D' T' B' S' p' (.int i) = partI D T B S p D' T' B' S' p' i := by
  show (decide (i > 0) && partI D T B S p D' T' B' S' p' i) = _
  rw [decide_eq_true (show i > 0 from h), Bool.true_and]
theorem partV_no {D T B S p D' T' B' S' p' i : Int} (h : ¬ 0 < i) : partV D T B S p D' T' B' S' p' (.int i) = false := by
  show (decide (i > 0) && partI D T B S p D' T' B' S' p' i) = _
  rw [decide_eq_false (show ¬ i > 0 from h), Bool.false_and]
def spPartV : Sp := fun vs H Q _ => ∃ v D T B S p v' D' T' B' S' p' x k, vs = [v, .int p, v', .int p', x] ∧ Two H v D T B S p v' D' T' B' S' p' ∧ Dat H x k ∧ RetV (.bl (partV D T B S p D' T' B' S' p' x)) H Q
end

/-! ### two lands alike -/
theorem fst_rounds {D T B S y : Int} (hB : 1 ≤ B) (t : Int) : fst D T B S (y + t * B) = fst D T B S y + t * (D * B + T) := by
  unfold fst
  rw [show (D * B + T) * (y + t * B) + S = (D * B + T) * y + S + t * (D * B + T) * B by
    rw [Int.mul_add, ← Int.mul_assoc (D * B + T) t B, Int.mul_comm (D * B + T) t]; omega]
  exact Int.add_mul_ediv_right _ _ (by omega)
theorem by_rounds {F : Int → Int} {c s : Int} (h : ∀ y, F (y + c) = F y + s) (y t : Int) : F (y + t * c) = F y + t * s := by
  have up : ∀ (n : Nat) (y : Int), F (y + n * c) = F y + n * s := by
    intro n
    induction n with
    | zero => intro y; simp
    | succ n ih =>
      intro y
      rw [show y + ((n + 1 : Nat) : Int) * c = (y + n * c) + c by rw [Int.natCast_add, Int.add_mul]; omega, h, ih, Int.natCast_add, Int.add_mul]
      omega
  by_cases l : 0 ≤ t
  · have := up t.toNat y
    rwa [show ((t.toNat : Nat) : Int) = t by omega] at this
  · have := up (-t).toNat (y + t * c)
    rw [show (((-t).toNat : Nat) : Int) = -t by omega, Int.neg_mul, Int.neg_mul, show y + t * c + -(t * c) = y by omega] at this
    omega
def dif (D T B S D' T' B' S' y : Int) : Bool := decide (fst D T B S y ≠ fst D' T' B' S' y)
/-- alike through both bottoms is alike for ever -/
theorem alike_all {D T B S D' T' B' S' : Int} (hB : 1 ≤ B) (hB' : 1 ≤ B') (h : ∀ k : Nat, k < (B + B').toNat → dif D T B S D' T' B' S' (0 + k) = false) (y : Int) : fst D T B S y = fst D' T' B' S' y := by
  have same : ∀ y : Int, 0 ≤ y → y < B + B' → fst D T B S y = fst D' T' B' S' y := fun y y0 y1 => by
    have := h y.toNat (by omega)
    rw [show (0 : Int) + ((y.toNat : Nat) : Int) = y by omega] at this
    exact Classical.byContradiction fun ne => by
      unfold dif at this
      rw [decide_eq_true ne] at this
      cases this
  have step : ∀ y, fst D' T' B' S' (y + B) = fst D' T' B' S' y + (D * B + T) := fun y => by
    have m0 := Int.emod_nonneg y (show B' ≠ 0 by omega)
    have m1 := Int.emod_lt_of_pos y (show 0 < B' by omega)
    have dm := Int.mul_ediv_add_emod y B'
    rw [Int.mul_comm] at dm
    have e1 := fst_rounds (D := D') (T := T') (S := S') (y := y % B' + B) hB' (y / B')
    have e2 := fst_rounds (D := D') (T := T') (S := S') (y := y % B') hB' (y / B')
    have e3 := fst_rounds (D := D) (T := T) (S := S) (y := y % B') hB 1
    rw [Int.one_mul, Int.one_mul, same _ (by omega) (by omega), same _ m0 (by omega)] at e3
    rw [show y % B' + B + y / B' * B' = y + B by omega] at e1
    rw [show y % B' + y / B' * B' = y by omega] at e2
    omega
  have m0 := Int.emod_nonneg y (show B ≠ 0 by omega)
  have m1 := Int.emod_lt_of_pos y (show 0 < B by omega)
  have dm := Int.mul_ediv_add_emod y B
  rw [Int.mul_comm] at dm
  have e1 := fst_rounds (D := D) (T := T) (S := S) (y := y % B) hB (y / B)
  have e2 := by_rounds step (y % B) (y / B)
  rw [show y % B + y / B * B = y by omega] at e1 e2
  have := same (y % B) m0 (by omega)
  omega
theorem dif_comm {D T B S D' T' B' S' : Int} : dif D' T' B' S' D T B S = dif D T B S D' T' B' S' := by
  funext y
  unfold dif
  rw [Bool.eq_iff_iff, decide_eq_true_iff, decide_eq_true_iff]
  exact ne_comm

section
variable {P : Program} {w : World} {K : PySem.W.Frag} {mg : Str → Option Value} {base : Heap}
/-- the first year that parts two lands -/
def parted (D T B S D' T' B' S' : Int) : V := hd (yrs (dif D T B S D' T' B' S') 0 (B + B').toNat)
theorem parted_comm {D T B S D' T' B' S' : Int} : parted D' T' B' S' D T B S = parted D T B S D' T' B' S' := by
  unfold parted
  rw [dif_comm, Int.add_comm]
theorem parted_non {D T B S D' T' B' S' : Int} (hB : 1 ≤ B) (hB' : 1 ≤ B') (h : parted D T B S D' T' B' S' = .non) (y : Int) : fst D T B S y = fst D' T' B' S' y := by
  refine alike_all hB hB' (fun k hk => ?_) y
  unfold parted at h
  cases e : yrs (dif D T B S D' T' B' S') 0 (B + B').toNat with
  | nil => exact yrs_none e k hk
  | cons z r => rw [e] at h; cases h
theorem parted_cases {D T B S D' T' B' S' : Int} : parted D T B S D' T' B' S' = .non ∨ ∃ k : Nat, parted D T B S D' T' B' S' = .int k ∧ k < (B + B').toNat ∧ fst D T B S k ≠ fst D' T' B' S' k ∧ ∀ j : Nat, j < k → fst D T B S j = fst D' T' B' S' j := by
  unfold parted
  cases e : yrs (dif D T B S D' T' B' S') 0 (B + B').toNat with
  | nil => exact .inl rfl
  | cons z r =>
    obtain ⟨k, kn, rfl, hk, before⟩ := yrs_first e
    refine .inr ⟨k, congrArg V.int (by omega), kn, ?_, fun j hj => ?_⟩
    · rw [show (0 : Int) + (k : Int) = k by omega] at hk
      exact of_decide_eq_true hk
    · have := before j hj
      rw [show (0 : Int) + (j : Int) = j by omega] at this
      exact Classical.byContradiction fun ne => by
        unfold dif at this
        rw [decide_eq_true ne] at this
        cases this
theorem parted_self {D T B S : Int} : parted D T B S D T B S = .non := by
  rcases parted_cases (D := D) (T := T) (B := B) (S := S) (D' := D) (T' := T) (B' := B) (S' := S) with h | ⟨k, _, _, h, _⟩
  · exact h
  · exact absurd rfl h
def spParted : Sp := fun vs H Q _ => ∃ v D T B S v' D' T' B' S', vs = [v, v'] ∧ Land H v D T B S ∧ Land H v' D' T' B' S' ∧ RetV (parted D T B S D' T' B' S') H Q
theorem ok_first_parting (T : Txt K mg) : FnOk P w K mg base CX0 5 T.first_parting.f T.first_parting.fd ["one", "other"] spParted := by
  have G_need_land : FnOk P w K mg base CX0 4 T.need_land.f T.need_land.fd ["thing"] spNeedLand := ok_need_land T
  have G_first_day : FnOk P w K mg base CX0 2 T.first_day.f T.first_day.fd ["land", "year"] spFirst := ok_first_day T
  refine T.first_parting.F.ok sc_first_parting (fun vs H Q E h => ?_) (fun cdv A outer s H vs Q E hr h => ?_)
  · obtain ⟨_, _, _, _, _, _, _, _, _, _, rfl, _⟩ := h
    rfl
  · obtain ⟨v, D, T1, B, S, v', D', T', B', S', rfl, hL, hL', q⟩ := h
    obtain ⟨a, rfl, ha, r1, r2, r3, r4⟩ := id hL
    obtain ⟨a', rfl, ha', r1', r2', r3', r4'⟩ := id hL'
    refine ⟨_, (pss_cons (ps_expr (pe_call G_need_land (hr.mono (by omega)) (by rfl) T.need_land.g T.need_land.F.kp T.need_land.b .nil pass0 (pa_cons (pv 0) pa_nil)))
      (pss_cons (ps_expr (pe_call G_need_land (hr.mono (by omega)) (by rfl) T.need_land.g T.need_land.F.kp T.need_land.b .nil pass0 (pa_cons (pv 1) pa_nil)))
      (pss_cons (ps_for PassesOwn.never rfl (pi_range1 rfl T.range (pa_cons (pe_op op_add (pe_ix ix_tup (pv 0) pe_int (fun _ _ => rfl)) (pe_ix ix_tup (pv 1) pe_int (fun _ _ => rfl))) pa_nil)) (pg_name (i := 2) sc_first_parting.nd rfl (Or.inl rfl))
        (pss_one (ps_if (pt_cmpR op_ne (pe_call G_first_day (hr.mono (by omega)) (by rfl) T.first_day.g T.first_day.F.kp T.first_day.b .nil pass0 (pa_cons (pv 0) (pa_cons (pv 2) pa_nil))) (pe_call G_first_day (hr.mono (by omega)) (by rfl) T.first_day.g T.first_day.F.kp T.first_day.b .nil pass0 (pa_cons (pv 1) (pa_cons (pv 2) pa_nil))) (nomark _))
        (pss_one (ps_ret (pv 2)))
        pss_nil)))
      (pss_one (ps_ret pe_non))))), ?_⟩
    refine ⟨_, rfl, _, D, T1, B, S, rfl, hL, fun H1 e1 => ⟨_, rfl, _, D', T', B', S', rfl, hL'.ex e1, fun H2 e2 => ?_⟩⟩
    have e12 := e1.trans e2
    refine ⟨_, rfl, a, _, 2, _, rfl, rfl, st_of (e12 _ _ ha), rfl, _, rfl, a', _, 2, _, rfl, rfl, st_of (e12 _ _ ha'), rfl, _, _, rfl, rfl, ?_⟩
    refine ⟨B + B', rfl, by omega, by omega, for_range (lo := 0) (n := (B + B').toNat) (fun i σ H' => (∃ z, σ = [some (.ref a), some (.ref a'), z]) ∧ Ex H H' ∧ ∀ j : Nat, j < i → dif D T1 B S D' T' B' S' (0 + j) = false) ⟨⟨_, rfl⟩, e12, fun j hj => absurd hj (Nat.not_lt_zero j)⟩ ?_ ?_⟩
    · rintro i σ H3 hi ⟨⟨z, rfl⟩, e3, no⟩
      refine ⟨_, rfl, _, rfl, _, D, T1, B, S, _, rfl, hL.ex e3, fun H4 e4 => ⟨_, rfl, _, rfl, _, D', T', B', S', _, rfl, hL'.ex (e3.trans e4), fun H5 e5 => ⟨rfl, _, rfl, ?_⟩⟩⟩
      have e35 := e3.trans (e4.trans e5)
      by_cases eq : fst D T1 B S (0 + i) = fst D' T' B' S' (0 + i)
      · rw [decide_eq_true (congrArg V.int eq)]
        refine iteF ⟨⟨_, rfl⟩, e35, fun j hj => ?_⟩
        by_cases l : j = i
        · subst l
          exact decide_eq_false fun ne => ne eq
        · exact no j (by omega)
      · rw [decide_eq_false (fun z => eq (V.int.inj z))]
        refine iteT ⟨_, rfl, ?_⟩
        have z := q H5 e35
        unfold parted at z
        rw [hd_first hi (decide_eq_true eq) no] at z
        exact z
    · rintro σ H3 ⟨⟨z, rfl⟩, e3, no⟩
      have z := q H3 e3
      unfold parted at z
      rw [hd_none no] at z
      exact z
def spAlike : Sp := fun vs H Q _ => ∃ v D T B S v' D' T' B' S', vs = [v, v'] ∧ Land H v D T B S ∧ Land H v' D' T' B' S' ∧ RetV (.bl (decide (parted D T B S D' T' B' S' = .non))) H Q
end

/-! ### the next long year, how many long years -/
/-- the last year with no more added days than year y -/
def nxl (T B S y : Int) : Int := ((add T B S y + 1) * B - S - 1) / T
theorem add_le_iff {T B S j a : Int} (hT : 0 < T) (hB : 0 < B) : add T B S j ≤ a ↔ j ≤ ((a + 1) * B - S - 1) / T := by
  unfold add
  rw [Int.le_ediv_iff_mul_le hT, ← Int.lt_add_one_iff, Int.ediv_lt_iff_lt_mul hB, Int.mul_comm j]
  omega
theorem add_mono {T B S : Int} (r2 : 0 ≤ T ∧ T < B) (y : Int) (n : Nat) : add T B S y ≤ add T B S (y + n) := by
  induction n with
  | zero => rw [show y + ((0 : Nat) : Int) = y by omega]; exact Int.le_refl _
  | succ n ih =>
    have s := (add_step (S := S) (y := y + n) r2).1
    rw [show y + ((n + 1 : Nat) : Int) = y + (n : Int) + 1 by omega]
    omega
theorem nxl_spec {T B S y : Int} (hT : 0 < T) (r2 : 0 ≤ T ∧ T < B) : y ≤ nxl T B S y ∧ add T B S (nxl T B S y + 1) > add T B S (nxl T B S y) ∧ ∀ j, y ≤ j → j < nxl T B S y → ¬ add T B S (j + 1) > add T B S j := by
  have le := fun j => add_le_iff (T := T) (B := B) (S := S) (j := j) (a := add T B S y) hT (by omega)
  have up : ∀ j, y ≤ j → add T B S y ≤ add T B S j := fun j h => by
    have := add_mono (S := S) r2 y (j - y).toNat
    rw [show y + ((j - y).toNat : Int) = j by omega] at this
    exact this
  have y1 : y ≤ nxl T B S y := (le y).mp (Int.le_refl _)
  refine ⟨y1, ?_, fun j h1 h2 => ?_⟩
  · have a1 := (le (nxl T B S y)).mpr (Int.le_refl _)
    have a2 := mt (le (nxl T B S y + 1)).mp (by show ¬ nxl T B S y + 1 ≤ nxl T B S y; omega)
    omega
  · have a1 := (le (j + 1)).mpr (by show j + 1 ≤ nxl T B S y; omega)
    have a2 := up j h1
    omega
section
variable {P : Program} {w : World} {K : PySem.W.Frag} {mg : Str → Option Value} {base : Heap}
def spNextL : Sp := fun vs H Q _ => ∃ v D T B S y, vs = [v, .int y] ∧ Land H v D T B S ∧ Far' y ∧ (T = 0 → RetV .non H Q) ∧ (0 < T → RetV (.int (nxl T B S y)) H Q)
theorem ok_next_long (T : Txt K mg) : FnOk P w K mg base CX0 5 T.next_long.f T.next_long.fd ["land", "year"] spNextL := by
  have G_need_land : FnOk P w K mg base CX0 4 T.need_land.f T.need_land.fd ["thing"] spNeedLand := ok_need_land T
  have G_need_year : FnOk P w K mg base CX0 3 T.need_year.f T.need_year.fd ["thing"] spNum := ok_need_year T
  have G_added_days : FnOk P w K mg base CX0 1 T.added_days.f T.added_days.fd ["land", "year"] spAdded := ok_added_days T
  refine T.next_long.F.ok sc_next_long (fun vs H Q E h => ?_) (fun cdv A outer s H vs Q E hr h => ?_)
  · obtain ⟨_, _, _, _, _, _, rfl, _⟩ := h
    rfl
  · obtain ⟨v, D, T', B, S, y, rfl, hL, hy, q0, q1⟩ := h
    refine ⟨_, (pss_cons (ps_expr (pe_call G_need_land (hr.mono (by omega)) (by rfl) T.need_land.g T.need_land.F.kp T.need_land.b .nil pass0 (pa_cons (pv 0) pa_nil)))
      (pss_cons (ps_expr (pe_call G_need_year (hr.mono (by omega)) (by rfl) T.need_year.g T.need_year.F.kp T.need_year.b .nil pass0 (pa_cons (pv 1) pa_nil)))
      (pss_cons (ps_asg (pv 0) (pg_tup rfl (pgs_cons (pg_name (i := 2) sc_next_long.nd rfl (Or.inl rfl)) (pgs_cons (pg_name (i := 3) sc_next_long.nd rfl (Or.inl rfl)) (pgs_cons (pg_name (i := 4) sc_next_long.nd rfl (Or.inl rfl)) (pgs_cons (pg_name (i := 5) sc_next_long.nd rfl (Or.inl rfl)) pgs_nil))))))
      (pss_cons (ps_if (pt_cmpR op_eq (pv 3) pe_int (nomark _))
        (pss_one (ps_ret pe_non))
        pss_nil)
      (pss_one (ps_ret (pe_op op_fdiv (pe_op op_sub (pe_op op_sub (pe_op op_mul (pe_op op_add (pe_call G_added_days (hr.mono (by omega)) (by rfl) T.added_days.g T.added_days.F.kp T.added_days.b .nil pass0 (pa_cons (pv 0) (pa_cons (pv 1) pa_nil))) pe_int) (pv 4)) (pv 5)) pe_int) (pv 3)))))))), ?_⟩
    refine ⟨_, rfl, v, D, T', B, S, rfl, hL, fun H1 e1 => ⟨_, rfl, y, rfl, hy, fun H2 e2 => ?_⟩⟩
    have e12 := e1.trans e2
    have hL2 := hL.ex e12
    obtain ⟨a, rfl, ha, r1, r2, r3, r4⟩ := id hL2
    refine ⟨_, rfl, a, _, rfl, st_of ha, rfl, _, _, rfl, _, _, rfl, _, _, rfl, _, _, rfl, rfl, ?_⟩
    refine ⟨_, rfl, rfl, _, rfl, ite2 (fun e => ?_) (fun e => ?_)⟩
    · exact q0 (V.int.inj (of_decide_eq_true e)) H2 e12
    · have hT : 0 < T' := by
        have ne : T' ≠ 0 := fun z => e (decide_eq_true (congrArg V.int z))
        omega
      refine ⟨_, rfl, _, rfl, _, D, T', B, S, y, rfl, hL2, fun H3 e3 => ⟨_, _, rfl, rfl, _, rfl, _, _, rfl, rfl, cm_r (by omega), _, rfl, _, _, rfl, rfl, _, _, rfl, rfl, _, rfl, _, _, rfl, rfl, ⟨by omega, by omega⟩, ?_⟩⟩
      exact q1 hT H3 (e12.trans e3)
def spLongs : Sp := fun vs H Q _ => ∃ v D T B S i j, vs = [v, .int i, .int j] ∧ Land H v D T B S ∧ Far' i ∧ Far' j ∧ i ≤ j ∧ RetV (.int (add T B S j - add T B S i)) H Q
end

/-! ### a realm: its rows of a start and a land -/
structure Row where
  st : V
  D : Int
  T : Int
  B : Int
  S : Int
/-- the pair at r is the row w -/
def RowAt (H : Hp) (r : V) (w : Row) : Prop := ∃ a v, r = .ref a ∧ H a = some (.tup [w.st, v]) ∧ Land H v w.D w.T w.B w.S
theorem RowAt.ex {H H' : Hp} {r : V} {w : Row} (h : RowAt H r w) (e : Ex H H') : RowAt H' r w := let ⟨a, v, er, ha, hl⟩ := h; ⟨a, v, er, e _ _ ha, hl.ex e⟩
inductive RowsAt (H : Hp) : List V → List Row → Prop
  | nil : RowsAt H [] []
  | cons {r w rs ws} : RowAt H r w → RowsAt H rs ws → RowsAt H (r :: rs) (w :: ws)
section
variable {H H' : Hp} {rs : List V} {ws : List Row}
theorem RowsAt.ex (h : RowsAt H rs ws) (e : Ex H H') : RowsAt H' rs ws := by
  induction h with
  | nil => exact .nil
  | cons a _ ih => exact .cons (a.ex e) ih
theorem tup_ne_lst {a l : Addr} {xs zs : List V} (h : H a = some (.tup xs)) (hl : H l = some (.lst zs)) : a ≠ l := fun e => by rw [e, hl] at h; cases h
theorem Land.but {l : Addr} {zs : List V} {v : V} {D T B S : Int} (h : Land H v D T B S) (hl : H l = some (.lst zs)) (k : ExD l H H') : Land H' v D T B S := let ⟨b, e, hb, r⟩ := h; ⟨b, e, k _ _ (tup_ne_lst hb hl) hb, r⟩
theorem RowsAt.but {l : Addr} {zs : List V} (h : RowsAt H rs ws) (hl : H l = some (.lst zs)) (k : ExD l H H') : RowsAt H' rs ws := by
  induction h with
  | nil => exact .nil
  | cons x _ ih => obtain ⟨a, v, e, ha, hv⟩ := x; exact .cons ⟨a, v, e, k _ _ (tup_ne_lst ha hl) ha, hv.but hl k⟩ ih
theorem RowsAt.len (h : RowsAt H rs ws) : rs.length = ws.length := by
  induction h with
  | nil => rfl
  | cons _ _ ih => simp [ih]
theorem RowsAt.at (all : RowsAt H rs ws) {i : Nat} {r : V} (e : rs[i]? = some r) : ∃ w, ws[i]? = some w ∧ RowAt H r w := by
  induction all generalizing i with
  | nil => cases e
  | cons a _ ih => cases i with
    | zero => cases e; exact ⟨_, rfl, a⟩
    | succ i => exact ih e
theorem RowsAt.row (all : RowsAt H rs ws) {i : Nat} {w : Row} (e : ws[i]? = some w) : ∃ r, rs[i]? = some r ∧ RowAt H r w := by
  induction all generalizing i with
  | nil => cases e
  | cons a _ ih => cases i with
    | zero => cases e; exact ⟨_, rfl, a⟩
    | succ i => exact ih e
theorem RowsAt.snoc (h : RowsAt H rs ws) {r : V} {w : Row} (x : RowAt H r w) : RowsAt H (rs ++ [r]) (ws ++ [w]) := by
  induction h with
  | nil => exact .cons x .nil
  | cons a _ ih => exact .cons a ih
end
/-- at x a realm, its list of pairs at l -/
def RealmAt (C : Addr) (H : Hp) (x l : Addr) (ws : List Row) : Prop := ∃ dx rs, H x = some (.ins C dx [("pairs", .ref l)]) ∧ H l = some (.lst rs) ∧ RowsAt H rs ws ∧ (0 < ws.length ∧ ws.length ≤ 1000)
theorem RealmAt.ex {C : Addr} {H H' : Hp} {x l : Addr} {ws : List Row} (h : RealmAt C H x l ws) (e : Ex H H') : RealmAt C H' x l ws := let ⟨dx, rs, a, b, c, d⟩ := h; ⟨dx, rs, e _ _ a, e _ _ b, c.ex e, d⟩
/-- the land of a day -/
def ruler (ws : List Row) (day : Int) : Row := (ws.drop 1).foldl (fun f w => match w.st with | .int s => if s ≤ day then w else f | _ => f) (ws.headD ⟨.non, 1, 0, 1, 0⟩)
/-- no earlier than its own start; ahead of the next one's -/
def fromB (st : V) (day : Int) : Bool := match st with | .int s => !decide (day < s) | _ => true
def aheadB (st : V) (day : Int) : Bool := match st with | .int s => decide (day < s) | _ => false
/-- whether row i is that of the day -/
def rulesB (ws : List Row) (i : Nat) (day : Int) : Bool := fromB (ws.getD i ⟨.non, 1, 0, 1, 0⟩).st day && (decide (i + 1 = ws.length) || aheadB (ws.getD (i + 1) ⟨.non, 1, 0, 1, 0⟩).st day)
def daysAt (ws : List Row) (y p : Int) : Nat → List Int
  | 0 => []
  | n + 1 => daysAt ws y p n ++ (match ws[n]? with
    | some w => if fst w.D w.T w.B w.S y + p < fst w.D w.T w.B w.S (y + 1) ∧ rulesB ws n (fst w.D w.T w.B w.S y + p) = true then [fst w.D w.T w.B w.S y + p] else []
    | none => [])
/-- all starts but the first are numbers -/
def Started (ws : List Row) : Prop := ∀ i w, ws[i]? = some w → (i = 0 ∧ w.st = .non) ∨ (0 < i ∧ ∃ s : Int, w.st = .int s)
section
variable {P : Program} {w : World} {K : PySem.W.Frag} {mg : Str → Option Value} {base : Heap}
def spPlaceR : Sp := fun vs H Q _ => ∃ i : Int, vs = [.int i] ∧ (0 ≤ i ∧ i ≤ 400) ∧ RetV .non H Q
theorem ok_need_realm_place (T : Txt K mg) : FnOk P w K mg base CX0 3 T.need_realm_place.f T.need_realm_place.fd ["thing"] spPlaceR := by
  have G_is_between : FnOk P w K mg base CX0 2 T.is_between.f T.is_between.fd ["thing", "least", "most"] spBetween := ok_is_between T
  refine T.need_realm_place.F.ok sc_need_realm_place (fun vs H Q E h => ?_) (fun cdv A outer s H vs Q E hr h => ?_)
  · obtain ⟨_, rfl, _⟩ := h
    rfl
  · obtain ⟨i, rfl, hi, q⟩ := h
    refine ⟨_, (pss_one (ps_if (pt_not (pt_val (pe_call G_is_between (hr.mono (by omega)) (by rfl) T.is_between.g T.is_between.F.kp T.is_between.b .nil pass0 (pa_cons (pv 0) (pa_cons pe_int (pa_cons (pe_glob (v := .int 400) rfl T.c_MOST_DAYS ⟨_, rfl⟩) pa_nil))))))
        (pss_one ps_never)
        pss_nil)), ?_⟩
    refine ⟨_, rfl, _, _, _, _, rfl, .int i, fun H1 e1 => ⟨_, rfl, ?_⟩⟩
    rw [btw_yes hi]
    exact iteF (q H1 e1)
def spInitR (C : Addr) : Sp := fun vs H Q _ => ∃ x dx v D T B S, vs = [.ref x, v] ∧ H x = some (.ins C dx []) ∧ Land H v D T B S ∧ ∀ l H', H l = none → ExD x H H' → RealmAt C H' x l [⟨.non, D, T, B, S⟩] → Q .non H'
theorem ok_Realm_init (T : Txt K mg) : FnOk P w K mg base CX0 5 T.Realm_init.f T.Realm_init.fd ["self", "land"] (spInitR T.C_Realm) := by
  have G_need_land : FnOk P w K mg base CX0 4 T.need_land.f T.need_land.fd ["thing"] spNeedLand := ok_need_land T
  refine T.Realm_init.F.ok sc_Realm_init (fun vs H Q E h => ?_) (fun cdv A outer s H vs Q E hr h => ?_)
  · obtain ⟨_, _, _, _, _, _, _, rfl, _⟩ := h
    rfl
  · obtain ⟨x, dx, v, D, T1, B, S, rfl, hx, hL, q⟩ := h
    refine ⟨_, (pss_cons (ps_expr (pe_call G_need_land (hr.mono (by omega)) (by rfl) T.need_land.g T.need_land.F.kp T.need_land.b .nil pass0 (pa_cons (pv 1) pa_nil)))
      (pss_one (ps_fld (pv 0) (pe_lst (pa_cons (pe_tup (pa_cons pe_non (pa_cons (pv 1) pa_nil))) pa_nil)) rfl))), ?_⟩
    refine ⟨_, rfl, _, D, T1, B, S, rfl, hL, fun H1 e1 => ?_⟩
    refine ⟨_, rfl, by show 2 ≤ sizeLine; decide, fun a na => ⟨by show 1 ≤ sizeLine; decide, fun l nl => ?_⟩⟩
    have xl : x ≠ l := ne_of_none (Ex.new na _ _ (e1 _ _ hx)) nl
    have xa : x ≠ a := ne_of_none (e1 _ _ hx) na
    have h2 : upd (upd H1 a (.tup [.non, v])) l (.lst [.ref a]) x = some (.ins T.C_Realm dx []) := by rw [upd_ne xl, upd_ne xa]; exact e1 _ _ hx
    refine ⟨_, rfl, x, T.C_Realm, dx, [], rfl, h2, T.cl_Realm, T.n_Realm_pairs, by decide, ?_⟩
    have el : Ex (upd H1 a (.tup [.non, v])) (upd (upd H1 a (.tup [.non, v])) l (.lst [.ref a])) := Ex.new nl
    have la : l ≠ a := fun z => by rw [z, upd_same] at nl; cases nl
    have kept : ∀ b o, b ≠ x → H b = some o → upd (upd (upd H1 a (.tup [.non, v])) l (.lst [.ref a])) x (.ins T.C_Realm dx (putF "pairs" (.ref l) [])) b = some o := fun b o bx e => (upd_ne bx).trans (el _ _ (Ex.new na _ _ (e1 _ _ e)))
    refine q l _ (fresh_back (e1.trans (Ex.new na)) nl) kept ⟨dx, [.ref a], upd_same, (upd_ne xl.symm).trans upd_same, .cons ⟨a, v, rfl, (upd_ne xa.symm).trans ((upd_ne la.symm).trans upd_same), ?_⟩ .nil, by show 0 < 1; decide, by show 1 ≤ 1000; decide⟩
    obtain ⟨b, rfl, hb, r⟩ := hL
    exact ⟨b, rfl, kept b _ (fun z => by rw [z, hx] at hb; cases hb) hb, r⟩
/-- what a field of a realm holds -/
def spLater (C : Addr) : Sp := fun vs H Q _ => ∃ x l ws r n, vs = [.ref x, .int n] ∧ RealmAt C H x l ws ∧ ws.getLast? = some r ∧ (r.st = .non ∨ ∃ s : Int, r.st = .int s) ∧ RetV (.bl (match r.st with | .int s => decide (s < n) | _ => true)) H Q
theorem last_at {rs : List V} {r : V} (h : rs.getLast? = some r) : atI rs (-1) = some r := by
  have e : rs[rs.length - 1]? = some r := (List.getLast?_eq_getElem? ..).symm.trans h
  have pos : 0 < rs.length := by
    have := (List.getElem?_eq_some_iff.mp e).1
    omega
  unfold atI ixN
  rw [if_neg (by decide), if_pos (by omega)]
  have n : (-1 + (rs.length : Int)).toNat = rs.length - 1 := by omega
  show rs[(-1 + (rs.length : Int)).toNat]? = some r
  rw [n, e]
theorem ok_Realm_is_later (T : Txt K mg) : FnOk P w K mg base CX0 1 T.Realm_is_later.f T.Realm_is_later.fd ["self", "day"] (spLater T.C_Realm) := by
  refine T.Realm_is_later.F.ok sc_Realm_is_later (fun vs H Q E h => ?_) (fun cdv A outer s H vs Q E hr h => ?_)
  · obtain ⟨_, _, _, _, _, rfl, _⟩ := h
    rfl
  · obtain ⟨x, l, ws, r, n, rfl, ⟨dx, rs, hx, hl, hrs, hz⟩, hlast, hst, q⟩ := h
    refine ⟨_, (pss_cons (ps_set (i := 2) sc_Realm_is_later.nd rfl (Or.inl rfl) (pe_ix ix_tup (pe_ix ix_list (pe_fld (pv 0) rfl) (pe_un un_neg pe_int) (fun _ _ => rfl)) pe_int (fun _ _ => rfl)))
      (pss_one (ps_ret (pe_or (pe_cmpR op_isN (pv 2) pe_non (nomark _)) (pe_one (pe_cmpR op_lt (pv 2) (pv 1) (nomark _))))))), ?_⟩
    have hl2 : rs.getLast? = rs[ws.length - 1]? := by rw [List.getLast?_eq_getElem?, hrs.len]
    obtain ⟨p, ep, a, v, rfl, ha, hL⟩ := hrs.row (i := ws.length - 1) (w := r) (by rw [← hlast, List.getLast?_eq_getElem?])
    refine ⟨_, rfl, x, _, dx, _, _, rfl, hx, T.cl_Realm, T.n_Realm_pairs, rfl, _, rfl, l, rs, -1, _, rfl, rfl, sq_of hl, last_at (hl2.trans ep), a, _, 0, _, rfl, rfl, st_of ha, rfl, ?_⟩
    rcases hst with e | ⟨s, e⟩
    · rw [e] at q ha ⊢
      exact ⟨_, rfl, rfl, _, rfl, q H (Ex.refl H)⟩
    · rw [e] at q ha ⊢
      refine ⟨_, rfl, rfl, _, rfl, ?_⟩
      rw [show decide (V.int s = V.non) = false from decide_eq_false fun z => by cases z]
      exact iteF ⟨_, rfl, _, rfl, _, _, rfl, rfl, q H (Ex.refl H)⟩
theorem ex_bool {b : Bool} {Q : Prop} (h : b = true ∨ b = false → Q) : Q := h (by cases b <;> simp)
/-- whoever changes: a later day, a land -/
def spChange (C : Addr) : Sp := fun vs H Q _ => ∃ x l ws r n v D T B S, vs = [.ref x, .int n, v] ∧ RealmAt C H x l ws ∧ ws.length < 999 ∧ ws.getLast? = some r ∧ (r.st = .non ∨ ∃ s : Int, r.st = .int s ∧ s < n) ∧ Far n ∧ Land H v D T B S ∧
  ∀ H', ExD l H H' → RealmAt C H' x l (ws ++ [⟨.int n, D, T, B, S⟩]) → Q .non H'
theorem ok_Realm_change (T : Txt K mg) : FnOk P w K mg base CX0 5 T.Realm_change.f T.Realm_change.fd ["self", "day", "land"] (spChange T.C_Realm) := by
  have G_need_land : FnOk P w K mg base CX0 4 T.need_land.f T.need_land.fd ["thing"] spNeedLand := ok_need_land T
  have G_need_day : FnOk P w K mg base CX0 3 T.need_day.f T.need_day.fd ["thing"] spNum := ok_need_day T
  have G_Realm_is_later : FnOk P w K mg base CX0 1 T.Realm_is_later.f T.Realm_is_later.fd ["self", "day"] (spLater T.C_Realm) := ok_Realm_is_later T
  refine T.Realm_change.F.ok sc_Realm_change (fun vs H Q E h => ?_) (fun cdv A outer s H vs Q E hr h => ?_)
  · obtain ⟨_, _, _, _, _, _, _, _, _, _, rfl, _⟩ := h
    rfl
  · obtain ⟨x, l, ws, r, n, v, D, T1, B, S, rfl, hR, hw, hlast, hst, hn, hL, q⟩ := h
    refine ⟨_, (pss_cons (ps_expr (pe_call G_need_day (hr.mono (by omega)) (by rfl) T.need_day.g T.need_day.F.kp T.need_day.b .nil pass0 (pa_cons (pv 1) pa_nil)))
      (pss_cons (ps_if (pt_not (pt_val (pe_meth (pv 0) T.cl_Realm T.Realm_is_later.m G_Realm_is_later (hr.mono (by omega)) T.Realm_is_later.b .nil pass0 (pa_cons (pv 1) pa_nil))))
        (pss_one ps_never)
        pss_nil)
      (pss_cons (ps_expr (pe_call G_need_land (hr.mono (by omega)) (by rfl) T.need_land.g T.need_land.F.kp T.need_land.b .nil pass0 (pa_cons (pv 2) pa_nil)))
      (pss_one (ps_expr (pe_bm PySem.F.plainAttrs_list PySem.F.slot_list_append PySem.F.type_list_append mt_append (pe_fld (pv 0) rfl) (pa_cons (pe_tup (pa_cons (pv 1) (pa_cons (pv 2) pa_nil))) pa_nil))))))), ?_⟩
    refine ⟨_, rfl, n, rfl, hn, fun H1 e1 => ?_⟩
    obtain ⟨dx, rs, hx, hl, hrs, hz⟩ := hR.ex e1
    have yes : (match r.st with | .int s => decide (s < n) | _ => true) = true := by
      rcases hst with e | ⟨s, e, lt⟩
      · rw [e]
      · rw [e]; exact decide_eq_true lt
    refine ⟨_, rfl, x, dx, _, rfl, hx, rfl, _, rfl, x, l, ws, r, n, rfl, hR.ex e1, hlast, hst.imp id fun ⟨s, e, _⟩ => ⟨s, e⟩, fun H2 e2 => ?_⟩
    rw [yes]
    refine ⟨_, rfl, iteF ?_⟩
    have e12 := e1.trans e2
    refine ⟨_, rfl, _, D, T1, B, S, rfl, hL.ex e12, fun H3 e3 => ?_⟩
    have e13 := e12.trans e3
    have e23 := e2.trans e3
    refine ⟨_, rfl, x, _, dx, _, _, rfl, e23 _ _ hx, T.cl_Realm, T.n_Realm_pairs, rfl, .inl ⟨rfl, _, sq_of (e23 _ _ hl)⟩, _, rfl, _, rfl, by show 2 ≤ sizeLine; decide, fun p np => ?_⟩
    have ep : Ex H3 (upd H3 p (.tup [.int n, v])) := Ex.new np
    have hl4 := ep _ _ (e23 _ _ hl)
    have len := hrs.len
    refine ⟨l, _, _, rfl, rfl, hl4, Nat.lt_of_lt_of_le (show rs.length < 1000 by omega) (by decide), ?_⟩
    have xl : x ≠ l := ne_of hx hl (by intro z; cases z)
    have pl : p ≠ l := fun z => by rw [z, e23 _ _ hl] at np; cases np
    have kept : ∀ b o, b ≠ l → upd H3 p (.tup [.int n, v]) b = some o → upd (upd H3 p (.tup [.int n, v])) l (.lst (rs ++ [.ref p])) b = some o := fun b o bl e => (upd_ne bl).trans e
    refine q _ (fun b o bl e => kept b o bl (ep _ _ (e13 _ _ e))) ⟨dx, _, kept _ _ xl (ep _ _ (e23 _ _ hx)), upd_same, RowsAt.snoc ?_ ⟨p, v, rfl, kept _ _ pl upd_same, ?_⟩, by simp, by simp; omega⟩
    · exact ((hrs.ex e23).ex ep).but hl4 kept
    · exact ((hL.ex e13).ex ep).but hl4 kept
end

section
variable {P : Program} {w : World} {K : PySem.W.Frag} {mg : Str → Option Value} {base : Heap}
theorem cut_one {rs : List V} : cutV rs (some 1) none = rs.drop 1 := by
  unfold cutV
  have a : HT.sIx rs.length 0 (some 1) = min 1 rs.length := by unfold HT.sIx; simp
  have b : HT.sIx rs.length rs.length none = rs.length := rfl
  rw [a, b]
  cases rs with
  | nil => rfl
  | cons r rs => simp
/-- one start more asked -/
def rule1 (day : Int) (f w : Row) : Row := match w.st with | .int s => if s ≤ day then w else f | _ => f
def spLandOn (C : Addr) : Sp := fun vs H Q _ => ∃ x l ws n, vs = [.ref x, .int n] ∧ RealmAt C H x l ws ∧ Started ws ∧ ∀ v H', Ex H H' → Land H' v (ruler ws n).D (ruler ws n).T (ruler ws n).B (ruler ws n).S → Q v H'
theorem ok_Realm_land_on (T : Txt K mg) : FnOk P w K mg base CX0 1 T.Realm_land_on.f T.Realm_land_on.fd ["self", "day"] (spLandOn T.C_Realm) := by
  refine T.Realm_land_on.F.ok sc_Realm_land_on (fun vs H Q E h => ?_) (fun cdv A outer s H vs Q E hr h => ?_)
  · obtain ⟨_, _, _, _, rfl, _⟩ := h
    rfl
  · obtain ⟨x, l, ws, n, rfl, ⟨dx, rs, hx, hl, hrs, hz⟩, hst, q⟩ := h
    refine ⟨_, (pss_cons (ps_set (i := 2) sc_Realm_land_on.nd rfl (Or.inl rfl) (pe_ix ix_tup (pe_ix ix_list (pe_fld (pv 0) rfl) pe_int (fun _ _ => rfl)) pe_int (fun _ _ => rfl)))
      (pss_cons (ps_for PassesOwn.never rfl (pi_list (pe_slice sl_list (pe_fld (pv 0) rfl) (po_some pe_int) po_none)) (pg_tup rfl (pgs_cons (pg_name (i := 3) sc_Realm_land_on.nd rfl (Or.inl rfl)) (pgs_cons (pg_name (i := 4) sc_Realm_land_on.nd rfl (Or.inl rfl)) pgs_nil)))
        (pss_one (ps_if (pt_cmpR op_le (pv 3) (pv 1) (nomark _))
        (pss_one (ps_set (i := 2) sc_Realm_land_on.nd rfl (Or.inl rfl) (pv 4)))
        pss_nil)))
      (pss_one (ps_ret (pv 2))))), ?_⟩
    obtain ⟨w0, ew0⟩ : ∃ w0, ws[0]? = some w0 := ⟨ws[0]'hz.1, List.getElem?_eq_getElem hz.1⟩
    obtain ⟨r0, er0, a0, v0, rfl, ha0, hL0⟩ := hrs.row ew0
    refine ⟨_, rfl, x, _, dx, _, _, rfl, hx, T.cl_Realm, T.n_Realm_pairs, rfl, l, rs, 0, _, rfl, rfl, sq_of hl, ?_, a0, _, 1, _, rfl, rfl, st_of ha0, rfl, ?_⟩
    · unfold atI ixN
      rw [if_pos (Int.le_refl 0), if_pos (by have := hrs.len; omega)]
      exact er0
    refine ⟨_, rfl, x, _, dx, _, _, rfl, hx, T.cl_Realm, T.n_Realm_pairs, rfl, 1, rfl, l, rs, rfl, sq_of hl, fun p np => ?_⟩
    rw [cut_one]
    have ep : Ex H (upd H p (.lst (rs.drop 1))) := Ex.new np
    refine ⟨p, rfl, ⟨_, sq_of upd_same⟩, for_list (K := K) (a := p) (xs := rs.drop 1) (fun i σ H' => (∃ v z1 z2, σ = [some (.ref x), some (.int n), some v, z1, z2] ∧ Land H' v (((ws.drop 1).take i).foldl (rule1 n) w0).D (((ws.drop 1).take i).foldl (rule1 n) w0).T (((ws.drop 1).take i).foldl (rule1 n) w0).B (((ws.drop 1).take i).foldl (rule1 n) w0).S) ∧ Ex H H' ∧ H' p = some (.lst (rs.drop 1))) ⟨⟨v0, _, _, rfl, hL0.ex ep⟩, ep, upd_same⟩ (fun i σ H' _ ⟨_, _, h⟩ => sq_of h) ?_ ?_⟩
    · rintro i r σ H1 hi ⟨⟨v, z1, z2, rfl, hv⟩, e1, hp⟩
      have hi2 : rs[i + 1]? = some r := by rw [List.getElem?_drop, Nat.add_comm] at hi; exact hi
      obtain ⟨w1, ew1, a, u, rfl, ha, hu⟩ := hrs.at hi2
      obtain ⟨s, es⟩ : ∃ s : Int, w1.st = .int s := by
        rcases hst _ _ ew1 with ⟨z, _⟩ | ⟨_, z⟩
        · omega
        · exact z
      have next : ((ws.drop 1).take (i + 1)).foldl (rule1 n) w0 = rule1 n (((ws.drop 1).take i).foldl (rule1 n) w0) w1 := by
        have e : (ws.drop 1)[i]? = some w1 := by rw [List.getElem?_drop, Nat.add_comm]; exact ew1
        rw [List.take_add_one, e]
        simp [List.foldl_append]
      refine ⟨a, _, rfl, st_of (e1 _ _ ha), rfl, _, _, rfl, _, _, rfl, rfl, ?_⟩
      rw [next]
      unfold rule1
      rw [es]
      refine ⟨_, rfl, _, rfl, _, _, rfl, rfl, _, rfl, ite2 (fun yes => ?_) fun no => ?_⟩
      · have le : s ≤ n := by simpa using yes
        simp only [if_pos le]
        exact ⟨_, rfl, ⟨u, _, _, rfl, hu.ex e1⟩, e1, hp⟩
      · have le : ¬ s ≤ n := by simpa using no
        simp only [if_neg le]
        exact ⟨⟨v, _, _, rfl, hv⟩, e1, hp⟩
    · rintro σ H1 ⟨⟨v, z1, z2, rfl, hv⟩, e1, hp⟩
      have all : ((ws.drop 1).take (rs.drop 1).length).foldl (rule1 n) w0 = ruler ws n := by
        have le : (rs.drop 1).length = (ws.drop 1).length := by rw [List.length_drop, List.length_drop, hrs.len]
        rw [le, List.take_length]
        unfold ruler
        cases ws with
        | nil => cases ew0
        | cons w ws => cases ew0; rfl
      rw [all] at hv
      exact ⟨_, rfl, q v H1 e1 hv⟩
def spDateR (C : Addr) : Sp := fun vs H Q _ => ∃ x l ws n, vs = [.ref x, .int n] ∧ RealmAt C H x l ws ∧ Started ws ∧ Far n ∧
  ∀ p H2, H p = none → Ex H H2 → H2 p = some (.tup [.int (yr (ruler ws n).D (ruler ws n).T (ruler ws n).B (ruler ws n).S n), .int (n - fst (ruler ws n).D (ruler ws n).T (ruler ws n).B (ruler ws n).S (yr (ruler ws n).D (ruler ws n).T (ruler ws n).B (ruler ws n).S n))]) → Q (.ref p) H2
theorem ok_Realm_date (T : Txt K mg) : FnOk P w K mg base CX0 4 T.Realm_date.f T.Realm_date.fd ["self", "day"] (spDateR T.C_Realm) := by
  have G_need_day : FnOk P w K mg base CX0 3 T.need_day.f T.need_day.fd ["thing"] spNum := ok_need_day T
  have G_date_of : FnOk P w K mg base CX0 3 T.date_of.f T.date_of.fd ["land", "day"] spDateOf := ok_date_of T
  have G_Realm_land_on : FnOk P w K mg base CX0 1 T.Realm_land_on.f T.Realm_land_on.fd ["self", "day"] (spLandOn T.C_Realm) := ok_Realm_land_on T
  refine T.Realm_date.F.ok sc_Realm_date (fun vs H Q E h => ?_) (fun cdv A outer s H vs Q E hr h => ?_)
  · obtain ⟨_, _, _, _, rfl, _⟩ := h
    rfl
  · obtain ⟨x, l, ws, n, rfl, hR, hst, hn, q⟩ := h
    refine ⟨_, (pss_cons (ps_expr (pe_call G_need_day (hr.mono (by omega)) (by rfl) T.need_day.g T.need_day.F.kp T.need_day.b .nil pass0 (pa_cons (pv 1) pa_nil)))
      (pss_one (ps_ret (pe_call G_date_of (hr.mono (by omega)) (by rfl) T.date_of.g T.date_of.F.kp T.date_of.b .nil pass0 (pa_cons (pe_meth (pv 0) T.cl_Realm T.Realm_land_on.m G_Realm_land_on (hr.mono (by omega)) T.Realm_land_on.b .nil pass0 (pa_cons (pv 1) pa_nil)) (pa_cons (pv 1) pa_nil)))))), ?_⟩
    refine ⟨_, rfl, n, rfl, hn, fun H1 e1 => ?_⟩
    obtain ⟨dx, rs, hx, hl, hrs, hz⟩ := hR.ex e1
    refine ⟨_, rfl, x, dx, _, rfl, hx, rfl, _, rfl, x, l, ws, n, rfl, hR.ex e1, hst, fun v H2 e2 hv => ⟨_, rfl, v, _, _, _, _, n, rfl, hv, fun p H3 np e3 h3 => ?_⟩⟩
    exact q p H3 (fresh_back (e1.trans e2) np) ((e1.trans e2).trans e3) h3
end

section
variable {P : Program} {w : World} {K : PySem.W.Frag} {mg : Str → Option Value} {base : Heap}
theorem at_nat {α : Type} {xs : List α} {i : Nat} {x : α} (h : xs[i]? = some x) : atI xs (i : Int) = some x := by
  have lt := (List.getElem?_eq_some_iff.mp h).1
  unfold atI ixN
  rw [if_pos (Int.natCast_nonneg i), if_pos (by omega)]
  exact h
def spRules (C : Addr) : Sp := fun vs H Q _ => ∃ x l ws n, ∃ i : Nat, vs = [.ref x, .int (i : Nat), .int n] ∧ RealmAt C H x l ws ∧ Started ws ∧ i < ws.length ∧ RetV (.bl (rulesB ws i n)) H Q
theorem ok_Realm_rules (T : Txt K mg) : FnOk P w K mg base CX0 1 T.Realm_rules.f T.Realm_rules.fd ["self", "at", "day"] (spRules T.C_Realm) := by
  refine T.Realm_rules.F.ok sc_Realm_rules (fun vs H Q E h => ?_) (fun cdv A outer s H vs Q E hr h => ?_)
  · obtain ⟨_, _, _, _, _, rfl, _⟩ := h
    rfl
  · obtain ⟨x, l, ws, n, i, rfl, ⟨dx, rs, hx, hl, hrs, hz⟩, hst, hi, q⟩ := h
    refine ⟨_, (pss_cons (ps_set (i := 3) sc_Realm_rules.nd rfl (Or.inl rfl) (pe_ix ix_tup (pe_ix ix_list (pe_fld (pv 0) rfl) (pv 1) (fun _ _ => rfl)) pe_int (fun _ _ => rfl)))
      (pss_cons (ps_if (PW.pt (pw_and (pt_cmpR op_notN (pv 3) pe_non (nomark _)) (pw_and1 (pt_cmpR op_lt (pv 2) (pv 3) (nomark _)))))
        (pss_one (ps_ret pe_bl))
        pss_nil)
      (pss_one (ps_ret (pe_or (pe_cmpR op_eq (pe_op op_add (pv 1) pe_int) (pe_callB call_len_seq (by rfl) T.len (by decide +kernel) (pa_cons (pe_fld (pv 0) rfl) pa_nil)) (nomark _)) (pe_one (pe_cmpR op_lt (pv 2) (pe_ix ix_tup (pe_ix ix_list (pe_fld (pv 0) rfl) (pe_op op_add (pv 1) pe_int) (fun _ _ => rfl)) pe_int (fun _ _ => rfl)) (nomark _)))))))), ?_⟩
    obtain ⟨w0, ew0⟩ : ∃ w0, ws[i]? = some w0 := ⟨ws[i], List.getElem?_eq_getElem hi⟩
    obtain ⟨r0, er0, a0, v0, rfl, ha0, hL0⟩ := hrs.row ew0
    have lr := hrs.len
    refine ⟨_, rfl, x, _, dx, _, _, rfl, hx, T.cl_Realm, T.n_Realm_pairs, rfl, _, rfl, l, rs, i, _, rfl, rfl, sq_of hl, at_nat er0, a0, _, 0, _, rfl, rfl, st_of ha0, rfl, ?_⟩
    have start : (w0.st = .non) ∨ ∃ s : Int, w0.st = .int s := (hst _ _ ew0).imp (·.2) (·.2)
    have g0 : ws.getD i ⟨.non, 1, 0, 1, 0⟩ = w0 := by simp [List.getD, ew0]
    have q1 : ∀ b, b = rulesB ws i n → Q (.bl b) H := fun b eb => eb ▸ q H (Ex.refl H)
    unfold rulesB at q1
    rw [g0] at q1
    -- behind the first question
    have tail : ∀ {b : Bool}, fromB w0.st n = true → b = (decide (i + 1 = ws.length) || aheadB (ws.getD (i + 1) ⟨.non, 1, 0, 1, 0⟩).st n) → Q (.bl b) H := fun {b} f eb => q1 b (by rw [f, eb]; rfl)
    rcases start with e | ⟨s, e⟩
    · have f : fromB w0.st n = true := by rw [e]; rfl
      rw [e]
      refine ⟨_, rfl, rfl, _, rfl, iteF (iteF ?_)⟩
      refine ⟨_, rfl, _, _, rfl, rfl, _, rfl, x, _, dx, _, _, rfl, hx, T.cl_Realm, T.n_Realm_pairs, rfl, l, rs, rfl, .inl (sq_of hl), rfl, _, rfl, ?_⟩
      by_cases end_ : i + 1 = ws.length
      · rw [decide_eq_true (show V.int ((i : Int) + 1) = V.int ((rs.length : Nat) : Int) by congr 1; omega)]
        exact iteT (tail f (by rw [decide_eq_true end_]; rfl))
      · rw [decide_eq_false (fun z => end_ (by have := V.int.inj z; omega) : ¬ V.int ((i : Int) + 1) = V.int ((rs.length : Nat) : Int))]
        obtain ⟨w1, ew1⟩ : ∃ w1, ws[i + 1]? = some w1 := ⟨ws[i + 1]'(by omega), List.getElem?_eq_getElem _⟩
        obtain ⟨r1, er1, a1, v1, rfl, ha1, hL1⟩ := hrs.row ew1
        obtain ⟨s1, es1⟩ : ∃ s : Int, w1.st = .int s := by
          rcases hst _ _ ew1 with ⟨z, _⟩ | ⟨_, z⟩
          · omega
          · exact z
        rw [es1] at ha1
        refine iteF ⟨_, rfl, _, rfl, x, _, dx, _, _, rfl, hx, T.cl_Realm, T.n_Realm_pairs, rfl, _, rfl, _, _, rfl, rfl, l, rs, _, _, rfl, rfl, sq_of hl, at_nat er1, a1, _, 0, _, rfl, rfl, st_of ha1, rfl, _, _, rfl, rfl, ?_⟩
        exact tail f (by rw [decide_eq_false end_]; simp [List.getD, ew1, es1, aheadB])
    · rw [e]
      refine ⟨_, rfl, rfl, _, rfl, iteT ⟨_, rfl, _, rfl, _, _, rfl, rfl, _, rfl, ?_⟩⟩
      by_cases lt : n < s
      · rw [decide_eq_true lt]
        exact iteT (q1 false (by rw [e]; simp [fromB, lt]))
      · rw [decide_eq_false lt]
        have f : fromB w0.st n = true := by rw [e]; simp [fromB, lt]
        refine iteF ?_
        refine ⟨_, rfl, _, _, rfl, rfl, _, rfl, x, _, dx, _, _, rfl, hx, T.cl_Realm, T.n_Realm_pairs, rfl, l, rs, rfl, .inl (sq_of hl), rfl, _, rfl, ?_⟩
        by_cases end_ : i + 1 = ws.length
        · rw [decide_eq_true (show V.int ((i : Int) + 1) = V.int ((rs.length : Nat) : Int) by congr 1; omega)]
          exact iteT (tail f (by rw [decide_eq_true end_]; rfl))
        · rw [decide_eq_false (fun z => end_ (by have := V.int.inj z; omega) : ¬ V.int ((i : Int) + 1) = V.int ((rs.length : Nat) : Int))]
          obtain ⟨w1, ew1⟩ : ∃ w1, ws[i + 1]? = some w1 := ⟨ws[i + 1]'(by omega), List.getElem?_eq_getElem _⟩
          obtain ⟨r1, er1, a1, v1, rfl, ha1, hL1⟩ := hrs.row ew1
          obtain ⟨s1, es1⟩ : ∃ s : Int, w1.st = .int s := by
            rcases hst _ _ ew1 with ⟨z, _⟩ | ⟨_, z⟩
            · omega
            · exact z
          rw [es1] at ha1
          refine iteF ⟨_, rfl, _, rfl, x, _, dx, _, _, rfl, hx, T.cl_Realm, T.n_Realm_pairs, rfl, _, rfl, _, _, rfl, rfl, l, rs, _, _, rfl, rfl, sq_of hl, at_nat er1, a1, _, 0, _, rfl, rfl, st_of ha1, rfl, _, _, rfl, rfl, ?_⟩
          exact tail f (by rw [decide_eq_false end_]; simp [List.getD, ew1, es1, aheadB])
end

section
variable {P : Program} {w : World} {K : PySem.W.Frag} {mg : Str → Option Value} {base : Heap}
theorem days_len {ws : List Row} {y p : Int} : ∀ n, (daysAt ws y p n).length ≤ n
  | 0 => Nat.le_refl 0
  | n + 1 => by
    have h := days_len (ws := ws) (y := y) (p := p) n
    unfold daysAt
    rw [List.length_append]
    split
    · split <;> simp <;> omega
    · simp; omega
def spDaysR (C : Addr) : Sp := fun vs H Q _ => ∃ x l ws y p, vs = [.ref x, .int y, .int p] ∧ RealmAt C H x l ws ∧ Started ws ∧ Far y ∧ (0 ≤ p ∧ p ≤ 400) ∧ ∀ a H', H a = none → Ex H H' → H' a = some (.lst ((daysAt ws y p ws.length).map V.int)) → Q (.ref a) H'
theorem ok_Realm_days_of (T : Txt K mg) : FnOk P w K mg base CX0 4 T.Realm_days_of.f T.Realm_days_of.fd ["self", "year", "place"] (spDaysR T.C_Realm) := by
  have G_need_year : FnOk P w K mg base CX0 3 T.need_year.f T.need_year.fd ["thing"] spNum := ok_need_year T
  have G_need_realm_place : FnOk P w K mg base CX0 3 T.need_realm_place.f T.need_realm_place.fd ["thing"] spPlaceR := ok_need_realm_place T
  have G_first_day : FnOk P w K mg base CX0 2 T.first_day.f T.first_day.fd ["land", "year"] spFirst := ok_first_day T
  have G_Realm_rules : FnOk P w K mg base CX0 1 T.Realm_rules.f T.Realm_rules.fd ["self", "at", "day"] (spRules T.C_Realm) := ok_Realm_rules T
  refine T.Realm_days_of.F.ok sc_Realm_days_of (fun vs H Q E h => ?_) (fun cdv A outer s H vs Q E hr h => ?_)
  · obtain ⟨_, _, _, _, _, rfl, _⟩ := h
    rfl
  · obtain ⟨x, l, ws, y, p, rfl, hR, hst, hy, hp, q⟩ := h
    refine ⟨_, (pss_cons (ps_expr (pe_call G_need_year (hr.mono (by omega)) (by rfl) T.need_year.g T.need_year.F.kp T.need_year.b .nil pass0 (pa_cons (pv 1) pa_nil)))
      (pss_cons (ps_expr (pe_call G_need_realm_place (hr.mono (by omega)) (by rfl) T.need_realm_place.g T.need_realm_place.F.kp T.need_realm_place.b .nil pass0 (pa_cons (pv 2) pa_nil)))
      (pss_cons (ps_set (i := 3) sc_Realm_days_of.nd rfl (Or.inl rfl) (pe_lst pa_nil))
      (pss_cons (ps_for PassesOwn.never rfl (pi_enum rfl T.enumerate (pa_cons (pe_fld (pv 0) rfl) pa_nil)) (pg_tup rfl (pgs_cons (pg_name (i := 4) sc_Realm_days_of.nd rfl (Or.inl rfl)) (pgs_cons (pg_name (i := 5) sc_Realm_days_of.nd rfl (Or.inl rfl)) pgs_nil)))
        (pss_cons (ps_set (i := 6) sc_Realm_days_of.nd rfl (Or.inl rfl) (pe_ix ix_tup (pv 5) pe_int (fun _ _ => rfl)))
      (pss_cons (ps_set (i := 7) sc_Realm_days_of.nd rfl (Or.inl rfl) (pe_op op_add (pe_call G_first_day (hr.mono (by omega)) (by rfl) T.first_day.g T.first_day.F.kp T.first_day.b .nil pass0 (pa_cons (pv 6) (pa_cons (pv 1) pa_nil))) (pv 2)))
      (pss_one (ps_if (PW.pt (pw_and (pt_cmpR op_lt (pv 7) (pe_call G_first_day (hr.mono (by omega)) (by rfl) T.first_day.g T.first_day.F.kp T.first_day.b .nil pass0 (pa_cons (pv 6) (pa_cons (pe_op op_add (pv 1) pe_int) pa_nil))) (nomark _)) (pw_and1 (pt_val (pe_meth (pv 0) T.cl_Realm T.Realm_rules.m G_Realm_rules (hr.mono (by omega)) T.Realm_rules.b .nil pass0 (pa_cons (pv 4) (pa_cons (pv 7) pa_nil)))))))
        (pss_one (ps_expr (pe_bm PySem.F.plainAttrs_list PySem.F.slot_list_append PySem.F.type_list_append mt_append (pv 3) (pa_cons (pv 7) pa_nil))))
        pss_nil)))))
      (pss_one (ps_ret (pv 3))))))), ?_⟩
    refine ⟨_, rfl, y, rfl, hy, fun H1 e1 => ⟨_, rfl, p, rfl, hp, fun H2 e2 => ⟨Nat.zero_le _, fun a na => ?_⟩⟩⟩
    have e12 := e1.trans e2
    have ea : Ex H2 (upd H2 a (.lst [])) := Ex.new na
    obtain ⟨dx, rs, hx, hl, hrs, hz⟩ := id (hR.ex e12)
    refine ⟨_, rfl, x, _, dx, _, _, rfl, ea _ _ hx, T.cl_Realm, T.n_Realm_pairs, rfl, l, rs, rfl, sq_of (ea _ _ hl), ?_⟩
    have lr := hrs.len
    refine for_it (walk_enum (xs := rs)) (fun i σ H' => (∃ z1 z2 z3 z4, σ = [some (.ref x), some (.int y), some (.int p), some (.ref a), z1, z2, z3, z4]) ∧ Ex H2 H' ∧ H' a = some (.lst ((daysAt ws y p i).map V.int))) ⟨⟨_, _, _, _, rfl⟩, ea, upd_same⟩ (fun i σ H' _ h => sq_of (h.2.1 _ _ hl)) ?_ ?_
    · rintro i v σ H3 H4 hi ⟨⟨z1, z2, z3, z4, rfl⟩, e3, h3⟩ ⟨t, u1, u2, rfl, nt, rfl, eu1, eu2⟩
      cases eu1
      obtain ⟨w1, ew1, a1, v1, rfl, ha1, hL1⟩ := hrs.at eu2
      have e4 : Ex H2 (upd H3 t (.tup [.int (i : Nat), .ref a1])) := e3.trans (Ex.new nt)
      have h4 : upd H3 t (.tup [.int (i : Nat), .ref a1]) a = some (.lst ((daysAt ws y p i).map V.int)) := Ex.new nt _ _ h3
      refine ⟨t, _, rfl, st_of upd_same, rfl, _, _, rfl, _, _, rfl, rfl, ?_⟩
      refine ⟨_, rfl, a1, _, 1, _, rfl, rfl, st_of (e4 _ _ ha1), rfl, ?_⟩
      refine ⟨_, rfl, _, rfl, v1, _, _, _, _, y, rfl, hL1.ex e4, fun H5 e5 => ⟨_, rfl, _, _, rfl, rfl, ?_⟩⟩
      have e45 := e4.trans e5
      refine ⟨_, rfl, _, rfl, _, rfl, _, _, rfl, rfl, v1, _, _, _, _, _, rfl, hL1.ex e45, fun H6 e6 => ⟨_, _, rfl, rfl, ?_⟩⟩
      refine ⟨_, rfl, ?_⟩
      have e46 := e45.trans e6
      have i1 : i < ws.length := by rw [← lr]; exact hi
      have next : daysAt ws y p (i + 1) = daysAt ws y p i ++ (if fst w1.D w1.T w1.B w1.S y + p < fst w1.D w1.T w1.B w1.S (y + 1) ∧ rulesB ws i (fst w1.D w1.T w1.B w1.S y + p) = true then [fst w1.D w1.T w1.B w1.S y + p] else []) := by
        show daysAt ws y p i ++ _ = _
        rw [ew1]
      rw [next]
      by_cases lt : fst w1.D w1.T w1.B w1.S y + p < fst w1.D w1.T w1.B w1.S (y + 1)
      · rw [decide_eq_true lt]
        refine iteT ⟨_, rfl, x, dx, _, rfl, e46 _ _ hx, rfl, _, rfl, _, rfl, x, l, ws, _, i, rfl, (hR.ex e12).ex e46, hst, i1, fun H7 e7 => ⟨_, rfl, ?_⟩⟩
        have e67 := (Ex.new nt).trans (e5.trans (e6.trans e7))
        cases rb : rulesB ws i (fst w1.D w1.T w1.B w1.S y + p) with
        | true =>
          refine iteT ⟨_, rfl, .inl ⟨rfl, _, sq_of (e67 _ _ h3)⟩, _, rfl, a, _, _, rfl, rfl, e67 _ _ h3, ?_, ?_⟩
          · rw [List.length_map]
            exact Nat.lt_of_le_of_lt (days_len i) (Nat.lt_of_lt_of_le (show i < 1000 by omega) (by decide))
          · refine ⟨⟨_, _, _, _, rfl⟩, fun b o e => (upd_ne (fun z => by rw [z, na] at e; cases e)).trans (e46.trans e7 _ _ e), ?_⟩
            rw [if_pos ⟨lt, rfl⟩, List.map_append]
            exact upd_same
        | false =>
          refine iteF ⟨⟨_, _, _, _, rfl⟩, e46.trans e7, ?_⟩
          rw [if_neg (fun z => by cases z.2), List.append_nil]
          exact e67 _ _ h3
      · rw [decide_eq_false lt]
        refine iteF (iteF ⟨⟨_, _, _, _, rfl⟩, e46, ?_⟩)
        rw [if_neg (fun z => lt z.1), List.append_nil]
        exact ((Ex.new nt).trans (e5.trans e6)) _ _ h3
    · rintro σ H3 ⟨⟨z1, z2, z3, z4, rfl⟩, e3, h3⟩
      exact ⟨_, rfl, q a H3 (fresh_back e12 na) (e12.trans e3) (lr ▸ h3)⟩
end

/-! ### sorted of a list of at most one item -/
def rSort1 (K : PySem.W.Frag) : List V → Hp → VK → Prop := fun vs H Q => ∃ a xs, vs = [V.ref a] ∧ SqL K H a xs ∧ xs.length < 2 ∧ ∀ p, H p = none → Q (.ref p) (upd H p (.lst xs))
theorem perm_short {α : Type} {xs ys : List α} (p : ys.Perm xs) (h : xs.length < 2) : ys = xs := by
  match xs, h with
  | [], _ => exact p.eq_nil
  | [x], _ => exact List.perm_singleton.mp p
theorem cr_sort1 {X : Cx} : CallR X (.builtin "sorted") (rSort1 X.K) := fun pins s σ H vs us Q I r q => by
  obtain ⟨a, xs, rfl, hl, short, q⟩ := q
  obtain ⟨u, rfl, e⟩ := vals1 r
  cases e
  obtain ⟨its, vals, plain, small⟩ := I.list hl
  have len : xs.length = its.length := vals.length
  have swo : SrtO.Swo (fun _ _ : Value => false) := ⟨fun _ _ z => Bool.noConfusion z, fun _ _ _ _ _ => rfl⟩
  refine SrtO.sorted_ord swo plain.isList (by omega) (fun z => absurd z (by omega)) fun out _ st => ?_
  obtain rfl := perm_short st.perm (show its.length < 2 by omega)
  obtain ⟨n, there⟩ := sortedAll_at s.heap out out.toArray
  exact ⟨.ref _, upd H (s.heap.objs.size + 1) (.lst xs), I.laid (t' := s.toks) (fun b o e => sortedAll_old e) (Nat.le_succ _) ⟨small, out, n, vals, there⟩, rfl, q _ (I.hok.fresh (Nat.le_succ _))⟩
/-! ### seen years -/
def PairAt (H : Hp) (r : V) (p : Int × Int) : Prop := ∃ a, r = .ref a ∧ H a = some (.tup [.int p.1, .int p.2])
theorem PairAt.ex {H H' : Hp} {r : V} {p : Int × Int} (h : PairAt H r p) (e : Ex H H') : PairAt H' r p := let ⟨a, er, ha⟩ := h; ⟨a, er, e _ _ ha⟩
structure SeenOk (ps : List (Int × Int)) : Prop where
  few : 2 ≤ ps.length ∧ ps.length ≤ 6
  bd : ∀ p ∈ ps, (-10000 ≤ p.1 ∧ p.1 ≤ 10000) ∧ (-1000000 ≤ p.2 ∧ p.2 ≤ 1000000)
  up : ps.Pairwise fun p q => p.1 < q.1
structure Seen (H : Hp) (a : Addr) (rs : List V) (ps : List (Int × Int)) : Prop where
  at_ : H a = some (.tup rs)
  len : rs.length = ps.length
  each : ∀ (i : Nat) r, rs[i]? = some r → ∃ p, ps[i]? = some p ∧ PairAt H r p
  ok : SeenOk ps
theorem Seen.ex {H H' : Hp} {a : Addr} {rs : List V} {ps : List (Int × Int)} (h : Seen H a rs ps) (e : Ex H H') : Seen H' a rs ps :=
  ⟨e _ _ h.at_, h.len, fun i r z => let ⟨p, e1, e2⟩ := h.each i r z; ⟨p, e1, e2.ex e⟩, h.ok⟩
theorem Seen.row {H : Hp} {a : Addr} {rs : List V} {ps : List (Int × Int)} (h : Seen H a rs ps) {i : Nat} {p : Int × Int} (e : ps[i]? = some p) : ∃ r, rs[i]? = some r ∧ PairAt H r p := by
  have lt := (List.getElem?_eq_some_iff.mp e).1
  have e1 : rs[i]? = some (rs[i]'(by have := h.len; omega)) := List.getElem?_eq_getElem _
  obtain ⟨p', e2, e3⟩ := h.each i _ e1
  rw [e] at e2
  cases e2
  exact ⟨_, e1, e3⟩
theorem SeenOk.next {ps : List (Int × Int)} (h : SeenOk ps) {i j : Nat} {p q : Int × Int} (ij : i < j) (e : ps[i]? = some p) (e' : ps[j]? = some q) : p.1 < q.1 := by
  obtain ⟨l1, rfl⟩ := List.getElem?_eq_some_iff.mp e
  obtain ⟨l2, rfl⟩ := List.getElem?_eq_some_iff.mp e'
  exact List.pairwise_iff_getElem.mp h.up i j l1 l2 ij
/-- two tuples walked side by side -/
theorem walk_zipU {K : PySem.W.Frag} {a b : Addr} {xs ys : List V} {n : Nat} (hn : n = min xs.length ys.length) : Walk (RZ.ItzT K a b) n (fun H => SqT K H a xs ∧ SqT K H b ys) (YPair (fun i => xs[i]?) (fun i => ys[i]?)) where
  goes := fun i H hi both => by
    have lx : i < xs.length := by omega
    have ly : i < ys.length := by omega
    exact ⟨_, _, xs[i], ys[i], both.1, both.2, List.getElem?_eq_getElem lx, List.getElem?_eq_getElem ly⟩
  stops := fun H both => ⟨_, _, both.1, both.2, by omega⟩
  yields := fun i H v H' _ both ⟨t, x, y, ev, nt, eh, hx, hy⟩ => ⟨t, x, y, ev, nt, eh, hx _ both.1, hy _ both.2⟩
section
variable {P : Program} {w : World} {K : PySem.W.Frag} {mg : Str → Option Value} {base : Heap}
def spSeenY : Sp := fun vs H Q _ => ∃ r p, vs = [r] ∧ PairAt H r p ∧ ((-10000 ≤ p.1 ∧ p.1 ≤ 10000) ∧ (-1000000 ≤ p.2 ∧ p.2 ≤ 1000000)) ∧ RetV (.bl true) H Q
theorem ok_is_seen_year (T : Txt K mg) : FnOk P w K mg base CX0 3 T.is_seen_year.f T.is_seen_year.fd ["thing"] spSeenY := by
  have G_is_between : FnOk P w K mg base CX0 2 T.is_between.f T.is_between.fd ["thing", "least", "most"] spBetween := ok_is_between T
  refine T.is_seen_year.F.ok sc_is_seen_year (fun vs H Q E h => ?_) (fun cdv A outer s H vs Q E hr h => ?_)
  · obtain ⟨_, _, rfl, _⟩ := h
    rfl
  · obtain ⟨r, ⟨y, d⟩, rfl, ⟨a, rfl, h⟩, ⟨hy, hd⟩, q⟩ := h
    refine ⟨_, (pss_cons (ps_if (PW.pt (pw_or (pt_not (pt_val (pe_callB call_isi (by rfl) T.isinstance (by decide +kernel) (pa_cons (pv 0) (pa_cons (pe_bltn (v := .ty "tuple") (by rfl) T.tuple (by decide +kernel) rfl) pa_nil))))) (pw_or1 (pt_cmpR op_ne (pe_callB call_len_seq (by rfl) T.len (by decide +kernel) (pa_cons (pv 0) pa_nil)) pe_int (nomark _)))))
        (pss_one (ps_ret pe_bl))
        pss_nil)
      (pss_cons (ps_asg (pv 0) (pg_tup rfl (pgs_cons (pg_name (i := 1) sc_is_seen_year.nd rfl (Or.inl rfl)) (pgs_cons (pg_name (i := 2) sc_is_seen_year.nd rfl (Or.inl rfl)) pgs_nil))))
      (pss_one (ps_ret (pe_and (pe_call G_is_between (hr.mono (by omega)) (by rfl) T.is_between.g T.is_between.F.kp T.is_between.b .nil pass0 (pa_cons (pv 1) (pa_cons (pe_un un_neg (pe_glob (v := .int 10000) rfl T.c_FARTHEST_SEEN_YEAR ⟨_, rfl⟩)) (pa_cons (pe_glob (v := .int 10000) rfl T.c_FARTHEST_SEEN_YEAR ⟨_, rfl⟩) pa_nil)))) (pe_one (pe_call G_is_between (hr.mono (by omega)) (by rfl) T.is_between.g T.is_between.F.kp T.is_between.b .nil pass0 (pa_cons (pv 2) (pa_cons (pe_un un_neg (pe_glob (v := .int 1000000) rfl T.c_FARTHEST_SEEN_DAY ⟨_, rfl⟩)) (pa_cons (pe_glob (v := .int 1000000) rfl T.c_FARTHEST_SEEN_DAY ⟨_, rfl⟩) pa_nil)))))))))), ?_⟩
    refine ⟨_, rfl, _, _, _, _, _, rfl, .ty _, (Dat.tup h).ty, kit_kd .tup .tup (by decide), _, rfl, iteF ?_⟩
    refine ⟨_, rfl, a, _, rfl, .inr (st_of h), rfl, _, rfl, iteF ?_⟩
    refine ⟨.ref a, rfl, a, _, rfl, st_of h, rfl, _, _, rfl, _, _, rfl, rfl, ?_⟩
    refine ⟨_, rfl, 10000, rfl, .int y, _, -10000, 10000, rfl, .int y, fun H1 e1 => ⟨_, rfl, ?_⟩⟩
    rw [btw_yes hy]
    refine iteT ⟨_, rfl, 1000000, rfl, .int d, _, -1000000, 1000000, rfl, .int d, fun H2 e2 => ?_⟩
    rw [btw_yes hd]
    exact q H2 (e1.trans e2)
def spSeen : Sp := fun vs H Q _ => ∃ a rs ps, vs = [.ref a] ∧ Seen H a rs ps ∧ RetV (.bl true) H Q
theorem ok_is_seen (T : Txt K mg) : FnOk P w K mg base CX0 4 T.is_seen.f T.is_seen.fd ["thing"] spSeen := by
  have G_is_seen_year : FnOk P w K mg base CX0 3 T.is_seen_year.f T.is_seen_year.fd ["thing"] spSeenY := ok_is_seen_year T
  refine T.is_seen.F.ok sc_is_seen (fun vs H Q E h => ?_) (fun cdv A outer s H vs Q E hr h => ?_)
  · obtain ⟨_, _, _, rfl, _⟩ := h
    rfl
  · obtain ⟨a, rs, ps, rfl, h, q⟩ := h
    refine ⟨_, (pss_cons (ps_if (PW.pt (pw_or (pt_not (pt_val (pe_callB call_isi (by rfl) T.isinstance (by decide +kernel) (pa_cons (pv 0) (pa_cons (pe_bltn (v := .ty "tuple") (by rfl) T.tuple (by decide +kernel) rfl) pa_nil))))) (pw_or1 (pt_not (pt_chain op_le op_le (pe_glob (v := .int 2) rfl T.c_FEWEST_SEEN ⟨_, rfl⟩) (pe_callB call_len_seq (by rfl) T.len (by decide +kernel) (pa_cons (pv 0) pa_nil)) (pe_glob (v := .int 6) rfl T.c_MOST_SEEN ⟨_, rfl⟩))))))
        (pss_one (ps_ret pe_bl))
        pss_nil)
      (pss_cons (ps_if (pt_not (pt_val (pe_callB (cr_all rfl) (by rfl) T.all (by decide +kernel) (pa_cons (pe_lc (own := [("pair", 1)]) (g := gName 1) (by rfl) sc_is_seen.nd (pi_tup (pv 0)) (blkOk_by (own := [("pair", 1)]) (N := ["thing", "pair", "later"]) (sc := defScope s_is_seen) (by decide +kernel)) (fun _ _ _ _ _ => (pg_name (i := 1) sc_is_seen.nd rfl (Or.inl rfl))) (fun _ _ _ _ _ => pts_nil) (fun _ _ _ _ _ => (pe_call G_is_seen_year (hr.mono (by omega)) (by rfl) T.is_seen_year.g T.is_seen_year.F.kp T.is_seen_year.b .nil pass0 (pa_cons (pv 1) pa_nil)))) pa_nil))))
        (pss_one (ps_ret pe_bl))
        pss_nil)
      (pss_one (ps_ret (pe_callB (cr_all rfl) (by rfl) T.all (by decide +kernel) (pa_cons (pe_lc (own := [("pair", 1), ("later", 2)]) (g := gTup K 2 (gCons (gName 1) (gCons (gName 2) gNil))) (by rfl) sc_is_seen.nd (RZ.pi_zipA (by rfl) T.zip (pa_cons (pv 0) (pa_cons (pe_slice sl_tup (pv 0) (po_some pe_int) po_none) pa_nil))) (blkOk_by (own := [("pair", 1), ("later", 2)]) (N := ["thing", "pair", "later"]) (sc := defScope s_is_seen) (by decide +kernel)) (fun _ _ _ _ _ => (pg_tup rfl (pgs_cons (pg_name (i := 1) sc_is_seen.nd rfl (Or.inl rfl)) (pgs_cons (pg_name (i := 2) sc_is_seen.nd rfl (Or.inl rfl)) pgs_nil)))) (fun _ _ _ _ _ => pts_nil) (fun _ _ _ _ _ => (pe_cmpR op_lt (pe_ix (show IxR _ (rIxT K) from ix_tup) (pv 1) pe_int (fun _ _ => rfl)) (pe_ix (show IxR _ (rIxT K) from ix_tup) (pv 2) pe_int (fun _ _ => rfl)) (nomark _)))) pa_nil)))))), ?_⟩
    have few := h.ok.few
    have len := h.len
    refine ⟨_, rfl, _, _, _, _, _, rfl, .ty _, (Dat.tup h.at_).ty, kit_kd .tup .tup (by decide), _, rfl, iteF ?_⟩
    refine ⟨_, rfl, a, rs, rfl, .inr (st_of h.at_), _, _, rfl, rfl, _, rfl, ?_⟩
    rw [if_pos (decide_eq_true (show (2 : Int) ≤ ((rs.length : Nat) : Int) by omega))]
    refine ⟨_, _, rfl, rfl, _, rfl, ?_⟩
    rw [decide_eq_true (show ((rs.length : Nat) : Int) ≤ 6 by omega)]
    refine iteF ⟨_, rfl, a, rfl, ⟨_, st_of h.at_⟩, fun D1 hD1 => ?_⟩
    refine lc_tup (xs := rs) (Cw H (fun _ => true) (fun _ => .bl true) D1) ⟨hD1, Ex.new hD1, upd_same⟩ (fun _ H' _ c => st_of (c.2.1 _ _ h.at_)) (fun i x H' hi c => ?_) (fun H1 c => ?_)
    · obtain ⟨p, ep, hp⟩ := h.each _ _ hi
      have lt := (List.getElem?_eq_some_iff.mp hi).1
      exact ⟨rfl, cw_turn c (by omega) (fun Ha ea Qa qa => qa Ha (Ex.refl Ha)) fun _ Ha ea Qa qa => ⟨_, rfl, x, p, rfl, hp.ex ea, h.ok.bd p (List.mem_of_getElem? ep), qa⟩⟩
    obtain ⟨_, e1, h1⟩ := c
    rw [given_bls] at h1
    refine ⟨D1, _, rfl, sq_of h1, ?_⟩
    rw [show ((List.range rs.length).map fun _ => true).all id = true by simp]
    refine ⟨_, rfl, iteF ?_⟩
    refine ⟨_, rfl, _, rfl, 1, rfl, a, rs, rfl, st_of (e1 _ _ h.at_), ?_, fun p2 n2 => ?_⟩
    · have at1 : HT.sIx rs.length 0 (some 1) = min 1 rs.length := by unfold HT.sIx; simp
      rw [at1]
      omega
    rw [cut_one]
    have e2 : Ex H (upd H1 p2 (.tup (rs.drop 1))) := e1.trans (Ex.new n2)
    refine ⟨a, p2, rs, rs.drop 1, rfl, .inr ⟨st_of (e2 _ _ h.at_), st_of upd_same, fun D2 hD2 => ?_⟩⟩
    refine lc_it (walk_zipU (xs := rs) (ys := rs.drop 1) (n := rs.length - 1) (by rw [List.length_drop]; omega)) (Cw (upd H1 p2 (.tup (rs.drop 1))) (fun _ => true) (fun _ => .bl true) D2) ⟨hD2, Ex.new hD2, upd_same⟩ (fun i H' _ c => ⟨st_of (c.2.1 _ _ (e2 _ _ h.at_)), st_of (c.2.1 _ _ upd_same)⟩) ?_ ?_
    · rintro i v H3 H4 hi c ⟨t, x, y, rfl, nt, rfl, ex, ey⟩
      have ey : rs[i + 1]? = some y := by rw [← ey]; show _ = (rs.drop 1)[i]?; rw [List.getElem?_drop, Nat.add_comm]
      obtain ⟨p, ep, hp⟩ := h.each _ _ ex
      obtain ⟨p', ep', hp'⟩ := h.each _ _ ey
      have lt := h.ok.next (Nat.lt_succ_self i) ep ep'
      have c4 : Cw (upd H1 p2 (.tup (rs.drop 1))) (fun _ => true) (fun _ => .bl true) D2 i (upd H3 t (.tup [x, y])) := ⟨c.1, c.2.1.trans (Ex.new nt), Ex.new nt _ _ c.2.2⟩
      refine ⟨t, _, rfl, st_of upd_same, rfl, _, _, rfl, _, _, rfl, rfl, rfl, cw_turn c4 (by omega) (fun Ha ea Qa qa => qa Ha (Ex.refl Ha)) fun _ Ha ea Qa qa => ?_⟩
      obtain ⟨b, rfl, hb⟩ := hp.ex (e2.trans ea)
      obtain ⟨b', rfl, hb'⟩ := hp'.ex (e2.trans ea)
      refine ⟨_, rfl, b, _, 0, _, rfl, rfl, st_of hb, rfl, _, rfl, b', _, 0, _, rfl, rfl, st_of hb', rfl, _, _, rfl, rfl, ?_⟩
      show Qa (V.bl (decide (p.1 < p'.1))) Ha
      rw [decide_eq_true lt]
      exact qa Ha (Ex.refl Ha)
    · rintro H3 ⟨_, e3, h3⟩
      rw [given_bls] at h3
      refine ⟨D2, _, rfl, sq_of h3, ?_⟩
      rw [show ((List.range (rs.length - 1)).map fun _ => true).all id = true by simp]
      exact q H3 (e2.trans e3)
def spNeedSeen : Sp := fun vs H Q _ => ∃ a rs ps, vs = [.ref a] ∧ Seen H a rs ps ∧ RetV .non H Q
theorem ok_need_seen (T : Txt K mg) : FnOk P w K mg base CX0 5 T.need_seen.f T.need_seen.fd ["thing"] spNeedSeen := by
  have G_is_seen : FnOk P w K mg base CX0 4 T.is_seen.f T.is_seen.fd ["thing"] spSeen := ok_is_seen T
  refine T.need_seen.F.ok sc_need_seen (fun vs H Q E h => ?_) (fun cdv A outer s H vs Q E hr h => ?_)
  · obtain ⟨_, _, _, rfl, _⟩ := h
    rfl
  · obtain ⟨a, rs, ps, rfl, h, q⟩ := h
    refine ⟨_, (pss_one (ps_if (pt_not (pt_val (pe_call G_is_seen (hr.mono (by omega)) (by rfl) T.is_seen.g T.is_seen.F.kp T.is_seen.b .nil pass0 (pa_cons (pv 0) pa_nil))))
        (pss_one ps_never)
        pss_nil)), ?_⟩
    exact ⟨_, rfl, a, rs, ps, rfl, h, fun H1 e1 => ⟨_, rfl, iteF (q H1 e1)⟩⟩
def spMost : Sp := fun vs H Q _ => ∃ m : Int, vs = [.int m] ∧ (1 ≤ m ∧ m ≤ 12) ∧ RetV .non H Q
theorem ok_need_most (T : Txt K mg) : FnOk P w K mg base CX0 3 T.need_most.f T.need_most.fd ["thing"] spMost := by
  have G_is_between : FnOk P w K mg base CX0 2 T.is_between.f T.is_between.fd ["thing", "least", "most"] spBetween := ok_is_between T
  refine T.need_most.F.ok sc_need_most (fun vs H Q E h => ?_) (fun cdv A outer s H vs Q E hr h => ?_)
  · obtain ⟨_, rfl, _⟩ := h
    rfl
  · obtain ⟨m, rfl, hm, q⟩ := h
    refine ⟨_, (pss_one (ps_if (pt_not (pt_val (pe_call G_is_between (hr.mono (by omega)) (by rfl) T.is_between.g T.is_between.F.kp T.is_between.b .nil pass0 (pa_cons (pv 0) (pa_cons pe_int (pa_cons (pe_glob (v := .int 12) rfl T.c_MOST_TOLD_BOTTOM ⟨_, rfl⟩) pa_nil))))))
        (pss_one ps_never)
        pss_nil)), ?_⟩
    refine ⟨_, rfl, _, _, _, _, rfl, .int m, fun H1 e1 => ⟨_, rfl, ?_⟩⟩
    rw [btw_yes hm]
    exact iteF (q H1 e1)
end

/-! ### days and shifts that a land may have -/
def mostD (p q : Int × Int) : Int := (q.2 - p.2) / (q.1 - p.1)
def possD (p q : Int × Int) : List Int := [mostD p q - 1, mostD p q].filter fun n => decide (1 ≤ n) && decide (n ≤ 400)
/-- the least shift with which a year begins on its day -/
def leastS (D T B : Int) (p : Int × Int) : Int := p.2 * B - (D * B + T) * p.1
def mxL : List Int → Int
  | [] => 0
  | [x] => x
  | x :: y :: r => max x (mxL (y :: r))
def mnL : List Int → Int
  | [] => 0
  | [x] => x
  | x :: y :: r => min x (mnL (y :: r))
theorem mxL_mem : ∀ {L : List Int}, L ≠ [] → mxL L ∈ L ∧ ∀ y ∈ L, y ≤ mxL L
  | [x], _ => ⟨List.mem_cons_self, fun y h => by rcases List.mem_cons.mp h with rfl | h; exact Int.le_refl _; cases h⟩
  | x :: z :: r, _ => by
    obtain ⟨a, b⟩ := mxL_mem (L := z :: r) (by simp)
    have e : mxL (x :: z :: r) = max x (mxL (z :: r)) := rfl
    constructor
    · rw [e]
      by_cases le : x ≤ mxL (z :: r)
      · rw [show max x (mxL (z :: r)) = mxL (z :: r) by omega]
        exact List.mem_cons_of_mem _ a
      · rw [show max x (mxL (z :: r)) = x by omega]
        exact List.mem_cons_self
    · intro y h
      rw [e]
      rcases List.mem_cons.mp h with same | among
      · omega
      · have := b y among
        omega
theorem mnL_mem : ∀ {L : List Int}, L ≠ [] → mnL L ∈ L ∧ ∀ y ∈ L, mnL L ≤ y
  | [x], _ => ⟨List.mem_cons_self, fun y h => by rcases List.mem_cons.mp h with rfl | h; exact Int.le_refl _; cases h⟩
  | x :: z :: r, _ => by
    obtain ⟨a, b⟩ := mnL_mem (L := z :: r) (by simp)
    have e : mnL (x :: z :: r) = min x (mnL (z :: r)) := rfl
    constructor
    · rw [e]
      by_cases le : x ≤ mnL (z :: r)
      · rw [show min x (mnL (z :: r)) = x by omega]
        exact List.mem_cons_self
      · rw [show min x (mnL (z :: r)) = mnL (z :: r) by omega]
        exact List.mem_cons_of_mem _ a
    · intro y h
      rw [e]
      rcases List.mem_cons.mp h with same | among
      · omega
      · have := b y among
        omega
theorem mx_is {L : List Int} {m : Int} (h : m ∈ L) (le : ∀ y ∈ L, y ≤ m) : m = mxL L := by
  obtain ⟨a, b⟩ := mxL_mem (L := L) (fun z => by rw [z] at h; cases h)
  have := le _ a
  have := b _ h
  omega
theorem mn_is {L : List Int} {m : Int} (h : m ∈ L) (le : ∀ y ∈ L, m ≤ y) : m = mnL L := by
  obtain ⟨a, b⟩ := mnL_mem (L := L) (fun z => by rw [z] at h; cases h)
  have := le _ a
  have := b _ h
  omega
def lowS (ps : List (Int × Int)) (D T B : Int) : Int := mxL (ps.map (leastS D T B))
def endS (ps : List (Int × Int)) (D T B : Int) : Int := mnL (ps.map (leastS D T B)) + B
theorem least_bd {D T B : Int} {p : Int × Int} (r1 : 1 ≤ D ∧ D ≤ 400) (r2 : 0 ≤ T ∧ T < B) (r3 : 1 ≤ B ∧ B ≤ 60) (hp : (-10000 ≤ p.1 ∧ p.1 ≤ 10000) ∧ (-1000000 ≤ p.2 ∧ p.2 ≤ 1000000)) : -400000000 ≤ leastS D T B p ∧ leastS D T B p ≤ 400000000 := by
  have s := step_bd r1 r2 r3
  have m1 := mul_bd (x := p.2) (b := B) (K := 1000000) (L := 60) ⟨by omega, by omega⟩ ⟨by omega, by omega⟩ (by decide)
  have m2 := mul_bd (x := p.1) (b := D * B + T) (K := 10000) (L := 24060) ⟨by omega, by omega⟩ ⟨by omega, by omega⟩ (by decide)
  unfold leastS
  rw [Int.mul_comm (D * B + T)]
  omega
theorem range_map {α β : Type} (ps : List α) (d : α) (f : α → β) : (List.range ps.length).map (fun i => f (ps[i]?.getD d)) = ps.map f := by
  have len : ((List.range ps.length).map fun i => f (ps[i]?.getD d)).length = (ps.map f).length := by simp
  refine List.ext_getElem len fun i _ far => ?_
  have lt : i < ps.length := by simpa using far
  simp [lt]
section
variable {P : Program} {w : World} {K : PySem.W.Frag} {mg : Str → Option Value} {base : Heap}
def spPossD : Sp := fun vs H Q _ => ∃ a rs ps p q, vs = [.ref a] ∧ Seen H a rs ps ∧ ps[0]? = some p ∧ ps[ps.length - 1]? = some q ∧ ∀ l H', H l = none → Ex H H' → H' l = some (.lst ((possD p q).map V.int)) → Q (.ref l) H'
theorem ok_possible_days (T : Txt K mg) : FnOk P w K mg base CX0 1 T.possible_days.f T.possible_days.fd ["seen"] spPossD := by
  refine T.possible_days.F.ok sc_possible_days (fun vs H Q E h => ?_) (fun cdv A outer s H vs Q E hr h => ?_)
  · obtain ⟨_, _, _, _, _, rfl, _⟩ := h
    rfl
  · obtain ⟨a, rs, ps, p, p', rfl, h, ep, ep', q⟩ := h
    refine ⟨_, (pss_cons (ps_asg (pe_ix ix_tup (pv 0) pe_int (fun _ _ => rfl)) (pg_tup rfl (pgs_cons (pg_name (i := 1) sc_possible_days.nd rfl (Or.inl rfl)) (pgs_cons (pg_name (i := 2) sc_possible_days.nd rfl (Or.inl rfl)) pgs_nil))))
      (pss_cons (ps_asg (pe_ix ix_tup (pv 0) (pe_un un_neg pe_int) (fun _ _ => rfl)) (pg_tup rfl (pgs_cons (pg_name (i := 3) sc_possible_days.nd rfl (Or.inl rfl)) (pgs_cons (pg_name (i := 4) sc_possible_days.nd rfl (Or.inl rfl)) pgs_nil))))
      (pss_cons (ps_set (i := 5) sc_possible_days.nd rfl (Or.inl rfl) (pe_op op_fdiv (pe_op op_sub (pv 4) (pv 2)) (pe_op op_sub (pv 3) (pv 1))))
      (pss_one (ps_ret (pe_lc (own := [("number", 6)]) (g := gName 6) (by rfl) sc_possible_days.nd (pi_tup (pe_tup (pa_cons (pe_op op_sub (pv 5) pe_int) (pa_cons (pv 5) pa_nil)))) (blkOk_by (own := [("number", 6)]) (N := ["seen", "year", "day", "last_year", "last_day", "most", "number"]) (sc := defScope s_possible_days) (by decide +kernel)) (fun _ _ _ _ _ => (pg_name (i := 6) sc_possible_days.nd rfl (Or.inl rfl))) (fun _ _ _ _ _ => (pts_one (pt_chain op_le op_le pe_int (pv 6) (pe_glob (v := .int 400) rfl T.c_MOST_DAYS ⟨_, rfl⟩)))) (fun _ _ _ _ _ => (pv 6)))))))), ?_⟩
    have few := h.ok.few
    have len := h.len
    have lt : p.1 < p'.1 := h.ok.next (by omega) ep ep'
    have bp := h.ok.bd p (List.mem_of_getElem? ep)
    have bp' := h.ok.bd p' (List.mem_of_getElem? ep')
    obtain ⟨r, er, b, rfl, hb⟩ := h.row ep
    obtain ⟨r', er', b', rfl, hb'⟩ := h.row ep'
    refine ⟨_, rfl, a, rs, 0, _, rfl, rfl, st_of h.at_, at_nat er, b, _, rfl, st_of hb, rfl, _, _, rfl, _, _, rfl, rfl, ?_⟩
    refine ⟨_, rfl, 1, rfl, a, rs, -1, _, rfl, rfl, st_of h.at_, last_at (by rw [List.getLast?_eq_getElem?, len]; exact er'), b', _, rfl, st_of hb', rfl, _, _, rfl, _, _, rfl, rfl, ?_⟩
    refine ⟨_, rfl, _, rfl, _, _, rfl, rfl, _, rfl, _, rfl, _, _, rfl, rfl, _, _, rfl, rfl, ⟨by omega, by omega⟩, ?_⟩
    refine ⟨_, rfl, _, _, rfl, rfl, _, rfl, by show 2 ≤ sizeLine; decide, fun t nt => ⟨t, rfl, ⟨_, st_of upd_same⟩, fun D1 hD1 => ?_⟩⟩
    have et : Ex H (upd H t (.tup ([mostD p p' - 1, mostD p p'].map V.int))) := Ex.new nt
    refine lc_tup (xs := [mostD p p' - 1, mostD p p'].map V.int) (Cw (upd H t (.tup ([mostD p p' - 1, mostD p p'].map V.int))) (fun i => (fun n : Int => decide (1 ≤ n) && decide (n ≤ 400)) ([mostD p p' - 1, mostD p p'][i]?.getD 0)) (fun i => .int ([mostD p p' - 1, mostD p p'][i]?.getD 0)) D1) ⟨hD1, Ex.new hD1, upd_same⟩ (fun _ H' _ c => st_of (c.2.1 _ _ upd_same)) (fun i x H' hi c => ?_) (fun H3 c => ?_)
    · rw [List.getElem?_map] at hi
      cases en : [mostD p p' - 1, mostD p p'][i]? with
      | none => rw [en] at hi; cases hi
      | some n =>
        rw [en] at hi
        cases hi
        have i2 : i < 2 := (List.getElem?_eq_some_iff.mp en).1
        refine ⟨rfl, cw_turn c (by omega) (fun Ha ea Qa qa => ?_) fun _ Ha ea Qa qa => ⟨_, rfl, ?_⟩⟩
        · refine ⟨_, rfl, _, _, rfl, rfl, _, rfl, ?_⟩
          rw [en] at qa
          have qa := qa Ha (Ex.refl Ha)
          by_cases l1 : 1 ≤ n
          · rw [if_pos (decide_eq_true l1)]
            refine ⟨_, _, rfl, rfl, _, rfl, ?_⟩
            have z : Qa (decide (1 ≤ n) && decide (n ≤ 400)) Ha := qa
            rw [decide_eq_true l1, Bool.true_and] at z
            exact z
          · rw [if_neg (by rw [decide_eq_false l1]; decide)]
            have z : Qa (decide (1 ≤ n) && decide (n ≤ 400)) Ha := qa
            rw [decide_eq_false l1, Bool.false_and] at z
            exact ⟨_, rfl, z⟩
        · rw [en] at qa
          exact qa Ha (Ex.refl Ha)
    · obtain ⟨_, e3, h3⟩ := c
      rw [List.length_map, given_pick [mostD p p' - 1, mostD p p'] fun n : Int => decide (1 ≤ n) && decide (n ≤ 400)] at h3
      exact q D1 H3 (fresh_back et hD1) (et.trans e3) h3
def spShifts : Sp := fun vs H Q _ => ∃ a rs ps, ∃ D T B : Int, vs = [.ref a, .int D, .int T, .int B] ∧ Seen H a rs ps ∧ (1 ≤ D ∧ D ≤ 400) ∧ (0 ≤ T ∧ T < B) ∧ (1 ≤ B ∧ B ≤ 60) ∧ ∀ l H', H l = none → Ex H H' → H' l = some (.lst (rgV (lowS ps D T B) (endS ps D T B))) → Q (.ref l) H'
theorem ok_possible_shifts (T : Txt K mg) : FnOk P w K mg base CX0 2 T.possible_shifts.f T.possible_shifts.fd ["seen", "days", "top", "bottom"] spShifts := by
  have G_step_of : FnOk P w K mg base CX0 1 T.step_of.f T.step_of.fd ["land"] spStep := ok_step_of T
  refine T.possible_shifts.F.ok sc_possible_shifts (fun vs H Q E h => ?_) (fun cdv A outer s H vs Q E hr h => ?_)
  · obtain ⟨_, _, _, _, _, _, rfl, _⟩ := h
    rfl
  · obtain ⟨a, rs, ps, D, T1, B, rfl, h, r1, r2, r3, q⟩ := h
    refine ⟨_, (pss_cons (ps_set (i := 4) sc_possible_shifts.nd rfl (Or.inr rfl) (pe_call G_step_of (hr.mono (by omega)) (by rfl) T.step_of.g T.step_of.F.kp T.step_of.b .nil pass0 (pa_cons (pe_tup (pa_cons (pv 1) (pa_cons (pv 2) (pa_cons (pv 3) (pa_cons pe_int pa_nil))))) pa_nil)))
      (pss_cons (ps_setLc (i := 5) (own := [("year", 6), ("day", 7)]) (g := gTup K 2 (gCons (gName 6) (gCons (gName 7) gNil))) (by rfl) sc_possible_shifts.nd rfl rfl (sw_true rfl rfl rfl (by decide +kernel)) (pi_tup (pv 0)) (blkOk_by (own := [("year", 6), ("day", 7)]) (N := ["seen", "days", "top", "bottom", "step", "leasts", "year", "day"]) (sc := defScope s_possible_shifts) (by decide +kernel)) (fun _ _ _ _ _ => (pg_tup rfl (pgs_cons (pg_name (i := 6) sc_possible_shifts.nd rfl (Or.inl rfl)) (pgs_cons (pg_name (i := 7) sc_possible_shifts.nd rfl (Or.inl rfl)) pgs_nil)))) (fun _ _ _ _ _ => pts_nil) (fun _ _ _ _ _ => (pe_op op_sub (pe_op op_mul (pv 7) (pv 3)) (pe_op op_mul (pv 4) (pv 6)))))
      (pss_one (ps_ret (pe_listRg rfl (by rfl) T.b_list (prg_2 (by rfl) T.range (pe_callB (cr_max rfl) (by rfl) T.max (by decide +kernel) (pa_cons (pv 5) pa_nil)) (pe_op op_add (pe_callB (cr_min rfl) (by rfl) T.min (by decide +kernel) (pa_cons (pv 5) pa_nil)) (pv 3)))))))), ?_⟩
    have few := h.ok.few
    have len := h.len
    have sb := step_bd r1 r2 r3
    refine ⟨_, rfl, _, rfl, _, rfl, by show 4 ≤ sizeLine; decide, fun t nt => ?_⟩
    have et : Ex H (upd H t (.tup [.int D, .int T1, .int B, .int 0])) := Ex.new nt
    refine ⟨_, D, T1, B, 0, rfl, ⟨t, rfl, upd_same, r1, r2, r3, by decide, by decide⟩, fun H1 e1 => ?_⟩
    have e01 := et.trans e1
    have h1 := h.ex e01
    refine ⟨_, rfl, a, rfl, ⟨_, st_of h1.at_⟩, fun D1 hD1 => ?_⟩
    refine lc_tup (xs := rs) (Cw H1 (fun _ => true) (fun i => .int (leastS D T1 B (ps[i]?.getD (0, 0)))) D1) ⟨hD1, Ex.new hD1, upd_same⟩ (fun _ H' _ c => st_of (c.2.1 _ _ h1.at_)) (fun i x H' hi c => ?_) (fun H2 c => ?_)
    · obtain ⟨p, ep, hp⟩ := h1.each _ _ hi
      have lt := (List.getElem?_eq_some_iff.mp hi).1
      have bp := h.ok.bd p (List.mem_of_getElem? ep)
      obtain ⟨b, rfl, hb⟩ := hp
      refine ⟨b, _, rfl, st_of (c.2.1 _ _ hb), rfl, _, _, rfl, _, _, rfl, rfl, rfl, cw_turn c (by omega) (fun Ha ea Qa qa => qa Ha (Ex.refl Ha)) fun _ Ha ea Qa qa => ?_⟩
      rw [ep] at qa
      exact ⟨_, rfl, _, rfl, _, _, rfl, rfl, cm_l (by omega), _, rfl, _, rfl, _, _, rfl, rfl, cm_l (by omega), _, _, rfl, rfl, qa Ha (Ex.refl Ha)⟩
    obtain ⟨_, e2, h2⟩ := c
    rw [len, given_ints (p := fun _ => true) (g := fun i => leastS D T1 B (ps[i]?.getD (0, 0))), List.filter_eq_self.mpr fun _ _ => rfl, range_map ps (0, 0) (leastS D T1 B)] at h2
    have pos : 0 < (ps.map (leastS D T1 B)).length := by rw [List.length_map]; omega
    have all : ∀ y ∈ ps.map (leastS D T1 B), -400000000 ≤ y ∧ y ≤ 400000000 := fun y hy => by
      obtain ⟨p, hp, rfl⟩ := List.mem_map.mp hy
      exact least_bd r1 r2 r3 (h.ok.bd p hp)
    refine ⟨_, rfl, D1, _, rfl, sq_of h2, pos, fun m hm hle => ⟨_, rfl, D1, _, rfl, sq_of h2, pos, fun m' hm' hle' => ⟨_, rfl, _, _, rfl, rfl, _, _, rfl, rfl, ?_⟩⟩⟩
    have b1 := all m hm
    have b2 := all m' hm'
    rw [show m = lowS ps D T1 B from mx_is hm hle, show m' + B = endS ps D T1 B from congrArg (· + B) (mn_is hm' hle')]
    have c1 : -400000000 ≤ lowS ps D T1 B ∧ lowS ps D T1 B ≤ 400000000 := by unfold lowS; rw [← mx_is hm hle]; exact b1
    have c2 : -400000000 ≤ endS ps D T1 B ∧ endS ps D T1 B ≤ 400000060 := by unfold endS; rw [← mn_is hm' hle']; omega
    refine ⟨⟨by omega, by omega, by omega, by omega, ?_⟩, fun l nl => ?_⟩
    · have le := hle' m hm
      have := mx_is hm hle
      have := mn_is hm' hle'
      unfold lowS endS
      omega
    have e02 := e01.trans e2
    exact q l _ (fresh_back e02 nl) (e02.trans (Ex.new nl)) upd_same
end

/-! ### lands told back -/
inductive TupsAt (H : Hp) : List V → List (List Int) → Prop
  | nil : TupsAt H [] []
  | cons {a ns rs L} : H a = some (.tup (ns.map V.int)) → TupsAt H rs L → TupsAt H (.ref a :: rs) (ns :: L)
section
variable {H H' H0 : Hp} {rs : List V} {L : List (List Int)} {D : Addr}
theorem TupsAt.len (h : TupsAt H rs L) : rs.length = L.length := by
  induction h with
  | nil => rfl
  | cons _ _ ih => simp [ih]
theorem TupsAt.but {zs : List V} (h : TupsAt H rs L) (hD : H D = some (.lst zs)) (k : ExD D H H') : TupsAt H' rs L := by
  induction h with
  | nil => exact .nil
  | cons a _ ih => exact .cons (k _ _ (tup_ne_lst a hD) a) ih
theorem TupsAt.snoc (h : TupsAt H rs L) {a : Addr} {ns : List Int} (x : H a = some (.tup (ns.map V.int))) : TupsAt H (rs ++ [.ref a]) (L ++ [ns]) := by
  induction h with
  | nil => exact .cons x .nil
  | cons a _ ih => exact .cons a ih
/-- in the list at D stand the tuples L; all else is as it was -/
structure Acc (H0 : Hp) (D : Addr) (L : List (List Int)) (H : Hp) : Prop where
  ex : ExD D H0 H
  at_ : ∃ rs, H D = some (.lst rs) ∧ TupsAt H rs L
theorem Acc.more {L : List (List Int)} {zs : List V} (h : H D = some (.lst zs)) (a : Acc H0 D L H) (e : Ex H H') : Acc H0 D L H' := by
  obtain ⟨rs, hr, ht⟩ := a.at_
  exact ⟨a.ex.trans (ExD.of e), rs, e _ _ hr, ht.but hr (ExD.of e)⟩
theorem Acc.mono (a : Acc H0 D L H) (e : Ex H H') : Acc H0 D L H' := let ⟨_, hr, _⟩ := a.at_; Acc.more hr a e
theorem Acc.on {H1 : Hp} (k : ExD D H0 H1) (a : Acc H1 D L H) : Acc H0 D L H := ⟨k.trans a.ex, a.at_⟩
theorem Acc.base (a : Acc H0 D L H) : Acc H D L H := ⟨ExD.refl, a.at_⟩
theorem Acc.push {t : Addr} {ns : List Int} (a : Acc H0 D L H) (nt : H t = none) : ∃ had, upd H t (.tup (ns.map V.int)) D = some (.lst had) ∧ had.length = L.length ∧ Acc H0 D (L ++ [ns]) (upd (upd H t (.tup (ns.map V.int))) D (.lst (had ++ [.ref t]))) := by
  obtain ⟨rs, hr, ht⟩ := a.at_
  have e : Ex H (upd H t (.tup (ns.map V.int))) := Ex.new nt
  have tD : t ≠ D := fun z => by rw [z, hr] at nt; cases nt
  refine ⟨rs, e _ _ hr, ht.len, ?_, rs ++ [.ref t], upd_same, ?_⟩
  · exact (a.ex.trans (ExD.of e)).trans ExD.upd
  · exact TupsAt.snoc ((ht.but hr (ExD.of e)).but (e _ _ hr) ExD.upd) ((upd_ne tD).trans upd_same)
end
/-- a walk whose turn i adds the tuples B i -/
theorem turns_flat {J : It} {n : Nat} {G : Hp → Prop} {Y : Nat → Hp → V → Hp → Prop} (w : Walk J n G Y) {g : TG} {tt : TT} {r : TR} {vs : List Nat} {D : Addr} {σ : L2.St} {H0 H : Hp} {Q : Hp → Prop} (B : Nat → List (List Int)) (pre : List (List Int))
    (small : pre.length + ((List.range n).flatMap B).length < 40000) (h0 : Acc H0 D pre H) (hG : ∀ H', ExD D H0 H' → G H')
    (hs : ∀ i x H1 H2, i < n → (pre ++ (List.range i).flatMap B).length + (B i).length < 40000 → Acc H0 D (pre ++ (List.range i).flatMap B) H1 → Y i H1 x H2 → rTurn g tt r vs D σ x H2 (Acc H0 D (pre ++ (List.range i).flatMap B ++ B i)))
    (hd : ∀ H', Acc H0 D (pre ++ (List.range n).flatMap B) H' → Q H') : rTurns J g tt r vs D σ H Q := by
  refine walk_in w (body := fun x H' N => rTurn g tt r vs D σ x H' N) (fun i H' => Acc H0 D (pre ++ (List.range i).flatMap B) H') (by simpa using h0) (fun i H' _ a => hG H' a.ex) (fun i x H1 H2 hi a y => ?_) hd
  have step : pre ++ (List.range (i + 1)).flatMap B = pre ++ (List.range i).flatMap B ++ B i := by
    rw [List.range_succ, List.flatMap_append, List.append_assoc]
    simp
  rw [step]
  refine hs i x H1 H2 hi ?_ a y
  have le : ((List.range (i + 1)).flatMap B).length ≤ ((List.range n).flatMap B).length := by
    obtain ⟨k, rfl⟩ : ∃ k, n = i + 1 + k := ⟨n - (i + 1), by omega⟩
    rw [show List.range (i + 1 + k) = _ from List.range_add, List.flatMap_append, List.length_append]
    omega
  rw [← List.length_append, ← step, List.length_append]
  omega
def landsS (ps : List (Int × Int)) (D T B : Int) : List (List Int) := (List.range (endS ps D T B - lowS ps D T B).toNat).flatMap fun k : Nat => [[D, T, B, lowS ps D T B + (k : Int)]]
def landsT (ps : List (Int × Int)) (D : Int) (b t : Nat) : List (List Int) := if Nat.gcd t b = 1 then landsS ps D t b else []
def landsB (ps : List (Int × Int)) (D : Int) (b : Nat) : List (List Int) := (List.range (1 + b)).flatMap (landsT ps D (1 + b))
def landsD (ps : List (Int × Int)) (m : Nat) (D : Int) : List (List Int) := (List.range m).flatMap (landsB ps D)
def landsAll (ps : List (Int × Int)) (p q : Int × Int) (m : Nat) : List (List Int) := (List.range (possD p q).length).flatMap fun i => landsD ps m ((possD p q)[i]?.getD 0)
section
variable {P : Program} {w : World} {K : PySem.W.Frag} {mg : Str → Option Value} {base : Heap}
def spLandsOf : Sp := fun vs H Q _ => ∃ a rs ps p q, ∃ m : Nat, vs = [.ref a, .int m] ∧ Seen H a rs ps ∧ ps[0]? = some p ∧ ps[ps.length - 1]? = some q ∧ (1 ≤ m ∧ m ≤ 12) ∧ (landsAll ps p q m).length < 2 ∧
  ∀ l rs' H', H l = none → Ex H H' → H' l = some (.lst rs') → TupsAt H' rs' (landsAll ps p q m) → Q (.ref l) H'
theorem ok_lands_of (T : Txt K mg) : FnOk P w K mg base CX0 6 T.lands_of.f T.lands_of.fd ["seen", "most"] spLandsOf := by
  have G_need_seen : FnOk P w K mg base CX0 5 T.need_seen.f T.need_seen.fd ["thing"] spNeedSeen := ok_need_seen T
  have G_need_most : FnOk P w K mg base CX0 3 T.need_most.f T.need_most.fd ["thing"] spMost := ok_need_most T
  have G_possible_days : FnOk P w K mg base CX0 1 T.possible_days.f T.possible_days.fd ["seen"] spPossD := ok_possible_days T
  have G_possible_shifts : FnOk P w K mg base CX0 2 T.possible_shifts.f T.possible_shifts.fd ["seen", "days", "top", "bottom"] spShifts := ok_possible_shifts T
  have G_common_measure : FnOk P w K mg base CX0 1 T.common_measure.f T.common_measure.fd ["one", "other"] spGcd := ok_common_measure T
  refine T.lands_of.F.ok sc_lands_of (fun vs H Q E h => ?_) (fun cdv A outer s H vs Q E hr h => ?_)
  · obtain ⟨_, _, _, _, _, _, rfl, _⟩ := h
    rfl
  · obtain ⟨a, rs, ps, p, p', m, rfl, h, ep, ep', hm, short, q⟩ := h
    refine ⟨_, (pss_cons (ps_expr (pe_call G_need_seen (hr.mono (by omega)) (by rfl) T.need_seen.g T.need_seen.F.kp T.need_seen.b .nil pass0 (pa_cons (pv 0) pa_nil)))
      (pss_cons (ps_expr (pe_call G_need_most (hr.mono (by omega)) (by rfl) T.need_most.g T.need_most.F.kp T.need_most.b .nil pass0 (pa_cons (pv 1) pa_nil)))
      (pss_one (ps_ret (pe_callB cr_sort1 (by rfl) T.sorted (by decide +kernel) (pa_cons (pe_deep (own := [("days", 2), ("bottom", 3), ("top", 4), ("shift", 5)]) (g := gName 2) sc_lands_of.nd (brings_calm rfl (pi_list (pe_call G_possible_days (hr.mono (by omega)) (by rfl) T.possible_days.g T.possible_days.F.kp T.possible_days.b .nil pass0 (pa_cons (pv 0) pa_nil)))) (blkOk_by (own := [("days", 2), ("bottom", 3), ("top", 4), ("shift", 5)]) (N := ["seen", "most", "days", "bottom", "top", "shift"]) (sc := defScope s_lands_of) (by decide +kernel)) (fun _ _ _ _ _ => (pg_name (i := 2) sc_lands_of.nd rfl (Or.inl rfl))) (fun _ _ _ _ _ => pts_nil) (fun _ _ _ _ _ => (rest_for (vs := [3, 4, 5]) (g := gName 3) rfl rfl (fun _ e => by obtain rfl := Option.some.inj e; exact ⟨rfl, fun _ => rfl⟩) (brings_calm rfl (pi_range2 rfl T.range (pa_cons pe_int (pa_cons (pe_op op_add (pv 1) pe_int) pa_nil)))) (pg_name (i := 3) sc_lands_of.nd rfl (Or.inl rfl)) pts_nil (rest_for (vs := [4, 5]) (g := gName 4) rfl rfl (fun _ e => by obtain rfl := Option.some.inj e; exact ⟨rfl, fun _ => rfl⟩) (brings_calm rfl (pi_range1 rfl T.range (pa_cons (pv 3) pa_nil))) (pg_name (i := 4) sc_lands_of.nd rfl (Or.inl rfl)) (pts_one (pt_cmpR op_eq (pe_call G_common_measure (hr.mono (by omega)) (by rfl) T.common_measure.g T.common_measure.F.kp T.common_measure.b .nil pass0 (pa_cons (pv 4) (pa_cons (pv 3) pa_nil))) pe_int (nomark _))) (rest_for (vs := [5]) (g := gName 5) rfl rfl (fun _ e => by cases e) (brings_calm rfl (show PI _ _ _ (iList K _) from (pi_list (pe_call G_possible_shifts (hr.mono (by omega)) (by rfl) T.possible_shifts.g T.possible_shifts.F.kp T.possible_shifts.b .nil pass0 (pa_cons (pv 0) (pa_cons (pv 2) (pa_cons (pv 4) (pa_cons (pv 3) pa_nil)))))))) (pg_name (i := 5) sc_lands_of.nd rfl (Or.inl rfl)) pts_nil (rest_end rfl rfl (pe_tup (pa_cons (pv 2) (pa_cons (pv 4) (pa_cons (pv 3) (pa_cons (pv 5) pa_nil)))))) (by decide)) (by decide)) (by decide))) (by decide) (fun _ e => by obtain rfl := Option.some.inj e; exact ⟨rfl, fun _ _ => rfl⟩)) pa_nil)))))), ?_⟩
    refine ⟨_, rfl, a, rs, ps, rfl, h, fun H1 e1 => ⟨_, rfl, m, rfl, ⟨by omega, by omega⟩, fun H2 e2 => ?_⟩⟩
    have e12 := e1.trans e2
    have h2 := h.ex e12
    refine ⟨_, rfl, a, rs, ps, p, p', rfl, h2, ep, ep', fun l H3 nl e3 hl => ⟨l, rfl, ⟨_, sq_of hl⟩, fun D hD => ?_⟩⟩
    have h3 := h2.ex e3
    have lD : l ≠ D := fun z => by rw [z, hD] at hl; cases hl
    have aD : a ≠ D := fun z => by rw [← z, h3.at_] at hD; cases hD
    have seen : ∀ {H'}, ExD D H3 H' → Seen H' a rs ps := fun {H'} k => ⟨k _ _ aD h3.at_, h3.len, fun i r z => by
      obtain ⟨p, e1, b, e2, e3⟩ := h3.each i r z
      exact ⟨p, e1, b, e2, k _ _ (fun z => by rw [z, hD] at e3; cases e3) e3⟩, h3.ok⟩
    have wl := walk_list (K := K) (a := l) (xs := (possD p p').map V.int)
    rw [List.length_map] at wl
    have small : (landsAll ps p p' m).length < 40000 := by omega
    refine turns_flat (H0 := H3) (σ := [some (.ref a), some (.int m), none, none, none, none]) wl (fun i => landsD ps m ((possD p p')[i]?.getD 0)) [] (by rw [List.length_nil, Nat.zero_add]; exact small) ⟨ExD.upd, [], upd_same, .nil⟩ (fun H' k => sq_of (k _ _ lD hl)) ?_ ?_
    · rintro i x Ha Hb hi sm acc ⟨rfl, ex⟩
      rw [List.getElem?_map] at ex
      cases en : (possD p p')[i]? with
      | none => rw [en] at ex; cases ex
      | some d =>
        rw [en] at ex
        cases ex
        have hd : 1 ≤ d ∧ d ≤ 400 := by
          have := List.mem_of_getElem? en
          unfold possD at this
          have := (List.mem_filter.mp this).2
          simpa using this
        rw [en] at sm
        show rTurn _ _ _ _ _ _ _ _ (Acc H3 D ([] ++ (List.range i).flatMap _ ++ landsD ps m d))
        generalize ([] ++ (List.range i).flatMap fun i => landsD ps m ((possD p p')[i]?.getD 0)) = pre1 at acc sm ⊢
        replace sm : pre1.length + (landsD ps m d).length < 40000 := sm
        refine ⟨rfl, _, rfl, _, _, rfl, rfl, 1, (m : Int) + 1, rfl, ⟨by omega, by omega, by omega, by omega⟩, ?_⟩
        show rTurns (Itr 1 ((m : Int) + 1 - 1).toNat) _ _ _ _ _ _ _ _
        rw [show ((m : Int) + 1 - 1).toNat = m by omega]
        refine turns_flat (H0 := H3) (σ := [some (.ref a), some (.int m), some (.int d), none, none, none]) (walk_range (lo := 1) (n := m)) (landsB ps d) pre1 sm acc (fun _ _ => True.intro) ?_ fun H' z => z
        rintro b x Hc Hd hb sm2 acc2 ⟨rfl, rfl⟩
        show rTurn _ _ _ _ _ _ (V.int (1 + (b : Int))) _ _
        rw [show (1 : Int) + (b : Int) = ((1 + b : Nat) : Int) by omega]
        generalize pre1 ++ (List.range b).flatMap (landsB ps d) = pre2 at acc2 sm2 ⊢
        refine ⟨rfl, _, rfl, ((1 + b : Nat) : Int), rfl, by omega, by omega, ?_⟩
        show rTurns (Itr 0 ((1 + b : Nat) : Int).toNat) _ _ _ _ _ _ _ _
        rw [Int.toNat_natCast]
        refine turns_flat (H0 := H3) (σ := [some (.ref a), some (.int m), some (.int d), some (.int ((1 + b : Nat) : Int)), none, none]) (walk_range (lo := 0) (n := 1 + b)) (landsT ps d (1 + b)) pre2 sm2 acc2 (fun _ _ => True.intro) ?_ fun H' z => z
        rintro t x He Hf ht sm3 acc3 ⟨rfl, rfl⟩
        show rTurn _ _ _ _ _ _ (V.int (0 + (t : Int))) _ _
        rw [show (0 : Int) + (t : Int) = (t : Int) by omega]
        generalize pre2 ++ (List.range t).flatMap (landsT ps d (1 + b)) = pre3 at acc3 sm3 ⊢
        refine ⟨rfl, _, rfl, _, rfl, t, 1 + b, rfl, fun H5 e5 => ⟨rfl, _, rfl, ?_⟩⟩
        have acc5 := acc3.mono e5
        unfold landsT at sm3 ⊢
        by_cases g : Nat.gcd t (1 + b) = 1
        · rw [if_pos g] at sm3 ⊢
          rw [show decide (V.int ((Nat.gcd t (1 + b) : Nat) : Int) = V.int 1) = true from decide_eq_true (by rw [g]; rfl)]
          refine ⟨_, rfl, _, rfl, _, rfl, _, rfl, a, rs, ps, d, t, ((1 + b : Nat) : Int), rfl, seen acc5.ex, hd, ⟨by omega, by omega⟩, ⟨by omega, by omega⟩, fun l4 H6 n4 e6 h6 => ⟨l4, rfl, ⟨_, sq_of h6⟩, ?_⟩⟩
          have wl4 := walk_list (K := K) (a := l4) (xs := rgV (lowS ps d t (1 + b : Nat)) (endS ps d t (1 + b : Nat)))
          rw [rgV_length] at wl4
          have acc6 := acc5.mono e6
          have l4D : l4 ≠ D := fun z => by
            obtain ⟨_, z1, _⟩ := acc5.at_
            rw [z, z1] at n4
            cases n4
          refine turns_flat (H0 := H6) (σ := [some (.ref a), some (.int m), some (.int d), some (.int ((1 + b : Nat) : Int)), some (.int (t : Int)), none]) wl4 (fun k : Nat => [[d, (t : Int), ((1 + b : Nat) : Int), lowS ps d t (1 + b : Nat) + (k : Int)]]) pre3 sm3 acc6.base (fun H' k => sq_of (k _ _ l4D h6)) ?_ fun H' z => z.on acc6.ex
          rintro k x Hg Hh hk sm4 acc7 ⟨rfl, ex⟩
          generalize (pre3 ++ (List.range k).flatMap fun k : Nat => [[d, (t : Int), ((1 + b : Nat) : Int), lowS ps d t (1 + b : Nat) + (k : Int)]]) = pre4 at acc7 sm4 ⊢
          unfold rgV at ex
          rw [List.getElem?_map, List.getElem?_range hk] at ex
          cases ex
          refine ⟨rfl, _, rfl, _, rfl, _, rfl, _, rfl, by show 4 ≤ sizeLine; decide, fun tp nt => ?_⟩
          obtain ⟨had, a1, a2, a3⟩ := acc7.push nt (ns := [d, (t : Int), ((1 + b : Nat) : Int), lowS ps d t (1 + b : Nat) + (k : Int)])
          exact ⟨had, a1, by rw [a2]; exact Nat.lt_of_lt_of_le (show pre4.length < 40000 by omega) (by decide), a3⟩
        · rw [if_neg g] at sm3 ⊢
          rw [decide_eq_false (fun z => g (by have := V.int.inj z; omega) : ¬ V.int ((Nat.gcd t (1 + b) : Nat) : Int) = V.int 1)]
          rw [List.append_nil]
          exact acc5
    · intro H4 acc
      have acc : Acc H3 D (landsAll ps p p' m) H4 := acc
      obtain ⟨rs', hr', ht'⟩ := acc.at_
      have e34 : Ex H3 H4 := fun b o e => acc.ex b o (fun z => by rw [z, hD] at e; cases e) e
      have e04 := (e12.trans e3).trans e34
      refine ⟨D, rs', rfl, sq_of hr', by rw [ht'.len]; exact short, fun l5 n5 => ?_⟩
      refine q l5 rs' _ (fresh_back e04 n5) (e04.trans (Ex.new n5)) upd_same (ht'.but hr' (ExD.of (Ex.new n5)))
end

/-! ### told values -/
theorem told_is {f : Int → Bool} {c : Nat} {ns ms : List Int} (per : ∀ y, f (y + c) = f y) (hc : 1 ≤ c) (h : Told f ns) (up : ms.Pairwise (· < ·)) (e : ∀ k, k ∈ ways (yrs f 0 c) c ↔ k ∈ ms) : ns = ms :=
  up_same h.1 up fun k => (h.2 k).trans ((ways_mem per hc 0).symm.trans (e k))
theorem sun_longs : (List.range 5).map (fun i : Nat => decide (add 1 4 0 (0 + (i : Int) + 1) > add 1 4 0 (0 + (i : Int)))) = [false, false, false, true, false] := by decide
theorem moon_30 : fst 354 11 30 0 30 = 10631 := by decide
theorem sun_cyc : cyc 365 1 4 7 = 28 := by decide +kernel
theorem even_cyc : cyc 364 0 1 7 = 1 := by decide +kernel
theorem sun_told {ns : List Int} (h : Told (hits 365 1 4 0 0 7 0) ns) : ns = [5, 6, 11] := by
  have per : ∀ y, hits 365 1 4 0 0 7 0 (y + (28 : Nat)) = hits 365 1 4 0 0 7 0 y := fun y => by
    have := hits_cyc (D := 365) (T := 1) (B := 4) (S := 0) (pl := 0) (wk := 7) (nm := 0) (y := y) (by decide) (by decide) (by decide) (by decide)
    rw [sun_cyc] at this
    exact this
  refine told_is per (by decide) h (by decide) fun k => ?_
  rw [show ways (yrs (hits 365 1 4 0 0 7 0) 0 28) (28 : Nat) = [6, 11, 6, 5] by decide +kernel]
  simp only [List.mem_cons, List.not_mem_nil, or_false]
  omega
theorem even_hits {nm y : Int} : hits 364 0 1 3 0 7 nm y = decide (3 = nm) := by
  unfold hits fst
  rw [show (((364 : Int) * 1 + 0) * y + 3) / 1 + 0 = 3 + 7 * (52 * y) by omega, Int.add_mul_emod_self_left]
  rfl
theorem even_told {ns : List Int} (h : Told (hits 364 0 1 3 0 7 3) ns) : ns = [1] := by
  refine told_is (c := 1) (fun y => by rw [even_hits, even_hits]) (by decide) h (by decide) fun k => ?_
  rw [show ways (yrs (hits 364 0 1 3 0 7 3) 0 1) (1 : Nat) = [1] by decide +kernel]
theorem even_none {ns : List Int} (h : Told (hits 364 0 1 3 0 7 4) ns) : ns = [] :=
  (told_none (c := 1) (fun y => by rw [even_hits, even_hits]) (by decide) h).mpr fun y => by rw [even_hits]; rfl
theorem both_first : hd (yrs (meet 365 1 4 0 0 354 11 30 0 0) 0 (rnd 365 1 4 354 11 30)) = .int 0 :=
  hd_first (k := 0) (by decide +kernel) (by decide +kernel) fun j hj => absurd hj (Nat.not_lt_zero j)
theorem both_later : ∃ i, hd (yrs (meet 365 1 4 0 0 354 11 30 0 0) 1 (rnd 365 1 4 354 11 30)) = .int i := by
  cases e : yrs (meet 365 1 4 0 0 354 11 30 0 0) 1 (rnd 365 1 4 354 11 30) with
  | cons y r => exact ⟨y, rfl⟩
  | nil =>
    have r : rnd 365 1 4 354 11 30 = 15531891 := by decide +kernel
    have : (15531891 : Int) ∈ yrs (meet 365 1 4 0 0 354 11 30 0 0) 1 (rnd 365 1 4 354 11 30) := yrs_mem.mpr ⟨by decide, by rw [r]; decide, by decide +kernel⟩
    rw [e] at this
    cases this
theorem sun_meets : cnt (meet 365 1 4 0 0 365 1 4 0 0) 0 ((1461 : Int) - 0).toNat = 4 := by decide +kernel
theorem sun_parts : parted 365 1 4 0 365 0 1 0 = .int 4 := by decide +kernel
theorem seven_21 : hd (yrs (meet 7 0 1 0 0 14 0 1 0 7) 8 (rnd 7 0 1 14 0 1)) = .int 21 := by decide +kernel
theorem sun_many : cnt (hits 365 1 4 0 0 7 0) 0 ((28 : Int) - 0).toNat = 4 := by decide +kernel
theorem seven_ld {p : Int} (h : 0 ≤ p ∧ p < 7) : Ld 7 0 1 0 p := ⟨by decide, by decide, by decide, by decide, h⟩
theorem twice_ld {p : Int} (h : 0 ≤ p ∧ p < 14) : Ld 14 0 1 0 p := ⟨by decide, by decide, by decide, by decide, h⟩
theorem seven_none (d : Int) : meet 7 0 1 0 0 14 0 1 0 3 d = false := part_none (m := 7) (seven_ld (by decide)) (twice_ld (by decide)) (by decide +kernel) d

section
variable {P : Program} {w : World} {K : PySem.W.Frag} {mg : Str → Option Value} {base : Heap}
theorem dps_bls {H : Hp} : ∀ bs : List Bool, DpAll K H (bs.map V.bl) (bs.map PyData.bool)
  | [] => .nil
  | b :: bs => .cons (.bl b) (dps_bls bs)
theorem ne_same {H : Hp} {Q : VK} {x y : V} (d : PyData) (hx : Dp K H x d) (hy : Dp K H y d) (sh : SeqAt.shaped d = true) (ev : PyData.eqv d d = true) (q : Q (.bl false) H) : rNeD K x y H Q := ⟨d, d, hx, hy, sh, sh, by rw [ev]; exact q⟩
def spSuns : Sp := fun vs H Q _ => ∃ s m, vs = [s, m] ∧ Land H s 365 1 4 0 ∧ Land H m 354 11 30 0 ∧ RetV (.bl true) H Q
theorem ok__law_suns_right (T : Txt K mg) : FnOk P w K mg base CX0 7 T._law_suns_right.f T._law_suns_right.fd ["sun", "moon"] spSuns := by
  have G_is_long : FnOk P w K mg base CX0 5 T.is_long.f T.is_long.fd ["land", "year"] spIsLong := ok_is_long T
  have G_begin : FnOk P w K mg base CX0 5 T.begin.f T.begin.fd ["land", "year"] spBegin := ok_begin T
  have G_lengths : FnOk P w K mg base CX0 6 T.lengths.f T.lengths.fd ["land", "place", "week", "name"] spLen := ok_lengths T
  have G_how_many : FnOk P w K mg base CX0 6 T.how_many.f T.how_many.fd ["land", "place", "week", "name", "first", "last"] spMany := ok_how_many T
  have G_next_year : FnOk P w K mg base CX0 6 T.next_year.f T.next_year.fd ["land", "place", "week", "name", "year"] spNextY := ok_next_year T
  have G_barring : FnOk P w K mg base CX0 6 T.barring.f T.barring.fd ["land", "place", "week", "name"] spBarring := ok_barring T
  have G_bars : FnOk P w K mg base CX0 6 T.bars.f T.bars.fd ["land", "place", "week", "name", "thing"] spBarsV := ok_bars T
  have G_next_day : FnOk P w K mg base CX0 6 T.next_day.f T.next_day.fd ["one", "place_one", "other", "place_other", "day"] spNextD := ok_next_day T
  have G_days : FnOk P w K mg base CX0 6 T.days.f T.days.fd ["one", "place_one", "other", "place_other", "first", "last"] spDaysC := ok_days T
  have G_parting : FnOk P w K mg base CX0 6 T.parting.f T.parting.fd ["one", "place_one", "other", "place_other"] spParting := ok_parting T
  have G_first_parting : FnOk P w K mg base CX0 5 T.first_parting.f T.first_parting.fd ["one", "other"] spParted := ok_first_parting T
  refine T._law_suns_right.F.ok sc__law_suns_right (fun vs H Q E h => ?_) (fun cdv A outer s H vs Q E hr h => ?_)
  · obtain ⟨_, _, rfl, _⟩ := h
    rfl
  · obtain ⟨sv, mv, rfl, hS, hM, q⟩ := h
    refine ⟨_, (pss_cons (ps_if (pt_cmpR (op_neD hr.units) (pe_lc (own := [("year", 5)]) (g := gName 5) (by rfl) sc__law_suns_right.nd (pi_range1 rfl T.range (pa_cons pe_int pa_nil)) (blkOk_by (own := [("year", 5)]) (N := ["sun", "moon", "even", "seven", "twice", "year"]) (sc := defScope s__law_suns_right) (by decide +kernel)) (fun _ _ _ _ _ => (pg_name (i := 5) sc__law_suns_right.nd rfl (Or.inl rfl))) (fun _ _ _ _ _ => pts_nil) (fun _ _ _ _ _ => (pe_call G_is_long (hr.mono (by omega)) (by rfl) T.is_long.g T.is_long.F.kp T.is_long.b .nil pass0 (pa_cons (pv 0) (pa_cons (pv 5) pa_nil))))) (pe_lst (pa_cons pe_bl (pa_cons pe_bl (pa_cons pe_bl (pa_cons pe_bl (pa_cons pe_bl pa_nil)))))) (nomark _))
        (pss_one (ps_ret pe_bl))
        pss_nil)
      (pss_cons (ps_if (PW.pt (pw_or (pt_cmpR op_ne (pe_call G_begin (hr.mono (by omega)) (by rfl) T.begin.g T.begin.F.kp T.begin.b .nil pass0 (pa_cons (pv 1) (pa_cons pe_int pa_nil))) pe_int (nomark _)) (pw_or1 (pt_cmpR (op_neD hr.units) (pe_call G_lengths (hr.mono (by omega)) (by rfl) T.lengths.g T.lengths.F.kp T.lengths.b .nil pass0 (pa_cons (pv 0) (pa_cons pe_int (pa_cons pe_int (pa_cons pe_int pa_nil))))) (pe_tup (pa_cons pe_int (pa_cons pe_int (pa_cons pe_int pa_nil)))) (nomark _)))))
        (pss_one (ps_ret pe_bl))
        pss_nil)
      (pss_cons (ps_if (PW.pt (pw_or (pt_cmpR op_ne (pe_call G_how_many (hr.mono (by omega)) (by rfl) T.how_many.g T.how_many.F.kp T.how_many.b .nil pass0 (pa_cons (pv 0) (pa_cons pe_int (pa_cons pe_int (pa_cons pe_int (pa_cons pe_int (pa_cons pe_int pa_nil))))))) pe_int (nomark _)) (pw_or1 (pt_cmpR op_ne (pe_call G_next_year (hr.mono (by omega)) (by rfl) T.next_year.g T.next_year.F.kp T.next_year.b .nil pass0 (pa_cons (pv 0) (pa_cons pe_int (pa_cons pe_int (pa_cons pe_int (pa_cons pe_int pa_nil)))))) pe_int (nomark _)))))
        (pss_one (ps_ret pe_bl))
        pss_nil)
      (pss_cons (ps_set (i := 2) sc__law_suns_right.nd rfl (Or.inl rfl) (pe_tup (pa_cons pe_int (pa_cons pe_int (pa_cons pe_int (pa_cons pe_int pa_nil))))))
      (pss_cons (ps_if (PW.pt (pw_or (pt_cmpR (op_neD hr.units) (pe_call G_lengths (hr.mono (by omega)) (by rfl) T.lengths.g T.lengths.F.kp T.lengths.b .nil pass0 (pa_cons (pv 2) (pa_cons pe_int (pa_cons pe_int (pa_cons pe_int pa_nil))))) (pe_tup (pa_cons pe_int pa_nil)) (nomark _)) (pw_or1 (pt_cmpR (op_neD hr.units) (pe_call G_lengths (hr.mono (by omega)) (by rfl) T.lengths.g T.lengths.F.kp T.lengths.b .nil pass0 (pa_cons (pv 2) (pa_cons pe_int (pa_cons pe_int (pa_cons pe_int pa_nil))))) (pe_tup pa_nil) (nomark _)))))
        (pss_one (ps_ret pe_bl))
        pss_nil)
      (pss_cons (ps_if (PW.pt (pw_or (pt_cmpR op_ne (pe_call G_barring (hr.mono (by omega)) (by rfl) T.barring.g T.barring.F.kp T.barring.b .nil pass0 (pa_cons (pv 2) (pa_cons pe_int (pa_cons pe_int (pa_cons pe_int pa_nil))))) pe_int (nomark _)) (pw_or1 (pt_cmpR op_isntT (pe_call G_bars (hr.mono (by omega)) (by rfl) T.bars.g T.bars.F.kp T.bars.b .nil pass0 (pa_cons (pv 2) (pa_cons pe_int (pa_cons pe_int (pa_cons pe_int (pa_cons pe_int pa_nil)))))) pe_bl (nomark _)))))
        (pss_one (ps_ret pe_bl))
        pss_nil)
      (pss_cons (ps_if (PW.pt (pw_or (pt_cmpR op_isN (pe_call G_next_day (hr.mono (by omega)) (by rfl) T.next_day.g T.next_day.F.kp T.next_day.b .nil pass0 (pa_cons (pv 0) (pa_cons pe_int (pa_cons (pv 1) (pa_cons pe_int (pa_cons pe_int pa_nil)))))) pe_non (nomark _)) (pw_or1 (pt_cmpR op_ne (pe_call G_next_day (hr.mono (by omega)) (by rfl) T.next_day.g T.next_day.F.kp T.next_day.b .nil pass0 (pa_cons (pv 0) (pa_cons pe_int (pa_cons (pv 1) (pa_cons pe_int (pa_cons pe_int pa_nil)))))) pe_int (nomark _)))))
        (pss_one (ps_ret pe_bl))
        pss_nil)
      (pss_cons (ps_if (PW.pt (pw_or (pt_cmpR op_ne (pe_call G_days (hr.mono (by omega)) (by rfl) T.days.g T.days.F.kp T.days.b .nil pass0 (pa_cons (pv 0) (pa_cons pe_int (pa_cons (pv 0) (pa_cons pe_int (pa_cons pe_int (pa_cons pe_int pa_nil))))))) pe_int (nomark _)) (pw_or1 (pt_cmpR op_ne (pe_call G_first_parting (hr.mono (by omega)) (by rfl) T.first_parting.g T.first_parting.F.kp T.first_parting.b .nil pass0 (pa_cons (pv 0) (pa_cons (pe_tup (pa_cons pe_int (pa_cons pe_int (pa_cons pe_int (pa_cons pe_int pa_nil))))) pa_nil))) pe_int (nomark _)))))
        (pss_one (ps_ret pe_bl))
        pss_nil)
      (pss_cons (ps_asg (pe_tup (pa_cons (pe_tup (pa_cons pe_int (pa_cons pe_int (pa_cons pe_int (pa_cons pe_int pa_nil))))) (pa_cons (pe_tup (pa_cons pe_int (pa_cons pe_int (pa_cons pe_int (pa_cons pe_int pa_nil))))) pa_nil))) (pg_tup rfl (pgs_cons (pg_name (i := 3) sc__law_suns_right.nd rfl (Or.inl rfl)) (pgs_cons (pg_name (i := 4) sc__law_suns_right.nd rfl (Or.inl rfl)) pgs_nil))))
      (pss_cons (ps_if (PW.pt (pw_or (pt_cmpR op_ne (pe_call G_parting (hr.mono (by omega)) (by rfl) T.parting.g T.parting.F.kp T.parting.b .nil pass0 (pa_cons (pv 3) (pa_cons pe_int (pa_cons (pv 4) (pa_cons pe_int pa_nil))))) pe_int (nomark _)) (pw_or1 (pt_cmpR op_notN (pe_call G_parting (hr.mono (by omega)) (by rfl) T.parting.g T.parting.F.kp T.parting.b .nil pass0 (pa_cons (pv 3) (pa_cons pe_int (pa_cons (pv 4) (pa_cons pe_int pa_nil))))) pe_non (nomark _)))))
        (pss_one (ps_ret pe_bl))
        pss_nil)
      (pss_one (ps_ret (pe_cmpR op_eq (pe_call G_next_day (hr.mono (by omega)) (by rfl) T.next_day.g T.next_day.F.kp T.next_day.b .nil pass0 (pa_cons (pv 3) (pa_cons pe_int (pa_cons (pv 4) (pa_cons pe_int (pa_cons pe_int pa_nil)))))) pe_int (nomark _)))))))))))))), ?_⟩
    refine ⟨5, rfl, by omega, by omega, fun D1 hD1 => ?_⟩
    refine lc_range (lo := 0) (n := 5) (Cw H (fun _ => true) (fun i => .bl (decide (add 1 4 0 (0 + (i : Int) + 1) > add 1 4 0 (0 + (i : Int))))) D1) ⟨hD1, Ex.new hD1, upd_same⟩ (fun i H' hi c => ?_) (fun H1 c => ?_)
    · exact ⟨rfl, cw_turn c (by omega) (fun Ha ea Qa qa => qa Ha (Ex.refl Ha)) fun _ Ha ea Qa qa => ⟨_, rfl, _, rfl, sv, 365, 1, 4, 0, _, rfl, hS.ex ea, ⟨by omega, by omega⟩, qa⟩⟩
    obtain ⟨_, e1, h1⟩ := c
    rw [given_bls, sun_longs] at h1
    refine ⟨by show 5 ≤ sizeLine; decide, fun p1 n1 => ?_⟩
    have ep1 : Ex H1 (upd H1 p1 (.lst ([false, false, false, true, false].map V.bl))) := Ex.new n1
    refine ne_same (.list ([false, false, false, true, false].map PyData.bool)) (.lst (sq_of (ep1 _ _ h1)) (dps_bls [false, false, false, true, false])) (.lst (sq_of upd_same) (dps_bls [false, false, false, true, false])) (by decide +kernel) (by decide +kernel) ⟨_, rfl, iteF ?_⟩
    have f1 := e1.trans ep1
    refine ⟨_, rfl, mv, 354, 11, 30, 0, 30, rfl, hM.ex f1, ⟨by omega, by omega⟩, fun H2 e2 => ?_⟩
    rw [moon_30]
    refine ⟨rfl, _, rfl, iteF ?_⟩
    have f2 := f1.trans e2
    have aS : ∀ {H'}, Ex H H' → ∀ {nm : Int}, (0 ≤ nm ∧ nm < 7) → Asked H' sv 365 1 4 0 0 7 nm := fun e _ h => ⟨hS.ex e, by decide, by decide, h⟩
    refine ⟨_, rfl, sv, 365, 1, 4, 0, 0, 7, 0, rfl, aS f2 (by decide), fun p3 H3 ns told n3 e3 h3 => ?_⟩
    obtain rfl := sun_told told
    refine ⟨by show 3 ≤ sizeLine; decide, fun p4 n4 => ?_⟩
    refine ne_same (.tuple ([5, 6, 11].map PyData.int)) (.tup (st_of (Ex.new n4 _ _ h3)) (dps_ints [5, 6, 11])) (.tup (st_of upd_same) (dps_ints [5, 6, 11])) (by decide +kernel) (by decide +kernel) ⟨_, rfl, iteF ?_⟩
    have f4 := f2.trans (e3.trans (Ex.new n4 (o := .tup [.int 5, .int 6, .int 11])))
    refine ⟨_, rfl, sv, 365, 1, 4, 0, 0, 7, 0, 0, 28, rfl, aS f4 (by decide), ⟨by omega, by omega⟩, ⟨by omega, by omega⟩, by omega, fun H5 e5 => ?_⟩
    have f5 := f4.trans e5
    rw [sun_many]
    refine ⟨rfl, _, rfl, iteF ?_⟩
    refine ⟨_, rfl, sv, 365, 1, 4, 0, 0, 7, 1, 0, rfl, aS f5 (by decide), ⟨by omega, by omega⟩, fun k hk yes before => ?_, fun no => ?_⟩
    · obtain rfl : k = 1 := by
        by_cases z : k = 0
        · subst z; exact absurd yes (by decide +kernel)
        · by_cases z : k = 1
          · exact z
          · exact absurd (before 1 (by omega)) (by decide +kernel)
      intro H6 e6
      refine ⟨rfl, _, rfl, iteF ?_⟩
      have f6 := f5.trans e6
      refine ⟨by show 4 ≤ sizeLine; decide, fun ev nev => ?_⟩
      have f7 := f6.trans (Ex.new nev (o := .tup [.int 364, .int 0, .int 1, .int 3]))
      have hE : Land (upd H6 ev (.tup [.int 364, .int 0, .int 1, .int 3])) (.ref ev) 364 0 1 3 := ⟨ev, rfl, upd_same, by decide, by decide, by decide, by decide⟩
      generalize upd H6 ev (.tup [.int 364, .int 0, .int 1, .int 3]) = H7 at f7 hE ⊢
      have aE : ∀ {H'}, Ex H7 H' → ∀ {nm : Int}, (0 ≤ nm ∧ nm < 7) → Asked H' (.ref ev) 364 0 1 3 0 7 nm := fun e _ h => ⟨hE.ex e, by decide, by decide, h⟩
      refine ⟨_, rfl, _, 364, 0, 1, 3, 0, 7, 3, rfl, aE (Ex.refl _) (by decide), fun p8 H8 ns told n8 e8 h8 => ?_⟩
      obtain rfl := even_told told
      refine ⟨by show 1 ≤ sizeLine; decide, fun p9 n9 => ?_⟩
      refine ne_same (.tuple ([1].map PyData.int)) (.tup (st_of (Ex.new n9 _ _ h8)) (dps_ints [1])) (.tup (st_of upd_same) (dps_ints [1])) (by decide +kernel) (by decide +kernel) ⟨_, rfl, iteF ?_⟩
      have g9 := e8.trans (Ex.new n9 (o := .tup [.int 1]))
      refine ⟨_, rfl, _, 364, 0, 1, 3, 0, 7, 4, rfl, aE g9 (by decide), fun p10 H10 ns told n10 e10 h10 => ?_⟩
      obtain rfl := even_none told
      refine ⟨by show 0 ≤ sizeLine; decide, fun p11 n11 => ?_⟩
      refine ne_same (.tuple ([].map PyData.int)) (.tup (st_of (Ex.new n11 _ _ h10)) (dps_ints [])) (.tup (st_of upd_same) (dps_ints [])) (by decide +kernel) (by decide +kernel) ⟨_, rfl, iteF ?_⟩
      have g11 := g9.trans (e10.trans (Ex.new n11 (o := .tup [])))
      refine ⟨_, rfl, _, 364, 0, 1, 3, 0, 7, 4, rfl, aE g11 (by decide), fun _ H12 e12 => ?_, fun some_ => ?_⟩
      · refine ⟨rfl, _, rfl, iteF ?_⟩
        have g12 := g11.trans e12
        refine ⟨_, rfl, _, 364, 0, 1, 3, 0, 7, 4, .int 7, _, rfl, aE g12 (by decide), .int 7, fun H13 e13 => ?_⟩
        rw [show barV 364 0 1 3 0 7 4 (.int 7) = true by decide +kernel]
        refine ⟨_, _, rfl, rfl, _, rfl, iteF ?_⟩
        have f13 := f7.trans (g12.trans e13)
        clear e1 h1 ep1 f1 e2 f2 e3 h3 f4 e5 f5 e6 f6 f7 hE aE e8 h8 g9 e10 h10 g11 e12 g12 e13
        have ldS : Ld 365 1 4 0 0 := ⟨by decide, by decide, by decide, by decide, by decide⟩
        have ldM : Ld 354 11 30 0 0 := ⟨by decide, by decide, by decide, by decide, by decide⟩
        refine ⟨_, rfl, _, rfl, sv, 365, 1, 4, 0, 0, mv, 354, 11, 30, 0, 0, 1, rfl, ⟨hS.ex f13, hM.ex f13, ldS, ldM⟩, ⟨by omega, by omega⟩, fun H14 e14 => ?_⟩
        obtain ⟨i, hi⟩ := both_later
        rw [hi]
        refine ⟨rfl, _, rfl, iteF ?_⟩
        have f14 := f13.trans e14
        refine ⟨_, rfl, _, rfl, sv, 365, 1, 4, 0, 0, mv, 354, 11, 30, 0, 0, 0, rfl, ⟨hS.ex f14, hM.ex f14, ldS, ldM⟩, ⟨by omega, by omega⟩, fun H15 e15 => ?_⟩
        rw [both_first]
        refine ⟨rfl, _, rfl, iteF ?_⟩
        have f15 := f14.trans e15
        refine ⟨_, rfl, _, rfl, sv, 365, 1, 4, 0, 0, sv, 365, 1, 4, 0, 0, 0, 1461, rfl, ⟨hS.ex f15, hS.ex f15, ldS, ldS⟩, ⟨by omega, by omega⟩, ⟨by omega, by omega⟩, by omega, fun H16 e16 => ?_⟩
        rw [sun_meets]
        refine ⟨rfl, _, rfl, iteF ?_⟩
        have f16 := f15.trans e16
        refine ⟨_, rfl, by show 4 ≤ sizeLine; decide, fun pp npp => ?_⟩
        have f17 := f16.trans (Ex.new npp (o := .tup [.int 365, .int 0, .int 1, .int 0]))
        refine ⟨sv, 365, 1, 4, 0, .ref pp, 365, 0, 1, 0, rfl, hS.ex f17, ⟨pp, rfl, upd_same, by decide, by decide, by decide, by decide⟩, fun H18 e18 => ?_⟩
        rw [sun_parts]
        refine ⟨rfl, _, rfl, iteF ?_⟩
        have f18 := f17.trans e18
        clear f13 e14 f14 e15 f15 e16 f16 f17 e18
        refine ⟨by show 4 ≤ sizeLine; decide, fun s1 ns1 => ⟨by show 4 ≤ sizeLine; decide, fun s2 ns2 => ⟨by show 2 ≤ sizeLine; decide, fun s3 ns3 => ?_⟩⟩⟩
        have x1 := Ex.new ns1 (o := .tup [.int 7, .int 0, .int 1, .int 0])
        have x2 := Ex.new ns2 (o := .tup [.int 14, .int 0, .int 1, .int 0])
        have x3 := Ex.new ns3 (o := .tup [.ref s1, .ref s2])
        have l1 : Land _ (.ref s1) 7 0 1 0 := ⟨s1, rfl, x3 _ _ (x2 _ _ upd_same), by decide, by decide, by decide, by decide⟩
        have l2 : Land _ (.ref s2) 14 0 1 0 := ⟨s2, rfl, x3 _ _ upd_same, by decide, by decide, by decide, by decide⟩
        have f19 := f18.trans (x1.trans (x2.trans x3))
        refine ⟨s3, _, rfl, st_of upd_same, rfl, _, _, rfl, _, _, rfl, rfl, ?_⟩
        refine ⟨_, rfl, _, rfl, _, 7, 0, 1, 0, 0, _, 14, 0, 1, 0, 3, rfl, ⟨l1, l2, seven_ld (by decide), twice_ld (by decide)⟩, fun _ H20 e20 => ?_, fun ⟨d, hd⟩ => ?_⟩
        · rw [show Nat.gcd (stp 7 0 1) (stp 14 0 1) = 7 by decide +kernel]
          refine ⟨rfl, _, rfl, iteF ?_⟩
          refine ⟨_, rfl, _, rfl, _, 7, 0, 1, 0, 0, _, 14, 0, 1, 0, 7, rfl, ⟨l1.ex e20, l2.ex e20, seven_ld (by decide), twice_ld (by decide)⟩, fun no => ?_, fun _ H21 e21 => ?_⟩
          · exact absurd (no 7) (by decide +kernel)
          · refine ⟨rfl, _, rfl, iteF ?_⟩
            have e2021 := e20.trans e21
            refine ⟨_, rfl, _, rfl, _, 7, 0, 1, 0, 0, _, 14, 0, 1, 0, 7, 8, rfl, ⟨l1.ex e2021, l2.ex e2021, seven_ld (by decide), twice_ld (by decide)⟩, ⟨by omega, by omega⟩, fun H22 e22 => ?_⟩
            rw [seven_21]
            exact ⟨rfl, q H22 (f19.trans (e2021.trans e22))⟩
        · rw [seven_none] at hd
          cases hd
      · obtain ⟨y, hy⟩ := some_
        rw [even_hits] at hy
        exact absurd hy (by decide)
    · exact absurd (no 1 (by rw [sun_cyc]; decide)) (by decide +kernel)
end

section
variable {P : Program} {w : World} {K : PySem.W.Frag} {mg : Str → Option Value} {base : Heap}
theorem plain_fst {d y : Int} : fst d 0 1 5 y = d * y + 5 := by
  unfold fst
  rw [Int.ediv_one, Int.mul_one, Int.add_zero]
theorem plain_yr {d : Int} (h : 1 ≤ d) : yr d 0 1 5 4 = -1 := by
  unfold yr
  rw [show ((4 : Int) + 1) * 1 - 5 - 1 = -1 by decide, show d * 1 + 0 = d by omega]
  have e := Int.mul_ediv_add_emod (-1) d
  have m0 := Int.emod_nonneg (-1) (show d ≠ 0 by omega)
  have m1 := Int.emod_lt_of_pos (-1) (show 0 < d by omega)
  have a : (-1 : Int) / d < 0 := Int.ediv_neg_of_neg_of_pos (by decide) (by omega)
  by_cases b : (-1 : Int) / d = -1
  · exact b
  · have := Int.mul_le_mul_of_nonneg_left (show (-1 : Int) / d ≤ -2 by omega) (show 0 ≤ d by omega)
    omega
/-- what stands through a cell's turn -/
structure Stand (p : Addr) (cells : List V) (s m : Addr) (H : Hp) : Prop where
  hp : H p = some (.lst cells)
  sun : Land H (.ref s) 365 1 4 0
  moon : Land H (.ref m) 354 11 30 0
theorem Stand.ex {p s m : Addr} {cells : List V} {H H' : Hp} (h : Stand p cells s m H) (e : Ex H H') : Stand p cells s m H' := ⟨e _ _ h.hp, h.sun.ex e, h.moon.ex e⟩
theorem Stand.but {p s m x : Addr} {cells zs : List V} {H H' : Hp} (h : Stand p cells s m H) (px : p ≠ x) (hx : H x = some (.lst zs)) (e : ExD x H H') : Stand p cells s m H' := ⟨e _ _ px h.hp, h.sun.but hx e, h.moon.but hx e⟩
theorem yes_if {σ : L2.St} {H : Hp} {X Y : Hp → Prop} (h : X H) : tYes σ H fun b H3 => if b = true then X H3 else Y H3 := by
  show if true = true then X H else Y H
  rw [if_pos rfl]
  exact h
/-- the realm's rows after one change, and after two -/
def rows1 : List Row := [⟨.non, 10, 0, 1, 0⟩, ⟨.int 25, 10, 0, 1, 3⟩]
def rows2 : List Row := [⟨.non, 10, 0, 1, 0⟩, ⟨.int 25, 10, 0, 1, 3⟩, ⟨.int 45, 10, 0, 1, 0⟩]
theorem started1 : Started rows1 := fun i w e => by
  match i, e with
  | 0, e => cases e; exact .inl ⟨rfl, rfl⟩
  | 1, e => cases e; exact .inr ⟨by decide, _, rfl⟩
theorem started2 : Started rows2 := fun i w e => by
  match i, e with
  | 0, e => cases e; exact .inl ⟨rfl, rfl⟩
  | 1, e => cases e; exact .inr ⟨by decide, _, rfl⟩
  | 2, e => cases e; exact .inr ⟨by decide, _, rfl⟩
def dateL (ws : List Row) (n : Int) : List Int := [yr (ruler ws n).D (ruler ws n).T (ruler ws n).B (ruler ws n).S n, n - fst (ruler ws n).D (ruler ws n).T (ruler ws n).B (ruler ws n).S (yr (ruler ws n).D (ruler ws n).T (ruler ws n).B (ruler ws n).S n)]
theorem ok_law (T : Txt K mg) {f : Addr} {fd : FuncData} (F : Fun K "law" "law" s_law f fd) : FnOk P w K mg base CX0 8 f fd ["script"] (spLaw K) := by
  have G_begin : FnOk P w K mg base CX0 5 T.begin.f T.begin.fd ["land", "year"] spBegin := ok_begin T
  have G_date : FnOk P w K mg base CX0 5 T.date.f T.date.fd ["land", "day"] spDate := ok_date T
  have G_next_long : FnOk P w K mg base CX0 5 T.next_long.f T.next_long.fd ["land", "year"] spNextL := ok_next_long T
  have G_lengths : FnOk P w K mg base CX0 6 T.lengths.f T.lengths.fd ["land", "place", "week", "name"] spLen := ok_lengths T
  have G_barring : FnOk P w K mg base CX0 6 T.barring.f T.barring.fd ["land", "place", "week", "name"] spBarring := ok_barring T
  have G__law_suns_right : FnOk P w K mg base CX0 7 T._law_suns_right.f T._law_suns_right.fd ["sun", "moon"] spSuns := ok__law_suns_right T
  have G_lands_of : FnOk P w K mg base CX0 6 T.lands_of.f T.lands_of.fd ["seen", "most"] spLandsOf := ok_lands_of T
  have G__law_deck : FnOk P w K mg base CX0 1 T._law_deck.f T._law_deck.fd ["cell", "turn"] spDeck := ok__law_deck T
  have G__law_pick : FnOk P w K mg base CX0 1 T._law_pick.f T._law_pick.fd ["deck", "size"] spPick := ok__law_pick T
  have G_Realm_init : FnOk P w K mg base CX0 5 T.Realm_init.f T.Realm_init.fd ["self", "land"] (spInitR T.C_Realm) := ok_Realm_init T
  have G_Realm_change : FnOk P w K mg base CX0 5 T.Realm_change.f T.Realm_change.fd ["self", "day", "land"] (spChange T.C_Realm) := ok_Realm_change T
  have G_Realm_date : FnOk P w K mg base CX0 4 T.Realm_date.f T.Realm_date.fd ["self", "day"] (spDateR T.C_Realm) := ok_Realm_date T
  have G_Realm_days_of : FnOk P w K mg base CX0 4 T.Realm_days_of.f T.Realm_days_of.fd ["self", "year", "place"] (spDaysR T.C_Realm) := ok_Realm_days_of T
  refine F.ok sc_law (fun vs H Q E h => ?_) (fun cdv A outer s H vs Q E hr h => ?_)
  · obtain ⟨a, ns, rfl, _⟩ := h
    rfl
  · obtain ⟨a, ns, rfl, hS, hlen, q⟩ := h
    refine ⟨_, (pss_cons (ps_asg (pe_tup (pa_cons (pe_tup (pa_cons pe_int (pa_cons pe_int (pa_cons pe_int (pa_cons pe_int pa_nil))))) (pa_cons (pe_tup (pa_cons pe_int (pa_cons pe_int (pa_cons pe_int (pa_cons pe_int pa_nil))))) pa_nil))) (pg_tup rfl (pgs_cons (pg_name (i := 1) sc_law.nd rfl (Or.inl rfl)) (pgs_cons (pg_name (i := 2) sc_law.nd rfl (Or.inl rfl)) pgs_nil))))
      (pss_cons (ps_for PassesOwn.never rfl (pi_list (pe_slice sl_list (pe_op op_catL (pe_lst (pa_cons pe_int pa_nil)) (pv 0)) po_none (po_some pe_int))) (pg_name (i := 3) sc_law.nd rfl (Or.inl rfl))
        (pss_cons (ps_set (i := 4) sc_law.nd rfl (Or.inl rfl) (pe_call G__law_deck (hr.mono (by omega)) (by rfl) T._law_deck.g T._law_deck.F.kp T._law_deck.b .nil pass0 (pa_cons (pv 3) (pa_cons pe_int pa_nil))))
      (pss_cons (ps_set (i := 5) sc_law.nd rfl (Or.inl rfl) (pe_op op_add pe_int (pe_call G__law_pick (hr.mono (by omega)) (by rfl) T._law_pick.g T._law_pick.F.kp T._law_pick.b .nil pass0 (pa_cons (pv 4) (pa_cons pe_int pa_nil)))))
      (pss_cons (ps_set (i := 6) sc_law.nd rfl (Or.inr rfl) (pe_tup (pa_cons (pv 5) (pa_cons pe_int (pa_cons pe_int (pa_cons pe_int pa_nil))))))
      (pss_cons (ps_if (pt_cmpR (op_neD hr.units) (pe_lc (own := [("year", 8)]) (g := gName 8) (by rfl) sc_law.nd (pi_tup (pe_tup (pa_cons (pe_un un_neg pe_int) (pa_cons pe_int (pa_cons pe_int pa_nil))))) (blkOk_by (own := [("year", 8)]) (N := ["script", "sun", "moon", "cell", "deck", "days_so_", "plain", "realm", "year", "day"]) (sc := defScope s_law) (by decide +kernel)) (fun _ _ _ _ _ => (pg_name (i := 8) sc_law.nd rfl (Or.inl rfl))) (fun _ _ _ _ _ => pts_nil) (fun _ _ _ _ _ => (pe_call G_begin (hr.mono (by omega)) (by rfl) T.begin.g T.begin.F.kp T.begin.b .nil pass0 (pa_cons (pv 6) (pa_cons (pv 8) pa_nil))))) (pe_lst (pa_cons (pe_op op_sub pe_int (pv 5)) (pa_cons pe_int (pa_cons (pe_op op_add pe_int (pv 5)) pa_nil)))) (nomark _))
        (pss_one (ps_ret pe_bl))
        pss_nil)
      (pss_cons (ps_if (PW.pt (pw_or (pt_cmpR op_notN (pe_call G_next_long (hr.mono (by omega)) (by rfl) T.next_long.g T.next_long.F.kp T.next_long.b .nil pass0 (pa_cons (pv 6) (pa_cons pe_int pa_nil))) pe_non (nomark _)) (pw_or1 (pt_cmpR (op_neD hr.units) (pe_call G_date (hr.mono (by omega)) (by rfl) T.date.g T.date.F.kp T.date.b .nil pass0 (pa_cons (pv 6) (pa_cons pe_int pa_nil))) (pe_tup (pa_cons (pe_un un_neg pe_int) (pa_cons (pe_op op_sub (pv 5) pe_int) pa_nil))) (nomark _)))))
        (pss_one (ps_ret pe_bl))
        pss_nil)
      (pss_cut (ps_if (PW.pt (pw_and (pt_cmpR (op_eqD hr.units) (pe_call G_lengths (hr.mono (by omega)) (by rfl) T.lengths.g T.lengths.F.kp T.lengths.b .nil pass0 (pa_cons (pv 6) (pa_cons pe_int (pa_cons (pe_op op_add (pe_op op_mod (pv 5) pe_int) pe_int) (pa_cons pe_int pa_nil))))) (pe_tup pa_nil) (nomark _)) (pw_and1 (pt_cmpR op_isN (pe_call G_barring (hr.mono (by omega)) (by rfl) T.barring.g T.barring.F.kp T.barring.b .nil pass0 (pa_cons (pv 6) (pa_cons pe_int (pa_cons (pe_op op_add (pe_op op_mod (pv 5) pe_int) pe_int) (pa_cons pe_int pa_nil))))) pe_non (nomark _)))))
        (pss_one (ps_ret pe_bl))
        pss_nil)
      (pss_cons (ps_if (pt_not (pt_val (pe_call G__law_suns_right (hr.mono (by omega)) (by rfl) T._law_suns_right.g T._law_suns_right.F.kp T._law_suns_right.b .nil pass0 (pa_cons (pv 1) (pa_cons (pv 2) pa_nil)))))
        (pss_one (ps_ret pe_bl))
        pss_nil)
      (pss_cons (ps_set (i := 7) sc_law.nd rfl (Or.inr rfl) (pe_make T.mk_Realm G_Realm_init (hr.mono (by omega)) (by rfl) T.g_Realm T.Realm_init.b .nil pass0 (pa_cons (pe_tup (pa_cons pe_int (pa_cons pe_int (pa_cons pe_int (pa_cons pe_int pa_nil))))) pa_nil)))
      (pss_cons (ps_expr (pe_meth (pv 7) T.cl_Realm T.Realm_change.m G_Realm_change (hr.mono (by omega)) T.Realm_change.b .nil pass0 (pa_cons pe_int (pa_cons (pe_tup (pa_cons pe_int (pa_cons pe_int (pa_cons pe_int (pa_cons pe_int pa_nil))))) pa_nil))))
      (pss_cons (ps_if (PW.pt (pw_or (pt_cmpR (op_neD hr.units) (pe_lc (own := [("day", 9)]) (g := gName 9) (by rfl) sc_law.nd (pi_tup (pe_tup (pa_cons pe_int (pa_cons pe_int pa_nil)))) (blkOk_by (own := [("day", 9)]) (N := ["script", "sun", "moon", "cell", "deck", "days_so_", "plain", "realm", "year", "day"]) (sc := defScope s_law) (by decide +kernel)) (fun _ _ _ _ _ => (pg_name (i := 9) sc_law.nd rfl (Or.inl rfl))) (fun _ _ _ _ _ => pts_nil) (fun _ _ _ _ _ => (pe_meth (pv 7) T.cl_Realm T.Realm_date.m G_Realm_date (hr.mono (by omega)) T.Realm_date.b .nil pass0 (pa_cons (pv 9) pa_nil)))) (pe_lst (pa_cons (pe_tup (pa_cons pe_int (pa_cons pe_int pa_nil))) (pa_cons (pe_tup (pa_cons pe_int (pa_cons pe_int pa_nil))) pa_nil))) (nomark _)) (pw_or1 (pt_cmpR (op_neD hr.units) (pe_meth (pv 7) T.cl_Realm T.Realm_days_of.m G_Realm_days_of (hr.mono (by omega)) T.Realm_days_of.b .nil pass0 (pa_cons pe_int (pa_cons pe_int pa_nil))) (pe_lst (pa_cons pe_int (pa_cons pe_int pa_nil))) (nomark _)))))
        (pss_one (ps_ret pe_bl))
        pss_nil)
      (pss_cons (ps_if (PW.pt (pw_or (pt_cmpR (op_neD hr.units) (pe_meth (pv 7) T.cl_Realm T.Realm_days_of.m G_Realm_days_of (hr.mono (by omega)) T.Realm_days_of.b .nil pass0 (pa_cons pe_int (pa_cons pe_int pa_nil))) (pe_lst (pa_cons pe_int pa_nil)) (nomark _)) (pw_or (pt_cmpR (op_neD hr.units) (pe_meth (pv 7) T.cl_Realm T.Realm_days_of.m G_Realm_days_of (hr.mono (by omega)) T.Realm_days_of.b .nil pass0 (pa_cons pe_int (pa_cons pe_int pa_nil))) (pe_lst (pa_cons pe_int pa_nil)) (nomark _)) (pw_or1 (pt_cmpR (op_neD hr.units) (pe_meth (pv 7) T.cl_Realm T.Realm_days_of.m G_Realm_days_of (hr.mono (by omega)) T.Realm_days_of.b .nil pass0 (pa_cons pe_int (pa_cons pe_int pa_nil))) (pe_lst (pa_cons pe_int pa_nil)) (nomark _))))))
        (pss_one (ps_ret pe_bl))
        pss_nil)
      (pss_cons (ps_expr (pe_meth (pv 7) T.cl_Realm T.Realm_change.m G_Realm_change (hr.mono (by omega)) T.Realm_change.b .nil pass0 (pa_cons pe_int (pa_cons (pe_tup (pa_cons pe_int (pa_cons pe_int (pa_cons pe_int (pa_cons pe_int pa_nil))))) pa_nil))))
      (pss_cons (ps_if (PW.pt (pw_or (pt_cmpR (op_neD hr.units) (pe_meth (pv 7) T.cl_Realm T.Realm_days_of.m G_Realm_days_of (hr.mono (by omega)) T.Realm_days_of.b .nil pass0 (pa_cons pe_int (pa_cons pe_int pa_nil))) (pe_lst (pa_cons pe_int (pa_cons pe_int pa_nil))) (nomark _)) (pw_or (pt_cmpR (op_neD hr.units) (pe_meth (pv 7) T.cl_Realm T.Realm_days_of.m G_Realm_days_of (hr.mono (by omega)) T.Realm_days_of.b .nil pass0 (pa_cons pe_int (pa_cons pe_int pa_nil))) (pe_lst (pa_cons pe_int pa_nil)) (nomark _)) (pw_or1 (pt_cmpR (op_neD hr.units) (pe_meth (pv 7) T.cl_Realm T.Realm_days_of.m G_Realm_days_of (hr.mono (by omega)) T.Realm_days_of.b .nil pass0 (pa_cons pe_int (pa_cons pe_int pa_nil))) (pe_lst pa_nil) (nomark _))))))
        (pss_one (ps_ret pe_bl))
        pss_nil)
      (pss_one (ps_if (pt_cmpR (op_neD hr.units) (pe_call G_lands_of (hr.mono (by omega)) (by rfl) T.lands_of.g T.lands_of.F.kp T.lands_of.b .nil pass0 (pa_cons (pe_tup (pa_cons (pe_tup (pa_cons pe_int (pa_cons (pe_un un_neg (pe_op op_pow pe_int pe_int)) pa_nil))) (pa_cons (pe_tup (pa_cons pe_int (pa_cons (pe_un un_neg pe_int) pa_nil))) pa_nil))) (pa_cons pe_int pa_nil))) (pe_lst (pa_cons (pe_tup (pa_cons pe_int (pa_cons pe_int (pa_cons pe_int (pa_cons (pe_un un_neg pe_int) pa_nil))))) pa_nil)) (nomark _))
        (pss_one (ps_ret pe_bl))
        pss_nil))))))))))))))))
      (pss_one (ps_ret pe_bl)))), ?_⟩
    refine ⟨by show 4 ≤ sizeLine; decide, fun s1 ns1 => ⟨by show 4 ≤ sizeLine; decide, fun s2 ns2 => ⟨by show 2 ≤ sizeLine; decide, fun s3 ns3 => ?_⟩⟩⟩
    have x1 := Ex.new ns1 (o := .tup [.int 365, .int 1, .int 4, .int 0])
    have x2 := Ex.new ns2 (o := .tup [.int 354, .int 11, .int 30, .int 0])
    have x3 := Ex.new ns3 (o := .tup [.ref s1, .ref s2])
    have l1 : Land _ (.ref s1) 365 1 4 0 := ⟨s1, rfl, x3 _ _ (x2 _ _ upd_same), by decide, by decide, by decide, by decide⟩
    have l2 : Land _ (.ref s2) 354 11 30 0 := ⟨s2, rfl, x3 _ _ upd_same, by decide, by decide, by decide, by decide⟩
    refine ⟨s3, _, rfl, st_of upd_same, rfl, _, _, rfl, _, _, rfl, rfl, ?_⟩
    have hS3 := ex_l (x1.trans (x2.trans x3)) hS
    refine ⟨by show 1 ≤ sizeLine; decide, fun p0 n0 => ?_⟩
    refine ⟨_, rfl, p0, a, _, _, rfl, rfl, sq_of upd_same, ex_l (Ex.new n0) hS3, ?_, fun p1 n1 => ?_⟩
    · rw [List.length_map]
      exact sz_of (by show 1 + ns.length ≤ 100000; omega)
    refine ⟨4, rfl, p1, _, rfl, sq_of upd_same, fun p2 n2 => ?_⟩
    refine ⟨p2, rfl, ⟨_, sq_of upd_same⟩, ?_⟩
    have y0 := Ex.new n0 (o := .lst [.int 0])
    have y1 := Ex.new n1 (o := .lst (V.int 0 :: ns.map V.int))
    have y2 := Ex.new n2 (o := .lst (cutV (V.int 0 :: ns.map V.int) none (some 4)))
    have y02 := y0.trans (y1.trans y2)
    refine for_list (xs := cutV (V.int 0 :: ns.map V.int) none (some 4)) (fun i σ H' => (∃ z3 z4 z5 z6 z7 z8 z9, σ = [some (.ref a), some (.ref s1), some (.ref s2), z3, z4, z5, z6, z7, z8, z9]) ∧ Stand p2 (cutV (V.int 0 :: ns.map V.int) none (some 4)) s1 s2 H')
      ⟨⟨_, _, _, _, _, _, _, rfl⟩, upd_same, l1.ex y02, l2.ex y02⟩ (fun i σ H' _ h => sq_of h.2.hp) ?_ fun σ H' _ => q H'
    clear l1 l2 x1 x2 x3 y0 y1 y2 y02 ns1 ns2 ns3 n0 n1 n2 hS3
    rintro i x σ H1 hx ⟨⟨z3, z4, z5, z6, z7, z8, z9, rfl⟩, st1⟩
    obtain ⟨c, rfl⟩ := cells_int hx
    generalize cutV (V.int 0 :: ns.map V.int) none (some 4) = cells at st1 ⊢
    refine ⟨_, rfl, c, 13, rfl, fun d H2 nd e2 k2 => ?_⟩
    have pd : p2 ≠ d := ne_of_none st1.hp nd
    have st2 := st1.ex e2
    refine ⟨_, rfl, d, 400, _, rfl, k2, by omega, ⟨by decide, by decide⟩, fun r H3 r0 r1 e3 k3 => ⟨_, _, rfl, rfl, ?_⟩⟩
    obtain ⟨_, _, _, hd2, _⟩ := id k2
    have st3 := st2.but pd hd2 e3
    obtain ⟨dd, hdd⟩ : ∃ dd : Int, 1 + r = dd := ⟨_, rfl⟩
    show gName 5 (V.int _) _ _ _
    rw [hdd]
    have bd : 1 ≤ dd ∧ dd ≤ 400 := by omega
    clear st1 st2 e2 e3 k2 nd hd2 hdd r0 r1
    refine ⟨_, rfl, by show 4 ≤ sizeLine; decide, fun pl npl => ?_⟩
    have L4 : Land (upd H3 pl (.tup [.int dd, .int 0, .int 1, .int 5])) (.ref pl) dd 0 1 5 := ⟨pl, rfl, upd_same, bd, by decide, by decide, by decide⟩
    have st4 := st3.ex (Ex.new npl (o := .tup [.int dd, .int 0, .int 1, .int 5]))
    generalize upd H3 pl (.tup [.int dd, .int 0, .int 1, .int 5]) = H4 at L4 st4 ⊢
    refine ⟨1, rfl, by show 3 ≤ sizeLine; decide, fun t nt => ⟨t, rfl, ⟨_, st_of upd_same⟩, fun D1 hD1 => ?_⟩⟩
    have et : Ex H4 (upd H4 t (.tup ([-1, 0, 1].map V.int))) := Ex.new nt
    refine lc_tup (xs := [-1, 0, 1].map V.int) (Cw (upd H4 t (.tup ([-1, 0, 1].map V.int))) (fun _ => true) (fun i => .int (dd * ([-1, 0, 1][i]?.getD 0) + 5)) D1) ⟨hD1, Ex.new hD1, upd_same⟩ (fun _ H' _ c => st_of (c.2.1 _ _ upd_same)) (fun i x H' hi c => ?_) (fun H5 c => ?_)
    · rw [List.getElem?_map] at hi
      cases en : ([-1, 0, 1] : List Int)[i]? with
      | none => rw [en] at hi; cases hi
      | some n =>
        rw [en] at hi
        cases hi
        have i2 : i < 3 := (List.getElem?_eq_some_iff.mp en).1
        have bn : -1 ≤ n ∧ n ≤ 1 := by
          have := List.mem_of_getElem? en
          simp only [List.mem_cons, List.not_mem_nil, or_false] at this
          omega
        refine ⟨rfl, cw_turn c (by omega) (fun Ha ea Qa qa => qa Ha (Ex.refl Ha)) fun _ Ha ea Qa qa => ⟨_, rfl, _, rfl, .ref pl, dd, 0, 1, 5, n, rfl, L4.ex (et.trans ea), ⟨by omega, by omega⟩, fun Hb eb => ?_⟩⟩
        rw [plain_fst]
        rw [en] at qa
        exact qa Hb eb
    obtain ⟨_, e5, h5⟩ := c
    rw [given_ints (p := fun _ => true) (g := fun i => dd * (([-1, 0, 1] : List Int)[i]?.getD 0) + 5), List.filter_eq_self.mpr fun _ _ => rfl, List.length_map, range_map ([-1, 0, 1] : List Int) 0 fun y => dd * y + 5] at h5
    have f5 := et.trans e5
    refine ⟨_, rfl, _, _, rfl, rfl, _, rfl, _, _, rfl, rfl, by show 3 ≤ sizeLine; decide, fun p6 n6 => ?_⟩
    refine ne_lsts (ns := ([-1, 0, 1] : List Int).map fun y => dd * y + 5) (ms := [5 - dd, 5, 5 + dd]) (sq_of (Ex.new n6 _ _ h5)) (sq_of upd_same) ⟨_, rfl, ?_⟩
    rw [decide_eq_true (show ([-1, 0, 1] : List Int).map (fun y => dd * y + 5) = [5 - dd, 5, 5 + dd] by simp; omega)]
    refine iteF ?_
    have f6 := f5.trans (Ex.new n6 (o := .lst ([5 - dd, 5, 5 + dd].map V.int)))
    have L6 := L4.ex f6
    have st6 := st4.ex f6
    clear et e5 h5 f5 hD1 nt L4 st4
    refine ⟨_, rfl, .ref pl, dd, 0, 1, 5, 0, rfl, L6, ⟨by omega, by omega⟩, fun _ H7 e7 => ⟨rfl, _, rfl, iteF ?_⟩, fun z => absurd z (by decide)⟩
    refine ⟨_, rfl, .ref pl, dd, 0, 1, 5, 4, rfl, L6.ex e7, ⟨by omega, by omega⟩, fun p8 H8 n8 e8 h8 => ?_⟩
    rw [plain_yr bd.1, plain_fst] at h8
    refine ⟨1, rfl, _, rfl, _, _, rfl, rfl, by show 2 ≤ sizeLine; decide, fun p9 n9 => ?_⟩
    refine ne_tups (ns := [-1, 4 - (dd * -1 + 5)]) (ms := [-1, dd - 1]) (st_of (Ex.new n9 _ _ h8)) (st_of upd_same) ⟨_, rfl, ?_⟩
    rw [decide_eq_true (show [-1, 4 - (dd * -1 + 5)] = [-1, dd - 1] by simp; omega)]
    refine iteF ?_
    have f9 := e7.trans (e8.trans (Ex.new n9 (o := .tup ([-1, dd - 1].map V.int))))
    have L9 := L6.ex f9
    have st9 := st6.ex f9
    clear e7 e8 h8 f9 L6 st6 f6
    have aw : ∀ {H'}, Land H' (.ref pl) dd 0 1 5 → Asked H' (.ref pl) dd 0 1 5 0 (dd % 20 + 1) 0 := fun L => ⟨L, ⟨by omega, by omega⟩, ⟨by omega, by omega⟩, by omega, by omega⟩
    refine ⟨fun σ H' => σ = [some (.ref a), some (.ref s1), some (.ref s2), some (.int c), some (.ref d), some (.int dd), some (.ref pl), z7, z8, z9] ∧ Stand p2 cells s1 s2 H', ?_, ?_⟩
    · refine ⟨_, rfl, _, rfl, _, _, rfl, rfl, by show (0 : Int) < 20; decide, _, _, rfl, rfl, .ref pl, dd, 0, 1, 5, 0, dd % 20 + 1, 0, rfl, aw L9, fun p10 H10 ms told n10 e10 h10 => ?_⟩
      refine ⟨by show 0 ≤ sizeLine; decide, fun p11 n11 => ?_⟩
      refine eq_tups (ns := ms) (ms := []) (st_of (Ex.new n11 _ _ h10)) (st_of upd_same) ⟨_, rfl, ?_⟩
      have f11 := e10.trans (Ex.new n11 (o := .tup []))
      by_cases none_ : ms = []
      · rw [decide_eq_true none_]
        refine iteT ⟨_, rfl, _, rfl, _, _, rfl, rfl, by show (0 : Int) < 20; decide, _, _, rfl, rfl, .ref pl, dd, 0, 1, 5, 0, dd % 20 + 1, 0, rfl, aw (L9.ex f11), fun _ H12 e12 => ⟨rfl, _, rfl, iteF ⟨rfl, st9.ex (f11.trans e12)⟩⟩, fun ⟨y, hy⟩ => ?_⟩
        have cb := cyc_bd (D := dd) (T := 0) (B := 1) (wk := dd % 20 + 1) bd (by decide) (by decide) ⟨by omega, by omega⟩
        have no := (told_none (fun y => hits_cyc (D := dd) (T := 0) (B := 1) bd (by decide) (by decide) ⟨by omega, by omega⟩) cb.1 told).mp none_ y
        rw [no] at hy
        cases hy
      · rw [decide_eq_false none_]
        exact iteF (iteF ⟨rfl, st9.ex f11⟩)
    rintro σ Hm ⟨rfl, stm⟩
    clear L9 st9 aw k3
    refine ⟨_, rfl, _, rfl, _, _, rfl, stm.sun, stm.moon, fun H13 e13 => ⟨_, rfl, iteF ?_⟩⟩
    have st13 := stm.ex e13
    clear stm e13
    refine ⟨by show 4 ≤ sizeLine; decide, fun t14 n14 => ?_⟩
    intro x dx nx ndx nex
    have e14 : Ex H13 (upd H13 t14 (.tup [.int 10, .int 0, .int 1, .int 0])) := Ex.new n14
    have ea : Ex (upd H13 t14 (.tup [.int 10, .int 0, .int 1, .int 0])) (upd (upd (upd H13 t14 (.tup [.int 10, .int 0, .int 1, .int 0])) dx (.own x)) x (.ins T.C_Realm dx [])) := (Ex.new ndx).trans (Ex.new ((upd_ne nex.symm).trans nx))
    refine ⟨x, dx, .ref t14, 10, 0, 1, 0, rfl, upd_same, ⟨t14, rfl, ea _ _ upd_same, by decide, by decide, by decide, by decide⟩, fun l H15 nl k15 R15 => ⟨rfl, ?_⟩⟩
    have e15 : Ex (upd H13 t14 (.tup [.int 10, .int 0, .int 1, .int 0])) H15 := fun b o hb => k15 b o (fun z => by rw [z, nx] at hb; cases hb) (ea b o hb)
    have pl2 : p2 ≠ l := ne_of_none ((st13.ex e14).ex ea).hp nl
    have st15 := (st13.ex e14).ex e15
    clear st13 e14 ea e15 k15 nl nx ndx nex
    obtain ⟨dx1, rs1, hx1, hl1, hrs1, hz1⟩ := id R15
    refine ⟨_, rfl, x, dx1, _, rfl, hx1, rfl, by show 4 ≤ sizeLine; decide, fun t16 n16 => ?_⟩
    have e16 : Ex H15 (upd H15 t16 (.tup [.int 10, .int 0, .int 1, .int 3])) := Ex.new n16
    refine ⟨x, l, _, ⟨.non, 10, 0, 1, 0⟩, 25, .ref t16, 10, 0, 1, 3, rfl, R15.ex e16, by decide, rfl, .inl rfl, ⟨by omega, by omega⟩, ⟨t16, rfl, upd_same, by decide, by decide, by decide, by decide⟩, fun H17 k17 R17 => ?_⟩
    have st17 := (st15.ex e16).but pl2 (e16 _ _ hl1) k17
    have R17 : RealmAt T.C_Realm H17 x l rows1 := R17
    clear st15 e16 k17 R15 hx1 hl1 hrs1
    refine ⟨by show 2 ≤ sizeLine; decide, fun t18 n18 => ⟨t18, rfl, ⟨_, st_of upd_same⟩, fun D2 hD2 => ?_⟩⟩
    have e18 : Ex H17 (upd H17 t18 (.tup ([24, 25].map V.int))) := Ex.new n18
    refine lc_tup (xs := [24, 25].map V.int) (fun i H' => upd H17 t18 (.tup ([24, 25].map V.int)) D2 = none ∧ Ex (upd H17 t18 (.tup ([24, 25].map V.int))) H' ∧ ∃ rs, H' D2 = some (.lst rs) ∧ TupsAt H' rs ((([24, 25] : List Int).map (dateL rows1)).take i)) ⟨hD2, Ex.new hD2, [], upd_same, .nil⟩ (fun _ H' _ c => st_of (c.2.1 _ _ upd_same)) ?_ ?_
    · rintro i v H' hi ⟨nD, ex, rs, hrs, ht⟩
      rw [List.getElem?_map] at hi
      cases en : ([24, 25] : List Int)[i]? with
      | none => rw [en] at hi; cases hi
      | some n =>
        rw [en] at hi
        cases hi
        have i2 : i < 2 := (List.getElem?_eq_some_iff.mp en).1
        have bn : 24 ≤ n ∧ n ≤ 25 := by
          have := List.mem_of_getElem? en
          simp only [List.mem_cons, List.not_mem_nil, or_false] at this
          omega
        obtain ⟨dx2, _, hx2, _⟩ := id (R17.ex (e18.trans ex))
        refine ⟨rfl, yes_if ?_⟩
        refine ⟨_, rfl, x, dx2, _, rfl, hx2, rfl, _, rfl, x, l, rows1, n, rfl, R17.ex (e18.trans ex), started1, ⟨by omega, by omega⟩, fun p Hp np ep hp => ?_⟩
        have len := ht.len
        have le := List.length_take_le i (([24, 25] : List Int).map (dateL rows1))
        refine ⟨rs, ep _ _ hrs, Nat.lt_of_lt_of_le (show rs.length < 3 by omega) (by decide), nD, Ex.mut (ex.trans ep) nD, rs ++ [.ref p], upd_same, ?_⟩
        have next : (([24, 25] : List Int).map (dateL rows1)).take (i + 1) = (([24, 25] : List Int).map (dateL rows1)).take i ++ [dateL rows1 n] := by
          rw [List.take_add_one, List.getElem?_map, en]
          rfl
        rw [next]
        have pD : p ≠ D2 := tup_ne_lst hp (ep _ _ hrs)
        exact TupsAt.snoc ((ht.but hrs (ExD.of ep)).but (ep _ _ hrs) ExD.upd) ((upd_ne pD).trans hp)
    rintro H19 ⟨_, e19, rs, hrs, ht⟩
    rw [show (([24, 25] : List Int).map (dateL rows1)).take (([24, 25] : List Int).map V.int).length = [[2, 4], [2, 2]] by decide +kernel] at ht
    cases ht with
    | cons q1 ht =>
    cases ht with
    | cons q2 ht =>
    cases ht
    refine ⟨by show 2 ≤ sizeLine; decide, fun t20 n20 => ⟨by show 2 ≤ sizeLine; decide, fun t21 n21 => ⟨by show 2 ≤ sizeLine; decide, fun t22 n22 => ?_⟩⟩⟩
    have x20 := Ex.new n20 (o := .tup [.int 2, .int 4])
    have x21 := Ex.new n21 (o := .tup [.int 2, .int 2])
    have x22 := Ex.new n22 (o := .lst [.ref t20, .ref t21])
    have x2022 := x20.trans (x21.trans x22)
    refine ne_same (.list [.tuple (([2, 4] : List Int).map PyData.int), .tuple (([2, 2] : List Int).map PyData.int)]) (.lst (sq_of (x2022 _ _ hrs)) (.cons (.tup (st_of (x2022 _ _ q1)) (dps_ints [2, 4])) (.cons (.tup (st_of (x2022 _ _ q2)) (dps_ints [2, 2])) .nil))) (.lst (sq_of upd_same) (.cons (.tup (st_of (x22 _ _ (x21 _ _ upd_same))) (dps_ints [2, 4])) (.cons (.tup (st_of (x22 _ _ upd_same)) (dps_ints [2, 2])) .nil))) (by decide +kernel) (by decide +kernel) ⟨_, rfl, iteF ?_⟩
    have f22 := e18.trans (e19.trans x2022)
    have st22 := st17.ex f22
    have R22 := R17.ex f22
    clear st17 R17 f22 x20 x21 x22 x2022 q1 q2 hrs e19 e18 hD2
    obtain ⟨dxa, _, hxa, _⟩ := id R22
    refine ⟨_, rfl, x, dxa, _, rfl, hxa, rfl, x, l, rows1, 2, 4, rfl, R22, started1, ⟨by omega, by omega⟩, ⟨by omega, by omega⟩, fun aa Ga ma ea ha => ?_⟩
    rw [show daysAt rows1 2 4 rows1.length = [24, 27] by decide +kernel] at ha
    refine ⟨by show 2 ≤ sizeLine; decide, fun ba na => ?_⟩
    refine ne_same (.list (([24, 27] : List Int).map PyData.int)) (.lst (sq_of (Ex.new na _ _ ha)) (dps_ints [24, 27])) (.lst (sq_of upd_same) (dps_ints [24, 27])) (by decide +kernel) (by decide +kernel) ⟨_, rfl, iteF ?_⟩
    have ca := ea.trans (Ex.new na (o := .lst (([24, 27] : List Int).map V.int)))
    have st23 := st22.ex ca
    have R23 := R22.ex ca
    clear st22 R22 ea ca ha hxa
    obtain ⟨dxb, _, hxb, _⟩ := id R23
    refine ⟨_, rfl, x, dxb, _, rfl, hxb, rfl, x, l, rows1, 2, 5, rfl, R23, started1, ⟨by omega, by omega⟩, ⟨by omega, by omega⟩, fun ab Gb mb eb hb => ?_⟩
    rw [show daysAt rows1 2 5 rows1.length = [28] by decide +kernel] at hb
    refine ⟨by show 1 ≤ sizeLine; decide, fun bb nb => ?_⟩
    refine ne_same (.list (([28] : List Int).map PyData.int)) (.lst (sq_of (Ex.new nb _ _ hb)) (dps_ints [28])) (.lst (sq_of upd_same) (dps_ints [28])) (by decide +kernel) (by decide +kernel) ⟨_, rfl, iteF ?_⟩
    have cb := eb.trans (Ex.new nb (o := .lst (([28] : List Int).map V.int)))
    have st24 := st23.ex cb
    have R24 := R23.ex cb
    clear st23 R23 eb cb hb hxb
    obtain ⟨dxc, _, hxc, _⟩ := id R24
    refine ⟨_, rfl, x, dxc, _, rfl, hxc, rfl, x, l, rows1, 2, 0, rfl, R24, started1, ⟨by omega, by omega⟩, ⟨by omega, by omega⟩, fun ac Gc mc ec hc => ?_⟩
    rw [show daysAt rows1 2 0 rows1.length = [20] by decide +kernel] at hc
    refine ⟨by show 1 ≤ sizeLine; decide, fun bc nc => ?_⟩
    refine ne_same (.list (([20] : List Int).map PyData.int)) (.lst (sq_of (Ex.new nc _ _ hc)) (dps_ints [20])) (.lst (sq_of upd_same) (dps_ints [20])) (by decide +kernel) (by decide +kernel) ⟨_, rfl, iteF ?_⟩
    have cc := ec.trans (Ex.new nc (o := .lst (([20] : List Int).map V.int)))
    have st25 := st24.ex cc
    have R25 := R24.ex cc
    clear st24 R24 ec cc hc hxc
    obtain ⟨dxd, _, hxd, _⟩ := id R25
    refine ⟨_, rfl, x, dxd, _, rfl, hxd, rfl, x, l, rows1, 3, 0, rfl, R25, started1, ⟨by omega, by omega⟩, ⟨by omega, by omega⟩, fun ad Gd md ed hd => ?_⟩
    rw [show daysAt rows1 3 0 rows1.length = [33] by decide +kernel] at hd
    refine ⟨by show 1 ≤ sizeLine; decide, fun bd nd => ?_⟩
    refine ne_same (.list (([33] : List Int).map PyData.int)) (.lst (sq_of (Ex.new nd _ _ hd)) (dps_ints [33])) (.lst (sq_of upd_same) (dps_ints [33])) (by decide +kernel) (by decide +kernel) ⟨_, rfl, iteF ?_⟩
    have cd := ed.trans (Ex.new nd (o := .lst (([33] : List Int).map V.int)))
    have st26 := st25.ex cd
    have R26 := R25.ex cd
    clear st25 R25 ed cd hd hxd
    obtain ⟨dx3, rs3, hx3, hl3, hrs3, hz3⟩ := id R26
    refine ⟨_, rfl, x, dx3, _, rfl, hx3, rfl, by show 4 ≤ sizeLine; decide, fun t27 n27 => ?_⟩
    have e27 := Ex.new n27 (o := .tup [.int 10, .int 0, .int 1, .int 0])
    refine ⟨x, l, rows1, ⟨.int 25, 10, 0, 1, 3⟩, 45, .ref t27, 10, 0, 1, 0, rfl, R26.ex e27, by decide, rfl, .inr ⟨25, rfl, by decide⟩, ⟨by omega, by omega⟩, ⟨t27, rfl, upd_same, by decide, by decide, by decide, by decide⟩, fun H28 k28 R28 => ?_⟩
    have st28 := (st26.ex e27).but pl2 (e27 _ _ hl3) k28
    have R28 : RealmAt T.C_Realm H28 x l rows2 := R28
    clear st26 e27 k28 R26 hx3 hl3 hrs3
    obtain ⟨dxe, _, hxe, _⟩ := id R28
    refine ⟨_, rfl, x, dxe, _, rfl, hxe, rfl, x, l, rows2, 2, 4, rfl, R28, started2, ⟨by omega, by omega⟩, ⟨by omega, by omega⟩, fun ae Ge me ee he => ?_⟩
    rw [show daysAt rows2 2 4 rows2.length = [24, 27] by decide +kernel] at he
    refine ⟨by show 2 ≤ sizeLine; decide, fun be ne => ?_⟩
    refine ne_same (.list (([24, 27] : List Int).map PyData.int)) (.lst (sq_of (Ex.new ne _ _ he)) (dps_ints [24, 27])) (.lst (sq_of upd_same) (dps_ints [24, 27])) (by decide +kernel) (by decide +kernel) ⟨_, rfl, iteF ?_⟩
    have ce := ee.trans (Ex.new ne (o := .lst (([24, 27] : List Int).map V.int)))
    have st29 := st28.ex ce
    have R29 := R28.ex ce
    clear st28 R28 ee ce he hxe
    obtain ⟨dxf, _, hxf, _⟩ := id R29
    refine ⟨_, rfl, x, dxf, _, rfl, hxf, rfl, x, l, rows2, 5, 0, rfl, R29, started2, ⟨by omega, by omega⟩, ⟨by omega, by omega⟩, fun af Gf mf ef hf => ?_⟩
    rw [show daysAt rows2 5 0 rows2.length = [50] by decide +kernel] at hf
    refine ⟨by show 1 ≤ sizeLine; decide, fun bf nf => ?_⟩
    refine ne_same (.list (([50] : List Int).map PyData.int)) (.lst (sq_of (Ex.new nf _ _ hf)) (dps_ints [50])) (.lst (sq_of upd_same) (dps_ints [50])) (by decide +kernel) (by decide +kernel) ⟨_, rfl, iteF ?_⟩
    have cf := ef.trans (Ex.new nf (o := .lst (([50] : List Int).map V.int)))
    have st30 := st29.ex cf
    have R30 := R29.ex cf
    clear st29 R29 ef cf hf hxf
    obtain ⟨dxk, _, hxk, _⟩ := id R30
    refine ⟨_, rfl, x, dxk, _, rfl, hxk, rfl, x, l, rows2, 4, 2, rfl, R30, started2, ⟨by omega, by omega⟩, ⟨by omega, by omega⟩, fun ak Gk mk ek hk => ?_⟩
    rw [show daysAt rows2 4 2 rows2.length = [] by decide +kernel] at hk
    refine ⟨by show 0 ≤ sizeLine; decide, fun bk nk => ?_⟩
    refine ne_same (.list (([] : List Int).map PyData.int)) (.lst (sq_of (Ex.new nk _ _ hk)) (dps_ints [])) (.lst (sq_of upd_same) (dps_ints [])) (by decide +kernel) (by decide +kernel) ⟨_, rfl, iteF ?_⟩
    have ck := ek.trans (Ex.new nk (o := .lst (([] : List Int).map V.int)))
    have st31 := st30.ex ck
    have R31 := R30.ex ck
    clear st30 R30 ek ck hk hxk
    refine ⟨_, _, rfl, rfl, ⟨by decide, by decide, by decide⟩, _, rfl, by show 2 ≤ sizeLine; decide, fun t32 n32 => ⟨999600, rfl, by show 2 ≤ sizeLine; decide, fun t33 n33 => ⟨by show 2 ≤ sizeLine; decide, fun t34 n34 => ?_⟩⟩⟩
    have x33 := Ex.new n33 (o := .tup [.int 10000, .int (-999600)])
    have x34 := Ex.new n34 (o := .tup [.ref t32, .ref t33])
    have x3234 := (Ex.new n32 (o := .tup [.int 9999, .int (-1000000)])).trans (x33.trans x34)
    have q32 := x34 _ _ (x33 _ _ (upd_same (o := .tup [.int 9999, .int (-1000000)])))
    have q33 := x34 _ _ (upd_same (o := .tup [.int 10000, .int (-999600)]))
    refine ⟨t34, [.ref t32, .ref t33], [(9999, -1000000), (10000, -999600)], (9999, -1000000), (10000, -999600), 1, rfl, ⟨upd_same, rfl, fun i r e => ?_, ⟨by decide, fun p hp => ?_, by decide⟩⟩, rfl, rfl, by decide, by decide +kernel, fun l5 rs5 H35 n35 e35 hl5 ht5 => ?_⟩
    · match i, e with
      | 0, e => cases e; exact ⟨_, rfl, t32, rfl, q32⟩
      | 1, e => cases e; exact ⟨_, rfl, t33, rfl, q33⟩
    · simp only [List.mem_cons, List.not_mem_nil, or_false] at hp
      rcases hp with rfl | rfl <;> decide
    rw [show landsAll [(9999, -1000000), (10000, -999600)] (9999, -1000000) (10000, -999600) 1 = [[400, 0, 1, -4999600]] by decide +kernel] at ht5
    cases ht5 with
    | cons q5 ht5 =>
    cases ht5
    refine ⟨4999600, rfl, by show 4 ≤ sizeLine; decide, fun t36 n36 => ⟨by show 1 ≤ sizeLine; decide, fun t37 n37 => ?_⟩⟩
    have x36 := Ex.new n36 (o := .tup [.int 400, .int 0, .int 1, .int (-4999600)])
    have x37 := Ex.new n37 (o := .lst [.ref t36])
    have x3637 := x36.trans x37
    refine ne_same (.list [.tuple (([400, 0, 1, -4999600] : List Int).map PyData.int)]) (.lst (sq_of (x3637 _ _ hl5)) (.cons (.tup (st_of (x3637 _ _ q5)) (dps_ints [400, 0, 1, -4999600])) .nil)) (.lst (sq_of upd_same) (.cons (.tup (st_of (x37 _ _ upd_same)) (dps_ints [400, 0, 1, -4999600])) .nil)) (by decide +kernel) (by decide +kernel) ⟨_, rfl, iteF ?_⟩
    exact ⟨⟨_, _, _, _, _, _, _, rfl⟩, st31.ex (x3234.trans (e35.trans x3637))⟩
end

theorem all_mk {l : PySem.W.OpenLaw} {w : World} {K : PySem.W.Frag} {h : Heap} {mg : Str → Option Value} {fa : Addr} (X : K.In h) (G : h.Ns mainGlobals mg) (hfa : mg "law" = some (.ref fa))
    {f0 : Addr} {od0 an0 : Option Addr} {sl0 : Array (Option Value)} {oc0 kV0 dc0 pm0 cd0 ct0 : Value}
    (ya0 : PySem.W.nsIn K mainGlobals "_wall" = some (some (.ref f0))) (yl0 : K.lookup f0 = some ⟨oc0, od0, .func (PySem.W.fnOf "_wall" "_wall" (defArgs s__wall) (defBody s__wall) (defScope s__wall) .none kV0 dc0 pm0 an0 cd0 ct0), sl0⟩) (yc0 : PySem.W.codeIn K cd0 "_wall" = true) (yk0 : PySem.W.keepIn K (.ref f0) = true)
    {f1 : Addr} {od1 an1 : Option Addr} {sl1 : Array (Option Value)} {oc1 kV1 dc1 pm1 cd1 ct1 : Value}
    (ya1 : PySem.W.nsIn K mainGlobals "is_whole" = some (some (.ref f1))) (yl1 : K.lookup f1 = some ⟨oc1, od1, .func (PySem.W.fnOf "is_whole" "is_whole" (defArgs s_is_whole) (defBody s_is_whole) (defScope s_is_whole) .none kV1 dc1 pm1 an1 cd1 ct1), sl1⟩) (yc1 : PySem.W.codeIn K cd1 "is_whole" = true) (yk1 : PySem.W.keepIn K (.ref f1) = true)
    {f2 : Addr} {od2 an2 : Option Addr} {sl2 : Array (Option Value)} {oc2 kV2 dc2 pm2 cd2 ct2 : Value}
    (ya2 : PySem.W.nsIn K mainGlobals "is_between" = some (some (.ref f2))) (yl2 : K.lookup f2 = some ⟨oc2, od2, .func (PySem.W.fnOf "is_between" "is_between" (defArgs s_is_between) (defBody s_is_between) (defScope s_is_between) .none kV2 dc2 pm2 an2 cd2 ct2), sl2⟩) (yc2 : PySem.W.codeIn K cd2 "is_between" = true) (yk2 : PySem.W.keepIn K (.ref f2) = true)
    {f3 : Addr} {od3 an3 : Option Addr} {sl3 : Array (Option Value)} {oc3 kV3 dc3 pm3 cd3 ct3 : Value}
    (ya3 : PySem.W.nsIn K mainGlobals "common_measure" = some (some (.ref f3))) (yl3 : K.lookup f3 = some ⟨oc3, od3, .func (PySem.W.fnOf "common_measure" "common_measure" (defArgs s_common_measure) (defBody s_common_measure) (defScope s_common_measure) .none kV3 dc3 pm3 an3 cd3 ct3), sl3⟩) (yc3 : PySem.W.codeIn K cd3 "common_measure" = true) (yk3 : PySem.W.keepIn K (.ref f3) = true)
    {f4 : Addr} {od4 an4 : Option Addr} {sl4 : Array (Option Value)} {oc4 kV4 dc4 pm4 cd4 ct4 : Value}
    (ya4 : PySem.W.nsIn K mainGlobals "undoing_factor" = some (some (.ref f4))) (yl4 : K.lookup f4 = some ⟨oc4, od4, .func (PySem.W.fnOf "undoing_factor" "undoing_factor" (defArgs s_undoing_factor) (defBody s_undoing_factor) (defScope s_undoing_factor) .none kV4 dc4 pm4 an4 cd4 ct4), sl4⟩) (yc4 : PySem.W.codeIn K cd4 "undoing_factor" = true) (yk4 : PySem.W.keepIn K (.ref f4) = true)
    {f5 : Addr} {od5 an5 : Option Addr} {sl5 : Array (Option Value)} {oc5 kV5 dc5 pm5 cd5 ct5 : Value}
    (ya5 : PySem.W.nsIn K mainGlobals "is_land" = some (some (.ref f5))) (yl5 : K.lookup f5 = some ⟨oc5, od5, .func (PySem.W.fnOf "is_land" "is_land" (defArgs s_is_land) (defBody s_is_land) (defScope s_is_land) .none kV5 dc5 pm5 an5 cd5 ct5), sl5⟩) (yc5 : PySem.W.codeIn K cd5 "is_land" = true) (yk5 : PySem.W.keepIn K (.ref f5) = true)
    {f6 : Addr} {od6 an6 : Option Addr} {sl6 : Array (Option Value)} {oc6 kV6 dc6 pm6 cd6 ct6 : Value}
    (ya6 : PySem.W.nsIn K mainGlobals "need_land" = some (some (.ref f6))) (yl6 : K.lookup f6 = some ⟨oc6, od6, .func (PySem.W.fnOf "need_land" "need_land" (defArgs s_need_land) (defBody s_need_land) (defScope s_need_land) .none kV6 dc6 pm6 an6 cd6 ct6), sl6⟩) (yc6 : PySem.W.codeIn K cd6 "need_land" = true) (yk6 : PySem.W.keepIn K (.ref f6) = true)
    {f7 : Addr} {od7 an7 : Option Addr} {sl7 : Array (Option Value)} {oc7 kV7 dc7 pm7 cd7 ct7 : Value}
    (ya7 : PySem.W.nsIn K mainGlobals "need_year" = some (some (.ref f7))) (yl7 : K.lookup f7 = some ⟨oc7, od7, .func (PySem.W.fnOf "need_year" "need_year" (defArgs s_need_year) (defBody s_need_year) (defScope s_need_year) .none kV7 dc7 pm7 an7 cd7 ct7), sl7⟩) (yc7 : PySem.W.codeIn K cd7 "need_year" = true) (yk7 : PySem.W.keepIn K (.ref f7) = true)
    {f8 : Addr} {od8 an8 : Option Addr} {sl8 : Array (Option Value)} {oc8 kV8 dc8 pm8 cd8 ct8 : Value}
    (ya8 : PySem.W.nsIn K mainGlobals "need_years" = some (some (.ref f8))) (yl8 : K.lookup f8 = some ⟨oc8, od8, .func (PySem.W.fnOf "need_years" "need_years" (defArgs s_need_years) (defBody s_need_years) (defScope s_need_years) .none kV8 dc8 pm8 an8 cd8 ct8), sl8⟩) (yc8 : PySem.W.codeIn K cd8 "need_years" = true) (yk8 : PySem.W.keepIn K (.ref f8) = true)
    {f9 : Addr} {od9 an9 : Option Addr} {sl9 : Array (Option Value)} {oc9 kV9 dc9 pm9 cd9 ct9 : Value}
    (ya9 : PySem.W.nsIn K mainGlobals "need_day" = some (some (.ref f9))) (yl9 : K.lookup f9 = some ⟨oc9, od9, .func (PySem.W.fnOf "need_day" "need_day" (defArgs s_need_day) (defBody s_need_day) (defScope s_need_day) .none kV9 dc9 pm9 an9 cd9 ct9), sl9⟩) (yc9 : PySem.W.codeIn K cd9 "need_day" = true) (yk9 : PySem.W.keepIn K (.ref f9) = true)
    {f10 : Addr} {od10 an10 : Option Addr} {sl10 : Array (Option Value)} {oc10 kV10 dc10 pm10 cd10 ct10 : Value}
    (ya10 : PySem.W.nsIn K mainGlobals "need_days" = some (some (.ref f10))) (yl10 : K.lookup f10 = some ⟨oc10, od10, .func (PySem.W.fnOf "need_days" "need_days" (defArgs s_need_days) (defBody s_need_days) (defScope s_need_days) .none kV10 dc10 pm10 an10 cd10 ct10), sl10⟩) (yc10 : PySem.W.codeIn K cd10 "need_days" = true) (yk10 : PySem.W.keepIn K (.ref f10) = true)
    {f11 : Addr} {od11 an11 : Option Addr} {sl11 : Array (Option Value)} {oc11 kV11 dc11 pm11 cd11 ct11 : Value}
    (ya11 : PySem.W.nsIn K mainGlobals "need_place" = some (some (.ref f11))) (yl11 : K.lookup f11 = some ⟨oc11, od11, .func (PySem.W.fnOf "need_place" "need_place" (defArgs s_need_place) (defBody s_need_place) (defScope s_need_place) .none kV11 dc11 pm11 an11 cd11 ct11), sl11⟩) (yc11 : PySem.W.codeIn K cd11 "need_place" = true) (yk11 : PySem.W.keepIn K (.ref f11) = true)
    {f12 : Addr} {od12 an12 : Option Addr} {sl12 : Array (Option Value)} {oc12 kV12 dc12 pm12 cd12 ct12 : Value}
    (ya12 : PySem.W.nsIn K mainGlobals "step_of" = some (some (.ref f12))) (yl12 : K.lookup f12 = some ⟨oc12, od12, .func (PySem.W.fnOf "step_of" "step_of" (defArgs s_step_of) (defBody s_step_of) (defScope s_step_of) .none kV12 dc12 pm12 an12 cd12 ct12), sl12⟩) (yc12 : PySem.W.codeIn K cd12 "step_of" = true) (yk12 : PySem.W.keepIn K (.ref f12) = true)
    {f13 : Addr} {od13 an13 : Option Addr} {sl13 : Array (Option Value)} {oc13 kV13 dc13 pm13 cd13 ct13 : Value}
    (ya13 : PySem.W.nsIn K mainGlobals "first_day" = some (some (.ref f13))) (yl13 : K.lookup f13 = some ⟨oc13, od13, .func (PySem.W.fnOf "first_day" "first_day" (defArgs s_first_day) (defBody s_first_day) (defScope s_first_day) .none kV13 dc13 pm13 an13 cd13 ct13), sl13⟩) (yc13 : PySem.W.codeIn K cd13 "first_day" = true) (yk13 : PySem.W.keepIn K (.ref f13) = true)
    {f14 : Addr} {od14 an14 : Option Addr} {sl14 : Array (Option Value)} {oc14 kV14 dc14 pm14 cd14 ct14 : Value}
    (ya14 : PySem.W.nsIn K mainGlobals "date_of" = some (some (.ref f14))) (yl14 : K.lookup f14 = some ⟨oc14, od14, .func (PySem.W.fnOf "date_of" "date_of" (defArgs s_date_of) (defBody s_date_of) (defScope s_date_of) .none kV14 dc14 pm14 an14 cd14 ct14), sl14⟩) (yc14 : PySem.W.codeIn K cd14 "date_of" = true) (yk14 : PySem.W.keepIn K (.ref f14) = true)
    {f15 : Addr} {od15 an15 : Option Addr} {sl15 : Array (Option Value)} {oc15 kV15 dc15 pm15 cd15 ct15 : Value}
    (ya15 : PySem.W.nsIn K mainGlobals "added_days" = some (some (.ref f15))) (yl15 : K.lookup f15 = some ⟨oc15, od15, .func (PySem.W.fnOf "added_days" "added_days" (defArgs s_added_days) (defBody s_added_days) (defScope s_added_days) .none kV15 dc15 pm15 an15 cd15 ct15), sl15⟩) (yc15 : PySem.W.codeIn K cd15 "added_days" = true) (yk15 : PySem.W.keepIn K (.ref f15) = true)
    {f16 : Addr} {od16 an16 : Option Addr} {sl16 : Array (Option Value)} {oc16 kV16 dc16 pm16 cd16 ct16 : Value}
    (ya16 : PySem.W.nsIn K mainGlobals "begin" = some (some (.ref f16))) (yl16 : K.lookup f16 = some ⟨oc16, od16, .func (PySem.W.fnOf "begin" "begin" (defArgs s_begin) (defBody s_begin) (defScope s_begin) .none kV16 dc16 pm16 an16 cd16 ct16), sl16⟩) (yc16 : PySem.W.codeIn K cd16 "begin" = true) (yk16 : PySem.W.keepIn K (.ref f16) = true)
    {f17 : Addr} {od17 an17 : Option Addr} {sl17 : Array (Option Value)} {oc17 kV17 dc17 pm17 cd17 ct17 : Value}
    (ya17 : PySem.W.nsIn K mainGlobals "date" = some (some (.ref f17))) (yl17 : K.lookup f17 = some ⟨oc17, od17, .func (PySem.W.fnOf "date" "date" (defArgs s_date) (defBody s_date) (defScope s_date) .none kV17 dc17 pm17 an17 cd17 ct17), sl17⟩) (yc17 : PySem.W.codeIn K cd17 "date" = true) (yk17 : PySem.W.keepIn K (.ref f17) = true)
    {f18 : Addr} {od18 an18 : Option Addr} {sl18 : Array (Option Value)} {oc18 kV18 dc18 pm18 cd18 ct18 : Value}
    (ya18 : PySem.W.nsIn K mainGlobals "is_long" = some (some (.ref f18))) (yl18 : K.lookup f18 = some ⟨oc18, od18, .func (PySem.W.fnOf "is_long" "is_long" (defArgs s_is_long) (defBody s_is_long) (defScope s_is_long) .none kV18 dc18 pm18 an18 cd18 ct18), sl18⟩) (yc18 : PySem.W.codeIn K cd18 "is_long" = true) (yk18 : PySem.W.keepIn K (.ref f18) = true)
    {f19 : Addr} {od19 an19 : Option Addr} {sl19 : Array (Option Value)} {oc19 kV19 dc19 pm19 cd19 ct19 : Value}
    (ya19 : PySem.W.nsIn K mainGlobals "next_long" = some (some (.ref f19))) (yl19 : K.lookup f19 = some ⟨oc19, od19, .func (PySem.W.fnOf "next_long" "next_long" (defArgs s_next_long) (defBody s_next_long) (defScope s_next_long) .none kV19 dc19 pm19 an19 cd19 ct19), sl19⟩) (yc19 : PySem.W.codeIn K cd19 "next_long" = true) (yk19 : PySem.W.keepIn K (.ref f19) = true)
    {f20 : Addr} {od20 an20 : Option Addr} {sl20 : Array (Option Value)} {oc20 kV20 dc20 pm20 cd20 ct20 : Value}
    (ya20 : PySem.W.nsIn K mainGlobals "need_week" = some (some (.ref f20))) (yl20 : K.lookup f20 = some ⟨oc20, od20, .func (PySem.W.fnOf "need_week" "need_week" (defArgs s_need_week) (defBody s_need_week) (defScope s_need_week) .none kV20 dc20 pm20 an20 cd20 ct20), sl20⟩) (yc20 : PySem.W.codeIn K cd20 "need_week" = true) (yk20 : PySem.W.keepIn K (.ref f20) = true)
    {f21 : Addr} {od21 an21 : Option Addr} {sl21 : Array (Option Value)} {oc21 kV21 dc21 pm21 cd21 ct21 : Value}
    (ya21 : PySem.W.nsIn K mainGlobals "need_name" = some (some (.ref f21))) (yl21 : K.lookup f21 = some ⟨oc21, od21, .func (PySem.W.fnOf "need_name" "need_name" (defArgs s_need_name) (defBody s_need_name) (defScope s_need_name) .none kV21 dc21 pm21 an21 cd21 ct21), sl21⟩) (yc21 : PySem.W.codeIn K cd21 "need_name" = true) (yk21 : PySem.W.keepIn K (.ref f21) = true)
    {f22 : Addr} {od22 an22 : Option Addr} {sl22 : Array (Option Value)} {oc22 kV22 dc22 pm22 cd22 ct22 : Value}
    (ya22 : PySem.W.nsIn K mainGlobals "need_asked" = some (some (.ref f22))) (yl22 : K.lookup f22 = some ⟨oc22, od22, .func (PySem.W.fnOf "need_asked" "need_asked" (defArgs s_need_asked) (defBody s_need_asked) (defScope s_need_asked) .none kV22 dc22 pm22 an22 cd22 ct22), sl22⟩) (yc22 : PySem.W.codeIn K cd22 "need_asked" = true) (yk22 : PySem.W.keepIn K (.ref f22) = true)
    {f23 : Addr} {od23 an23 : Option Addr} {sl23 : Array (Option Value)} {oc23 kV23 dc23 pm23 cd23 ct23 : Value}
    (ya23 : PySem.W.nsIn K mainGlobals "ring_of" = some (some (.ref f23))) (yl23 : K.lookup f23 = some ⟨oc23, od23, .func (PySem.W.fnOf "ring_of" "ring_of" (defArgs s_ring_of) (defBody s_ring_of) (defScope s_ring_of) .none kV23 dc23 pm23 an23 cd23 ct23), sl23⟩) (yc23 : PySem.W.codeIn K cd23 "ring_of" = true) (yk23 : PySem.W.keepIn K (.ref f23) = true)
    {f24 : Addr} {od24 an24 : Option Addr} {sl24 : Array (Option Value)} {oc24 kV24 dc24 pm24 cd24 ct24 : Value}
    (ya24 : PySem.W.nsIn K mainGlobals "shared_measure" = some (some (.ref f24))) (yl24 : K.lookup f24 = some ⟨oc24, od24, .func (PySem.W.fnOf "shared_measure" "shared_measure" (defArgs s_shared_measure) (defBody s_shared_measure) (defScope s_shared_measure) .none kV24 dc24 pm24 an24 cd24 ct24), sl24⟩) (yc24 : PySem.W.codeIn K cd24 "shared_measure" = true) (yk24 : PySem.W.keepIn K (.ref f24) = true)
    {f25 : Addr} {od25 an25 : Option Addr} {sl25 : Array (Option Value)} {oc25 kV25 dc25 pm25 cd25 ct25 : Value}
    (ya25 : PySem.W.nsIn K mainGlobals "cycle_of" = some (some (.ref f25))) (yl25 : K.lookup f25 = some ⟨oc25, od25, .func (PySem.W.fnOf "cycle_of" "cycle_of" (defArgs s_cycle_of) (defBody s_cycle_of) (defScope s_cycle_of) .none kV25 dc25 pm25 an25 cd25 ct25), sl25⟩) (yc25 : PySem.W.codeIn K cd25 "cycle_of" = true) (yk25 : PySem.W.keepIn K (.ref f25) = true)
    {f26 : Addr} {od26 an26 : Option Addr} {sl26 : Array (Option Value)} {oc26 kV26 dc26 pm26 cd26 ct26 : Value}
    (ya26 : PySem.W.nsIn K mainGlobals "falls" = some (some (.ref f26))) (yl26 : K.lookup f26 = some ⟨oc26, od26, .func (PySem.W.fnOf "falls" "falls" (defArgs s_falls) (defBody s_falls) (defScope s_falls) .none kV26 dc26 pm26 an26 cd26 ct26), sl26⟩) (yc26 : PySem.W.codeIn K cd26 "falls" = true) (yk26 : PySem.W.keepIn K (.ref f26) = true)
    {f27 : Addr} {od27 an27 : Option Addr} {sl27 : Array (Option Value)} {oc27 kV27 dc27 pm27 cd27 ct27 : Value}
    (ya27 : PySem.W.nsIn K mainGlobals "falling_years" = some (some (.ref f27))) (yl27 : K.lookup f27 = some ⟨oc27, od27, .func (PySem.W.fnOf "falling_years" "falling_years" (defArgs s_falling_years) (defBody s_falling_years) (defScope s_falling_years) .none kV27 dc27 pm27 an27 cd27 ct27), sl27⟩) (yc27 : PySem.W.codeIn K cd27 "falling_years" = true) (yk27 : PySem.W.keepIn K (.ref f27) = true)
    {f28 : Addr} {od28 an28 : Option Addr} {sl28 : Array (Option Value)} {oc28 kV28 dc28 pm28 cd28 ct28 : Value}
    (ya28 : PySem.W.nsIn K mainGlobals "next_year" = some (some (.ref f28))) (yl28 : K.lookup f28 = some ⟨oc28, od28, .func (PySem.W.fnOf "next_year" "next_year" (defArgs s_next_year) (defBody s_next_year) (defScope s_next_year) .none kV28 dc28 pm28 an28 cd28 ct28), sl28⟩) (yc28 : PySem.W.codeIn K cd28 "next_year" = true) (yk28 : PySem.W.keepIn K (.ref f28) = true)
    {f29 : Addr} {od29 an29 : Option Addr} {sl29 : Array (Option Value)} {oc29 kV29 dc29 pm29 cd29 ct29 : Value}
    (ya29 : PySem.W.nsIn K mainGlobals "how_many" = some (some (.ref f29))) (yl29 : K.lookup f29 = some ⟨oc29, od29, .func (PySem.W.fnOf "how_many" "how_many" (defArgs s_how_many) (defBody s_how_many) (defScope s_how_many) .none kV29 dc29 pm29 an29 cd29 ct29), sl29⟩) (yc29 : PySem.W.codeIn K cd29 "how_many" = true) (yk29 : PySem.W.keepIn K (.ref f29) = true)
    {f30 : Addr} {od30 an30 : Option Addr} {sl30 : Array (Option Value)} {oc30 kV30 dc30 pm30 cd30 ct30 : Value}
    (ya30 : PySem.W.nsIn K mainGlobals "lengths" = some (some (.ref f30))) (yl30 : K.lookup f30 = some ⟨oc30, od30, .func (PySem.W.fnOf "lengths" "lengths" (defArgs s_lengths) (defBody s_lengths) (defScope s_lengths) .none kV30 dc30 pm30 an30 cd30 ct30), sl30⟩) (yc30 : PySem.W.codeIn K cd30 "lengths" = true) (yk30 : PySem.W.keepIn K (.ref f30) = true)
    {f31 : Addr} {od31 an31 : Option Addr} {sl31 : Array (Option Value)} {oc31 kV31 dc31 pm31 cd31 ct31 : Value}
    (ya31 : PySem.W.nsIn K mainGlobals "is_barring" = some (some (.ref f31))) (yl31 : K.lookup f31 = some ⟨oc31, od31, .func (PySem.W.fnOf "is_barring" "is_barring" (defArgs s_is_barring) (defBody s_is_barring) (defScope s_is_barring) .none kV31 dc31 pm31 an31 cd31 ct31), sl31⟩) (yc31 : PySem.W.codeIn K cd31 "is_barring" = true) (yk31 : PySem.W.keepIn K (.ref f31) = true)
    {f32 : Addr} {od32 an32 : Option Addr} {sl32 : Array (Option Value)} {oc32 kV32 dc32 pm32 cd32 ct32 : Value}
    (ya32 : PySem.W.nsIn K mainGlobals "barring" = some (some (.ref f32))) (yl32 : K.lookup f32 = some ⟨oc32, od32, .func (PySem.W.fnOf "barring" "barring" (defArgs s_barring) (defBody s_barring) (defScope s_barring) .none kV32 dc32 pm32 an32 cd32 ct32), sl32⟩) (yc32 : PySem.W.codeIn K cd32 "barring" = true) (yk32 : PySem.W.keepIn K (.ref f32) = true)
    {f33 : Addr} {od33 an33 : Option Addr} {sl33 : Array (Option Value)} {oc33 kV33 dc33 pm33 cd33 ct33 : Value}
    (ya33 : PySem.W.nsIn K mainGlobals "bars" = some (some (.ref f33))) (yl33 : K.lookup f33 = some ⟨oc33, od33, .func (PySem.W.fnOf "bars" "bars" (defArgs s_bars) (defBody s_bars) (defScope s_bars) .none kV33 dc33 pm33 an33 cd33 ct33), sl33⟩) (yc33 : PySem.W.codeIn K cd33 "bars" = true) (yk33 : PySem.W.keepIn K (.ref f33) = true)
    {f34 : Addr} {od34 an34 : Option Addr} {sl34 : Array (Option Value)} {oc34 kV34 dc34 pm34 cd34 ct34 : Value}
    (ya34 : PySem.W.nsIn K mainGlobals "need_places" = some (some (.ref f34))) (yl34 : K.lookup f34 = some ⟨oc34, od34, .func (PySem.W.fnOf "need_places" "need_places" (defArgs s_need_places) (defBody s_need_places) (defScope s_need_places) .none kV34 dc34 pm34 an34 cd34 ct34), sl34⟩) (yc34 : PySem.W.codeIn K cd34 "need_places" = true) (yk34 : PySem.W.keepIn K (.ref f34) = true)
    {f35 : Addr} {od35 an35 : Option Addr} {sl35 : Array (Option Value)} {oc35 kV35 dc35 pm35 cd35 ct35 : Value}
    (ya35 : PySem.W.nsIn K mainGlobals "placed_days" = some (some (.ref f35))) (yl35 : K.lookup f35 = some ⟨oc35, od35, .func (PySem.W.fnOf "placed_days" "placed_days" (defArgs s_placed_days) (defBody s_placed_days) (defScope s_placed_days) .none kV35 dc35 pm35 an35 cd35 ct35), sl35⟩) (yc35 : PySem.W.codeIn K cd35 "placed_days" = true) (yk35 : PySem.W.keepIn K (.ref f35) = true)
    {f36 : Addr} {od36 an36 : Option Addr} {sl36 : Array (Option Value)} {oc36 kV36 dc36 pm36 cd36 ct36 : Value}
    (ya36 : PySem.W.nsIn K mainGlobals "shared_step" = some (some (.ref f36))) (yl36 : K.lookup f36 = some ⟨oc36, od36, .func (PySem.W.fnOf "shared_step" "shared_step" (defArgs s_shared_step) (defBody s_shared_step) (defScope s_shared_step) .none kV36 dc36 pm36 an36 cd36 ct36), sl36⟩) (yc36 : PySem.W.codeIn K cd36 "shared_step" = true) (yk36 : PySem.W.keepIn K (.ref f36) = true)
    {f37 : Addr} {od37 an37 : Option Addr} {sl37 : Array (Option Value)} {oc37 kV37 dc37 pm37 cd37 ct37 : Value}
    (ya37 : PySem.W.nsIn K mainGlobals "round_from" = some (some (.ref f37))) (yl37 : K.lookup f37 = some ⟨oc37, od37, .func (PySem.W.fnOf "round_from" "round_from" (defArgs s_round_from) (defBody s_round_from) (defScope s_round_from) .none kV37 dc37 pm37 an37 cd37 ct37), sl37⟩) (yc37 : PySem.W.codeIn K cd37 "round_from" = true) (yk37 : PySem.W.keepIn K (.ref f37) = true)
    {f38 : Addr} {od38 an38 : Option Addr} {sl38 : Array (Option Value)} {oc38 kV38 dc38 pm38 cd38 ct38 : Value}
    (ya38 : PySem.W.nsIn K mainGlobals "ends_ahead" = some (some (.ref f38))) (yl38 : K.lookup f38 = some ⟨oc38, od38, .func (PySem.W.fnOf "ends_ahead" "ends_ahead" (defArgs s_ends_ahead) (defBody s_ends_ahead) (defScope s_ends_ahead) .none kV38 dc38 pm38 an38 cd38 ct38), sl38⟩) (yc38 : PySem.W.codeIn K cd38 "ends_ahead" = true) (yk38 : PySem.W.keepIn K (.ref f38) = true)
    {f39 : Addr} {od39 an39 : Option Addr} {sl39 : Array (Option Value)} {oc39 kV39 dc39 pm39 cd39 ct39 : Value}
    (ya39 : PySem.W.nsIn K mainGlobals "next_day" = some (some (.ref f39))) (yl39 : K.lookup f39 = some ⟨oc39, od39, .func (PySem.W.fnOf "next_day" "next_day" (defArgs s_next_day) (defBody s_next_day) (defScope s_next_day) .none kV39 dc39 pm39 an39 cd39 ct39), sl39⟩) (yc39 : PySem.W.codeIn K cd39 "next_day" = true) (yk39 : PySem.W.keepIn K (.ref f39) = true)
    {f40 : Addr} {od40 an40 : Option Addr} {sl40 : Array (Option Value)} {oc40 kV40 dc40 pm40 cd40 ct40 : Value}
    (ya40 : PySem.W.nsIn K mainGlobals "days" = some (some (.ref f40))) (yl40 : K.lookup f40 = some ⟨oc40, od40, .func (PySem.W.fnOf "days" "days" (defArgs s_days) (defBody s_days) (defScope s_days) .none kV40 dc40 pm40 an40 cd40 ct40), sl40⟩) (yc40 : PySem.W.codeIn K cd40 "days" = true) (yk40 : PySem.W.keepIn K (.ref f40) = true)
    {f41 : Addr} {od41 an41 : Option Addr} {sl41 : Array (Option Value)} {oc41 kV41 dc41 pm41 cd41 ct41 : Value}
    (ya41 : PySem.W.nsIn K mainGlobals "is_parting" = some (some (.ref f41))) (yl41 : K.lookup f41 = some ⟨oc41, od41, .func (PySem.W.fnOf "is_parting" "is_parting" (defArgs s_is_parting) (defBody s_is_parting) (defScope s_is_parting) .none kV41 dc41 pm41 an41 cd41 ct41), sl41⟩) (yc41 : PySem.W.codeIn K cd41 "is_parting" = true) (yk41 : PySem.W.keepIn K (.ref f41) = true)
    {f42 : Addr} {od42 an42 : Option Addr} {sl42 : Array (Option Value)} {oc42 kV42 dc42 pm42 cd42 ct42 : Value}
    (ya42 : PySem.W.nsIn K mainGlobals "parting" = some (some (.ref f42))) (yl42 : K.lookup f42 = some ⟨oc42, od42, .func (PySem.W.fnOf "parting" "parting" (defArgs s_parting) (defBody s_parting) (defScope s_parting) .none kV42 dc42 pm42 an42 cd42 ct42), sl42⟩) (yc42 : PySem.W.codeIn K cd42 "parting" = true) (yk42 : PySem.W.keepIn K (.ref f42) = true)
    {f43 : Addr} {od43 an43 : Option Addr} {sl43 : Array (Option Value)} {oc43 kV43 dc43 pm43 cd43 ct43 : Value}
    (ya43 : PySem.W.nsIn K mainGlobals "first_parting" = some (some (.ref f43))) (yl43 : K.lookup f43 = some ⟨oc43, od43, .func (PySem.W.fnOf "first_parting" "first_parting" (defArgs s_first_parting) (defBody s_first_parting) (defScope s_first_parting) .none kV43 dc43 pm43 an43 cd43 ct43), sl43⟩) (yc43 : PySem.W.codeIn K cd43 "first_parting" = true) (yk43 : PySem.W.keepIn K (.ref f43) = true)
    {f44 : Addr} {od44 an44 : Option Addr} {sl44 : Array (Option Value)} {oc44 kV44 dc44 pm44 cd44 ct44 : Value}
    (ya44 : PySem.W.nsIn K mainGlobals "is_seen_year" = some (some (.ref f44))) (yl44 : K.lookup f44 = some ⟨oc44, od44, .func (PySem.W.fnOf "is_seen_year" "is_seen_year" (defArgs s_is_seen_year) (defBody s_is_seen_year) (defScope s_is_seen_year) .none kV44 dc44 pm44 an44 cd44 ct44), sl44⟩) (yc44 : PySem.W.codeIn K cd44 "is_seen_year" = true) (yk44 : PySem.W.keepIn K (.ref f44) = true)
    {f45 : Addr} {od45 an45 : Option Addr} {sl45 : Array (Option Value)} {oc45 kV45 dc45 pm45 cd45 ct45 : Value}
    (ya45 : PySem.W.nsIn K mainGlobals "is_seen" = some (some (.ref f45))) (yl45 : K.lookup f45 = some ⟨oc45, od45, .func (PySem.W.fnOf "is_seen" "is_seen" (defArgs s_is_seen) (defBody s_is_seen) (defScope s_is_seen) .none kV45 dc45 pm45 an45 cd45 ct45), sl45⟩) (yc45 : PySem.W.codeIn K cd45 "is_seen" = true) (yk45 : PySem.W.keepIn K (.ref f45) = true)
    {f46 : Addr} {od46 an46 : Option Addr} {sl46 : Array (Option Value)} {oc46 kV46 dc46 pm46 cd46 ct46 : Value}
    (ya46 : PySem.W.nsIn K mainGlobals "need_seen" = some (some (.ref f46))) (yl46 : K.lookup f46 = some ⟨oc46, od46, .func (PySem.W.fnOf "need_seen" "need_seen" (defArgs s_need_seen) (defBody s_need_seen) (defScope s_need_seen) .none kV46 dc46 pm46 an46 cd46 ct46), sl46⟩) (yc46 : PySem.W.codeIn K cd46 "need_seen" = true) (yk46 : PySem.W.keepIn K (.ref f46) = true)
    {f47 : Addr} {od47 an47 : Option Addr} {sl47 : Array (Option Value)} {oc47 kV47 dc47 pm47 cd47 ct47 : Value}
    (ya47 : PySem.W.nsIn K mainGlobals "need_most" = some (some (.ref f47))) (yl47 : K.lookup f47 = some ⟨oc47, od47, .func (PySem.W.fnOf "need_most" "need_most" (defArgs s_need_most) (defBody s_need_most) (defScope s_need_most) .none kV47 dc47 pm47 an47 cd47 ct47), sl47⟩) (yc47 : PySem.W.codeIn K cd47 "need_most" = true) (yk47 : PySem.W.keepIn K (.ref f47) = true)
    {f48 : Addr} {od48 an48 : Option Addr} {sl48 : Array (Option Value)} {oc48 kV48 dc48 pm48 cd48 ct48 : Value}
    (ya48 : PySem.W.nsIn K mainGlobals "possible_days" = some (some (.ref f48))) (yl48 : K.lookup f48 = some ⟨oc48, od48, .func (PySem.W.fnOf "possible_days" "possible_days" (defArgs s_possible_days) (defBody s_possible_days) (defScope s_possible_days) .none kV48 dc48 pm48 an48 cd48 ct48), sl48⟩) (yc48 : PySem.W.codeIn K cd48 "possible_days" = true) (yk48 : PySem.W.keepIn K (.ref f48) = true)
    {f49 : Addr} {od49 an49 : Option Addr} {sl49 : Array (Option Value)} {oc49 kV49 dc49 pm49 cd49 ct49 : Value}
    (ya49 : PySem.W.nsIn K mainGlobals "possible_shifts" = some (some (.ref f49))) (yl49 : K.lookup f49 = some ⟨oc49, od49, .func (PySem.W.fnOf "possible_shifts" "possible_shifts" (defArgs s_possible_shifts) (defBody s_possible_shifts) (defScope s_possible_shifts) .none kV49 dc49 pm49 an49 cd49 ct49), sl49⟩) (yc49 : PySem.W.codeIn K cd49 "possible_shifts" = true) (yk49 : PySem.W.keepIn K (.ref f49) = true)
    {f50 : Addr} {od50 an50 : Option Addr} {sl50 : Array (Option Value)} {oc50 kV50 dc50 pm50 cd50 ct50 : Value}
    (ya50 : PySem.W.nsIn K mainGlobals "lands_of" = some (some (.ref f50))) (yl50 : K.lookup f50 = some ⟨oc50, od50, .func (PySem.W.fnOf "lands_of" "lands_of" (defArgs s_lands_of) (defBody s_lands_of) (defScope s_lands_of) .none kV50 dc50 pm50 an50 cd50 ct50), sl50⟩) (yc50 : PySem.W.codeIn K cd50 "lands_of" = true) (yk50 : PySem.W.keepIn K (.ref f50) = true)
    {f51 : Addr} {od51 an51 : Option Addr} {sl51 : Array (Option Value)} {oc51 kV51 dc51 pm51 cd51 ct51 : Value}
    (ya51 : PySem.W.nsIn K mainGlobals "need_realm_place" = some (some (.ref f51))) (yl51 : K.lookup f51 = some ⟨oc51, od51, .func (PySem.W.fnOf "need_realm_place" "need_realm_place" (defArgs s_need_realm_place) (defBody s_need_realm_place) (defScope s_need_realm_place) .none kV51 dc51 pm51 an51 cd51 ct51), sl51⟩) (yc51 : PySem.W.codeIn K cd51 "need_realm_place" = true) (yk51 : PySem.W.keepIn K (.ref f51) = true)
    {f52 : Addr} {od52 an52 : Option Addr} {sl52 : Array (Option Value)} {oc52 kV52 dc52 pm52 cd52 ct52 : Value}
    (ya52 : PySem.W.nsIn K mainGlobals "_law_deck" = some (some (.ref f52))) (yl52 : K.lookup f52 = some ⟨oc52, od52, .func (PySem.W.fnOf "_law_deck" "_law_deck" (defArgs s__law_deck) (defBody s__law_deck) (defScope s__law_deck) .none kV52 dc52 pm52 an52 cd52 ct52), sl52⟩) (yc52 : PySem.W.codeIn K cd52 "_law_deck" = true) (yk52 : PySem.W.keepIn K (.ref f52) = true)
    {f53 : Addr} {od53 an53 : Option Addr} {sl53 : Array (Option Value)} {oc53 kV53 dc53 pm53 cd53 ct53 : Value}
    (ya53 : PySem.W.nsIn K mainGlobals "_law_pick" = some (some (.ref f53))) (yl53 : K.lookup f53 = some ⟨oc53, od53, .func (PySem.W.fnOf "_law_pick" "_law_pick" (defArgs s__law_pick) (defBody s__law_pick) (defScope s__law_pick) .none kV53 dc53 pm53 an53 cd53 ct53), sl53⟩) (yc53 : PySem.W.codeIn K cd53 "_law_pick" = true) (yk53 : PySem.W.keepIn K (.ref f53) = true)
    {f54 : Addr} {od54 an54 : Option Addr} {sl54 : Array (Option Value)} {oc54 kV54 dc54 pm54 cd54 ct54 : Value}
    (ya54 : PySem.W.nsIn K mainGlobals "_law_suns_right" = some (some (.ref f54))) (yl54 : K.lookup f54 = some ⟨oc54, od54, .func (PySem.W.fnOf "_law_suns_right" "_law_suns_right" (defArgs s__law_suns_right) (defBody s__law_suns_right) (defScope s__law_suns_right) .none kV54 dc54 pm54 an54 cd54 ct54), sl54⟩) (yc54 : PySem.W.codeIn K cd54 "_law_suns_right" = true) (yk54 : PySem.W.keepIn K (.ref f54) = true)
    {f55 : Addr} {od55 an55 : Option Addr} {sl55 : Array (Option Value)} {oc55 kV55 dc55 pm55 cd55 ct55 : Value}
    (ya55 : PySem.W.nsIn K mainGlobals "law" = some (some (.ref f55))) (yl55 : K.lookup f55 = some ⟨oc55, od55, .func (PySem.W.fnOf "law" "law" (defArgs s_law) (defBody s_law) (defScope s_law) .none kV55 dc55 pm55 an55 cd55 ct55), sl55⟩) (yc55 : PySem.W.codeIn K cd55 "law" = true) (yk55 : PySem.W.keepIn K (.ref f55) = true)
    {tk0 : Tok} (ycst0 : PySem.W.nsIn K mainGlobals "MOST_DAYS" = some (some (.int 400 tk0)))
    {tk1 : Tok} (ycst1 : PySem.W.nsIn K mainGlobals "MOST_BOTTOM" = some (some (.int 60 tk1)))
    {tk2 : Tok} (ycst2 : PySem.W.nsIn K mainGlobals "MOST_SHIFT" = some (some (.int 1000000 tk2)))
    {tk3 : Tok} (ycst3 : PySem.W.nsIn K mainGlobals "FARTHEST" = some (some (.int 1000000000000000000000000000000 tk3)))
    {tk4 : Tok} (ycst4 : PySem.W.nsIn K mainGlobals "LONGEST_WEEK" = some (some (.int 20 tk4)))
    {tk5 : Tok} (ycst5 : PySem.W.nsIn K mainGlobals "FEWEST_SEEN" = some (some (.int 2 tk5)))
    {tk6 : Tok} (ycst6 : PySem.W.nsIn K mainGlobals "MOST_SEEN" = some (some (.int 6 tk6)))
    {tk7 : Tok} (ycst7 : PySem.W.nsIn K mainGlobals "FARTHEST_SEEN_YEAR" = some (some (.int 10000 tk7)))
    {tk8 : Tok} (ycst8 : PySem.W.nsIn K mainGlobals "FARTHEST_SEEN_DAY" = some (some (.int 1000000 tk8)))
    {tk9 : Tok} (ycst9 : PySem.W.nsIn K mainGlobals "MOST_TOLD_BOTTOM" = some (some (.int 12 tk9)))
    (yz0 : PySem.W.nsIn K mainGlobals "isinstance" = some none)
    (yz1 : PySem.W.nsIn K mainGlobals "int" = some none)
    (yz2 : PySem.W.nsIn K mainGlobals "bool" = some none)
    (yz3 : PySem.W.nsIn K mainGlobals "tuple" = some none)
    (yz4 : PySem.W.nsIn K mainGlobals "len" = some none)
    (yz5 : PySem.W.nsIn K mainGlobals "range" = some none)
    (yz6 : PySem.W.nsIn K mainGlobals "divmod" = some none)
    (yz7 : PySem.W.nsIn K mainGlobals "zip" = some none)
    (yz8 : PySem.W.nsIn K mainGlobals "sorted" = some none)
    (yz9 : PySem.W.nsIn K mainGlobals "min" = some none)
    (yz10 : PySem.W.nsIn K mainGlobals "sum" = some none)
    (yz11 : PySem.W.nsIn K mainGlobals "any" = some none)
    (yz12 : PySem.W.nsIn K mainGlobals "all" = some none)
    (yz13 : PySem.W.nsIn K mainGlobals "list" = some none)
    (yz14 : PySem.W.nsIn K mainGlobals "max" = some none)
    (yz15 : PySem.W.nsIn K mainGlobals "enumerate" = some none)
    (yz16 : PySem.W.nsIn K mainGlobals "ValueError" = some none)
    {C_Realm : Addr} (yC_Realm : PySem.W.nsIn K mainGlobals "Realm" = some (some (.ref C_Realm))) (ypg_Realm : PySem.W.plainGet K C_Realm Str.empty = true) (yhd_Realm : PySem.W.hasDictIn K C_Realm = true) (ypo_Realm : PySem.W.plainOver K C_Realm = true) (ysa_Realm : PySem.W.findIn K (.ref C_Realm) "__setattr__" = some (some (.builtin "object.__setattr__"))) (ymk_Realm : PySem.W.makesIn K C_Realm = true) (ykc_Realm : PySem.W.keepIn K (.ref C_Realm) = true)
    (ynf_Realm_pairs : PySem.W.findIn K (.ref C_Realm) "pairs" = some none)
    {fM_Realm_init : Addr} {odM_Realm_init anM_Realm_init : Option Addr} {slM_Realm_init : Array (Option Value)} {ocM_Realm_init kVM_Realm_init dcM_Realm_init pmM_Realm_init cdM_Realm_init ctM_Realm_init : Value}
    (yma_Realm_init : PySem.W.findIn K (.ref C_Realm) "__init__" = some (some (.ref fM_Realm_init))) (ymi_Realm_init : PySem.W.isFn K (.ref fM_Realm_init) = true) (yml_Realm_init : K.lookup fM_Realm_init = some ⟨ocM_Realm_init, odM_Realm_init, .func (PySem.W.fnOf "__init__" "Realm.__init__" (defArgs s_Realm_init) (defBody s_Realm_init) (defScope s_Realm_init) .none kVM_Realm_init dcM_Realm_init pmM_Realm_init anM_Realm_init cdM_Realm_init ctM_Realm_init), slM_Realm_init⟩) (ymc_Realm_init : PySem.W.codeIn K cdM_Realm_init "Realm.__init__" = true) (ymk_Realm_init : PySem.W.keepIn K (.ref fM_Realm_init) = true)
    {fM_Realm_change : Addr} {odM_Realm_change anM_Realm_change : Option Addr} {slM_Realm_change : Array (Option Value)} {ocM_Realm_change kVM_Realm_change dcM_Realm_change pmM_Realm_change cdM_Realm_change ctM_Realm_change : Value}
    (yma_Realm_change : PySem.W.findIn K (.ref C_Realm) "change" = some (some (.ref fM_Realm_change))) (ymi_Realm_change : PySem.W.isFn K (.ref fM_Realm_change) = true) (yml_Realm_change : K.lookup fM_Realm_change = some ⟨ocM_Realm_change, odM_Realm_change, .func (PySem.W.fnOf "change" "Realm.change" (defArgs s_Realm_change) (defBody s_Realm_change) (defScope s_Realm_change) .none kVM_Realm_change dcM_Realm_change pmM_Realm_change anM_Realm_change cdM_Realm_change ctM_Realm_change), slM_Realm_change⟩) (ymc_Realm_change : PySem.W.codeIn K cdM_Realm_change "Realm.change" = true) (ymk_Realm_change : PySem.W.keepIn K (.ref fM_Realm_change) = true)
    {fM_Realm_date : Addr} {odM_Realm_date anM_Realm_date : Option Addr} {slM_Realm_date : Array (Option Value)} {ocM_Realm_date kVM_Realm_date dcM_Realm_date pmM_Realm_date cdM_Realm_date ctM_Realm_date : Value}
    (yma_Realm_date : PySem.W.findIn K (.ref C_Realm) "date" = some (some (.ref fM_Realm_date))) (ymi_Realm_date : PySem.W.isFn K (.ref fM_Realm_date) = true) (yml_Realm_date : K.lookup fM_Realm_date = some ⟨ocM_Realm_date, odM_Realm_date, .func (PySem.W.fnOf "date" "Realm.date" (defArgs s_Realm_date) (defBody s_Realm_date) (defScope s_Realm_date) .none kVM_Realm_date dcM_Realm_date pmM_Realm_date anM_Realm_date cdM_Realm_date ctM_Realm_date), slM_Realm_date⟩) (ymc_Realm_date : PySem.W.codeIn K cdM_Realm_date "Realm.date" = true) (ymk_Realm_date : PySem.W.keepIn K (.ref fM_Realm_date) = true)
    {fM_Realm_days_of : Addr} {odM_Realm_days_of anM_Realm_days_of : Option Addr} {slM_Realm_days_of : Array (Option Value)} {ocM_Realm_days_of kVM_Realm_days_of dcM_Realm_days_of pmM_Realm_days_of cdM_Realm_days_of ctM_Realm_days_of : Value}
    (yma_Realm_days_of : PySem.W.findIn K (.ref C_Realm) "days_of" = some (some (.ref fM_Realm_days_of))) (ymi_Realm_days_of : PySem.W.isFn K (.ref fM_Realm_days_of) = true) (yml_Realm_days_of : K.lookup fM_Realm_days_of = some ⟨ocM_Realm_days_of, odM_Realm_days_of, .func (PySem.W.fnOf "days_of" "Realm.days_of" (defArgs s_Realm_days_of) (defBody s_Realm_days_of) (defScope s_Realm_days_of) .none kVM_Realm_days_of dcM_Realm_days_of pmM_Realm_days_of anM_Realm_days_of cdM_Realm_days_of ctM_Realm_days_of), slM_Realm_days_of⟩) (ymc_Realm_days_of : PySem.W.codeIn K cdM_Realm_days_of "Realm.days_of" = true) (ymk_Realm_days_of : PySem.W.keepIn K (.ref fM_Realm_days_of) = true)
    {fM_Realm_is_later : Addr} {odM_Realm_is_later anM_Realm_is_later : Option Addr} {slM_Realm_is_later : Array (Option Value)} {ocM_Realm_is_later kVM_Realm_is_later dcM_Realm_is_later pmM_Realm_is_later cdM_Realm_is_later ctM_Realm_is_later : Value}
    (yma_Realm_is_later : PySem.W.findIn K (.ref C_Realm) "is_later" = some (some (.ref fM_Realm_is_later))) (ymi_Realm_is_later : PySem.W.isFn K (.ref fM_Realm_is_later) = true) (yml_Realm_is_later : K.lookup fM_Realm_is_later = some ⟨ocM_Realm_is_later, odM_Realm_is_later, .func (PySem.W.fnOf "is_later" "Realm.is_later" (defArgs s_Realm_is_later) (defBody s_Realm_is_later) (defScope s_Realm_is_later) .none kVM_Realm_is_later dcM_Realm_is_later pmM_Realm_is_later anM_Realm_is_later cdM_Realm_is_later ctM_Realm_is_later), slM_Realm_is_later⟩) (ymc_Realm_is_later : PySem.W.codeIn K cdM_Realm_is_later "Realm.is_later" = true) (ymk_Realm_is_later : PySem.W.keepIn K (.ref fM_Realm_is_later) = true)
    {fM_Realm_rules : Addr} {odM_Realm_rules anM_Realm_rules : Option Addr} {slM_Realm_rules : Array (Option Value)} {ocM_Realm_rules kVM_Realm_rules dcM_Realm_rules pmM_Realm_rules cdM_Realm_rules ctM_Realm_rules : Value}
    (yma_Realm_rules : PySem.W.findIn K (.ref C_Realm) "rules" = some (some (.ref fM_Realm_rules))) (ymi_Realm_rules : PySem.W.isFn K (.ref fM_Realm_rules) = true) (yml_Realm_rules : K.lookup fM_Realm_rules = some ⟨ocM_Realm_rules, odM_Realm_rules, .func (PySem.W.fnOf "rules" "Realm.rules" (defArgs s_Realm_rules) (defBody s_Realm_rules) (defScope s_Realm_rules) .none kVM_Realm_rules dcM_Realm_rules pmM_Realm_rules anM_Realm_rules cdM_Realm_rules ctM_Realm_rules), slM_Realm_rules⟩) (ymc_Realm_rules : PySem.W.codeIn K cdM_Realm_rules "Realm.rules" = true) (ymk_Realm_rules : PySem.W.keepIn K (.ref fM_Realm_rules) = true)
    {fM_Realm_land_on : Addr} {odM_Realm_land_on anM_Realm_land_on : Option Addr} {slM_Realm_land_on : Array (Option Value)} {ocM_Realm_land_on kVM_Realm_land_on dcM_Realm_land_on pmM_Realm_land_on cdM_Realm_land_on ctM_Realm_land_on : Value}
    (yma_Realm_land_on : PySem.W.findIn K (.ref C_Realm) "land_on" = some (some (.ref fM_Realm_land_on))) (ymi_Realm_land_on : PySem.W.isFn K (.ref fM_Realm_land_on) = true) (yml_Realm_land_on : K.lookup fM_Realm_land_on = some ⟨ocM_Realm_land_on, odM_Realm_land_on, .func (PySem.W.fnOf "land_on" "Realm.land_on" (defArgs s_Realm_land_on) (defBody s_Realm_land_on) (defScope s_Realm_land_on) .none kVM_Realm_land_on dcM_Realm_land_on pmM_Realm_land_on anM_Realm_land_on cdM_Realm_land_on ctM_Realm_land_on), slM_Realm_land_on⟩) (ymc_Realm_land_on : PySem.W.codeIn K cdM_Realm_land_on "Realm.land_on" = true) (ymk_Realm_land_on : PySem.W.keepIn K (.ref fM_Realm_land_on) = true)
    : ∃ fd : FuncData, (∀ (s : Shared) (v : Value), BindsTo s fd ⟨[v], []⟩ [("script", v)]) ∧ ∀ base : Heap, K.In base → base.Ns mainGlobals mg → FnOk l.prog w K mg base CX0 8 fa fd ["script"] (spLaw K) := by
  have e := hfa.symm.trans (PySem.W.mg_of X G ya55)
  cases e
  have F0 := fun_mk (st := s__wall) yl0 yc0 yk0
  have b0 := F0.binds (ps := ["k"]) fun _ _ _ _ _ _ us hl => match us, hl with | [_], _ => rfl
  have F1 := fun_mk (st := s_is_whole) yl1 yc1 yk1
  have b1 := F1.binds (ps := ["thing"]) fun _ _ _ _ _ _ us hl => match us, hl with | [_], _ => rfl
  have F2 := fun_mk (st := s_is_between) yl2 yc2 yk2
  have b2 := F2.binds (ps := ["thing", "least", "most"]) fun _ _ _ _ _ _ us hl => match us, hl with | [_, _, _], _ => rfl
  have F3 := fun_mk (st := s_common_measure) yl3 yc3 yk3
  have b3 := F3.binds (ps := ["one", "other"]) fun _ _ _ _ _ _ us hl => match us, hl with | [_, _], _ => rfl
  have F4 := fun_mk (st := s_undoing_factor) yl4 yc4 yk4
  have b4 := F4.binds (ps := ["number", "ring"]) fun _ _ _ _ _ _ us hl => match us, hl with | [_, _], _ => rfl
  have F5 := fun_mk (st := s_is_land) yl5 yc5 yk5
  have b5 := F5.binds (ps := ["thing"]) fun _ _ _ _ _ _ us hl => match us, hl with | [_], _ => rfl
  have F6 := fun_mk (st := s_need_land) yl6 yc6 yk6
  have b6 := F6.binds (ps := ["thing"]) fun _ _ _ _ _ _ us hl => match us, hl with | [_], _ => rfl
  have F7 := fun_mk (st := s_need_year) yl7 yc7 yk7
  have b7 := F7.binds (ps := ["thing"]) fun _ _ _ _ _ _ us hl => match us, hl with | [_], _ => rfl
  have F8 := fun_mk (st := s_need_years) yl8 yc8 yk8
  have b8 := F8.binds (ps := ["first", "last"]) fun _ _ _ _ _ _ us hl => match us, hl with | [_, _], _ => rfl
  have F9 := fun_mk (st := s_need_day) yl9 yc9 yk9
  have b9 := F9.binds (ps := ["thing"]) fun _ _ _ _ _ _ us hl => match us, hl with | [_], _ => rfl
  have F10 := fun_mk (st := s_need_days) yl10 yc10 yk10
  have b10 := F10.binds (ps := ["first", "last"]) fun _ _ _ _ _ _ us hl => match us, hl with | [_, _], _ => rfl
  have F11 := fun_mk (st := s_need_place) yl11 yc11 yk11
  have b11 := F11.binds (ps := ["land", "thing"]) fun _ _ _ _ _ _ us hl => match us, hl with | [_, _], _ => rfl
  have F12 := fun_mk (st := s_step_of) yl12 yc12 yk12
  have b12 := F12.binds (ps := ["land"]) fun _ _ _ _ _ _ us hl => match us, hl with | [_], _ => rfl
  have F13 := fun_mk (st := s_first_day) yl13 yc13 yk13
  have b13 := F13.binds (ps := ["land", "year"]) fun _ _ _ _ _ _ us hl => match us, hl with | [_, _], _ => rfl
  have F14 := fun_mk (st := s_date_of) yl14 yc14 yk14
  have b14 := F14.binds (ps := ["land", "day"]) fun _ _ _ _ _ _ us hl => match us, hl with | [_, _], _ => rfl
  have F15 := fun_mk (st := s_added_days) yl15 yc15 yk15
  have b15 := F15.binds (ps := ["land", "year"]) fun _ _ _ _ _ _ us hl => match us, hl with | [_, _], _ => rfl
  have F16 := fun_mk (st := s_begin) yl16 yc16 yk16
  have b16 := F16.binds (ps := ["land", "year"]) fun _ _ _ _ _ _ us hl => match us, hl with | [_, _], _ => rfl
  have F17 := fun_mk (st := s_date) yl17 yc17 yk17
  have b17 := F17.binds (ps := ["land", "day"]) fun _ _ _ _ _ _ us hl => match us, hl with | [_, _], _ => rfl
  have F18 := fun_mk (st := s_is_long) yl18 yc18 yk18
  have b18 := F18.binds (ps := ["land", "year"]) fun _ _ _ _ _ _ us hl => match us, hl with | [_, _], _ => rfl
  have F19 := fun_mk (st := s_next_long) yl19 yc19 yk19
  have b19 := F19.binds (ps := ["land", "year"]) fun _ _ _ _ _ _ us hl => match us, hl with | [_, _], _ => rfl
  have F20 := fun_mk (st := s_need_week) yl20 yc20 yk20
  have b20 := F20.binds (ps := ["thing"]) fun _ _ _ _ _ _ us hl => match us, hl with | [_], _ => rfl
  have F21 := fun_mk (st := s_need_name) yl21 yc21 yk21
  have b21 := F21.binds (ps := ["week", "thing"]) fun _ _ _ _ _ _ us hl => match us, hl with | [_, _], _ => rfl
  have F22 := fun_mk (st := s_need_asked) yl22 yc22 yk22
  have b22 := F22.binds (ps := ["land", "place", "week", "name"]) fun _ _ _ _ _ _ us hl => match us, hl with | [_, _, _, _], _ => rfl
  have F23 := fun_mk (st := s_ring_of) yl23 yc23 yk23
  have b23 := F23.binds (ps := ["land", "week"]) fun _ _ _ _ _ _ us hl => match us, hl with | [_, _], _ => rfl
  have F24 := fun_mk (st := s_shared_measure) yl24 yc24 yk24
  have b24 := F24.binds (ps := ["land", "week"]) fun _ _ _ _ _ _ us hl => match us, hl with | [_, _], _ => rfl
  have F25 := fun_mk (st := s_cycle_of) yl25 yc25 yk25
  have b25 := F25.binds (ps := ["land", "week"]) fun _ _ _ _ _ _ us hl => match us, hl with | [_, _], _ => rfl
  have F26 := fun_mk (st := s_falls) yl26 yc26 yk26
  have b26 := F26.binds (ps := ["land", "place", "week", "name", "year"]) fun _ _ _ _ _ _ us hl => match us, hl with | [_, _, _, _, _], _ => rfl
  have F27 := fun_mk (st := s_falling_years) yl27 yc27 yk27
  have b27 := F27.binds (ps := ["land", "place", "week", "name", "first", "last"]) fun _ _ _ _ _ _ us hl => match us, hl with | [_, _, _, _, _, _], _ => rfl
  have F28 := fun_mk (st := s_next_year) yl28 yc28 yk28
  have b28 := F28.binds (ps := ["land", "place", "week", "name", "year"]) fun _ _ _ _ _ _ us hl => match us, hl with | [_, _, _, _, _], _ => rfl
  have F29 := fun_mk (st := s_how_many) yl29 yc29 yk29
  have b29 := F29.binds (ps := ["land", "place", "week", "name", "first", "last"]) fun _ _ _ _ _ _ us hl => match us, hl with | [_, _, _, _, _, _], _ => rfl
  have F30 := fun_mk (st := s_lengths) yl30 yc30 yk30
  have b30 := F30.binds (ps := ["land", "place", "week", "name"]) fun _ _ _ _ _ _ us hl => match us, hl with | [_, _, _, _], _ => rfl
  have F31 := fun_mk (st := s_is_barring) yl31 yc31 yk31
  have b31 := F31.binds (ps := ["land", "place", "week", "name", "measure"]) fun _ _ _ _ _ _ us hl => match us, hl with | [_, _, _, _, _], _ => rfl
  have F32 := fun_mk (st := s_barring) yl32 yc32 yk32
  have b32 := F32.binds (ps := ["land", "place", "week", "name"]) fun _ _ _ _ _ _ us hl => match us, hl with | [_, _, _, _], _ => rfl
  have F33 := fun_mk (st := s_bars) yl33 yc33 yk33
  have b33 := F33.binds (ps := ["land", "place", "week", "name", "thing"]) fun _ _ _ _ _ _ us hl => match us, hl with | [_, _, _, _, _], _ => rfl
  have F34 := fun_mk (st := s_need_places) yl34 yc34 yk34
  have b34 := F34.binds (ps := ["one", "place_one", "other", "place_other"]) fun _ _ _ _ _ _ us hl => match us, hl with | [_, _, _, _], _ => rfl
  have F35 := fun_mk (st := s_placed_days) yl35 yc35 yk35
  have b35 := F35.binds (ps := ["land", "place"]) fun _ _ _ _ _ _ us hl => match us, hl with | [_, _], _ => rfl
  have F36 := fun_mk (st := s_shared_step) yl36 yc36 yk36
  have b36 := F36.binds (ps := ["one", "other"]) fun _ _ _ _ _ _ us hl => match us, hl with | [_, _], _ => rfl
  have F37 := fun_mk (st := s_round_from) yl37 yc37 yk37
  have b37 := F37.binds (ps := ["one", "place_one", "other", "place_other", "day"]) fun _ _ _ _ _ _ us hl => match us, hl with | [_, _, _, _, _], _ => rfl
  have F38 := fun_mk (st := s_ends_ahead) yl38 yc38 yk38
  have b38 := F38.binds (ps := ["starts", "ends"]) fun _ _ _ _ _ _ us hl => match us, hl with | [_, _], _ => rfl
  have F39 := fun_mk (st := s_next_day) yl39 yc39 yk39
  have b39 := F39.binds (ps := ["one", "place_one", "other", "place_other", "day"]) fun _ _ _ _ _ _ us hl => match us, hl with | [_, _, _, _, _], _ => rfl
  have F40 := fun_mk (st := s_days) yl40 yc40 yk40
  have b40 := F40.binds (ps := ["one", "place_one", "other", "place_other", "first", "last"]) fun _ _ _ _ _ _ us hl => match us, hl with | [_, _, _, _, _, _], _ => rfl
  have F41 := fun_mk (st := s_is_parting) yl41 yc41 yk41
  have b41 := F41.binds (ps := ["one", "place_one", "other", "place_other", "number"]) fun _ _ _ _ _ _ us hl => match us, hl with | [_, _, _, _, _], _ => rfl
  have F42 := fun_mk (st := s_parting) yl42 yc42 yk42
  have b42 := F42.binds (ps := ["one", "place_one", "other", "place_other"]) fun _ _ _ _ _ _ us hl => match us, hl with | [_, _, _, _], _ => rfl
  have F43 := fun_mk (st := s_first_parting) yl43 yc43 yk43
  have b43 := F43.binds (ps := ["one", "other"]) fun _ _ _ _ _ _ us hl => match us, hl with | [_, _], _ => rfl
  have F44 := fun_mk (st := s_is_seen_year) yl44 yc44 yk44
  have b44 := F44.binds (ps := ["thing"]) fun _ _ _ _ _ _ us hl => match us, hl with | [_], _ => rfl
  have F45 := fun_mk (st := s_is_seen) yl45 yc45 yk45
  have b45 := F45.binds (ps := ["thing"]) fun _ _ _ _ _ _ us hl => match us, hl with | [_], _ => rfl
  have F46 := fun_mk (st := s_need_seen) yl46 yc46 yk46
  have b46 := F46.binds (ps := ["thing"]) fun _ _ _ _ _ _ us hl => match us, hl with | [_], _ => rfl
  have F47 := fun_mk (st := s_need_most) yl47 yc47 yk47
  have b47 := F47.binds (ps := ["thing"]) fun _ _ _ _ _ _ us hl => match us, hl with | [_], _ => rfl
  have F48 := fun_mk (st := s_possible_days) yl48 yc48 yk48
  have b48 := F48.binds (ps := ["seen"]) fun _ _ _ _ _ _ us hl => match us, hl with | [_], _ => rfl
  have F49 := fun_mk (st := s_possible_shifts) yl49 yc49 yk49
  have b49 := F49.binds (ps := ["seen", "days", "top", "bottom"]) fun _ _ _ _ _ _ us hl => match us, hl with | [_, _, _, _], _ => rfl
  have F50 := fun_mk (st := s_lands_of) yl50 yc50 yk50
  have b50 := F50.binds (ps := ["seen", "most"]) fun _ _ _ _ _ _ us hl => match us, hl with | [_, _], _ => rfl
  have F51 := fun_mk (st := s_need_realm_place) yl51 yc51 yk51
  have b51 := F51.binds (ps := ["thing"]) fun _ _ _ _ _ _ us hl => match us, hl with | [_], _ => rfl
  have F52 := fun_mk (st := s__law_deck) yl52 yc52 yk52
  have b52 := F52.binds (ps := ["cell", "turn"]) fun _ _ _ _ _ _ us hl => match us, hl with | [_, _], _ => rfl
  have F53 := fun_mk (st := s__law_pick) yl53 yc53 yk53
  have b53 := F53.binds (ps := ["deck", "size"]) fun _ _ _ _ _ _ us hl => match us, hl with | [_, _], _ => rfl
  have F54 := fun_mk (st := s__law_suns_right) yl54 yc54 yk54
  have b54 := F54.binds (ps := ["sun", "moon"]) fun _ _ _ _ _ _ us hl => match us, hl with | [_, _], _ => rfl
  have FL := fun_mk (st := s_law) yl55 yc55 yk55
  have FM_Realm_init := fun_mk (st := s_Realm_init) yml_Realm_init ymc_Realm_init ymk_Realm_init
  have bM_Realm_init := FM_Realm_init.binds (ps := ["self", "land"]) fun _ _ _ _ _ _ us hl => match us, hl with | [_, _], _ => rfl
  have FM_Realm_change := fun_mk (st := s_Realm_change) yml_Realm_change ymc_Realm_change ymk_Realm_change
  have bM_Realm_change := FM_Realm_change.binds (ps := ["self", "day", "land"]) fun _ _ _ _ _ _ us hl => match us, hl with | [_, _, _], _ => rfl
  have FM_Realm_date := fun_mk (st := s_Realm_date) yml_Realm_date ymc_Realm_date ymk_Realm_date
  have bM_Realm_date := FM_Realm_date.binds (ps := ["self", "day"]) fun _ _ _ _ _ _ us hl => match us, hl with | [_, _], _ => rfl
  have FM_Realm_days_of := fun_mk (st := s_Realm_days_of) yml_Realm_days_of ymc_Realm_days_of ymk_Realm_days_of
  have bM_Realm_days_of := FM_Realm_days_of.binds (ps := ["self", "year", "place"]) fun _ _ _ _ _ _ us hl => match us, hl with | [_, _, _], _ => rfl
  have FM_Realm_is_later := fun_mk (st := s_Realm_is_later) yml_Realm_is_later ymc_Realm_is_later ymk_Realm_is_later
  have bM_Realm_is_later := FM_Realm_is_later.binds (ps := ["self", "day"]) fun _ _ _ _ _ _ us hl => match us, hl with | [_, _], _ => rfl
  have FM_Realm_rules := fun_mk (st := s_Realm_rules) yml_Realm_rules ymc_Realm_rules ymk_Realm_rules
  have bM_Realm_rules := FM_Realm_rules.binds (ps := ["self", "at", "day"]) fun _ _ _ _ _ _ us hl => match us, hl with | [_, _, _], _ => rfl
  have FM_Realm_land_on := fun_mk (st := s_Realm_land_on) yml_Realm_land_on ymc_Realm_land_on ymk_Realm_land_on
  have bM_Realm_land_on := FM_Realm_land_on.binds (ps := ["self", "day"]) fun _ _ _ _ _ _ us hl => match us, hl with | [_, _], _ => rfl
  let T : Txt K mg := { _wall := ⟨_, _, F0, b0, PySem.W.mg_of X G ya0⟩, is_whole := ⟨_, _, F1, b1, PySem.W.mg_of X G ya1⟩, is_between := ⟨_, _, F2, b2, PySem.W.mg_of X G ya2⟩, common_measure := ⟨_, _, F3, b3, PySem.W.mg_of X G ya3⟩, undoing_factor := ⟨_, _, F4, b4, PySem.W.mg_of X G ya4⟩, is_land := ⟨_, _, F5, b5, PySem.W.mg_of X G ya5⟩, need_land := ⟨_, _, F6, b6, PySem.W.mg_of X G ya6⟩, need_year := ⟨_, _, F7, b7, PySem.W.mg_of X G ya7⟩, need_years := ⟨_, _, F8, b8, PySem.W.mg_of X G ya8⟩, need_day := ⟨_, _, F9, b9, PySem.W.mg_of X G ya9⟩, need_days := ⟨_, _, F10, b10, PySem.W.mg_of X G ya10⟩, need_place := ⟨_, _, F11, b11, PySem.W.mg_of X G ya11⟩, step_of := ⟨_, _, F12, b12, PySem.W.mg_of X G ya12⟩, first_day := ⟨_, _, F13, b13, PySem.W.mg_of X G ya13⟩, date_of := ⟨_, _, F14, b14, PySem.W.mg_of X G ya14⟩, added_days := ⟨_, _, F15, b15, PySem.W.mg_of X G ya15⟩, begin := ⟨_, _, F16, b16, PySem.W.mg_of X G ya16⟩, date := ⟨_, _, F17, b17, PySem.W.mg_of X G ya17⟩, is_long := ⟨_, _, F18, b18, PySem.W.mg_of X G ya18⟩, next_long := ⟨_, _, F19, b19, PySem.W.mg_of X G ya19⟩, need_week := ⟨_, _, F20, b20, PySem.W.mg_of X G ya20⟩, need_name := ⟨_, _, F21, b21, PySem.W.mg_of X G ya21⟩, need_asked := ⟨_, _, F22, b22, PySem.W.mg_of X G ya22⟩, ring_of := ⟨_, _, F23, b23, PySem.W.mg_of X G ya23⟩, shared_measure := ⟨_, _, F24, b24, PySem.W.mg_of X G ya24⟩, cycle_of := ⟨_, _, F25, b25, PySem.W.mg_of X G ya25⟩, falls := ⟨_, _, F26, b26, PySem.W.mg_of X G ya26⟩, falling_years := ⟨_, _, F27, b27, PySem.W.mg_of X G ya27⟩, next_year := ⟨_, _, F28, b28, PySem.W.mg_of X G ya28⟩, how_many := ⟨_, _, F29, b29, PySem.W.mg_of X G ya29⟩, lengths := ⟨_, _, F30, b30, PySem.W.mg_of X G ya30⟩, is_barring := ⟨_, _, F31, b31, PySem.W.mg_of X G ya31⟩, barring := ⟨_, _, F32, b32, PySem.W.mg_of X G ya32⟩, bars := ⟨_, _, F33, b33, PySem.W.mg_of X G ya33⟩, need_places := ⟨_, _, F34, b34, PySem.W.mg_of X G ya34⟩, placed_days := ⟨_, _, F35, b35, PySem.W.mg_of X G ya35⟩, shared_step := ⟨_, _, F36, b36, PySem.W.mg_of X G ya36⟩, round_from := ⟨_, _, F37, b37, PySem.W.mg_of X G ya37⟩, ends_ahead := ⟨_, _, F38, b38, PySem.W.mg_of X G ya38⟩, next_day := ⟨_, _, F39, b39, PySem.W.mg_of X G ya39⟩, days := ⟨_, _, F40, b40, PySem.W.mg_of X G ya40⟩, is_parting := ⟨_, _, F41, b41, PySem.W.mg_of X G ya41⟩, parting := ⟨_, _, F42, b42, PySem.W.mg_of X G ya42⟩, first_parting := ⟨_, _, F43, b43, PySem.W.mg_of X G ya43⟩, is_seen_year := ⟨_, _, F44, b44, PySem.W.mg_of X G ya44⟩, is_seen := ⟨_, _, F45, b45, PySem.W.mg_of X G ya45⟩, need_seen := ⟨_, _, F46, b46, PySem.W.mg_of X G ya46⟩, need_most := ⟨_, _, F47, b47, PySem.W.mg_of X G ya47⟩, possible_days := ⟨_, _, F48, b48, PySem.W.mg_of X G ya48⟩, possible_shifts := ⟨_, _, F49, b49, PySem.W.mg_of X G ya49⟩, lands_of := ⟨_, _, F50, b50, PySem.W.mg_of X G ya50⟩, need_realm_place := ⟨_, _, F51, b51, PySem.W.mg_of X G ya51⟩, _law_deck := ⟨_, _, F52, b52, PySem.W.mg_of X G ya52⟩, _law_pick := ⟨_, _, F53, b53, PySem.W.mg_of X G ya53⟩, _law_suns_right := ⟨_, _, F54, b54, PySem.W.mg_of X G ya54⟩, t_MOST_DAYS := _, c_MOST_DAYS := PySem.W.mg_of X G ycst0, t_MOST_BOTTOM := _, c_MOST_BOTTOM := PySem.W.mg_of X G ycst1, t_MOST_SHIFT := _, c_MOST_SHIFT := PySem.W.mg_of X G ycst2, t_FARTHEST := _, c_FARTHEST := PySem.W.mg_of X G ycst3, t_LONGEST_WEEK := _, c_LONGEST_WEEK := PySem.W.mg_of X G ycst4, t_FEWEST_SEEN := _, c_FEWEST_SEEN := PySem.W.mg_of X G ycst5, t_MOST_SEEN := _, c_MOST_SEEN := PySem.W.mg_of X G ycst6, t_FARTHEST_SEEN_YEAR := _, c_FARTHEST_SEEN_YEAR := PySem.W.mg_of X G ycst7, t_FARTHEST_SEEN_DAY := _, c_FARTHEST_SEEN_DAY := PySem.W.mg_of X G ycst8, t_MOST_TOLD_BOTTOM := _, c_MOST_TOLD_BOTTOM := PySem.W.mg_of X G ycst9, isinstance := PySem.W.mg_none_of X G yz0, b_int := PySem.W.mg_none_of X G yz1, b_bool := PySem.W.mg_none_of X G yz2, tuple := PySem.W.mg_none_of X G yz3, len := PySem.W.mg_none_of X G yz4, range := PySem.W.mg_none_of X G yz5, divmod := PySem.W.mg_none_of X G yz6, zip := PySem.W.mg_none_of X G yz7, sorted := PySem.W.mg_none_of X G yz8, min := PySem.W.mg_none_of X G yz9, sum := PySem.W.mg_none_of X G yz10, any := PySem.W.mg_none_of X G yz11, all := PySem.W.mg_none_of X G yz12, b_list := PySem.W.mg_none_of X G yz13, max := PySem.W.mg_none_of X G yz14, enumerate := PySem.W.mg_none_of X G yz15, ValueError := PySem.W.mg_none_of X G yz16, C_Realm := C_Realm, cl_Realm := ⟨ypg_Realm, yhd_Realm, ypo_Realm, ysa_Realm⟩, g_Realm := PySem.W.mg_of X G yC_Realm, n_Realm_pairs := ynf_Realm_pairs, Realm_init := ⟨_, _, FM_Realm_init, bM_Realm_init, yma_Realm_init, ymi_Realm_init, ymk_Realm_init⟩, mk_Realm := ⟨ymk_Realm, yma_Realm_init, ymi_Realm_init, ykc_Realm⟩, Realm_change := ⟨_, _, FM_Realm_change, bM_Realm_change, yma_Realm_change, ymi_Realm_change, ymk_Realm_change⟩, Realm_date := ⟨_, _, FM_Realm_date, bM_Realm_date, yma_Realm_date, ymi_Realm_date, ymk_Realm_date⟩, Realm_days_of := ⟨_, _, FM_Realm_days_of, bM_Realm_days_of, yma_Realm_days_of, ymi_Realm_days_of, ymk_Realm_days_of⟩, Realm_is_later := ⟨_, _, FM_Realm_is_later, bM_Realm_is_later, yma_Realm_is_later, ymi_Realm_is_later, ymk_Realm_is_later⟩, Realm_rules := ⟨_, _, FM_Realm_rules, bM_Realm_rules, yma_Realm_rules, ymi_Realm_rules, ymk_Realm_rules⟩, Realm_land_on := ⟨_, _, FM_Realm_land_on, bM_Realm_land_on, yma_Realm_land_on, ymi_Realm_land_on, ymk_Realm_land_on⟩ }
  exact ⟨PySem.W.fnOf "law" "law" (defArgs s_law) (defBody s_law) (defScope s_law) .none kV55 dc55 pm55 an55 cd55 ct55, fun s v => .of_eq rfl, fun base _ _ => ok_law T FL⟩
end LY
open PySem PySem.W PyProof.Rows
set_option maxHeartbeats 0 in
theorem PySem.Challenge.cw_longyears_k13_whole_lands_by_words_holds : PySem.Challenge.rw_longyears_k13_whole_lands_by_words.Holds := by
  w_on; o_law; k_head; (case hw => w_witness2)
  k_fill
  refine L2.walk_of (l := PySem.Challenge.rw_longyears_k13_whole_lands_by_words) (n := 63) (k := 8) (x := "script") (CX := fun _ => L2.CX0) (sp := fun w => LY.spLaw _) rfl (by decide) rfl ⟨rfl, by decide, by decide⟩ (fun w h Y => PySem.W.kIn_of Y) ?F (fun _ _ a ns hl _ hS => ⟨a, ns, rfl, hS, hl, fun _ => rfl⟩) (fun _ _ _ _ _ h => h)
  case F =>
    intro w mg fa h KX G hmg
    refine' LY.all_mk KX G hmg ?ya0 ?yl0 ?yc0 ?yk0 ?ya1 ?yl1 ?yc1 ?yk1 ?ya2 ?yl2 ?yc2 ?yk2 ?ya3 ?yl3 ?yc3 ?yk3 ?ya4 ?yl4 ?yc4 ?yk4 ?ya5 ?yl5 ?yc5 ?yk5 ?ya6 ?yl6 ?yc6 ?yk6 ?ya7 ?yl7 ?yc7 ?yk7 ?ya8 ?yl8 ?yc8 ?yk8 ?ya9 ?yl9 ?yc9 ?yk9 ?ya10 ?yl10 ?yc10 ?yk10 ?ya11 ?yl11 ?yc11 ?yk11 ?ya12 ?yl12 ?yc12 ?yk12 ?ya13 ?yl13 ?yc13 ?yk13 ?ya14 ?yl14 ?yc14 ?yk14 ?ya15 ?yl15 ?yc15 ?yk15 ?ya16 ?yl16 ?yc16 ?yk16 ?ya17 ?yl17 ?yc17 ?yk17 ?ya18 ?yl18 ?yc18 ?yk18 ?ya19 ?yl19 ?yc19 ?yk19 ?ya20 ?yl20 ?yc20 ?yk20 ?ya21 ?yl21 ?yc21 ?yk21 ?ya22 ?yl22 ?yc22 ?yk22 ?ya23 ?yl23 ?yc23 ?yk23 ?ya24 ?yl24 ?yc24 ?yk24 ?ya25 ?yl25 ?yc25 ?yk25 ?ya26 ?yl26 ?yc26 ?yk26 ?ya27 ?yl27 ?yc27 ?yk27 ?ya28 ?yl28 ?yc28 ?yk28 ?ya29 ?yl29 ?yc29 ?yk29 ?ya30 ?yl30 ?yc30 ?yk30 ?ya31 ?yl31 ?yc31 ?yk31 ?ya32 ?yl32 ?yc32 ?yk32 ?ya33 ?yl33 ?yc33 ?yk33 ?ya34 ?yl34 ?yc34 ?yk34 ?ya35 ?yl35 ?yc35 ?yk35 ?ya36 ?yl36 ?yc36 ?yk36 ?ya37 ?yl37 ?yc37 ?yk37 ?ya38 ?yl38 ?yc38 ?yk38 ?ya39 ?yl39 ?yc39 ?yk39 ?ya40 ?yl40 ?yc40 ?yk40 ?ya41 ?yl41 ?yc41 ?yk41 ?ya42 ?yl42 ?yc42 ?yk42 ?ya43 ?yl43 ?yc43 ?yk43 ?ya44 ?yl44 ?yc44 ?yk44 ?ya45 ?yl45 ?yc45 ?yk45 ?ya46 ?yl46 ?yc46 ?yk46 ?ya47 ?yl47 ?yc47 ?yk47 ?ya48 ?yl48 ?yc48 ?yk48 ?ya49 ?yl49 ?yc49 ?yk49 ?ya50 ?yl50 ?yc50 ?yk50 ?ya51 ?yl51 ?yc51 ?yk51 ?ya52 ?yl52 ?yc52 ?yk52 ?ya53 ?yl53 ?yc53 ?yk53 ?ya54 ?yl54 ?yc54 ?yk54 ?ya55 ?yl55 ?yc55 ?yk55 ?ycst0 ?ycst1 ?ycst2 ?ycst3 ?ycst4 ?ycst5 ?ycst6 ?ycst7 ?ycst8 ?ycst9 ?yz0 ?yz1 ?yz2 ?yz3 ?yz4 ?yz5 ?yz6 ?yz7 ?yz8 ?yz9 ?yz10 ?yz11 ?yz12 ?yz13 ?yz14 ?yz15 ?yz16 ?yC_Realm ?ypg_Realm ?yhd_Realm ?ypo_Realm ?ysa_Realm ?ymk_Realm ?ykc_Realm ?ynf_Realm_pairs ?yma_Realm_init ?ymi_Realm_init ?yml_Realm_init ?ymc_Realm_init ?ymk_Realm_init ?yma_Realm_change ?ymi_Realm_change ?yml_Realm_change ?ymc_Realm_change ?ymk_Realm_change ?yma_Realm_date ?ymi_Realm_date ?yml_Realm_date ?ymc_Realm_date ?ymk_Realm_date ?yma_Realm_days_of ?ymi_Realm_days_of ?yml_Realm_days_of ?ymc_Realm_days_of ?ymk_Realm_days_of ?yma_Realm_is_later ?ymi_Realm_is_later ?yml_Realm_is_later ?ymc_Realm_is_later ?ymk_Realm_is_later ?yma_Realm_rules ?ymi_Realm_rules ?yml_Realm_rules ?ymc_Realm_rules ?ymk_Realm_rules ?yma_Realm_land_on ?ymi_Realm_land_on ?yml_Realm_land_on ?ymc_Realm_land_on ?ymk_Realm_land_on
    (case ya0 => k_is)
    (case yl0 => k_is)
    (case yc0 => k_is)
    (case yk0 => k_is)
    (case ya1 => k_is)
    (case yl1 => k_is)
    (case yc1 => k_is)
    (case yk1 => k_is)
    (case ya2 => k_is)
    (case yl2 => k_is)
    (case yc2 => k_is)
    (case yk2 => k_is)
    (case ya3 => k_is)
    (case yl3 => k_is)
    (case yc3 => k_is)
    (case yk3 => k_is)
    (case ya4 => k_is)
    (case yl4 => k_is)
    (case yc4 => k_is)
    (case yk4 => k_is)
    (case ya5 => k_is)
    (case yl5 => k_is)
    (case yc5 => k_is)
    (case yk5 => k_is)
    (case ya6 => k_is)
    (case yl6 => k_is)
    (case yc6 => k_is)
    (case yk6 => k_is)
    (case ya7 => k_is)
    (case yl7 => k_is)
    (case yc7 => k_is)
    (case yk7 => k_is)
    (case ya8 => k_is)
    (case yl8 => k_is)
    (case yc8 => k_is)
    (case yk8 => k_is)
    (case ya9 => k_is)
    (case yl9 => k_is)
    (case yc9 => k_is)
    (case yk9 => k_is)
    (case ya10 => k_is)
    (case yl10 => k_is)
    (case yc10 => k_is)
    (case yk10 => k_is)
    (case ya11 => k_is)
    (case yl11 => k_is)
    (case yc11 => k_is)
    (case yk11 => k_is)
    (case ya12 => k_is)
    (case yl12 => k_is)
    (case yc12 => k_is)
    (case yk12 => k_is)
    (case ya13 => k_is)
    (case yl13 => k_is)
    (case yc13 => k_is)
    (case yk13 => k_is)
    (case ya14 => k_is)
    (case yl14 => k_is)
    (case yc14 => k_is)
    (case yk14 => k_is)
    (case ya15 => k_is)
    (case yl15 => k_is)
    (case yc15 => k_is)
    (case yk15 => k_is)
    (case ya16 => k_is)
    (case yl16 => k_is)
    (case yc16 => k_is)
    (case yk16 => k_is)
    (case ya17 => k_is)
    (case yl17 => k_is)
    (case yc17 => k_is)
    (case yk17 => k_is)
    (case ya18 => k_is)
    (case yl18 => k_is)
    (case yc18 => k_is)
    (case yk18 => k_is)
    (case ya19 => k_is)
    (case yl19 => k_is)
    (case yc19 => k_is)
    (case yk19 => k_is)
    (case ya20 => k_is)
    (case yl20 => k_is)
    (case yc20 => k_is)
    (case yk20 => k_is)
    (case ya21 => k_is)
    (case yl21 => k_is)
    (case yc21 => k_is)
    (case yk21 => k_is)
    (case ya22 => k_is)
    (case yl22 => k_is)
    (case yc22 => k_is)
    (case yk22 => k_is)
    (case ya23 => k_is)
    (case yl23 => k_is)
    (case yc23 => k_is)
    (case yk23 => k_is)
    (case ya24 => k_is)
    (case yl24 => k_is)
    (case yc24 => k_is)
    (case yk24 => k_is)
    (case ya25 => k_is)
    (case yl25 => k_is)
    (case yc25 => k_is)
    (case yk25 => k_is)
    (case ya26 => k_is)
    (case yl26 => k_is)
    (case yc26 => k_is)
    (case yk26 => k_is)
    (case ya27 => k_is)
    (case yl27 => k_is)
    (case yc27 => k_is)
    (case yk27 => k_is)
    (case ya28 => k_is)
    (case yl28 => k_is)
    (case yc28 => k_is)
    (case yk28 => k_is)
    (case ya29 => k_is)
    (case yl29 => k_is)
    (case yc29 => k_is)
    (case yk29 => k_is)
    (case ya30 => k_is)
    (case yl30 => k_is)
    (case yc30 => k_is)
    (case yk30 => k_is)
    (case ya31 => k_is)
    (case yl31 => k_is)
    (case yc31 => k_is)
    (case yk31 => k_is)
    (case ya32 => k_is)
    (case yl32 => k_is)
    (case yc32 => k_is)
    (case yk32 => k_is)
    (case ya33 => k_is)
    (case yl33 => k_is)
    (case yc33 => k_is)
    (case yk33 => k_is)
    (case ya34 => k_is)
    (case yl34 => k_is)
    (case yc34 => k_is)
    (case yk34 => k_is)
    (case ya35 => k_is)
    (case yl35 => k_is)
    (case yc35 => k_is)
    (case yk35 => k_is)
    (case ya36 => k_is)
    (case yl36 => k_is)
    (case yc36 => k_is)
    (case yk36 => k_is)
    (case ya37 => k_is)
    (case yl37 => k_is)
    (case yc37 => k_is)
    (case yk37 => k_is)
    (case ya38 => k_is)
    (case yl38 => k_is)
    (case yc38 => k_is)
    (case yk38 => k_is)
    (case ya39 => k_is)
    (case yl39 => k_is)
    (case yc39 => k_is)
    (case yk39 => k_is)
    (case ya40 => k_is)
    (case yl40 => k_is)
    (case yc40 => k_is)
    (case yk40 => k_is)
    (case ya41 => k_is)
    (case yl41 => k_is)
    (case yc41 => k_is)
    (case yk41 => k_is)
    (case ya42 => k_is)
    (case yl42 => k_is)
    (case yc42 => k_is)
    (case yk42 => k_is)
    (case ya43 => k_is)
    (case yl43 => k_is)
    (case yc43 => k_is)
    (case yk43 => k_is)
    (case ya44 => k_is)
    (case yl44 => k_is)
    (case yc44 => k_is)
    (case yk44 => k_is)
    (case ya45 => k_is)
    (case yl45 => k_is)
    (case yc45 => k_is)
    (case yk45 => k_is)
    (case ya46 => k_is)
    (case yl46 => k_is)
    (case yc46 => k_is)
    (case yk46 => k_is)
    (case ya47 => k_is)
    (case yl47 => k_is)
    (case yc47 => k_is)
    (case yk47 => k_is)
    (case ya48 => k_is)
    (case yl48 => k_is)
    (case yc48 => k_is)
    (case yk48 => k_is)
    (case ya49 => k_is)
    (case yl49 => k_is)
    (case yc49 => k_is)
    (case yk49 => k_is)
    (case ya50 => k_is)
    (case yl50 => k_is)
    (case yc50 => k_is)
    (case yk50 => k_is)
    (case ya51 => k_is)
    (case yl51 => k_is)
    (case yc51 => k_is)
    (case yk51 => k_is)
    (case ya52 => k_is)
    (case yl52 => k_is)
    (case yc52 => k_is)
    (case yk52 => k_is)
    (case ya53 => k_is)
    (case yl53 => k_is)
    (case yc53 => k_is)
    (case yk53 => k_is)
    (case ya54 => k_is)
    (case yl54 => k_is)
    (case yc54 => k_is)
    (case yk54 => k_is)
    (case ya55 => k_is)
    (case yl55 => k_is)
    (case yc55 => k_is)
    (case yk55 => k_is)
    (case ycst0 => k_is)
    (case ycst1 => k_is)
    (case ycst2 => k_is)
    (case ycst3 => k_is)
    (case ycst4 => k_is)
    (case ycst5 => k_is)
    (case ycst6 => k_is)
    (case ycst7 => k_is)
    (case ycst8 => k_is)
    (case ycst9 => k_is)
    (case yz0 => k_is)
    (case yz1 => k_is)
    (case yz2 => k_is)
    (case yz3 => k_is)
    (case yz4 => k_is)
    (case yz5 => k_is)
    (case yz6 => k_is)
    (case yz7 => k_is)
    (case yz8 => k_is)
    (case yz9 => k_is)
    (case yz10 => k_is)
    (case yz11 => k_is)
    (case yz12 => k_is)
    (case yz13 => k_is)
    (case yz14 => k_is)
    (case yz15 => k_is)
    (case yz16 => k_is)
    (case yC_Realm => k_is)
    (case ypg_Realm => k_is)
    (case yhd_Realm => k_is)
    (case ypo_Realm => k_is)
    (case ysa_Realm => k_is)
    (case ymk_Realm => k_is)
    (case ykc_Realm => k_is)
    (case ynf_Realm_pairs => k_is)
    (case yma_Realm_init => k_is)
    (case ymi_Realm_init => k_is)
    (case yml_Realm_init => k_is)
    (case ymc_Realm_init => k_is)
    (case ymk_Realm_init => k_is)
    (case yma_Realm_change => k_is)
    (case ymi_Realm_change => k_is)
    (case yml_Realm_change => k_is)
    (case ymc_Realm_change => k_is)
    (case ymk_Realm_change => k_is)
    (case yma_Realm_date => k_is)
    (case ymi_Realm_date => k_is)
    (case yml_Realm_date => k_is)
    (case ymc_Realm_date => k_is)
    (case ymk_Realm_date => k_is)
    (case yma_Realm_days_of => k_is)
    (case ymi_Realm_days_of => k_is)
    (case yml_Realm_days_of => k_is)
    (case ymc_Realm_days_of => k_is)
    (case ymk_Realm_days_of => k_is)
    (case yma_Realm_is_later => k_is)
    (case ymi_Realm_is_later => k_is)
    (case yml_Realm_is_later => k_is)
    (case ymc_Realm_is_later => k_is)
    (case ymk_Realm_is_later => k_is)
    (case yma_Realm_rules => k_is)
    (case ymi_Realm_rules => k_is)
    (case yml_Realm_rules => k_is)
    (case ymc_Realm_rules => k_is)
    (case ymk_Realm_rules => k_is)
    (case yma_Realm_land_on => k_is)
    (case ymi_Realm_land_on => k_is)
    (case yml_Realm_land_on => k_is)
    (case ymc_Realm_land_on => k_is)
    (case ymk_Realm_land_on => k_is)
