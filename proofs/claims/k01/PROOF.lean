import PyProof.Rows.All
import Wide.All
import OpenK.AllK
import Wide.FinOn
import HandS.ForMost
import HandS.IsInst
import HandS.Wide
import HandS.Evl
import HandS.TupAny
import HandS.Style
import HandS.Walk
import KE.GoesMore
import PyProof.LongRange
import PySem.Challenge.RW_longyears_k01_lands
set_option Elab.async false
set_option linter.all false
set_option maxRecDepth 100000
set_option maxHeartbeats 4200000
namespace LY
open PySem PySem.Spec PyProof.Rows L2 Evl

/-! ### own bridges: whatever the library walks, as something that a loop of the hand layer walks -/
/-- n values f 0, f 1, .., the heap left alone -/
def ItF (n : Nat) (f : Nat → V) : It where
  go i _ := i < n
  yld i H x H' := H' = H ∧ x = f i
  stop i _ := i = n
theorem walk_itF {n : Nat} {f : Nat → V} : Walk (ItF n f) n (fun _ => True) (YFn f) :=
  { goes := fun _ _ h _ => h, stops := fun _ _ => rfl, yields := fun _ _ _ _ _ _ y => y }
/-- one record that the walk turns, which keeps no tuple of its own -/
def Lone (St : Nat → Heap → Prop) (it : Addr) : Prop := ∀ i h, St i h → ∃ (o : Obj) (c : String) (vs : Array Value), h.get? it = some o ∧ o.cls = .type c ∧ o.data = .fields vs ∧
  ["enumerate", "zip", "dict_itemiterator", "dict_reverseitemiterator", "odict_iterator", "itertools.zip_longest", "itertools.pairwise"].contains c = false
theorem turn_lone {P : Program} {w : World} {K : PySem.W.Frag} {tg : Expr} {it : Addr} {n : Nat} {f : Nat → V} {Pv : Nat → Value → Prop} {St : Nat → Heap → Prop}
    (W : ∀ A : Around, A.handled = none → Walks P w A it [it] [it] n Pv St) (hv : ∀ i v, Pv i v → RelV (f i) v) (lone : Lone St it)
    (self : ∀ (A : Around) i (s : Shared) Q E, St i s.heap → Q (.ref it) s → wpAny (model P w) A (pyIter (.ref it)) Q E s) : Turn P w K tg (ItF n f) [it] it St := by
  have one : ∀ {b : Addr}, b ∈ [it] → b = it := fun hb => List.mem_singleton.mp hb
  refine { mem := List.mem_singleton.mpr rfl, obj := ?o, keep := ?k, item := ?i, done := ?d, self := ?s }
  case o =>
    rintro i h st b hb
    obtain ⟨o, c, vs, g1, _, g3, _⟩ := lone i h st
    exact ⟨o, one hb ▸ g1, fun v z => by rw [g3] at z; exact Data.noConfusion z⟩
  case k =>
    intro i h h' st kp
    exact (W { callerA with handled := none } rfl).frame i h h' st kp
  case i =>
    rintro X rfl rfl rfl calm i pins s σ H E I fp st lt
    have a := fp it (List.mem_singleton.mpr rfl)
    refine (W X.A (I.ok.hd calm)).item i s _ _ lt st fun v h2 tk pv st2 kp => ⟨v, rfl, ?_⟩
    obtain ⟨o, c, vs, g1, g2, g3, g4⟩ := lone _ _ st2
    exact go_of (s := { s with heap := h2, toks := tk }) g1 g2 g3 g4 ⟨f i, H, I.turned (fun b u hb e => kp b u (fun z => hb (one z)) e) a.1 a.2.1 a.2.2.2.1 a.2.2.2.2.1 a.2.2.2.2.2, hv i v pv, ⟨rfl, rfl⟩, st2, fun b hb => (fp b hb).1⟩
  case d =>
    rintro X rfl rfl rfl calm i pins s σ H E I fp st rfl
    have a := fp it (List.mem_singleton.mpr rfl)
    exact (W X.A (I.ok.hd calm)).done s _ _ st fun h2 tk kp => ⟨rfl, I.turned (fun b u hb e => kp b u (fun z => hb (one z)) e) a.1 a.2.1 a.2.2.2.1 a.2.2.2.2.1 a.2.2.2.2.2⟩
  case s => exact self
section
variable {X : Cx} {tg : Expr}
/-- range(a, b), whatever the size: the small iterator or the long one -/
def iSpan (ta : TA) : TI := fun σ H R => ta σ H fun vs H1 => ∃ a b : Int, vs = [.int a, .int b] ∧ R (ItF (b - a).toNat fun i => .int (a + i)) H1
theorem span_count (a b : Int) : ((b - a).toNat : Int) = Builtin.Range.rangeSize a b 1 := by
  rw [rangeSize_one]
  split
  · omega
  · omega
theorem span_start {pins : List (Addr × Obj)} {σ : L2.St} {H : Hp} {s : Shared} {R : It → Hp → Prop} {E : Value → Shared → Prop} {a b : Int} {t u v : Tok} {tk : Nat} (I : Inv X pins σ H s) (q : R (ItF (b - a).toNat fun i => .int (a + i)) H) :
    wpAny (model X.prog X.w) X.A (pyIter (.ref s.heap.objs.size)) (PIE X pins σ tg R) E { s with heap := s.heap.push { cls := .type "range", data := .fields #[.int a t, .int b u, .int 1 v] }, toks := tk } := by
  generalize hr : ({ cls := .type "range", data := .fields #[.int a t, .int b u, .int 1 v] } : Obj) = rg
  have J : Inv X pins σ H { s with heap := s.heap.push rg, toks := tk } := I.kept fun _ _ => Heap.get?_push_of_some _
  have rng : IsRange (s.heap.push rg) s.heap.objs.size a b 1 t u v := by
    subst hr
    exact IsRange.new ..
  have at0 : a + ((0 : Nat) : Int) * 1 = a := by omega
  have left : ((b - a).toNat : Int) - ((0 : Nat) : Int) = Builtin.Range.rangeSize a b 1 := by
    have := span_count a b
    omega
  have val : ∀ (i : Nat) (x : Value), (∃ t, x = .int (a + i * 1) t) → RelV (.int (a + i)) x := fun i x ⟨t, e⟩ => ⟨t, by rw [e, Int.mul_one]⟩
  have mine : ∀ c ∈ [(s.heap.push rg).objs.size], FpOk X pins H c := fun c hc => by
    rw [List.mem_singleton.mp hc]
    exact J.fpOk (Nat.le_refl _) (J.hok.fresh (Nat.le_refl _))
  cases sm : Builtin.Range.small a b 1
  · refine wpAny_pyIter_longrange (s := { s with heap := s.heap.push rg, toks := tk }) rng sm ⟨_, [_], _, _, H, rfl, J.kept (t' := tk) fun _ _ => Heap.get?_push_of_some _, turn_lone (fun A hA => Walks.longrange hA _ a 1 _) val (fun i h st => ⟨_, "longrange_iterator", _, st, rfl, rfl, rfl⟩) (fun A i s' Q E' st h => wpAny_pyIter_longiter st h), ?_, mine, q⟩
    show IsLongIter _ _ _ _ _
    rw [at0, left]
    apply Heap.get?_push_size
    rfl
  · refine wpAny_pyIter_range (s := { s with heap := s.heap.push rg, toks := tk }) rng sm ⟨_, [_], _, _, H, rfl, J.kept (t' := tk) fun _ _ => Heap.get?_push_of_some _, turn_lone (fun A hA => Walks.range hA _ a 1 _) val (fun i h st => ⟨_, "range_iterator", _, st, rfl, rfl, rfl⟩) (fun A i s' Q E' st h => wpAny_pyIter_rangeiter st h), ?_, mine, q⟩
    show IsRangeIter _ _ _ _ _
    rw [at0, left]
    apply Heap.get?_push_size
    rfl
theorem pi_span {a b : Expr} {ta : TA} {p pos : Pos} (gl : Gl X "range") (no : X.mg "range" = none) (args : PA X [a, b] ta) (two : starEach [a, b] X.env = [(false, eval a X.env), (false, eval b X.env)] := by rfl) (last : starEach [b] X.env = [(false, eval b X.env)] := by rfl) :
    PI X tg (.Call (.Name "range" p) [a, b] [] pos) (iSpan ta) := by
  constructor
  intro pins s σ H R I h
  have run := args.run pos pins s σ H _ I h
  refine Call_ (ld_blt I gl no boot_range (PyProof.Rows.callWith_type1 (thn run fun us s1 got => ?_) (by rw [two, last]) (by rw [last]; rfl)))
  obtain ⟨vs, H1, I1, rel, x, y, rfl, q⟩ := got
  obtain ⟨u1, u2, rfl, ⟨t1, rfl⟩, ⟨t2, rfl⟩⟩ := vals2 rel
  exact call_range_2 (span_start I1 q)
end

/-! ### enumerate of a tracked tuple, by the library's WalksT -/
/-- pairs (i, the i-th of xs), each new -/
def ItP (xs : List V) (t : Addr) : It where
  go i H := i < xs.length ∧ H t = some (.tup xs)
  yld i H v H' := ∃ p x, v = .ref p ∧ H p = none ∧ H' = upd H p (.tup [.int (i : Nat), x]) ∧ xs[i]? = some x
  stop i H := i = xs.length ∧ H t = some (.tup xs)
theorem walk_itP {xs : List V} {t : Addr} : Walk (ItP xs t) xs.length (fun H => H t = some (.tup xs)) (YPair (fun i => some (.int (i : Nat))) (fun i => xs[i]?)) :=
  { goes := fun _ _ h k => ⟨h, k⟩, stops := fun _ k => ⟨rfl, k⟩, yields := fun i _ _ _ _ _ ⟨p, x, h1, h2, h3, h4⟩ => ⟨p, .int (i : Nat), x, h1, h2, h3, rfl, h4⟩ }
theorem turn_pairs {P : Program} {w : World} {K : PySem.W.Frag} {elts : List Expr} {kk : Nat} {tpos : Pos} {xs : List V} {t e it : Addr} (ne : e ≠ it) :
    Turn P w K (.Tuple elts kk tpos) (ItP xs t) [e, it] e (fun i h => (∃ old, IsEnum h e it i old) ∧ h.IsTupleIter it t i) := by
  have me : e ∈ [e, it] := List.mem_cons_self ..
  have mi : it ∈ [e, it] := List.mem_cons_of_mem _ (List.mem_singleton.mpr rfl)
  refine { mem := me, obj := ?o, keep := ?k, item := ?i, done := ?d, self := ?s }
  case o =>
    rintro i h ⟨⟨old, he⟩, o, ho, hc, hd⟩ b hb
    refine (List.mem_cons.mp hb).elim (fun z => ?_) (fun z => ?_)
    · exact ⟨_, z ▸ he, fun v y => Data.noConfusion y⟩
    · exact ⟨o, List.mem_singleton.mp z ▸ ho, fun v y => by rw [hd] at y; exact Data.noConfusion y⟩
  case k => exact fun i h h' st kp => ⟨st.1.imp fun old he => kp e me _ he, st.2.at fun o g => kp it mi o g⟩
  case i =>
    rintro X rfl rfl rfl calm i pins s σ H E I fp ⟨en, ti⟩ ⟨lt, ht⟩
    obtain ⟨its, rel, tup, _⟩ := I.tuple (st_of ht)
    have te : t ≠ e := ne_of_none ht (fp e me).1
    have tt : t ≠ it := ne_of_none ht (fp it mi).1
    have size : its.toArray.size = xs.length := by rw [List.size_toArray, rel.length]
    have D := Draws.tuple (prog := X.prog) (w := X.w) (A := X.A.in1) (show X.A.in1.handled = none from I.ok.hd calm) it t tt its.toArray
    have W := WalksT.enumerateD D e ne (by simp [ne, Ne.symm te]) (by simp)
    obtain ⟨u, hu, ru⟩ := rel.get (List.getElem?_eq_getElem lt)
    refine W.item i s _ _ (by omega) ⟨en, ti, tup⟩ fun p vals h2 tk pv big isT mid kp => ⟨_, rfl, W.go elts kk tpos i p _ _ _ mid fun h3 st3 kp3 => ?_⟩
    obtain ⟨tok, y, hy, rfl⟩ := pv
    have same : y = u := Option.some.inj (hy.symm.trans (by simpa using hu))
    subst same
    have pf := W.apart i p h2 mid
    have isT3 : IsTup h3 p #[.int i tok, y] := isT.at fun o g => kp3 p o pf g
    have fresh : H p = none := I.hok.fresh big
    have J : Inv X pins σ (upd H p (.tup [.int (i : Nat), xs[i]])) { s with heap := h3, toks := tk } :=
      I.turnedNew (ch := [e, it]) (fun b o hb g => kp3 b o hb (kp b o hb g)) fp big ⟨by show 2 ≤ sizeLine; decide, [.int i tok, y], .cons ⟨tok, rfl⟩ (.cons ru .nil), isT3⟩
    refine ⟨.ref p, _, J, rfl, ⟨p, xs[i], rfl, fresh, rfl, List.getElem?_eq_getElem lt⟩, ⟨st3.1, st3.2.1⟩, fun b hb => ?_⟩
    have bp : b ≠ p := fun z => pf (z ▸ hb)
    rw [upd_ne bp]
    exact (fp b hb).1
  case d =>
    rintro X rfl rfl rfl calm i pins s σ H E I fp ⟨⟨old, he⟩, ti⟩ ⟨rfl, ht⟩
    obtain ⟨its, rel, tup, _⟩ := I.tuple (st_of ht)
    have size : xs.length = its.toArray.size := by rw [List.size_toArray, rel.length]
    rw [size] at he ti
    have tt : t ≠ it := ne_of_none ht (fp it mi).1
    have f := fp it mi
    exact wpAny_pyNext_enum_endD (Draws.tuple (show X.A.in1.handled = none from I.ok.hd calm) it t tt its.toArray) he ⟨ti, tup⟩ fun h2 kp => ⟨rfl, I.turned (t' := s.toks) kp f.1 f.2.1 f.2.2.2.1 f.2.2.2.2.1 f.2.2.2.2.2⟩
  case s => exact fun A i s Q E st h => st.1.elim fun _ he => wpAny_pyIter_enum he h

/-! ### enumerate(v) begun: over whatever the library says how iter(v) begins -/
def enumOf (it : Addr) : Obj := { cls := .type "enumerate", data := .fields #[.none, .bool false, .ref it, rawInt 0, .none, .none] }
theorem enum_made {v : Value} {o : Obj} {Hv : Heap → Prop} (B : Begins v o Hv) :
    Meets (Builtin.«enumerate.__new__» ⟨[.type "enumerate", v], []⟩) (fun _ R s => Hv s.heap ∧ R (.ok (.ret (.ref (s.heap.push o).objs.size))) { s with heap := (s.heap.push o).push (enumOf s.heap.objs.size) }) := by
  refine .of_wp fun prog w A R s hyp => ?_
  have sub := sub_enumerate
  rcases s with ⟨hp, gn, dr, tk, os⟩
  rcases hyp with ⟨hv, goal⟩
  have begun := fun (A' : Around) (E : Value → Shared → Prop) (Q : Value → Shared → Prop) => B.iter prog w A' E ⟨hp, gn, dr, tk, os⟩ Q hv
  wp_walk
  refine wpAny_stack_any fun _ => ?_
  refine wpAny_pure ?_
  split
  case _ c _ _ _ _ _ =>
    generalize (c == Value.type "enumerate") = same
    cases same
    all_goals wp_walk using begun
    all_goals exact ⟨_, rfl, goal⟩
  case _ =>
    wp_walk using begun
    exact ⟨_, rfl, goal⟩
theorem enum_call {prog : Program} {w : World} {A : Around} {E : Value → Shared → Prop} {s : Shared} {v : Value} {o : Obj} {Hv : Heap → Prop} {Q : Value → Shared → Prop} (B : Begins v o Hv) (hv : Hv s.heap)
    (q : IsEnum ((s.heap.push o).push (enumOf s.heap.objs.size)) (s.heap.objs.size + 1) s.heap.objs.size 0 .none → Q (.ref (s.heap.objs.size + 1)) { s with heap := (s.heap.push o).push (enumOf s.heap.objs.size) }) :
    wpAny (model prog w) A (call (.type "enumerate") [v]) Q E s := by
  have next : (s.heap.push o).objs.size = s.heap.objs.size + 1 := Heap.size_push ..
  have en : IsEnum ((s.heap.push o).push (enumOf s.heap.objs.size)) (s.heap.objs.size + 1) s.heap.objs.size 0 .none := next ▸ Heap.get?_push_size (s.heap.push o) rfl
  refine callType_new F.called_enumerate (by decide) (F.typeCall_enumerate_1 v) (F.newCall_enumerate_1 v) (fun x => F.args_object_init_2 x v) F.entry_enumerate_new (enum_made B) ⟨hv, ?_⟩
  rw [next]
  exact ⟨⟨_, en, rfl⟩, q en⟩
/-- enumerate of a list that is read, or of a tracked tuple -/
def iEnumS (K : PySem.W.Frag) (ta : TA) : TI := fun σ H R => ta σ H fun vs H1 => ∃ t xs, vs = [.ref t] ∧ ((SqL K H1 t xs ∧ R (Ite K t) H1) ∨ (H1 t = some (.tup xs) ∧ R (ItP xs t) H1))
theorem pi_enumS {X : Cx} {e : Expr} {ta : TA} {p pos tpos : Pos} {elts : List Expr} {kk : Nat} (gl : Gl X "enumerate") (no : X.mg "enumerate" = none) (arg : PA X [e] ta) (one : starEach [e] X.env = [(false, eval e X.env)] := by rfl) :
    PI X (.Tuple elts kk tpos) (.Call (.Name "enumerate" p) [e] [] pos) (iEnumS X.K ta) := by
  constructor
  intro pins s σ H R I h
  have run := arg.run pos pins s σ H _ I h
  refine Call_ (ld_blt I gl no boot_enumerate (PyProof.Rows.callWith_type1 (thn run fun us s1 got => ?_) one rfl))
  obtain ⟨vs, H1, I1, rel, t, xs, rfl, q⟩ := got
  obtain ⟨u, rfl, ru⟩ := vals1 rel
  obtain rfl : u = .ref t := ru
  have mine : ∀ c ∈ [s1.heap.objs.size + 1, s1.heap.objs.size], FpOk X pins H1 c := fun c hc => by
    have le : s1.heap.objs.size ≤ c := by
      simp only [List.mem_cons, List.not_mem_nil, or_false] at hc
      omega
    exact I1.fpOk le (I1.hok.fresh le)
  have grow : ∀ (a b : Obj) (c : Addr) (o : Obj), s1.heap.get? c = some o → ((s1.heap.push a).push b).get? c = some o := fun a b c o g => Heap.get?_push_of_some b (Heap.get?_push_of_some a g)
  have first : ∀ a b : Obj, a.isFreed = false → ((s1.heap.push a).push b).get? s1.heap.objs.size = some a := fun a b fr => Heap.get?_push_of_some b (Heap.get?_push_size _ fr)
  rcases q with ⟨hl, q⟩ | ⟨ht, q⟩
  · obtain ⟨its, _, pl, _⟩ := I1.list hl
    refine enum_call (begins_list t its.toArray) pl.isList fun en => wpAny_pyIter_enum en ⟨_, _, _, _, H1, rfl, I1.kept (t' := s1.toks) (grow _ _), turn_enum t _ _, ⟨⟨_, en⟩, ⟨_, first _ _ rfl, rfl, rfl⟩, Nat.succ_ne_self _⟩, mine, q⟩
  · obtain ⟨its, _, tu, _⟩ := I1.tuple (st_of ht)
    exact enum_call (begins_tuple t its.toArray) tu fun en => wpAny_pyIter_enum en ⟨_, _, _, _, H1, rfl, I1.kept (t' := s1.toks) (grow _ _), turn_pairs (Nat.succ_ne_self _), ⟨⟨_, en⟩, _, first _ _ rfl, rfl, rfl⟩, mine, q⟩

/-! ### xs + ys of lists that are read -/
section
variable {X : Cx}
def rCatL (K : PySem.W.Frag) : R2 := fun x y H Q => ∃ l b xs zs, x = .ref l ∧ y = .ref b ∧ SqL K H l xs ∧ SqL K H b zs ∧ xs.length + zs.length ≤ sizeLine ∧ ∀ p, H p = none → Q (.ref p) (upd H p (.lst (xs ++ zs)))
theorem op_catL : OpR X (binaryOp .Add) (rCatL X.K) := by
  rintro pins s σ H _ _ v u Q I rx ry ⟨l, b, xs, zs, rfl, rfl, ha, hb, hz, q⟩
  cases rx
  cases ry
  obtain ⟨i1, r1, p1, _⟩ := I.list ha
  obtain ⟨i2, r2, p2, _⟩ := I.list hb
  have g1 := r1.length
  have g2 := r2.length
  obtain ⟨⟨c1, dd1, dt1, s1⟩, o1, k1, m1, e1⟩ := p1.isList
  obtain ⟨⟨c2, dd2, dt2, s2⟩, o2, k2, m2, e2⟩ := p2.isList
  simp only at k1 e1 k2 e2
  subst k1 e1 k2 e2
  have ea : i1.toArray ++ i2.toArray = (i1 ++ i2).toArray := by simp
  refine concat_meets ⟨_, o1, rfl⟩ ⟨_, o2, rfl⟩ noFill_list_add seq_list_add PySem.F.slot_list_add PySem.F.entry_list_add (PySem.F.args_list_add_2 _ _)
    (list_addW l b i1.toArray i2.toArray m1 m2 dd1 dd2 s1 s2 (by rw [List.size_toArray, List.size_toArray]; omega)) ⟨o1, o2, ?_⟩
  rw [ea]
  exact ⟨.ref _, _, I.lnew (t' := s.toks) (r1.append r2) (by rw [List.length_append]; omega), rfl, q _ I.fresh⟩
end

/-! ### a truth and a number; a truth's text; a tuple from behind -/
section
variable {X : Cx}
theorem op_either {f : Value → Value → Sem Value} {r r' : R2} (h : OpR X f r) (h' : OpR X f r') : OpR X f (fun x y H Q => r x y H Q ∨ r' x y H Q) :=
  fun pins s σ H x y v u Q I rx ry q => q.elim (h pins s σ H x y v u Q I rx ry) (h' pins s σ H x y v u Q I rx ry)
/-- a truth, then a number -/
def rTN (g : Int → Int → Int) : R2 := fun x y H Q => ∃ (b : Bool) (j : Int), x = .bl b ∧ y = .int j ∧ Q (.int (g (if b = true then 1 else 0) j)) H
theorem op_addB : OpR X (binaryOp .Add) (rTN fun i j => i + j) := by
  rintro pins s σ H _ _ v u Q I rx ry ⟨b, j, rfl, rfl, q⟩
  obtain rfl : v = .bool b := rx
  obtain ⟨t, rfl⟩ : ∃ t, u = .int j t := ry
  exact PySem.IntBool.add_bool_int ⟨.int _, H, I.tok _, ⟨_, rfl⟩, q⟩
theorem op_subB : OpR X (binaryOp .Sub) (rTN fun i j => i - j) := by
  rintro pins s σ H _ _ v u Q I rx ry ⟨b, j, rfl, rfl, q⟩
  obtain rfl : v = .bool b := rx
  obtain ⟨t, rfl⟩ : ∃ t, u = .int j t := ry
  exact PySem.IntBool.sub_bool_int ⟨.int _, H, I.tok _, ⟨_, rfl⟩, q⟩
theorem op_addU : OpR X (binaryOp .Add) (fun x y H Q => rI0 (fun i j => .int (i + j)) x y H Q ∨ rTN (fun i j => i + j) x y H Q) := op_either op_add op_addB
theorem op_subU : OpR X (binaryOp .Sub) (fun x y H Q => rI0 (fun i j => .int (i - j)) x y H Q ∨ rTN (fun i j => i - j) x y H Q) := op_either op_sub op_subB
def rCatU (K : PySem.W.Frag) : R2 := fun x y H Q => rCatL K x y H Q ∨ rCatA K x y H Q
theorem op_catU : OpR X (binaryOp .Add) (rCatU X.K) := op_either op_catL op_catA
theorem sl_U : SlR X (fun x lo hi H Q => rSlL X.K x lo hi H Q ∨ rSlA X.K x lo hi H Q) := SlR.or sl_list sl_tupA
/-- every text of Lean's is a text of Python's -/
theorem strOk_of (s : String) : PyData.strOk (Str.ofString s) = true := by
  rw [Str.ofString_eq_toList]
  refine Array.all_eq_true'.mpr fun x hx => ?_
  obtain ⟨c, _, rfl⟩ : ∃ c, c ∈ s.toList ∧ Char.toNat c = x := by simpa using hx
  exact decide_eq_true (c.valid.elim (fun low => Nat.lt_trans low (by decide)) And.right)
def truthText (b : Bool) : Str := if b then "True" else "False"
theorem truth_text {P : Program} {w : World} {A : Around} {E : Value → Shared → Prop} {s : Shared} {b : Bool} {Q : Value → Shared → Prop} (q : Q (.str (truthText b) s.toks) { s with toks := s.toks + 1 }) : wpAny (model P w) A (call (.type "str") [.bool b]) Q E s := by
  have made : Meets (Builtin.«str.__new__» ⟨[.type "str", .bool b], []⟩) (fun _ R s => R (.ok (.ret (.str (truthText b) s.toks))) { s with toks := s.toks + 1 }) :=
    meets_str_new fun _ _ _ _ s r => wpAny_strOf_gives rfl (PySem.typeIs_bool s b) F.slot_bool_str F.slot_bool_repr F.entry_bool_repr (F.args_bool_repr_1 _) (gives_bool_repr b) r (hsz := by cases b <;> decide)
  exact callType_new F.called_str (by decide) (F.typeCall_str_1 _) (F.newCall_str_1 _) (fun x => F.args_object_init_2 x _) F.entry_str_new made ⟨typeIs_str _ _ _, q⟩
/-- str of a number or of a truth: some text -/
def rStrU : List V → Hp → VK → Prop := fun xs H Q => ((∃ i : Int, xs = [.int i] ∧ i.natAbs.log2 < 1920) ∨ ∃ b, xs = [.bl b]) ∧ ∀ x : Str, PyData.strOk x = true → Q (.str x) H
theorem call_strU : CallR X (.type "str") rStrU := by
  rintro pins s σ H xs us Q I r ⟨⟨i, e, hz⟩ | ⟨b, rfl⟩, q⟩
  · exact call_str_int pins s σ H xs us Q I r ⟨i, e, hz, q _ (strOk_of _)⟩
  · obtain ⟨_, rfl, rfl⟩ := vals1 r
    exact truth_text ⟨.str (truthText b), H, I.tok _, ⟨_, rfl⟩, q _ (by cases b <;> exact strOk_of _)⟩
end
/-- what the model's slices say of [::-1] -/
theorem back_bounds (n : Nat) : Builtin.Slice.sliceAdjust none none (-1) n = ((n : Int) - 1, -1) ∧ Builtin.Slice.slicePlaces ((n : Int) - 1) (-1) (-1) = n := by
  refine ⟨by simp [Builtin.Slice.sliceAdjust], ?_⟩
  simp [Builtin.Slice.slicePlaces]
  omega
theorem back_items (its : Array Value) : ((List.range its.size).filterMap fun k : Nat => its[(((its.size : Int) - 1) + (k : Int) * (-1)).toNat]?) = its.toList.reverse := by
  have there : ∀ k : Nat, its[(((its.size : Int) - 1) + (k : Int) * (-1)).toNat]? = its[its.size - 1 - k]? := fun k => by
    rw [show (((its.size : Int) - 1) + (k : Int) * (-1)).toNat = its.size - 1 - k by omega]
  have back := congrArg (List.filterMap (its[·]?)) (PySem.W.krv_range its.size)
  rw [List.filterMap_map, List.filterMap_reverse, PySem.W.krv_all] at back
  rw [← back]
  exact congrArg (List.filterMap · _) (funext there)
section
variable {s : Shared} {P : Program} {w : World} {A : Around} {E : Value → Shared → Prop}
/-- the slice object of [::-1], taken of n items -/
theorem back_applied {sl : Addr} {tk : Tok} {n : Nat} {Q : Int × Int × Nat → Shared → Prop} (hs : s.heap.IsSliceOf sl .none .none (.int (-1) tk)) (q : Q ((n : Int) - 1, -1, n) s) :
    wpAny (model P w) A (Builtin.Slice.sliceApplied (.ref sl) (pure (n : Int))) Q E s := by
  obtain ⟨o, ho, _, hd⟩ := hs
  have none0 : IsPart Value.none none := .none
  have part : ∀ {i : Nat} {v : Value} {Q' : Value → Shared → Prop}, (#[Value.none, .none, .int (-1) tk] : Array Value)[i]? = some v → Q' v s → wpAny (model P w) A (field (.ref sl) i) Q' E s := fun hi h => wpAny_field ho hd hi h
  simp only [Builtin.Slice.sliceApplied, Builtin.Slice.sliceFields]
  refine wpAny_bind (wpAny_bind (part rfl (wpAny_bind (part rfl (wpAny_bind (part rfl (wpAny_pure ?_)))))))
  refine wpAny_bind (HT.slicePart_ (o := some (-1)) (.int (-1) tk) ?_)
  refine wpAny_bind (HT.slicePart_ none0 (wpAny_bind (HT.slicePart_ none0 (wpAny_bind (wpAny_pure ?_)))))
  have e := back_bounds n
  simp only [Option.getD, e.1, e.2]
  exact wpAny_pure q
/-- t[::-1] asked of the tuple's own __getitem__ -/
theorem back_got {t sl : Addr} {tk : Tok} {its : Array Value} {Q : Value → Shared → Prop} (ht : IsTup s.heap t its) (hs : s.heap.IsSliceOf sl .none .none (.int (-1) tk)) (hz : its.size ≤ sizeLine)
    (q : Q (.ref s.heap.objs.size) { s with heap := s.heap.push { cls := .type "tuple", data := .seq its.toList.reverse.toArray } }) : wpAny (model P w) A (getItem (.ref t) (.ref sl)) Q E s := by
  have slice : s.TypeIs (.ref sl) "slice" := hs.elim fun o h => ⟨o, h.1, h.2.1⟩
  have room : sizeOk (.seq its.toList.reverse.toArray) := by
    simpa [sizeOk] using hz
  have own : wpAny (model P w) A.in1 (Builtin.«tuple.__getitem__» ⟨[.ref t, .ref sl], []⟩) (fun fin s' => ∃ v, fin = .done (.ret v) ∧ Q v s') E s := by
    refine wpAny_bind (m := Builtin.Tuple.tupleItemsOf (.ref t)) (tupleItemsOf_ ht (wpAny_bind (wpAny_typeOf slice ?_)))
    rw [if_pos (by decide)]
    refine wpAny_bind (back_applied hs ?_)
    show wpAny _ _ (if ((its.size : Int) - 1 == 0 && (-1 : Int) == 1 && its.size == its.size) = true then _ else _) _ _ s
    rw [if_neg (by simp)]
    refine wpAny_bind (m := Builtin.Tuple.tupleExact _) ?_
    rw [back_items]
    refine wpAny_newObj_type ?_ room
    exact wpAny_pure ⟨_, rfl, q⟩
  have asked : wpAny (model P w) A (callSpecial? (.ref t) "__getitem__" [.ref sl]) (fun r s' => ∃ v, r = some v ∧ Q v s') E s :=
    wpAny_callSpecial?_slot ht.typeIs PyProof.Rows.slot_tuple_getitem (wpAny_call_entry PyProof.Rows.slot_tuple_getitem ht.typeIs entry_tuple_getitem (wpAny_mono own (fun f s' ⟨v, e, h⟩ => ⟨v, e, v, rfl, h⟩) fun _ _ h => h) (args_tuple_getitem _ _))
  simp only [getItem]
  refine wpAny_holding (wpAny_bind (wpAny_sequenceKey (hT := ht.typeIs) (by decide) ?_))
  refine wpAny_bind (wpAny_mono asked (fun r s' h => ?_) fun _ _ h => h)
  obtain ⟨v, rfl, h⟩ := h
  exact wpAny_pure h
end
section
variable {X : Cx}
/-- t[::-1], t a tuple -/
def tBack (K : PySem.W.Frag) (te : TE) : TE := fun σ H Q => te σ H fun x H1 => ∃ a xs, x = .ref a ∧ SqT K H1 a xs ∧ ∀ p, H1 p = none → Q (.ref p) (upd H1 p (.tup xs.reverse))
theorem pe_back {e : Expr} {te : TE} {k : Nat} {p1 p2 p3 pos : Pos} (he : PE X e te) : PE X (.Subscript e (.Slice none none (some (.UnaryOp .USub (.Constant (.int 1) k p1) p2)) p3) pos) (tBack X.K te) := by
  constructor
  intro pins s σ H Q I h
  have minus : PE X (.UnaryOp .USub (.Constant (.int 1) k p1) p2) (tUn (rU fun i => .int (-i)) (tC (.int 1))) := pe_un un_neg pe_int
  refine Subscript_ (thn (he.run pins s σ H _ I h) fun v s1 got => ?_)
  obtain ⟨_, H1, I1, rv, a, xs, rfl, hx, q⟩ := got
  obtain rfl : v = .ref a := rv
  refine wpAny_Slice (thn (po_none.run pins s1 σ H1 (fun o H' => o = none ∧ H' = H1) I1 ⟨rfl, rfl⟩) fun v2 s2 g2 => ?_)
  obtain ⟨_, H2, I2, n2, rfl, e2⟩ := g2
  rw [e2] at I2
  refine thn (po_none.run pins s2 σ H1 (fun o H' => o = none ∧ H' = H1) I2 ⟨rfl, rfl⟩) fun v3 s3 g3 => ?_
  obtain ⟨_, H3, I3, n3, rfl, e3⟩ := g3
  rw [e3] at I3
  refine thn ((po_some minus).run pins s3 σ H1 (fun o H' => o = some (-1) ∧ H' = H1) I3 ⟨1, rfl, -1, rfl, rfl, rfl⟩) fun v4 s4 g4 => ?_
  obtain ⟨_, H4, I4, n4, rfl, e4⟩ := g4
  rw [e4] at I4
  cases n2
  cases n3
  cases n4 with
  | int _ tk =>
    generalize hsl : ({ cls := .type "slice", data := .fields #[Value.none, .none, .int (-1) tk] } : Obj) = so
    have J : Inv X pins σ H1 { s4 with heap := s4.heap.push so } := I4.kept (t' := s4.toks) fun _ _ => Heap.get?_push_of_some _
    have sl : (s4.heap.push so).IsSliceOf s4.heap.objs.size .none .none (.int (-1) tk) := hsl ▸ Heap.IsSliceOf.new ..
    obtain ⟨its, rel, tup, z⟩ := J.tuple hx
    have sz := rel.length
    refine tail_any (s := { s4 with heap := s4.heap.push so }) (ops := [.ref a, .ref s4.heap.objs.size]) tup.typeIs PyProof.Rows.slot_tuple_getitem.lookup (back_got tup sl (by rw [List.size_toArray]; omega) ?_) (by with_unfolding_all rfl)
    refine ⟨.ref _, _, J.laid (t' := s4.toks) (o := .tup xs.reverse) (fun _ _ => Heap.get?_push_of_some _) (Nat.le_refl _) ⟨?_, its.reverse, rel.reverse, IsTup.new _ _⟩, rfl, q _ J.fresh⟩
    rw [List.length_reverse]
    exact z
end

/-! ### the text -/
def topS (i : Nat) : Stmt := PySem.Challenge.pw_longyears_k01_lands.main.body.getD i (.Pass ⟨0, 0, 0, 0⟩)
abbrev s_is_whole : Stmt := topS 1
abbrev s_is_between : Stmt := topS 2
abbrev s_is_land : Stmt := topS 7
abbrev s__law_deck : Stmt := topS 9
abbrev s__law_pick : Stmt := topS 10
abbrev s__law_whole : Stmt := topS 11
abbrev s__law_one : Stmt := topS 12
abbrev s__law_sort : Stmt := topS 13
abbrev s__law_same : Stmt := topS 14
abbrev s__law_odd : Stmt := topS 15
abbrev s__law_spoilt : Stmt := topS 16
abbrev s__law_land : Stmt := topS 17
abbrev s__law_any : Stmt := topS 18
abbrev s__law_is_land : Stmt := topS 19
abbrev s_law : Stmt := topS 20
theorem sc_is_whole : FnScope ["thing"] ["thing"] (defScope s_is_whole) := ⟨rfl, rfl, rfl, by decide +kernel, rfl, by decide +kernel, by decide +kernel⟩
theorem sc_is_between : FnScope ["thing", "least", "most"] ["thing", "least", "most"] (defScope s_is_between) := ⟨rfl, rfl, rfl, by decide +kernel, rfl, by decide +kernel, by decide +kernel⟩
theorem sc_is_land : FnScope ["thing", "days", "top", "bottom", "shift"] ["thing"] (defScope s_is_land) := ⟨rfl, rfl, rfl, by decide +kernel, rfl, by decide +kernel, by decide +kernel⟩
theorem sc__law_deck : FnScope ["cell", "turn"] ["cell", "turn"] (defScope s__law_deck) := ⟨rfl, rfl, rfl, by decide +kernel, rfl, by decide +kernel, by decide +kernel⟩
theorem sc__law_pick : FnScope ["deck", "size", "found", "number"] ["deck", "size"] (defScope s__law_pick) := ⟨rfl, rfl, rfl, by decide +kernel, rfl, by decide +kernel, by decide +kernel⟩
theorem sc__law_whole : FnScope ["thing"] ["thing"] (defScope s__law_whole) := ⟨rfl, rfl, rfl, by decide +kernel, rfl, by decide +kernel, by decide +kernel⟩
theorem sc__law_one : FnScope ["deck", "some"] ["deck", "some"] (defScope s__law_one) := ⟨rfl, rfl, rfl, by decide +kernel, rfl, by decide +kernel, by decide +kernel⟩
theorem sc__law_sort : FnScope ["thing"] ["thing"] (defScope s__law_sort) := ⟨rfl, rfl, rfl, by decide +kernel, rfl, by decide +kernel, by decide +kernel⟩
theorem sc__law_same : FnScope ["told", "due", "k", "part"] ["told", "due"] (defScope s__law_same) := ⟨rfl, rfl, rfl, by decide +kernel, rfl, by decide +kernel, by decide +kernel⟩
theorem sc__law_odd : FnScope ["deck", "some"] ["deck"] (defScope s__law_odd) := ⟨rfl, rfl, rfl, by decide +kernel, rfl, by decide +kernel, by decide +kernel⟩
theorem sc__law_spoilt : FnScope ["deck", "thing", "rows", "at", "other"] ["deck", "thing"] (defScope s__law_spoilt) := ⟨rfl, rfl, rfl, by decide +kernel, rfl, by decide +kernel, by decide +kernel⟩
theorem sc__law_land : FnScope ["deck", "long_so", "bottoms", "shifts", "bottom", "shift"] ["deck", "long_so", "bottoms", "shifts"] (defScope s__law_land) := ⟨rfl, rfl, rfl, by decide +kernel, rfl, by decide +kernel, by decide +kernel⟩
theorem sc__law_any : FnScope ["deck", "long_so", "bottoms", "shifts"] ["deck"] (defScope s__law_any) := ⟨rfl, rfl, rfl, by decide +kernel, rfl, by decide +kernel, by decide +kernel⟩
theorem sc__law_is_land : FnScope ["thing", "one"] ["thing"] (defScope s__law_is_land) := ⟨rfl, rfl, rfl, by decide +kernel, rfl, by decide +kernel, by decide +kernel⟩
theorem sc_law : FnScope ["script", "written", "cell", "deck", "land", "bent", "some", "thing", "k"] ["script"] (defScope s_law) := ⟨rfl, rfl, rfl, by decide +kernel, rfl, by decide +kernel, by decide +kernel⟩
structure DefAt (K : PySem.W.Frag) (mg : Str → Option Value) (x : Str) (st : Stmt) (ps : List Str) where
  f : Addr
  fd : FuncData
  F : Fun K x x st f fd
  b : Binds K fd ps []
  g : mg x = some (.ref f)
structure Txt (K : PySem.W.Frag) (mg : Str → Option Value) where
  is_whole : DefAt K mg "is_whole" s_is_whole ["thing"]
  is_between : DefAt K mg "is_between" s_is_between ["thing", "least", "most"]
  is_land : DefAt K mg "is_land" s_is_land ["thing"]
  _law_deck : DefAt K mg "_law_deck" s__law_deck ["cell", "turn"]
  _law_pick : DefAt K mg "_law_pick" s__law_pick ["deck", "size"]
  _law_whole : DefAt K mg "_law_whole" s__law_whole ["thing"]
  _law_one : DefAt K mg "_law_one" s__law_one ["deck", "some"]
  _law_sort : DefAt K mg "_law_sort" s__law_sort ["thing"]
  _law_same : DefAt K mg "_law_same" s__law_same ["told", "due"]
  _law_odd : DefAt K mg "_law_odd" s__law_odd ["deck"]
  _law_spoilt : DefAt K mg "_law_spoilt" s__law_spoilt ["deck", "thing"]
  _law_land : DefAt K mg "_law_land" s__law_land ["deck", "long_so", "bottoms", "shifts"]
  _law_any : DefAt K mg "_law_any" s__law_any ["deck"]
  _law_is_land : DefAt K mg "_law_is_land" s__law_is_land ["thing"]
  t_MOST_DAYS : Tok
  c_MOST_DAYS : mg "MOST_DAYS" = some (.int 400 t_MOST_DAYS)
  t_MOST_BOTTOM : Tok
  c_MOST_BOTTOM : mg "MOST_BOTTOM" = some (.int 60 t_MOST_BOTTOM)
  t_MOST_SHIFT : Tok
  c_MOST_SHIFT : mg "MOST_SHIFT" = some (.int 1000000 t_MOST_SHIFT)
  isinstance : mg "isinstance" = none
  b_int : mg "int" = none
  b_bool : mg "bool" = none
  tuple : mg "tuple" = none
  len : mg "len" = none
  str : mg "str" = none
  b_list : mg "list" = none
  enumerate : mg "enumerate" = none
  range : mg "range" = none

/-! ### things: plain data by kinds -/
inductive Kd where
  | non | bl | int | str | lst | tup
def Kd.nm : Kd → String
  | .non => "NoneType" | .bl => "bool" | .int => "int" | .str => "str" | .lst => "list" | .tup => "tuple"
inductive Dat (H : Hp) : V → Kd → Prop where
  | non : Dat H .non .non
  | bl (b : Bool) : Dat H (.bl b) .bl
  | int (i : Int) : Dat H (.int i) .int
  | str (x : Str) : Dat H (.str x) .str
  | lst {a : Addr} {xs : List V} (h : H a = some (.lst xs)) : Dat H (.ref a) .lst
  | tup {a : Addr} {xs : List V} (h : H a = some (.tup xs)) : Dat H (.ref a) .tup
theorem Dat.ty {K : PySem.W.Frag} {H : Hp} {x : V} {t : Kd} (d : Dat H x t) : TyX K H x (.type t.nm) := by
  cases d with
  | non => exact .base .non
  | bl b => exact .base (.bl b)
  | int i => exact .base (.int i)
  | str x => exact .base (.str x)
  | lst h => exact .base (.lst h)
  | tup h => exact .base (.tup h)
theorem Dat.ex {H H' : Hp} {x : V} {t : Kd} (e : Ex H H') (d : Dat H x t) : Dat H' x t := by
  cases d with
  | non => exact .non
  | bl b => exact .bl b
  | int i => exact .int i
  | str x => exact .str x
  | lst h => exact .lst (e _ _ h)
  | tup h => exact .tup (e _ _ h)
/-- isinstance among these kinds -/
def Kd.isa : Kd → Kd → Bool
  | .non, .non => true | .bl, .bl => true | .bl, .int => true | .int, .int => true | .str, .str => true | .lst, .lst => true | .tup, .tup => true
  | _, _ => false
theorem kit_kd {K : PySem.W.Frag} (a b : Kd) (hb : b.nm ≠ "NoneType") : PySem.W.kitOne K (.type a.nm) (.type b.nm) = some (a.isa b) := by
  cases b
  case non => exact absurd rfl hb
  all_goals cases a <;> exact kit_ty (by decide +kernel)
def wholeV : V → Bool
  | .int _ => true
  | _ => false
def btw (x : V) (lo hi : Int) : Bool := match x with
  | .int i => decide (lo ≤ i) && decide (i ≤ hi)
  | _ => false
section
variable {P : Program} {w : World} {K : PySem.W.Frag} {mg : Str → Option Value} {base : Heap}
def spWhole : Sp := fun vs H Q _ => ∃ x t, vs = [x] ∧ Dat H x t ∧ RetV (.bl (wholeV x)) H Q
theorem ok_is_whole (T : Txt K mg) {k : Nat} : FnOk P w K mg base CX0 (k + 1) T.is_whole.f T.is_whole.fd ["thing"] spWhole := by
  refine T.is_whole.F.ok sc_is_whole (fun vs H Q E h => ?_) (fun cdv A outer s H vs Q E hr h => ?_)
  · obtain ⟨x, t, rfl, _⟩ := h
    rfl
  · obtain ⟨x, t, rfl, d, q⟩ := h
    have q0 := q H (Ex.refl H)
    refine ⟨_, (pss_one (ps_ret (pe_and (pe_callB call_isi (by rfl) T.isinstance (by decide +kernel) (pa_cons (pv 0) (pa_cons (pe_bltn (v := .ty "int") (by rfl) T.b_int (by decide +kernel) rfl) pa_nil))) (pe_one (pe_not (pe_callB call_isi (by rfl) T.isinstance (by decide +kernel) (pa_cons (pv 0) (pa_cons (pe_bltn (v := .ty "bool") (by rfl) T.b_bool (by decide +kernel) rfl) pa_nil)))))))), ?_⟩
    refine ⟨_, rfl, _, _, _, _, _, rfl, .ty _, d.ty, kit_kd t .int (by decide), _, rfl, ?_⟩
    cases d
    case non => exact iteF q0
    case str => exact iteF q0
    case lst => exact iteF q0
    case tup => exact iteF q0
    case bl b => exact iteT ⟨_, rfl, _, _, _, _, _, rfl, .ty _, Dat.ty (.bl b), kit_kd .bl .bl (by decide), _, rfl, q0⟩
    case int i => exact iteT ⟨_, rfl, _, _, _, _, _, rfl, .ty _, Dat.ty (.int i), kit_kd .int .bl (by decide), _, rfl, q0⟩
def spBetween : Sp := fun vs H Q _ => ∃ x t lo hi, vs = [x, .int lo, .int hi] ∧ Dat H x t ∧ RetV (.bl (btw x lo hi)) H Q
theorem ok_is_between (T : Txt K mg) : FnOk P w K mg base CX0 2 T.is_between.f T.is_between.fd ["thing", "least", "most"] spBetween := by
  have G_is_whole : FnOk P w K mg base CX0 1 T.is_whole.f T.is_whole.fd ["thing"] spWhole := ok_is_whole T
  refine T.is_between.F.ok sc_is_between (fun vs H Q E h => ?_) (fun cdv A outer s H vs Q E hr h => ?_)
  · obtain ⟨x, t, lo, hi, rfl, _⟩ := h
    rfl
  · obtain ⟨x, t, lo, hi, rfl, d, q⟩ := h
    refine ⟨_, (pss_one (ps_ret (pe_and (pe_call G_is_whole (hr.mono (by omega)) (by rfl) T.is_whole.g T.is_whole.F.kp T.is_whole.b .nil pass0 (pa_cons (pv 0) pa_nil)) (pe_one (pe_chain op_le op_le (pv 1) (pv 0) (pv 2)))))), ?_⟩
    refine ⟨_, rfl, x, t, rfl, d, fun H1 e1 => ⟨_, rfl, ?_⟩⟩
    have q1 := q H1 e1
    cases x with
    | int i =>
      refine iteT ⟨_, rfl, _, rfl, _, _, rfl, rfl, _, rfl, ?_⟩
      by_cases h1 : lo ≤ i
      · rw [if_pos (decide_eq_true h1)]
        refine ⟨_, rfl, _, _, rfl, rfl, ?_⟩
        have e : btw (.int i) lo hi = decide (i ≤ hi) := by
          show (decide (lo ≤ i) && decide (i ≤ hi)) = _
          rw [decide_eq_true h1, Bool.true_and]
        rw [e] at q1
        exact q1
      · rw [if_neg (by rw [decide_eq_false h1]; decide)]
        have e : btw (.int i) lo hi = false := by
          show (decide (lo ≤ i) && decide (i ≤ hi)) = _
          rw [decide_eq_false h1, Bool.false_and]
        rw [e] at q1
        exact q1
    | _ => exact iteF q1
end

/-! ### is_land -/
def topB (t b : V) : Bool := match b with
  | .int b' => btw t 0 (b' - 1)
  | _ => false
def landL : List V → Bool
  | [d, t, b, s] => btw d 1 400 && (btw b 1 60 && (topB t b && btw s (-1000000) 1000000))
  | _ => false
def landB (H : Hp) (x : V) : Bool := match x with
  | .ref a => match H a with
    | some (.tup xs) => landL xs
    | _ => false
  | _ => false
theorem landB_tup {H : Hp} {a : Addr} {xs : List V} (h : H a = some (.tup xs)) : landB H (.ref a) = landL xs := by
  show (match H a with | some (.tup xs) => landL xs | _ => false) = _
  rw [h]
theorem landB_lst {H : Hp} {a : Addr} {xs : List V} (h : H a = some (.lst xs)) : landB H (.ref a) = false := by
  show (match H a with | some (.tup xs) => landL xs | _ => false) = _
  rw [h]
/-- all parts of a tuple are plain data -/
def Parts (H : Hp) (x : V) : Prop := ∀ a xs, x = .ref a → H a = some (.tup xs) → ∀ y ∈ xs, ∃ u, Dat H y u
theorem landL_len {xs : List V} (h : xs.length ≠ 4) : landL xs = false := by
  match xs, h with
  | [], _ => rfl
  | [_], _ => rfl
  | [_, _], _ => rfl
  | [_, _, _], _ => rfl
  | [_, _, _, _], h => exact absurd rfl h
  | _ :: _ :: _ :: _ :: _ :: _, _ => rfl
section
variable {P : Program} {w : World} {K : PySem.W.Frag} {mg : Str → Option Value} {base : Heap}
def spIsLand : Sp := fun vs H Q _ => ∃ x t, vs = [x] ∧ Dat H x t ∧ Parts H x ∧ RetV (.bl (landB H x)) H Q
theorem ok_is_land (T : Txt K mg) : FnOk P w K mg base CX0 3 T.is_land.f T.is_land.fd ["thing"] spIsLand := by
  have G_is_between : FnOk P w K mg base CX0 2 T.is_between.f T.is_between.fd ["thing", "least", "most"] spBetween := ok_is_between T
  refine T.is_land.F.ok sc_is_land (fun vs H Q E h => ?_) (fun cdv A outer s H vs Q E hr h => ?_)
  · obtain ⟨x, t, rfl, _⟩ := h
    rfl
  · obtain ⟨x, t, rfl, d, hp, q⟩ := h
    have q0 := q H (Ex.refl H)
    refine ⟨_, (pss_cons (ps_if (PW.pt (pw_or (pt_not (pt_val (pe_callB call_isi (by rfl) T.isinstance (by decide +kernel) (pa_cons (pv 0) (pa_cons (pe_bltn (v := .ty "tuple") (by rfl) T.tuple (by decide +kernel) rfl) pa_nil))))) (pw_or1 (pt_cmpR op_ne (pe_callB call_len_seq (by rfl) T.len (by decide +kernel) (pa_cons (pv 0) pa_nil)) pe_int (nomark _)))))
        (pss_one (ps_ret pe_bl))
        pss_nil)
      (pss_cons (ps_asg (pv 0) (pg_tup rfl (pgs_cons (pg_name (i := 1) sc_is_land.nd rfl (Or.inl rfl)) (pgs_cons (pg_name (i := 2) sc_is_land.nd rfl (Or.inl rfl)) (pgs_cons (pg_name (i := 3) sc_is_land.nd rfl (Or.inl rfl)) (pgs_cons (pg_name (i := 4) sc_is_land.nd rfl (Or.inl rfl)) pgs_nil))))))
      (pss_one (ps_ret (pe_and (pe_call G_is_between (hr.mono (by omega)) (by rfl) T.is_between.g T.is_between.F.kp T.is_between.b .nil pass0 (pa_cons (pv 1) (pa_cons pe_int (pa_cons (pe_glob (v := .int 400) rfl T.c_MOST_DAYS ⟨_, rfl⟩) pa_nil)))) (pe_and (pe_call G_is_between (hr.mono (by omega)) (by rfl) T.is_between.g T.is_between.F.kp T.is_between.b .nil pass0 (pa_cons (pv 3) (pa_cons pe_int (pa_cons (pe_glob (v := .int 60) rfl T.c_MOST_BOTTOM ⟨_, rfl⟩) pa_nil)))) (pe_and (pe_call G_is_between (hr.mono (by omega)) (by rfl) T.is_between.g T.is_between.F.kp T.is_between.b .nil pass0 (pa_cons (pv 2) (pa_cons pe_int (pa_cons (pe_op op_sub (pv 3) pe_int) pa_nil)))) (pe_one (pe_call G_is_between (hr.mono (by omega)) (by rfl) T.is_between.g T.is_between.F.kp T.is_between.b .nil pass0 (pa_cons (pv 4) (pa_cons (pe_un un_neg (pe_glob (v := .int 1000000) rfl T.c_MOST_SHIFT ⟨_, rfl⟩)) (pa_cons (pe_glob (v := .int 1000000) rfl T.c_MOST_SHIFT ⟨_, rfl⟩) pa_nil)))))))))))), ?_⟩
    refine ⟨_, rfl, _, _, _, _, _, rfl, .ty _, d.ty, kit_kd t .tup (by decide), _, rfl, ?_⟩
    cases d
    case non => exact iteT (iteT q0)
    case bl => exact iteT (iteT q0)
    case int => exact iteT (iteT q0)
    case str => exact iteT (iteT q0)
    case lst h =>
      rw [landB_lst h] at q0
      exact iteT (iteT q0)
    case tup a xs h =>
      refine iteF ⟨_, rfl, a, xs, rfl, .inr (st_of h), rfl, _, rfl, ite2 (fun e => ?_) (fun e => ?_)⟩
      · have hl : xs.length ≠ 4 := fun z => by
          rw [z] at e
          exact absurd e (by decide)
        rw [landB_tup h, landL_len hl] at q0
        exact q0
      · have hl : xs.length = 4 := by
          have e2 := Bool.eq_false_iff.mpr e
          have e3 := of_decide_eq_true (by simpa using e2 : decide (V.int (xs.length : Int) = V.int 4) = true)
          have := V.int.inj e3
          omega
        obtain ⟨dd, tt, bb, ss, rfl⟩ : ∃ d t b s, xs = [d, t, b, s] := by
          match xs, hl with
          | [d, t, b, s], _ => exact ⟨d, t, b, s, rfl⟩
        have hd := hp a _ rfl h
        obtain ⟨kd, dd'⟩ := hd dd (by simp)
        obtain ⟨kt, dt'⟩ := hd tt (by simp)
        obtain ⟨kb, db'⟩ := hd bb (by simp)
        obtain ⟨ks, ds'⟩ := hd ss (by simp)
        have q1 : ∀ H1, Ex H H1 → Q (.bl (btw dd 1 400 && (btw bb 1 60 && (topB tt bb && btw ss (-1000000) 1000000)))) H1 := fun H1 e1 => by
          have z := q H1 e1
          rw [landB_tup h] at z
          exact z
        refine ⟨.ref a, rfl, a, _, rfl, st_of h, rfl, dd, _, rfl, tt, _, rfl, bb, _, rfl, ss, _, rfl, rfl, ?_⟩
        refine ⟨dd, rfl, dd, kd, 1, 400, rfl, dd', fun H1 e1 => ⟨_, rfl, ?_⟩⟩
        cases c1 : btw dd 1 400 with
        | false =>
          have z := q1 H1 e1
          rw [c1, Bool.false_and] at z
          exact iteF z
        | true =>
        rw [c1, Bool.true_and] at q1
        refine iteT ⟨bb, rfl, bb, kb, 1, 60, rfl, db'.ex e1, fun H2 e2 => ⟨_, rfl, ?_⟩⟩
        have e12 := e1.trans e2
        cases c2 : btw bb 1 60 with
        | false =>
          have z := q1 H2 e12
          rw [c2, Bool.false_and] at z
          exact iteF z
        | true =>
        rw [c2, Bool.true_and] at q1
        match bb, c2 with
        | .int b', c2 =>
        refine iteT ⟨tt, rfl, .int b', rfl, b', 1, rfl, rfl, tt, kt, 0, b' - 1, rfl, dt'.ex e12, fun H3 e3 => ⟨_, rfl, ?_⟩⟩
        have e123 := e12.trans e3
        cases c3 : btw tt 0 (b' - 1) with
        | false =>
          have z := q1 H3 e123
          rw [show topB tt (V.int b') = btw tt 0 (b' - 1) from rfl, c3, Bool.false_and] at z
          exact iteF z
        | true =>
          refine iteT ⟨ss, rfl, 1000000, rfl, ss, ks, -1000000, 1000000, rfl, ds'.ex e123, fun H4 e4 => ?_⟩
          have z := q1 H4 (e123.trans e4)
          rw [show topB tt (V.int b') = btw tt 0 (b' - 1) from rfl, c3, Bool.true_and] at z
          exact z
end

/-! ### a land at a value -/
def Land (H : Hp) (v : V) (D T B S : Int) : Prop := ∃ a, v = .ref a ∧ H a = some (.tup [.int D, .int T, .int B, .int S]) ∧ (1 ≤ D ∧ D ≤ 400) ∧ (0 ≤ T ∧ T < B) ∧ (1 ≤ B ∧ B ≤ 60) ∧ (-1000000 ≤ S ∧ S ≤ 1000000)
theorem Land.ex {H H' : Hp} {v : V} {D T B S : Int} (e : Ex H H') (h : Land H v D T B S) : Land H' v D T B S := by
  obtain ⟨a, rfl, ha, r⟩ := h
  exact ⟨a, rfl, e _ _ ha, r⟩
theorem btw_yes {i lo hi : Int} (h : lo ≤ i ∧ i ≤ hi) : btw (.int i) lo hi = true := by
  show (decide (lo ≤ i) && decide (i ≤ hi)) = true
  rw [decide_eq_true h.1, decide_eq_true h.2]
  rfl
theorem btw_iff {i lo hi : Int} : btw (.int i) lo hi = true ↔ (lo ≤ i ∧ i ≤ hi) := by
  show (decide (lo ≤ i) && decide (i ≤ hi)) = true ↔ _
  rw [Bool.and_eq_true, decide_eq_true_iff, decide_eq_true_iff]
theorem Land.is {H : Hp} {v : V} {D T B S : Int} (h : Land H v D T B S) : landB H v = true := by
  obtain ⟨a, rfl, ha, r1, r2, r3, r4⟩ := h
  rw [landB_tup ha]
  show (btw (.int D) 1 400 && (btw (.int B) 1 60 && (btw (.int T) 0 (B - 1) && btw (.int S) (-1000000) 1000000))) = true
  rw [btw_yes r1, btw_yes r3, btw_yes ⟨r2.1, by omega⟩, btw_yes r4]
  rfl
theorem Land.parts {H : Hp} {v : V} {D T B S : Int} (h : Land H v D T B S) : Parts H v ∧ Dat H v .tup := by
  obtain ⟨a, rfl, ha, _⟩ := h
  refine ⟨fun b xs e hb y hy => ?_, .tup ha⟩
  cases e
  rw [ha] at hb
  cases hb
  simp only [List.mem_cons, List.not_mem_nil, or_false] at hy
  rcases hy with rfl | rfl | rfl | rfl <;> exact ⟨_, .int _⟩
/-- the day on which a year begins; how many days of these are added -/
def fst (D T B S y : Int) : Int := ((D * B + T) * y + S) / B
def add (T B S y : Int) : Int := (T * y + S) / B
def yr (D T B S n : Int) : Int := ((n + 1) * B - S - 1) / (D * B + T)
theorem cm_l {i j : Int} (h : -1000000000 ≤ i ∧ i ≤ 1000000000) : CMul i j := .inl ⟨by omega, by omega⟩
theorem cm_r {i j : Int} (h : -1000000000 ≤ j ∧ j ≤ 1000000000) : CMul i j := .inr ⟨by omega, by omega⟩
theorem step_bd {D T B : Int} (r1 : 1 ≤ D ∧ D ≤ 400) (r2 : 0 ≤ T ∧ T < B) (r3 : 1 ≤ B ∧ B ≤ 60) : 1 ≤ D * B + T ∧ D * B + T ≤ 24060 := by
  have h1 : D * B ≤ 400 * B := Int.mul_le_mul_of_nonneg_right r1.2 (by omega)
  have h2 : 1 * B ≤ D * B := Int.mul_le_mul_of_nonneg_right r1.1 (by omega)
  omega

/-! ### the deck -/
def Dk (n : Nat) (H : Hp) (d : Addr) : Prop := ∃ x y z : Int, H d = some (.lst [.int x, .int y, .int z]) ∧ (0 ≤ y ∧ y < 2147483579) ∧ (0 ≤ z ∧ z ≤ (n : Int))
/-- all but the deck stands as it stood -/
def ExD (d : Addr) (H H' : Hp) : Prop := ∀ a o, a ≠ d → H a = some o → H' a = some o
theorem ExD.refl {d : Addr} {H : Hp} : ExD d H H := fun _ _ _ h => h
theorem ExD.trans {d : Addr} {H H1 H2 : Hp} (a : ExD d H H1) (b : ExD d H1 H2) : ExD d H H2 := fun x o n h => b x o n (a x o n h)
theorem ExD.of {d : Addr} {H H' : Hp} (e : Ex H H') : ExD d H H' := fun a o _ h => e a o h
theorem ExD.upd {d : Addr} {H : Hp} {o : HO} : ExD d H (upd H d o) := fun a u n h => by
  rw [upd_ne n]
  exact h
theorem Dk.ex {n : Nat} {H H' : Hp} {d : Addr} (e : Ex H H') (h : Dk n H d) : Dk n H' d := by
  obtain ⟨x, y, z, hd, r⟩ := h
  exact ⟨x, y, z, e _ _ hd, r⟩
theorem Dk.ne_tup {n : Nat} {H : Hp} {d a : Addr} {xs : List V} (h : Dk n H d) (ha : H a = some (.tup xs)) : a ≠ d := by
  obtain ⟨x, y, z, hd, r⟩ := h
  exact ne_of ha hd (fun z => by cases z)
theorem ExD.tup {n : Nat} {H H' : Hp} {d a : Addr} {xs : List V} (e : ExD d H H') (h : Dk n H d) (ha : H a = some (.tup xs)) : H' a = some (.tup xs) := e _ _ (h.ne_tup ha) ha
theorem ExD.land {n : Nat} {H H' : Hp} {d : Addr} {v : V} {D T B S : Int} (e : ExD d H H') (h : Dk n H d) (hl : Land H v D T B S) : Land H' v D T B S := by
  obtain ⟨a, rfl, ha, r⟩ := hl
  exact ⟨a, rfl, e.tup h ha, r⟩
/-- new addresses are new -/
theorem ExD.fresh {n : Nat} {d : Addr} {H H' : Hp} {p : Addr} (e : ExD d H H') (hd : Dk n H' d) (h : H' p = none) : H p = none := by
  cases q : H p with
  | none => rfl
  | some o =>
    by_cases hp : p = d
    · obtain ⟨x, y, z, h1, _⟩ := hd
      rw [hp, h1] at h
      cases h
    · rw [e _ _ hp q] at h
      cases h
section
variable {P : Program} {w : World} {K : PySem.W.Frag} {mg : Str → Option Value} {base : Heap}
def spDeck : Sp := fun vs H Q _ => ∃ (c : Int) (n : Nat), vs = [.int c, .int n] ∧ ∀ p H2, H p = none → Ex H H2 → Dk n H2 p → Q (.ref p) H2
theorem ok__law_deck (T : Txt K mg) : FnOk P w K mg base CX0 1 T._law_deck.f T._law_deck.fd ["cell", "turn"] spDeck := by
  refine T._law_deck.F.ok sc__law_deck (fun vs H Q E h => ?_) (fun cdv A outer s H vs Q E hr h => ?_)
  · obtain ⟨c, n, rfl, _⟩ := h
    rfl
  · obtain ⟨c, n, rfl, q⟩ := h
    have hm := Int.emod_nonneg c (show (2147483579 : Int) ≠ 0 by decide)
    have hm2 := Int.emod_lt_of_pos c (show (0 : Int) < 2147483579 by decide)
    refine ⟨_, (pss_cons (ps_if (pt_cmpR op_ge (pv 0) (pe_op op_pow pe_int pe_int) (nomark _))
        (pss_one (ps_ret (pe_lst (pa_cons (pe_op op_sub (pv 0) (pe_op op_pow pe_int pe_int)) (pa_cons (pe_op op_mod (pv 0) pe_int) (pa_cons (pv 1) pa_nil))))))
        pss_nil)
      (pss_one (ps_ret (pe_lst (pa_cons pe_int (pa_cons (pe_op op_mod (pv 0) pe_int) (pa_cons (pv 1) pa_nil))))))), ?_⟩
    refine ⟨_, rfl, _, _, rfl, rfl, ⟨by decide, by decide, by decide⟩, _, _, rfl, rfl, _, rfl, ite2 (fun e => ?_) (fun e => ?_)⟩
    · refine ⟨_, rfl, _, _, rfl, rfl, ⟨by decide, by decide, by decide⟩, _, _, rfl, rfl, _, rfl, _, _, rfl, rfl, by show (0 : Int) < 2147483579; decide, _, rfl, by show 3 ≤ sizeLine; decide, fun p hp => ?_⟩
      exact q p _ hp (Ex.new hp) ⟨_, _, _, upd_same, ⟨hm, hm2⟩, by omega, by omega⟩
    · refine ⟨_, rfl, _, _, rfl, rfl, by show (0 : Int) < 2147483579; decide, _, rfl, by show 3 ≤ sizeLine; decide, fun p hp => ?_⟩
      exact q p _ hp (Ex.new hp) ⟨_, _, _, upd_same, ⟨hm, hm2⟩, by omega, by omega⟩
def spPick : Sp := fun vs H Q _ => ∃ (d : Addr) (m : Int) (n : Nat), vs = [.ref d, .int m] ∧ Dk n H d ∧ n < 1000000 ∧ (0 < m ∧ m.natAbs < 2 ^ 100) ∧ ∀ r H', 0 ≤ r → r < m → ExD d H H' → Dk (n + 1) H' d → Q (.int r) H'
theorem ok__law_pick (T : Txt K mg) : FnOk P w K mg base CX0 1 T._law_pick.f T._law_pick.fd ["deck", "size"] spPick := by
  refine T._law_pick.F.ok sc__law_pick (fun vs H Q E h => ?_) (fun cdv A outer s H vs Q E hr h => ?_)
  · obtain ⟨d, m, n, rfl, _⟩ := h
    rfl
  · obtain ⟨d, m, n, rfl, ⟨x, y, z, hd, hy, hz⟩, hn, hm, q⟩ := h
    refine ⟨_, (pss_cons (ps_if (pt_cmpR op_gt (pe_ix ix_list (pv 0) pe_int (fun _ _ => rfl)) pe_int (nomark _))
        (pss_cons (ps_set (i := 2) sc__law_pick.nd rfl (Or.inl rfl) (pe_op op_mod (pe_ix ix_list (pv 0) pe_int (fun _ _ => rfl)) (pv 1)))
      (pss_cons (ps_asg (pe_op op_fdivW (pe_ix ix_list (pv 0) pe_int (fun _ _ => rfl)) (pv 1)) (pg_sub (pv 0) pe_int set_list))
      (pss_one (ps_ret (pv 2)))))
        pss_nil)
      (pss_cons (ps_asg (pe_op op_add (pe_ix ix_list (pv 0) pe_int (fun _ _ => rfl)) pe_int) (pg_sub (pv 0) pe_int set_list))
      (pss_cons (ps_set (i := 3) sc__law_pick.nd rfl (Or.inl rfl) (pe_op op_mod (pe_op op_pow (pe_op op_add (pe_ix ix_list (pv 0) pe_int (fun _ _ => rfl)) (pe_op op_mul pe_int (pe_ix ix_list (pv 0) pe_int (fun _ _ => rfl)))) pe_int) pe_int))
      (pss_cons (ps_set (i := 2) sc__law_pick.nd rfl (Or.inl rfl) (pe_op op_fdiv (pe_op op_mod (pe_op op_pow (pe_op op_add (pv 3) (pe_op op_mul pe_int (pe_ix ix_list (pv 0) pe_int (fun _ _ => rfl)))) pe_int) pe_int) pe_int))
      (pss_one (ps_ret (pe_op op_mod (pv 2) (pv 1)))))))), ?_⟩
    refine ⟨.ref d, rfl, d, _, 0, _, rfl, rfl, sq_of hd, rfl, _, _, rfl, rfl, _, rfl, ite2 (fun e => ?_) (fun e => ?_)⟩
    · refine ⟨.ref d, rfl, d, _, 0, _, rfl, rfl, sq_of hd, rfl, _, rfl, _, _, rfl, rfl, hm.1, ?_⟩
      refine ⟨.ref d, rfl, d, _, 0, _, rfl, rfl, sq_of hd, rfl, _, rfl, _, _, rfl, rfl, wide_div hm.1 hm.2 (by decide) (by decide), ?_⟩
      refine ⟨.ref d, rfl, d, _, _, _, rfl, rfl, hd, rfl, ?_⟩
      refine ⟨_, rfl, ?_⟩
      exact q _ _ (Int.emod_nonneg x (by omega)) (Int.emod_lt_of_pos x hm.1) ExD.upd ⟨_, _, _, upd_same, hy, by omega, by omega⟩
    · refine ⟨.ref d, rfl, d, _, 2, _, rfl, rfl, sq_of hd, rfl, _, _, rfl, rfl, ?_⟩
      refine ⟨.ref d, rfl, d, _, _, _, rfl, rfl, hd, rfl, ?_⟩
      have hd2 : upd H d (.lst ([V.int x, V.int y, V.int z].set 2 (.int (z + 1)))) d = some (.lst [.int x, .int y, .int (z + 1)]) := upd_same
      have hE : ExD d H (upd H d (.lst ([V.int x, V.int y, V.int z].set 2 (.int (z + 1))))) := ExD.upd
      revert hd2 hE
      show ∀ _ _, tSeq _ _ _ _ (upd H d (.lst ([V.int x, V.int y, V.int z].set 2 (.int (z + 1)))))
      generalize upd H d (.lst ([V.int x, V.int y, V.int z].set 2 (.int (z + 1)))) = H2
      intro hd2 hE
      refine ⟨.ref d, rfl, d, _, 1, _, rfl, rfl, sq_of hd2, rfl, .ref d, rfl, d, _, 2, _, rfl, rfl, sq_of hd2, rfl, _, _, rfl, rfl, cm_l (by omega), _, _, rfl, rfl, _, _, rfl, rfl, ⟨by decide, by decide, by omega⟩, _, _, rfl, rfl, by show (0 : Int) < 2147483647; decide, ?_⟩
      have g1 := Int.emod_nonneg ((y + 15485867 * (z + 1)) ^ (5 : Int).toNat) (show (2147483647 : Int) ≠ 0 by decide)
      have g2 := Int.emod_lt_of_pos ((y + 15485867 * (z + 1)) ^ (5 : Int).toNat) (show (0 : Int) < 2147483647 by decide)
      revert g1 g2
      generalize ((y + 15485867 * (z + 1)) ^ (5 : Int).toNat) % 2147483647 = N
      intro g1 g2
      refine ⟨_, rfl, .ref d, rfl, d, _, 2, _, rfl, rfl, sq_of hd2, rfl, _, _, rfl, rfl, cm_l (by omega), _, _, rfl, rfl, _, _, rfl, rfl, ⟨by decide, by decide, by omega⟩, _, _, rfl, rfl, by show (0 : Int) < 2147483629; decide, _, _, rfl, rfl, ⟨by decide, by decide⟩, ?_⟩
      refine ⟨_, rfl, _, rfl, _, _, rfl, rfl, hm.1, ?_⟩
      exact q _ _ (Int.emod_nonneg _ (by omega)) (Int.emod_lt_of_pos _ hm.1) hE ⟨_, _, _, hd2, hy, by omega, by omega⟩
def spOne : Sp := fun vs H Q _ => ∃ (d b : Addr) (xs : List V) (n : Nat), vs = [.ref d, .ref b] ∧ Dk n H d ∧ n < 1000000 ∧ H b = some (.lst xs) ∧ b ≠ d ∧ (0 < xs.length ∧ xs.length ≤ 1000) ∧
  ∀ v H', v ∈ xs → ExD d H H' → Dk (n + 1) H' d → Q v H'
theorem ok__law_one (T : Txt K mg) : FnOk P w K mg base CX0 2 T._law_one.f T._law_one.fd ["deck", "some"] spOne := by
  have G__law_pick : FnOk P w K mg base CX0 1 T._law_pick.f T._law_pick.fd ["deck", "size"] spPick := ok__law_pick T
  refine T._law_one.F.ok sc__law_one (fun vs H Q E h => ?_) (fun cdv A outer s H vs Q E hr h => ?_)
  · obtain ⟨d, m, xs, n, rfl, _⟩ := h
    rfl
  · obtain ⟨d, b, xs, n, rfl, hk, hn, hb, ne, hl, q⟩ := h
    refine ⟨_, (pss_one (ps_ret (pe_ix ix_list (pv 1) (pe_call G__law_pick (hr.mono (by omega)) (by rfl) T._law_pick.g T._law_pick.F.kp T._law_pick.b .nil pass0 (pa_cons (pv 0) (pa_cons (pe_callB call_len_seq (by rfl) T.len (by decide +kernel) (pa_cons (pv 1) pa_nil)) pa_nil))) (fun _ _ => rfl)))), ?_⟩
    refine ⟨_, rfl, _, rfl, _, rfl, b, xs, rfl, .inl (sq_of hb), d, _, n, rfl, hk, hn, ⟨by omega, by omega⟩, fun r H1 h0 h1 e1 k1 => ?_⟩
    have hr : r.toNat < xs.length := by omega
    refine ⟨b, xs, r, xs[r.toNat], rfl, rfl, sq_of (e1 _ _ ne hb), ?_, q _ _ (List.getElem_mem hr) e1 k1⟩
    exact at_of (j := r.toNat) (by omega) (List.getElem?_eq_getElem hr)
end

/-! ### drawn lands, far numbers -/
section
variable {P : Program} {w : World} {K : PySem.W.Frag} {mg : Str → Option Value} {base : Heap}
def spDraw : Sp := fun vs H Q _ => ∃ (d : Addr) (L M N : Int) (n : Nat), vs = [.ref d, .int L, .int M, .int N] ∧ Dk n H d ∧ n < 900000 ∧ (1 ≤ L ∧ L ≤ 400) ∧ (1 ≤ M ∧ M ≤ 60) ∧ (0 ≤ N ∧ N ≤ 1000000) ∧
  ∀ v H' D T B S, Land H' v D T B S → D ≤ L → B ≤ M → -N ≤ S → S ≤ N → ExD d H H' → Dk (n + 4) H' d → Q v H'
theorem ok__law_land (T : Txt K mg) : FnOk P w K mg base CX0 2 T._law_land.f T._law_land.fd ["deck", "long_so", "bottoms", "shifts"] spDraw := by
  have G__law_pick : FnOk P w K mg base CX0 1 T._law_pick.f T._law_pick.fd ["deck", "size"] spPick := ok__law_pick T
  refine T._law_land.F.ok sc__law_land (fun vs H Q E h => ?_) (fun cdv A outer s H vs Q E hr h => ?_)
  · obtain ⟨d, L, M, N, n, rfl, _⟩ := h
    rfl
  · obtain ⟨d, L, M, N, n, rfl, hk, hn, hL, hM, hN, q⟩ := h
    refine ⟨_, (pss_cons (ps_set (i := 4) sc__law_land.nd rfl (Or.inl rfl) (pe_op op_add pe_int (pe_call G__law_pick (hr.mono (by omega)) (by rfl) T._law_pick.g T._law_pick.F.kp T._law_pick.b .nil pass0 (pa_cons (pv 0) (pa_cons (pv 2) pa_nil)))))
      (pss_cons (ps_set (i := 5) sc__law_land.nd rfl (Or.inl rfl) (pe_op op_sub (pe_call G__law_pick (hr.mono (by omega)) (by rfl) T._law_pick.g T._law_pick.F.kp T._law_pick.b .nil pass0 (pa_cons (pv 0) (pa_cons (pe_op op_add (pe_op op_mul pe_int (pv 3)) pe_int) pa_nil))) (pv 3)))
      (pss_one (ps_ret (pe_tup (pa_cons (pe_op op_add pe_int (pe_call G__law_pick (hr.mono (by omega)) (by rfl) T._law_pick.g T._law_pick.F.kp T._law_pick.b .nil pass0 (pa_cons (pv 0) (pa_cons (pv 1) pa_nil)))) (pa_cons (pe_call G__law_pick (hr.mono (by omega)) (by rfl) T._law_pick.g T._law_pick.F.kp T._law_pick.b .nil pass0 (pa_cons (pv 0) (pa_cons (pv 4) pa_nil))) (pa_cons (pv 4) (pa_cons (pv 5) pa_nil))))))))), ?_⟩
    refine ⟨_, rfl, _, rfl, d, M, n, rfl, hk, by omega, ⟨by omega, by omega⟩, fun b H1 b0 b1 e1 k1 => ⟨_, _, rfl, rfl, ?_⟩⟩
    refine ⟨_, rfl, _, rfl, _, _, rfl, rfl, cm_l (by omega), _, _, rfl, rfl, d, _, n + 1, rfl, k1, by omega, ⟨by omega, by omega⟩, fun sh H2 s0 s1 e2 k2 => ⟨_, rfl, _, _, rfl, rfl, ?_⟩⟩
    refine ⟨_, rfl, _, rfl, d, L, n + 2, rfl, k2, by omega, ⟨by omega, by omega⟩, fun dd H3 d0 d1 e3 k3 => ⟨_, _, rfl, rfl, ?_⟩⟩
    refine ⟨_, rfl, _, rfl, d, 1 + b, n + 3, rfl, k3, by omega, ⟨by omega, by omega⟩, fun tt H4 t0 t1 e4 k4 => ?_⟩
    refine ⟨_, rfl, _, rfl, by show 4 ≤ sizeLine; decide, fun p hp => ?_⟩
    exact q _ _ (1 + dd) tt (1 + b) (sh - N) ⟨p, rfl, upd_same, ⟨by omega, by omega⟩, ⟨by omega, by omega⟩, ⟨by omega, by omega⟩, ⟨by omega, by omega⟩⟩ (by omega) (by omega) (by omega) (by omega)
      (((e1.trans e2).trans (e3.trans e4)).trans (ExD.of (Ex.new hp))) (k4.ex (Ex.new hp))
def spAny : Sp := fun vs H Q _ => ∃ (d : Addr) (n : Nat), vs = [.ref d] ∧ Dk n H d ∧ n < 800000 ∧ ∀ v H' D T B S, Land H' v D T B S → ExD d H H' → Dk (n + 5) H' d → Q v H'
theorem ok__law_any (T : Txt K mg) : FnOk P w K mg base CX0 3 T._law_any.f T._law_any.fd ["deck"] spAny := by
  have G__law_one : FnOk P w K mg base CX0 2 T._law_one.f T._law_one.fd ["deck", "some"] spOne := ok__law_one T
  have G__law_land : FnOk P w K mg base CX0 2 T._law_land.f T._law_land.fd ["deck", "long_so", "bottoms", "shifts"] spDraw := ok__law_land T
  refine T._law_any.F.ok sc__law_any (fun vs H Q E h => ?_) (fun cdv A outer s H vs Q E hr h => ?_)
  · obtain ⟨d, n, rfl, _⟩ := h
    rfl
  · obtain ⟨d, n, rfl, hk, hn, q⟩ := h
    refine ⟨_, (pss_cons (ps_asg (pe_call G__law_one (hr.mono (by omega)) (by rfl) T._law_one.g T._law_one.F.kp T._law_one.b .nil pass0 (pa_cons (pv 0) (pa_cons (pe_lst (pa_cons (pe_tup (pa_cons pe_int (pa_cons pe_int (pa_cons pe_int pa_nil)))) (pa_cons (pe_tup (pa_cons pe_int (pa_cons pe_int (pa_cons pe_int pa_nil)))) (pa_cons (pe_tup (pa_cons pe_int (pa_cons pe_int (pa_cons (pe_op op_pow pe_int pe_int) pa_nil)))) pa_nil)))) pa_nil))) (pg_tup rfl (pgs_cons (pg_name (i := 1) sc__law_any.nd rfl (Or.inl rfl)) (pgs_cons (pg_name (i := 2) sc__law_any.nd rfl (Or.inl rfl)) (pgs_cons (pg_name (i := 3) sc__law_any.nd rfl (Or.inl rfl)) pgs_nil)))))
      (pss_one (ps_ret (pe_call G__law_land (hr.mono (by omega)) (by rfl) T._law_land.g T._law_land.F.kp T._law_land.b .nil pass0 (pa_cons (pv 0) (pa_cons (pv 1) (pa_cons (pv 2) (pa_cons (pv 3) pa_nil)))))))), ?_⟩
    refine ⟨_, rfl, by show 3 ≤ sizeLine; decide, fun p1 n1 => ?_⟩
    refine ⟨by show 3 ≤ sizeLine; decide, fun p2 n2 => ?_⟩
    refine ⟨_, _, rfl, rfl, ⟨by decide, by decide, by decide⟩, by show 3 ≤ sizeLine; decide, fun p3 n3 => ?_⟩
    refine ⟨by show 3 ≤ sizeLine; decide, fun p4 n4 => ?_⟩
    have x1 := Ex.new (o := .tup [.int 9, .int 5, .int 9]) n1
    have x2 := Ex.new (o := .tup [.int 30, .int 60, .int 99]) n2
    have x3 := Ex.new (o := .tup [.int 400, .int 60, .int ((10 : Int) ^ (6 : Int).toNat)]) n3
    have x4 := Ex.new (o := .lst [.ref p1, .ref p2, .ref p3]) n4
    have k4 := (((hk.ex x1).ex x2).ex x3).ex x4
    have a1 := x4 _ _ (x3 _ _ (x2 _ _ (upd_same (H := H) (a := p1) (o := .tup [.int 9, .int 5, .int 9]))))
    have a2 := x4 _ _ (x3 _ _ (upd_same (a := p2) (o := .tup [.int 30, .int 60, .int 99])))
    have a3 := x4 _ _ (upd_same (a := p3) (o := .tup [.int 400, .int 60, .int ((10 : Int) ^ (6 : Int).toNat)]))
    have nd : p4 ≠ d := fun z => by
      obtain ⟨_, _, _, hd, _⟩ := ((hk.ex x1).ex x2).ex x3
      rw [z, hd] at n4
      cases n4
    refine ⟨d, p4, _, n, rfl, k4, by omega, upd_same, nd, ⟨by show 0 < 3; decide, by show 3 ≤ 1000; decide⟩, fun v H5 hv e5 k5 => ?_⟩
    obtain ⟨p, L, M, N, rfl, hp, hL, hM, hN⟩ : ∃ (p : Addr) (L M N : Int), v = .ref p ∧ H5 p = some (.tup [.int L, .int M, .int N]) ∧ (1 ≤ L ∧ L ≤ 400) ∧ (1 ≤ M ∧ M ≤ 60) ∧ (0 ≤ N ∧ N ≤ 1000000) := by
      simp only [List.mem_cons, List.not_mem_nil, or_false] at hv
      rcases hv with hv | hv | hv
      · exact ⟨p1, _, _, _, hv, e5.tup k4 a1, ⟨by decide, by decide⟩, ⟨by decide, by decide⟩, ⟨by decide, by decide⟩⟩
      · exact ⟨p2, _, _, _, hv, e5.tup k4 a2, ⟨by decide, by decide⟩, ⟨by decide, by decide⟩, ⟨by decide, by decide⟩⟩
      · exact ⟨p3, _, _, _, hv, e5.tup k4 a3, ⟨by decide, by decide⟩, ⟨by decide, by decide⟩, ⟨by decide, by decide⟩⟩
    refine ⟨p, _, rfl, st_of hp, rfl, _, _, rfl, _, _, rfl, _, _, rfl, rfl, ?_⟩
    refine ⟨_, rfl, _, rfl, _, rfl, _, rfl, d, L, M, N, n + 1, rfl, k5, by omega, hL, hM, hN, fun u H6 D T' B S hl _ _ _ _ e6 k6 => ?_⟩
    exact q u H6 D T' B S hl ((ExD.of (((x1.trans x2).trans x3).trans x4)).trans (e5.trans e6)) k6

end

/-! ### sameness -/
def Kd.sort : Kd → Int
  | .bl => 1 | .int => 2 | .str => 3 | .lst => 4 | .tup => 5 | .non => 6
section
variable {P : Program} {w : World} {K : PySem.W.Frag} {mg : Str → Option Value} {base : Heap}
def spSort : Sp := fun vs H Q _ => ∃ x t, vs = [x] ∧ Dat H x t ∧ RetV (.int t.sort) H Q
theorem ok__law_sort (T : Txt K mg) : FnOk P w K mg base CX0 1 T._law_sort.f T._law_sort.fd ["thing"] spSort := by
  refine T._law_sort.F.ok sc__law_sort (fun vs H Q E h => ?_) (fun cdv A outer s H vs Q E hr h => ?_)
  · obtain ⟨x, t, rfl, _⟩ := h
    rfl
  · obtain ⟨x, t, rfl, d, q⟩ := h
    have q0 := q H (Ex.refl H)
    refine ⟨_, (pss_cons (ps_if (pt_val (pe_callB call_isi (by rfl) T.isinstance (by decide +kernel) (pa_cons (pv 0) (pa_cons (pe_bltn (v := .ty "bool") (by rfl) T.b_bool (by decide +kernel) rfl) pa_nil))))
        (pss_one (ps_ret pe_int))
        pss_nil)
      (pss_cons (ps_if (pt_val (pe_callB call_isi (by rfl) T.isinstance (by decide +kernel) (pa_cons (pv 0) (pa_cons (pe_bltn (v := .ty "int") (by rfl) T.b_int (by decide +kernel) rfl) pa_nil))))
        (pss_one (ps_ret pe_int))
        pss_nil)
      (pss_cons (ps_if (pt_val (pe_callB call_isi (by rfl) T.isinstance (by decide +kernel) (pa_cons (pv 0) (pa_cons (pe_bltn (v := .ty "str") (by rfl) T.str (by decide +kernel) rfl) pa_nil))))
        (pss_one (ps_ret pe_int))
        pss_nil)
      (pss_cons (ps_if (pt_val (pe_callB call_isi (by rfl) T.isinstance (by decide +kernel) (pa_cons (pv 0) (pa_cons (pe_bltn (v := .ty "list") (by rfl) T.b_list (by decide +kernel) rfl) pa_nil))))
        (pss_one (ps_ret pe_int))
        pss_nil)
      (pss_one (ps_ret (pe_ifExp (pt_val (pe_callB call_isi (by rfl) T.isinstance (by decide +kernel) (pa_cons (pv 0) (pa_cons (pe_bltn (v := .ty "tuple") (by rfl) T.tuple (by decide +kernel) rfl) pa_nil)))) pe_int pe_int))))))), ?_⟩
    refine ⟨_, rfl, _, _, _, _, _, rfl, .ty _, d.ty, kit_kd t .bl (by decide), _, rfl, ?_⟩
    cases t
    case bl => exact iteT q0
    all_goals refine iteF ⟨_, rfl, _, _, _, _, _, rfl, .ty _, d.ty, kit_kd _ .int (by decide), _, rfl, ?_⟩
    case int => exact iteT q0
    all_goals refine iteF ⟨_, rfl, _, _, _, _, _, rfl, .ty _, d.ty, kit_kd _ .str (by decide), _, rfl, ?_⟩
    case str => exact iteT q0
    all_goals refine iteF ⟨_, rfl, _, _, _, _, _, rfl, .ty _, d.ty, kit_kd _ .lst (by decide), _, rfl, ?_⟩
    case lst => exact iteT q0
    all_goals refine iteF ⟨_, rfl, _, _, _, _, _, rfl, .ty _, d.ty, kit_kd _ .tup (by decide), _, rfl, ?_⟩
    case tup => exact iteT q0
    case non => exact iteF q0
end
/-- x and y are the same data, to the depth n -/
inductive Sm (H : Hp) : Nat → V → V → Prop where
  | non {n : Nat} : Sm H n .non .non
  | bl {n : Nat} (b : Bool) : Sm H n (.bl b) (.bl b)
  | int {n : Nat} (i : Int) : Sm H n (.int i) (.int i)
  | str {n : Nat} (x : Str) : Sm H n (.str x) (.str x)
  | lst {n : Nat} {a b : Addr} {xs ys : List V} (ha : H a = some (.lst xs)) (hb : H b = some (.lst ys)) (hl : xs.length = ys.length) (hz : xs.length ≤ 1000) (h : ∀ (i : Nat) (x y : V), xs[i]? = some x → ys[i]? = some y → Sm H n x y) : Sm H (n + 1) (.ref a) (.ref b)
  | tup {n : Nat} {a b : Addr} {xs ys : List V} (ha : H a = some (.tup xs)) (hb : H b = some (.tup ys)) (hl : xs.length = ys.length) (hz : xs.length ≤ 1000) (h : ∀ (i : Nat) (x y : V), xs[i]? = some x → ys[i]? = some y → Sm H n x y) : Sm H (n + 1) (.ref a) (.ref b)
theorem Sm.ex {H H' : Hp} {n : Nat} {x y : V} (e : Ex H H') (h : Sm H n x y) : Sm H' n x y := by
  induction h with
  | non => exact .non
  | bl b => exact .bl b
  | int i => exact .int i
  | str x => exact .str x
  | lst ha hb hl hz _ ih => exact .lst (e _ _ ha) (e _ _ hb) hl hz ih
  | tup ha hb hl hz _ ih => exact .tup (e _ _ ha) (e _ _ hb) hl hz ih
theorem Sm.kd {H : Hp} {n : Nat} {x y : V} (h : Sm H n x y) : ∃ t, Dat H x t ∧ Dat H y t := by
  cases h with
  | non => exact ⟨_, .non, .non⟩
  | bl b => exact ⟨_, .bl b, .bl b⟩
  | int i => exact ⟨_, .int i, .int i⟩
  | str x => exact ⟨_, .str x, .str x⟩
  | lst ha hb _ _ _ => exact ⟨_, .lst ha, .lst hb⟩
  | tup ha hb _ _ _ => exact ⟨_, .tup ha, .tup hb⟩
def spSame : Nat → Sp
  | 0 => fun _ _ _ _ => False
  | n + 1 => fun vs H Q _ => ∃ x y, vs = [x, y] ∧ Sm H n x y ∧ RetV (.bl true) H Q
section
variable {P : Program} {w : World} {K : PySem.W.Frag} {mg : Str → Option Value} {base : Heap}
theorem ok__law_same (T : Txt K mg) (n : Nat) : FnOk P w K mg base CX0 (n + 1) T._law_same.f T._law_same.fd ["told", "due"] (spSame n) := by
  induction n with
  | zero => exact ⟨fun _ _ _ _ h => h.elim, fun _ _ _ _ _ _ _ _ _ _ _ _ _ h => h.elim⟩
  | succ n G__law_same =>
    have G__law_sort : FnOk P w K mg base CX0 1 T._law_sort.f T._law_sort.fd ["thing"] spSort := ok__law_sort T
    refine T._law_same.F.ok sc__law_same (fun vs H Q E h => ?_) (fun cdv A outer s H vs Q E hr h => ?_)
    · obtain ⟨x, y, rfl, _⟩ := h
      rfl
    · obtain ⟨x, y, rfl, hS, q⟩ := h
      refine ⟨_, (pss_cons (ps_if (pt_cmpR op_ne (pe_call G__law_sort (hr.mono (by omega)) (by rfl) T._law_sort.g T._law_sort.F.kp T._law_sort.b .nil pass0 (pa_cons (pv 0) pa_nil)) (pe_call G__law_sort (hr.mono (by omega)) (by rfl) T._law_sort.g T._law_sort.F.kp T._law_sort.b .nil pass0 (pa_cons (pv 1) pa_nil)) (nomark _))
        (pss_one (ps_ret pe_bl))
        pss_nil)
      (pss_cons (ps_if (PW.pt (pw_and (pt_cmpR op_gt (pe_call G__law_sort (hr.mono (by omega)) (by rfl) T._law_sort.g T._law_sort.F.kp T._law_sort.b .nil pass0 (pa_cons (pv 0) pa_nil)) pe_int (nomark _)) (pw_and1 (pt_cmpR op_lt (pe_call G__law_sort (hr.mono (by omega)) (by rfl) T._law_sort.g T._law_sort.F.kp T._law_sort.b .nil pass0 (pa_cons (pv 0) pa_nil)) pe_int (nomark _)))))
        (pss_cons (ps_if (pt_cmpR op_ne (pe_callB call_len_seq (by rfl) T.len (by decide +kernel) (pa_cons (pv 0) pa_nil)) (pe_callB call_len_seq (by rfl) T.len (by decide +kernel) (pa_cons (pv 1) pa_nil)) (nomark _))
        (pss_one (ps_ret pe_bl))
        pss_nil)
      (pss_one (ps_ret (pe_cmpR (op_eqD hr.units) (pe_lc (own := [("k", 2), ("part", 3)]) (g := gTup K 2 (gCons (gName 2) (gCons (gName 3) gNil))) (by rfl) sc__law_same.nd (pi_enumS rfl T.enumerate (pa_cons (pv 0) pa_nil)) (blkOk_by (own := [("k", 2), ("part", 3)]) (N := ["told", "due", "k", "part"]) (sc := defScope s__law_same) (by decide +kernel)) (fun _ _ _ _ _ => (pg_tup rfl (pgs_cons (pg_name (i := 2) sc__law_same.nd rfl (Or.inl rfl)) (pgs_cons (pg_name (i := 3) sc__law_same.nd rfl (Or.inl rfl)) pgs_nil)))) (fun _ _ _ _ _ => (pts_one (pt_not (pt_val (pe_call G__law_same (hr.mono (by omega)) (by rfl) T._law_same.g T._law_same.F.kp T._law_same.b .nil pass0 (pa_cons (pv 3) (pa_cons (pe_ix (show IxR _ (rIx K) from ix_seq) (pv 1) (pv 2) (fun _ _ => rfl)) pa_nil))))))) (fun _ _ _ _ _ => (pv 2))) (pe_lst pa_nil) (nomark _)))))
        pss_nil)
      (pss_one (ps_ret (pe_cmpR op_eq (pv 0) (pv 1) (nomark _)))))), ?_⟩
      obtain ⟨t, dx, dy⟩ := hS.kd
      refine ⟨_, rfl, _, t, rfl, dx, fun H1 e1 => ⟨_, rfl, _, t, rfl, dy.ex e1, fun H2 e2 => ⟨rfl, _, rfl, iteNS rfl ?_⟩⟩⟩
      have e12 := e1.trans e2
      refine ⟨_, rfl, _, t, rfl, dx.ex e12, fun H3 e3 => ⟨_, _, rfl, rfl, _, rfl, ?_⟩⟩
      have e13 := e12.trans e3
      have hS3 := hS.ex e13
      have dx3 := dx.ex e13
      have q3 : ∀ H4, Ex H3 H4 → Q (.bl true) H4 := fun H4 e4 => q H4 (e13.trans e4)
      clear hS dx dy q e12 e13
      cases hS3 with
      | non =>
        cases dx3
        refine iteT ⟨_, rfl, _, _, rfl, .non, fun H4 e4 => ⟨_, _, rfl, rfl, _, rfl, iteF ⟨_, rfl, _, rfl, rfl, q3 H4 e4⟩⟩⟩
      | bl b =>
        cases dx3
        refine iteF (iteF ⟨_, rfl, _, rfl, rfl, ?_⟩)
        rw [decide_eq_true rfl]
        exact q3 H3 (Ex.refl H3)
      | int i =>
        cases dx3
        refine iteF (iteF ⟨_, rfl, _, rfl, rfl, ?_⟩)
        rw [decide_eq_true rfl]
        exact q3 H3 (Ex.refl H3)
      | str x =>
        cases dx3
        refine iteF (iteF ⟨_, rfl, _, rfl, rfl, ?_⟩)
        rw [decide_eq_true rfl]
        exact q3 H3 (Ex.refl H3)
      | @lst m a b xs ys ha hb hl hz hh =>
        have et : t = .lst := by
          cases dx3 with
          | lst _ => rfl
          | tup h => rw [ha] at h; cases h
        subst et
        refine iteT ⟨_, rfl, _, _, rfl, dx3, fun H4 e4 => ⟨_, _, rfl, rfl, _, rfl, iteT ?_⟩⟩
        have ha4 := e4 _ _ ha
        have hb4 := e4 _ _ hb
        refine ⟨_, rfl, a, xs, rfl, .inl (sq_of ha4), _, rfl, b, ys, rfl, .inl (sq_of hb4), rfl, _, rfl, iteNS (by rw [hl]) ?_⟩
        refine ⟨_, rfl, a, xs, rfl, .inl ⟨sq_of ha4, fun D hD => ?_⟩⟩
        refine lc_it walk_enum (fun i H' => Ex H4 H' ∧ H' D = some (.lst [])) ⟨Ex.new hD, upd_same⟩ (fun i H' _ p => sq_of (p.1 _ _ ha4)) (fun i v H' H'' hi p y => ?_) (fun H' p => ?_)
        · obtain ⟨Tp, x1, x2, rfl, nT, rfl, h1, h2⟩ := y
          cases h1
          have x4 := p.1.trans (Ex.new (o := .tup [.int (i : Int), x2]) nT)
          have hi2 : i < ys.length := by omega
          refine ⟨Tp, _, rfl, st_of upd_same, rfl, _, _, rfl, _, _, rfl, rfl, rfl, ?_⟩
          refine ⟨_, rfl, _, rfl, _, rfl, .inl ⟨b, ys, i, ys[i], rfl, rfl, sq_of (x4 _ _ hb4), at_of (j := i) rfl (List.getElem?_eq_getElem hi2), ?_⟩⟩
          have hD2 := Ex.new (o := .tup [.int (i : Int), x2]) nT _ _ p.2
          refine ⟨x2, ys[i], rfl, (hh i x2 ys[i] h2 (List.getElem?_eq_getElem hi2)).ex (e4.trans x4), fun H5 e5 => ⟨_, rfl, iteF ⟨x4.trans e5, e5 _ _ hD2⟩⟩⟩
        · refine ⟨by show 0 ≤ sizeLine; decide, fun p' hp' => ?_⟩
          have e6 := p.1.trans (Ex.new (o := .lst []) hp')
          exact ⟨.list [], .list [], .lst (sq_of (Ex.new (o := .lst []) hp' _ _ p.2)) .nil, .lst (sq_of upd_same) .nil, rfl, rfl, q3 _ (e4.trans e6)⟩
      | @tup m a b xs ys ha hb hl hz hh =>
        have et : t = .tup := by
          cases dx3 with
          | tup _ => rfl
          | lst h => rw [ha] at h; cases h
        subst et
        refine iteT ⟨_, rfl, _, _, rfl, dx3, fun H4 e4 => ⟨_, _, rfl, rfl, _, rfl, iteT ?_⟩⟩
        have ha4 := e4 _ _ ha
        have hb4 := e4 _ _ hb
        refine ⟨_, rfl, a, xs, rfl, .inr (st_of ha4), _, rfl, b, ys, rfl, .inr (st_of hb4), rfl, _, rfl, iteNS (by rw [hl]) ?_⟩
        refine ⟨_, rfl, a, xs, rfl, .inr ⟨ha4, fun D hD => ?_⟩⟩
        refine lc_it walk_itP (fun i H' => Ex H4 H' ∧ H' D = some (.lst [])) ⟨Ex.new hD, upd_same⟩ (fun i H' _ p => p.1 _ _ ha4) (fun i v H' H'' hi p y => ?_) (fun H' p => ?_)
        · obtain ⟨Tp, x1, x2, rfl, nT, rfl, h1, h2⟩ := y
          cases h1
          have x4 := p.1.trans (Ex.new (o := .tup [.int (i : Int), x2]) nT)
          have hi2 : i < ys.length := by omega
          refine ⟨Tp, _, rfl, st_of upd_same, rfl, _, _, rfl, _, _, rfl, rfl, rfl, ?_⟩
          refine ⟨_, rfl, _, rfl, _, rfl, .inr (.inl ⟨b, ys, i, ys[i], rfl, rfl, st_of (x4 _ _ hb4), at_of (j := i) rfl (List.getElem?_eq_getElem hi2), ?_⟩)⟩
          have hD2 := Ex.new (o := .tup [.int (i : Int), x2]) nT _ _ p.2
          refine ⟨x2, ys[i], rfl, (hh i x2 ys[i] h2 (List.getElem?_eq_getElem hi2)).ex (e4.trans x4), fun H5 e5 => ⟨_, rfl, iteF ⟨x4.trans e5, e5 _ _ hD2⟩⟩⟩
        · refine ⟨by show 0 ≤ sizeLine; decide, fun p' hp' => ?_⟩
          have e6 := p.1.trans (Ex.new (o := .lst []) hp')
          exact ⟨.list [], .list [], .lst (sq_of (Ex.new (o := .lst []) hp' _ _ p.2)) .nil, .lst (sq_of upd_same) .nil, rfl, rfl, q3 _ (e4.trans e6)⟩
end

/-! ### things that are spoilt -/
inductive Fl (n : Nat) : V → Prop where
  | non : Fl n .non
  | bl (b : Bool) : Fl n (.bl b)
  | int (i : Int) (h : -(2000000 + (n : Int)) ≤ i ∧ i ≤ 2000000 + (n : Int)) : Fl n (.int i)
  | str (x : Str) (h : PyData.strOk x = true) : Fl n (.str x)
theorem Fl.mono {n m : Nat} {x : V} (h : Fl n x) (e : n ≤ m) : Fl m x := by
  cases h with
  | non => exact .non
  | bl b => exact .bl b
  | int i h => exact .int i ⟨by omega, by omega⟩
  | str x h => exact .str x h
theorem Fl.dat {n : Nat} {x : V} {H : Hp} (h : Fl n x) : ∃ t, Dat H x t ∧ t.isa .tup = false ∧ t.isa .lst = false := by
  cases h with
  | non => exact ⟨_, .non, rfl, rfl⟩
  | bl b => exact ⟨_, .bl b, rfl, rfl⟩
  | int i h => exact ⟨_, .int i, rfl, rfl⟩
  | str x h => exact ⟨_, .str x, rfl, rfl⟩
/-- a list (false) or a tuple (true) -/
def mk : Bool → List V → HO
  | true, xs => .tup xs
  | false, xs => .lst xs
def Kd.of : Bool → Kd
  | true => .tup
  | false => .lst
theorem mk_dat {H : Hp} {a : Addr} {xs : List V} : ∀ {b : Bool}, H a = some (mk b xs) → Dat H (.ref a) (Kd.of b)
  | true, h => .tup h
  | false, h => .lst h
theorem mk_sq {K : PySem.W.Frag} {H : Hp} {a : Addr} {xs : List V} : ∀ {b : Bool}, H a = some (mk b xs) → SqL K H a xs ∨ SqT K H a xs
  | true, h => .inr (st_of h)
  | false, h => .inl (sq_of h)
/-- a plain thing: flat, or a list or tuple of flat things -/
def Th (n : Nat) (d : Addr) (H : Hp) (x : V) : Prop := Fl n x ∨ ∃ a b xs, x = .ref a ∧ H a = some (mk b xs) ∧ a ≠ d ∧ xs.length ≤ 4 + n ∧ ∀ y ∈ xs, Fl n y
theorem Th.ex {n : Nat} {d : Addr} {H H' : Hp} {x : V} (h : Th n d H x) (e : Ex H H') : Th n d H' x := by
  rcases h with h | ⟨a, b, xs, rfl, h, r⟩
  · exact .inl h
  · exact .inr ⟨a, b, xs, rfl, e _ _ h, r⟩
theorem Th.exd {n : Nat} {d : Addr} {H H' : Hp} {x : V} (h : Th n d H x) (e : ExD d H H') : Th n d H' x := by
  rcases h with h | ⟨a, b, xs, rfl, h, ne, r⟩
  · exact .inl h
  · exact .inr ⟨a, b, xs, rfl, e _ _ ne h, ne, r⟩
theorem Th.mono {n m : Nat} {d : Addr} {H : Hp} {x : V} (h : Th n d H x) (e : n ≤ m) : Th m d H x := by
  rcases h with h | ⟨a, b, xs, rfl, h, ne, hl, r⟩
  · exact .inl (h.mono e)
  · exact .inr ⟨a, b, xs, rfl, h, ne, by omega, fun y hy => (r y hy).mono e⟩
theorem Dk.mono {n m : Nat} {H : Hp} {d : Addr} (h : Dk n H d) (e : n ≤ m) : Dk m H d := by
  obtain ⟨x, y, z, hd, hy, hz⟩ := h
  exact ⟨x, y, z, hd, hy, by omega, by omega⟩
theorem Dk.ne_new {n : Nat} {H : Hp} {d p : Addr} (h : Dk n H d) (hp : H p = none) : p ≠ d := fun z => by
  obtain ⟨_, _, _, hd, _⟩ := h
  rw [z, hd] at hp
  cases hp
theorem kit_two {K : PySem.W.Frag} (t : Kd) : PySem.W.kitAny K (.type t.nm) [.type "tuple", .type "list"] = some (t.isa .tup || t.isa .lst) := by
  refine kitAny_cons (kit_kd t .tup (by decide)) (r := t.isa .tup || t.isa .lst) (fun h => ?_) (fun h => by rw [h, Bool.true_or])
  rw [h, Bool.false_or]
  exact kitAny_cons (kit_kd t .lst (by decide)) (fun h => by rw [h]; exact kitAny_nil) (fun h => h)
section
variable {K : PySem.W.Frag} {H : Hp} {a c : Addr} {xs ys : List V} {lo hi : Option Int} {Q : VK}
theorem cut_whole (h : HT.sIx xs.length 0 lo = 0 ∧ HT.sIx xs.length xs.length hi = xs.length) : cutV xs lo hi = xs := by
  unfold cutV
  rw [h.1, h.2, List.drop_zero, Nat.sub_zero, List.take_length]
theorem sl_any : ∀ {b : Bool}, H a = some (mk b xs) → (∀ c H', Ex H H' → H' c = some (mk b (cutV xs lo hi)) → (c = a ∨ H c = none) → Q (.ref c) H') → rSlL K (.ref a) lo hi H Q ∨ rSlA K (.ref a) lo hi H Q
  | false, h, q => .inl ⟨a, xs, rfl, sq_of h, fun p hp => q p _ (Ex.new hp) upd_same (.inr hp)⟩
  | true, h, q => .inr ⟨a, xs, rfl, st_of h, fun hw => q a H (Ex.refl H) (by rw [cut_whole hw]; exact h) (.inl rfl), fun _ p hp => q p _ (Ex.new hp) upd_same (.inr hp)⟩
theorem cat_any (hz : xs.length + ys.length ≤ sizeLine) : ∀ {b : Bool}, H a = some (mk b xs) → H c = some (mk b ys) → (∀ e H', Ex H H' → H' e = some (mk b (xs ++ ys)) → (e = a ∨ e = c ∨ H e = none) → Q (.ref e) H') → rCatU K (.ref a) (.ref c) H Q
  | false, h, h', q => .inl ⟨a, c, xs, ys, rfl, rfl, sq_of h, sq_of h', hz, fun p hp => q p _ (Ex.new hp) upd_same (.inr (.inr hp))⟩
  | true, h, h', q => .inr ⟨a, c, xs, ys, rfl, rfl, st_of h, st_of h', hz, fun e => q c H (Ex.refl H) (by rw [e]; exact h') (.inr (.inl rfl)), fun _ e => q a H (Ex.refl H) (by rw [e, List.append_nil]; exact h) (.inl rfl), fun _ _ p hp => q p _ (Ex.new hp) upd_same (.inr (.inr hp))⟩
end

section
variable {P : Program} {w : World} {K : PySem.W.Frag} {mg : Str → Option Value} {base : Heap}
def spSpoilF : Sp := fun vs H Q _ => ∃ (d : Addr) (x : V) (n m : Nat), vs = [.ref d, x] ∧ Fl n x ∧ n ≤ 100 ∧ Dk m H d ∧ m < 900000 ∧ ∀ y H', Fl (n + 1) y → ExD d H H' → Dk (m + 1) H' d → Q y H'
def spSpoil : Nat → Sp
  | 0 => fun _ _ _ _ => False
  | 1 => spSpoilF
  | _ => fun vs H Q _ => ∃ (d : Addr) (x : V) (n m : Nat), vs = [.ref d, x] ∧ Th n d H x ∧ n ≤ 100 ∧ Dk m H d ∧ m < 800000 ∧ ∀ y H', Th (n + 1) d H' y → ExD d H H' → Dk (m + 3) H' d → Q y H'
theorem fl_log {n : Nat} {i : Int} (hn : n ≤ 100) (h : -(2000000 + (n : Int)) ≤ i ∧ i ≤ 2000000 + (n : Int)) : i.natAbs.log2 < 1920 :=
  PySem.Flt.log2_lt_of (by decide) (Nat.lt_of_lt_of_le (show i.natAbs < 2 ^ 22 by omega) (Nat.pow_le_pow_right (by decide) (by decide)))
theorem ok_spoil1 (T : Txt K mg) : FnOk P w K mg base CX0 2 T._law_spoilt.f T._law_spoilt.fd ["deck", "thing"] (spSpoil 1) := by
  have G__law_pick : FnOk P w K mg base CX0 1 T._law_pick.f T._law_pick.fd ["deck", "size"] spPick := ok__law_pick T
  have G__law_spoilt : FnOk P w K mg base CX0 1 T._law_spoilt.f T._law_spoilt.fd ["deck", "thing"] (spSpoil 0) := ⟨fun _ _ _ _ h => h.elim, fun _ _ _ _ _ _ _ _ _ _ _ _ _ h => h.elim⟩
  refine T._law_spoilt.F.ok sc__law_spoilt (fun vs H Q E h => ?_) (fun cdv A outer s H vs Q E hr h => ?_)
  · obtain ⟨d, x, n, m, rfl, _⟩ := h
    rfl
  · obtain ⟨d, x, n, m, rfl, hf, hn, hk, hm, q⟩ := h
    refine ⟨_, (pss_cons (ps_if (PW.pt (pw_and (pt_val (pe_callB call_isiT (by rfl) T.isinstance (by decide +kernel) (pa_cons (pv 1) (pa_cons (pe_tup (pa_cons (pe_bltn (v := .ty "tuple") (by rfl) T.tuple (by decide +kernel) rfl) (pa_cons (pe_bltn (v := .ty "list") (by rfl) T.b_list (by decide +kernel) rfl) pa_nil))) pa_nil)))) (pw_and (pt_cmpR op_gt (pe_callB call_len_seq (by rfl) T.len (by decide +kernel) (pa_cons (pv 1) pa_nil)) pe_int (nomark _)) (pw_and1 (pt_cmpR op_gt (pe_call G__law_pick (hr.mono (by omega)) (by rfl) T._law_pick.g T._law_pick.F.kp T._law_pick.b .nil pass0 (pa_cons (pv 0) (pa_cons pe_int pa_nil))) pe_int (nomark _))))))
        (pss_cons (ps_set (i := 2) sc__law_spoilt.nd rfl (Or.inl rfl) (pe_callTy call_list_of (by rfl) T.b_list (by decide +kernel) (pa_cons (pv 1) pa_nil)))
      (pss_cons (ps_set (i := 3) sc__law_spoilt.nd rfl (Or.inl rfl) (pe_call G__law_pick (hr.mono (by omega)) (by rfl) T._law_pick.g T._law_pick.F.kp T._law_pick.b .nil pass0 (pa_cons (pv 0) (pa_cons (pe_callB call_len_seq (by rfl) T.len (by decide +kernel) (pa_cons (pv 2) pa_nil)) pa_nil))))
      (pss_cons (ps_asg (pe_call G__law_spoilt (hr.mono (by omega)) (by rfl) T._law_spoilt.g T._law_spoilt.F.kp T._law_spoilt.b .nil pass0 (pa_cons (pv 0) (pa_cons (pe_ix ix_list (pv 2) (pv 3) (fun _ _ => rfl)) pa_nil))) (pg_sub (pv 2) (pv 3) set_list))
      (pss_one (ps_ret (pe_ifExp (pt_val (pe_callB call_isi (by rfl) T.isinstance (by decide +kernel) (pa_cons (pv 1) (pa_cons (pe_bltn (v := .ty "tuple") (by rfl) T.tuple (by decide +kernel) rfl) pa_nil)))) (pe_callTy call_tuple_of (by rfl) T.tuple (by decide +kernel) (pa_cons (pv 2) pa_nil)) (pv 2)))))))
        pss_nil)
      (pss_cons (ps_if (pt_val (pe_callB call_isiT (by rfl) T.isinstance (by decide +kernel) (pa_cons (pv 1) (pa_cons (pe_tup (pa_cons (pe_bltn (v := .ty "tuple") (by rfl) T.tuple (by decide +kernel) rfl) (pa_cons (pe_bltn (v := .ty "list") (by rfl) T.b_list (by decide +kernel) rfl) pa_nil))) pa_nil))))
        (pss_cons (ps_set (i := 4) sc__law_spoilt.nd rfl (Or.inl rfl) (pe_ifExp (pt_val (pe_callB call_isi (by rfl) T.isinstance (by decide +kernel) (pa_cons (pv 1) (pa_cons (pe_bltn (v := .ty "tuple") (by rfl) T.tuple (by decide +kernel) rfl) pa_nil)))) (pe_callTy call_list_of (by rfl) T.b_list (by decide +kernel) (pa_cons (pv 1) pa_nil)) (pe_callTy call_tuple_of (by rfl) T.tuple (by decide +kernel) (pa_cons (pv 1) pa_nil))))
      (pss_one (ps_ret (pe_ix ix_list (pe_lst (pa_cons (pv 4) (pa_cons (pe_op op_catU (pv 1) (pe_slice sl_U (pv 1) po_none (po_some pe_int))) (pa_cons (pe_slice sl_U (pv 1) (po_some pe_int) po_none) (pa_cons (pe_back (pv 1)) (pa_cons pe_non pa_nil)))))) (pe_call G__law_pick (hr.mono (by omega)) (by rfl) T._law_pick.g T._law_pick.F.kp T._law_pick.b .nil pass0 (pa_cons (pv 0) (pa_cons pe_int pa_nil))) (fun _ _ => rfl)))))
        pss_nil)
      (pss_cons (ps_if (pt_val (pe_callB call_isi (by rfl) T.isinstance (by decide +kernel) (pa_cons (pv 1) (pa_cons (pe_bltn (v := .ty "int") (by rfl) T.b_int (by decide +kernel) rfl) pa_nil))))
        (pss_one (ps_ret (pe_ix ix_list (pe_lst (pa_cons (pe_op op_addU (pv 1) pe_int) (pa_cons (pe_op op_subU (pv 1) pe_int) (pa_cons pe_bl (pa_cons pe_non (pa_cons pe_int (pa_cons pe_int (pa_cons (pe_callTy call_strU (by rfl) T.str (by decide +kernel) (pa_cons (pv 1) pa_nil)) pa_nil)))))))) (pe_call G__law_pick (hr.mono (by omega)) (by rfl) T._law_pick.g T._law_pick.F.kp T._law_pick.b .nil pass0 (pa_cons (pv 0) (pa_cons pe_int pa_nil))) (fun _ _ => rfl))))
        pss_nil)
      (pss_one (ps_ret (pe_ix ix_list (pe_lst (pa_cons pe_non (pa_cons pe_int (pa_cons pe_str (pa_cons pe_str (pa_cons pe_str (pa_cons pe_str (pa_cons pe_str (pa_cons pe_str pa_nil))))))))) (pe_call G__law_pick (hr.mono (by omega)) (by rfl) T._law_pick.g T._law_pick.F.kp T._law_pick.b .nil pass0 (pa_cons (pv 0) (pa_cons pe_int pa_nil))) (fun _ _ => rfl))))))), ?_⟩
    obtain ⟨t, hd, i1, i2⟩ := hf.dat (H := H)
    have hi : (t.isa .tup || t.isa .lst) = false := by rw [i1, i2]; rfl
    refine ⟨_, rfl, by show 2 ≤ sizeLine; decide, fun t1 n1 => ⟨_, t1, _, _, _, _, rfl, upd_same, .cons (.ty _) (.cons (.ty _) .nil), (hd.ex (Ex.new n1)).ty, kit_two t, _, rfl, ?_⟩⟩
    rw [hi]
    have x1 := Ex.new (o := .tup [.ty "tuple", .ty "list"]) n1
    refine iteF (iteF ⟨_, rfl, by show 2 ≤ sizeLine; decide, fun t2 n2 => ⟨_, t2, _, _, _, _, rfl, upd_same, .cons (.ty _) (.cons (.ty _) .nil), ((hd.ex x1).ex (Ex.new n2)).ty, kit_two t, _, rfl, ?_⟩⟩)
    rw [hi]
    have x2 := x1.trans (Ex.new (o := .tup [.ty "tuple", .ty "list"]) n2)
    have k2 := hk.ex x2
    have d2 := hd.ex x2
    revert x2 k2 d2
    generalize upd (upd H t1 (.tup [.ty "tuple", .ty "list"])) t2 (.tup [.ty "tuple", .ty "list"]) = H2
    intro x2 k2 d2
    refine iteF ⟨_, rfl, _, _, _, _, _, rfl, .ty _, d2.ty, kit_kd t .int (by decide), _, rfl, ?_⟩
    have fl8 : ∀ y ∈ [V.non, .int 7, .str "n", .str "", .str "A", .str "abcdefghi", .str "a", .str "row"], Fl (n + 1) y := fun y hy => by
      simp only [List.mem_cons, List.not_mem_nil, or_false] at hy
      rcases hy with rfl | rfl | rfl | rfl | rfl | rfl | rfl | rfl
      · exact .non
      · exact .int 7 ⟨by omega, by omega⟩
      all_goals exact .str _ (strOk_of _)
    have fl7 : ∀ (i j : Int) (z : Str), (-(2000000 + ((n + 1 : Nat) : Int)) ≤ i ∧ i ≤ 2000000 + ((n + 1 : Nat) : Int)) → (-(2000000 + ((n + 1 : Nat) : Int)) ≤ j ∧ j ≤ 2000000 + ((n + 1 : Nat) : Int)) → PyData.strOk z = true →
        ∀ y ∈ [V.int i, .int j, .bl true, .non, .int 0, .int 60, .str z], Fl (n + 1) y := fun i j z hi hj hz y hy => by
      simp only [List.mem_cons, List.not_mem_nil, or_false] at hy
      rcases hy with rfl | rfl | rfl | rfl | rfl | rfl | rfl
      · exact .int _ hi
      · exact .int _ hj
      · exact .bl _
      · exact .non
      · exact .int 0 ⟨by omega, by omega⟩
      · exact .int 60 ⟨by omega, by omega⟩
      · exact .str _ hz
    cases hf with
    | non =>
      cases d2
      refine iteF ⟨by show 8 ≤ sizeLine; decide, fun l nl => ?_⟩
      refine ⟨_, rfl, d, 8, m, rfl, k2.ex (Ex.new nl), by omega, ⟨by decide, by decide⟩, fun r H3 r0 r1 e3 k3 => ?_⟩
      have hr : r.toNat < 8 := by omega
      refine ⟨l, _, r, _, rfl, rfl, sq_of (e3 _ _ (k2.ne_new nl) upd_same), at_of (j := r.toNat) (by omega) (List.getElem?_eq_getElem hr), q _ _ (fl8 _ (List.getElem_mem hr)) ((ExD.of (x2.trans (Ex.new nl))).trans e3) k3⟩
    | str x h =>
      cases d2
      refine iteF ⟨by show 8 ≤ sizeLine; decide, fun l nl => ?_⟩
      refine ⟨_, rfl, d, 8, m, rfl, k2.ex (Ex.new nl), by omega, ⟨by decide, by decide⟩, fun r H3 r0 r1 e3 k3 => ?_⟩
      have hr : r.toNat < 8 := by omega
      refine ⟨l, _, r, _, rfl, rfl, sq_of (e3 _ _ (k2.ne_new nl) upd_same), at_of (j := r.toNat) (by omega) (List.getElem?_eq_getElem hr), q _ _ (fl8 _ (List.getElem_mem hr)) ((ExD.of (x2.trans (Ex.new nl))).trans e3) k3⟩
    | bl b =>
      cases d2
      have h1 : (0 : Int) ≤ (if b = true then (1 : Int) else 0) ∧ (if b = true then (1 : Int) else 0) ≤ 1 := by cases b <;> decide
      refine iteT ⟨_, rfl, .inr ⟨b, 1, rfl, rfl, _, rfl, .inr ⟨b, 1, rfl, rfl, _, rfl, .inr ⟨b, rfl⟩, fun z hz => ⟨by show 7 ≤ sizeLine; decide, fun l nl => ?_⟩⟩⟩⟩
      refine ⟨_, rfl, d, 7, m, rfl, k2.ex (Ex.new nl), by omega, ⟨by decide, by decide⟩, fun r H3 r0 r1 e3 k3 => ?_⟩
      have hr : r.toNat < 7 := by omega
      refine ⟨l, _, r, _, rfl, rfl, sq_of (e3 _ _ (k2.ne_new nl) upd_same), at_of (j := r.toNat) (by omega) (List.getElem?_eq_getElem hr), q _ _ ((fl7 ((if b = true then 1 else 0) + 1) ((if b = true then 1 else 0) - 1) z ⟨by omega, by omega⟩ ⟨by omega, by omega⟩ hz) _ (List.getElem_mem hr)) ((ExD.of (x2.trans (Ex.new nl))).trans e3) k3⟩
    | int i h =>
      cases d2
      refine iteT ⟨_, rfl, .inl ⟨i, 1, rfl, rfl, _, rfl, .inl ⟨i, 1, rfl, rfl, _, rfl, .inl ⟨i, rfl, fl_log hn h⟩, fun z hz => ⟨by show 7 ≤ sizeLine; decide, fun l nl => ?_⟩⟩⟩⟩
      refine ⟨_, rfl, d, 7, m, rfl, k2.ex (Ex.new nl), by omega, ⟨by decide, by decide⟩, fun r H3 r0 r1 e3 k3 => ?_⟩
      have hr : r.toNat < 7 := by omega
      refine ⟨l, _, r, _, rfl, rfl, sq_of (e3 _ _ (k2.ne_new nl) upd_same), at_of (j := r.toNat) (by omega) (List.getElem?_eq_getElem hr), q _ _ ((fl7 _ _ z ⟨by omega, by omega⟩ ⟨by omega, by omega⟩ hz) _ (List.getElem_mem hr)) ((ExD.of (x2.trans (Ex.new nl))).trans e3) k3⟩
end

theorem cut_mem {xs : List V} {lo hi : Option Int} {x : V} (h : x ∈ cutV xs lo hi) : x ∈ xs := by
  unfold cutV at h
  exact List.mem_of_mem_drop (List.mem_of_mem_take h)
theorem cells_int {ns : List Int} {lo hi : Option Int} {i : Nat} {x : V} (h : (cutV (V.int 0 :: ns.map V.int) lo hi)[i]? = some x) : ∃ c : Int, x = .int c := by
  have hm := cut_mem (List.mem_of_getElem? h)
  rcases List.mem_cons.mp hm with rfl | there
  · exact ⟨0, rfl⟩
  · obtain ⟨c, _, rfl⟩ := List.mem_map.mp there
    exact ⟨c, rfl⟩

section
variable {P : Program} {w : World} {K : PySem.W.Frag} {mg : Str → Option Value} {base : Heap}
def spSpoilC (b : Bool) : Sp := fun vs H Q _ => ∃ (d a : Addr) (xs : List V) (n m : Nat), vs = [.ref d, .ref a] ∧ H a = some (mk b xs) ∧ a ≠ d ∧ xs.length ≤ 4 + n ∧ (∀ y ∈ xs, Fl n y) ∧ n ≤ 100 ∧ Dk m H d ∧ m < 800000 ∧
  ∀ y H', Th (n + 1) d H' y → ExD d H H' → Dk (m + 3) H' d → Q y H'
theorem ok_spoilC_true (T : Txt K mg) : FnOk P w K mg base CX0 3 T._law_spoilt.f T._law_spoilt.fd ["deck", "thing"] (spSpoilC true) := by
  have G__law_pick : FnOk P w K mg base CX0 1 T._law_pick.f T._law_pick.fd ["deck", "size"] spPick := ok__law_pick T
  have G__law_spoilt : FnOk P w K mg base CX0 2 T._law_spoilt.f T._law_spoilt.fd ["deck", "thing"] (spSpoil 1) := ok_spoil1 T
  refine T._law_spoilt.F.ok sc__law_spoilt (fun vs H Q E h => ?_) (fun cdv A outer s H vs Q E hr h => ?_)
  · obtain ⟨d, a, xs, n, m, rfl, _⟩ := h
    rfl
  · obtain ⟨d, a, xs, n, m, rfl, ha, na, hl, hf, hn, hk, hm, q⟩ := h
    refine ⟨_, (pss_cut (ps_if (PW.pt (pw_and (pt_val (pe_callB call_isiT (by rfl) T.isinstance (by decide +kernel) (pa_cons (pv 1) (pa_cons (pe_tup (pa_cons (pe_bltn (v := .ty "tuple") (by rfl) T.tuple (by decide +kernel) rfl) (pa_cons (pe_bltn (v := .ty "list") (by rfl) T.b_list (by decide +kernel) rfl) pa_nil))) pa_nil)))) (pw_and (pt_cmpR op_gt (pe_callB call_len_seq (by rfl) T.len (by decide +kernel) (pa_cons (pv 1) pa_nil)) pe_int (nomark _)) (pw_and1 (pt_cmpR op_gt (pe_call G__law_pick (hr.mono (by omega)) (by rfl) T._law_pick.g T._law_pick.F.kp T._law_pick.b .nil pass0 (pa_cons (pv 0) (pa_cons pe_int pa_nil))) pe_int (nomark _))))))
        (pss_cons (ps_set (i := 2) sc__law_spoilt.nd rfl (Or.inl rfl) (pe_callTy call_list_of (by rfl) T.b_list (by decide +kernel) (pa_cons (pv 1) pa_nil)))
      (pss_cons (ps_set (i := 3) sc__law_spoilt.nd rfl (Or.inl rfl) (pe_call G__law_pick (hr.mono (by omega)) (by rfl) T._law_pick.g T._law_pick.F.kp T._law_pick.b .nil pass0 (pa_cons (pv 0) (pa_cons (pe_callB call_len_seq (by rfl) T.len (by decide +kernel) (pa_cons (pv 2) pa_nil)) pa_nil))))
      (pss_cons (ps_asg (pe_call G__law_spoilt (hr.mono (by omega)) (by rfl) T._law_spoilt.g T._law_spoilt.F.kp T._law_spoilt.b .nil pass0 (pa_cons (pv 0) (pa_cons (pe_ix ix_list (pv 2) (pv 3) (fun _ _ => rfl)) pa_nil))) (pg_sub (pv 2) (pv 3) set_list))
      (pss_one (ps_ret (pe_ifExp (pt_val (pe_callB call_isi (by rfl) T.isinstance (by decide +kernel) (pa_cons (pv 1) (pa_cons (pe_bltn (v := .ty "tuple") (by rfl) T.tuple (by decide +kernel) rfl) pa_nil)))) (pe_callTy call_tuple_of (by rfl) T.tuple (by decide +kernel) (pa_cons (pv 2) pa_nil)) (pv 2)))))))
        pss_nil)
      (pss_cons (ps_if (pt_val (pe_callB call_isiT (by rfl) T.isinstance (by decide +kernel) (pa_cons (pv 1) (pa_cons (pe_tup (pa_cons (pe_bltn (v := .ty "tuple") (by rfl) T.tuple (by decide +kernel) rfl) (pa_cons (pe_bltn (v := .ty "list") (by rfl) T.b_list (by decide +kernel) rfl) pa_nil))) pa_nil))))
        (pss_cons (ps_set (i := 4) sc__law_spoilt.nd rfl (Or.inl rfl) (pe_ifExp (pt_val (pe_callB call_isi (by rfl) T.isinstance (by decide +kernel) (pa_cons (pv 1) (pa_cons (pe_bltn (v := .ty "tuple") (by rfl) T.tuple (by decide +kernel) rfl) pa_nil)))) (pe_callTy call_list_of (by rfl) T.b_list (by decide +kernel) (pa_cons (pv 1) pa_nil)) (pe_callTy call_tuple_of (by rfl) T.tuple (by decide +kernel) (pa_cons (pv 1) pa_nil))))
      (pss_one (ps_ret (pe_ix ix_list (pe_lst (pa_cons (pv 4) (pa_cons (pe_op op_catU (pv 1) (pe_slice sl_U (pv 1) po_none (po_some pe_int))) (pa_cons (pe_slice sl_U (pv 1) (po_some pe_int) po_none) (pa_cons (pe_back (pv 1)) (pa_cons pe_non pa_nil)))))) (pe_call G__law_pick (hr.mono (by omega)) (by rfl) T._law_pick.g T._law_pick.F.kp T._law_pick.b .nil pass0 (pa_cons (pv 0) (pa_cons pe_int pa_nil))) (fun _ _ => rfl)))))
        pss_nil)
      (pss_cons (ps_if (pt_val (pe_callB call_isi (by rfl) T.isinstance (by decide +kernel) (pa_cons (pv 1) (pa_cons (pe_bltn (v := .ty "int") (by rfl) T.b_int (by decide +kernel) rfl) pa_nil))))
        (pss_one (ps_ret (pe_ix ix_list (pe_lst (pa_cons (pe_op op_addU (pv 1) pe_int) (pa_cons (pe_op op_subU (pv 1) pe_int) (pa_cons pe_bl (pa_cons pe_non (pa_cons pe_int (pa_cons pe_int (pa_cons (pe_callTy call_strU (by rfl) T.str (by decide +kernel) (pa_cons (pv 1) pa_nil)) pa_nil)))))))) (pe_call G__law_pick (hr.mono (by omega)) (by rfl) T._law_pick.g T._law_pick.F.kp T._law_pick.b .nil pass0 (pa_cons (pv 0) (pa_cons pe_int pa_nil))) (fun _ _ => rfl))))
        pss_nil)
      (pss_one (ps_ret (pe_ix ix_list (pe_lst (pa_cons pe_non (pa_cons pe_int (pa_cons pe_str (pa_cons pe_str (pa_cons pe_str (pa_cons pe_str (pa_cons pe_str (pa_cons pe_str pa_nil))))))))) (pe_call G__law_pick (hr.mono (by omega)) (by rfl) T._law_pick.g T._law_pick.F.kp T._law_pick.b .nil pass0 (pa_cons (pv 0) (pa_cons pe_int pa_nil))) (fun _ _ => rfl))))))), ?_⟩
    refine ⟨fun σ H' => ∃ m', σ = [some (.ref d), some (.ref a), none, none, none] ∧ ExD d H H' ∧ Dk m' H' d ∧ m' ≤ m + 1, ?_, ?_⟩
    · refine ⟨_, rfl, by show 2 ≤ sizeLine; decide, fun t1 n1 => ⟨_, t1, _, _, _, _, rfl, upd_same, .cons (.ty _) (.cons (.ty _) .nil), ((mk_dat (b := true) ha).ex (Ex.new n1)).ty, kit_two _, _, rfl, iteT ?_⟩⟩
      have x1 := Ex.new (o := .tup [.ty "tuple", .ty "list"]) n1
      refine ⟨_, rfl, a, xs, rfl, mk_sq (b := true) (x1 _ _ ha), _, _, rfl, rfl, _, rfl, ite2 (fun hx => ?_) (fun hx => iteF ⟨m, rfl, ExD.of x1, hk.ex x1, by omega⟩)⟩
      have hx := of_decide_eq_true hx
      refine ⟨_, rfl, d, 5, m, rfl, hk.ex x1, by omega, ⟨by decide, by decide⟩, fun r5 H2 _ _ e2 k2 => ⟨_, _, rfl, rfl, _, rfl, ite2 (fun _ => ?_) (fun _ => ⟨m + 1, rfl, (ExD.of x1).trans e2, k2, by omega⟩)⟩⟩
      have E2 := (ExD.of x1).trans e2
      have ha2 := E2 _ _ na ha
      -- rows = list(thing)
      refine ⟨_, rfl, a, xs, rfl, mk_sq (b := true) ha2, fun p np => ?_⟩
      have x3 := Ex.new (o := .lst xs) np
      have pd := k2.ne_new np
      have pa : a ≠ p := ne_of_none ha2 np
      refine ⟨_, rfl, _, rfl, p, xs, rfl, .inl (sq_of upd_same), d, _, m + 1, rfl, k2.ex x3, by omega, ⟨by omega, by omega⟩, fun r H4 r0 r1 e4 k4 => ?_⟩
      have hp4 := e4 _ _ pd (upd_same (H := H2) (a := p) (o := .lst xs))
      have hj : r.toNat < xs.length := by omega
      refine ⟨_, rfl, _, rfl, _, rfl, p, xs, r, xs[r.toNat], rfl, rfl, sq_of hp4, at_of (j := r.toNat) (by omega) (List.getElem?_eq_getElem hj), d, _, n, m + 1 + 1, rfl, hf _ (List.getElem_mem hj), hn, k4, by omega, fun y H5 fy e5 k5 => ?_⟩
      have hp5 := e5 _ _ pd hp4
      have hix : ixN xs.length r = some r.toNat := by
        have := ixN_nat hj
        rw [show ((r.toNat : Nat) : Int) = r by omega] at this
        exact this
      refine ⟨_, rfl, _, rfl, p, xs, r, r.toNat, rfl, rfl, hp5, hix, ?_⟩
      have E5 : ExD d H2 H5 := (ExD.of x3).trans (e4.trans e5)
      have E6 : ExD d H2 (upd H5 p (.lst (xs.set r.toNat y))) := fun b o nb hb => by
        rw [upd_ne (ne_of_none hb np)]
        exact E5 _ _ nb hb
      have k6 : Dk (m + 1 + 1 + 1) (upd H5 p (.lst (xs.set r.toNat y))) d := by
        obtain ⟨u1, u2, u3, hd, r⟩ := k5
        exact ⟨u1, u2, u3, by rw [upd_ne (Ne.symm pd)]; exact hd, r⟩
      have fs : ∀ z ∈ xs.set r.toNat y, Fl (n + 1) z := fun z hz => by
        rcases List.mem_or_eq_of_mem_set hz with h | rfl
        · exact (hf z h).mono (by omega)
        · exact fy
      refine ⟨_, rfl, _, _, _, _, _, rfl, .ty _, (mk_dat (b := true) (E6 _ _ na ha2)).ty, kit_kd _ .tup (by decide), _, rfl, ?_⟩
      refine iteT ⟨_, rfl, p, _, rfl, .inl ⟨sq_of upd_same, fun p7 np7 => ?_⟩⟩
      have x7 := Ex.new (o := .tup (xs.set r.toNat y)) np7
      exact q _ _ (.inr ⟨p7, true, xs.set r.toNat y, rfl, upd_same, k6.ne_new np7, by rw [List.length_set]; omega, fs⟩) (E2.trans (E6.trans (ExD.of x7))) ((k6.ex x7).mono (by omega))
    · rintro σ H2 ⟨m', rfl, E2, k2, hm'⟩
      have ha2 := E2 _ _ na ha
      refine ⟨_, rfl, by show 2 ≤ sizeLine; decide, fun t1 n1 => ⟨_, t1, _, _, _, _, rfl, upd_same, .cons (.ty _) (.cons (.ty _) .nil), ((mk_dat (b := true) ha2).ex (Ex.new n1)).ty, kit_two _, _, rfl, iteT ?_⟩⟩
      have x3 := Ex.new (o := .tup [.ty "tuple", .ty "list"]) n1
      have ha3 := x3 _ _ ha2
      have k3 := k2.ex x3
      have E3 := E2.trans (ExD.of x3)
      revert ha3 k3 E3
      generalize upd H2 t1 (.tup [.ty "tuple", .ty "list"]) = H3
      intro ha3 k3 E3
      refine ⟨_, rfl, _, _, _, _, _, rfl, .ty _, (mk_dat (b := true) ha3).ty, kit_kd _ .tup (by decide), _, rfl, ?_⟩
      refine iteT ⟨_, rfl, a, xs, rfl, .inr (st_of ha3), fun p np => ?_⟩
      have x4 := Ex.new (o := .lst xs) np
      have pd := k3.ne_new np
      have h4 := x4 _ _ ha3
      have hp4 : upd H3 p (.lst xs) p = some (.lst xs) := upd_same
      have k4 := k3.ex x4
      have E4 := E3.trans (ExD.of x4)
      revert h4 hp4 k4 E4
      generalize upd H3 p (.lst xs) = H4
      intro h4 hp4 k4 E4
      refine ⟨_, rfl, _, rfl, _, rfl, 1, rfl, sl_any (b := true) h4 fun c1 H5 x5 h5 o5 => cat_any (b := true) ?_ (x5 _ _ h4) h5 fun c2 H6 x6 h6 o6 => ?_⟩
      · have := cutV_length xs none (some 1)
        exact sz_of (by omega)
      have c1d : c1 ≠ d := by
        rcases o5 with rfl | o5
        · exact na
        · exact k4.ne_new o5
      have c2d : c2 ≠ d := by
        rcases o6 with rfl | rfl | o6
        · exact na
        · exact c1d
        · exact (k4.ex x5).ne_new o6
      have h46 := x6 _ _ (x5 _ _ h4)
      have k6 := (k4.ex x5).ex x6
      refine ⟨_, rfl, 1, rfl, sl_any (b := true) h46 fun c3 H7 x7 h7 o7 => ?_⟩
      have c3d : c3 ≠ d := by
        rcases o7 with rfl | o7
        · exact na
        · exact k6.ne_new o7
      have k7 := k6.ex x7
      refine ⟨_, rfl, a, xs, rfl, st_of (x7 _ _ h46), fun p4 np4 => ?_⟩
      have x8 := Ex.new (o := mk true xs.reverse) np4
      have p4d := k7.ne_new np4
      refine ⟨by show 5 ≤ sizeLine; decide, fun l nl => ?_⟩
      have x9 := Ex.new (o := .lst [.ref p, .ref c2, .ref c3, .ref p4, .non]) nl
      have k9 := (k7.ex x8).ex x9
      have ld := (k7.ex x8).ne_new nl
      refine ⟨_, rfl, d, 5, m', rfl, k9, by omega, ⟨by decide, by decide⟩, fun r H10 r0 r1 e10 k10 => ?_⟩
      have hj : r.toNat < 5 := by omega
      refine ⟨l, _, r, _, rfl, rfl, sq_of (e10 _ _ ld upd_same), at_of (j := r.toNat) (by omega) (List.getElem?_eq_getElem hj), q _ _ ?_ ((E4.trans (ExD.of ((x5.trans x6).trans (x7.trans (x8.trans x9))))).trans e10) (k10.mono (by omega))⟩
      have hv := List.getElem_mem (l := [V.ref p, .ref c2, .ref c3, .ref p4, .non]) hj
      have cl1 : (cutV xs none (some 1)).length ≤ 1 := by
        unfold cutV
        rw [List.length_take, show HT.sIx xs.length xs.length (some 1) = min 1 xs.length from HT.sIx_nat xs.length _ 1]
        omega
      have cl2 := cutV_length xs (some 1) none
      have flm : ∀ y ∈ xs, Fl (n + 1) y := fun y hy => (hf y hy).mono (by omega)
      simp only [List.mem_cons, List.not_mem_nil, or_false] at hv
      generalize [V.ref p, .ref c2, .ref c3, .ref p4, .non][r.toNat] = v at hv ⊢
      rcases hv with rfl | rfl | rfl | rfl | rfl
      · exact .inr ⟨p, false, xs, rfl, e10 _ _ pd (x9 _ _ (x8 _ _ (x7 _ _ (x6 _ _ (x5 _ _ hp4))))), pd, by omega, flm⟩
      · refine .inr ⟨c2, true, _, rfl, e10 _ _ c2d (x9 _ _ (x8 _ _ (x7 _ _ h6))), c2d, by rw [List.length_append]; omega, fun y hy => ?_⟩
        rcases (List.mem_append.mp hy : _ ∨ _) with hy | hy
        · exact flm y hy
        · exact flm y (cut_mem hy)
      · exact .inr ⟨c3, true, _, rfl, e10 _ _ c3d (x9 _ _ (x8 _ _ h7)), c3d, by omega, fun y hy => flm y (cut_mem hy)⟩
      · exact .inr ⟨p4, true, _, rfl, e10 _ _ p4d (x9 _ _ (upd_same (a := p4) (o := mk true xs.reverse))), p4d, by rw [List.length_reverse]; omega, fun y hy => flm y (List.mem_reverse.mp hy)⟩
      · exact .inl .non
theorem ok_spoilC_false (T : Txt K mg) : FnOk P w K mg base CX0 3 T._law_spoilt.f T._law_spoilt.fd ["deck", "thing"] (spSpoilC false) := by
  have G__law_pick : FnOk P w K mg base CX0 1 T._law_pick.f T._law_pick.fd ["deck", "size"] spPick := ok__law_pick T
  have G__law_spoilt : FnOk P w K mg base CX0 2 T._law_spoilt.f T._law_spoilt.fd ["deck", "thing"] (spSpoil 1) := ok_spoil1 T
  refine T._law_spoilt.F.ok sc__law_spoilt (fun vs H Q E h => ?_) (fun cdv A outer s H vs Q E hr h => ?_)
  · obtain ⟨d, a, xs, n, m, rfl, _⟩ := h
    rfl
  · obtain ⟨d, a, xs, n, m, rfl, ha, na, hl, hf, hn, hk, hm, q⟩ := h
    refine ⟨_, (pss_cut (ps_if (PW.pt (pw_and (pt_val (pe_callB call_isiT (by rfl) T.isinstance (by decide +kernel) (pa_cons (pv 1) (pa_cons (pe_tup (pa_cons (pe_bltn (v := .ty "tuple") (by rfl) T.tuple (by decide +kernel) rfl) (pa_cons (pe_bltn (v := .ty "list") (by rfl) T.b_list (by decide +kernel) rfl) pa_nil))) pa_nil)))) (pw_and (pt_cmpR op_gt (pe_callB call_len_seq (by rfl) T.len (by decide +kernel) (pa_cons (pv 1) pa_nil)) pe_int (nomark _)) (pw_and1 (pt_cmpR op_gt (pe_call G__law_pick (hr.mono (by omega)) (by rfl) T._law_pick.g T._law_pick.F.kp T._law_pick.b .nil pass0 (pa_cons (pv 0) (pa_cons pe_int pa_nil))) pe_int (nomark _))))))
        (pss_cons (ps_set (i := 2) sc__law_spoilt.nd rfl (Or.inl rfl) (pe_callTy call_list_of (by rfl) T.b_list (by decide +kernel) (pa_cons (pv 1) pa_nil)))
      (pss_cons (ps_set (i := 3) sc__law_spoilt.nd rfl (Or.inl rfl) (pe_call G__law_pick (hr.mono (by omega)) (by rfl) T._law_pick.g T._law_pick.F.kp T._law_pick.b .nil pass0 (pa_cons (pv 0) (pa_cons (pe_callB call_len_seq (by rfl) T.len (by decide +kernel) (pa_cons (pv 2) pa_nil)) pa_nil))))
      (pss_cons (ps_asg (pe_call G__law_spoilt (hr.mono (by omega)) (by rfl) T._law_spoilt.g T._law_spoilt.F.kp T._law_spoilt.b .nil pass0 (pa_cons (pv 0) (pa_cons (pe_ix ix_list (pv 2) (pv 3) (fun _ _ => rfl)) pa_nil))) (pg_sub (pv 2) (pv 3) set_list))
      (pss_one (ps_ret (pe_ifExp (pt_val (pe_callB call_isi (by rfl) T.isinstance (by decide +kernel) (pa_cons (pv 1) (pa_cons (pe_bltn (v := .ty "tuple") (by rfl) T.tuple (by decide +kernel) rfl) pa_nil)))) (pe_callTy call_tuple_of (by rfl) T.tuple (by decide +kernel) (pa_cons (pv 2) pa_nil)) (pv 2)))))))
        pss_nil)
      (pss_cons (ps_if (pt_val (pe_callB call_isiT (by rfl) T.isinstance (by decide +kernel) (pa_cons (pv 1) (pa_cons (pe_tup (pa_cons (pe_bltn (v := .ty "tuple") (by rfl) T.tuple (by decide +kernel) rfl) (pa_cons (pe_bltn (v := .ty "list") (by rfl) T.b_list (by decide +kernel) rfl) pa_nil))) pa_nil))))
        (pss_cons (ps_set (i := 4) sc__law_spoilt.nd rfl (Or.inl rfl) (pe_ifExp (pt_val (pe_callB call_isi (by rfl) T.isinstance (by decide +kernel) (pa_cons (pv 1) (pa_cons (pe_bltn (v := .ty "tuple") (by rfl) T.tuple (by decide +kernel) rfl) pa_nil)))) (pe_callTy call_list_of (by rfl) T.b_list (by decide +kernel) (pa_cons (pv 1) pa_nil)) (pe_callTy call_tuple_of (by rfl) T.tuple (by decide +kernel) (pa_cons (pv 1) pa_nil))))
      (pss_one (ps_ret (pe_ix ix_list (pe_lst (pa_cons (pv 4) (pa_cons (pe_op op_catU (pv 1) (pe_slice sl_U (pv 1) po_none (po_some pe_int))) (pa_cons (pe_slice sl_U (pv 1) (po_some pe_int) po_none) (pa_cons (pe_revL (pv 1)) (pa_cons pe_non pa_nil)))))) (pe_call G__law_pick (hr.mono (by omega)) (by rfl) T._law_pick.g T._law_pick.F.kp T._law_pick.b .nil pass0 (pa_cons (pv 0) (pa_cons pe_int pa_nil))) (fun _ _ => rfl)))))
        pss_nil)
      (pss_cons (ps_if (pt_val (pe_callB call_isi (by rfl) T.isinstance (by decide +kernel) (pa_cons (pv 1) (pa_cons (pe_bltn (v := .ty "int") (by rfl) T.b_int (by decide +kernel) rfl) pa_nil))))
        (pss_one (ps_ret (pe_ix ix_list (pe_lst (pa_cons (pe_op op_addU (pv 1) pe_int) (pa_cons (pe_op op_subU (pv 1) pe_int) (pa_cons pe_bl (pa_cons pe_non (pa_cons pe_int (pa_cons pe_int (pa_cons (pe_callTy call_strU (by rfl) T.str (by decide +kernel) (pa_cons (pv 1) pa_nil)) pa_nil)))))))) (pe_call G__law_pick (hr.mono (by omega)) (by rfl) T._law_pick.g T._law_pick.F.kp T._law_pick.b .nil pass0 (pa_cons (pv 0) (pa_cons pe_int pa_nil))) (fun _ _ => rfl))))
        pss_nil)
      (pss_one (ps_ret (pe_ix ix_list (pe_lst (pa_cons pe_non (pa_cons pe_int (pa_cons pe_str (pa_cons pe_str (pa_cons pe_str (pa_cons pe_str (pa_cons pe_str (pa_cons pe_str pa_nil))))))))) (pe_call G__law_pick (hr.mono (by omega)) (by rfl) T._law_pick.g T._law_pick.F.kp T._law_pick.b .nil pass0 (pa_cons (pv 0) (pa_cons pe_int pa_nil))) (fun _ _ => rfl))))))), ?_⟩
    refine ⟨fun σ H' => ∃ m', σ = [some (.ref d), some (.ref a), none, none, none] ∧ ExD d H H' ∧ Dk m' H' d ∧ m' ≤ m + 1, ?_, ?_⟩
    · refine ⟨_, rfl, by show 2 ≤ sizeLine; decide, fun t1 n1 => ⟨_, t1, _, _, _, _, rfl, upd_same, .cons (.ty _) (.cons (.ty _) .nil), ((mk_dat (b := false) ha).ex (Ex.new n1)).ty, kit_two _, _, rfl, iteT ?_⟩⟩
      have x1 := Ex.new (o := .tup [.ty "tuple", .ty "list"]) n1
      refine ⟨_, rfl, a, xs, rfl, mk_sq (b := false) (x1 _ _ ha), _, _, rfl, rfl, _, rfl, ite2 (fun hx => ?_) (fun hx => iteF ⟨m, rfl, ExD.of x1, hk.ex x1, by omega⟩)⟩
      have hx := of_decide_eq_true hx
      refine ⟨_, rfl, d, 5, m, rfl, hk.ex x1, by omega, ⟨by decide, by decide⟩, fun r5 H2 _ _ e2 k2 => ⟨_, _, rfl, rfl, _, rfl, ite2 (fun _ => ?_) (fun _ => ⟨m + 1, rfl, (ExD.of x1).trans e2, k2, by omega⟩)⟩⟩
      have E2 := (ExD.of x1).trans e2
      have ha2 := E2 _ _ na ha
      -- rows = list(thing)
      refine ⟨_, rfl, a, xs, rfl, mk_sq (b := false) ha2, fun p np => ?_⟩
      have x3 := Ex.new (o := .lst xs) np
      have pd := k2.ne_new np
      have pa : a ≠ p := ne_of_none ha2 np
      refine ⟨_, rfl, _, rfl, p, xs, rfl, .inl (sq_of upd_same), d, _, m + 1, rfl, k2.ex x3, by omega, ⟨by omega, by omega⟩, fun r H4 r0 r1 e4 k4 => ?_⟩
      have hp4 := e4 _ _ pd (upd_same (H := H2) (a := p) (o := .lst xs))
      have hj : r.toNat < xs.length := by omega
      refine ⟨_, rfl, _, rfl, _, rfl, p, xs, r, xs[r.toNat], rfl, rfl, sq_of hp4, at_of (j := r.toNat) (by omega) (List.getElem?_eq_getElem hj), d, _, n, m + 1 + 1, rfl, hf _ (List.getElem_mem hj), hn, k4, by omega, fun y H5 fy e5 k5 => ?_⟩
      have hp5 := e5 _ _ pd hp4
      have hix : ixN xs.length r = some r.toNat := by
        have := ixN_nat hj
        rw [show ((r.toNat : Nat) : Int) = r by omega] at this
        exact this
      refine ⟨_, rfl, _, rfl, p, xs, r, r.toNat, rfl, rfl, hp5, hix, ?_⟩
      have E5 : ExD d H2 H5 := (ExD.of x3).trans (e4.trans e5)
      have E6 : ExD d H2 (upd H5 p (.lst (xs.set r.toNat y))) := fun b o nb hb => by
        rw [upd_ne (ne_of_none hb np)]
        exact E5 _ _ nb hb
      have k6 : Dk (m + 1 + 1 + 1) (upd H5 p (.lst (xs.set r.toNat y))) d := by
        obtain ⟨u1, u2, u3, hd, r⟩ := k5
        exact ⟨u1, u2, u3, by rw [upd_ne (Ne.symm pd)]; exact hd, r⟩
      have fs : ∀ z ∈ xs.set r.toNat y, Fl (n + 1) z := fun z hz => by
        rcases List.mem_or_eq_of_mem_set hz with h | rfl
        · exact (hf z h).mono (by omega)
        · exact fy
      refine ⟨_, rfl, _, _, _, _, _, rfl, .ty _, (mk_dat (b := false) (E6 _ _ na ha2)).ty, kit_kd _ .tup (by decide), _, rfl, ?_⟩
      exact iteF ⟨_, rfl, q _ _ (.inr ⟨p, false, xs.set r.toNat y, rfl, upd_same, pd, by rw [List.length_set]; omega, fs⟩) (E2.trans E6) (k6.mono (by omega))⟩
    · rintro σ H2 ⟨m', rfl, E2, k2, hm'⟩
      have ha2 := E2 _ _ na ha
      refine ⟨_, rfl, by show 2 ≤ sizeLine; decide, fun t1 n1 => ⟨_, t1, _, _, _, _, rfl, upd_same, .cons (.ty _) (.cons (.ty _) .nil), ((mk_dat (b := false) ha2).ex (Ex.new n1)).ty, kit_two _, _, rfl, iteT ?_⟩⟩
      have x3 := Ex.new (o := .tup [.ty "tuple", .ty "list"]) n1
      have ha3 := x3 _ _ ha2
      have k3 := k2.ex x3
      have E3 := E2.trans (ExD.of x3)
      revert ha3 k3 E3
      generalize upd H2 t1 (.tup [.ty "tuple", .ty "list"]) = H3
      intro ha3 k3 E3
      refine ⟨_, rfl, _, _, _, _, _, rfl, .ty _, (mk_dat (b := false) ha3).ty, kit_kd _ .tup (by decide), _, rfl, ?_⟩
      refine iteF ⟨_, rfl, a, xs, rfl, .inl ⟨sq_of ha3, fun p np => ?_⟩⟩
      have x4 := Ex.new (o := .tup xs) np
      have pd := k3.ne_new np
      have h4 := x4 _ _ ha3
      have hp4 : upd H3 p (.tup xs) p = some (.tup xs) := upd_same
      have k4 := k3.ex x4
      have E4 := E3.trans (ExD.of x4)
      revert h4 hp4 k4 E4
      generalize upd H3 p (.tup xs) = H4
      intro h4 hp4 k4 E4
      refine ⟨_, rfl, _, rfl, _, rfl, 1, rfl, sl_any (b := false) h4 fun c1 H5 x5 h5 o5 => cat_any (b := false) ?_ (x5 _ _ h4) h5 fun c2 H6 x6 h6 o6 => ?_⟩
      · have := cutV_length xs none (some 1)
        exact sz_of (by omega)
      have c1d : c1 ≠ d := by
        rcases o5 with rfl | o5
        · exact na
        · exact k4.ne_new o5
      have c2d : c2 ≠ d := by
        rcases o6 with rfl | rfl | o6
        · exact na
        · exact c1d
        · exact (k4.ex x5).ne_new o6
      have h46 := x6 _ _ (x5 _ _ h4)
      have k6 := (k4.ex x5).ex x6
      refine ⟨_, rfl, 1, rfl, sl_any (b := false) h46 fun c3 H7 x7 h7 o7 => ?_⟩
      have c3d : c3 ≠ d := by
        rcases o7 with rfl | o7
        · exact na
        · exact k6.ne_new o7
      have k7 := k6.ex x7
      refine ⟨_, rfl, a, xs, rfl, sq_of (x7 _ _ h46), fun p4 np4 => ?_⟩
      have x8 := Ex.new (o := mk false xs.reverse) np4
      have p4d := k7.ne_new np4
      refine ⟨by show 5 ≤ sizeLine; decide, fun l nl => ?_⟩
      have x9 := Ex.new (o := .lst [.ref p, .ref c2, .ref c3, .ref p4, .non]) nl
      have k9 := (k7.ex x8).ex x9
      have ld := (k7.ex x8).ne_new nl
      refine ⟨_, rfl, d, 5, m', rfl, k9, by omega, ⟨by decide, by decide⟩, fun r H10 r0 r1 e10 k10 => ?_⟩
      have hj : r.toNat < 5 := by omega
      refine ⟨l, _, r, _, rfl, rfl, sq_of (e10 _ _ ld upd_same), at_of (j := r.toNat) (by omega) (List.getElem?_eq_getElem hj), q _ _ ?_ ((E4.trans (ExD.of ((x5.trans x6).trans (x7.trans (x8.trans x9))))).trans e10) (k10.mono (by omega))⟩
      have hv := List.getElem_mem (l := [V.ref p, .ref c2, .ref c3, .ref p4, .non]) hj
      have cl1 : (cutV xs none (some 1)).length ≤ 1 := by
        unfold cutV
        rw [List.length_take, show HT.sIx xs.length xs.length (some 1) = min 1 xs.length from HT.sIx_nat xs.length _ 1]
        omega
      have cl2 := cutV_length xs (some 1) none
      have flm : ∀ y ∈ xs, Fl (n + 1) y := fun y hy => (hf y hy).mono (by omega)
      simp only [List.mem_cons, List.not_mem_nil, or_false] at hv
      generalize [V.ref p, .ref c2, .ref c3, .ref p4, .non][r.toNat] = v at hv ⊢
      rcases hv with rfl | rfl | rfl | rfl | rfl
      · exact .inr ⟨p, true, xs, rfl, e10 _ _ pd (x9 _ _ (x8 _ _ (x7 _ _ (x6 _ _ (x5 _ _ hp4))))), pd, by omega, flm⟩
      · refine .inr ⟨c2, false, _, rfl, e10 _ _ c2d (x9 _ _ (x8 _ _ (x7 _ _ h6))), c2d, by rw [List.length_append]; omega, fun y hy => ?_⟩
        rcases (List.mem_append.mp hy : _ ∨ _) with hy | hy
        · exact flm y hy
        · exact flm y (cut_mem hy)
      · exact .inr ⟨c3, false, _, rfl, e10 _ _ c3d (x9 _ _ (x8 _ _ h7)), c3d, by omega, fun y hy => flm y (cut_mem hy)⟩
      · exact .inr ⟨p4, false, _, rfl, e10 _ _ p4d (x9 _ _ (upd_same (a := p4) (o := mk false xs.reverse))), p4d, by rw [List.length_reverse]; omega, fun y hy => flm y (List.mem_reverse.mp hy)⟩
      · exact .inl .non
theorem FnOk.or {CX : CXT} {k : Nat} {f : Addr} {fd : FuncData} {ps : List Str} {sp sp' : Sp} (F : FnOk P w K mg base CX k f fd ps sp) (G : FnOk P w K mg base CX k f fd ps sp') : FnOk P w K mg base CX k f fd ps (fun vs H Q E => sp vs H Q E ∨ sp' vs H Q E) :=
  ⟨fun vs H Q E h => h.elim (F.len vs H Q E) (G.len vs H Q E), fun A outer s H args us vs Q E hr he hb hv h => h.elim (F.run A outer s H args us vs Q E hr he hb hv) (G.run A outer s H args us vs Q E hr he hb hv)⟩
theorem ok__law_spoilt (T : Txt K mg) : FnOk P w K mg base CX0 3 T._law_spoilt.f T._law_spoilt.fd ["deck", "thing"] (spSpoil 2) :=
  (FnOk.or ((ok_spoil1 T).mono (by omega)) (FnOk.or (ok_spoilC_true T) (ok_spoilC_false T))).imp fun vs H Q E h => by
    obtain ⟨d, x, n, m, rfl, hT, hn, hk, hm, q⟩ := h
    rcases hT with hT | ⟨a, b, xs, rfl, ha, na, hl, hf⟩
    · exact .inl ⟨d, x, n, m, rfl, hT, hn, hk, by omega, fun y H' hy e k => q y H' (.inl hy) e (k.mono (by omega))⟩
    · cases b with
      | true => exact .inr (.inl ⟨d, a, xs, n, m, rfl, ha, na, hl, hf, hn, hk, hm, q⟩)
      | false => exact .inr (.inr ⟨d, a, xs, n, m, rfl, ha, na, hl, hf, hn, hk, hm, q⟩)
end

/-! ### is a land, by the law's own words -/
def Ft (x : V) : Prop := ∃ n, Fl n x
/-- a thing that is asked: flat, a list, a tuple of flat things, a tuple of one empty tuple -/
def ThP (d : Addr) (H : Hp) (x : V) : Prop := Ft x ∨ (∃ a xs, x = .ref a ∧ H a = some (.lst xs) ∧ a ≠ d) ∨ (∃ a xs, x = .ref a ∧ H a = some (.tup xs) ∧ ((∀ y ∈ xs, Ft y) ∨ ∃ b, xs = [.ref b] ∧ H b = some (.tup [])))
theorem ThP.ex {d : Addr} {H H' : Hp} {x : V} (h : ThP d H x) (e : Ex H H') : ThP d H' x := by
  rcases h with h | ⟨a, xs, rfl, h, n⟩ | ⟨a, xs, rfl, h, n | ⟨b, rfl, hb⟩⟩
  · exact .inl h
  · exact .inr (.inl ⟨a, xs, rfl, e _ _ h, n⟩)
  · exact .inr (.inr ⟨a, xs, rfl, e _ _ h, .inl n⟩)
  · exact .inr (.inr ⟨a, _, rfl, e _ _ h, .inr ⟨b, rfl, e _ _ hb⟩⟩)
theorem ThP.exd {n : Nat} {d : Addr} {H H' : Hp} {x : V} (h : ThP d H x) (k : Dk n H d) (e : ExD d H H') : ThP d H' x := by
  rcases h with h | ⟨a, xs, rfl, h, n⟩ | ⟨a, xs, rfl, h, n | ⟨b, rfl, hb⟩⟩
  · exact .inl h
  · exact .inr (.inl ⟨a, xs, rfl, e _ _ n h, n⟩)
  · exact .inr (.inr ⟨a, xs, rfl, e.tup k h, .inl n⟩)
  · exact .inr (.inr ⟨a, _, rfl, e.tup k h, .inr ⟨b, rfl, e.tup k hb⟩⟩)
theorem Th.thp {n : Nat} {d : Addr} {H : Hp} {x : V} (h : Th n d H x) : ThP d H x := by
  rcases h with h | ⟨a, b, xs, rfl, h, ne, _, r⟩
  · exact .inl ⟨n, h⟩
  · cases b with
    | true => exact .inr (.inr ⟨a, xs, rfl, h, .inl fun y hy => ⟨n, r y hy⟩⟩)
    | false => exact .inr (.inl ⟨a, xs, rfl, h, ne⟩)
theorem Ft.dat {x : V} {H : Hp} (h : Ft x) : ∃ t, Dat H x t ∧ t.isa .tup = false ∧ landB H x = false := by
  obtain ⟨n, h⟩ := h
  cases h with
  | non => exact ⟨_, .non, rfl, rfl⟩
  | bl b => exact ⟨_, .bl b, rfl, rfl⟩
  | int i h => exact ⟨_, .int i, rfl, rfl⟩
  | str x h => exact ⟨_, .str x, rfl, rfl⟩
theorem ThP.dat {d : Addr} {H : Hp} {x : V} (h : ThP d H x) : (∃ t, Dat H x t) ∧ Parts H x := by
  rcases h with h | ⟨a, xs, rfl, h, n⟩ | ⟨a, xs, rfl, h, r⟩
  · obtain ⟨t, d, _⟩ := h.dat (H := H)
    refine ⟨⟨t, d⟩, fun a xs e => ?_⟩
    obtain ⟨n, h⟩ := h
    subst e
    cases h
  · refine ⟨⟨_, .lst h⟩, fun b ys e hb => ?_⟩
    cases e
    rw [h] at hb
    cases hb
  · refine ⟨⟨_, .tup h⟩, fun b ys e hb y hy => ?_⟩
    cases e
    rw [h] at hb
    cases hb
    rcases r with r | ⟨c, rfl, hc⟩
    · obtain ⟨t, d, _⟩ := (r y hy).dat (H := H)
      exact ⟨t, d⟩
    · simp only [List.mem_cons, List.not_mem_nil, or_false] at hy
      subst hy
      exact ⟨_, .tup hc⟩
theorem fl_dp {K : PySem.W.Frag} {H : Hp} {x : V} (h : Ft x) : ∃ d, Dp K H x d ∧ d.canLay0 = true ∧ d.depth ≤ 1 := by
  obtain ⟨n, h⟩ := h
  cases h with
  | non => exact ⟨_, .non, rfl, by decide⟩
  | bl b => exact ⟨_, .bl b, by simp [PyData.canLay0], by simp [PyData.depth]⟩
  | int i h => exact ⟨_, .int i, by simp [PyData.canLay0], by simp [PyData.depth]⟩
  | str x h => exact ⟨_, .str x, by simp [PyData.canLay0, h], by simp [PyData.depth]⟩
theorem fl_dps {K : PySem.W.Frag} {H : Hp} : ∀ {xs : List V}, (∀ x ∈ xs, Ft x) → ∃ ds, DpAll K H xs ds ∧ PyData.canLayAll0 ds = true ∧ PyData.depthAll ds ≤ 1
  | [], _ => ⟨[], .nil, by simp [PyData.canLayAll0], by simp [PyData.depthAll]⟩
  | x :: xs, h => by
    obtain ⟨d, d1, d2, d3⟩ := fl_dp (K := K) (H := H) (h x (List.mem_cons_self ..))
    obtain ⟨ds, e1, e2, e3⟩ := fl_dps (K := K) (H := H) fun y hy => h y (List.mem_cons_of_mem _ hy)
    refine ⟨d :: ds, .cons d1 e1, by simp [PyData.canLayAll0, d2, e2], ?_⟩
    simp only [PyData.depthAll]
    omega

theorem given_ne {n k : Nat} {f : Nat → Bool} {v : Nat → V} (h : k < n) (hf : f k = true) : given n f v ≠ [] := fun z => by
  have hm : v k ∈ given n f v := by
    unfold given
    exact List.mem_map.mpr ⟨k, List.mem_filter.mpr ⟨List.mem_range.mpr h, hf⟩, rfl⟩
  rw [z] at hm
  cases hm
theorem given_none {n : Nat} {f : Nat → Bool} {v : Nat → V} (hf : ∀ k, k < n → f k = false) : given n f v = [] := by
  unfold given
  rw [List.filter_eq_nil_iff.mpr fun k hk => by rw [hf k (List.mem_range.mp hk)]; decide]
  rfl
theorem given_mem {n : Nat} {f : Nat → Bool} {v : Nat → V} {y : V} (h : y ∈ given n f v) : ∃ k, k < n ∧ y = v k := by
  unfold given at h
  obtain ⟨k, hk, rfl⟩ := List.mem_map.mp h
  exact ⟨k, List.mem_range.mp (List.mem_filter.mp hk).1, rfl⟩
theorem eqv_nil {ds : List PyData} : PyData.eqv (.list ds) (.list []) = ds.isEmpty := by
  cases ds with
  | nil => simp [PyData.eqv, PyData.eqvAll]
  | cons d ds => simp [PyData.eqv, PyData.eqvAll]
theorem dps_nil {K : PySem.W.Frag} {H : Hp} {xs : List V} {ds : List PyData} (h : DpAll K H xs ds) : ds.isEmpty = xs.isEmpty := by
  cases h <;> rfl
theorem iteNSF {c A B : Prop} [Decidable c] (hc : ¬ c) (h : A) : if (!decide c) = true then A else B := by
  rw [decide_eq_false hc]
  exact iteT h
theorem iteD' {c A B : Prop} [Decidable c] (hc : c) (h : A) : if decide c = true then A else B := by
  rw [decide_eq_true hc]
  exact iteT h
theorem iteND' {c A B : Prop} [Decidable c] (hc : ¬ c) (h : B) : if decide c = true then A else B := by
  rw [decide_eq_false hc]
  exact iteF h
section
variable {P : Program} {w : World} {K : PySem.W.Frag} {mg : Str → Option Value} {base : Heap}
theorem ok__law_whole (T : Txt K mg) : FnOk P w K mg base CX0 1 T._law_whole.f T._law_whole.fd ["thing"] spWhole := by
  refine T._law_whole.F.ok sc__law_whole (fun vs H Q E h => ?_) (fun cdv A outer s H vs Q E hr h => ?_)
  · obtain ⟨x, t, rfl, _⟩ := h
    rfl
  · obtain ⟨x, t, rfl, d, q⟩ := h
    have q0 := q H (Ex.refl H)
    refine ⟨_, (pss_one (ps_ret (pe_and (pe_callB call_isi (by rfl) T.isinstance (by decide +kernel) (pa_cons (pv 0) (pa_cons (pe_bltn (v := .ty "int") (by rfl) T.b_int (by decide +kernel) rfl) pa_nil))) (pe_one (pe_not (pe_callB call_isi (by rfl) T.isinstance (by decide +kernel) (pa_cons (pv 0) (pa_cons (pe_bltn (v := .ty "bool") (by rfl) T.b_bool (by decide +kernel) rfl) pa_nil)))))))), ?_⟩
    refine ⟨_, rfl, _, _, _, _, _, rfl, .ty _, d.ty, kit_kd t .int (by decide), _, rfl, ?_⟩
    cases d
    case non => exact iteF q0
    case str => exact iteF q0
    case lst => exact iteF q0
    case tup => exact iteF q0
    case bl b => exact iteT ⟨_, rfl, _, _, _, _, _, rfl, .ty _, Dat.ty (.bl b), kit_kd .bl .bl (by decide), _, rfl, q0⟩
    case int i => exact iteT ⟨_, rfl, _, _, _, _, _, rfl, .ty _, Dat.ty (.int i), kit_kd .int .bl (by decide), _, rfl, q0⟩
def spIsLand2 : Sp := fun vs H Q _ => ∃ d x, vs = [x] ∧ ThP d H x ∧ RetV (.bl (landB H x)) H Q
theorem ok__law_is_land (T : Txt K mg) : FnOk P w K mg base CX0 2 T._law_is_land.f T._law_is_land.fd ["thing"] spIsLand2 := by
  have G__law_whole : FnOk P w K mg base CX0 1 T._law_whole.f T._law_whole.fd ["thing"] spWhole := ok__law_whole T
  refine T._law_is_land.F.ok sc__law_is_land (fun vs H Q E h => ?_) (fun cdv A outer s H vs Q E hr h => ?_)
  · obtain ⟨d, x, rfl, _⟩ := h
    rfl
  · obtain ⟨d, x, rfl, hT, q⟩ := h
    have q0 := q H (Ex.refl H)
    refine ⟨_, (pss_cons (ps_if (PW.pt (pw_or (pt_not (pt_val (pe_callB call_isi (by rfl) T.isinstance (by decide +kernel) (pa_cons (pv 0) (pa_cons (pe_bltn (v := .ty "tuple") (by rfl) T.tuple (by decide +kernel) rfl) pa_nil))))) (pw_or (pt_cmpR op_ne (pe_callB call_len_seq (by rfl) T.len (by decide +kernel) (pa_cons (pv 0) pa_nil)) pe_int (nomark _)) (pw_or1 (pt_cmpR (op_neD hr.units) (pe_lc (own := [("one", 1)]) (g := gName 1) (by rfl) sc__law_is_land.nd (pi_tup (pv 0)) (blkOk_by (own := [("one", 1)]) (N := ["thing", "one"]) (sc := defScope s__law_is_land) (by decide +kernel)) (fun _ _ _ _ _ => (pg_name (i := 1) sc__law_is_land.nd rfl (Or.inl rfl))) (fun _ _ _ _ _ => (pts_one (pt_not (pt_val (pe_call G__law_whole (hr.mono (by omega)) (by rfl) T._law_whole.g T._law_whole.F.kp T._law_whole.b .nil pass0 (pa_cons (pv 1) pa_nil)))))) (fun _ _ _ _ _ => (pv 1))) (pe_lst pa_nil) (nomark _))))))
        (pss_one (ps_ret pe_bl))
        pss_nil)
      (pss_cons (ps_if (PW.pt (pw_or (pt_not (pt_chain op_le op_le pe_int (pe_ix ix_tup (pv 0) pe_int (fun _ _ => rfl)) pe_int)) (pw_or1 (pt_not (pt_chain op_le op_le pe_int (pe_ix ix_tup (pv 0) pe_int (fun _ _ => rfl)) pe_int)))))
        (pss_one (ps_ret pe_bl))
        pss_nil)
      (pss_one (ps_ret (pe_and (pe_chain op_le op_lt pe_int (pe_ix ix_tup (pv 0) pe_int (fun _ _ => rfl)) (pe_ix ix_tup (pv 0) pe_int (fun _ _ => rfl))) (pe_one (pe_chain op_le op_le (pe_un un_neg (pe_op op_pow pe_int pe_int)) (pe_ix ix_tup (pv 0) pe_int (fun _ _ => rfl)) (pe_op op_pow pe_int pe_int)))))))), ?_⟩
    rcases hT with h | ⟨a, xs, rfl, h, n⟩ | ⟨a, xs, rfl, h, r⟩
    · obtain ⟨t, dt, it, lb⟩ := h.dat (H := H)
      rw [lb] at q0
      refine ⟨_, rfl, _, _, _, _, _, rfl, .ty _, dt.ty, kit_kd t .tup (by decide), _, rfl, ?_⟩
      rw [it]
      exact iteT (iteT q0)
    · rw [landB_lst h] at q0
      exact ⟨_, rfl, _, _, _, _, _, rfl, .ty _, (Dat.lst h).ty, kit_kd .lst .tup (by decide), _, rfl, iteT (iteT q0)⟩
    · refine ⟨_, rfl, _, _, _, _, _, rfl, .ty _, (Dat.tup h).ty, kit_kd .tup .tup (by decide), _, rfl, iteF ⟨_, rfl, a, xs, rfl, .inr (st_of h), rfl, _, rfl, ite2 (fun e => ?_) (fun e => ?_)⟩⟩
      · have hl : xs.length ≠ 4 := fun z => by
          rw [z] at e
          exact absurd e (by decide)
        rw [landB_tup h, landL_len hl] at q0
        exact iteT q0
      · have hl : xs.length = 4 := by
          have e2 := Bool.eq_false_iff.mpr e
          have e3 := of_decide_eq_true (by simpa using e2 : decide (V.int (xs.length : Int) = V.int 4) = true)
          have := V.int.inj e3
          omega
        have hfl : ∀ y ∈ xs, Ft y := by
          rcases r with r | ⟨c, rfl, _⟩
          · exact r
          · exact absurd hl (by show ¬ (1 = 4); decide)
        have hq : ∀ H1, Ex H H1 → Q (.bl (landL xs)) H1 := fun H1 e1 => by
          have z := q H1 e1
          rw [landB_tup h] at z
          exact z
        refine ⟨_, rfl, a, rfl, ⟨_, st_of h⟩, fun D hD => ?_⟩
        refine lc_tup (xs := xs) (Cw H (fun i => !wholeV (xs[i]?.getD .non)) (fun i => xs[i]?.getD .non) D) ⟨hD, Ex.new hD, upd_same⟩ (fun i H' _ p => st_of (p.2.1 _ _ h)) (fun i x H' hi p => ⟨rfl, cw_turn p (by have := (List.getElem?_eq_some_iff.mp hi).1; omega) ?_ ?_⟩) (fun H' p => ?_)
        · intro Ha ea Qa qa
          obtain ⟨t, dt, _⟩ := (hfl x (List.mem_of_getElem? hi)).dat (H := Ha)
          refine ⟨_, rfl, x, t, rfl, dt, fun Hb eb => ⟨_, rfl, ?_⟩⟩
          have := qa Hb eb
          rw [hi] at this
          exact this
        · intro _ Ha ea Qa qa
          have := qa Ha (Ex.refl Ha)
          rw [hi] at this
          exact ⟨_, rfl, this⟩
        obtain ⟨_, e1, hDl⟩ := p
        rw [hl] at hDl
        refine ⟨by show 0 ≤ sizeLine; decide, fun l nl => ?_⟩
        have x2 := Ex.new (o := .lst []) nl
        obtain ⟨ds, d1, d2, d3⟩ := fl_dps (K := K) (H := upd H' l (.lst [])) (xs := given 4 (fun i => !wholeV (xs[i]?.getD .non)) (fun i => xs[i]?.getD .non)) fun y hy => by
          obtain ⟨k, hk, rfl⟩ := given_mem hy
          exact hfl _ (by rw [List.getElem?_eq_getElem (show k < xs.length by omega)]; exact List.getElem_mem _)
        have hsh : SeqAt.shaped (.list ds) = true := by
          unfold SeqAt.shaped
          rw [Bool.and_eq_true, decide_eq_true_eq]
          exact ⟨by simp only [PyData.canLay0]; exact d2, by simp only [PyData.depth]; omega⟩
        refine ⟨.list ds, .list [], .lst (sq_of (x2 _ _ hDl)) d1, .lst (sq_of upd_same) .nil, hsh, rfl, _, rfl, ?_⟩
        rw [eqv_nil, dps_nil d1]
        have E2 := e1.trans x2
        by_cases hw : ∀ k, k < 4 → (!wholeV (xs[k]?.getD .non)) = false
        · rw [given_none hw]
          obtain ⟨i0, i1, i2, i3, rfl⟩ : ∃ i0 i1 i2 i3, xs = [V.int i0, .int i1, .int i2, .int i3] := by
            match xs, hl with
            | [y0, y1, y2, y3], _ =>
              have w0 := hw 0 (by decide)
              have w1 := hw 1 (by decide)
              have w2 := hw 2 (by decide)
              have w3 := hw 3 (by decide)
              have wi : ∀ y : V, (!wholeV y) = false → ∃ i, y = .int i := fun y hy => by
                cases y with
                | int i => exact ⟨i, rfl⟩
                | _ => cases hy
              obtain ⟨i0, rfl⟩ := wi y0 w0
              obtain ⟨i1, rfl⟩ := wi y1 w1
              obtain ⟨i2, rfl⟩ := wi y2 w2
              obtain ⟨i3, rfl⟩ := wi y3 w3
              exact ⟨i0, i1, i2, i3, rfl⟩
          have h2 := E2 _ _ h
          have hq2 := hq _ E2
          have eL : landL [V.int i0, .int i1, .int i2, .int i3] = ((decide (1 ≤ i0) && decide (i0 ≤ 400)) && ((decide (1 ≤ i2) && decide (i2 ≤ 60)) && ((decide (0 ≤ i1) && decide (i1 ≤ i2 - 1)) && (decide (-1000000 ≤ i3) && decide (i3 ≤ 1000000))))) := rfl
          rw [eL] at hq2
          revert hq2 h2
          generalize upd H' l (.lst []) = H2
          intro h2 hq2
          have hq3 : ∀ v, ((decide (1 ≤ i0) && decide (i0 ≤ 400)) && ((decide (1 ≤ i2) && decide (i2 ≤ 60)) && ((decide (0 ≤ i1) && decide (i1 ≤ i2 - 1)) && (decide (-1000000 ≤ i3) && decide (i3 ≤ 1000000))))) = v → Q (.bl v) H2 := fun v e => e ▸ hq2
          refine iteF ⟨_, rfl, a, _, 0, _, rfl, rfl, st_of h2, rfl, _, _, rfl, rfl, _, rfl, ?_⟩
          by_cases c1 : 1 ≤ i0
          case neg => exact iteND' c1 ⟨_, rfl, iteT (iteT (hq3 _ (by simp [c1])))⟩
          refine iteD' c1 ⟨_, _, rfl, rfl, _, rfl, ?_⟩
          by_cases c2 : i0 ≤ 400
          case neg => exact iteNSF c2 (iteT (hq3 _ (by simp [c2])))
          refine iteNS c2 ⟨_, rfl, a, _, 2, _, rfl, rfl, st_of h2, rfl, _, _, rfl, rfl, _, rfl, ?_⟩
          by_cases c3 : 1 ≤ i2
          case neg => exact iteND' c3 ⟨_, rfl, iteT (hq3 _ (by simp [c3]))⟩
          refine iteD' c3 ⟨_, _, rfl, rfl, _, rfl, ?_⟩
          by_cases c4 : i2 ≤ 60
          case neg => exact iteNSF c4 (hq3 _ (by simp [c4]))
          refine iteNS c4 ⟨_, rfl, a, _, 1, _, rfl, rfl, st_of h2, rfl, _, _, rfl, rfl, _, rfl, ?_⟩
          by_cases c5 : 0 ≤ i1
          case neg => exact iteND' c5 ⟨_, rfl, iteF (hq3 _ (by simp [c5]))⟩
          refine iteD' c5 ⟨_, rfl, a, _, 2, _, rfl, rfl, st_of h2, rfl, _, _, rfl, rfl, _, rfl, ?_⟩
          by_cases c6 : i1 < i2
          case neg => exact iteND' c6 (hq3 _ (by simp [show ¬ (i1 ≤ i2 - 1) by omega]))
          refine iteD' c6 ⟨_, _, rfl, rfl, ⟨by decide, by decide, by decide⟩, _, rfl, _, rfl, a, _, 3, _, rfl, rfl, st_of h2, rfl, _, _, rfl, rfl, _, rfl, ?_⟩
          by_cases c7 : -1000000 ≤ i3
          case neg => exact iteND' c7 (hq3 _ (by simp [c7]))
          refine iteD' c7 ⟨_, _, rfl, rfl, ⟨by decide, by decide, by decide⟩, _, _, rfl, rfl, hq3 _ ?_⟩
          rw [decide_eq_true c1, decide_eq_true c2, decide_eq_true c3, decide_eq_true c4, decide_eq_true c5, decide_eq_true (show i1 ≤ i2 - 1 by omega), decide_eq_true c7]
          rfl
        · obtain ⟨k, hk, hf⟩ : ∃ k, k < 4 ∧ (!wholeV (xs[k]?.getD .non)) = true := by
            apply Classical.byContradiction
            intro z
            exact hw fun k hk => by
              cases hf : (!wholeV (xs[k]?.getD .non)) with
              | false => rfl
              | true => exact absurd ⟨k, hk, hf⟩ z
          have hne := given_ne (f := fun i => !wholeV (xs[i]?.getD .non)) (v := fun i => xs[i]?.getD .non) hk hf
          have hi : (given 4 (fun i => !wholeV (xs[i]?.getD .non)) (fun i => xs[i]?.getD .non)).isEmpty = false := by
            cases hg : given 4 (fun i => !wholeV (xs[i]?.getD .non)) (fun i => xs[i]?.getD .non) with
            | nil => exact absurd hg hne
            | cons _ _ => rfl
          rw [hi]
          have hq2 := hq _ E2
          have hL : landL xs = false := by
            have nb : ∀ (y : V) (lo hi : Int), (!wholeV y) = true → btw y lo hi = false := fun y lo hi hy => by
              cases y with
              | int i => cases hy
              | _ => rfl
            have nt : ∀ (t b : V), (!wholeV t) = true → topB t b = false := fun t b ht => by
              cases b with
              | int b' => exact nb t 0 (b' - 1) ht
              | _ => rfl
            match xs, hl, k, hk, hf with
            | [y0, y1, y2, y3], _, 0, _, hf =>
              show (btw y0 1 400 && _) = false
              rw [nb y0 1 400 hf, Bool.false_and]
            | [y0, y1, y2, y3], _, 1, _, hf =>
              show (_ && (_ && (topB y1 y2 && _))) = false
              rw [nt y1 y2 hf, Bool.false_and, Bool.and_false, Bool.and_false]
            | [y0, y1, y2, y3], _, 2, _, hf =>
              show (_ && (btw y2 1 60 && _)) = false
              rw [nb y2 1 60 hf, Bool.false_and, Bool.and_false]
            | [y0, y1, y2, y3], _, 3, _, hf =>
              show (_ && (_ && (_ && btw y3 (-1000000) 1000000))) = false
              rw [nb y3 _ _ hf, Bool.and_false, Bool.and_false, Bool.and_false]
          rw [hL] at hq2
          exact iteT hq2
end

theorem ThP.mut {d p : Addr} {H : Hp} {x : V} {xs ys : List V} (h : ThP d H x) (hp : H p = some (.lst xs)) : ThP d (upd H p (.lst ys)) x := by
  have keep : ∀ {a : Addr} {zs : List V}, H a = some (.tup zs) → upd H p (.lst ys) a = some (.tup zs) := fun {a zs} ha => by
    rw [upd_ne (ne_of ha hp (fun z => by cases z))]
    exact ha
  rcases h with h | ⟨a, zs, rfl, h, n⟩ | ⟨a, zs, rfl, h, n | ⟨b, rfl, hb⟩⟩
  · exact .inl h
  · by_cases e : a = p
    · subst e
      exact .inr (.inl ⟨a, ys, rfl, upd_same, n⟩)
    · exact .inr (.inl ⟨a, zs, rfl, by rw [upd_ne e]; exact h, n⟩)
  · exact .inr (.inr ⟨a, zs, rfl, keep h, .inl n⟩)
  · exact .inr (.inr ⟨a, _, rfl, keep h, .inr ⟨b, rfl, keep hb⟩⟩)
theorem landB_ex {H H' : Hp} {x : V} {t : Kd} (d : Dat H x t) (e : Ex H H') : landB H' x = landB H x := by
  cases d with
  | lst h => rw [landB_lst h, landB_lst (e _ _ h)]
  | tup h => rw [landB_tup h, landB_tup (e _ _ h)]
  | _ => rfl
theorem ft_int (i : Int) : Ft (.int i) := ⟨i.natAbs, .int i ⟨by omega, by omega⟩⟩
theorem ft_bl (b : Bool) : Ft (.bl b) := ⟨0, .bl b⟩
theorem ft_ints {xs : List V} (h : xs.all wholeV = true) : ∀ y ∈ xs, Ft y := fun y hy => by
  have := List.all_eq_true.mp h y hy
  cases y with
  | int i => exact ft_int i
  | _ => cases this
section
variable {P : Program} {w : World} {K : PySem.W.Frag} {mg : Str → Option Value} {base : Heap}
def spOdd : Sp := fun vs H Q _ => ∃ (d : Addr) (n : Nat), vs = [.ref d] ∧ Dk n H d ∧ n < 900000 ∧ ∀ y H', ThP d H' y → ExD d H H' → Dk (n + 1) H' d → Q y H'
theorem ok__law_odd (T : Txt K mg) : FnOk P w K mg base CX0 3 T._law_odd.f T._law_odd.fd ["deck"] spOdd := by
  have G__law_one : FnOk P w K mg base CX0 2 T._law_one.f T._law_one.fd ["deck", "some"] spOne := ok__law_one T
  refine T._law_odd.F.ok sc__law_odd (fun vs H Q E h => ?_) (fun cdv A outer s H vs Q E hr h => ?_)
  · obtain ⟨d, n, rfl, _⟩ := h
    rfl
  · obtain ⟨d, n, rfl, hk, hn, q⟩ := h
    refine ⟨_, (pss_cons (ps_set (i := 1) sc__law_odd.nd rfl (Or.inl rfl) (pe_lst (pa_cons pe_non (pa_cons pe_bl (pa_cons pe_str (pa_cons pe_str (pa_cons (pe_tup pa_nil) (pa_cons (pe_lst pa_nil) (pa_cons (pe_tup (pa_cons (pe_tup pa_nil) pa_nil)) (pa_cons pe_int (pa_cons (pe_un un_neg pe_int) (pa_cons (pe_op op_pow pe_int pe_int) (pa_cons (pe_tup (pa_cons pe_int (pa_cons pe_int pa_nil))) (pa_cons (pe_tup (pa_cons pe_int (pa_cons pe_int (pa_cons pe_int (pa_cons pe_int pa_nil))))) (pa_cons (pe_lst (pa_cons pe_int (pa_cons pe_int (pa_cons pe_int (pa_cons pe_int pa_nil))))) (pa_cons (pe_tup (pa_cons pe_int (pa_cons pe_int (pa_cons pe_int (pa_cons pe_int pa_nil))))) pa_nil))))))))))))))))
      (pss_one (ps_ret (pe_call G__law_one (hr.mono (by omega)) (by rfl) T._law_one.g T._law_one.F.kp T._law_one.b .nil pass0 (pa_cons (pv 0) (pa_cons (pv 1) pa_nil)))))), ?_⟩
    refine ⟨by show 0 ≤ sizeLine; decide, fun p1 n1 => ⟨by show 0 ≤ sizeLine; decide, fun p2 n2 => ⟨by show 0 ≤ sizeLine; decide, fun p3 n3 => ⟨by show 1 ≤ sizeLine; decide, fun p4 n4 => ?_⟩⟩⟩⟩
    refine ⟨1, rfl, _, _, rfl, rfl, ⟨by decide, by decide, by decide⟩, by show 2 ≤ sizeLine; decide, fun p5 n5 => ⟨by show 4 ≤ sizeLine; decide, fun p6 n6 => ⟨by show 4 ≤ sizeLine; decide, fun p7 n7 => ⟨by show 4 ≤ sizeLine; decide, fun p8 n8 => ⟨by show 14 ≤ sizeLine; decide, fun p9 n9 => ?_⟩⟩⟩⟩⟩
    have x9 := Ex.new (o := .lst [.non, .bl true, .str "", .str "a", .ref p1, .ref p2, .ref p4, .int 7, .int (-1), .int ((10 : Int) ^ (30 : Int).toNat), .ref p5, .ref p6, .ref p7, .ref p8]) n9
    have x8 := (Ex.new (o := .tup [.int 365, .int 1, .int 4, .int 0]) n8).trans x9
    have x7 := (Ex.new (o := .lst [.int 7, .int 0, .int 1, .int 0]) n7).trans x8
    have x6 := (Ex.new (o := .tup [.int 7, .int 0, .int 1, .int 0]) n6).trans x7
    have x5 := (Ex.new (o := .tup [.int 1, .int 2]) n5).trans x6
    have x4 := (Ex.new (o := .tup [.ref p3]) n4).trans x5
    have x3 := (Ex.new (o := .tup []) n3).trans x4
    have x2 := (Ex.new (o := .lst []) n2).trans x3
    have x1 := (Ex.new (o := .tup []) n1).trans x2
    have h1 := x2 _ _ (upd_same (H := H) (a := p1) (o := .tup []))
    have h2 := x3 _ _ (upd_same (a := p2) (o := .lst []))
    have h3 := x4 _ _ (upd_same (a := p3) (o := .tup []))
    have h4 := x5 _ _ (upd_same (a := p4) (o := .tup [.ref p3]))
    have h5 := x6 _ _ (upd_same (a := p5) (o := .tup [.int 1, .int 2]))
    have h6 := x7 _ _ (upd_same (a := p6) (o := .tup [.int 7, .int 0, .int 1, .int 0]))
    have h7 := x8 _ _ (upd_same (a := p7) (o := .lst [.int 7, .int 0, .int 1, .int 0]))
    have h8 := x9 _ _ (upd_same (a := p8) (o := .tup [.int 365, .int 1, .int 4, .int 0]))
    have k9 := hk.ex x1
    have w1 := Ex.new (o := .tup []) n1
    have w2 := w1.trans (Ex.new (o := .lst []) n2)
    have w3 := w2.trans (Ex.new (o := .tup []) n3)
    have w4 := w3.trans (Ex.new (o := .tup [.ref p3]) n4)
    have w5 := w4.trans (Ex.new (o := .tup [.int 1, .int 2]) n5)
    have w6 := w5.trans (Ex.new (o := .tup [.int 7, .int 0, .int 1, .int 0]) n6)
    have w7 := w6.trans (Ex.new (o := .lst [.int 7, .int 0, .int 1, .int 0]) n7)
    have w8 := w7.trans (Ex.new (o := .tup [.int 365, .int 1, .int 4, .int 0]) n8)
    have p2d := (hk.ex w1).ne_new n2
    have p7d := (hk.ex w6).ne_new n7
    have p9d := (hk.ex w8).ne_new n9
    refine ⟨_, rfl, _, rfl, d, p9, _, n, rfl, k9, by omega, upd_same, p9d, ⟨by show 0 < 14; decide, by show 14 ≤ 1000; decide⟩, fun v H10 hv e10 k10 => q v H10 (ThP.exd (H := _) ?_ k9 e10) ((ExD.of x1).trans e10) k10⟩
    simp only [List.mem_cons, List.not_mem_nil, or_false] at hv
    rcases hv with rfl | rfl | rfl | rfl | rfl | rfl | rfl | rfl | rfl | rfl | rfl | rfl | rfl | rfl
    · exact .inl ⟨0, .non⟩
    · exact .inl ⟨0, .bl _⟩
    · exact .inl ⟨0, .str _ (strOk_of _)⟩
    · exact .inl ⟨0, .str _ (strOk_of _)⟩
    · exact .inr (.inr ⟨p1, _, rfl, h1, .inl (ft_ints rfl)⟩)
    · exact .inr (.inl ⟨p2, _, rfl, h2, p2d⟩)
    · exact .inr (.inr ⟨p4, _, rfl, h4, .inr ⟨p3, rfl, h3⟩⟩)
    · exact .inl (ft_int _)
    · exact .inl (ft_int _)
    · exact .inl (ft_int _)
    · exact .inr (.inr ⟨p5, _, rfl, h5, .inl (ft_ints rfl)⟩)
    · exact .inr (.inr ⟨p6, _, rfl, h6, .inl (ft_ints rfl)⟩)
    · exact .inr (.inl ⟨p7, _, rfl, h7, p7d⟩)
    · exact .inr (.inr ⟨p8, _, rfl, h8, .inl (ft_ints rfl)⟩)
end

/-- a written thing: a tuple of flat things -/
def WrI (H : Hp) (y : V) : Prop := ∃ a xs, y = .ref a ∧ H a = some (.tup xs) ∧ ∀ z ∈ xs, Ft z
theorem WrI.ex {H H' : Hp} {y : V} (h : WrI H y) (e : Ex H H') : WrI H' y := by
  obtain ⟨a, xs, rfl, h, r⟩ := h
  exact ⟨a, xs, rfl, e _ _ h, r⟩
theorem WrI.exd {n : Nat} {d : Addr} {H H' : Hp} {y : V} (h : WrI H y) (k : Dk n H d) (e : ExD d H H') : WrI H' y := by
  obtain ⟨a, xs, rfl, h, r⟩ := h
  exact ⟨a, xs, rfl, e.tup k h, r⟩
theorem WrI.thp {d : Addr} {H : Hp} {y : V} (h : WrI H y) : ThP d H y := by
  obtain ⟨a, xs, rfl, h, r⟩ := h
  exact .inr (.inr ⟨a, xs, rfl, h, .inl r⟩)
structure Kv (p : Addr) (cells : List V) (q : Addr) (W : List V) (d : Addr) (H : Hp) : Prop where
  hp : H p = some (.lst cells)
  np : p ≠ d
  hq : H q = some (.lst W)
  nq : q ≠ d
  hW : ∀ y ∈ W, WrI H y
section
variable {p q d : Addr} {cells W : List V} {H H' : Hp} {n : Nat}
theorem Kv.ex (c : Kv p cells q W d H) (e : Ex H H') : Kv p cells q W d H' := ⟨e _ _ c.hp, c.np, e _ _ c.hq, c.nq, fun y hy => (c.hW y hy).ex e⟩
theorem Kv.exd (c : Kv p cells q W d H) (k : Dk n H d) (e : ExD d H H') : Kv p cells q W d H' := ⟨e _ _ c.np c.hp, c.np, e _ _ c.nq c.hq, c.nq, fun y hy => (c.hW y hy).exd k e⟩
end
theorem Land.th {d : Addr} {H : Hp} {v : V} {D T B S : Int} {n : Nat} (h : Land H v D T B S) (k : Dk n H d) : Th 0 d H v := by
  obtain ⟨a, rfl, ha, r1, r2, r3, r4⟩ := h
  refine .inr ⟨a, true, _, rfl, ha, k.ne_tup ha, by show 4 ≤ 4 + 0; decide, fun y hy => ?_⟩
  simp only [List.mem_cons, List.not_mem_nil, or_false] at hy
  rcases hy with rfl | rfl | rfl | rfl
  all_goals exact .int _ ⟨by omega, by omega⟩
def spLaw (K : PySem.W.Frag) : Sp := fun vs H Q _ => ∃ (a : Addr) (ns : List Int), vs = [.ref a] ∧ SqL K H a (ns.map V.int) ∧ ns.length ≤ 63 ∧ ∀ H', Q (.bl true) H'
section
variable {P : Program} {w : World} {K : PySem.W.Frag} {mg : Str → Option Value} {base : Heap}
theorem ok_law (T : Txt K mg) {f : Addr} {fd : FuncData} (F : Fun K "law" "law" s_law f fd) : FnOk P w K mg base CX0 4 f fd ["script"] (spLaw K) := by
  have G_is_land : FnOk P w K mg base CX0 3 T.is_land.f T.is_land.fd ["thing"] spIsLand := ok_is_land T
  have G__law_is_land : FnOk P w K mg base CX0 2 T._law_is_land.f T._law_is_land.fd ["thing"] spIsLand2 := ok__law_is_land T
  have G__law_same : FnOk P w K mg base CX0 2 T._law_same.f T._law_same.fd ["told", "due"] (spSame 1) := ok__law_same T 1
  have G__law_deck : FnOk P w K mg base CX0 1 T._law_deck.f T._law_deck.fd ["cell", "turn"] spDeck := ok__law_deck T
  have G__law_any : FnOk P w K mg base CX0 3 T._law_any.f T._law_any.fd ["deck"] spAny := ok__law_any T
  have G__law_spoilt : FnOk P w K mg base CX0 3 T._law_spoilt.f T._law_spoilt.fd ["deck", "thing"] (spSpoil 2) := ok__law_spoilt T
  have G__law_odd : FnOk P w K mg base CX0 3 T._law_odd.f T._law_odd.fd ["deck"] spOdd := ok__law_odd T
  refine F.ok sc_law (fun vs H Q E h => ?_) (fun cdv A outer s H vs Q E hr h => ?_)
  · obtain ⟨a, ns, rfl, _⟩ := h
    rfl
  · obtain ⟨a, ns, rfl, hS, hlen, q⟩ := h
    refine ⟨_, (pss_cut (ps_set (i := 1) sc_law.nd rfl (Or.inl rfl) (pe_lst (pa_cons (pe_tup (pa_cons pe_int (pa_cons pe_int (pa_cons pe_int (pa_cons (pe_op op_pow pe_int pe_int) pa_nil))))) (pa_cons (pe_tup (pa_cons pe_int (pa_cons pe_int (pa_cons pe_int (pa_cons pe_int pa_nil))))) (pa_cons (pe_tup (pa_cons pe_int (pa_cons pe_int (pa_cons pe_int (pa_cons pe_int pa_nil))))) (pa_cons (pe_tup (pa_cons pe_int (pa_cons pe_int (pa_cons pe_int (pa_cons pe_int pa_nil))))) (pa_cons (pe_tup (pa_cons pe_int (pa_cons pe_int (pa_cons pe_int (pa_cons pe_int pa_nil))))) (pa_cons (pe_tup (pa_cons pe_int (pa_cons pe_int (pa_cons pe_int (pa_cons pe_int pa_nil))))) pa_nil))))))))
      (pss_cut (ps_set (i := 1) sc_law.nd rfl (Or.inl rfl) (pe_op op_catL (pv 1) (pe_lst (pa_cons (pe_tup (pa_cons pe_int (pa_cons pe_int (pa_cons pe_int (pa_cons (pe_un un_neg (pe_op op_pow pe_int pe_int)) pa_nil))))) (pa_cons (pe_tup (pa_cons pe_int (pa_cons pe_int (pa_cons pe_int (pa_cons (pe_op op_sub (pe_un un_neg (pe_op op_pow pe_int pe_int)) pe_int) pa_nil))))) (pa_cons (pe_tup (pa_cons pe_int (pa_cons pe_int (pa_cons pe_int (pa_cons (pe_op op_add (pe_op op_pow pe_int pe_int) pe_int) pa_nil))))) (pa_cons (pe_tup pa_nil) pa_nil)))))))
      (pss_cut (ps_set (i := 1) sc_law.nd rfl (Or.inl rfl) (pe_op op_catL (pv 1) (pe_lst (pa_cons (pe_tup (pa_cons pe_int (pa_cons (pe_un un_neg pe_int) (pa_cons pe_int (pa_cons pe_int pa_nil))))) (pa_cons (pe_tup (pa_cons pe_bl (pa_cons pe_int (pa_cons pe_int (pa_cons pe_int pa_nil))))) pa_nil)))))
      (pss_cons (ps_for PassesOwn.never rfl (pi_list (pe_slice sl_list (pe_op op_catL (pe_lst (pa_cons pe_int pa_nil)) (pv 0)) po_none (po_some pe_int))) (pg_name (i := 2) sc_law.nd rfl (Or.inl rfl))
        (pss_cons (ps_set (i := 3) sc_law.nd rfl (Or.inr rfl) (pe_call G__law_deck (hr.mono (by omega)) (by rfl) T._law_deck.g T._law_deck.F.kp T._law_deck.b .nil pass0 (pa_cons (pv 2) (pa_cons pe_int pa_nil))))
      (pss_cons (ps_set (i := 4) sc_law.nd rfl (Or.inr rfl) (pe_call G__law_any (hr.mono (by omega)) (by rfl) T._law_any.g T._law_any.F.kp T._law_any.b .nil pass0 (pa_cons (pv 3) pa_nil)))
      (pss_cons (ps_set (i := 5) sc_law.nd rfl (Or.inl rfl) (pe_call G__law_spoilt (hr.mono (by omega)) (by rfl) T._law_spoilt.g T._law_spoilt.F.kp T._law_spoilt.b .nil pass0 (pa_cons (pv 3) (pa_cons (pv 4) pa_nil))))
      (pss_cons (ps_set (i := 6) sc_law.nd rfl (Or.inl rfl) (pe_lst (pa_cons (pv 4) (pa_cons (pv 5) (pa_cons (pe_call G__law_spoilt (hr.mono (by omega)) (by rfl) T._law_spoilt.g T._law_spoilt.F.kp T._law_spoilt.b .nil pass0 (pa_cons (pv 3) (pa_cons (pv 5) pa_nil))) (pa_cons (pe_back (pv 4)) (pa_cons (pe_callTy call_list_of (by rfl) T.b_list (by decide +kernel) (pa_cons (pv 4) pa_nil)) (pa_cons (pe_slice sl_U (pv 4) po_none (po_some pe_int)) (pa_cons (pe_op op_catU (pv 4) (pe_tup (pa_cons pe_int pa_nil))) (pa_cons pe_non pa_nil))))))))))
      (pss_one (ps_for PassesOwn.never rfl (pi_list (pe_op op_catL (pe_op op_catL (pe_op op_catL (pv 6) (pe_lc (own := [("k", 8)]) (g := gName 8) (by rfl) sc_law.nd (pi_range1 rfl T.range (pa_cons pe_int pa_nil)) (blkOk_by (own := [("k", 8)]) (N := ["script", "written", "cell", "deck", "land", "bent", "some", "thing", "k"]) (sc := defScope s_law) (by decide +kernel)) (fun _ _ _ _ _ => (pg_name (i := 8) sc_law.nd rfl (Or.inl rfl))) (fun _ _ _ _ _ => pts_nil) (fun _ _ _ _ _ => (pe_call G__law_spoilt (hr.mono (by omega)) (by rfl) T._law_spoilt.g T._law_spoilt.F.kp T._law_spoilt.b .nil pass0 (pa_cons (pv 3) (pa_cons (pv 4) pa_nil)))))) (pv 1)) (pe_lst (pa_cons (pe_call G__law_odd (hr.mono (by omega)) (by rfl) T._law_odd.g T._law_odd.F.kp T._law_odd.b .nil pass0 (pa_cons (pv 3) pa_nil)) pa_nil)))) (pg_name (i := 7) sc_law.nd rfl (Or.inl rfl))
        (pss_one (ps_if (pt_not (pt_val (pe_call G__law_same (hr.mono (by omega)) (by rfl) T._law_same.g T._law_same.F.kp T._law_same.b .nil pass0 (pa_cons (pe_call G_is_land (hr.mono (by omega)) (by rfl) T.is_land.g T.is_land.F.kp T.is_land.b .nil pass0 (pa_cons (pv 7) pa_nil)) (pa_cons (pe_call G__law_is_land (hr.mono (by omega)) (by rfl) T._law_is_land.g T._law_is_land.F.kp T._law_is_land.b .nil pass0 (pa_cons (pv 7) pa_nil)) pa_nil)))))
        (pss_one (ps_ret pe_bl))
        pss_nil)))))))))
      (pss_one (ps_ret pe_bl)))))), ?_⟩
    refine ⟨fun σ H' => ∃ p W, σ = [some (.ref a), some (.ref p), none, none, none, none, none, none, none] ∧ H' p = some (.lst W) ∧ (∀ y ∈ W, WrI H' y) ∧ W.length ≤ 6 ∧ Ex H H', ?_, ?_⟩
    · refine ⟨_, _, rfl, rfl, ⟨by decide, by decide, by decide⟩, by show 4 ≤ sizeLine; decide, fun p1 n1 => ⟨by show 4 ≤ sizeLine; decide, fun p2 n2 => ⟨by show 4 ≤ sizeLine; decide, fun p3 n3 => ⟨by show 4 ≤ sizeLine; decide, fun p4 n4 => ⟨by show 4 ≤ sizeLine; decide, fun p5 n5 => ⟨by show 4 ≤ sizeLine; decide, fun p6 n6 => ⟨by show 6 ≤ sizeLine; decide, fun l nl => ?_⟩⟩⟩⟩⟩⟩⟩
      have x7 := Ex.new (o := .lst [.ref p1, .ref p2, .ref p3, .ref p4, .ref p5, .ref p6]) nl
      have x6 := (Ex.new (o := .tup [.int 1, .int 0, .int 61, .int 0]) n6).trans x7
      have x5 := (Ex.new (o := .tup [.int 1, .int 0, .int 0, .int 0]) n5).trans x6
      have x4 := (Ex.new (o := .tup [.int 1, .int 1, .int 1, .int 0]) n4).trans x5
      have x3 := (Ex.new (o := .tup [.int 0, .int 0, .int 1, .int 0]) n3).trans x4
      have x2 := (Ex.new (o := .tup [.int 401, .int 0, .int 1, .int 0]) n2).trans x3
      have x1 := (Ex.new (o := .tup [.int 400, .int 59, .int 60, .int ((10 : Int) ^ (6 : Int).toNat)]) n1).trans x2
      refine ⟨l, _, rfl, upd_same, fun y hy => ?_, by show 6 ≤ 6; decide, x1⟩
      simp only [List.mem_cons, List.not_mem_nil, or_false] at hy
      rcases hy with rfl | rfl | rfl | rfl | rfl | rfl
      · exact ⟨p1, _, rfl, x2 _ _ upd_same, ft_ints rfl⟩
      · exact ⟨p2, _, rfl, x3 _ _ upd_same, ft_ints rfl⟩
      · exact ⟨p3, _, rfl, x4 _ _ upd_same, ft_ints rfl⟩
      · exact ⟨p4, _, rfl, x5 _ _ upd_same, ft_ints rfl⟩
      · exact ⟨p5, _, rfl, x6 _ _ upd_same, ft_ints rfl⟩
      · exact ⟨p6, _, rfl, x7 _ _ upd_same, ft_ints rfl⟩
    rintro σ H1 ⟨p, W, rfl, hp, hW, hl, e1⟩
    refine ⟨fun σ H' => ∃ p W, σ = [some (.ref a), some (.ref p), none, none, none, none, none, none, none] ∧ H' p = some (.lst W) ∧ (∀ y ∈ W, WrI H' y) ∧ W.length ≤ 10 ∧ Ex H H', ?_, ?_⟩
    · refine ⟨_, rfl, _, _, rfl, rfl, ⟨by decide, by decide, by decide⟩, _, rfl, by show 4 ≤ sizeLine; decide, fun p1 n1 => ?_⟩
      refine ⟨_, _, rfl, rfl, ⟨by decide, by decide, by decide⟩, _, rfl, _, _, rfl, rfl, by show 4 ≤ sizeLine; decide, fun p2 n2 => ?_⟩
      refine ⟨_, _, rfl, rfl, ⟨by decide, by decide, by decide⟩, _, _, rfl, rfl, by show 4 ≤ sizeLine; decide, fun p3 n3 => ?_⟩
      refine ⟨by show 0 ≤ sizeLine; decide, fun p4 n4 => ⟨by show 4 ≤ sizeLine; decide, fun l nl => ?_⟩⟩
      have x5 := Ex.new (o := .lst [.ref p1, .ref p2, .ref p3, .ref p4]) nl
      have x4 := (Ex.new (o := .tup []) n4).trans x5
      have x3 := (Ex.new (o := .tup [.int 1, .int 0, .int 1, .int ((10 : Int) ^ (6 : Int).toNat + 1)]) n3).trans x4
      have x2 := (Ex.new (o := .tup [.int 1, .int 0, .int 1, .int (-((10 : Int) ^ (6 : Int).toNat) - 1)]) n2).trans x3
      have x1 := (Ex.new (o := .tup [.int 1, .int 0, .int 1, .int (-((10 : Int) ^ (6 : Int).toNat))]) n1).trans x2
      refine ⟨p, l, W, _, rfl, rfl, sq_of (x1 _ _ hp), sq_of upd_same, sz_of (by show W.length + 4 ≤ 100000; omega), fun r nr => ?_⟩
      have xr := Ex.new (o := .lst (W ++ [.ref p1, .ref p2, .ref p3, .ref p4])) nr
      refine ⟨r, _, rfl, upd_same, fun y hy => ?_, by rw [List.length_append]; show W.length + 4 ≤ 10; omega, (e1.trans x1).trans xr⟩
      rcases (List.mem_append.mp hy : _ ∨ _) with hy | hy
      · exact ((hW y hy).ex x1).ex xr
      · simp only [List.mem_cons, List.not_mem_nil, or_false] at hy
        rcases hy with rfl | rfl | rfl | rfl
        · exact ⟨p1, _, rfl, xr _ _ (x2 _ _ upd_same), ft_ints rfl⟩
        · exact ⟨p2, _, rfl, xr _ _ (x3 _ _ upd_same), ft_ints rfl⟩
        · exact ⟨p3, _, rfl, xr _ _ (x4 _ _ upd_same), ft_ints rfl⟩
        · exact ⟨p4, _, rfl, xr _ _ (x5 _ _ upd_same), ft_ints rfl⟩
    clear hp hW hl e1
    rintro σ H1 ⟨p, W, rfl, hp, hW, hl, e1⟩
    refine ⟨fun σ H' => ∃ p W, σ = [some (.ref a), some (.ref p), none, none, none, none, none, none, none] ∧ H' p = some (.lst W) ∧ (∀ y ∈ W, WrI H' y) ∧ W.length ≤ 12 ∧ Ex H H', ?_, ?_⟩
    · refine ⟨_, rfl, 1, rfl, by show 4 ≤ sizeLine; decide, fun p1 n1 => ⟨by show 4 ≤ sizeLine; decide, fun p2 n2 => ⟨by show 2 ≤ sizeLine; decide, fun l nl => ?_⟩⟩⟩
      have x3 := Ex.new (o := .lst [.ref p1, .ref p2]) nl
      have x2 := (Ex.new (o := .tup [.bl true, .int 0, .int 1, .int 0]) n2).trans x3
      have x1 := (Ex.new (o := .tup [.int 1, .int (-1), .int 2, .int 0]) n1).trans x2
      refine ⟨p, l, W, _, rfl, rfl, sq_of (x1 _ _ hp), sq_of upd_same, sz_of (by show W.length + 2 ≤ 100000; omega), fun r nr => ?_⟩
      have xr := Ex.new (o := .lst (W ++ [.ref p1, .ref p2])) nr
      refine ⟨r, _, rfl, upd_same, fun y hy => ?_, by rw [List.length_append]; show W.length + 2 ≤ 12; omega, (e1.trans x1).trans xr⟩
      rcases (List.mem_append.mp hy : _ ∨ _) with hy | hy
      · exact ((hW y hy).ex x1).ex xr
      · simp only [List.mem_cons, List.not_mem_nil, or_false] at hy
        rcases hy with rfl | rfl
        · exact ⟨p1, _, rfl, xr _ _ (x2 _ _ upd_same), ft_ints rfl⟩
        · refine ⟨p2, _, rfl, xr _ _ (x3 _ _ upd_same), fun z hz => ?_⟩
          rcases (List.mem_cons.mp hz : _ ∨ _) with rfl | hz
          · exact ft_bl true
          · exact ft_ints (xs := [.int 0, .int 1, .int 0]) rfl z hz
    clear hp hW hl e1
    rintro σ H1 ⟨pw, W, rfl, hp, hW, hl, e1⟩
    refine ⟨by show 1 ≤ sizeLine; decide, fun p0 n0 => ?_⟩
    refine ⟨_, rfl, p0, a, _, _, rfl, rfl, sq_of upd_same, ex_l (e1.trans (Ex.new n0)) hS, ?_, fun p1 n1 => ?_⟩
    · rw [List.length_map]
      exact sz_of (by show 1 + ns.length ≤ 100000; omega)
    refine ⟨12, rfl, p1, _, rfl, sq_of upd_same, fun p2 n2 => ?_⟩
    refine ⟨p2, rfl, ⟨_, sq_of upd_same⟩, ?_⟩
    have xs3 := ((Ex.new (o := .lst [.int 0]) n0).trans (Ex.new (o := .lst ([V.int 0] ++ ns.map V.int)) n1)).trans (Ex.new (o := .lst (cutV (V.int 0 :: ns.map V.int) none (some 12))) n2)
    refine for_list (xs := cutV (V.int 0 :: ns.map V.int) none (some 12)) (fun i σ H' => (∃ y2 y3 y4 y5 y6 y7 y8, σ = [some (.ref a), some (.ref pw), y2, y3, y4, y5, y6, y7, y8]) ∧ H' p2 = some (.lst (cutV (V.int 0 :: ns.map V.int) none (some 12))) ∧ H' pw = some (.lst W) ∧ ∀ y ∈ W, WrI H' y)
      ⟨⟨_, _, _, _, _, _, _, rfl⟩, upd_same, xs3 _ _ hp, fun y hy => (hW y hy).ex xs3⟩ (fun i σ H' _ h => sq_of h.2.1) ?_ (fun σ H' _ => q H')
    rintro i x σ H2 hx ⟨⟨y2, y3, y4, y5, y6, y7, y8, rfl⟩, hp2, hpw, hW2⟩
    obtain ⟨c, rfl⟩ := cells_int hx
    generalize cutV (V.int 0 :: ns.map V.int) none (some 12) = cells at hp2 ⊢
    refine ⟨_, rfl, c, 1, rfl, fun d H3 nd e3 k3 => ?_⟩
    have c3 : Kv p2 cells pw W d H3 := ⟨e3 _ _ hp2, ne_of_none hp2 nd, e3 _ _ hpw, ne_of_none hpw nd, fun y hy => (hW2 y hy).ex e3⟩
    refine ⟨_, rfl, d, 1, rfl, k3, by omega, fun v H4 D T' B S hL e4 k4 => ?_⟩
    have c4 := c3.exd k3 e4
    refine ⟨_, rfl, _, rfl, d, v, 0, 6, rfl, hL.th k4, by omega, k4, by omega, fun u H5 hu e5 k5 => ?_⟩
    have c5 := c4.exd k4 e5
    have hL5 := e5.land k4 hL
    refine ⟨_, rfl, _, rfl, _, rfl, _, rfl, d, u, 1, 9, rfl, hu, by omega, k5, by omega, fun u2 H6 hu2 e6 k6 => ?_⟩
    have c6 := c5.exd k5 e6
    have hL6 := e6.land k5 hL5
    have hu6 := hu.exd e6
    obtain ⟨la, rfl, hla, _⟩ := id hL6
    have lad := k6.ne_tup hla
    have fla : ∀ y ∈ [V.int D, .int T', .int B, .int S], Ft y := ft_ints rfl
    refine ⟨_, rfl, la, _, rfl, st_of hla, fun r1 nr1 => ?_⟩
    have z1 := Ex.new (o := .tup [V.int D, .int T', .int B, .int S].reverse) nr1
    refine ⟨_, rfl, la, _, rfl, .inr (st_of (z1 _ _ hla)), fun r2 nr2 => ?_⟩
    have z2 := Ex.new (o := .lst [V.int D, .int T', .int B, .int S]) nr2
    have r2d := (k6.ex z1).ne_new nr2
    refine ⟨_, rfl, 3, rfl, sl_any (b := true) (xs := [V.int D, .int T', .int B, .int S]) (z2 _ _ (z1 _ _ hla)) fun r3 H9 z3 h3 _ => ?_⟩
    refine ⟨_, rfl, by show 1 ≤ sizeLine; decide, fun r4 nr4 => ?_⟩
    have z4 := Ex.new (o := .tup [V.int 0]) nr4
    refine cat_any (b := true) (xs := [V.int D, .int T', .int B, .int S]) (ys := [V.int 0]) (by show 5 ≤ sizeLine; decide) (z4 _ _ (z3 _ _ (z2 _ _ (z1 _ _ hla)))) upd_same fun r5 H11 z5 h5 _ => ?_
    refine ⟨by show 8 ≤ sizeLine; decide, fun ls nls => ?_⟩
    have z6 := Ex.new (o := .lst [.ref la, u, u2, .ref r1, .ref r2, .ref r3, .ref r5, .non]) nls
    have zz : Ex H6 _ := (z1.trans z2).trans (z3.trans (z4.trans (z5.trans z6)))
    have lsd := ((((k6.ex z1).ex z2).ex z3).ex z4 |>.ex z5).ne_new nls
    have k12 := k6.ex zz
    have c12 := c6.ex zz
    have th12 : Th 0 d _ (.ref la) := (hL6.th k6).ex zz
    have hS0 : ∀ y ∈ [V.ref la, u, u2, .ref r1, .ref r2, .ref r3, .ref r5, .non], ThP d (upd H11 ls (.lst [.ref la, u, u2, .ref r1, .ref r2, .ref r3, .ref r5, .non])) y := fun y hy => by
      simp only [List.mem_cons, List.not_mem_nil, or_false] at hy
      rcases hy with rfl | rfl | rfl | rfl | rfl | rfl | rfl | rfl
      · exact th12.thp
      · exact (hu6.ex zz).thp
      · exact (hu2.ex zz).thp
      · exact .inr (.inr ⟨r1, _, rfl, z6 _ _ (z5 _ _ (z4 _ _ (z3 _ _ (z2 _ _ upd_same)))), .inl fun y hy => fla y (List.mem_reverse.mp hy)⟩)
      · exact .inr (.inl ⟨r2, _, rfl, z6 _ _ (z5 _ _ (z4 _ _ (z3 _ _ upd_same))), r2d⟩)
      · exact .inr (.inr ⟨r3, _, rfl, z6 _ _ (z5 _ _ (z4 _ _ h3)), .inl fun y hy => fla y (cut_mem hy)⟩)
      · exact .inr (.inr ⟨r5, _, rfl, z6 _ _ h5, .inl fun y hy => by
          rcases (List.mem_append.mp hy : _ ∨ _) with hy | hy
          · exact fla y hy
          · exact ft_ints (xs := [V.int 0]) rfl y hy⟩)
      · exact .inl ⟨0, .non⟩
    have hls : upd H11 ls (.lst [.ref la, u, u2, .ref r1, .ref r2, .ref r3, .ref r5, .non]) ls = some (.lst [.ref la, u, u2, .ref r1, .ref r2, .ref r3, .ref r5, .non]) := upd_same
    clear zz z6
    revert k12 c12 th12 hS0 hls
    generalize upd H11 ls (.lst [.ref la, u, u2, .ref r1, .ref r2, .ref r3, .ref r5, .non]) = H12
    have hS8 : [V.ref la, u, u2, .ref r1, .ref r2, .ref r3, .ref r5, .non].length = 8 := rfl
    revert hS8
    generalize [V.ref la, u, u2, .ref r1, .ref r2, .ref r3, .ref r5, .non] = S0
    intro hS8 k12 c12 th12 hS0 hls
    refine ⟨_, rfl, 8, rfl, by decide, by decide, fun Dl hD => ?_⟩
    have Dd := k12.ne_new hD
    refine lc_range (lo := 0) (n := 8) (fun i H' => ∃ acc, H' Dl = some (.lst acc) ∧ acc.length = i ∧ (∀ y ∈ acc, ThP d H' y) ∧ ExD d H12 H' ∧ Dk (12 + 3 * i) H' d)
      ⟨[], upd_same, rfl, fun y hy => (by cases hy), ExD.of (Ex.new hD), k12.ex (Ex.new hD)⟩ ?_ ?_
    · rintro j H13 hj ⟨acc, hacc, hal, hat, e13, k13⟩
      refine ⟨rfl, ⟨_, rfl, _, rfl, d, _, 0, _, rfl, th12.exd e13, by omega, k13, by omega, fun y H14 hy e14 k14 => ⟨acc, e14 _ _ Dd hacc, sz_lt (by omega), acc ++ [y], upd_same, by rw [List.length_append]; show acc.length + 1 = j + 1; omega, ?_, ?_, ?_⟩⟩⟩
      · intro z hz
        rcases List.mem_append.mp hz with hz | hz
        · exact ((hat z hz).exd k13 e14).mut (e14 _ _ Dd hacc)
        · simp only [List.mem_cons, List.not_mem_nil, or_false] at hz
          subst hz
          exact hy.thp.mut (e14 _ _ Dd hacc)
      · intro b o nb hb
        rw [upd_ne (ne_of_none hb hD)]
        exact e14 _ _ nb (e13 _ _ nb hb)
      · obtain ⟨u1, u2, u3, hd, r⟩ := k14
        rw [show 12 + 3 * (j + 1) = 12 + 3 * j + 3 by omega]
        exact ⟨u1, u2, u3, by rw [upd_ne (Ne.symm Dd)]; exact hd, r⟩
    · rintro H15 ⟨acc, hacc, hal, hat, e15, k15⟩
      have c15 := c12.exd k12 e15
      have hls15 := e15 _ _ lsd hls
      have hS15 : ∀ y ∈ S0, ThP d H15 y := fun y hy => (hS0 y hy).exd k12 e15
      refine ⟨ls, Dl, S0, acc, rfl, rfl, sq_of hls15, sq_of hacc, sz_of (by omega), fun r6 nr6 => ?_⟩
      have z6 := Ex.new (o := .lst (S0 ++ acc)) nr6
      have hlW : W.length ≤ 12 := hl
      refine ⟨_, rfl, r6, pw, _, W, rfl, rfl, sq_of upd_same, sq_of (z6 _ _ c15.hq), sz_of (by rw [List.length_append]; omega), fun r7 nr7 => ?_⟩
      have z7 := Ex.new (o := .lst ((S0 ++ acc) ++ W)) nr7
      have k17 := (k15.ex z6).ex z7
      have r7d := (k15.ex z6).ne_new nr7
      refine ⟨_, rfl, d, _, rfl, k17, by omega, fun o H18 ho e18 k18 => ?_⟩
      have c18 := ((c15.ex z6).ex z7).exd k17 e18
      have h7 := e18 _ _ r7d (upd_same (a := r7) (o := .lst ((S0 ++ acc) ++ W)))
      refine ⟨by show 1 ≤ sizeLine; decide, fun r8 nr8 => ?_⟩
      have z8 := Ex.new (o := .lst [o]) nr8
      refine ⟨r7, r8, _, _, rfl, rfl, sq_of (z8 _ _ h7), sq_of upd_same, sz_of (by rw [List.length_append, List.length_append]; show _ + 1 ≤ 100000; omega), fun r9 nr9 => ?_⟩
      have z9 := Ex.new (o := .lst (((S0 ++ acc) ++ W) ++ [o])) nr9
      have c19 := (c18.ex z8).ex z9
      have hAll : ∀ y ∈ ((S0 ++ acc) ++ W) ++ [o], ThP d (upd (upd H18 r8 (.lst [o])) r9 (.lst (((S0 ++ acc) ++ W) ++ [o]))) y := fun y hy => by
        rcases (List.mem_append.mp hy : _ ∨ _) with hy | hy
        · rcases (List.mem_append.mp hy : _ ∨ _) with hy | hy
          · have : ThP d H15 y := (List.mem_append.mp hy).elim (hS15 y) (hat y)
            exact ((((this.ex z6).ex z7).exd k17 e18).ex z8).ex z9
          · exact (c19.hW y hy).thp
        · simp only [List.mem_cons, List.not_mem_nil, or_false] at hy
          subst hy
          exact (ho.ex z8).ex z9
      have h9 : upd (upd H18 r8 (.lst [o])) r9 (.lst (((S0 ++ acc) ++ W) ++ [o])) r9 = some (.lst (((S0 ++ acc) ++ W) ++ [o])) := upd_same
      clear z9
      revert c19 hAll h9
      generalize upd (upd H18 r8 (.lst [o])) r9 (.lst (((S0 ++ acc) ++ W) ++ [o])) = H19
      generalize ((S0 ++ acc) ++ W) ++ [o] = All
      intro c19 hAll h9
      refine ⟨r9, rfl, ⟨_, sq_of h9⟩, for_list (xs := All) (fun j σ H' => (∃ y7 y8, σ = [some (.ref a), some (.ref pw), some (.int c), some (.ref d), some (.ref la), some u, some (.ref ls), y7, y8]) ∧ Ex H19 H') ⟨⟨_, _, rfl⟩, Ex.refl H19⟩ (fun j σ H' _ h => sq_of (h.2 _ _ h9)) ?_ ?_⟩
      · rintro j x σ H20 hx ⟨⟨y7, y8, rfl⟩, e20⟩
        have hT := (hAll x (List.mem_of_getElem? hx)).ex e20
        obtain ⟨⟨t, dt⟩, pt⟩ := hT.dat
        refine ⟨_, rfl, x, t, rfl, dt, pt, fun H21 e21 => ⟨_, rfl, d, x, rfl, hT.ex e21, fun H22 e22 => ⟨_, _, rfl, ?_, fun H23 e23 => ⟨_, rfl, iteF ⟨⟨_, _, rfl⟩, e20.trans (e21.trans (e22.trans e23))⟩⟩⟩⟩⟩
        rw [landB_ex dt e21]
        exact .bl _
      · rintro σ H20 ⟨⟨y7, y8, rfl⟩, e20⟩
        have c20 := c19.ex e20
        exact ⟨⟨_, _, _, _, _, _, _, rfl⟩, c20.hp, c20.hq, c20.hW⟩
end

theorem all_mk {l : PySem.W.OpenLaw} {w : World} {K : PySem.W.Frag} {h : Heap} {mg : Str → Option Value} {fa : Addr} (X : K.In h) (G : h.Ns mainGlobals mg) (hfa : mg "law" = some (.ref fa))
    {f0 : Addr} {od0 an0 : Option Addr} {sl0 : Array (Option Value)} {oc0 kV0 dc0 pm0 cd0 ct0 : Value}
    (ya0 : PySem.W.nsIn K mainGlobals "is_whole" = some (some (.ref f0))) (yl0 : K.lookup f0 = some ⟨oc0, od0, .func (PySem.W.fnOf "is_whole" "is_whole" (defArgs s_is_whole) (defBody s_is_whole) (defScope s_is_whole) .none kV0 dc0 pm0 an0 cd0 ct0), sl0⟩) (yc0 : PySem.W.codeIn K cd0 "is_whole" = true) (yk0 : PySem.W.keepIn K (.ref f0) = true)
    {f1 : Addr} {od1 an1 : Option Addr} {sl1 : Array (Option Value)} {oc1 kV1 dc1 pm1 cd1 ct1 : Value}
    (ya1 : PySem.W.nsIn K mainGlobals "is_between" = some (some (.ref f1))) (yl1 : K.lookup f1 = some ⟨oc1, od1, .func (PySem.W.fnOf "is_between" "is_between" (defArgs s_is_between) (defBody s_is_between) (defScope s_is_between) .none kV1 dc1 pm1 an1 cd1 ct1), sl1⟩) (yc1 : PySem.W.codeIn K cd1 "is_between" = true) (yk1 : PySem.W.keepIn K (.ref f1) = true)
    {f2 : Addr} {od2 an2 : Option Addr} {sl2 : Array (Option Value)} {oc2 kV2 dc2 pm2 cd2 ct2 : Value}
    (ya2 : PySem.W.nsIn K mainGlobals "is_land" = some (some (.ref f2))) (yl2 : K.lookup f2 = some ⟨oc2, od2, .func (PySem.W.fnOf "is_land" "is_land" (defArgs s_is_land) (defBody s_is_land) (defScope s_is_land) .none kV2 dc2 pm2 an2 cd2 ct2), sl2⟩) (yc2 : PySem.W.codeIn K cd2 "is_land" = true) (yk2 : PySem.W.keepIn K (.ref f2) = true)
    {f3 : Addr} {od3 an3 : Option Addr} {sl3 : Array (Option Value)} {oc3 kV3 dc3 pm3 cd3 ct3 : Value}
    (ya3 : PySem.W.nsIn K mainGlobals "_law_deck" = some (some (.ref f3))) (yl3 : K.lookup f3 = some ⟨oc3, od3, .func (PySem.W.fnOf "_law_deck" "_law_deck" (defArgs s__law_deck) (defBody s__law_deck) (defScope s__law_deck) .none kV3 dc3 pm3 an3 cd3 ct3), sl3⟩) (yc3 : PySem.W.codeIn K cd3 "_law_deck" = true) (yk3 : PySem.W.keepIn K (.ref f3) = true)
    {f4 : Addr} {od4 an4 : Option Addr} {sl4 : Array (Option Value)} {oc4 kV4 dc4 pm4 cd4 ct4 : Value}
    (ya4 : PySem.W.nsIn K mainGlobals "_law_pick" = some (some (.ref f4))) (yl4 : K.lookup f4 = some ⟨oc4, od4, .func (PySem.W.fnOf "_law_pick" "_law_pick" (defArgs s__law_pick) (defBody s__law_pick) (defScope s__law_pick) .none kV4 dc4 pm4 an4 cd4 ct4), sl4⟩) (yc4 : PySem.W.codeIn K cd4 "_law_pick" = true) (yk4 : PySem.W.keepIn K (.ref f4) = true)
    {f5 : Addr} {od5 an5 : Option Addr} {sl5 : Array (Option Value)} {oc5 kV5 dc5 pm5 cd5 ct5 : Value}
    (ya5 : PySem.W.nsIn K mainGlobals "_law_whole" = some (some (.ref f5))) (yl5 : K.lookup f5 = some ⟨oc5, od5, .func (PySem.W.fnOf "_law_whole" "_law_whole" (defArgs s__law_whole) (defBody s__law_whole) (defScope s__law_whole) .none kV5 dc5 pm5 an5 cd5 ct5), sl5⟩) (yc5 : PySem.W.codeIn K cd5 "_law_whole" = true) (yk5 : PySem.W.keepIn K (.ref f5) = true)
    {f6 : Addr} {od6 an6 : Option Addr} {sl6 : Array (Option Value)} {oc6 kV6 dc6 pm6 cd6 ct6 : Value}
    (ya6 : PySem.W.nsIn K mainGlobals "_law_one" = some (some (.ref f6))) (yl6 : K.lookup f6 = some ⟨oc6, od6, .func (PySem.W.fnOf "_law_one" "_law_one" (defArgs s__law_one) (defBody s__law_one) (defScope s__law_one) .none kV6 dc6 pm6 an6 cd6 ct6), sl6⟩) (yc6 : PySem.W.codeIn K cd6 "_law_one" = true) (yk6 : PySem.W.keepIn K (.ref f6) = true)
    {f7 : Addr} {od7 an7 : Option Addr} {sl7 : Array (Option Value)} {oc7 kV7 dc7 pm7 cd7 ct7 : Value}
    (ya7 : PySem.W.nsIn K mainGlobals "_law_sort" = some (some (.ref f7))) (yl7 : K.lookup f7 = some ⟨oc7, od7, .func (PySem.W.fnOf "_law_sort" "_law_sort" (defArgs s__law_sort) (defBody s__law_sort) (defScope s__law_sort) .none kV7 dc7 pm7 an7 cd7 ct7), sl7⟩) (yc7 : PySem.W.codeIn K cd7 "_law_sort" = true) (yk7 : PySem.W.keepIn K (.ref f7) = true)
    {f8 : Addr} {od8 an8 : Option Addr} {sl8 : Array (Option Value)} {oc8 kV8 dc8 pm8 cd8 ct8 : Value}
    (ya8 : PySem.W.nsIn K mainGlobals "_law_same" = some (some (.ref f8))) (yl8 : K.lookup f8 = some ⟨oc8, od8, .func (PySem.W.fnOf "_law_same" "_law_same" (defArgs s__law_same) (defBody s__law_same) (defScope s__law_same) .none kV8 dc8 pm8 an8 cd8 ct8), sl8⟩) (yc8 : PySem.W.codeIn K cd8 "_law_same" = true) (yk8 : PySem.W.keepIn K (.ref f8) = true)
    {f9 : Addr} {od9 an9 : Option Addr} {sl9 : Array (Option Value)} {oc9 kV9 dc9 pm9 cd9 ct9 : Value}
    (ya9 : PySem.W.nsIn K mainGlobals "_law_odd" = some (some (.ref f9))) (yl9 : K.lookup f9 = some ⟨oc9, od9, .func (PySem.W.fnOf "_law_odd" "_law_odd" (defArgs s__law_odd) (defBody s__law_odd) (defScope s__law_odd) .none kV9 dc9 pm9 an9 cd9 ct9), sl9⟩) (yc9 : PySem.W.codeIn K cd9 "_law_odd" = true) (yk9 : PySem.W.keepIn K (.ref f9) = true)
    {f10 : Addr} {od10 an10 : Option Addr} {sl10 : Array (Option Value)} {oc10 kV10 dc10 pm10 cd10 ct10 : Value}
    (ya10 : PySem.W.nsIn K mainGlobals "_law_spoilt" = some (some (.ref f10))) (yl10 : K.lookup f10 = some ⟨oc10, od10, .func (PySem.W.fnOf "_law_spoilt" "_law_spoilt" (defArgs s__law_spoilt) (defBody s__law_spoilt) (defScope s__law_spoilt) .none kV10 dc10 pm10 an10 cd10 ct10), sl10⟩) (yc10 : PySem.W.codeIn K cd10 "_law_spoilt" = true) (yk10 : PySem.W.keepIn K (.ref f10) = true)
    {f11 : Addr} {od11 an11 : Option Addr} {sl11 : Array (Option Value)} {oc11 kV11 dc11 pm11 cd11 ct11 : Value}
    (ya11 : PySem.W.nsIn K mainGlobals "_law_land" = some (some (.ref f11))) (yl11 : K.lookup f11 = some ⟨oc11, od11, .func (PySem.W.fnOf "_law_land" "_law_land" (defArgs s__law_land) (defBody s__law_land) (defScope s__law_land) .none kV11 dc11 pm11 an11 cd11 ct11), sl11⟩) (yc11 : PySem.W.codeIn K cd11 "_law_land" = true) (yk11 : PySem.W.keepIn K (.ref f11) = true)
    {f12 : Addr} {od12 an12 : Option Addr} {sl12 : Array (Option Value)} {oc12 kV12 dc12 pm12 cd12 ct12 : Value}
    (ya12 : PySem.W.nsIn K mainGlobals "_law_any" = some (some (.ref f12))) (yl12 : K.lookup f12 = some ⟨oc12, od12, .func (PySem.W.fnOf "_law_any" "_law_any" (defArgs s__law_any) (defBody s__law_any) (defScope s__law_any) .none kV12 dc12 pm12 an12 cd12 ct12), sl12⟩) (yc12 : PySem.W.codeIn K cd12 "_law_any" = true) (yk12 : PySem.W.keepIn K (.ref f12) = true)
    {f13 : Addr} {od13 an13 : Option Addr} {sl13 : Array (Option Value)} {oc13 kV13 dc13 pm13 cd13 ct13 : Value}
    (ya13 : PySem.W.nsIn K mainGlobals "_law_is_land" = some (some (.ref f13))) (yl13 : K.lookup f13 = some ⟨oc13, od13, .func (PySem.W.fnOf "_law_is_land" "_law_is_land" (defArgs s__law_is_land) (defBody s__law_is_land) (defScope s__law_is_land) .none kV13 dc13 pm13 an13 cd13 ct13), sl13⟩) (yc13 : PySem.W.codeIn K cd13 "_law_is_land" = true) (yk13 : PySem.W.keepIn K (.ref f13) = true)
    {f14 : Addr} {od14 an14 : Option Addr} {sl14 : Array (Option Value)} {oc14 kV14 dc14 pm14 cd14 ct14 : Value}
    (ya14 : PySem.W.nsIn K mainGlobals "law" = some (some (.ref f14))) (yl14 : K.lookup f14 = some ⟨oc14, od14, .func (PySem.W.fnOf "law" "law" (defArgs s_law) (defBody s_law) (defScope s_law) .none kV14 dc14 pm14 an14 cd14 ct14), sl14⟩) (yc14 : PySem.W.codeIn K cd14 "law" = true) (yk14 : PySem.W.keepIn K (.ref f14) = true)
    {tk0 : Tok} (ycst0 : PySem.W.nsIn K mainGlobals "MOST_DAYS" = some (some (.int 400 tk0)))
    {tk1 : Tok} (ycst1 : PySem.W.nsIn K mainGlobals "MOST_BOTTOM" = some (some (.int 60 tk1)))
    {tk2 : Tok} (ycst2 : PySem.W.nsIn K mainGlobals "MOST_SHIFT" = some (some (.int 1000000 tk2)))
    (yz0 : PySem.W.nsIn K mainGlobals "isinstance" = some none)
    (yz1 : PySem.W.nsIn K mainGlobals "int" = some none)
    (yz2 : PySem.W.nsIn K mainGlobals "bool" = some none)
    (yz3 : PySem.W.nsIn K mainGlobals "tuple" = some none)
    (yz4 : PySem.W.nsIn K mainGlobals "len" = some none)
    (yz5 : PySem.W.nsIn K mainGlobals "str" = some none)
    (yz6 : PySem.W.nsIn K mainGlobals "list" = some none)
    (yz7 : PySem.W.nsIn K mainGlobals "enumerate" = some none)
    (yz8 : PySem.W.nsIn K mainGlobals "range" = some none)
    : ∃ fd : FuncData, (∀ (s : Shared) (v : Value), BindsTo s fd ⟨[v], []⟩ [("script", v)]) ∧ ∀ base : Heap, K.In base → base.Ns mainGlobals mg → FnOk l.prog w K mg base CX0 4 fa fd ["script"] (spLaw K) := by
  have e := hfa.symm.trans (PySem.W.mg_of X G ya14)
  cases e
  have F0 := fun_mk (st := s_is_whole) yl0 yc0 yk0
  have b0 := F0.binds (ps := ["thing"]) fun _ _ _ _ _ _ us hl => match us, hl with | [_], _ => rfl
  have F1 := fun_mk (st := s_is_between) yl1 yc1 yk1
  have b1 := F1.binds (ps := ["thing", "least", "most"]) fun _ _ _ _ _ _ us hl => match us, hl with | [_, _, _], _ => rfl
  have F2 := fun_mk (st := s_is_land) yl2 yc2 yk2
  have b2 := F2.binds (ps := ["thing"]) fun _ _ _ _ _ _ us hl => match us, hl with | [_], _ => rfl
  have F3 := fun_mk (st := s__law_deck) yl3 yc3 yk3
  have b3 := F3.binds (ps := ["cell", "turn"]) fun _ _ _ _ _ _ us hl => match us, hl with | [_, _], _ => rfl
  have F4 := fun_mk (st := s__law_pick) yl4 yc4 yk4
  have b4 := F4.binds (ps := ["deck", "size"]) fun _ _ _ _ _ _ us hl => match us, hl with | [_, _], _ => rfl
  have F5 := fun_mk (st := s__law_whole) yl5 yc5 yk5
  have b5 := F5.binds (ps := ["thing"]) fun _ _ _ _ _ _ us hl => match us, hl with | [_], _ => rfl
  have F6 := fun_mk (st := s__law_one) yl6 yc6 yk6
  have b6 := F6.binds (ps := ["deck", "some"]) fun _ _ _ _ _ _ us hl => match us, hl with | [_, _], _ => rfl
  have F7 := fun_mk (st := s__law_sort) yl7 yc7 yk7
  have b7 := F7.binds (ps := ["thing"]) fun _ _ _ _ _ _ us hl => match us, hl with | [_], _ => rfl
  have F8 := fun_mk (st := s__law_same) yl8 yc8 yk8
  have b8 := F8.binds (ps := ["told", "due"]) fun _ _ _ _ _ _ us hl => match us, hl with | [_, _], _ => rfl
  have F9 := fun_mk (st := s__law_odd) yl9 yc9 yk9
  have b9 := F9.binds (ps := ["deck"]) fun _ _ _ _ _ _ us hl => match us, hl with | [_], _ => rfl
  have F10 := fun_mk (st := s__law_spoilt) yl10 yc10 yk10
  have b10 := F10.binds (ps := ["deck", "thing"]) fun _ _ _ _ _ _ us hl => match us, hl with | [_, _], _ => rfl
  have F11 := fun_mk (st := s__law_land) yl11 yc11 yk11
  have b11 := F11.binds (ps := ["deck", "long_so", "bottoms", "shifts"]) fun _ _ _ _ _ _ us hl => match us, hl with | [_, _, _, _], _ => rfl
  have F12 := fun_mk (st := s__law_any) yl12 yc12 yk12
  have b12 := F12.binds (ps := ["deck"]) fun _ _ _ _ _ _ us hl => match us, hl with | [_], _ => rfl
  have F13 := fun_mk (st := s__law_is_land) yl13 yc13 yk13
  have b13 := F13.binds (ps := ["thing"]) fun _ _ _ _ _ _ us hl => match us, hl with | [_], _ => rfl
  have FL := fun_mk (st := s_law) yl14 yc14 yk14
  let T : Txt K mg := { is_whole := ⟨_, _, F0, b0, PySem.W.mg_of X G ya0⟩, is_between := ⟨_, _, F1, b1, PySem.W.mg_of X G ya1⟩, is_land := ⟨_, _, F2, b2, PySem.W.mg_of X G ya2⟩, _law_deck := ⟨_, _, F3, b3, PySem.W.mg_of X G ya3⟩, _law_pick := ⟨_, _, F4, b4, PySem.W.mg_of X G ya4⟩, _law_whole := ⟨_, _, F5, b5, PySem.W.mg_of X G ya5⟩, _law_one := ⟨_, _, F6, b6, PySem.W.mg_of X G ya6⟩, _law_sort := ⟨_, _, F7, b7, PySem.W.mg_of X G ya7⟩, _law_same := ⟨_, _, F8, b8, PySem.W.mg_of X G ya8⟩, _law_odd := ⟨_, _, F9, b9, PySem.W.mg_of X G ya9⟩, _law_spoilt := ⟨_, _, F10, b10, PySem.W.mg_of X G ya10⟩, _law_land := ⟨_, _, F11, b11, PySem.W.mg_of X G ya11⟩, _law_any := ⟨_, _, F12, b12, PySem.W.mg_of X G ya12⟩, _law_is_land := ⟨_, _, F13, b13, PySem.W.mg_of X G ya13⟩, t_MOST_DAYS := _, c_MOST_DAYS := PySem.W.mg_of X G ycst0, t_MOST_BOTTOM := _, c_MOST_BOTTOM := PySem.W.mg_of X G ycst1, t_MOST_SHIFT := _, c_MOST_SHIFT := PySem.W.mg_of X G ycst2, isinstance := PySem.W.mg_none_of X G yz0, b_int := PySem.W.mg_none_of X G yz1, b_bool := PySem.W.mg_none_of X G yz2, tuple := PySem.W.mg_none_of X G yz3, len := PySem.W.mg_none_of X G yz4, str := PySem.W.mg_none_of X G yz5, b_list := PySem.W.mg_none_of X G yz6, enumerate := PySem.W.mg_none_of X G yz7, range := PySem.W.mg_none_of X G yz8 }
  exact ⟨PySem.W.fnOf "law" "law" (defArgs s_law) (defBody s_law) (defScope s_law) .none kV14 dc14 pm14 an14 cd14 ct14, fun s v => .of_eq rfl, fun base _ _ => ok_law T FL⟩
end LY
open PySem PySem.W PyProof.Rows
set_option maxHeartbeats 0 in
theorem PySem.Challenge.cw_longyears_k01_lands_holds : PySem.Challenge.rw_longyears_k01_lands.Holds := by
  w_on; o_law; k_head; (case hw => w_witness2)
  k_fill
  refine L2.walk_of (l := PySem.Challenge.rw_longyears_k01_lands) (n := 63) (k := 4) (x := "script") (CX := fun _ => L2.CX0) (sp := fun w => LY.spLaw _) rfl (by decide) rfl ⟨rfl, by decide, by decide⟩ (fun w h Y => PySem.W.kIn_of Y) ?F (fun _ _ a ns hl _ hS => ⟨a, ns, rfl, hS, hl, fun _ => rfl⟩) (fun _ _ _ _ _ h => h)
  case F =>
    intro w mg fa h KX G hmg
    refine' LY.all_mk KX G hmg ?ya0 ?yl0 ?yc0 ?yk0 ?ya1 ?yl1 ?yc1 ?yk1 ?ya2 ?yl2 ?yc2 ?yk2 ?ya3 ?yl3 ?yc3 ?yk3 ?ya4 ?yl4 ?yc4 ?yk4 ?ya5 ?yl5 ?yc5 ?yk5 ?ya6 ?yl6 ?yc6 ?yk6 ?ya7 ?yl7 ?yc7 ?yk7 ?ya8 ?yl8 ?yc8 ?yk8 ?ya9 ?yl9 ?yc9 ?yk9 ?ya10 ?yl10 ?yc10 ?yk10 ?ya11 ?yl11 ?yc11 ?yk11 ?ya12 ?yl12 ?yc12 ?yk12 ?ya13 ?yl13 ?yc13 ?yk13 ?ya14 ?yl14 ?yc14 ?yk14 ?ycst0 ?ycst1 ?ycst2 ?yz0 ?yz1 ?yz2 ?yz3 ?yz4 ?yz5 ?yz6 ?yz7 ?yz8
    (case ya0 => k_is)
    (case yl0 => k_is)
    (case yc0 => k_is)
    (case yk0 => k_is)
    (case ya1 => k_is)
    (case yl1 => k_is)
    (case yc1 => k_is)
    (case yk1 => k_is)
    (case ya2 => k_is)
    (case yl2 => k_is)
    (case yc2 => k_is)
    (case yk2 => k_is)
    (case ya3 => k_is)
    (case yl3 => k_is)
    (case yc3 => k_is)
    (case yk3 => k_is)
    (case ya4 => k_is)
    (case yl4 => k_is)
    (case yc4 => k_is)
    (case yk4 => k_is)
    (case ya5 => k_is)
    (case yl5 => k_is)
    (case yc5 => k_is)
    (case yk5 => k_is)
    (case ya6 => k_is)
    (case yl6 => k_is)
    (case yc6 => k_is)
    (case yk6 => k_is)
    (case ya7 => k_is)
    (case yl7 => k_is)
    (case yc7 => k_is)
    (case yk7 => k_is)
    (case ya8 => k_is)
    (case yl8 => k_is)
    (case yc8 => k_is)
    (case yk8 => k_is)
    (case ya9 => k_is)
    (case yl9 => k_is)
    (case yc9 => k_is)
    (case yk9 => k_is)
    (case ya10 => k_is)
    (case yl10 => k_is)
    (case yc10 => k_is)
    (case yk10 => k_is)
    (case ya11 => k_is)
    (case yl11 => k_is)
    (case yc11 => k_is)
    (case yk11 => k_is)
    (case ya12 => k_is)
    (case yl12 => k_is)
    (case yc12 => k_is)
    (case yk12 => k_is)
    (case ya13 => k_is)
    (case yl13 => k_is)
    (case yc13 => k_is)
    (case yk13 => k_is)
    (case ya14 => k_is)
    (case yl14 => k_is)
    (case yc14 => k_is)
    (case yk14 => k_is)
    (case ycst0 => k_is)
    (case ycst1 => k_is)
    (case ycst2 => k_is)
    (case yz0 => k_is)
    (case yz1 => k_is)
    (case yz2 => k_is)
    (case yz3 => k_is)
    (case yz4 => k_is)
    (case yz5 => k_is)
    (case yz6 => k_is)
    (case yz7 => k_is)
    (case yz8 => k_is)
