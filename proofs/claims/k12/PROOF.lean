import PyProof.Rows.All
import Wide.All
import OpenK.AllK
import Wide.FinOn
import HandS.ForMost
import HandS.IsInst
import HandS.Wide
import HandS.Evl
import HandS.TupAny
import HandS.Style
import HandS.Walk
import HandS.WideBits
import HandS.Conv
import HandS.SortKw
import KE.DataMinMax
import HandS.Comp
import HandS.SetFor
import HandS.SortInts
import HandS.Strs
import KE.GoesMore
import PyProof.LongRange
import HandS.Lambda
import HandS.EndTab
import HandS.HotCalls
import HandS.ExcIs
import HandS.ExcOwn
import HandS.Zip
import HandS.ExcCtx
import KE.GoesZip
import KE.GoesComp
import KE.GoesEnum
import KE.GoesNew
import HandS.TupSets
import HandS.Deep
import HandS.TupMul
import PySem.Challenge.RW_longyears_k12_what_is_refused
set_option Elab.async false
set_option linter.all false
set_option maxRecDepth 100000
set_option maxHeartbeats 4200000
namespace LY
open PySem PySem.Spec PyProof.Rows L2 Evl

/-! ### own bridges: whatever the library walks, as something that a loop of the hand layer walks -/
/-- n values f 0, f 1, .., the heap left alone -/
def ItF (n : Nat) (f : Nat → V) : It where
  go i _ := i < n
  yld i H x H' := H' = H ∧ x = f i
  stop i _ := i = n
theorem walk_itF {n : Nat} {f : Nat → V} : Walk (ItF n f) n (fun _ => True) (YFn f) :=
  { goes := fun _ _ h _ => h, stops := fun _ _ => rfl, yields := fun _ _ _ _ _ _ y => y }
/-- one record that the walk turns, which keeps no tuple of its own -/
def Lone (St : Nat → Heap → Prop) (it : Addr) : Prop := ∀ i h, St i h → ∃ (o : Obj) (c : String) (vs : Array Value), h.get? it = some o ∧ o.cls = .type c ∧ o.data = .fields vs ∧
  ["enumerate", "zip", "dict_itemiterator", "dict_reverseitemiterator", "odict_iterator", "itertools.zip_longest", "itertools.pairwise"].contains c = false
theorem turn_lone {P : Program} {w : World} {K : PySem.W.Frag} {tg : Expr} {it : Addr} {n : Nat} {f : Nat → V} {Pv : Nat → Value → Prop} {St : Nat → Heap → Prop}
    (W : ∀ A : Around, A.handled = none → Walks P w A it [it] [it] n Pv St) (hv : ∀ i v, Pv i v → RelV (f i) v) (lone : Lone St it)
    (self : ∀ (A : Around) i (s : Shared) Q E, St i s.heap → Q (.ref it) s → wpAny (model P w) A (pyIter (.ref it)) Q E s) : Turn P w K tg (ItF n f) [it] it St := by
  have one : ∀ {b : Addr}, b ∈ [it] → b = it := fun hb => List.mem_singleton.mp hb
  refine { mem := List.mem_singleton.mpr rfl, obj := ?o, keep := ?k, item := ?i, done := ?d, self := ?s }
  case o =>
    rintro i h st b hb
    obtain ⟨o, c, vs, g1, _, g3, _⟩ := lone i h st
    exact ⟨o, one hb ▸ g1, fun v z => by rw [g3] at z; exact Data.noConfusion z⟩
  case k =>
    intro i h h' st kp
    exact (W { callerA with handled := none } rfl).frame i h h' st kp
  case i =>
    rintro X rfl rfl rfl calm i pins s σ H E I fp st lt
    have a := fp it (List.mem_singleton.mpr rfl)
    refine (W X.A (I.ok.hd calm)).item i s _ _ lt st fun v h2 tk pv st2 kp => ⟨v, rfl, ?_⟩
    obtain ⟨o, c, vs, g1, g2, g3, g4⟩ := lone _ _ st2
    exact go_of (s := { s with heap := h2, toks := tk }) g1 g2 g3 g4 ⟨f i, H, I.turned (fun b u hb e => kp b u (fun z => hb (one z)) e) a.1 a.2.1 a.2.2.2.1 a.2.2.2.2.1 a.2.2.2.2.2, hv i v pv, ⟨rfl, rfl⟩, st2, fun b hb => (fp b hb).1⟩
  case d =>
    rintro X rfl rfl rfl calm i pins s σ H E I fp st rfl
    have a := fp it (List.mem_singleton.mpr rfl)
    exact (W X.A (I.ok.hd calm)).done s _ _ st fun h2 tk kp => ⟨rfl, I.turned (fun b u hb e => kp b u (fun z => hb (one z)) e) a.1 a.2.1 a.2.2.2.1 a.2.2.2.2.1 a.2.2.2.2.2⟩
  case s => exact self
section
variable {X : Cx} {tg : Expr}
/-- range(a, b), whatever the size: the small iterator or the long one -/
def iSpan (ta : TA) : TI := fun σ H R => ta σ H fun vs H1 => ∃ a b : Int, vs = [.int a, .int b] ∧ R (ItF (b - a).toNat fun i => .int (a + i)) H1
theorem span_count (a b : Int) : ((b - a).toNat : Int) = Builtin.Range.rangeSize a b 1 := by
  rw [rangeSize_one]
  split
  · omega
  · omega
theorem span_start {pins : List (Addr × Obj)} {σ : L2.St} {H : Hp} {s : Shared} {R : It → Hp → Prop} {E : Value → Shared → Prop} {a b : Int} {t u v : Tok} {tk : Nat} (I : Inv X pins σ H s) (q : R (ItF (b - a).toNat fun i => .int (a + i)) H) :
    wpAny (model X.prog X.w) X.A (pyIter (.ref s.heap.objs.size)) (PIE X pins σ tg R) E { s with heap := s.heap.push { cls := .type "range", data := .fields #[.int a t, .int b u, .int 1 v] }, toks := tk } := by
  generalize hr : ({ cls := .type "range", data := .fields #[.int a t, .int b u, .int 1 v] } : Obj) = rg
  have J : Inv X pins σ H { s with heap := s.heap.push rg, toks := tk } := I.kept fun _ _ => Heap.get?_push_of_some _
  have rng : IsRange (s.heap.push rg) s.heap.objs.size a b 1 t u v := by
    subst hr
    exact IsRange.new ..
  have at0 : a + ((0 : Nat) : Int) * 1 = a := by omega
  have left : ((b - a).toNat : Int) - ((0 : Nat) : Int) = Builtin.Range.rangeSize a b 1 := by
    have := span_count a b
    omega
  have val : ∀ (i : Nat) (x : Value), (∃ t, x = .int (a + i * 1) t) → RelV (.int (a + i)) x := fun i x ⟨t, e⟩ => ⟨t, by rw [e, Int.mul_one]⟩
  have mine : ∀ c ∈ [(s.heap.push rg).objs.size], FpOk X pins H c := fun c hc => by
    rw [List.mem_singleton.mp hc]
    exact J.fpOk (Nat.le_refl _) (J.hok.fresh (Nat.le_refl _))
  cases sm : Builtin.Range.small a b 1
  · refine wpAny_pyIter_longrange (s := { s with heap := s.heap.push rg, toks := tk }) rng sm ⟨_, [_], _, _, H, rfl, J.kept (t' := tk) fun _ _ => Heap.get?_push_of_some _, turn_lone (fun A hA => Walks.longrange hA _ a 1 _) val (fun i h st => ⟨_, "longrange_iterator", _, st, rfl, rfl, rfl⟩) (fun A i s' Q E' st h => wpAny_pyIter_longiter st h), ?_, mine, q⟩
    show IsLongIter _ _ _ _ _
    rw [at0, left]
    apply Heap.get?_push_size
    rfl
  · refine wpAny_pyIter_range (s := { s with heap := s.heap.push rg, toks := tk }) rng sm ⟨_, [_], _, _, H, rfl, J.kept (t' := tk) fun _ _ => Heap.get?_push_of_some _, turn_lone (fun A hA => Walks.range hA _ a 1 _) val (fun i h st => ⟨_, "range_iterator", _, st, rfl, rfl, rfl⟩) (fun A i s' Q E' st h => wpAny_pyIter_rangeiter st h), ?_, mine, q⟩
    show IsRangeIter _ _ _ _ _
    rw [at0, left]
    apply Heap.get?_push_size
    rfl
theorem pi_span {a b : Expr} {ta : TA} {p pos : Pos} (gl : Gl X "range") (no : X.mg "range" = none) (args : PA X [a, b] ta) (two : starEach [a, b] X.env = [(false, eval a X.env), (false, eval b X.env)] := by rfl) (last : starEach [b] X.env = [(false, eval b X.env)] := by rfl) :
    PI X tg (.Call (.Name "range" p) [a, b] [] pos) (iSpan ta) := by
  constructor
  intro pins s σ H R I h
  have run := args.run pos pins s σ H _ I h
  refine Call_ (ld_blt I gl no boot_range (PyProof.Rows.callWith_type1 (thn run fun us s1 got => ?_) (by rw [two, last]) (by rw [last]; rfl)))
  obtain ⟨vs, H1, I1, rel, x, y, rfl, q⟩ := got
  obtain ⟨u1, u2, rfl, ⟨t1, rfl⟩, ⟨t2, rfl⟩⟩ := vals2 rel
  exact call_range_2 (span_start I1 q)
end

/-! ### enumerate of a tracked tuple, by the library's WalksT -/
/-- pairs (i, the i-th of xs), each new -/
def ItP (xs : List V) (t : Addr) : It where
  go i H := i < xs.length ∧ H t = some (.tup xs)
  yld i H v H' := ∃ p x, v = .ref p ∧ H p = none ∧ H' = upd H p (.tup [.int (i : Nat), x]) ∧ xs[i]? = some x
  stop i H := i = xs.length ∧ H t = some (.tup xs)
theorem walk_itP {xs : List V} {t : Addr} : Walk (ItP xs t) xs.length (fun H => H t = some (.tup xs)) (YPair (fun i => some (.int (i : Nat))) (fun i => xs[i]?)) :=
  { goes := fun _ _ h k => ⟨h, k⟩, stops := fun _ k => ⟨rfl, k⟩, yields := fun i _ _ _ _ _ ⟨p, x, h1, h2, h3, h4⟩ => ⟨p, .int (i : Nat), x, h1, h2, h3, rfl, h4⟩ }
theorem turn_pairs {P : Program} {w : World} {K : PySem.W.Frag} {elts : List Expr} {kk : Nat} {tpos : Pos} {xs : List V} {t e it : Addr} (ne : e ≠ it) :
    Turn P w K (.Tuple elts kk tpos) (ItP xs t) [e, it] e (fun i h => (∃ old, IsEnum h e it i old) ∧ h.IsTupleIter it t i) := by
  have me : e ∈ [e, it] := List.mem_cons_self ..
  have mi : it ∈ [e, it] := List.mem_cons_of_mem _ (List.mem_singleton.mpr rfl)
  refine { mem := me, obj := ?o, keep := ?k, item := ?i, done := ?d, self := ?s }
  case o =>
    rintro i h ⟨⟨old, he⟩, o, ho, hc, hd⟩ b hb
    refine (List.mem_cons.mp hb).elim (fun z => ?_) (fun z => ?_)
    · exact ⟨_, z ▸ he, fun v y => Data.noConfusion y⟩
    · exact ⟨o, List.mem_singleton.mp z ▸ ho, fun v y => by rw [hd] at y; exact Data.noConfusion y⟩
  case k => exact fun i h h' st kp => ⟨st.1.imp fun old he => kp e me _ he, st.2.at fun o g => kp it mi o g⟩
  case i =>
    rintro X rfl rfl rfl calm i pins s σ H E I fp ⟨en, ti⟩ ⟨lt, ht⟩
    obtain ⟨its, rel, tup, _⟩ := I.tuple (st_of ht)
    have te : t ≠ e := ne_of_none ht (fp e me).1
    have tt : t ≠ it := ne_of_none ht (fp it mi).1
    have size : its.toArray.size = xs.length := by rw [List.size_toArray, rel.length]
    have D := Draws.tuple (prog := X.prog) (w := X.w) (A := X.A.in1) (show X.A.in1.handled = none from I.ok.hd calm) it t tt its.toArray
    have W := WalksT.enumerateD D e ne (by simp [ne, Ne.symm te]) (by simp)
    obtain ⟨u, hu, ru⟩ := rel.get (List.getElem?_eq_getElem lt)
    refine W.item i s _ _ (by omega) ⟨en, ti, tup⟩ fun p vals h2 tk pv big isT mid kp => ⟨_, rfl, W.go elts kk tpos i p _ _ _ mid fun h3 st3 kp3 => ?_⟩
    obtain ⟨tok, y, hy, rfl⟩ := pv
    have same : y = u := Option.some.inj (hy.symm.trans (by simpa using hu))
    subst same
    have pf := W.apart i p h2 mid
    have isT3 : IsTup h3 p #[.int i tok, y] := isT.at fun o g => kp3 p o pf g
    have fresh : H p = none := I.hok.fresh big
    have J : Inv X pins σ (upd H p (.tup [.int (i : Nat), xs[i]])) { s with heap := h3, toks := tk } :=
      I.turnedNew (ch := [e, it]) (fun b o hb g => kp3 b o hb (kp b o hb g)) fp big ⟨by show 2 ≤ sizeLine; decide, [.int i tok, y], .cons ⟨tok, rfl⟩ (.cons ru .nil), isT3⟩
    refine ⟨.ref p, _, J, rfl, ⟨p, xs[i], rfl, fresh, rfl, List.getElem?_eq_getElem lt⟩, ⟨st3.1, st3.2.1⟩, fun b hb => ?_⟩
    have bp : b ≠ p := fun z => pf (z ▸ hb)
    rw [upd_ne bp]
    exact (fp b hb).1
  case d =>
    rintro X rfl rfl rfl calm i pins s σ H E I fp ⟨⟨old, he⟩, ti⟩ ⟨rfl, ht⟩
    obtain ⟨its, rel, tup, _⟩ := I.tuple (st_of ht)
    have size : xs.length = its.toArray.size := by rw [List.size_toArray, rel.length]
    rw [size] at he ti
    have tt : t ≠ it := ne_of_none ht (fp it mi).1
    have f := fp it mi
    exact wpAny_pyNext_enum_endD (Draws.tuple (show X.A.in1.handled = none from I.ok.hd calm) it t tt its.toArray) he ⟨ti, tup⟩ fun h2 kp => ⟨rfl, I.turned (t' := s.toks) kp f.1 f.2.1 f.2.2.2.1 f.2.2.2.2.1 f.2.2.2.2.2⟩
  case s => exact fun A i s Q E st h => st.1.elim fun _ he => wpAny_pyIter_enum he h

/-! ### enumerate(v) begun: over whatever the library says how iter(v) begins -/
def enumOf (it : Addr) : Obj := { cls := .type "enumerate", data := .fields #[.none, .bool false, .ref it, rawInt 0, .none, .none] }
theorem enum_made {v : Value} {o : Obj} {Hv : Heap → Prop} (B : Begins v o Hv) :
    Meets (Builtin.«enumerate.__new__» ⟨[.type "enumerate", v], []⟩) (fun _ R s => Hv s.heap ∧ R (.ok (.ret (.ref (s.heap.push o).objs.size))) { s with heap := (s.heap.push o).push (enumOf s.heap.objs.size) }) := by
  refine .of_wp fun prog w A R s hyp => ?_
  have sub := sub_enumerate
  rcases s with ⟨hp, gn, dr, tk, os⟩
  rcases hyp with ⟨hv, goal⟩
  have begun := fun (A' : Around) (E : Value → Shared → Prop) (Q : Value → Shared → Prop) => B.iter prog w A' E ⟨hp, gn, dr, tk, os⟩ Q hv
  wp_walk
  refine wpAny_stack_any fun _ => ?_
  refine wpAny_pure ?_
  split
  case _ c _ _ _ _ _ =>
    generalize (c == Value.type "enumerate") = same
    cases same
    all_goals wp_walk using begun
    all_goals exact ⟨_, rfl, goal⟩
  case _ =>
    wp_walk using begun
    exact ⟨_, rfl, goal⟩
theorem enum_call {prog : Program} {w : World} {A : Around} {E : Value → Shared → Prop} {s : Shared} {v : Value} {o : Obj} {Hv : Heap → Prop} {Q : Value → Shared → Prop} (B : Begins v o Hv) (hv : Hv s.heap)
    (q : IsEnum ((s.heap.push o).push (enumOf s.heap.objs.size)) (s.heap.objs.size + 1) s.heap.objs.size 0 .none → Q (.ref (s.heap.objs.size + 1)) { s with heap := (s.heap.push o).push (enumOf s.heap.objs.size) }) :
    wpAny (model prog w) A (call (.type "enumerate") [v]) Q E s := by
  have next : (s.heap.push o).objs.size = s.heap.objs.size + 1 := Heap.size_push ..
  have en : IsEnum ((s.heap.push o).push (enumOf s.heap.objs.size)) (s.heap.objs.size + 1) s.heap.objs.size 0 .none := next ▸ Heap.get?_push_size (s.heap.push o) rfl
  refine callType_new F.called_enumerate (by decide) (F.typeCall_enumerate_1 v) (F.newCall_enumerate_1 v) (fun x => F.args_object_init_2 x v) F.entry_enumerate_new (enum_made B) ⟨hv, ?_⟩
  rw [next]
  exact ⟨⟨_, en, rfl⟩, q en⟩
/-- enumerate of a list that is read, or of a tracked tuple -/
def iEnumS (K : PySem.W.Frag) (ta : TA) : TI := fun σ H R => ta σ H fun vs H1 => ∃ t xs, vs = [.ref t] ∧ ((SqL K H1 t xs ∧ R (Ite K t) H1) ∨ (H1 t = some (.tup xs) ∧ R (ItP xs t) H1))
theorem pi_enumS {X : Cx} {e : Expr} {ta : TA} {p pos tpos : Pos} {elts : List Expr} {kk : Nat} (gl : Gl X "enumerate") (no : X.mg "enumerate" = none) (arg : PA X [e] ta) (one : starEach [e] X.env = [(false, eval e X.env)] := by rfl) :
    PI X (.Tuple elts kk tpos) (.Call (.Name "enumerate" p) [e] [] pos) (iEnumS X.K ta) := by
  constructor
  intro pins s σ H R I h
  have run := arg.run pos pins s σ H _ I h
  refine Call_ (ld_blt I gl no boot_enumerate (PyProof.Rows.callWith_type1 (thn run fun us s1 got => ?_) one rfl))
  obtain ⟨vs, H1, I1, rel, t, xs, rfl, q⟩ := got
  obtain ⟨u, rfl, ru⟩ := vals1 rel
  obtain rfl : u = .ref t := ru
  have mine : ∀ c ∈ [s1.heap.objs.size + 1, s1.heap.objs.size], FpOk X pins H1 c := fun c hc => by
    have le : s1.heap.objs.size ≤ c := by
      simp only [List.mem_cons, List.not_mem_nil, or_false] at hc
      omega
    exact I1.fpOk le (I1.hok.fresh le)
  have grow : ∀ (a b : Obj) (c : Addr) (o : Obj), s1.heap.get? c = some o → ((s1.heap.push a).push b).get? c = some o := fun a b c o g => Heap.get?_push_of_some b (Heap.get?_push_of_some a g)
  have first : ∀ a b : Obj, a.isFreed = false → ((s1.heap.push a).push b).get? s1.heap.objs.size = some a := fun a b fr => Heap.get?_push_of_some b (Heap.get?_push_size _ fr)
  rcases q with ⟨hl, q⟩ | ⟨ht, q⟩
  · obtain ⟨its, _, pl, _⟩ := I1.list hl
    refine enum_call (begins_list t its.toArray) pl.isList fun en => wpAny_pyIter_enum en ⟨_, _, _, _, H1, rfl, I1.kept (t' := s1.toks) (grow _ _), turn_enum t _ _, ⟨⟨_, en⟩, ⟨_, first _ _ rfl, rfl, rfl⟩, Nat.succ_ne_self _⟩, mine, q⟩
  · obtain ⟨its, _, tu, _⟩ := I1.tuple (st_of ht)
    exact enum_call (begins_tuple t its.toArray) tu fun en => wpAny_pyIter_enum en ⟨_, _, _, _, H1, rfl, I1.kept (t' := s1.toks) (grow _ _), turn_pairs (Nat.succ_ne_self _), ⟨⟨_, en⟩, _, first _ _ rfl, rfl, rfl⟩, mine, q⟩

/-! ### xs + ys of lists that are read -/
section
variable {X : Cx}
def rCatL (K : PySem.W.Frag) : R2 := fun x y H Q => ∃ l b xs zs, x = .ref l ∧ y = .ref b ∧ SqL K H l xs ∧ SqL K H b zs ∧ xs.length + zs.length ≤ sizeLine ∧ ∀ p, H p = none → Q (.ref p) (upd H p (.lst (xs ++ zs)))
theorem op_catL : OpR X (binaryOp .Add) (rCatL X.K) := by
  rintro pins s σ H _ _ v u Q I rx ry ⟨l, b, xs, zs, rfl, rfl, ha, hb, hz, q⟩
  cases rx
  cases ry
  obtain ⟨i1, r1, p1, _⟩ := I.list ha
  obtain ⟨i2, r2, p2, _⟩ := I.list hb
  have g1 := r1.length
  have g2 := r2.length
  obtain ⟨⟨c1, dd1, dt1, s1⟩, o1, k1, m1, e1⟩ := p1.isList
  obtain ⟨⟨c2, dd2, dt2, s2⟩, o2, k2, m2, e2⟩ := p2.isList
  simp only at k1 e1 k2 e2
  subst k1 e1 k2 e2
  have ea : i1.toArray ++ i2.toArray = (i1 ++ i2).toArray := by simp
  refine concat_meets ⟨_, o1, rfl⟩ ⟨_, o2, rfl⟩ noFill_list_add seq_list_add PySem.F.slot_list_add PySem.F.entry_list_add (PySem.F.args_list_add_2 _ _)
    (list_addW l b i1.toArray i2.toArray m1 m2 dd1 dd2 s1 s2 (by rw [List.size_toArray, List.size_toArray]; omega)) ⟨o1, o2, ?_⟩
  rw [ea]
  exact ⟨.ref _, _, I.lnew (t' := s.toks) (r1.append r2) (by rw [List.length_append]; omega), rfl, q _ I.fresh⟩
end

/-! ### a truth and a number; a truth's text; a tuple from behind -/
section
variable {X : Cx}
theorem op_either {f : Value → Value → Sem Value} {r r' : R2} (h : OpR X f r) (h' : OpR X f r') : OpR X f (fun x y H Q => r x y H Q ∨ r' x y H Q) :=
  fun pins s σ H x y v u Q I rx ry q => q.elim (h pins s σ H x y v u Q I rx ry) (h' pins s σ H x y v u Q I rx ry)
/-- a truth, then a number -/
def rTN (g : Int → Int → Int) : R2 := fun x y H Q => ∃ (b : Bool) (j : Int), x = .bl b ∧ y = .int j ∧ Q (.int (g (if b = true then 1 else 0) j)) H
theorem op_addB : OpR X (binaryOp .Add) (rTN fun i j => i + j) := by
  rintro pins s σ H _ _ v u Q I rx ry ⟨b, j, rfl, rfl, q⟩
  obtain rfl : v = .bool b := rx
  obtain ⟨t, rfl⟩ : ∃ t, u = .int j t := ry
  exact PySem.IntBool.add_bool_int ⟨.int _, H, I.tok _, ⟨_, rfl⟩, q⟩
theorem op_subB : OpR X (binaryOp .Sub) (rTN fun i j => i - j) := by
  rintro pins s σ H _ _ v u Q I rx ry ⟨b, j, rfl, rfl, q⟩
  obtain rfl : v = .bool b := rx
  obtain ⟨t, rfl⟩ : ∃ t, u = .int j t := ry
  exact PySem.IntBool.sub_bool_int ⟨.int _, H, I.tok _, ⟨_, rfl⟩, q⟩
theorem op_addU : OpR X (binaryOp .Add) (fun x y H Q => rI0 (fun i j => .int (i + j)) x y H Q ∨ rTN (fun i j => i + j) x y H Q) := op_either op_add op_addB
theorem op_subU : OpR X (binaryOp .Sub) (fun x y H Q => rI0 (fun i j => .int (i - j)) x y H Q ∨ rTN (fun i j => i - j) x y H Q) := op_either op_sub op_subB
def rCatU (K : PySem.W.Frag) : R2 := fun x y H Q => rCatL K x y H Q ∨ rCatA K x y H Q
theorem op_catU : OpR X (binaryOp .Add) (rCatU X.K) := op_either op_catL op_catA
theorem sl_U : SlR X (fun x lo hi H Q => rSlL X.K x lo hi H Q ∨ rSlA X.K x lo hi H Q) := SlR.or sl_list sl_tupA
/-- every text of Lean's is a text of Python's -/
theorem strOk_of (s : String) : PyData.strOk (Str.ofString s) = true := by
  rw [Str.ofString_eq_toList]
  refine Array.all_eq_true'.mpr fun x hx => ?_
  obtain ⟨c, _, rfl⟩ : ∃ c, c ∈ s.toList ∧ Char.toNat c = x := by simpa using hx
  exact decide_eq_true (c.valid.elim (fun low => Nat.lt_trans low (by decide)) And.right)
def truthText (b : Bool) : Str := if b then "True" else "False"
theorem truth_text {P : Program} {w : World} {A : Around} {E : Value → Shared → Prop} {s : Shared} {b : Bool} {Q : Value → Shared → Prop} (q : Q (.str (truthText b) s.toks) { s with toks := s.toks + 1 }) : wpAny (model P w) A (call (.type "str") [.bool b]) Q E s := by
  have made : Meets (Builtin.«str.__new__» ⟨[.type "str", .bool b], []⟩) (fun _ R s => R (.ok (.ret (.str (truthText b) s.toks))) { s with toks := s.toks + 1 }) :=
    meets_str_new fun _ _ _ _ s r => wpAny_strOf_gives rfl (PySem.typeIs_bool s b) F.slot_bool_str F.slot_bool_repr F.entry_bool_repr (F.args_bool_repr_1 _) (gives_bool_repr b) r (hsz := by cases b <;> decide)
  exact callType_new F.called_str (by decide) (F.typeCall_str_1 _) (F.newCall_str_1 _) (fun x => F.args_object_init_2 x _) F.entry_str_new made ⟨typeIs_str _ _ _, q⟩
/-- str of a number or of a truth: some text -/
def rStrU : List V → Hp → VK → Prop := fun xs H Q => ((∃ i : Int, xs = [.int i] ∧ i.natAbs.log2 < 1920) ∨ ∃ b, xs = [.bl b]) ∧ ∀ x : Str, PyData.strOk x = true → Q (.str x) H
theorem call_strU : CallR X (.type "str") rStrU := by
  rintro pins s σ H xs us Q I r ⟨⟨i, e, hz⟩ | ⟨b, rfl⟩, q⟩
  · exact call_str_int pins s σ H xs us Q I r ⟨i, e, hz, q _ (strOk_of _)⟩
  · obtain ⟨_, rfl, rfl⟩ := vals1 r
    exact truth_text ⟨.str (truthText b), H, I.tok _, ⟨_, rfl⟩, q _ (by cases b <;> exact strOk_of _)⟩
end
/-- what the model's slices say of [::-1] -/
theorem back_bounds (n : Nat) : Builtin.Slice.sliceAdjust none none (-1) n = ((n : Int) - 1, -1) ∧ Builtin.Slice.slicePlaces ((n : Int) - 1) (-1) (-1) = n := by
  refine ⟨by simp [Builtin.Slice.sliceAdjust], ?_⟩
  simp [Builtin.Slice.slicePlaces]
  omega
theorem back_items (its : Array Value) : ((List.range its.size).filterMap fun k : Nat => its[(((its.size : Int) - 1) + (k : Int) * (-1)).toNat]?) = its.toList.reverse := by
  have there : ∀ k : Nat, its[(((its.size : Int) - 1) + (k : Int) * (-1)).toNat]? = its[its.size - 1 - k]? := fun k => by
    rw [show (((its.size : Int) - 1) + (k : Int) * (-1)).toNat = its.size - 1 - k by omega]
  have back := congrArg (List.filterMap (its[·]?)) (PySem.W.krv_range its.size)
  rw [List.filterMap_map, List.filterMap_reverse, PySem.W.krv_all] at back
  rw [← back]
  exact congrArg (List.filterMap · _) (funext there)
section
variable {s : Shared} {P : Program} {w : World} {A : Around} {E : Value → Shared → Prop}
/-- the slice object of [::-1], taken of n items -/
theorem back_applied {sl : Addr} {tk : Tok} {n : Nat} {Q : Int × Int × Nat → Shared → Prop} (hs : s.heap.IsSliceOf sl .none .none (.int (-1) tk)) (q : Q ((n : Int) - 1, -1, n) s) :
    wpAny (model P w) A (Builtin.Slice.sliceApplied (.ref sl) (pure (n : Int))) Q E s := by
  obtain ⟨o, ho, _, hd⟩ := hs
  have none0 : IsPart Value.none none := .none
  have part : ∀ {i : Nat} {v : Value} {Q' : Value → Shared → Prop}, (#[Value.none, .none, .int (-1) tk] : Array Value)[i]? = some v → Q' v s → wpAny (model P w) A (field (.ref sl) i) Q' E s := fun hi h => wpAny_field ho hd hi h
  simp only [Builtin.Slice.sliceApplied, Builtin.Slice.sliceFields]
  refine wpAny_bind (wpAny_bind (part rfl (wpAny_bind (part rfl (wpAny_bind (part rfl (wpAny_pure ?_)))))))
  refine wpAny_bind (HT.slicePart_ (o := some (-1)) (.int (-1) tk) ?_)
  refine wpAny_bind (HT.slicePart_ none0 (wpAny_bind (HT.slicePart_ none0 (wpAny_bind (wpAny_pure ?_)))))
  have e := back_bounds n
  simp only [Option.getD, e.1, e.2]
  exact wpAny_pure q
/-- t[::-1] asked of the tuple's own __getitem__ -/
theorem back_got {t sl : Addr} {tk : Tok} {its : Array Value} {Q : Value → Shared → Prop} (ht : IsTup s.heap t its) (hs : s.heap.IsSliceOf sl .none .none (.int (-1) tk)) (hz : its.size ≤ sizeLine)
    (q : Q (.ref s.heap.objs.size) { s with heap := s.heap.push { cls := .type "tuple", data := .seq its.toList.reverse.toArray } }) : wpAny (model P w) A (getItem (.ref t) (.ref sl)) Q E s := by
  have slice : s.TypeIs (.ref sl) "slice" := hs.elim fun o h => ⟨o, h.1, h.2.1⟩
  have room : sizeOk (.seq its.toList.reverse.toArray) := by
    simpa [sizeOk] using hz
  have own : wpAny (model P w) A.in1 (Builtin.«tuple.__getitem__» ⟨[.ref t, .ref sl], []⟩) (fun fin s' => ∃ v, fin = .done (.ret v) ∧ Q v s') E s := by
    refine wpAny_bind (m := Builtin.Tuple.tupleItemsOf (.ref t)) (tupleItemsOf_ ht (wpAny_bind (wpAny_typeOf slice ?_)))
    rw [if_pos (by decide)]
    refine wpAny_bind (back_applied hs ?_)
    show wpAny _ _ (if ((its.size : Int) - 1 == 0 && (-1 : Int) == 1 && its.size == its.size) = true then _ else _) _ _ s
    rw [if_neg (by simp)]
    refine wpAny_bind (m := Builtin.Tuple.tupleExact _) ?_
    rw [back_items]
    refine wpAny_newObj_type ?_ room
    exact wpAny_pure ⟨_, rfl, q⟩
  have asked : wpAny (model P w) A (callSpecial? (.ref t) "__getitem__" [.ref sl]) (fun r s' => ∃ v, r = some v ∧ Q v s') E s :=
    wpAny_callSpecial?_slot ht.typeIs PyProof.Rows.slot_tuple_getitem (wpAny_call_entry PyProof.Rows.slot_tuple_getitem ht.typeIs entry_tuple_getitem (wpAny_mono own (fun f s' ⟨v, e, h⟩ => ⟨v, e, v, rfl, h⟩) fun _ _ h => h) (args_tuple_getitem _ _))
  simp only [getItem]
  refine wpAny_holding (wpAny_bind (wpAny_sequenceKey (hT := ht.typeIs) (by decide) ?_))
  refine wpAny_bind (wpAny_mono asked (fun r s' h => ?_) fun _ _ h => h)
  obtain ⟨v, rfl, h⟩ := h
  exact wpAny_pure h
end
section
variable {X : Cx}
/-- t[::-1], t a tuple -/
def tBack (K : PySem.W.Frag) (te : TE) : TE := fun σ H Q => te σ H fun x H1 => ∃ a xs, x = .ref a ∧ SqT K H1 a xs ∧ ∀ p, H1 p = none → Q (.ref p) (upd H1 p (.tup xs.reverse))
theorem pe_back {e : Expr} {te : TE} {k : Nat} {p1 p2 p3 pos : Pos} (he : PE X e te) : PE X (.Subscript e (.Slice none none (some (.UnaryOp .USub (.Constant (.int 1) k p1) p2)) p3) pos) (tBack X.K te) := by
  constructor
  intro pins s σ H Q I h
  have minus : PE X (.UnaryOp .USub (.Constant (.int 1) k p1) p2) (tUn (rU fun i => .int (-i)) (tC (.int 1))) := pe_un un_neg pe_int
  refine Subscript_ (thn (he.run pins s σ H _ I h) fun v s1 got => ?_)
  obtain ⟨_, H1, I1, rv, a, xs, rfl, hx, q⟩ := got
  obtain rfl : v = .ref a := rv
  refine wpAny_Slice (thn (po_none.run pins s1 σ H1 (fun o H' => o = none ∧ H' = H1) I1 ⟨rfl, rfl⟩) fun v2 s2 g2 => ?_)
  obtain ⟨_, H2, I2, n2, rfl, e2⟩ := g2
  rw [e2] at I2
  refine thn (po_none.run pins s2 σ H1 (fun o H' => o = none ∧ H' = H1) I2 ⟨rfl, rfl⟩) fun v3 s3 g3 => ?_
  obtain ⟨_, H3, I3, n3, rfl, e3⟩ := g3
  rw [e3] at I3
  refine thn ((po_some minus).run pins s3 σ H1 (fun o H' => o = some (-1) ∧ H' = H1) I3 ⟨1, rfl, -1, rfl, rfl, rfl⟩) fun v4 s4 g4 => ?_
  obtain ⟨_, H4, I4, n4, rfl, e4⟩ := g4
  rw [e4] at I4
  cases n2
  cases n3
  cases n4 with
  | int _ tk =>
    generalize hsl : ({ cls := .type "slice", data := .fields #[Value.none, .none, .int (-1) tk] } : Obj) = so
    have J : Inv X pins σ H1 { s4 with heap := s4.heap.push so } := I4.kept (t' := s4.toks) fun _ _ => Heap.get?_push_of_some _
    have sl : (s4.heap.push so).IsSliceOf s4.heap.objs.size .none .none (.int (-1) tk) := hsl ▸ Heap.IsSliceOf.new ..
    obtain ⟨its, rel, tup, z⟩ := J.tuple hx
    have sz := rel.length
    refine tail_any (s := { s4 with heap := s4.heap.push so }) (ops := [.ref a, .ref s4.heap.objs.size]) tup.typeIs PyProof.Rows.slot_tuple_getitem.lookup (back_got tup sl (by rw [List.size_toArray]; omega) ?_) (by with_unfolding_all rfl)
    refine ⟨.ref _, _, J.laid (t' := s4.toks) (o := .tup xs.reverse) (fun _ _ => Heap.get?_push_of_some _) (Nat.le_refl _) ⟨?_, its.reverse, rel.reverse, IsTup.new _ _⟩, rfl, q _ J.fresh⟩
    rw [List.length_reverse]
    exact z
end

/-! ### lists and tuples of numbers compared -/
theorem dps_ints {K : PySem.W.Frag} {H : Hp} : ∀ ns : List Int, DpAll K H (ns.map V.int) (ns.map PyData.int)
  | [] => .nil
  | n :: ns => .cons (.int n) (dps_ints ns)
theorem lays_ints : ∀ ns : List Int, PyData.canLayAll0 (ns.map PyData.int) = true
  | [] => rfl
  | n :: ns => by
    have h := lays_ints ns
    simp only [List.map_cons, PyData.canLayAll0, PyData.canLay0, h, Bool.and_true, Bool.true_and]
theorem deep_ints : ∀ ns : List Int, PyData.depthAll (ns.map PyData.int) ≤ 1
  | [] => by decide
  | n :: ns => by
    have h := deep_ints ns
    simp only [List.map_cons, PyData.depth, PyData.depthAll]
    omega
theorem shaped_lst (ns : List Int) : SeqAt.shaped (.list (ns.map PyData.int)) = true := by
  have h1 := lays_ints ns
  have h2 := deep_ints ns
  unfold SeqAt.shaped
  rw [PyData.canLay0, PyData.depth, h1, Bool.true_and]
  exact decide_eq_true (show _ ≤ 64 by omega)
theorem shaped_tup (ns : List Int) : SeqAt.shaped (.tuple (ns.map PyData.int)) = true := by
  have h1 := lays_ints ns
  have h2 := deep_ints ns
  unfold SeqAt.shaped
  rw [PyData.canLay0, PyData.depth, h1, Bool.true_and]
  exact decide_eq_true (show _ ≤ 64 by omega)
theorem eqv_ints : ∀ ns ms : List Int, PyData.eqvAll (ns.map PyData.int) (ms.map PyData.int) = decide (ns = ms)
  | [], [] => rfl
  | [], m :: ms => rfl
  | n :: ns, [] => rfl
  | n :: ns, m :: ms => by
    have h := eqv_ints ns ms
    simp only [List.map_cons, PyData.eqvAll, PyData.eqv, h]
    by_cases e : n = m <;> by_cases e' : ns = ms <;> simp [e, e']
section
variable {K : PySem.W.Frag} {H : Hp} {Q : VK} {a b : Addr} {ns ms : List Int}
theorem eq_lsts (ha : SqL K H a (ns.map V.int)) (hb : SqL K H b (ms.map V.int)) (q : Q (.bl (decide (ns = ms))) H) : rEqD K (.ref a) (.ref b) H Q :=
  ⟨_, _, .lst ha (dps_ints ns), .lst hb (dps_ints ms), shaped_lst ns, shaped_lst ms, by rw [PyData.eqv, eqv_ints]; exact q⟩
theorem ne_lsts (ha : SqL K H a (ns.map V.int)) (hb : SqL K H b (ms.map V.int)) (q : Q (.bl (!decide (ns = ms))) H) : rNeD K (.ref a) (.ref b) H Q :=
  ⟨_, _, .lst ha (dps_ints ns), .lst hb (dps_ints ms), shaped_lst ns, shaped_lst ms, by rw [PyData.eqv, eqv_ints]; exact q⟩
theorem eq_tups (ha : SqT K H a (ns.map V.int)) (hb : SqT K H b (ms.map V.int)) (q : Q (.bl (decide (ns = ms))) H) : rEqD K (.ref a) (.ref b) H Q :=
  ⟨_, _, .tup ha (dps_ints ns), .tup hb (dps_ints ms), shaped_tup ns, shaped_tup ms, by rw [PyData.eqv, eqv_ints]; exact q⟩
theorem ne_tups (ha : SqT K H a (ns.map V.int)) (hb : SqT K H b (ms.map V.int)) (q : Q (.bl (!decide (ns = ms))) H) : rNeD K (.ref a) (.ref b) H Q :=
  ⟨_, _, .tup ha (dps_ints ns), .tup hb (dps_ints ms), shaped_tup ns, shaped_tup ms, by rw [PyData.eqv, eqv_ints]; exact q⟩
end
/-- a comprehension over a list of numbers, with a test -/
theorem given_list (xs : List Int) (p : Int → Bool) (g : Int → Int) : given xs.length (fun i => p (xs[i]?.getD 0)) (fun i => V.int (g (xs[i]?.getD 0))) = ((xs.filter p).map g).map V.int := by
  unfold given
  induction xs with
  | nil => rfl
  | cons x xs ih =>
    have h0 : (x :: xs)[(0 : Nat)]?.getD 0 = x := rfl
    have hs : ∀ i : Nat, (x :: xs)[i + 1]?.getD 0 = xs[i]?.getD 0 := fun i => by rw [List.getElem?_cons_succ]
    rw [List.length_cons, List.range_succ_eq_map, List.filter_cons, List.filter_map, List.filter_cons, h0]
    have e1 : ((fun i => p ((x :: xs)[i]?.getD 0)) ∘ Nat.succ) = fun i : Nat => p (xs[i]?.getD 0) := funext fun i => congrArg p (hs i)
    have e2 : ((fun i => V.int (g ((x :: xs)[i]?.getD 0))) ∘ Nat.succ) = fun i : Nat => V.int (g (xs[i]?.getD 0)) := funext fun i => congrArg (fun z => V.int (g z)) (hs i)
    rw [e1]
    by_cases h : p x = true
    · rw [if_pos h, if_pos h]
      simp only [List.map_cons, List.map_map, e2, h0]
      rw [ih, List.map_map]
    · rw [if_neg h, if_neg h, List.map_map, e2, ih]
theorem given_pick (xs : List Int) (p : Int → Bool) : given xs.length (fun i => p (xs[i]?.getD 0)) (fun i => V.int (xs[i]?.getD 0)) = (xs.filter p).map V.int := by
  have h := given_list xs p fun z => z
  rw [List.map_id'] at h
  exact h

section
variable {X : Cx}
theorem op_isT : OpR X (compareOp .Is) (fun x y H Q => ∃ a b, x = .bl a ∧ y = .bl b ∧ Q (.bl (a == b)) H) := by
  rintro pins s σ H x y v u Q I rx ry ⟨a, b, rfl, rfl, q⟩
  cases rx
  cases ry
  exact is_bool ⟨.bl _, H, I, rfl, q⟩
theorem op_isntT : OpR X (compareOp .IsNot) (fun x y H Q => ∃ a b, x = .bl a ∧ y = .bl b ∧ Q (.bl (a != b)) H) := by
  rintro pins s σ H x y v u Q I rx ry ⟨a, b, rfl, rfl, q⟩
  cases rx
  cases ry
  exact isnot_bool ⟨.bl _, H, I, rfl, q⟩
end

/-! ### min(xs, default=None) of a list of numbers -/
section
variable {X : Cx}
def rMinD (K : PySem.W.Frag) : List V → List V → Hp → VK → Prop := fun vs zs H Q => ∃ (a : Addr) (ns : List Int), vs = [.ref a] ∧ zs = [.non] ∧ SqL K H a (ns.map V.int) ∧ (ns = [] → Q .non H) ∧ ∀ m, m ∈ ns → (∀ y, y ∈ ns → m ≤ y) → Q (.int m) H
theorem cr_minD (calm : X.calm = true) : CallRK X (.builtin "min") [Str.ofString "default"] (rMinD X.K) := by
  rintro pins s σ H vs zs us ws Q I r rz ⟨a, ns, rfl, rfl, hq, q0, q1⟩
  obtain ⟨its, rel, pl, _⟩ := I.list hq
  obtain rfl := Vals.ref1 r
  obtain ⟨w1, ew, e1⟩ := vals1 rz
  subst ew
  replace e1 : w1 = Value.none := e1
  subst e1
  have nums : IntsAre its ns := intsAre_of rel
  have many : its.toArray.size = ns.length := by simpa using nums.length
  have newL : a ≠ s.heap.objs.size := Nat.ne_of_lt pl.lt
  have calm' : X.A.in1.handled = none := by simpa using I.ok.hd calm
  refine call_min_walkD (wpAny_pyIter_list pl.isList ?_)
  have kept : ∀ {s' : Shared}, Moved [s.heap.objs.size] (fun x y => y = x) { s with heap := s.heap.push { cls := .type "list_iterator", data := .fields #[.ref a, .int 0 0] } } s' → ∀ b o, s.heap.get? b = some o → s'.heap.get? b = some o := fun mv b o g =>
    mv.heap b o (fun z => Nat.ne_of_lt (Heap.lt_size g) (List.mem_singleton.mp z)) (Heap.get?_push_of_some _ g)
  have after : ∀ {s' : Shared}, Moved [s.heap.objs.size] (fun x y => y = x) { s with heap := s.heap.push { cls := .type "list_iterator", data := .fields #[.ref a, .int 0 0] } } s' → Inv X pins σ H s' := fun {s'} mv => by
    have J := I.kept (t' := s'.toks) (kept mv)
    rcases s' with ⟨h1, g1, d1, t1, o1⟩
    have eg := mv.gens
    have ed := mv.drawn
    have eo := mv.os
    simp only at eg ed eo
    subst eg ed eo
    exact J
  refine ⟨s.heap.objs.size, _, _, _, _, _, _, s.heap, fun i j => decide (ns.getD i 0 < ns.getD j 0), rfl, (Walks.list calm' s.heap.objs.size a newL its.toArray).toS, ⟨⟨_, Heap.get?_push_size _ rfl, rfl, rfl⟩, pl.isList.push _⟩, ?_, ?_, fun b o g => Heap.get?_push_of_some _ g, fun none_ s' mv => ?_, fun pos => ⟨?_, fun v s' hv mv => ?_⟩⟩
  · intro b hb
    rw [Heap.size_push]
    simp only [List.not_mem_nil, List.mem_cons, or_false] at hb
    rcases hb with rfl | rfl
    · exact Nat.lt_succ_self _
    · exact Nat.lt_succ_of_lt pl.lt
  · intro b o g z
    exact Nat.ne_of_lt (Heap.lt_size g) (List.mem_singleton.mp z)
  · refine ⟨.non, H, after mv, rfl, q0 ?_⟩
    rw [many] at none_
    exact List.eq_nil_of_length_eq_zero none_
  · intro i j vi vj s1 Q1 E1 _ hi hj q
    obtain ⟨t, rfl⟩ := nums.int_at i vi (by rw [← List.getElem?_toArray]; exact hi)
    obtain ⟨t', rfl⟩ := nums.int_at j vj (by rw [← List.getElem?_toArray]; exact hj)
    show wpAny _ _ (compareOp .Lt _ _) _ _ _
    exact lt_int q
  · obtain ⟨h1, h2⟩ := argBest_lt (fun i => ns.getD i 0) (its.toArray.size - 1)
    obtain ⟨t, rfl⟩ := nums.int_at _ v (by rw [← List.getElem?_toArray]; exact hv)
    rw [many] at pos h1 h2
    refine ⟨.int _, H, after mv, ⟨t, rfl⟩, ?_⟩
    rw [many]
    refine q1 _ (PySem.getD_mem (by omega)) fun y hy => ?_
    obtain ⟨j, hj, rfl⟩ := mem_getD hy
    exact h2 j (by omega)
end

/-! ### where a list's iterator ends while an error is handled -/
section
variable {prog : Program} {w : World} {B : Around} {hot : Addr}
/-- the new error that tells the end bears the handled one; nothing that stood is written -/
theorem tells_end {β : Type} {t : Shared} {G : β → Shared → Prop} {Z : Value → Shared → Prop} (h : HotX.HotAt B hot t.heap)
    (z : ∀ g n, (∀ c u, t.heap.get? c = some u → g.get? c = some u) → (∃ u, g.get? n = some u ∧ u.cls = .type "StopIteration") → Z (.ref n) { t with heap := g }) :
    wpAny (model prog w) B (Builtin.SmallTypes.stopIteration : Sem β) G Z t := by
  have two : ∀ {x y : Obj} {c : Addr} {u : Obj}, t.heap.get? c = some u → ((t.heap.push x).push y).get? c = some u ∧ c ≠ (t.heap.push x).objs.size := fun {x y c u} e =>
    ⟨Heap.get?_push_of_some _ (Heap.get?_push_of_some _ e), Nat.ne_of_lt (Heap.lt_size (Heap.get?_push_of_some x e))⟩
  obtain ⟨yes, u, fs, e, d, c⟩ := h
  show wpAny _ _ (newExc (.type "StopIteration") [] >>= fun v => raiseNew v) _ _ _
  refine wpAny_bind ?_
  unfold newExc newTuple
  have plain : firstArgMember (.type "StopIteration") [] = pure Value.none := rfl
  rw [plain]
  refine wpAny_bind (wpAny_newObj_type (wpAny_bind (wpAny_pure (wpAny_newObj_type ?_))))
  exact HotX.raiseNew_hot ⟨yes, u, fs, (two e).1, d, c⟩ (two (y := u) e).2 (Heap.get?_push_size _ rfl) rfl (by rw [Array.size_append]; exact Nat.lt_of_lt_of_le (show 2 < 6 by decide) (Nat.le_add_right 6 _)) (z _ _ (fun b o g => (Heap.get?_update_other _ _ (Ne.symm (two (y := u) g).2)).trans (two g).1) ⟨_, Heap.get?_update_self _ (Heap.get?_push_size _ rfl) rfl, rfl⟩)
/-- drawn from by zip: the same list, the handled error's object stands by -/
theorem draws_by {it l : Addr} (il : l ≠ it) (ih : hot ≠ it) (yes : B.in1.handled = some (.ref hot)) (items : Array Value) :
    Draws prog w B it [it, l, hot] items.size (fun i v => items[i]? = some v) (fun i h => h.IsListIter it l i ∧ h.IsList l items ∧ HotX.HotAt B.in1 hot h) := by
  constructor
  case live => exact fun _ _ st => st.1.imp fun _ e => e.1
  case frame => exact fun _ _ _ ⟨a, b, _, u, fs, e, r⟩ k => ⟨a.at fun o => k it (by simp) o, b.at fun o => k l (by simp) o, yes, u, fs, k hot (by simp) u e, r⟩
  case item => exact fun i s Q E lt ⟨a, b, _, u, fs, e, r⟩ q => wpAny_nextOf_list_item a b (x := items[i]) (getElem?_pos items i lt) fun g a' sb => q _ g s.toks (getElem?_pos items i lt) ⟨a', b.extBut sb.extBut il, yes, u, fs, sb.extBut _ _ ih e, r⟩ sb
  case done =>
    rintro s Q E ⟨a, ⟨ol, el, _, k, dl⟩, _, u, fs, e, r⟩ out
    obtain ⟨o, eo, co, fo⟩ := id a
    have past : items[items.size]? = none := getElem?_neg items items.size (Nat.lt_irrefl _)
    have ends : ∀ {G : Fin → Shared → Prop}, wpAny (model prog w) B.in1 (Builtin.«list_iterator.__next__» ⟨[.ref it], []⟩) G E s := fun {G} => by
      have off : (Value.ref l == Value.none) = false := rfl
      refine wpAny_bind (m := field _ 0) (wpAny_field eo fo (x := .ref l) rfl ?_)
      simp only [off, Bool.false_eq_true, if_false]
      refine wpAny_bind (m := field _ 1) (wpAny_field eo fo (x := .int (items.size : Nat) 0) rfl (wpAny_bind (m := seqItems? _) (wpAny_seqItems el dl ?_)))
      simp only [Int.toNat_natCast, past]
      refine wpAny_bind (wpAny_rule (wpAny_bind (wpAny_setField eo fo (Nat.zero_lt_succ _) (tells_end ⟨yes, u, fs, ?_, r⟩ fun g n k h => out g n (fun c v nc ec => k c v ?_) h))))
      · exact (Heap.get?_update_other _ _ (Ne.symm ih)).trans e
      · exact (Heap.get?_update_other _ _ (Ne.symm nc)).trans ec
    exact wpAny_bind (wpAny_callSpecial?_slot (name := Str.ofString "__next__") a.typeIs slot_listiter_next (wpAny_call_entry slot_listiter_next a.typeIs entry_listiter_next ends (args_listiter_next _)))
end

/-! ### comprehensions of any number of fors, calm or while an error is handled -/
section
variable {X Y : Cx} {pins : List (Addr × Obj)} {σ : L2.St} {H : Hp} {s : Shared} {tg : Expr} {J : It} {fp : List Addr} {it : Addr} {tn : Nat → Heap → Prop}
/-- the block of a comprehension; what the def has pinned stays pinned in it -/
abbrev blkP (X : Cx) (s : Shared) (H : Hp) (scope : Scope) (cenv : Env) (fp : List Addr) : Cx := { X.blk s H scope cenv fp with pn := X.pn }
/-- an iterator whose turns the library tells for this context -/
def Goer (X : Cx) (tg : Expr) (J : It) (fp : List Addr) (it : Addr) (tn : Nat → Heap → Prop) : Prop :=
  (X.calm = true ∧ Turn X.prog X.w X.K tg J fp it tn) ∨ (L2H.HotC X ∧ L2H.TurnH X.prog X.w X.K tg J fp it tn)
theorem Goer.self (g : Goer X tg J fp it tn) {A : Around} {i : Nat} {Q : Value → Shared → Prop} {E : Value → Shared → Prop} (st : tn i s.heap) (h : Q (.ref it) s) : wpAny (model X.prog X.w) A (pyIter (.ref it)) Q E s :=
  g.elim (fun t => t.2.self A i s Q E st h) fun t => t.2.self A i s Q E st h
theorem Goer.obj (g : Goer X tg J fp it tn) {i : Nat} {h : Heap} (st : tn i h) : ∀ b ∈ fp, ∃ o, h.get? b = some o ∧ ∀ v, o.data ≠ .cell v := g.elim (fun t => t.2.obj i h st) fun t => t.2.obj i h st
theorem Goer.keep (g : Goer X tg J fp it tn) {i : Nat} {h h' : Heap} (st : tn i h) (k : ∀ b ∈ fp, ∀ o, h.get? b = some o → h'.get? b = some o) : tn i h' := g.elim (fun t => t.2.keep i h h' st k) fun t => t.2.keep i h h' st k
/-- an item of turn i has come as u -/
def Came (X : Cx) (pins : List (Addr × Obj)) (σ : L2.St) (J : It) (fp : List Addr) (tn : Nat → Heap → Prop) (i : Nat) (H : Hp) (u : Value) (s : Shared) : Prop :=
  ∃ x H1, J.yld i H x H1 ∧ RelV x u ∧ (Inv X pins σ H1 s ∧ tn (i + 1) s.heap) ∧ ∀ b ∈ fp, H1 b = none
theorem Goer.next (g : Goer X tg J fp it tn) {i : Nat} {Q : Option Value → Shared → Prop} {E : Value → Shared → Prop} (I : Inv X pins σ H s) (f : ∀ b ∈ fp, FpOk X pins H b) (st : tn i s.heap)
    (h : (J.stop i H ∧ ∀ s1, Inv X pins σ H s1 → Q none s1) ∨ (J.go i H ∧ ∀ u s1, wpAny (model X.prog X.w) X.A (letOwnedTupleGo tg (.ref it) u) (fun _ s2 => Came X pins σ J fp tn i H u s2) E s1 → Q (some u) s1)) :
    wpAny (model X.prog X.w) X.A (pyNext (.ref it)) Q E s := by
  have made : ∀ u s2, (∃ x H', Inv X pins σ H' s2 ∧ RelV x u ∧ J.yld i H x H' ∧ tn (i + 1) s2.heap ∧ ∀ b ∈ fp, H' b = none) → Came X pins σ J fp tn i H u s2 := fun u s2 ⟨x, H1, a, b, c, d, e⟩ => ⟨x, H1, c, b, ⟨a, d⟩, e⟩
  rcases h with ⟨no, q⟩ | ⟨yes, q⟩ <;> rcases g with ⟨c, t⟩ | ⟨c, t⟩
  · exact thn (t.done X rfl rfl rfl c i pins s σ H E I f st no) fun r s1 z => z.1 ▸ q s1 z.2
  · exact thn (t.done X rfl rfl rfl c i pins s σ H E I f st no) fun r s1 z => z.1 ▸ q s1 z.2
  · exact thn (t.item X rfl rfl rfl c i pins s σ H E I f st yes) fun r s1 ⟨u, e, k⟩ => e ▸ q u s1 (thn k fun _ s2 z => made u s2 z)
  · exact thn (t.item X rfl rfl rfl c i pins s σ H E I f st yes) fun r s1 ⟨u, e, k⟩ => e ▸ q u s1 (thn k fun _ s2 z => made u s2 z)
/-- what stands behind an in: an iterator comes -/
def Begun (X : Cx) (pins : List (Addr × Obj)) (σ : L2.St) (tg : Expr) (R : It → Hp → Prop) (u : Value) (s : Shared) : Prop :=
  ∃ it J fp tn H1, u = .ref it ∧ Goer X tg J fp it tn ∧ R J H1 ∧ Inv X pins σ H1 s ∧ tn 0 s.heap ∧ ∀ b ∈ fp, FpOk X pins H1 b
def Brings (X : Cx) (tg iter : Expr) (wi : TI) : Prop := ∀ (pins : List (Addr × Obj)) (s : Shared) (σ : L2.St) (H : Hp) (R : It → Hp → Prop), Inv X pins σ H s → wi σ H R →
  wpAny (model X.prog X.w) X.A (eval iter X.env) (fun v s1 => wpAny (model X.prog X.w) X.A (pyIter v) (Begun X pins σ tg R) X.xe s1) X.xe s
theorem brings_calm {iter : Expr} {wi : TI} (c : X.calm = true) (h : PI X tg iter wi) : Brings X tg iter wi := fun pins s σ H R I q =>
  thn (h.run pins s σ H R I q) fun _ _ z => thn z fun _ _ ⟨it, fp, tn, J, H1, e, I1, t, st, f, r⟩ => ⟨it, J, fp, tn, H1, e, .inl ⟨c, t⟩, r, I1, st, f⟩
theorem brings_hot {iter : Expr} {wi : TI} (c : L2H.HotC X) (h : L2H.PIH X tg iter wi) : Brings X tg iter wi := fun pins s σ H R I q =>
  thn (h.run pins s σ H R I q) fun _ _ z => thn z fun _ _ ⟨it, fp, tn, J, H1, e, I1, t, st, f, r⟩ => ⟨it, J, fp, tn, H1, e, .inr ⟨c, t⟩, r, I1, st, f⟩
end
section
variable {prog : Program} {w : World} {A : Around} {E : Value → Shared → Prop} {s : Shared} {elt : Expr} {gens : List Comprehension} {scope : Scope} {pos : Pos} {k : Nat} {it : Value} {D : Addr} {env : Env}
/-- what is done at depth k: the next for is begun, or the item is appended; Z afterwards -/
def Into (prog : Program) (w : World) (A : Around) (E : Value → Shared → Prop) (elt : Expr) (gens : List Comprehension) (scope : Scope) (pos : Pos) (k : Nat) (D : Addr) (env : Env) (Z : Shared → Prop) (s : Shared) : Prop :=
  (gens[k]?).elim (wpAny (model prog w) A (eval elt env) (fun v s1 => wpAny (model prog w) A (call (.builtin "list.append") [.ref D, v]) (fun _ => Z) E s1) E s)
    fun g => wpAny (model prog w) A (eval g.iter env) (fun v s1 => wpAny (model prog w) A (pyIter v) (fun u => codeAny (model prog w) A (.compStart (.ListComp elt gens scope pos) k u (.ref D) env) fun r s3 => (∃ f, r = .ok f) ∧ Z s3) E s1) E s
theorem comp_turn {g : Comprehension} {Q : Fin → Shared → Prop} (hg : gens[k]? = some g) (h0 : g.is_async = 0) (h1 : ∀ g', gens[k + 1]? = some g' → g'.is_async = 0 ∧ ∀ x, foldedSetIterable g'.iter env x = pure x)
    (h : wpAny (model prog w) A (pyNext it) (fun r s1 => (r = none → Q (.done .next) s1) ∧ ∀ v, r = some v → wpAny (model prog w) A (letOwnedTupleGo g.target it v) (fun _ s2 => wpAny (model prog w) A (assign g.target env v) (fun _ s3 =>
      wpAny (model prog w) A (forIn g.ifs true fun c r => if r = true then do let ok ← isTrue c env (eval c env); pure (ForInStep.yield ok) else pure (ForInStep.yield r)) (fun ok s4 =>
        if ok = true then Into prog w A (fun _ _ => False) elt gens scope pos (k + 1) D env (Q (.again (.compLoop (.ListComp elt gens scope pos) k it (.ref D) env))) s4 else Q (.again (.compLoop (.ListComp elt gens scope pos) k it (.ref D) env)) s4) E s3) E s2) E s1) E s) :
    wpAny (model prog w) A (compTurn (.ListComp elt gens scope pos) k it (.ref D) env) Q E s := by
  unfold compTurn
  simp only [hg, h0]
  simp only [if_false, bne_self_eq_false, Bool.false_eq_true]
  refine wpAny_bind (wpAny_standAt (wpAny_bind (thn h fun r s1 ⟨no, yes⟩ => ?_)))
  cases r with
  | none => exact wpAny_pure (no rfl)
  | some v =>
    refine wpAny_bind (thn (yes v rfl) fun _ s2 z2 => wpAny_bind (thn z2 fun _ s3 z3 => wpAny_bind (thn z3 fun ok s4 z4 => ?_)))
    cases ok with
    | false => exact wpAny_pure z4
    | true =>
      unfold Into at z4
      simp only [if_true] at z4 ⊢
      cases eg : gens[k + 1]? with
      | none =>
        rw [eg] at z4
        exact wpAny_bind (wpAny_bind (thnF z4 fun v s5 z5 => wpAny_bind (thnF z5 fun _ s6 z6 => wpAny_pure (wpAny_pure z6))))
      | some g1 =>
        obtain ⟨a0, fs⟩ := h1 g1 eg
        rw [eg] at z4
        simp only [a0, bne_self_eq_false, Bool.false_eq_true, if_false]
        refine wpAny_bind (thnF z4 fun v s5 z5 => wpAny_bind (wpAny_standAt (wpAny_bind (wpAny_of_eq (fs v) (wpAny_bind (wpAny_holding (thnF z5 fun u s6 z6 => ?_)))))))
        refine wpAny_bind (wpAny_runOwn (codeAny_mono z6 fun r s7 ⟨⟨f, e⟩, z7⟩ => ?_))
        subst e
        exact wpAny_pure z7
theorem comp_start {R : Result → Shared → Prop} {g : Comprehension} (hg : gens[k]? = some g) (h0 : g.is_async = 0) (same : codeAny (model prog w) A (.compLoop (.ListComp elt gens scope pos) k it (.ref D) env) R s)
    (more : wpAny (model prog w) A (pyIter it) (fun u s1 => codeAny (model prog w) A (.compLoop (.ListComp elt gens scope pos) k u (.ref D) env) R s1) (fun _ _ => False) s) :
    codeAny (model prog w) A (.compStart (.ListComp elt gens scope pos) k it (.ref D) env) R s := by
  have at_ : (clausesOf (.ListComp elt gens scope pos))[k]? = some g := hg
  have tree : wpAny (model prog w) A (compStart (.ListComp elt gens scope pos) k it (.ref D) env) (fun f s' => match f with | .done f => R (.ok f) s' | .again c => c.quiet = true ∧ codeAny (model prog w) A c R s') (fun _ _ => False) s := by
    unfold compStart
    simp only [at_, Option.elim_some, h0, bne_self_eq_false, Bool.false_eq_true, if_false]
    refine wpAny_bind ?_
    refine wpAny_askSetting ?_
    refine wpAny_ite ?_
    split
    · exact wpAny_pure ⟨rfl, same⟩
    · exact wpAny_bind (wpAny_rule (wpAny_bind (wpAny_standAt (wpAny_bind (thnF more fun u s1 z => wpAny_pure ⟨rfl, z⟩)))))
  refine codeAny_of_tree ?_
  exact wpAny_onRaise (thnF tree fun f s' z => z)
end
/-! #### how it is read -/
abbrev TR := Addr → L2.St → Hp → (Hp → Prop) → Prop
/-- the item is appended to the new list -/
def rEnd (te : TE) : TR := fun D σ H Q => te σ H fun y H1 => ∃ had, H1 D = some (.lst had) ∧ had.length < sizeLine ∧ Q (upd H1 D (.lst (had ++ [y])))
/-- one turn with the item x: N behind it -/
def rTurn (g : TG) (tt : TT) (r : TR) (vs : List Nat) (D : Addr) (σ : L2.St) (x : V) (H : Hp) (N : Hp → Prop) : Prop := g x σ H fun σ3 H3 => wipe σ3 vs = wipe σ vs ∧ tt σ3 H3 fun b H4 => cond b (r D σ3 H4 N) (N H4)
/-- the turns of one for: a condition W on (turn, how many at most are left, heap) -/
def rTurns (J : It) (g : TG) (tt : TT) (r : TR) (vs : List Nat) : TR := fun D σ H Q => ∃ W : Nat → Nat → Hp → Prop, (∃ m, W 0 m H) ∧ ∀ i m H1, W i m H1 → (J.stop i H1 ∧ Q H1) ∨
  (J.go i H1 ∧ ∃ N : Hp → Prop, (∀ H2, N H2 → ∃ m', m' < m ∧ W (i + 1) m' H2) ∧ ∀ x H2, J.yld i H1 x H2 → rTurn g tt r vs D σ x H2 N)
def rFor (wi : TI) (g : TG) (tt : TT) (r : TR) (vs : List Nat) : TR := fun D σ H Q => wi σ H fun J H1 => rTurns J g tt r vs D (wipe σ vs) H1 Q
/-- what is done from depth k on is read by r; the slots vs are forgotten behind it -/
def Rest (Y : Cx) (elt : Expr) (gens : List Comprehension) (scope : Scope) (pos : Pos) (k : Nat) (vs : List Nat) (r : TR) : Prop := ∀ (D : Addr) (pins : List (Addr × Obj)) (s : Shared) (σ : L2.St) (H : Hp) (Q : Hp → Prop), Inv Y pins σ H s → r D σ H Q →
  Into Y.prog Y.w Y.A (fun _ _ => False) elt gens scope pos k D Y.env (fun s' => ∃ H', Inv Y pins (wipe σ vs) H' s' ∧ Q H') s
section
variable {Y : Cx} {elt tg iter : Expr} {ifs : List Expr} {gens : List Comprehension} {scope : Scope} {pos : Pos} {k : Nat} {vs vs1 : List Nat} {g : TG} {tt : TT} {te : TE} {r : TR} {wi : TI}
theorem rest_end (hx : Y.xe = fun _ _ => False) (hk : gens[k]? = none) (he : PE Y elt te) : Rest Y elt gens scope pos k [] (rEnd te) := fun D pins s σ H Q I h => by
  unfold Into
  rw [hk]
  refine thn (hx ▸ he.run pins s σ H _ I h) fun v s1 ⟨y, H1, I1, rv, had, hD, hz, q⟩ => ?_
  exact app_ok I1 hD hz rv fun s2 I2 => ⟨_, I2, q⟩
theorem wipe_sub {σ σ1 : L2.St} (e : wipe σ1 vs = wipe σ vs) (hv : ∀ i ∈ vs1, i ∈ vs) : ∀ (i : Nat) v, (wipe σ vs)[i]? = some (some v) → (wipe σ1 vs1)[i]? = some (some v) := fun i v h => by
  obtain ⟨a, b⟩ := wipe_some (e ▸ h)
  rw [wipe_out fun z => b (hv i z)]
  exact a
theorem wipe_in {σ : L2.St} {i : Nat} : ∀ {vs : List Nat}, i ∈ vs → (wipe σ vs)[i]? = if i < σ.length then some none else none
  | v :: vs, h => by
    unfold wipe
    rw [List.getElem?_set, wipe_length]
    by_cases e : v = i
    · rw [if_pos e, e]
    · rw [if_neg e]; exact wipe_in ((List.mem_cons.mp h).resolve_left fun z => e z.symm)
theorem wipe_idem {σ : L2.St} : wipe (wipe σ vs) vs = wipe σ vs := List.ext_getElem? fun i => by
  by_cases h : i ∈ vs
  · rw [wipe_in h, wipe_in h, wipe_length]
  · exact wipe_out h
theorem Into.mono {prog : Program} {w : World} {A : Around} {E : Value → Shared → Prop} {D : Addr} {env : Env} {Z Z' : Shared → Prop} {s : Shared} (h : Into prog w A E elt gens scope pos k D env Z s) (z : ∀ s, Z s → Z' s) : Into prog w A E elt gens scope pos k D env Z' s := by
  unfold Into at h ⊢
  cases e : gens[k]? with
  | none => rw [e] at h; exact thn h fun _ _ a => thn a fun _ s b => z s b
  | some g => rw [e] at h; exact thn h fun _ _ a => thn a fun _ _ b => codeAny_mono b fun _ s c => ⟨c.1, z s c.2⟩
/-- the turns of a for at depth k -/
theorem loop_at {J : It} {fp : List Addr} {it D : Addr} {tn : Nat → Heap → Prop} {pins : List (Addr × Obj)} {s : Shared} {σ : L2.St} {H : Hp} {Q : Hp → Prop} (hx : Y.xe = fun _ _ => False) (hk : gens[k]? = some ⟨tg, iter, ifs, 0⟩)
    (h1 : ∀ g', gens[k + 1]? = some g' → g'.is_async = 0 ∧ ∀ x, foldedSetIterable g'.iter Y.env x = pure x) (G : Goer Y tg J fp it tn) (hg : PG Y tg g) (ht : PTs Y ifs tt) (hr : Rest Y elt gens scope pos (k + 1) vs1 r) (hv : ∀ i ∈ vs1, i ∈ vs)
    (I : Inv Y pins σ H s) (st : tn 0 s.heap) (f : ∀ b ∈ fp, FpOk Y pins H b) (h : rTurns J g tt r vs D σ H Q) (hw : wipe σ vs = σ) :
    codeAny (model Y.prog Y.w) Y.A (.compLoop (.ListComp elt gens scope pos) k (.ref it) (.ref D) Y.env) (fun r s' => (∃ fl, r = .ok fl) ∧ ∃ H', Inv Y pins σ H' s' ∧ Q H') s := by
  obtain ⟨W, ⟨m0, w0⟩, step⟩ := h
  refine codeAny_loop rfl (fun m s' => ∃ i H1, W i m H1 ∧ Inv Y pins σ H1 s' ∧ tn i s'.heap ∧ ∀ b ∈ fp, FpOk Y pins H1 b) ?_ m0 ⟨0, H, w0, I, st, f⟩
  rintro m s1 ⟨i, H1, w1, I1, st1, f1⟩
  refine wpAny_onRaise (E := fun e s' => _) (wpAny_mono (E := fun _ _ => False) ?_ (fun _ _ z => z) fun _ _ z => z.elim)
  refine comp_turn hk rfl h1 ?_
  rcases step i m H1 w1 with ⟨no, q⟩ | ⟨yes, N, fewer, q⟩
  · exact G.next I1 f1 st1 (.inl ⟨no, fun s2 I2 => ⟨fun _ => ⟨⟨_, rfl⟩, H1, I2, q⟩, fun v e => (by cases e)⟩⟩)
  · refine G.next I1 f1 st1 (.inr ⟨yes, fun u s2 z => ⟨fun e => (by cases e), fun v e => ?_⟩⟩)
    cases e
    refine thn z fun _ s3 ⟨x, H3, y3, rv, ⟨I3, st3⟩, n3⟩ => ?_
    have f3 : ∀ b ∈ fp, FpOk Y pins H3 b := fun b hb => ⟨n3 b hb, (f1 b hb).2⟩
    have P3 := I3.pinned f3 (G.obj st3)
    have back : ∀ {H5 : Hp} {σ5 : L2.St} {s5 : Shared}, Inv Y (pins ++ pinsAt fp s3.heap) σ5 H5 s5 → (∀ (j : Nat) v, σ[j]? = some (some v) → σ5[j]? = some (some v)) → N H5 → ∃ m', m' < m ∧ ∃ i H1, W i m' H1 ∧ Inv Y pins σ H1 s5 ∧ tn i s5.heap ∧ ∀ b ∈ fp, FpOk Y pins H1 b := fun {H5 σ5 s5} I5 le n5 => by
      obtain ⟨m', lt, w5⟩ := fewer H5 n5
      have at5 : ∀ b ∈ fp, ∀ o, s3.heap.get? b = some o → s5.heap.get? b = some o ∧ H5 b = none := fun b hb o e => by
        have p := I5.pin (b, o) (List.mem_append_right _ (List.mem_append_right _ (mem_pinsAt hb e)))
        exact ⟨p.1, p.2.1⟩
      refine ⟨m', lt, i + 1, H5, w5, (I5.unpinned).weak (I.len.trans I5.len.symm) le, G.keep st3 fun b hb o e => (at5 b hb o e).1, fun b hb => ⟨?_, (f1 b hb).2⟩⟩
      obtain ⟨o, e, _⟩ := G.obj st3 b hb
      exact (at5 b hb o e).2
    refine thnF (hx ▸ hg.run _ s3 σ H3 x u _ P3 rv (q x H3 y3)) fun _ s4 ⟨σ4, H4, P4, same, t4⟩ => thnF (hx ▸ ht.run _ s4 σ4 H4 _ P4 t4) fun ok s5 ⟨H5, P5, q5⟩ => ?_
    have le0 : ∀ (j : Nat) v, σ[j]? = some (some v) → σ4[j]? = some (some v) := fun j v e => (wipe_sub (vs1 := []) same (fun _ z => by cases z)) j v (hw.symm ▸ e)
    cases ok with
    | false => exact ⟨rfl, back P5 le0 q5⟩
    | true =>
      have le1 : ∀ (j : Nat) v, σ[j]? = some (some v) → (wipe σ4 vs1)[j]? = some (some v) := fun j v e => wipe_sub same hv j v (hw.symm ▸ e)
      exact (hr D _ s5 σ4 H5 _ P5 q5).mono fun s6 ⟨H6, P6, q6⟩ => ⟨rfl, back P6 le1 q6⟩
theorem rest_for (hx : Y.xe = fun _ _ => False) (hk : gens[k]? = some ⟨tg, iter, ifs, 0⟩) (h1 : ∀ g', gens[k + 1]? = some g' → g'.is_async = 0 ∧ ∀ x, foldedSetIterable g'.iter Y.env x = pure x)
    (hi : Brings Y tg iter wi) (hg : PG Y tg g) (ht : PTs Y ifs tt) (hr : Rest Y elt gens scope pos (k + 1) vs1 r) (hv : ∀ i ∈ vs1, i ∈ vs) : Rest Y elt gens scope pos k vs (rFor wi g tt r vs) := fun D pins s σ H Q I h => by
  unfold Into
  rw [hk]
  refine thn (hx ▸ hi pins s σ H _ I h) fun v s1 z => thn z fun u s2 ⟨it, J, fp, tn, H1, e, G, q, I2, st, f⟩ => ?_
  subst e
  have I3 : Inv Y pins (wipe σ vs) H1 s2 := I2.weak (wipe_length σ vs) fun i v e => (wipe_some e).1
  have go := loop_at (iter := iter) hx hk h1 G hg ht hr hv I3 st f q wipe_idem
  exact comp_start hk rfl go (G.self st go)
/-- the whole: an iterator, a new list, the turns -/
def tDeep (wi : TI) (g : TG) (tt : TT) (r : TR) (vs : List Nat) : TE := fun σ H Q => wi σ H fun J H1 => ∀ D, H1 D = none → rTurns J g tt r vs D (wipe σ vs) (upd H1 D (.lst [])) (Q (.ref D))
/-- the block begins; the pins are told in it too -/
theorem blk_begins {X : Cx} {pins : List (Addr × Obj)} {σ : L2.St} {H : Hp} {s : Shared} {own : List (Str × Nat)} {fp : List Addr} (I : Inv X pins σ H s) (ok : BlkOk X.N X.env.scope scope own) (hN : X.N.Nodup) (hf : ∀ b ∈ fp, FpOk X pins H b ∧ b < s.heap.objs.size) :
    Inv (blkP X s H scope (compEnvC scope (cellsFrom (s.heap.objs.size + 1) scope.names (cloFrom X.env.cells scope.names [])) s.heap.objs.size X.env) fp) [] (wipe σ (own.map (·.2))) H { s with heap := pushCells (s.heap.push { cls := .type "dict", data := .dict #[] }) scope.names } := by
  have B := block_start I ok hN hf
  refine { B with ok := { B.ok with }, pin := fun p hp => ?_ }
  have hp' : p ∈ X.pn := by simpa using hp
  obtain ⟨a, b, c, d, e⟩ := I.pin p (List.mem_append_left _ hp')
  have lt := Heap.lt_size a
  refine ⟨?_, b, Nat.ne_of_lt lt, fun z => ?_, e⟩
  · exact pushCells_keeps _ _ _ _ (Heap.get?_push_of_some _ a)
  · exact (List.mem_cons.mp (I.stkSub _ z)).elim c d
theorem pe_deep {X : Cx} {own : List (Str × Nat)} {rest : List Comprehension} (hN : X.N.Nodup) (hi : Brings X tg iter wi) (ok : BlkOk X.N X.env.scope scope own)
    (hg : ∀ (s : Shared) (H : Hp) (C : Addr) (cl : List (Str × Addr)) (fp : List Addr), PG (blkP X s H scope (compEnvC scope cl C X.env) fp) tg g)
    (ht : ∀ (s : Shared) (H : Hp) (C : Addr) (cl : List (Str × Addr)) (fp : List Addr), PTs (blkP X s H scope (compEnvC scope cl C X.env) fp) ifs tt)
    (hr : ∀ (s : Shared) (H : Hp) (C : Addr) (cl : List (Str × Addr)) (fp : List Addr), Rest (blkP X s H scope (compEnvC scope cl C X.env) fp) elt (⟨tg, iter, ifs, 0⟩ :: rest) scope pos 1 vs1 r)
    (hv : ∀ i ∈ vs1, i ∈ own.map (·.2)) (h1 : ∀ g', rest[0]? = some g' → g'.is_async = 0 ∧ ∀ env x, foldedSetIterable g'.iter env x = pure x) (hs : ∀ x, foldedSetIterable iter X.env x = pure x := by intro _; rfl) :
    PE X (.ListComp elt (⟨tg, iter, ifs, 0⟩ :: rest) scope pos) (tDeep wi g tt r (own.map (·.2))) := by
  refine ⟨fun pins s σ H Q I h => ?_⟩
  have caught : ∀ y ∈ scope.names, y.2 = .free → ∃ c, X.env.cells.lookup y.1 = some c := fun y hy e => I.ok.has _ (ok.free y hy e)
  rw [eval_ListComp]
  refine wpAny_comprehension_free rfl hs (closure_ok caught) ok.kind (fun y hy e => (ok.uniq y hy).trans (congrArg some e)) (thn (hi pins s σ H _ I h) fun v s1 z => thn z fun u s2 ⟨it, J, fp, tn, H1, e, G, q, I2, st, f⟩ => ?_)
  subst e
  have I3 := I2.lnew (ys := []) (its := []) (t' := s2.toks) .nil (Nat.zero_le _)
  refine wpAny_newObj_type (newEnv_comp ?_) (Nat.zero_le _)
  have old : ∀ b ∈ fp, b < s2.heap.objs.size := fun b hb => let ⟨_, e, _⟩ := G.obj st b hb; Heap.lt_size e
  have f3 : ∀ b ∈ fp, FpOk X pins (upd H1 s2.heap.objs.size (.lst [])) b := fun b hb => ⟨(upd_ne (Nat.ne_of_lt (old b hb))).trans (f b hb).1, (f b hb).2⟩
  have B := blk_begins I3 ok hN fun b hb => ⟨f3 b hb, by rw [Heap.size_push]; exact Nat.lt_succ_of_lt (old b hb)⟩
  have fresh := q s2.heap.objs.size I2.fresh
  generalize hs3 : ({ s2 with heap := s2.heap.push { cls := .type "list", data := .seq ([] : List Value).toArray } } : Shared) = s3 at I3 B
  have st3 : tn 0 (pushCells (s3.heap.push { cls := .type "dict", data := .dict #[] }) scope.names) := G.keep st fun b _ o e => pushCells_keeps _ _ _ _ (Heap.get?_push_of_some _ (by rw [← hs3]; exact Heap.get?_push_of_some _ e))
  have G' : Goer (blkP X s3 (upd H1 s2.heap.objs.size (.lst [])) scope (compEnvC scope (cellsFrom (s3.heap.objs.size + 1) scope.names (cloFrom X.env.cells scope.names [])) s3.heap.objs.size X.env) fp) tg J fp it tn := G
  have f4 : ∀ b ∈ fp, FpOk (blkP X s3 (upd H1 s2.heap.objs.size (.lst [])) scope (compEnvC scope (cellsFrom (s3.heap.objs.size + 1) scope.names (cloFrom X.env.cells scope.names [])) s3.heap.objs.size X.env) fp) [] (upd H1 s2.heap.objs.size (.lst [])) b := fun b hb => by
    obtain ⟨a0, a1, a2, a3, a4, a5⟩ := f3 b hb
    refine ⟨a0, (B.ok.exf b hb).1, B.ok.exfs b hb, .inl hb, (B.ok.exf b hb).2, fun p hp => ?_⟩
    exact a5 p (List.mem_append_left _ (by simpa using hp))
  have go := loop_at (elt := elt) (gens := ⟨tg, iter, ifs, 0⟩ :: rest) (pos := pos) (k := 0) (iter := iter) (D := s2.heap.objs.size) rfl rfl (fun g' e => ⟨(h1 g' e).1, (h1 g' e).2 _⟩) G' (hg _ _ _ _ _) (ht _ _ _ _ _) (hr _ _ _ _ _) hv B st3 f4 fresh wipe_idem
  have ended := comp_start rfl rfl go (G'.self st3 go)
  refine codeAny_mono ended fun res s5 ⟨⟨fl, e⟩, H5, I5, q5⟩ => ?_
  subst e
  obtain ⟨m, hm, _⟩ := I5.loc
  refine ⟨m, hm, fun h' sb => ⟨.ref s2.heap.objs.size, H5, ?_, rfl, q5⟩⟩
  obtain ⟨z0, z1, z2, z3, z4, z5⟩ := I3.fpOk (Nat.le_refl _) I5.free
  have I6 : Inv X pins σ H5 s5 := I3.call' I5.os I5.base I5.hok I5.bare fun b hb => ⟨(f3 b hb).2.2.2.1, (f3 b hb).2.1, (f3 b hb).2.2.2.2.1, (f3 b hb).2.2.2.2.2⟩
  exact I6.turned (t' := s5.toks) (fun b o hb e => (sb.2 b hb).trans e) z0 z1 z3 z4 z5
end

/-! ### a tuple unpacked while an error is handled -/
section
variable {prog : Program} {w : World} {A : Around} {E : Value → Shared → Prop} {s : Shared} {hot : Addr}
/-- a rising iterator that is through tells its end by a new error -/
theorem rising_through {it l : Addr} {o ol : Obj} {i : Nat} {items : Array Value} {n : Nat} {G : PySem.Fin → Shared → Prop} {Z : Value → Shared → Prop} (ho : HotX.HotAt A hot s.heap) (ih : hot ≠ it) (eo : s.heap.get? it = some o) (fo : o.data = .fields #[.ref l, .int i 0])
    (el : s.heap.get? l = some ol) (fl : ol.data = .seq items n) (past : items[i]? = none)
    (z : ∀ g a, (∀ c v, c ≠ it → s.heap.get? c = some v → g.get? c = some v) → (∃ v, g.get? a = some v ∧ v.cls = .type "StopIteration") → Z (.ref a) { s with heap := g }) :
    wpAny (model prog w) A (Builtin.«tuple_iterator.__next__» ⟨[.ref it], []⟩) G Z s := by
  obtain ⟨yes, u, fs, e, r⟩ := ho
  have off : (Value.ref l == Value.none) = false := rfl
  refine wpAny_bind (m := field _ 0) (wpAny_field eo fo (x := .ref l) rfl ?_)
  simp only [off, Bool.false_eq_true, if_false]
  refine wpAny_bind (m := field _ 1) (wpAny_field eo fo (x := .int i 0) rfl (wpAny_bind (m := seqItems? _) (wpAny_seqItems el fl ?_)))
  simp only [Int.toNat_natCast, past]
  refine wpAny_bind (wpAny_rule (wpAny_bind (wpAny_setField eo fo (Nat.zero_lt_succ _) (tells_end ⟨yes, u, fs, (Heap.get?_update_other _ _ (Ne.symm ih)).trans e, r⟩ fun g a k h => z g a (fun c v nc ec => k c v ?_) h))))
  exact (Heap.get?_update_other _ _ (Ne.symm nc)).trans ec
/-- the end of a tuple's iterator -/
theorem next_tuple_through {it t : Addr} {i : Nat} {items : Array Value} {Q : Option Value → Shared → Prop} (ho : HotX.HotAt A hot s.heap) (ih : hot ≠ it) (a : s.heap.IsTupleIter it t i) (b : s.heap.IsTuple t items) (past : items[i]? = none)
    (q : ∀ g, (∀ c v, c ≠ it → s.heap.get? c = some v → g.get? c = some v) → Q none { s with heap := g }) : wpAny (model prog w) A (pyNext (.ref it)) Q E s := by
  obtain ⟨o, eo, co, fo⟩ := id a
  obtain ⟨ol, el, _, n, fl⟩ := b
  have ho1 : HotX.HotAt A.in1 hot s.heap := ho
  refine wpAny_bind (wpAny_attempt (wpAny_callSpecial?_slot (name := Str.ofString "__next__") a.typeIs F.slot_tuple_iterator_next (wpAny_call_entry F.slot_tuple_iterator_next a.typeIs F.entry_tuple_iterator_next
    (rising_through ho1 ih eo fo el fl past fun g x k ⟨v, ev, cv⟩ => ?_) (F.args_tuple_iterator_next_1 _))))
  exact wpAny_bind (wpAny_isInstance (T := "StopIteration") (U := "StopIteration") (b := true) ⟨v, ev, cv⟩ isSubtype_stop (wpAny_pure (q g k)))
/-- all that a tuple holds is handed out; only an iterator is new -/
theorem unpacked {t : Addr} {items : Array Value} {Q : List Value → Shared → Prop} (ho : HotX.HotAt A hot s.heap) (b : s.heap.IsTuple t items)
    (q : ∀ g, (∀ c v, s.heap.get? c = some v → g.get? c = some v) → Q items.toList { s with heap := g }) : wpAny (model prog w) A (unpackItems (.ref t) items.size none) Q E s := by
  have young : ∀ {c : Addr} {v : Obj}, s.heap.get? c = some v → c ≠ s.heap.objs.size := fun e => Nat.ne_of_lt (Heap.lt_size e)
  have bt : t ≠ s.heap.objs.size := let ⟨_, e, _⟩ := b; young e
  obtain ⟨yes, u, fs, eu, r⟩ := id ho
  -- behind the draws
  have last : ∀ g : Heap, g.IsTupleIter s.heap.objs.size t items.size → (∀ c v, s.heap.get? c = some v → g.get? c = some v) →
      wpAny (model prog w) A (pyNext (.ref s.heap.objs.size)) (fun x s' => x = none ∧ Q items.toList s') E { s with heap := g } := fun g it k =>
    next_tuple_through (s := { s with heap := g }) ⟨yes, u, fs, k _ _ eu, r⟩ (young eu) it (let ⟨o, e, z⟩ := b; ⟨o, k _ _ e, z⟩) (Array.getElem?_eq_none (Nat.le_refl _)) fun g' k' => ⟨rfl, q g' fun c v e => k' c v (young e) (k c v e)⟩
  have all : wpAny (model prog w) A (draw (.ref s.heap.objs.size) items.size) (fun vs s' => vs = items.toList ∧ wpAny (model prog w) A (pyNext (.ref s.heap.objs.size)) (fun x s' => x = none ∧ Q items.toList s') E s') E { s with heap := s.heap.push { cls := .type "tuple_iterator", data := .fields #[.ref t, .int 0 0] } } :=
    wpAny_draw_tuple bt items.size 0 _ _ ⟨_, Heap.get?_push_size _ rfl, rfl, rfl⟩ (b.push _) (Nat.le_of_eq (Nat.zero_add _)) fun g it k => ⟨List.take_of_length_le (Nat.le_of_eq Array.length_toList), last g (Nat.zero_add items.size ▸ it) fun c v e => k.extBut c v (young e) (Heap.get?_push_of_some _ e)⟩
  refine wpAny_bind (m := notIterableAtAll _) (wpAny_bind (m := specialOf _ _) (wpAny_specialOf b.typeIs F.slot_tuple_iter.lookup (wpAny_pure ?_)))
  refine wpAny_bind (m := holding _ _) (wpAny_holding (wpAny_pyIter_tuple b (wpAny_bind (m := holding _ _) (wpAny_holding (thn all fun vs s1 ⟨e, z⟩ => ?_)))))
  subst e
  have full : ¬ items.toList.length < items.size := by simp
  simp only [full, if_false]
  exact wpAny_bind (m := holding _ _) (wpAny_holding (thn z fun x s2 ⟨e, z2⟩ => by subst e; exact wpAny_pure z2))
/-- stored to names, each its own -/
theorem unpacked_to {elts : List Expr} {k : Nat} {pos : Pos} {env : Env} {t : Addr} {items : Array Value} {Q : Unit → Shared → Prop} (ho : HotX.HotAt A hot s.heap) (b : s.heap.IsTuple t items) (hn : (assignEach elts env).length = items.size) (hst : (assignEach elts env).findIdx? (·.1) = none)
    (q : ∀ g, (∀ c v, s.heap.get? c = some v → g.get? c = some v) → wpAny (model prog w) A (assignInOrder ((assignEach elts env).map (·.2)) items.toList) Q E { s with heap := g }) : wpAny (model prog w) A (assign (.Tuple elts k pos) env (.ref t)) Q E s :=
  wpAny_bind (m := standAt pos) (wpAny_standAt (wpAny_bind (m := holding _ _) (wpAny_holding (hn ▸ hst ▸ unpacked ho b q))))
/-- a, b, .. = a tuple, there -/
theorem pg_tupH {X : Cx} {es : List Expr} {k n : Nat} {t : TGs} {pos : Pos} (hc : L2H.HotC X) (each : PGs X es t) (hn : (assignEach es X.env).length = n := by rfl) (hst : (assignEach es X.env).findIdx? (·.1) = none := by rfl) : PG X (.Tuple es k pos) (gTup X.K n t) where
  run := by
    rintro pins s σ H _ u Q I rel ⟨at_, xs, rfl, tup, many, go⟩
    obtain rfl : u = .ref at_ := rel
    obtain ⟨_, hot⟩ := hc.at I
    have ⟨us, same, isT, _⟩ := I.tuple tup
    have size : us.toArray.size = xs.length := by simp [same.length]
    exact unpacked_to hot isT (by rw [hn, size, many]) hst fun g k => each.run pins _ σ H xs us Q (I.kept (t' := s.toks) k) same go
end

/-! ### zip of two lists while an error is handled -/
/-- as the library's, but that the end is told at the shorter one's length -/
def ItzH (K : PySem.W.Frag) (a b : Addr) : It := { Itz K a b with stop := fun i H => ∃ xs ys : List V, SqL K H a xs ∧ SqL K H b ys ∧ i = min xs.length ys.length }
/-- what the objects of such a zip are at turn i -/
def ZipAt (a b z TI TO i1 i2 : Addr) (i : Nat) (h : Heap) : Prop := IsZip h z TI TO .none ∧ IsTupOf2 h TI (.ref i1) (.ref i2) ∧ (∃ x y, IsTupOf2 h TO x y) ∧ h.IsListIter i1 a i ∧ h.IsListIter i2 b i
section
variable {a b z TI TO i1 i2 : Addr}
theorem ZipAt.obj {i : Nat} {h : Heap} (st : ZipAt a b z TI TO i1 i2 i h) : ∀ c ∈ [z, TI, TO, i1, i2], ∃ o, h.get? c = some o ∧ ∀ v, o.data ≠ .cell v := fun c hc => by
  obtain ⟨z1, z2, ⟨x, y, z3⟩, ⟨o4, z4, _, d4⟩, o5, z5, _, d5⟩ := st
  simp only [List.mem_cons, List.not_mem_nil, or_false] at hc
  rcases hc with rfl | rfl | rfl | rfl | rfl
  · exact ⟨_, z1, fun v e => by cases e⟩
  · exact ⟨_, z2, fun v e => by cases e⟩
  · exact ⟨_, z3, fun v e => by cases e⟩
  · exact ⟨_, z4, fun v e => by rw [d4] at e; cases e⟩
  · exact ⟨_, z5, fun v e => by rw [d5] at e; cases e⟩
theorem ZipAt.keep {i : Nat} {h h' : Heap} (st : ZipAt a b z TI TO i1 i2 i h) (k : ∀ c ∈ [z, TI, TO, i1, i2], ∀ o, h.get? c = some o → h'.get? c = some o) : ZipAt a b z TI TO i1 i2 i h' := by
  obtain ⟨z1, z2, ⟨x, y, z3⟩, ⟨o4, z4, r4⟩, o5, z5, r5⟩ := st
  exact ⟨k z (by simp) _ z1, k TI (by simp) _ z2, ⟨x, y, k TO (by simp) _ z3⟩, ⟨o4, k i1 (by simp) _ z4, r4⟩, o5, k i2 (by simp) _ z5, r5⟩
/-- the walk of such a zip, the handled error's object kept by -/
theorem zip_goes {X : Cx} {pins : List (Addr × Obj)} {σ : L2.St} {H : Hp} {s : Shared} {elts : List Expr} {kk : Nat} {tpos : Pos} (S : ZipSep2 z TI TO i1 i2 [i1, a] [i2, b]) (c : L2H.HotC X) (I : Inv X pins σ H s) (f : ∀ c ∈ [z, TI, TO, i1, i2], FpOk X pins H c)
    {j : Nat} (st : ZipAt a b z TI TO i1 i2 j s.heap) {xs ys : List V} (ha : SqL X.K H a xs) (hb : SqL X.K H b ys) : ∃ (us vs : List Value) (hot : Addr) (St : Nat → Heap → Prop), Vals xs us ∧ Vals ys vs ∧ (∀ i h, St i h → ZipAt a b z TI TO i1 i2 i h) ∧ St j s.heap ∧
      GoesN X.prog X.w X.A (.Tuple elts kk tpos) z (z :: TI :: TO :: ([i1, a, hot] ++ [i2, b, hot])) [z, TO, i1, i2] (min us.length vs.length) (fun i h0 v h => ∃ T x y, v = .ref T ∧ h0.objs.size ≤ T ∧ us[i]? = some x ∧ vs[i]? = some y ∧ h.IsTuple T #[x, y]) St := by
  obtain ⟨us, ru, pu, _⟩ := I.list ha
  obtain ⟨vs, rv, pv, _⟩ := I.list hb
  obtain ⟨p, ⟨yes, w1, e1, c1⟩, hp⟩ := id c
  have off : ∀ d ∈ [z, TI, TO, i1, i2], p.1 ≠ d := fun d hd => (f d hd).2.2.2.2.2 p (List.mem_append_left _ hp)
  have hotAt : HotX.HotAt X.A p.1 s.heap := ⟨yes, p.2, w1, (I.pin p (List.mem_append_left _ hp)).1, e1, c1⟩
  have o1 := off z (by simp); have o3 := off TO (by simp); have o4 := off i1 (by simp); have o5 := off i2 (by simp)
  obtain ⟨z1, z2, z3, ⟨q1, g1, k1, d1⟩, q2, g2, k2, d2⟩ := id st
  have n1 : a ≠ i1 := fun e => by
    obtain ⟨o, _, g, _, _, k⟩ := pu
    rw [e, g1] at g; cases g
    rw [d1] at k; cases k
  have n2 : b ≠ i2 := fun e => by
    obtain ⟨o, _, g, _, _, k⟩ := pv
    rw [e, g2] at g; cases g
    rw [d2] at k; cases k
  have wide : ∀ {c d : Addr} {m : Addr}, c ∉ [d, m] → p.1 ≠ c → c ∉ [d, m, p.1] := fun {c d m} h1 h2 h => by
    simp only [List.mem_cons, List.not_mem_nil, or_false, not_or] at h1 h
    rcases h with h | h | h
    · exact h1.1 h
    · exact h1.2 h
    · exact h2 h.symm
  have S' : ZipSep2 z TI TO i1 i2 [i1, a, p.1] [i2, b, p.1] := { S with mem1 := List.mem_cons_self .., mem2 := List.mem_cons_self .., zf1 := wide S.zf1 o1, Tf1 := wide S.Tf1 o3, zf2 := wide S.zf2 o1, Tf2 := wide S.Tf2 o3, sep1_2 := wide S.sep1_2 o4, sep2_1 := wide S.sep2_1 o5 }
  have W := (GoesN.zip2 (prog := X.prog) (w := X.w) (elts := elts) (x1 := kk) (pos := tpos) S' (draws_by (B := X.A.in1) n1 o4 yes us.toArray) (draws_by (B := X.A.in1) n2 o5 yes vs.toArray)).mono (Y' := fun i h0 v h => ∃ T x y, v = .ref T ∧ h0.objs.size ≤ T ∧ us[i]? = some x ∧ vs[i]? = some y ∧ h.IsTuple T #[x, y]) fun i h0 v h _ ⟨T, x, y, e, n, hx, hy, ht⟩ => ⟨T, x, y, e, n, by simpa using hx, by simpa using hy, ht⟩
  exact ⟨us, vs, p.1, _, ru, rv, fun i h ⟨y1, y2, y3, ⟨y4, _⟩, y5, _⟩ => ⟨y1, y2, y3, y4, y5⟩, ⟨z1, z2, z3, ⟨⟨q1, g1, k1, d1⟩, pu.isList, hotAt⟩, ⟨q2, g2, k2, d2⟩, pv.isList, hotAt⟩, W⟩
theorem vals_at {xs : List V} {us : List Value} (r : Vals xs us) {i : Nat} {u : Value} (e : us[i]? = some u) : ∃ x, xs[i]? = some x ∧ RelV x u := by
  induction r generalizing i with
  | nil => cases e
  | cons h t ih => cases i with
    | zero => cases e; exact ⟨_, rfl, h⟩
    | succ i => exact ih e
theorem zip_turnsH {P : Program} {w : World} {K : PySem.W.Frag} {elts : List Expr} {kk : Nat} {tpos : Pos} (S : ZipSep2 z TI TO i1 i2 [i1, a] [i2, b]) : L2H.TurnH P w K (.Tuple elts kk tpos) (ItzH K a b) [z, TI, TO, i1, i2] z (ZipAt a b z TI TO i1 i2) := by
  have sub : ∀ c ∈ [z, TO, i1, i2], c ∈ [z, TI, TO, i1, i2] := fun c hc => (List.mem_cons.mp hc).elim (fun e => e ▸ List.mem_cons_self ..) fun h => List.mem_cons_of_mem _ (List.mem_cons_of_mem _ h)
  constructor
  case mem => simp
  case obj => exact fun i h st => st.obj
  case keep => exact fun i h h' st k => st.keep k
  case self => exact fun A i s Q E st q => wpAny_pyIter_zip st.1 q
  case done =>
    rintro X rfl rfl rfl c i pins s σ H E I f st ⟨xs, ys, ha, hb, rfl⟩
    obtain ⟨us, vs, hot, St, ru, rv, _, st', W⟩ := zip_goes (elts := elts) (kk := kk) (tpos := tpos) S c I f st ha hb
    rw [ru.length, rv.length] at st'
    refine W.stops s _ E st' fun h' tk k _ => ?_
    exact I.turnedL k fun c hc => f c (sub c hc)
  case item =>
    rintro X rfl rfl rfl c i pins s σ H E I f st ⟨xs, ys, x, y, ha, hb, ex, ey⟩
    obtain ⟨us, vs, hot, St, ru, rv, back, st', W⟩ := zip_goes (elts := elts) (kk := kk) (tpos := tpos) S c I f st ha hb
    have lt : i < min us.length vs.length := by
      have l1 := (List.getElem?_eq_some_iff.mp ex).1
      have l2 := (List.getElem?_eq_some_iff.mp ey).1
      rw [ru.length] at l1; rw [rv.length] at l2; omega
    refine W.goes i s (fun v s2 => ∃ x H', Inv X pins σ H' s2 ∧ RelV x v ∧ (ItzH X.K a b).yld i H x H' ∧ ZipAt a b z TI TO i1 i2 (i + 1) s2.heap ∧ ∀ b ∈ [z, TI, TO, i1, i2], H' b = none) E lt st' ?_
    rintro v h' tk ⟨T, u1, u2, rfl, hT, e1, e2, tu⟩ stn k _
    obtain ⟨x1, f1, r1⟩ := vals_at ru e1
    obtain ⟨x2, f2, r2⟩ := vals_at rv e2
    have fresh : H T = none := I.hok.fresh hT
    refine ⟨.ref T, upd H T (.tup [x1, x2]), I.turnedNew k (fun c hc => f c (sub c hc)) hT ⟨by show 2 ≤ sizeLine; decide, [u1, u2], .cons r1 (.cons r2 .nil), tu⟩, rfl, ⟨T, x1, x2, rfl, fresh, rfl, fun zs hz => I.list_inj ha hz ▸ f1, fun zs hz => I.list_inj hb hz ▸ f2⟩, back _ _ stn, fun c hc => ?_⟩
    obtain ⟨o, eo, _⟩ := st.obj c hc
    exact (upd_ne (Nat.ne_of_lt (Nat.lt_of_lt_of_le (Heap.lt_size eo) hT))).trans (f c hc).1
end
/-- zip(a, b) there -/
def iZipH (K : PySem.W.Frag) (ta : TA) : TI := fun σ H R => ta σ H fun vs H1 => ∃ a b xs ys, vs = [.ref a, .ref b] ∧ SqL K H1 a xs ∧ SqL K H1 b ys ∧ R (ItzH K a b) H1
theorem pi_zipH {X : Cx} {e e2 : Expr} {ta : TA} {p pos tpos : Pos} {elts : List Expr} {kk : Nat} (gl : Gl X "zip") (no : X.mg "zip" = none) (args : PA X [e, e2] ta) (two : starEach [e, e2] X.env = (false, eval e X.env) :: starEach [e2] X.env := by rfl) (last : (backTo pos (starEach [e2] X.env)).any (·.1) = false := by rfl) :
    L2H.PIH X (.Tuple elts kk tpos) (.Call (.Name "zip" p) [e, e2] [] pos) (iZipH X.K ta) := by
  constructor
  intro pins s σ H R I h
  have run := args.run pos pins s σ H _ I h
  refine Call_ (ld_blt I gl no boot_zip (PyProof.Rows.callWith_type1 (thn run fun us s1 got => ?_) two last))
  obtain ⟨vs, H1, I1, rel, a, b, xs, ys, rfl, ha, hb, q⟩ := got
  obtain ⟨u1, u2, rfl, r1, r2⟩ : ∃ u1 u2, us = [u1, u2] ∧ RelV (.ref a) u1 ∧ RelV (.ref b) u2 := by
    rcases rel with _ | ⟨x1, _ | ⟨x2, _ | _⟩⟩
    exact ⟨_, _, rfl, x1, x2⟩
  cases r1; cases r2
  obtain ⟨is, _, pa, _⟩ := I1.list ha
  obtain ⟨js, _, pb, _⟩ := I1.list hb
  have la : a < s1.heap.objs.size := let ⟨_, _, e, _⟩ := pa; Heap.lt_size e
  have lb : b < s1.heap.objs.size := let ⟨_, _, e, _⟩ := pb; Heap.lt_size e
  refine zip_begins2 (begins_list a is.toArray) (begins_list b js.toArray) pa.isList pb.isList fun g g1 g2 g3 g4 g5 _ k => wpAny_pyIter_zip g1 ?_
  refine ⟨_, _, _, _, H1, rfl, I1.kept (t' := s1.toks) k, zip_turnsH (zip_sep2 (N := s1.heap.objs.size) (fp1 := [a]) (fp2 := [b]) (fun c hc => List.mem_singleton.mp hc ▸ la) fun c hc => List.mem_singleton.mp hc ▸ lb), ⟨g1, g2, ⟨_, _, g3⟩, ⟨_, g4, rfl, rfl⟩, _, g5, rfl, rfl⟩, fun c hc => ?_, q⟩
  have le : s1.heap.objs.size ≤ c := by
    simp only [List.mem_cons, List.not_mem_nil, or_false] at hc
    rcases hc with e | e | e | e | e <;> (rw [e]; first | exact Nat.le_add_right _ _ | exact Nat.le_refl _)
  exact I1.fpOk le (I1.hok.fresh le)

/-! ### a lambda called in the def that got it: that its errors bear no context stays known -/
section
variable {X : Cx} {pins : List (Addr × Obj)} {σ : L2.St} {H HZ : Hp} {s sZ : Shared} {scope : Scope} {params : Arguments} {body : Expr} {f c : Addr} {pm ctv : Value}
/-- the body's context -/
def lamN (X : Cx) (A : Around) (outer : List Env) (s : Shared) (H : Hp) (E : XK) (scope : Scope) (f c : Addr) : Cx :=
  { LamX.lamCx X A outer s H E scope f c with
    xe := fun e t => wpAny (model X.prog X.w) (A.deeper (LamX.lamEnv X scope s.heap.objs.size f c)) (leaving (LamX.lamEnv X scope s.heap.objs.size f c) e) (fun _ t' => L2N.CX X.prog X.w outer H s E e t') (fun _ _ => False) t }
theorem lamN_takes {A : Around} {outer : List Env} {E : XK} : L2N.Takes (lamN X A outer s H E scope f c) (fun cls d _ H' => E cls d H') := L2N.takes_of rfl rfl rfl rfl
/-- the lambda at f, as its maker X left it in s -/
structure LamAt (X : Cx) (s : Shared) (H : Hp) (params : Arguments) (body : Expr) (scope : Scope) (f c : Addr) : Prop where
  obj : ∃ pm ctv, s.heap.get? f = some (PySem.W.kla_obj "<lambda>" (X.env.qual ++ "<lambda>") params body scope (cloFrom X.env.cells scope.names []) pm c ctv)
  out : H f = none
  nofr : f ∉ frs X.stack
  code : H c = some (LamX.CodeO c (X.env.qual ++ "<lambda>"))
/-- run where the frames are outer -/
theorem lam_runs {A : Around} {outer : List Env} {E : XK} {Q : VK} {tb : TE} (I : Inv X pins σ H s) (L : LamX.LamS X.env.scope scope) (at_ : LamAt X s H params body scope f c)
    (none_ : ∀ (q : Str) (cl : List (Str × Addr)) (pm cv ctv : Value), bindArgs (PySem.W.kla_fn "<lambda>" q params body scope cl pm cv ctv) ⟨[], []⟩ = pure [])
    (e0 : Env0 X.prog X.w X.K X.mg X.base A outer sZ HZ) (calm : A.handled = none) (room : A.depth < recursionLimit) (un : Un (frs X.stack) [] H HZ s.heap sZ.heap) (code : HZ c = some (LamX.CodeO c (X.env.qual ++ "<lambda>")))
    (runs : PE (lamN X A outer sZ HZ E scope f c) body tb) (h : tb σ HZ Q) : codeAny (model X.prog X.w) A (.call (.ref f) ⟨[], []⟩) (CR (L2N.CX X.prog X.w) outer X.prog X.w HZ sZ Q E) sZ := by
  obtain ⟨pm, ctv, made⟩ := at_.obj
  have now := un.keep f _ made at_.out at_.nofr List.not_mem_nil
  obtain ⟨⟨oc, vs, tk, g1, g2, g3⟩, _⟩ := e0.hok c _ code
  refine PySem.W.kla_callFunE room now rfl L.co L.gen rfl ⟨c, oc, vs, tk, rfl, g1, g2, g3⟩ (wpAny_of_eq (none_ _ _ _ _ _) ?_)
  refine wpAny_newFunctionEnv (fun x hx => (L.own x hx).2) (fun x hx => by cases hx) (fun g names same => ?_) L.kind
  have kept : ∀ b o, sZ.heap.get? b = some o → g.get? b = some o := fun b o e => (same.2 b (Nat.ne_of_lt (Heap.lt_size e))).trans (Heap.get?_push_of_some _ e)
  have J := LamX.lam_start2 (E := E) (f := f) (c' := c) (tk := sZ.toks + ([] : List (Str × Value)).length) I L e0 calm un names kept
  refine ⟨J.nolimit, PySem.W.kla_codeExpr ?_⟩
  have J' : Inv (lamN X A outer sZ HZ E scope f c) [] σ HZ { sZ with heap := g, toks := sZ.toks + ([] : List (Str × Value)).length } := { J with ok := { J.ok with } }
  refine wpAny_mono (runs.run [] _ σ HZ Q J' h) (fun u t ⟨v, H', I', r, q⟩ => ?_) fun e t z => wpAny_mono z (fun _ _ x => x) fun _ _ x => x.elim
  exact ⟨v, H', I'.os, I'.bare, I'.base, I'.hok, r, q⟩
/-- a(), where a holds the lambda: Z is the context of the def that got it, entered at s -/
theorem pe_door {Z : Cx} {W : WX} {tb : XK → TE} {i : Nat} {a : Str} {p1 p2 : Pos} (I : Inv X pins σ H s) (L : LamX.LamS X.env.scope scope) (at_ : LamAt X s H params body scope f c)
    (none_ : ∀ (q : Str) (cl : List (Str × Addr)) (pm cv ctv : Value), bindArgs (PySem.W.kla_fn "<lambda>" q params body scope cl pm cv ctv) ⟨[], []⟩ = pure [])
    (same : Z.prog = X.prog ∧ Z.w = X.w ∧ Z.K = X.K ∧ Z.mg = X.mg ∧ Z.base = X.base) (ent : Z.s_0 = s ∧ Z.H_0 = H ∧ Z.outer = X.stack ∧ Z.ex = []) (calm : Z.calm = true) (room : Z.A.depth < recursionLimit)
    (tk : L2N.Takes Z W) (runs : ∀ (sZ : Shared) (HZ : Hp) (E : XK), PE (lamN X Z.A Z.stack sZ HZ E scope f c) body (tb E))
    (hN : Z.N[i]? = some a) (hv : Vis Z.env.scope a) (hd : (a == ("__debug__" : Str)) = false := by decide) (hcd : (a == ("__classdict__" : Str)) = false := by decide) :
    PE Z (.Call (.Name a p1) [] [] p2) (fun σZ HZ Q => σZ[i]? = some (some (.ref f)) ∧ HZ c = some (LamX.CodeO c (X.env.qual ++ "<lambda>")) ∧ tb (fun cls d H' => W cls d σZ H') σ HZ Q) := by
  obtain ⟨zp, zw, zk, zm, zb⟩ := same
  obtain ⟨zs, zh, zo, zx⟩ := ent
  refine ⟨fun pinsZ sZ σZ HZ Q IZ ⟨slot, code, h⟩ => wpAny_Call_Name_kw ?_⟩
  refine thn ((pe_var (pos := p1) hN hv hd hcd).run pinsZ sZ σZ HZ (fun v H1 => v = .ref f ∧ H1 = HZ) IZ ⟨_, slot, rfl, rfl⟩) fun u s1 ⟨v, H1, I1, r1, ev, eh⟩ => ?_
  subst ev eh
  cases r1
  have un : Un (frs X.stack) [] H H1 s.heap s1.heap := by
    have b := I1.base
    rw [zs, zh, zx] at b
    show Un (frs X.stack) [] H H1 s.heap s1.heap
    rw [← zo]
    exact b
  have e0 := I1.env0
  rw [zp, zw, zk, zm, zb] at e0
  obtain ⟨pm, ctv, made⟩ := at_.obj
  refine PySem.W.callWith_F0 ⟨_, _, _, _, un.keep f _ made at_.out at_.nofr List.not_mem_nil⟩ (wpAny_call ?_)
  have go := lam_runs (E := fun cls d H' => W cls d σZ H') I L at_ none_ e0 (I1.ok.hd calm) room un code (runs s1 H1 _) h
  rw [zp, zw]
  refine codeAny_mono go fun r t e => ?_
  match r, e with
  | .ok (.ret u), e => exact I1.after (by rw [zp, zw]; exact e)
  | .error x, e => exact tk x t (L2N.XE.of_call I1 (fun _ _ _ z => z) (by rw [zp, zw]; exact e))
end

/-! ### a def called with the handled error itself -/
section
variable {Y : Cx} {p : Addr × Obj} {k i : Nat} {x a e : Str} {st : Stmt} {f : Addr} {fd : FuncData} {N : List Str} {R : Hp → VK → Prop}
theorem pe_told {q q1 pos : Pos} (F : Fun Y.K x x st f fd) (S : FnScope N [a] (defScope st)) (b : Binds Y.K fd [a] []) (hot : L2H.Hot1 Y.A p) (mem : p ∈ Y.pn) (room : L2H.RoomH (k + 1) Y.A) (hg : Gl Y x) (hm : Y.mg x = some (.ref f))
    (hN : Y.N[i]? = some e) (hv : Vis Y.env.scope e)
    (runs : ∀ (cdv : Value) (A : Around) (outer : List Env) (s : Shared) (H : Hp) (Q : VK), L2H.Hot1 A p → L2H.RoomH k (A.deeper (envOfC x (defScope st) s.heap.objs.size f cdv)) → R H Q →
      ∃ t, PSs (L2H.cxH CX0 Y.prog Y.w Y.K Y.mg Y.base N x (defScope st) f cdv A outer s H E0 p) (defBody st) t ∧ t { nx := fun _ H' => Q .non H', rt := Q } (L2.start N [.ref p.1]) H)
    (hdx : (x == ("__debug__" : Str)) = false := by decide) (hde : (e == ("__debug__" : Str)) = false := by decide) (hce : (e == ("__classdict__" : Str)) = false := by decide) :
    PE Y (.Call (.Name x q) [.Name e q1] [] pos) (fun σ H Q => σ[i]? = some (some (.ref p.1)) ∧ R H Q) := by
  obtain ⟨oc, od, kV, doc, pm, an, cdv, ct, osl, rfl, there, code⟩ := F.ex
  refine ⟨fun pins s σ H Q I ⟨slot, h⟩ => wpAny_Call_Name_kw (ld_glob I hg hm ?_ hdx)⟩
  have arg := (pe_var (pos := q1) hN hv hde hce).run pins s σ H (fun v H1 => v = .ref p.1 ∧ H1 = H) I ⟨_, slot, rfl, rfl⟩
  refine PySem.W.callWith_K (h₀ := Y.base) I.ok.mod.kin F.kp (args_cons (thn arg fun u s1 ⟨v, H1, I1, r1, ev, eh⟩ => args_nil ⟨I1.kIn, ?_⟩))
  subst ev eh
  cases r1
  obtain ⟨g1, g2, g3, g4, g5⟩ := I1.pin p (List.mem_append_left _ mem)
  have pin : L2H.PinOk Y.stack H1 s1 p := ⟨g1, g2, fun z => (List.mem_cons.mp (I1.stkSub _ z)).elim g3 g4, g5⟩
  have bound := b s1 [.ref p.1] I1.kIn rfl
  have kinds : (([a].zip ([Value.ref p.1] ++ [])).all fun y => (defScope st).names.lookup y.1 == some .local || (defScope st).names.lookup y.1 == some .cell) = true := by
    rcases S.par a (List.mem_cons_self ..) with z | z <;> simp [z]
  refine wpAny_call (codeAny_mono (R := fun r t => ∃ u, r = .ok (.ret u) ∧ CE Y.stack Y.prog Y.w H1 s1 Q u t) ?_ fun r t ⟨u, er, c⟩ => er ▸ I1.after c)
  refine Att.call_fn I1.kIn I1.nolimit there code room.depth bound kinds (fun s2 entered => ?_) S.co S.gen S.kind
  obtain ⟨t, walk, rd⟩ := runs cdv Y.A Y.stack s1 H1 Q hot (room.deeper _) h
  have J := L2H.inv_startH (CX := CX0) (E := E0) S pin I1.env0 (vs := [.ref p.1]) rfl (.cons rfl .nil) entered
  refine wpAny_mono (walk.run [] s2 _ H1 _ J rd) (fun fl s3 z => ?_) fun e s3 z => wpAny_mono z (fun _ _ no => (no : False).elim) fun _ _ no => (no : False).elim
  cases fl with
  | next => obtain ⟨σ', H', I', z⟩ := z; exact ⟨_, rfl, .non, H', I'.os, I'.bare, I'.base, I'.hok, rfl, z⟩
  | brk => obtain ⟨_, _, _, z⟩ := z; exact z.elim
  | cont => obtain ⟨_, _, _, z⟩ := z; exact z.elim
  | ret u => obtain ⟨v, σ', H', I', r, z⟩ := z; exact ⟨_, rfl, v, H', I'.os, I'.bare, I'.base, I'.hok, r, z⟩
end

/-- a walk within a walk: the body is told where it goes on -/
theorem walk_in {J : It} {n : Nat} {G : Hp → Prop} {Y : Nat → Hp → V → Hp → Prop} (w : Walk J n G Y) {body : V → Hp → (Hp → Prop) → Prop} {Nx : Hp → Prop} {H0 : Hp} (Pv : Nat → Hp → Prop) (h0 : Pv 0 H0) (hG : ∀ i H, i ≤ n → Pv i H → G H)
    (hs : ∀ i x H H', i < n → Pv i H → Y i H x H' → body x H' (Pv (i + 1))) (hd : ∀ H, Pv n H → Nx H) :
    ∃ W : Nat → Nat → Hp → Prop, (∃ m, W 0 m H0) ∧ ∀ i m H, W i m H → (J.stop i H ∧ Nx H) ∨ (J.go i H ∧ ∃ N : Hp → Prop, (∀ H', N H' → ∃ m', m' < m ∧ W (i + 1) m' H') ∧ ∀ x H', J.yld i H x H' → body x H' N) := by
  refine ⟨fun i m H => i + m = n ∧ Pv i H, ⟨n, Nat.zero_add n, h0⟩, fun i m H ⟨im, p⟩ => ?_⟩
  have g := hG i H (by omega) p
  cases m with
  | zero =>
    obtain rfl : i = n := by omega
    exact .inl ⟨w.stops H g, hd H p⟩
  | succ m => exact .inr ⟨w.goes i H (by omega) g, Pv (i + 1), fun H' p' => ⟨m, Nat.lt_succ_self m, by omega, p'⟩, fun x H' y => hs i x H H' (by omega) p (w.yields i H x H' (by omega) g y)⟩

/-! ### the text -/
def topS (i : Nat) : Stmt := PySem.Challenge.pw_longyears_k12_what_is_refused.main.body.getD i (.Pass ⟨0, 0, 0, 0⟩)
abbrev s__wall : Stmt := topS 0
abbrev s_is_whole : Stmt := topS 13
abbrev s_is_between : Stmt := topS 14
abbrev s_common_measure : Stmt := topS 15
abbrev s_undoing_factor : Stmt := topS 16
abbrev s_is_land : Stmt := topS 22
abbrev s_need_land : Stmt := topS 23
abbrev s_need_year : Stmt := topS 24
abbrev s_need_years : Stmt := topS 25
abbrev s_need_day : Stmt := topS 26
abbrev s_need_days : Stmt := topS 27
abbrev s_need_place : Stmt := topS 28
abbrev s_step_of : Stmt := topS 29
abbrev s_first_day : Stmt := topS 30
abbrev s_date_of : Stmt := topS 31
abbrev s_added_days : Stmt := topS 32
abbrev s_begin : Stmt := topS 33
abbrev s_date : Stmt := topS 34
abbrev s_is_long : Stmt := topS 35
abbrev s_next_long : Stmt := topS 36
abbrev s_long_years : Stmt := topS 37
abbrev s_need_week : Stmt := topS 40
abbrev s_need_name : Stmt := topS 41
abbrev s_need_asked : Stmt := topS 42
abbrev s_ring_of : Stmt := topS 43
abbrev s_shared_measure : Stmt := topS 44
abbrev s_cycle_of : Stmt := topS 45
abbrev s_falls : Stmt := topS 46
abbrev s_falling_years : Stmt := topS 47
abbrev s_next_year : Stmt := topS 48
abbrev s_how_many : Stmt := topS 49
abbrev s_lengths : Stmt := topS 50
abbrev s_is_barring : Stmt := topS 51
abbrev s_barring : Stmt := topS 52
abbrev s_bars : Stmt := topS 53
abbrev s_need_places : Stmt := topS 55
abbrev s_placed_days : Stmt := topS 56
abbrev s_shared_step : Stmt := topS 57
abbrev s_round_from : Stmt := topS 58
abbrev s_ends_ahead : Stmt := topS 59
abbrev s_next_day : Stmt := topS 60
abbrev s_days : Stmt := topS 61
abbrev s_is_parting : Stmt := topS 62
abbrev s_parting : Stmt := topS 63
abbrev s_parts : Stmt := topS 64
abbrev s_alike : Stmt := topS 66
abbrev s_first_parting : Stmt := topS 67
abbrev s__law_deck : Stmt := topS 71
abbrev s__law_pick : Stmt := topS 72
abbrev s__law_one : Stmt := topS 73
abbrev s__law_kin : Stmt := topS 74
abbrev s__law_try : Stmt := topS 75
abbrev s__law_land : Stmt := topS 76
abbrev s__law_any : Stmt := topS 77
abbrev s__law_by_land : Stmt := topS 78
abbrev s__law_by_week : Stmt := topS 79
abbrev s__law_by_two : Stmt := topS 80
abbrev s__law_all_told : Stmt := topS 81
abbrev s__law_numbers_right : Stmt := topS 82
abbrev s_law : Stmt := topS 83
abbrev s_Realm_init : Stmt := inClass (topS 69) 0
abbrev s_Realm_is_later : Stmt := inClass (topS 69) 8
abbrev s_Realm_land_on : Stmt := inClass (topS 69) 10
theorem sc__wall : FnScope ["k"] ["k"] (defScope s__wall) := ⟨rfl, rfl, rfl, by decide +kernel, rfl, by decide +kernel, by decide +kernel⟩
theorem sc_is_whole : FnScope ["thing"] ["thing"] (defScope s_is_whole) := ⟨rfl, rfl, rfl, by decide +kernel, rfl, by decide +kernel, by decide +kernel⟩
theorem sc_is_between : FnScope ["thing", "least", "most"] ["thing", "least", "most"] (defScope s_is_between) := ⟨rfl, rfl, rfl, by decide +kernel, rfl, by decide +kernel, by decide +kernel⟩
theorem sc_common_measure : FnScope ["one", "other"] ["one", "other"] (defScope s_common_measure) := ⟨rfl, rfl, rfl, by decide +kernel, rfl, by decide +kernel, by decide +kernel⟩
theorem sc_undoing_factor : FnScope ["number", "ring", "one", "other", "times_one", "times_other", "whole"] ["number", "ring"] (defScope s_undoing_factor) := ⟨rfl, rfl, rfl, by decide +kernel, rfl, by decide +kernel, by decide +kernel⟩
theorem sc_is_land : FnScope ["thing", "days", "top", "bottom", "shift"] ["thing"] (defScope s_is_land) := ⟨rfl, rfl, rfl, by decide +kernel, rfl, by decide +kernel, by decide +kernel⟩
theorem sc_need_land : FnScope ["thing"] ["thing"] (defScope s_need_land) := ⟨rfl, rfl, rfl, by decide +kernel, rfl, by decide +kernel, by decide +kernel⟩
theorem sc_need_year : FnScope ["thing"] ["thing"] (defScope s_need_year) := ⟨rfl, rfl, rfl, by decide +kernel, rfl, by decide +kernel, by decide +kernel⟩
theorem sc_need_years : FnScope ["first", "last"] ["first", "last"] (defScope s_need_years) := ⟨rfl, rfl, rfl, by decide +kernel, rfl, by decide +kernel, by decide +kernel⟩
theorem sc_need_day : FnScope ["thing"] ["thing"] (defScope s_need_day) := ⟨rfl, rfl, rfl, by decide +kernel, rfl, by decide +kernel, by decide +kernel⟩
theorem sc_need_days : FnScope ["first", "last"] ["first", "last"] (defScope s_need_days) := ⟨rfl, rfl, rfl, by decide +kernel, rfl, by decide +kernel, by decide +kernel⟩
theorem sc_need_place : FnScope ["land", "thing", "days"] ["land", "thing"] (defScope s_need_place) := ⟨rfl, rfl, rfl, by decide +kernel, rfl, by decide +kernel, by decide +kernel⟩
theorem sc_step_of : FnScope ["land", "days", "top", "bottom", "shift"] ["land"] (defScope s_step_of) := ⟨rfl, rfl, rfl, by decide +kernel, rfl, by decide +kernel, by decide +kernel⟩
theorem sc_first_day : FnScope ["land", "year", "days", "top", "bottom", "shift"] ["land", "year"] (defScope s_first_day) := ⟨rfl, rfl, rfl, by decide +kernel, rfl, by decide +kernel, by decide +kernel⟩
theorem sc_date_of : FnScope ["land", "day", "days", "top", "bottom", "shift", "year"] ["land", "day"] (defScope s_date_of) := ⟨rfl, rfl, rfl, by decide +kernel, rfl, by decide +kernel, by decide +kernel⟩
theorem sc_added_days : FnScope ["land", "year", "days", "top", "bottom", "shift"] ["land", "year"] (defScope s_added_days) := ⟨rfl, rfl, rfl, by decide +kernel, rfl, by decide +kernel, by decide +kernel⟩
theorem sc_begin : FnScope ["land", "year"] ["land", "year"] (defScope s_begin) := ⟨rfl, rfl, rfl, by decide +kernel, rfl, by decide +kernel, by decide +kernel⟩
theorem sc_date : FnScope ["land", "day"] ["land", "day"] (defScope s_date) := ⟨rfl, rfl, rfl, by decide +kernel, rfl, by decide +kernel, by decide +kernel⟩
theorem sc_is_long : FnScope ["land", "year"] ["land", "year"] (defScope s_is_long) := ⟨rfl, rfl, rfl, by decide +kernel, rfl, by decide +kernel, by decide +kernel⟩
theorem sc_next_long : FnScope ["land", "year", "days", "top", "bottom", "shift"] ["land", "year"] (defScope s_next_long) := ⟨rfl, rfl, rfl, by decide +kernel, rfl, by decide +kernel, by decide +kernel⟩
theorem sc_long_years : FnScope ["land", "first", "last"] ["land", "first", "last"] (defScope s_long_years) := ⟨rfl, rfl, rfl, by decide +kernel, rfl, by decide +kernel, by decide +kernel⟩
theorem sc_need_week : FnScope ["thing"] ["thing"] (defScope s_need_week) := ⟨rfl, rfl, rfl, by decide +kernel, rfl, by decide +kernel, by decide +kernel⟩
theorem sc_need_name : FnScope ["week", "thing"] ["week", "thing"] (defScope s_need_name) := ⟨rfl, rfl, rfl, by decide +kernel, rfl, by decide +kernel, by decide +kernel⟩
theorem sc_need_asked : FnScope ["land", "place", "week", "name"] ["land", "place", "week", "name"] (defScope s_need_asked) := ⟨rfl, rfl, rfl, by decide +kernel, rfl, by decide +kernel, by decide +kernel⟩
theorem sc_ring_of : FnScope ["land", "week", "bottom"] ["land", "week"] (defScope s_ring_of) := ⟨rfl, rfl, rfl, by decide +kernel, rfl, by decide +kernel, by decide +kernel⟩
theorem sc_shared_measure : FnScope ["land", "week"] ["land", "week"] (defScope s_shared_measure) := ⟨rfl, rfl, rfl, by decide +kernel, rfl, by decide +kernel, by decide +kernel⟩
theorem sc_cycle_of : FnScope ["land", "week"] ["land", "week"] (defScope s_cycle_of) := ⟨rfl, rfl, rfl, by decide +kernel, rfl, by decide +kernel, by decide +kernel⟩
theorem sc_falls : FnScope ["land", "place", "week", "name", "year"] ["land", "place", "week", "name", "year"] (defScope s_falls) := ⟨rfl, rfl, rfl, by decide +kernel, rfl, by decide +kernel, by decide +kernel⟩
theorem sc_falling_years : FnScope ["land", "place", "week", "name", "first", "last", "year"] ["land", "place", "week", "name", "first", "last"] (defScope s_falling_years) := ⟨rfl, rfl, rfl, by decide +kernel, rfl, by decide +kernel, by decide +kernel⟩
theorem sc_next_year : FnScope ["land", "place", "week", "name", "year", "later"] ["land", "place", "week", "name", "year"] (defScope s_next_year) := ⟨rfl, rfl, rfl, by decide +kernel, rfl, by decide +kernel, by decide +kernel⟩
theorem sc_how_many : FnScope ["land", "place", "week", "name", "first", "last", "cycle", "cycles", "rest", "in_rest", "in_others"] ["land", "place", "week", "name", "first", "last"] (defScope s_how_many) := ⟨rfl, rfl, rfl, by decide +kernel, rfl, by decide +kernel, by decide +kernel⟩
theorem sc_lengths : FnScope ["land", "place", "week", "name", "cycle", "years", "year", "nexts", "found", "later"] ["land", "place", "week", "name"] (defScope s_lengths) := ⟨rfl, rfl, rfl, by decide +kernel, rfl, by decide +kernel, by decide +kernel⟩
theorem sc_is_barring : FnScope ["land", "place", "week", "name", "measure", "days", "top", "bottom", "shift", "least", "left", "number"] ["land", "place", "week", "name", "measure"] (defScope s_is_barring) := ⟨rfl, rfl, rfl, by decide +kernel, rfl, by decide +kernel, by decide +kernel⟩
theorem sc_barring : FnScope ["land", "place", "week", "name", "measure"] ["land", "place", "week", "name"] (defScope s_barring) := ⟨rfl, rfl, rfl, by decide +kernel, rfl, by decide +kernel, by decide +kernel⟩
theorem sc_bars : FnScope ["land", "place", "week", "name", "thing"] ["land", "place", "week", "name", "thing"] (defScope s_bars) := ⟨rfl, rfl, rfl, by decide +kernel, rfl, by decide +kernel, by decide +kernel⟩
theorem sc_need_places : FnScope ["one", "place_one", "other", "place_other"] ["one", "place_one", "other", "place_other"] (defScope s_need_places) := ⟨rfl, rfl, rfl, by decide +kernel, rfl, by decide +kernel, by decide +kernel⟩
theorem sc_placed_days : FnScope ["land", "place", "bottom", "shift", "step", "least", "number"] ["land", "place"] (defScope s_placed_days) := ⟨rfl, rfl, rfl, by decide +kernel, rfl, by decide +kernel, by decide +kernel⟩
theorem sc_shared_step : FnScope ["one", "other"] ["one", "other"] (defScope s_shared_step) := ⟨rfl, rfl, rfl, by decide +kernel, rfl, by decide +kernel, by decide +kernel⟩
theorem sc_round_from : FnScope ["one", "place_one", "other", "place_other", "day", "shared", "step_one", "steps", "again", "lead", "row", "starts", "ends", "later_ends", "one_day", "other_day", "end"] ["one", "place_one", "other", "place_other", "day"] (defScope s_round_from) := ⟨rfl, rfl, rfl, by decide +kernel, rfl, by decide +kernel, by decide +kernel⟩
theorem sc_ends_ahead : FnScope ["starts", "ends", "ahead", "at", "start"] ["starts", "ends"] (defScope s_ends_ahead) := ⟨rfl, rfl, rfl, by decide +kernel, rfl, by decide +kernel, by decide +kernel⟩
theorem sc_next_day : FnScope ["one", "place_one", "other", "place_other", "day", "again", "starts", "ends", "nearest", "start", "at"] ["one", "place_one", "other", "place_other", "day"] (defScope s_next_day) := ⟨rfl, rfl, rfl, by decide +kernel, rfl, by decide +kernel, by decide +kernel⟩
theorem sc_days : FnScope ["one", "place_one", "other", "place_other", "first", "last", "again", "starts", "ends", "rounds", "rest", "ahead", "in_round", "in_rest", "start"] ["one", "place_one", "other", "place_other", "first", "last"] (defScope s_days) := ⟨rfl, rfl, rfl, by decide +kernel, rfl, by decide +kernel, by decide +kernel⟩
theorem sc_is_parting : FnScope ["one", "place_one", "other", "place_other", "number", "left", "day"] ["one", "place_one", "other", "place_other", "number"] (defScope s_is_parting) := ⟨rfl, rfl, rfl, by decide +kernel, rfl, by decide +kernel, by decide +kernel⟩
theorem sc_parting : FnScope ["one", "place_one", "other", "place_other", "number"] ["one", "place_one", "other", "place_other"] (defScope s_parting) := ⟨rfl, rfl, rfl, by decide +kernel, rfl, by decide +kernel, by decide +kernel⟩
theorem sc_parts : FnScope ["one", "place_one", "other", "place_other", "thing"] ["one", "place_one", "other", "place_other", "thing"] (defScope s_parts) := ⟨rfl, rfl, rfl, by decide +kernel, rfl, by decide +kernel, by decide +kernel⟩
theorem sc_alike : FnScope ["one", "other"] ["one", "other"] (defScope s_alike) := ⟨rfl, rfl, rfl, by decide +kernel, rfl, by decide +kernel, by decide +kernel⟩
theorem sc_first_parting : FnScope ["one", "other", "year"] ["one", "other"] (defScope s_first_parting) := ⟨rfl, rfl, rfl, by decide +kernel, rfl, by decide +kernel, by decide +kernel⟩
theorem sc__law_deck : FnScope ["cell", "turn"] ["cell", "turn"] (defScope s__law_deck) := ⟨rfl, rfl, rfl, by decide +kernel, rfl, by decide +kernel, by decide +kernel⟩
theorem sc__law_pick : FnScope ["deck", "size", "found", "number"] ["deck", "size"] (defScope s__law_pick) := ⟨rfl, rfl, rfl, by decide +kernel, rfl, by decide +kernel, by decide +kernel⟩
theorem sc__law_one : FnScope ["deck", "some"] ["deck", "some"] (defScope s__law_one) := ⟨rfl, rfl, rfl, by decide +kernel, rfl, by decide +kernel, by decide +kernel⟩
theorem sc__law_kin : FnScope ["e", "kinds_met", "names", "name", "good"] ["e"] (defScope s__law_kin) := ⟨rfl, rfl, rfl, by decide +kernel, rfl, by decide +kernel, by decide +kernel⟩
theorem sc__law_try : FnScope ["door", "found", "e"] ["door"] (defScope s__law_try) := ⟨rfl, rfl, rfl, by decide +kernel, rfl, by decide +kernel, by decide +kernel⟩
theorem sc__law_land : FnScope ["deck", "long_so", "bottoms", "shifts", "bottom", "shift"] ["deck", "long_so", "bottoms", "shifts"] (defScope s__law_land) := ⟨rfl, rfl, rfl, by decide +kernel, rfl, by decide +kernel, by decide +kernel⟩
theorem sc__law_any : FnScope ["deck", "long_so", "bottoms", "shifts"] ["deck"] (defScope s__law_any) := ⟨rfl, rfl, rfl, by decide +kernel, rfl, by decide +kernel, by decide +kernel⟩
theorem sc__law_by_land : FnScope ["land", "other", "found"] ["land", "other"] (defScope s__law_by_land) := ⟨rfl, rfl, rfl, by decide +kernel, rfl, by decide +kernel, by decide +kernel⟩
theorem sc__law_by_week : FnScope ["land", "place", "week", "name", "found"] ["land", "place", "week", "name"] (defScope s__law_by_week) := ⟨rfl, rfl, rfl, by decide +kernel, rfl, by decide +kernel, by decide +kernel⟩
theorem sc__law_by_two : FnScope ["one", "place_one", "other", "place_other", "found"] ["one", "place_one", "other", "place_other"] (defScope s__law_by_two) := ⟨rfl, rfl, rfl, by decide +kernel, rfl, by decide +kernel, by decide +kernel⟩
theorem sc__law_all_told : FnScope ["doors", "word", "door"] ["doors", "word"] (defScope s__law_all_told) := ⟨rfl, rfl, rfl, by decide +kernel, rfl, by decide +kernel, by decide +kernel⟩
theorem sc__law_numbers_right : FnScope ["land", "other", "bad"] ["land", "other"] (defScope s__law_numbers_right) := ⟨rfl, rfl, rfl, by decide +kernel, rfl, by decide +kernel, by decide +kernel⟩
theorem sc_law : FnScope ["script", "cell", "deck", "other", "doors", "bad", "land", "odd"] ["script"] (defScope s_law) := ⟨rfl, rfl, rfl, by decide +kernel, rfl, by decide +kernel, by decide +kernel⟩
theorem sc_Realm_init : FnScope ["self", "land"] ["self", "land"] (defScope s_Realm_init) := ⟨rfl, rfl, rfl, by decide +kernel, rfl, by decide +kernel, by decide +kernel⟩
theorem sc_Realm_is_later : FnScope ["self", "day", "start"] ["self", "day"] (defScope s_Realm_is_later) := ⟨rfl, rfl, rfl, by decide +kernel, rfl, by decide +kernel, by decide +kernel⟩
theorem sc_Realm_land_on : FnScope ["self", "day", "found", "start", "land"] ["self", "day"] (defScope s_Realm_land_on) := ⟨rfl, rfl, rfl, by decide +kernel, rfl, by decide +kernel, by decide +kernel⟩
structure ErrAt (K : PySem.W.Frag) (C CY : Addr) : Prop where
  ex : PySem.W.excIn K C [.type "ValueError", .type "Exception", .type "BaseException", .type "object"] "ValueError.__new__" = true
  kp : PySem.W.keepIn K (Value.ref C) = true
  sb : PySem.W.subIn K (.ref C) (.type "BaseException") = some true
  tp : PySem.W.typeIn K (.ref C) = some (.type "type")
  is : L2.ExcC K C
  em : PySem.W.exmOne K (.ref C) (.ref CY) = some true
structure DefAt (K : PySem.W.Frag) (mg : Str → Option Value) (x : Str) (st : Stmt) (ps : List Str) where
  f : Addr
  fd : FuncData
  F : Fun K x x st f fd
  b : Binds K fd ps []
  g : mg x = some (.ref f)
structure MethAt (K : PySem.W.Frag) (C : Addr) (m q : Str) (st : Stmt) (ps : List Str) where
  f : Addr
  fd : FuncData
  F : Fun K m q st f fd
  b : Binds K fd ps []
  m : Meth K C m f
structure Txt (K : PySem.W.Frag) (mg : Str → Option Value) where
  C_YearError : Addr
  g_YearError : mg "YearError" = some (.ref C_YearError)
  C_NoLand : Addr
  g_NoLand : mg "NoLand" = some (.ref C_NoLand)
  C_NoYear : Addr
  g_NoYear : mg "NoYear" = some (.ref C_NoYear)
  C_NoDay : Addr
  g_NoDay : mg "NoDay" = some (.ref C_NoDay)
  C_NoPlace : Addr
  g_NoPlace : mg "NoPlace" = some (.ref C_NoPlace)
  C_NoWeek : Addr
  g_NoWeek : mg "NoWeek" = some (.ref C_NoWeek)
  C_NoName : Addr
  g_NoName : mg "NoName" = some (.ref C_NoName)
  C_NoSeen : Addr
  g_NoSeen : mg "NoSeen" = some (.ref C_NoSeen)
  C_NoNumber : Addr
  g_NoNumber : mg "NoNumber" = some (.ref C_NoNumber)
  C_NothingLeft : Addr
  g_NothingLeft : mg "NothingLeft" = some (.ref C_NothingLeft)
  err_NoLand : ErrAt K C_NoLand C_YearError
  ki_NoLand_NoLand : PySem.W.kitOne K (.ref C_NoLand) (.ref C_NoLand) = some true
  ki_NoLand_NoYear : PySem.W.kitOne K (.ref C_NoLand) (.ref C_NoYear) = some false
  ki_NoLand_NoDay : PySem.W.kitOne K (.ref C_NoLand) (.ref C_NoDay) = some false
  ki_NoLand_NoPlace : PySem.W.kitOne K (.ref C_NoLand) (.ref C_NoPlace) = some false
  ki_NoLand_NoWeek : PySem.W.kitOne K (.ref C_NoLand) (.ref C_NoWeek) = some false
  ki_NoLand_NoName : PySem.W.kitOne K (.ref C_NoLand) (.ref C_NoName) = some false
  ki_NoLand_NoSeen : PySem.W.kitOne K (.ref C_NoLand) (.ref C_NoSeen) = some false
  ki_NoLand_NoNumber : PySem.W.kitOne K (.ref C_NoLand) (.ref C_NoNumber) = some false
  ki_NoLand_NothingLeft : PySem.W.kitOne K (.ref C_NoLand) (.ref C_NothingLeft) = some false
  ki_NoLand_V : PySem.W.kitOne K (.ref C_NoLand) (.type "ValueError") = some true
  err_NoYear : ErrAt K C_NoYear C_YearError
  ki_NoYear_NoLand : PySem.W.kitOne K (.ref C_NoYear) (.ref C_NoLand) = some false
  ki_NoYear_NoYear : PySem.W.kitOne K (.ref C_NoYear) (.ref C_NoYear) = some true
  ki_NoYear_NoDay : PySem.W.kitOne K (.ref C_NoYear) (.ref C_NoDay) = some false
  ki_NoYear_NoPlace : PySem.W.kitOne K (.ref C_NoYear) (.ref C_NoPlace) = some false
  ki_NoYear_NoWeek : PySem.W.kitOne K (.ref C_NoYear) (.ref C_NoWeek) = some false
  ki_NoYear_NoName : PySem.W.kitOne K (.ref C_NoYear) (.ref C_NoName) = some false
  ki_NoYear_NoSeen : PySem.W.kitOne K (.ref C_NoYear) (.ref C_NoSeen) = some false
  ki_NoYear_NoNumber : PySem.W.kitOne K (.ref C_NoYear) (.ref C_NoNumber) = some false
  ki_NoYear_NothingLeft : PySem.W.kitOne K (.ref C_NoYear) (.ref C_NothingLeft) = some false
  ki_NoYear_V : PySem.W.kitOne K (.ref C_NoYear) (.type "ValueError") = some true
  err_NoDay : ErrAt K C_NoDay C_YearError
  ki_NoDay_NoLand : PySem.W.kitOne K (.ref C_NoDay) (.ref C_NoLand) = some false
  ki_NoDay_NoYear : PySem.W.kitOne K (.ref C_NoDay) (.ref C_NoYear) = some false
  ki_NoDay_NoDay : PySem.W.kitOne K (.ref C_NoDay) (.ref C_NoDay) = some true
  ki_NoDay_NoPlace : PySem.W.kitOne K (.ref C_NoDay) (.ref C_NoPlace) = some false
  ki_NoDay_NoWeek : PySem.W.kitOne K (.ref C_NoDay) (.ref C_NoWeek) = some false
  ki_NoDay_NoName : PySem.W.kitOne K (.ref C_NoDay) (.ref C_NoName) = some false
  ki_NoDay_NoSeen : PySem.W.kitOne K (.ref C_NoDay) (.ref C_NoSeen) = some false
  ki_NoDay_NoNumber : PySem.W.kitOne K (.ref C_NoDay) (.ref C_NoNumber) = some false
  ki_NoDay_NothingLeft : PySem.W.kitOne K (.ref C_NoDay) (.ref C_NothingLeft) = some false
  ki_NoDay_V : PySem.W.kitOne K (.ref C_NoDay) (.type "ValueError") = some true
  err_NoPlace : ErrAt K C_NoPlace C_YearError
  ki_NoPlace_NoLand : PySem.W.kitOne K (.ref C_NoPlace) (.ref C_NoLand) = some false
  ki_NoPlace_NoYear : PySem.W.kitOne K (.ref C_NoPlace) (.ref C_NoYear) = some false
  ki_NoPlace_NoDay : PySem.W.kitOne K (.ref C_NoPlace) (.ref C_NoDay) = some false
  ki_NoPlace_NoPlace : PySem.W.kitOne K (.ref C_NoPlace) (.ref C_NoPlace) = some true
  ki_NoPlace_NoWeek : PySem.W.kitOne K (.ref C_NoPlace) (.ref C_NoWeek) = some false
  ki_NoPlace_NoName : PySem.W.kitOne K (.ref C_NoPlace) (.ref C_NoName) = some false
  ki_NoPlace_NoSeen : PySem.W.kitOne K (.ref C_NoPlace) (.ref C_NoSeen) = some false
  ki_NoPlace_NoNumber : PySem.W.kitOne K (.ref C_NoPlace) (.ref C_NoNumber) = some false
  ki_NoPlace_NothingLeft : PySem.W.kitOne K (.ref C_NoPlace) (.ref C_NothingLeft) = some false
  ki_NoPlace_V : PySem.W.kitOne K (.ref C_NoPlace) (.type "ValueError") = some true
  err_NoWeek : ErrAt K C_NoWeek C_YearError
  ki_NoWeek_NoLand : PySem.W.kitOne K (.ref C_NoWeek) (.ref C_NoLand) = some false
  ki_NoWeek_NoYear : PySem.W.kitOne K (.ref C_NoWeek) (.ref C_NoYear) = some false
  ki_NoWeek_NoDay : PySem.W.kitOne K (.ref C_NoWeek) (.ref C_NoDay) = some false
  ki_NoWeek_NoPlace : PySem.W.kitOne K (.ref C_NoWeek) (.ref C_NoPlace) = some false
  ki_NoWeek_NoWeek : PySem.W.kitOne K (.ref C_NoWeek) (.ref C_NoWeek) = some true
  ki_NoWeek_NoName : PySem.W.kitOne K (.ref C_NoWeek) (.ref C_NoName) = some false
  ki_NoWeek_NoSeen : PySem.W.kitOne K (.ref C_NoWeek) (.ref C_NoSeen) = some false
  ki_NoWeek_NoNumber : PySem.W.kitOne K (.ref C_NoWeek) (.ref C_NoNumber) = some false
  ki_NoWeek_NothingLeft : PySem.W.kitOne K (.ref C_NoWeek) (.ref C_NothingLeft) = some false
  ki_NoWeek_V : PySem.W.kitOne K (.ref C_NoWeek) (.type "ValueError") = some true
  err_NoName : ErrAt K C_NoName C_YearError
  ki_NoName_NoLand : PySem.W.kitOne K (.ref C_NoName) (.ref C_NoLand) = some false
  ki_NoName_NoYear : PySem.W.kitOne K (.ref C_NoName) (.ref C_NoYear) = some false
  ki_NoName_NoDay : PySem.W.kitOne K (.ref C_NoName) (.ref C_NoDay) = some false
  ki_NoName_NoPlace : PySem.W.kitOne K (.ref C_NoName) (.ref C_NoPlace) = some false
  ki_NoName_NoWeek : PySem.W.kitOne K (.ref C_NoName) (.ref C_NoWeek) = some false
  ki_NoName_NoName : PySem.W.kitOne K (.ref C_NoName) (.ref C_NoName) = some true
  ki_NoName_NoSeen : PySem.W.kitOne K (.ref C_NoName) (.ref C_NoSeen) = some false
  ki_NoName_NoNumber : PySem.W.kitOne K (.ref C_NoName) (.ref C_NoNumber) = some false
  ki_NoName_NothingLeft : PySem.W.kitOne K (.ref C_NoName) (.ref C_NothingLeft) = some false
  ki_NoName_V : PySem.W.kitOne K (.ref C_NoName) (.type "ValueError") = some true
  C_Realm : Addr
  cl_Realm : Cls K C_Realm
  g_Realm : mg "Realm" = some (.ref C_Realm)
  n_Realm_pairs : NoAttr K C_Realm "pairs"
  Realm_init : MethAt K C_Realm "__init__" "Realm.__init__" s_Realm_init ["self", "land"]
  mk_Realm : Mk K C_Realm Realm_init.f
  Realm_is_later : MethAt K C_Realm "is_later" "Realm.is_later" s_Realm_is_later ["self", "day"]
  Realm_land_on : MethAt K C_Realm "land_on" "Realm.land_on" s_Realm_land_on ["self", "day"]
  _wall : DefAt K mg "_wall" s__wall ["k"]
  is_whole : DefAt K mg "is_whole" s_is_whole ["thing"]
  is_between : DefAt K mg "is_between" s_is_between ["thing", "least", "most"]
  common_measure : DefAt K mg "common_measure" s_common_measure ["one", "other"]
  undoing_factor : DefAt K mg "undoing_factor" s_undoing_factor ["number", "ring"]
  is_land : DefAt K mg "is_land" s_is_land ["thing"]
  need_land : DefAt K mg "need_land" s_need_land ["thing"]
  need_year : DefAt K mg "need_year" s_need_year ["thing"]
  need_years : DefAt K mg "need_years" s_need_years ["first", "last"]
  need_day : DefAt K mg "need_day" s_need_day ["thing"]
  need_days : DefAt K mg "need_days" s_need_days ["first", "last"]
  need_place : DefAt K mg "need_place" s_need_place ["land", "thing"]
  step_of : DefAt K mg "step_of" s_step_of ["land"]
  first_day : DefAt K mg "first_day" s_first_day ["land", "year"]
  date_of : DefAt K mg "date_of" s_date_of ["land", "day"]
  added_days : DefAt K mg "added_days" s_added_days ["land", "year"]
  begin : DefAt K mg "begin" s_begin ["land", "year"]
  date : DefAt K mg "date" s_date ["land", "day"]
  is_long : DefAt K mg "is_long" s_is_long ["land", "year"]
  next_long : DefAt K mg "next_long" s_next_long ["land", "year"]
  long_years : DefAt K mg "long_years" s_long_years ["land", "first", "last"]
  need_week : DefAt K mg "need_week" s_need_week ["thing"]
  need_name : DefAt K mg "need_name" s_need_name ["week", "thing"]
  need_asked : DefAt K mg "need_asked" s_need_asked ["land", "place", "week", "name"]
  ring_of : DefAt K mg "ring_of" s_ring_of ["land", "week"]
  shared_measure : DefAt K mg "shared_measure" s_shared_measure ["land", "week"]
  cycle_of : DefAt K mg "cycle_of" s_cycle_of ["land", "week"]
  falls : DefAt K mg "falls" s_falls ["land", "place", "week", "name", "year"]
  falling_years : DefAt K mg "falling_years" s_falling_years ["land", "place", "week", "name", "first", "last"]
  next_year : DefAt K mg "next_year" s_next_year ["land", "place", "week", "name", "year"]
  how_many : DefAt K mg "how_many" s_how_many ["land", "place", "week", "name", "first", "last"]
  lengths : DefAt K mg "lengths" s_lengths ["land", "place", "week", "name"]
  is_barring : DefAt K mg "is_barring" s_is_barring ["land", "place", "week", "name", "measure"]
  barring : DefAt K mg "barring" s_barring ["land", "place", "week", "name"]
  bars : DefAt K mg "bars" s_bars ["land", "place", "week", "name", "thing"]
  need_places : DefAt K mg "need_places" s_need_places ["one", "place_one", "other", "place_other"]
  placed_days : DefAt K mg "placed_days" s_placed_days ["land", "place"]
  shared_step : DefAt K mg "shared_step" s_shared_step ["one", "other"]
  round_from : DefAt K mg "round_from" s_round_from ["one", "place_one", "other", "place_other", "day"]
  ends_ahead : DefAt K mg "ends_ahead" s_ends_ahead ["starts", "ends"]
  next_day : DefAt K mg "next_day" s_next_day ["one", "place_one", "other", "place_other", "day"]
  days : DefAt K mg "days" s_days ["one", "place_one", "other", "place_other", "first", "last"]
  is_parting : DefAt K mg "is_parting" s_is_parting ["one", "place_one", "other", "place_other", "number"]
  parting : DefAt K mg "parting" s_parting ["one", "place_one", "other", "place_other"]
  parts : DefAt K mg "parts" s_parts ["one", "place_one", "other", "place_other", "thing"]
  alike : DefAt K mg "alike" s_alike ["one", "other"]
  first_parting : DefAt K mg "first_parting" s_first_parting ["one", "other"]
  _law_deck : DefAt K mg "_law_deck" s__law_deck ["cell", "turn"]
  _law_pick : DefAt K mg "_law_pick" s__law_pick ["deck", "size"]
  _law_one : DefAt K mg "_law_one" s__law_one ["deck", "some"]
  _law_kin : DefAt K mg "_law_kin" s__law_kin ["e"]
  _law_try : DefAt K mg "_law_try" s__law_try ["door"]
  _law_land : DefAt K mg "_law_land" s__law_land ["deck", "long_so", "bottoms", "shifts"]
  _law_any : DefAt K mg "_law_any" s__law_any ["deck"]
  _law_by_land : DefAt K mg "_law_by_land" s__law_by_land ["land", "other"]
  _law_by_week : DefAt K mg "_law_by_week" s__law_by_week ["land", "place", "week", "name"]
  _law_by_two : DefAt K mg "_law_by_two" s__law_by_two ["one", "place_one", "other", "place_other"]
  _law_all_told : DefAt K mg "_law_all_told" s__law_all_told ["doors", "word"]
  _law_numbers_right : DefAt K mg "_law_numbers_right" s__law_numbers_right ["land", "other"]
  t_MOST_DAYS : Tok
  c_MOST_DAYS : mg "MOST_DAYS" = some (.int 400 t_MOST_DAYS)
  t_MOST_BOTTOM : Tok
  c_MOST_BOTTOM : mg "MOST_BOTTOM" = some (.int 60 t_MOST_BOTTOM)
  t_MOST_SHIFT : Tok
  c_MOST_SHIFT : mg "MOST_SHIFT" = some (.int 1000000 t_MOST_SHIFT)
  t_FARTHEST : Tok
  c_FARTHEST : mg "FARTHEST" = some (.int 1000000000000000000000000000000 t_FARTHEST)
  t_LONGEST_WEEK : Tok
  c_LONGEST_WEEK : mg "LONGEST_WEEK" = some (.int 20 t_LONGEST_WEEK)
  isinstance : mg "isinstance" = none
  b_int : mg "int" = none
  b_bool : mg "bool" = none
  tuple : mg "tuple" = none
  len : mg "len" = none
  range : mg "range" = none
  divmod : mg "divmod" = none
  zip : mg "zip" = none
  sorted : mg "sorted" = none
  min : mg "min" = none
  sum : mg "sum" = none
  any : mg "any" = none
  ValueError : mg "ValueError" = none
  b_list : mg "list" = none

/-! ### the handled error told by its kinds -/
theorem mark_same {A : Around} {v : Value} (h : A.handled = some v) : A.mark (some v) = A := by
  obtain ⟨a, b, c, d, e⟩ := A
  cases h
  rfl
/-- ten answers, ten names: those that are true, one behind the other -/
def kinNames : List Str := ["NoLand", "NoYear", "NoDay", "NoPlace", "NoWeek", "NoName", "NoSeen", "NoNumber", "NothingLeft", "+"]
def kinPick (bs : List Bool) (n : Nat) : List Str := ((List.range n).filter fun i => bs.getD i false).map fun i => kinNames.getD i ""
def kinWord (bs : List Bool) : Str := PySem.Txt.join "" (kinPick bs 10)
theorem pick_next {bs : List Bool} {n : Nat} : kinPick bs (n + 1) = kinPick bs n ++ (if bs.getD n false = true then [kinNames.getD n ""] else []) := by
  unfold kinPick
  rw [List.range_succ, List.filter_append, List.map_append]
  congr 1
  rw [List.filter_cons]
  split <;> rfl
theorem pick_len {bs : List Bool} : ∀ n, (kinPick bs n).length ≤ n
  | 0 => Nat.le_refl 0
  | n + 1 => by
    have h := pick_len (bs := bs) n
    rw [pick_next, List.length_append]
    split
    · show _ + 1 ≤ _
      omega
    · show _ + 0 ≤ _
      omega
theorem name_len (i : Nat) : (kinNames.getD i "").length ≤ 11 := by
  match i with
  | 0 | 1 | 2 | 3 | 4 | 5 | 6 | 7 | 8 | 9 => decide +kernel
  | n + 10 => exact Nat.zero_le _
theorem pick_sum {bs : List Bool} : ∀ n, ((kinPick bs n).map (·.length)).sum ≤ 11 * n
  | 0 => Nat.le_refl 0
  | n + 1 => by
    have h := pick_sum (bs := bs) n
    have l := name_len n
    rw [pick_next, List.map_append, List.sum_append]
    split
    · simp only [List.map_cons, List.map_nil, List.sum_cons, List.sum_nil]
      omega
    · simp only [List.map_nil, List.sum_nil]
      omega
theorem walk_zipThere {K : PySem.W.Frag} {a b : Addr} {xs ys : List V} {n : Nat} (hx : xs.length = n) (hy : ys.length = n) : Walk (ItzH K a b) n (fun H => SqL K H a xs ∧ SqL K H b ys) (YPair (fun i => xs[i]?) (fun i => ys[i]?)) where
  goes := fun i H hi both => ⟨_, _, xs[i]'(by omega), ys[i]'(by omega), both.1, both.2, List.getElem?_eq_getElem _, List.getElem?_eq_getElem _⟩
  stops := fun H both => ⟨_, _, both.1, both.2, by omega⟩
  yields := fun i H v H' _ both ⟨t, x, y, ev, nt, eh, fx, fy⟩ => ⟨t, x, y, ev, nt, eh, fx _ both.1, fy _ both.2⟩
section
variable {P : Program} {w : World} {K : PySem.W.Frag} {mg : Str → Option Value} {base : Heap}
theorem kin_walk {Hs : Hp} {D l6 l5 : Addr} {bs : List Bool} {e : V} {Nx : Hp → Prop} (hD : Hs D = none) (q1 : SqL K Hs l6 (kinNames.map V.str)) (q2 : SqL K Hs l5 (bs.map V.bl)) (lb : bs.length = 10) (done : ∀ H', Ex Hs H' → H' D = some (.lst ((kinPick bs 10).map V.str)) → Nx H') :
    rTurns (ItzH K l6 l5) (gTup K 2 (gCons (gName 3) (gCons (gName 4) gNil))) (tB (tVar 4)) (rEnd (tVar 3)) [3, 4] D [some e, some (.ref l5), some (.ref l6), none, none] (upd Hs D (.lst [])) Nx := by
  refine walk_in (walk_zipThere (K := K) (a := l6) (b := l5) (xs := kinNames.map V.str) (ys := bs.map V.bl) (n := 10) rfl (by rw [List.length_map]; exact lb)) (body := fun x H' N => rTurn _ _ _ _ D _ x H' N) (fun i H' => Ex Hs H' ∧ H' D = some (.lst ((kinPick bs i).map V.str))) ⟨Ex.new hD, upd_same⟩ (fun i H' _ c => ⟨ex_l c.1 q1, ex_l c.1 q2⟩) ?_ fun H' c => done H' c.1 c.2
  rintro i v H1 H2 hi ⟨ex, at_⟩ ⟨t, x, y, rfl, nt, rfl, ex1, ey1⟩
  have ex1 : (kinNames.map V.str)[i]? = some x := ex1
  have ey1 : (bs.map V.bl)[i]? = some y := ey1
  rw [List.getElem?_map] at ex1 ey1
  obtain ⟨nm, en, rfl⟩ := Option.map_eq_some_iff.mp ex1
  obtain ⟨b, eb, rfl⟩ := Option.map_eq_some_iff.mp ey1
  have gb : bs.getD i false = b := by rw [List.getD_eq_getElem?_getD, eb]; rfl
  have gn : kinNames.getD i "" = nm := by rw [List.getD_eq_getElem?_getD, en]; rfl
  have et : Ex H1 (upd H1 t (.tup [.str nm, .bl b])) := Ex.new nt
  refine ⟨t, _, rfl, st_of upd_same, rfl, _, _, rfl, _, _, rfl, rfl, rfl, _, rfl, _, rfl, ?_⟩
  rw [pick_next, gb, gn]
  cases b with
  | true =>
    have len := pick_len (bs := bs) i
    refine ⟨_, rfl, _, et _ _ at_, ?_, Ex.mut (ex.trans et) hD, ?_⟩
    · rw [List.length_map]
      exact Nat.lt_of_lt_of_le (show _ < 11 by omega) (by decide)
    · rw [if_pos rfl, List.map_append]
      exact upd_same
  | false =>
    refine ⟨ex.trans et, ?_⟩
    rw [if_neg (fun z => by cases z), List.append_nil]
    exact et _ _ at_
/-- what isinstance answers of an error of the class D -/
structure Kin (T : Txt K mg) (D : Addr) (b0 b1 b2 b3 b4 b5 b6 b7 b8 b9 : Bool) : Prop where
  is : L2.ExcC K D
  k0 : PySem.W.kitOne K (.ref D) (.ref T.C_NoLand) = some b0
  k1 : PySem.W.kitOne K (.ref D) (.ref T.C_NoYear) = some b1
  k2 : PySem.W.kitOne K (.ref D) (.ref T.C_NoDay) = some b2
  k3 : PySem.W.kitOne K (.ref D) (.ref T.C_NoPlace) = some b3
  k4 : PySem.W.kitOne K (.ref D) (.ref T.C_NoWeek) = some b4
  k5 : PySem.W.kitOne K (.ref D) (.ref T.C_NoName) = some b5
  k6 : PySem.W.kitOne K (.ref D) (.ref T.C_NoSeen) = some b6
  k7 : PySem.W.kitOne K (.ref D) (.ref T.C_NoNumber) = some b7
  k8 : PySem.W.kitOne K (.ref D) (.ref T.C_NothingLeft) = some b8
  k9 : PySem.W.kitOne K (.ref D) (.type "ValueError") = some b9
theorem is_hot {N : List Str} {qual : Str} {scope : Scope} {f : Addr} {cd : Value} {A : Around} {outer : List Env} {s : Shared} {H : Hp} {E : XK} {D : Addr} {p : Addr × Obj} (C : L2.ExcC K D) (hot : L2H.Hot1 A p) (z : L2.Zc (.ref D) none p.2) :
    CallR (L2H.cxH CX0 P w K mg base N qual scope f cd A outer s H E p).nox (.builtin "isinstance") (rIsE K D p.1) := by
  have same : (L2H.cxH CX0 P w K mg base N qual scope f cd A outer s H E p).nox = (cxOf CX0 P w K mg base N qual scope f cd A outer s H E).suite p.1 [p] := by
    have m : (A.deeper (envOfC qual scope s.heap.objs.size f cd)).mark (some (.ref p.1)) = A.deeper (envOfC qual scope s.heap.objs.size f cd) := mark_same hot.1
    show Cx.mk _ _ _ _ _ _ _ _ _ _ _ _ _ _ _ _ _ = Cx.mk _ _ _ _ _ _ _ _ _ _ _ _ _ _ _ _ _
    congr 1
    exact m.symm
  rw [same]
  obtain ⟨_, vs, d, _⟩ := hot
  exact call_isE (X := cxOf CX0 P w K mg base N qual scope f cd A outer s H E) C z ⟨vs, d⟩
theorem kin_runs (T : Txt K mg) {D : Addr} {b0 b1 b2 b3 b4 b5 b6 b7 b8 b9 : Bool} (C : Kin T D b0 b1 b2 b3 b4 b5 b6 b7 b8 b9) {cdv : Value} {A : Around} {outer : List Env} {s : Shared} {H : Hp} {Q : VK} {p : Addr × Obj} (hot : L2H.Hot1 A p) (z : L2.Zc (.ref D) none p.2)
    (q : RetV (.str (kinWord [b0, b1, b2, b3, b4, b5, b6, b7, b8, b9])) H Q) :
    ∃ t, PSs (L2H.cxH CX0 P w K mg base ["e", "kinds_met", "names", "name", "good"] "_law_kin" (defScope s__law_kin) T._law_kin.f cdv A outer s H E0 p) (defBody s__law_kin) t ∧ t { nx := fun _ H' => Q .non H', rt := Q } (L2.start ["e", "kinds_met", "names", "name", "good"] [.ref p.1]) H := by
  have isE := is_hot (P := P) (w := w) (mg := mg) (base := base) (N := ["e", "kinds_met", "names", "name", "good"]) (qual := "_law_kin") (scope := defScope s__law_kin) (f := T._law_kin.f) (cd := cdv) (outer := outer) (s := s) (H := H) (E := E0) C.is hot z
  have hc : L2H.HotC (L2H.cxH CX0 P w K mg base ["e", "kinds_met", "names", "name", "good"] "_law_kin" (defScope s__law_kin) T._law_kin.f cdv A outer s H E0 p).nox := ⟨p, hot, List.mem_cons_self ..⟩
  refine ⟨_, PSs.nox (pss_cons (ps_set (i := 1) sc__law_kin.nd rfl (Or.inl rfl) (pe_lst (pa_cons (pe_callB isE (by rfl) T.isinstance (by decide +kernel) (pa_cons (pv 0) (pa_cons (pe_glob (v := .ref T.C_NoLand) rfl T.g_NoLand rfl) pa_nil))) (pa_cons (pe_callB isE (by rfl) T.isinstance (by decide +kernel) (pa_cons (pv 0) (pa_cons (pe_glob (v := .ref T.C_NoYear) rfl T.g_NoYear rfl) pa_nil))) (pa_cons (pe_callB isE (by rfl) T.isinstance (by decide +kernel) (pa_cons (pv 0) (pa_cons (pe_glob (v := .ref T.C_NoDay) rfl T.g_NoDay rfl) pa_nil))) (pa_cons (pe_callB isE (by rfl) T.isinstance (by decide +kernel) (pa_cons (pv 0) (pa_cons (pe_glob (v := .ref T.C_NoPlace) rfl T.g_NoPlace rfl) pa_nil))) pa_nil))))))
      (pss_cons (ps_set (i := 1) sc__law_kin.nd rfl (Or.inl rfl) (pe_op op_cat (pv 1) (pe_lst (pa_cons (pe_callB isE (by rfl) T.isinstance (by decide +kernel) (pa_cons (pv 0) (pa_cons (pe_glob (v := .ref T.C_NoWeek) rfl T.g_NoWeek rfl) pa_nil))) (pa_cons (pe_callB isE (by rfl) T.isinstance (by decide +kernel) (pa_cons (pv 0) (pa_cons (pe_glob (v := .ref T.C_NoName) rfl T.g_NoName rfl) pa_nil))) (pa_cons (pe_callB isE (by rfl) T.isinstance (by decide +kernel) (pa_cons (pv 0) (pa_cons (pe_glob (v := .ref T.C_NoSeen) rfl T.g_NoSeen rfl) pa_nil))) pa_nil))))))
      (pss_cons (ps_set (i := 1) sc__law_kin.nd rfl (Or.inl rfl) (pe_op op_cat (pv 1) (pe_lst (pa_cons (pe_callB isE (by rfl) T.isinstance (by decide +kernel) (pa_cons (pv 0) (pa_cons (pe_glob (v := .ref T.C_NoNumber) rfl T.g_NoNumber rfl) pa_nil))) (pa_cons (pe_callB isE (by rfl) T.isinstance (by decide +kernel) (pa_cons (pv 0) (pa_cons (pe_glob (v := .ref T.C_NothingLeft) rfl T.g_NothingLeft rfl) pa_nil))) (pa_cons (pe_callB isE (by rfl) T.isinstance (by decide +kernel) (pa_cons (pv 0) (pa_cons (pe_bltn (v := .ty "ValueError") (by rfl) T.ValueError (by decide +kernel) rfl) pa_nil))) pa_nil))))))
      (pss_cons (ps_set (i := 2) sc__law_kin.nd rfl (Or.inl rfl) (pe_lst (pa_cons pe_str (pa_cons pe_str (pa_cons pe_str (pa_cons pe_str (pa_cons pe_str (pa_cons pe_str (pa_cons pe_str (pa_cons pe_str (pa_cons pe_str (pa_cons pe_str pa_nil))))))))))))
      (pss_one (ps_ret (pe_bm PySem.F.plainAttrs_str PySem.F.slot_str_join PySem.F.type_str_join mt_join pe_str (pa_cons (pe_deep (own := [("name", 3), ("good", 4)]) (g := gTup K 2 (gCons (gName 3) (gCons (gName 4) gNil))) (vs1 := []) sc__law_kin.nd (brings_hot ⟨p, hot, List.mem_cons_self ..⟩ (pi_zipH (by rfl) T.zip (pa_cons (pv 2) (pa_cons (pv 1) pa_nil)))) (blkOk_by (own := [("name", 3), ("good", 4)]) (N := ["e", "kinds_met", "names", "name", "good"]) (sc := defScope s__law_kin) (by decide +kernel)) (fun _ _ _ _ _ => (pg_tupH (show L2H.HotC _ from ⟨p, hot, List.mem_cons_self ..⟩) (pgs_cons (pg_name (i := 3) sc__law_kin.nd rfl (Or.inl rfl)) (pgs_cons (pg_name (i := 4) sc__law_kin.nd rfl (Or.inl rfl)) pgs_nil)))) (fun _ _ _ _ _ => (pts_one (pt_val (pv 4)))) (fun _ _ _ _ _ => (rest_end rfl rfl (pv 3))) (by decide) (fun _ e => by cases e)) pa_nil)))))))), ?_⟩
  refine ⟨_, rfl, _, _, _, rfl, fun _ e => e, C.k0, _, rfl, _, _, _, rfl, fun _ e => e, C.k1, _, rfl, _, _, _, rfl, fun _ e => e, C.k2, _, rfl, _, _, _, rfl, fun _ e => e, C.k3, by show 4 ≤ sizeLine; decide, fun l1 n1 => ?_⟩
  have h1 : upd H l1 (.lst ([b0, b1, b2, b3].map V.bl)) l1 = some (.lst ([b0, b1, b2, b3].map V.bl)) := upd_same
  have e1 : Ex H (upd H l1 (.lst ([b0, b1, b2, b3].map V.bl))) := Ex.new n1
  refine ⟨_, rfl, _, rfl, _, _, _, rfl, fun _ e => e, C.k4, _, rfl, _, _, _, rfl, fun _ e => e, C.k5, _, rfl, _, _, _, rfl, fun _ e => e, C.k6, by show 3 ≤ sizeLine; decide, fun l2 n2 => ?_⟩
  refine ⟨l1, l2, _, _, rfl, rfl, Ex.new n2 _ _ h1, upd_same, by show 4 + 3 ≤ sizeLine; decide, fun l3 n3 => ?_⟩
  have e2 := e1.trans (Ex.new n2 (o := .lst ([b4, b5, b6].map V.bl)))
  have e3 := e2.trans (Ex.new n3 (o := .lst ([b0, b1, b2, b3, b4, b5, b6].map V.bl)))
  refine ⟨_, rfl, _, rfl, _, _, _, rfl, fun _ e => e, C.k7, _, rfl, _, _, _, rfl, fun _ e => e, C.k8, _, rfl, _, _, _, rfl, fun _ e => e, C.k9, by show 3 ≤ sizeLine; decide, fun l4 n4 => ?_⟩
  refine ⟨l3, l4, _, _, rfl, rfl, Ex.new n4 _ _ upd_same, upd_same, by show 7 + 3 ≤ sizeLine; decide, fun l5 n5 => ?_⟩
  have e4 := e3.trans (Ex.new n4 (o := .lst ([b7, b8, b9].map V.bl)))
  have e5 := e4.trans (Ex.new n5 (o := .lst ([b0, b1, b2, b3, b4, b5, b6, b7, b8, b9].map V.bl)))
  refine ⟨by show 10 ≤ sizeLine; decide, fun l6 n6 => ?_⟩
  have e6 := e5.trans (Ex.new n6 (o := .lst (kinNames.map V.str)))
  refine ⟨rfl, _, rfl, _, rfl, l6, l5, kinNames.map V.str, [b0, b1, b2, b3, b4, b5, b6, b7, b8, b9].map V.bl, rfl, sq_of upd_same, sq_of (Ex.new n6 _ _ upd_same), fun D hD => ?_⟩
  refine kin_walk (bs := [b0, b1, b2, b3, b4, b5, b6, b7, b8, b9]) hD (sq_of upd_same) (sq_of (Ex.new n6 _ _ upd_same)) rfl fun H' ex at_ => ?_
  have size := pick_sum (bs := [b0, b1, b2, b3, b4, b5, b6, b7, b8, b9]) 10
  refine ⟨"", D, _, rfl, rfl, .inl (sq_of at_), ?_, q H' (e6.trans ex)⟩
  show _ + _ * 0 ≤ _
  omega
end

/-! ### a lambda handed to the def that tries it -/
theorem takes_none {X : Cx} : L2N.Takes X (fun _ _ _ _ => False) := fun _ _ ⟨_, _, _, _, _, _, _, _, _, _, _, _, _, _, _, _, no⟩ => no.elim
section
variable {K : PySem.W.Frag} {mg : Str → Option Value}
/-- what is made of an error of the lambda: its kinds, told -/
def Caught (T : Txt K mg) (Q : VK) : XK := fun cls d H => ∃ D b0 b1 b2 b3 b4 b5 b6 b7 b8 b9, cls = .ref D ∧ d = none ∧ PySem.W.exmOne K (.ref D) (.ref T.C_YearError) = some true ∧ Kin T D b0 b1 b2 b3 b4 b5 b6 b7 b8 b9 ∧ RetV (.str (kinWord [b0, b1, b2, b3, b4, b5, b6, b7, b8, b9])) H Q
/-- what is made of what it gives: a pair -/
def Given (Q : VK) : VK := fun v H => ∀ t, H t = none → Q (.ref t) (upd H t (.tup [.str "told", v]))
theorem try_runs {X : Cx} {n : Nat} (T : Txt X.K X.mg) {pins : List (Addr × Obj)} {σ : L2.St} {H : Hp} {s : Shared} {params : Arguments} {body : Expr} {scope : Scope} {f c : Addr} {tb : XK → TE} {cdv : Value} {Q : VK} (I : Inv X pins σ H s) (L : LamX.LamS X.env.scope scope) (at_ : LamAt X s H params body scope f c)
    (none_ : ∀ (q : Str) (cl : List (Str × Addr)) (pm cv ctv : Value), bindArgs (PySem.W.kla_fn "<lambda>" q params body scope cl pm cv ctv) ⟨[], []⟩ = pure [])
    (runs : ∀ (A : Around) (outer : List Env) (sZ : Shared) (HZ : Hp) (E : XK), Room n (A.deeper (LamX.lamEnv X scope sZ.heap.objs.size f c)) → PE (lamN X A outer sZ HZ E scope f c) body (tb E))
    (hr : Room (n + 1) (X.A.deeper (envOfC "_law_try" (defScope s__law_try) s.heap.objs.size T._law_try.f cdv))) (h : ∀ (E : XK) (Q' : VK), (∀ cls d H', Caught T Q cls d H' → E cls d H') → (∀ v H', Given Q v H' → Q' v H') → tb E σ H Q') :
    ∃ t, PSs (cxOf CX0 X.prog X.w X.K X.mg X.base ["door", "found", "e"] "_law_try" (defScope s__law_try) T._law_try.f cdv X.A X.stack s H E0) (defBody s__law_try) t ∧ t { nx := fun _ H' => Q .non H', rt := Q } (L2.start ["door", "found", "e"] [.ref f]) H := by
  refine ⟨_, PSs.nox (pss_cons (ps_set (i := 1) sc__law_try.nd rfl (Or.inl rfl) pe_non) (pss_cons (L2N.ps_try_as (i := 2) rfl rfl sc__law_try.nd rfl rfl ⟨rfl, by decide, .inl T.g_YearError⟩ takes_none
    (fun W pn xe tk _ => pss_one (ps_set (i := 1) sc__law_try.nd rfl (Or.inl rfl) (pe_tup (pa_cons pe_str (pa_cons (pe_door I L at_ none_ ⟨rfl, rfl, rfl, rfl, rfl⟩ ⟨rfl, rfl, rfl, rfl⟩ rfl ?room tk (fun sZ HZ E => runs _ _ sZ HZ E (hr.deeper _)) (i := 0) rfl (.inl rfl)) pa_nil)))))
    (fun a oe cls d pn zn fl => pss_one (ps_set (i := 1) sc__law_try.nd rfl (Or.inl rfl) (show PE _ _ (fun σ H Q => σ[2]? = some (some (V.ref a)) ∧ Caught T Q cls d H) from pe_told (Y := (cxOf CX0 X.prog X.w X.K X.mg X.base ["door", "found", "e"] "_law_try" (defScope s__law_try) T._law_try.f cdv X.A X.stack s H E0).nox.suite a ((a, oe) :: pn)) (e := "e") (p := (a, oe)) (k := 0) (i := 2) (R := fun H Q => Caught T Q cls d H) T._law_kin.F sc__law_kin T._law_kin.b ?hot (List.mem_cons_self ..) ?roomH rfl T._law_kin.g rfl (.inl rfl) ?kin)))) (pss_one (ps_ret (pv 1))))), ?rd⟩
  case room => exact (L2H.roomH_of hr).depth
  case hot =>
    obtain ⟨vs, ev⟩ := fl
    exact ⟨rfl, vs, ev, zn.2.2 vs ev⟩
  case roomH =>
    have r := (L2H.roomH_of hr).mono (show 0 + 1 ≤ n + 1 by omega)
    exact ⟨r.dp, r.un⟩
  case kin =>
    rintro cd A outer s' H' Q' hot _ ⟨D, b0, b1, b2, b3, b4, b5, b6, b7, b8, b9, rfl, rfl, _, kin, q⟩
    exact kin_runs T kin hot zn.zc q
  case rd =>
    refine ⟨rfl, at_.code, h _ _ (fun cls d H' ⟨D, b0, b1, b2, b3, b4, b5, b6, b7, b8, b9, e1, e2, em, kin, q⟩ => ?_) fun v H' g => ⟨by show 2 ≤ sizeLine; decide, fun t nt => ⟨_, rfl, g t nt⟩⟩⟩
    subst e1 e2
    exact ⟨true, em, fun _ a na => ⟨rfl, D, b0, b1, b2, b3, b4, b5, b6, b7, b8, b9, rfl, rfl, em, kin, fun H1 x1 => ⟨_, rfl, q H1 x1⟩⟩, fun z => by cases z⟩
theorem pe_try {X : Cx} {n : Nat} (T : Txt X.K X.mg) {params : Arguments} {body : Expr} {scope : Scope} {c P : Addr} {tb : XK → TE} {q lpos pos : Pos} (hg : Gl X "_law_try") (TB : LamX.TabB X.base X.mg c P) (hcode : X.env.code = .ref c) (hr : Room (n + 2) X.A) (L : LamX.LamS X.env.scope scope)
    (hdef : defaultsOf params X.env = ([], [])) (none_ : ∀ (q : Str) (cl : List (Str × Addr)) (pm cv ctv : Value), bindArgs (PySem.W.kla_fn "<lambda>" q params body scope cl pm cv ctv) ⟨[], []⟩ = pure [])
    (runs : ∀ (f c' : Addr) (A : Around) (outer : List Env) (sZ : Shared) (HZ : Hp) (E : XK), Room n (A.deeper (LamX.lamEnv X scope sZ.heap.objs.size f c')) → PE (lamN X A outer sZ HZ E scope f c') body (tb E)) :
    PE X (.Call (.Name "_law_try" q) [.Lambda params body scope lpos] [] pos) (fun σ H Q => LamX.TabS H P (X.env.qual ++ "<lambda>") ∧ ∀ H1, LamX.ExtN H H1 → LamX.TabS H1 P (X.env.qual ++ "<lambda>") → ∀ (E : XK) (Q' : VK), (∀ cls d H', Caught T Q cls d H' → E cls d H') → (∀ v H', Given Q v H' → Q' v H') → tb E σ H1 Q') := by
  refine ⟨fun pins s σ H Q I ⟨tab, h⟩ => wpAny_Call_Name_kw (ld_glob I hg T._law_try.g ?_)⟩
  have all : ∀ {H' : Hp}, LamX.TabS H' P (X.env.qual ++ "<lambda>") → LamX.Tabs [(P, X.env.qual ++ "<lambda>")] H' := fun t p hp => by
    cases List.mem_singleton.mp hp
    exact t
  refine PySem.W.callWith_K (h₀ := X.base) I.ok.mod.kin T._law_try.F.kp (args_cons (LamX.lam_make2 I TB hcode (List.mem_cons_self ..) (fun p hp _ => by cases List.mem_singleton.mp hp; rfl) (all tab) hdef (L.has I.ok) fun f c' pm ctv H1 s1 I1 ext tabs made out nofr code => args_nil ⟨I1.kIn, ?_⟩))
  obtain ⟨oc, od, kV, doc, pm', an, cdv, ct, osl, e, lk, cd⟩ := T._law_try.F.ex
  have bound := T._law_try.b s1 [.ref f] I1.kIn rfl
  rw [e] at bound lk
  refine wpAny_call (codeAny_mono (LamX.run_ofS (CX := CX0) (E := E0) (Q := Q) lk cd sc__law_try hr I1.env0 bound (vs := [.ref f]) (.cons rfl .nil) rfl fun hr1 => try_runs T I1 L ⟨⟨pm, ctv, made⟩, out, nofr, code⟩ none_ (runs f c') hr1 (h H1 ext (tabs _ (List.mem_cons_self ..)))) fun r t z => ?_)
  match r, z with
  | .ok (.ret u), z => exact I1.after z
  | .error x, z => exact (z : False).elim
end

/-! ### things: plain data by kinds -/
inductive Kd where
  | non | bl | int | str | lst | tup
def Kd.nm : Kd → String
  | .non => "NoneType" | .bl => "bool" | .int => "int" | .str => "str" | .lst => "list" | .tup => "tuple"
inductive Dat (H : Hp) : V → Kd → Prop where
  | non : Dat H .non .non
  | bl (b : Bool) : Dat H (.bl b) .bl
  | int (i : Int) : Dat H (.int i) .int
  | str (x : Str) : Dat H (.str x) .str
  | lst {a : Addr} {xs : List V} (h : H a = some (.lst xs)) : Dat H (.ref a) .lst
  | tup {a : Addr} {xs : List V} (h : H a = some (.tup xs)) : Dat H (.ref a) .tup
theorem Dat.ty {K : PySem.W.Frag} {H : Hp} {x : V} {t : Kd} (d : Dat H x t) : TyX K H x (.type t.nm) := by
  cases d with
  | non => exact .base .non
  | bl b => exact .base (.bl b)
  | int i => exact .base (.int i)
  | str x => exact .base (.str x)
  | lst h => exact .base (.lst h)
  | tup h => exact .base (.tup h)
theorem Dat.ex {H H' : Hp} {x : V} {t : Kd} (e : Ex H H') (d : Dat H x t) : Dat H' x t := by
  cases d with
  | non => exact .non
  | bl b => exact .bl b
  | int i => exact .int i
  | str x => exact .str x
  | lst h => exact .lst (e _ _ h)
  | tup h => exact .tup (e _ _ h)
/-- isinstance among these kinds -/
def Kd.isa : Kd → Kd → Bool
  | .non, .non => true | .bl, .bl => true | .bl, .int => true | .int, .int => true | .str, .str => true | .lst, .lst => true | .tup, .tup => true
  | _, _ => false
theorem kit_kd {K : PySem.W.Frag} (a b : Kd) (hb : b.nm ≠ "NoneType") : PySem.W.kitOne K (.type a.nm) (.type b.nm) = some (a.isa b) := by
  cases b
  case non => exact absurd rfl hb
  all_goals cases a <;> exact kit_ty (by decide +kernel)
def wholeV : V → Bool
  | .int _ => true
  | _ => false
def btw (x : V) (lo hi : Int) : Bool := match x with
  | .int i => decide (lo ≤ i) && decide (i ≤ hi)
  | _ => false
section
variable {P : Program} {w : World} {K : PySem.W.Frag} {mg : Str → Option Value} {base : Heap}
def spWhole : Sp := fun vs H Q _ => ∃ x t, vs = [x] ∧ Dat H x t ∧ RetV (.bl (wholeV x)) H Q
theorem ok_is_whole (T : Txt K mg) {k : Nat} : FnOk P w K mg base CX0 (k + 1) T.is_whole.f T.is_whole.fd ["thing"] spWhole := by
  refine T.is_whole.F.ok sc_is_whole (fun vs H Q E h => ?_) (fun cdv A outer s H vs Q E hr h => ?_)
  · obtain ⟨x, t, rfl, _⟩ := h
    rfl
  · obtain ⟨x, t, rfl, d, q⟩ := h
    have q0 := q H (Ex.refl H)
    refine ⟨_, (pss_one (ps_ret (pe_and (pe_callB call_isi (by rfl) T.isinstance (by decide +kernel) (pa_cons (pv 0) (pa_cons (pe_bltn (v := .ty "int") (by rfl) T.b_int (by decide +kernel) rfl) pa_nil))) (pe_one (pe_not (pe_callB call_isi (by rfl) T.isinstance (by decide +kernel) (pa_cons (pv 0) (pa_cons (pe_bltn (v := .ty "bool") (by rfl) T.b_bool (by decide +kernel) rfl) pa_nil)))))))), ?_⟩
    refine ⟨_, rfl, _, _, _, _, _, rfl, .ty _, d.ty, kit_kd t .int (by decide), _, rfl, ?_⟩
    cases d
    case non => exact iteF q0
    case str => exact iteF q0
    case lst => exact iteF q0
    case tup => exact iteF q0
    case bl b => exact iteT ⟨_, rfl, _, _, _, _, _, rfl, .ty _, Dat.ty (.bl b), kit_kd .bl .bl (by decide), _, rfl, q0⟩
    case int i => exact iteT ⟨_, rfl, _, _, _, _, _, rfl, .ty _, Dat.ty (.int i), kit_kd .int .bl (by decide), _, rfl, q0⟩
def spBetween : Sp := fun vs H Q _ => ∃ x t lo hi, vs = [x, .int lo, .int hi] ∧ Dat H x t ∧ RetV (.bl (btw x lo hi)) H Q
theorem ok_is_between (T : Txt K mg) : FnOk P w K mg base CX0 2 T.is_between.f T.is_between.fd ["thing", "least", "most"] spBetween := by
  have G_is_whole : FnOk P w K mg base CX0 1 T.is_whole.f T.is_whole.fd ["thing"] spWhole := ok_is_whole T
  refine T.is_between.F.ok sc_is_between (fun vs H Q E h => ?_) (fun cdv A outer s H vs Q E hr h => ?_)
  · obtain ⟨x, t, lo, hi, rfl, _⟩ := h
    rfl
  · obtain ⟨x, t, lo, hi, rfl, d, q⟩ := h
    refine ⟨_, (pss_one (ps_ret (pe_and (pe_call G_is_whole (hr.mono (by omega)) (by rfl) T.is_whole.g T.is_whole.F.kp T.is_whole.b .nil pass0 (pa_cons (pv 0) pa_nil)) (pe_one (pe_chain op_le op_le (pv 1) (pv 0) (pv 2)))))), ?_⟩
    refine ⟨_, rfl, x, t, rfl, d, fun H1 e1 => ⟨_, rfl, ?_⟩⟩
    have q1 := q H1 e1
    cases x with
    | int i =>
      refine iteT ⟨_, rfl, _, rfl, _, _, rfl, rfl, _, rfl, ?_⟩
      by_cases h1 : lo ≤ i
      · rw [if_pos (decide_eq_true h1)]
        refine ⟨_, rfl, _, _, rfl, rfl, ?_⟩
        have e : btw (.int i) lo hi = decide (i ≤ hi) := by
          show (decide (lo ≤ i) && decide (i ≤ hi)) = _
          rw [decide_eq_true h1, Bool.true_and]
        rw [e] at q1
        exact q1
      · rw [if_neg (by rw [decide_eq_false h1]; decide)]
        have e : btw (.int i) lo hi = false := by
          show (decide (lo ≤ i) && decide (i ≤ hi)) = _
          rw [decide_eq_false h1, Bool.false_and]
        rw [e] at q1
        exact q1
    | _ => exact iteF q1
end

/-! ### is_land -/
def topB (t b : V) : Bool := match b with
  | .int b' => btw t 0 (b' - 1)
  | _ => false
def landL : List V → Bool
  | [d, t, b, s] => btw d 1 400 && (btw b 1 60 && (topB t b && btw s (-1000000) 1000000))
  | _ => false
def landB (H : Hp) (x : V) : Bool := match x with
  | .ref a => match H a with
    | some (.tup xs) => landL xs
    | _ => false
  | _ => false
theorem landB_tup {H : Hp} {a : Addr} {xs : List V} (h : H a = some (.tup xs)) : landB H (.ref a) = landL xs := by
  show (match H a with | some (.tup xs) => landL xs | _ => false) = _
  rw [h]
theorem landB_lst {H : Hp} {a : Addr} {xs : List V} (h : H a = some (.lst xs)) : landB H (.ref a) = false := by
  show (match H a with | some (.tup xs) => landL xs | _ => false) = _
  rw [h]
/-- all parts of a tuple are plain data -/
def Parts (H : Hp) (x : V) : Prop := ∀ a xs, x = .ref a → H a = some (.tup xs) → ∀ y ∈ xs, ∃ u, Dat H y u
theorem landL_len {xs : List V} (h : xs.length ≠ 4) : landL xs = false := by
  match xs, h with
  | [], _ => rfl
  | [_], _ => rfl
  | [_, _], _ => rfl
  | [_, _, _], _ => rfl
  | [_, _, _, _], h => exact absurd rfl h
  | _ :: _ :: _ :: _ :: _ :: _, _ => rfl
section
variable {P : Program} {w : World} {K : PySem.W.Frag} {mg : Str → Option Value} {base : Heap}
def spIsLand : Sp := fun vs H Q _ => ∃ x t, vs = [x] ∧ Dat H x t ∧ Parts H x ∧ RetV (.bl (landB H x)) H Q
theorem ok_is_land (T : Txt K mg) : FnOk P w K mg base CX0 3 T.is_land.f T.is_land.fd ["thing"] spIsLand := by
  have G_is_between : FnOk P w K mg base CX0 2 T.is_between.f T.is_between.fd ["thing", "least", "most"] spBetween := ok_is_between T
  refine T.is_land.F.ok sc_is_land (fun vs H Q E h => ?_) (fun cdv A outer s H vs Q E hr h => ?_)
  · obtain ⟨x, t, rfl, _⟩ := h
    rfl
  · obtain ⟨x, t, rfl, d, hp, q⟩ := h
    have q0 := q H (Ex.refl H)
    refine ⟨_, (pss_cons (ps_if (PW.pt (pw_or (pt_not (pt_val (pe_callB call_isi (by rfl) T.isinstance (by decide +kernel) (pa_cons (pv 0) (pa_cons (pe_bltn (v := .ty "tuple") (by rfl) T.tuple (by decide +kernel) rfl) pa_nil))))) (pw_or1 (pt_cmpR op_ne (pe_callB call_len_seq (by rfl) T.len (by decide +kernel) (pa_cons (pv 0) pa_nil)) pe_int (nomark _)))))
        (pss_one (ps_ret pe_bl))
        pss_nil)
      (pss_cons (ps_asg (pv 0) (pg_tup rfl (pgs_cons (pg_name (i := 1) sc_is_land.nd rfl (Or.inl rfl)) (pgs_cons (pg_name (i := 2) sc_is_land.nd rfl (Or.inl rfl)) (pgs_cons (pg_name (i := 3) sc_is_land.nd rfl (Or.inl rfl)) (pgs_cons (pg_name (i := 4) sc_is_land.nd rfl (Or.inl rfl)) pgs_nil))))))
      (pss_one (ps_ret (pe_and (pe_call G_is_between (hr.mono (by omega)) (by rfl) T.is_between.g T.is_between.F.kp T.is_between.b .nil pass0 (pa_cons (pv 1) (pa_cons pe_int (pa_cons (pe_glob (v := .int 400) rfl T.c_MOST_DAYS ⟨_, rfl⟩) pa_nil)))) (pe_and (pe_call G_is_between (hr.mono (by omega)) (by rfl) T.is_between.g T.is_between.F.kp T.is_between.b .nil pass0 (pa_cons (pv 3) (pa_cons pe_int (pa_cons (pe_glob (v := .int 60) rfl T.c_MOST_BOTTOM ⟨_, rfl⟩) pa_nil)))) (pe_and (pe_call G_is_between (hr.mono (by omega)) (by rfl) T.is_between.g T.is_between.F.kp T.is_between.b .nil pass0 (pa_cons (pv 2) (pa_cons pe_int (pa_cons (pe_op op_sub (pv 3) pe_int) pa_nil)))) (pe_one (pe_call G_is_between (hr.mono (by omega)) (by rfl) T.is_between.g T.is_between.F.kp T.is_between.b .nil pass0 (pa_cons (pv 4) (pa_cons (pe_un un_neg (pe_glob (v := .int 1000000) rfl T.c_MOST_SHIFT ⟨_, rfl⟩)) (pa_cons (pe_glob (v := .int 1000000) rfl T.c_MOST_SHIFT ⟨_, rfl⟩) pa_nil)))))))))))), ?_⟩
    refine ⟨_, rfl, _, _, _, _, _, rfl, .ty _, d.ty, kit_kd t .tup (by decide), _, rfl, ?_⟩
    cases d
    case non => exact iteT (iteT q0)
    case bl => exact iteT (iteT q0)
    case int => exact iteT (iteT q0)
    case str => exact iteT (iteT q0)
    case lst h =>
      rw [landB_lst h] at q0
      exact iteT (iteT q0)
    case tup a xs h =>
      refine iteF ⟨_, rfl, a, xs, rfl, .inr (st_of h), rfl, _, rfl, ite2 (fun e => ?_) (fun e => ?_)⟩
      · have hl : xs.length ≠ 4 := fun z => by
          rw [z] at e
          exact absurd e (by decide)
        rw [landB_tup h, landL_len hl] at q0
        exact q0
      · have hl : xs.length = 4 := by
          have e2 := Bool.eq_false_iff.mpr e
          have e3 := of_decide_eq_true (by simpa using e2 : decide (V.int (xs.length : Int) = V.int 4) = true)
          have := V.int.inj e3
          omega
        obtain ⟨dd, tt, bb, ss, rfl⟩ : ∃ d t b s, xs = [d, t, b, s] := by
          match xs, hl with
          | [d, t, b, s], _ => exact ⟨d, t, b, s, rfl⟩
        have hd := hp a _ rfl h
        obtain ⟨kd, dd'⟩ := hd dd (by simp)
        obtain ⟨kt, dt'⟩ := hd tt (by simp)
        obtain ⟨kb, db'⟩ := hd bb (by simp)
        obtain ⟨ks, ds'⟩ := hd ss (by simp)
        have q1 : ∀ H1, Ex H H1 → Q (.bl (btw dd 1 400 && (btw bb 1 60 && (topB tt bb && btw ss (-1000000) 1000000)))) H1 := fun H1 e1 => by
          have z := q H1 e1
          rw [landB_tup h] at z
          exact z
        refine ⟨.ref a, rfl, a, _, rfl, st_of h, rfl, dd, _, rfl, tt, _, rfl, bb, _, rfl, ss, _, rfl, rfl, ?_⟩
        refine ⟨dd, rfl, dd, kd, 1, 400, rfl, dd', fun H1 e1 => ⟨_, rfl, ?_⟩⟩
        cases c1 : btw dd 1 400 with
        | false =>
          have z := q1 H1 e1
          rw [c1, Bool.false_and] at z
          exact iteF z
        | true =>
        rw [c1, Bool.true_and] at q1
        refine iteT ⟨bb, rfl, bb, kb, 1, 60, rfl, db'.ex e1, fun H2 e2 => ⟨_, rfl, ?_⟩⟩
        have e12 := e1.trans e2
        cases c2 : btw bb 1 60 with
        | false =>
          have z := q1 H2 e12
          rw [c2, Bool.false_and] at z
          exact iteF z
        | true =>
        rw [c2, Bool.true_and] at q1
        match bb, c2 with
        | .int b', c2 =>
        refine iteT ⟨tt, rfl, .int b', rfl, b', 1, rfl, rfl, tt, kt, 0, b' - 1, rfl, dt'.ex e12, fun H3 e3 => ⟨_, rfl, ?_⟩⟩
        have e123 := e12.trans e3
        cases c3 : btw tt 0 (b' - 1) with
        | false =>
          have z := q1 H3 e123
          rw [show topB tt (V.int b') = btw tt 0 (b' - 1) from rfl, c3, Bool.false_and] at z
          exact iteF z
        | true =>
          refine iteT ⟨ss, rfl, 1000000, rfl, ss, ks, -1000000, 1000000, rfl, ds'.ex e123, fun H4 e4 => ?_⟩
          have z := q1 H4 (e123.trans e4)
          rw [show topB tt (V.int b') = btw tt 0 (b' - 1) from rfl, c3, Bool.true_and] at z
          exact z
end

/-! ### a land at a value -/
def Land (H : Hp) (v : V) (D T B S : Int) : Prop := ∃ a, v = .ref a ∧ H a = some (.tup [.int D, .int T, .int B, .int S]) ∧ (1 ≤ D ∧ D ≤ 400) ∧ (0 ≤ T ∧ T < B) ∧ (1 ≤ B ∧ B ≤ 60) ∧ (-1000000 ≤ S ∧ S ≤ 1000000)
theorem Land.ex {H H' : Hp} {v : V} {D T B S : Int} (e : Ex H H') (h : Land H v D T B S) : Land H' v D T B S := by
  obtain ⟨a, rfl, ha, r⟩ := h
  exact ⟨a, rfl, e _ _ ha, r⟩
theorem btw_yes {i lo hi : Int} (h : lo ≤ i ∧ i ≤ hi) : btw (.int i) lo hi = true := by
  show (decide (lo ≤ i) && decide (i ≤ hi)) = true
  rw [decide_eq_true h.1, decide_eq_true h.2]
  rfl
theorem btw_iff {i lo hi : Int} : btw (.int i) lo hi = true ↔ (lo ≤ i ∧ i ≤ hi) := by
  show (decide (lo ≤ i) && decide (i ≤ hi)) = true ↔ _
  rw [Bool.and_eq_true, decide_eq_true_iff, decide_eq_true_iff]
theorem Land.is {H : Hp} {v : V} {D T B S : Int} (h : Land H v D T B S) : landB H v = true := by
  obtain ⟨a, rfl, ha, r1, r2, r3, r4⟩ := h
  rw [landB_tup ha]
  show (btw (.int D) 1 400 && (btw (.int B) 1 60 && (btw (.int T) 0 (B - 1) && btw (.int S) (-1000000) 1000000))) = true
  rw [btw_yes r1, btw_yes r3, btw_yes ⟨r2.1, by omega⟩, btw_yes r4]
  rfl
theorem Land.parts {H : Hp} {v : V} {D T B S : Int} (h : Land H v D T B S) : Parts H v ∧ Dat H v .tup := by
  obtain ⟨a, rfl, ha, _⟩ := h
  refine ⟨fun b xs e hb y hy => ?_, .tup ha⟩
  cases e
  rw [ha] at hb
  cases hb
  simp only [List.mem_cons, List.not_mem_nil, or_false] at hy
  rcases hy with rfl | rfl | rfl | rfl <;> exact ⟨_, .int _⟩
/-- the day on which a year begins; how many days of these are added -/
def fst (D T B S y : Int) : Int := ((D * B + T) * y + S) / B
def add (T B S y : Int) : Int := (T * y + S) / B
def yr (D T B S n : Int) : Int := ((n + 1) * B - S - 1) / (D * B + T)
theorem cm_l {i j : Int} (h : -1000000000 ≤ i ∧ i ≤ 1000000000) : CMul i j := .inl ⟨by omega, by omega⟩
theorem cm_r {i j : Int} (h : -1000000000 ≤ j ∧ j ≤ 1000000000) : CMul i j := .inr ⟨by omega, by omega⟩
theorem step_bd {D T B : Int} (r1 : 1 ≤ D ∧ D ≤ 400) (r2 : 0 ≤ T ∧ T < B) (r3 : 1 ≤ B ∧ B ≤ 60) : 1 ≤ D * B + T ∧ D * B + T ≤ 24060 := by
  have h1 : D * B ≤ 400 * B := Int.mul_le_mul_of_nonneg_right r1.2 (by omega)
  have h2 : 1 * B ≤ D * B := Int.mul_le_mul_of_nonneg_right r1.1 (by omega)
  omega

section
variable {P : Program} {w : World} {K : PySem.W.Frag} {mg : Str → Option Value} {base : Heap}
def spNeedLand : Sp := fun vs H Q _ => ∃ v D T B S, vs = [v] ∧ Land H v D T B S ∧ RetV .non H Q
theorem ok_need_land (T : Txt K mg) : FnOk P w K mg base CX0 4 T.need_land.f T.need_land.fd ["thing"] spNeedLand := by
  have G_is_land : FnOk P w K mg base CX0 3 T.is_land.f T.is_land.fd ["thing"] spIsLand := ok_is_land T
  refine T.need_land.F.ok sc_need_land (fun vs H Q E h => ?_) (fun cdv A outer s H vs Q E hr h => ?_)
  · obtain ⟨x, _, _, _, _, rfl, _⟩ := h
    rfl
  · obtain ⟨x, d, t, b, sh, rfl, hl, q⟩ := h
    refine ⟨_, (pss_one (ps_if (pt_not (pt_val (pe_call G_is_land (hr.mono (by omega)) (by rfl) T.is_land.g T.is_land.F.kp T.is_land.b .nil pass0 (pa_cons (pv 0) pa_nil))))
        (pss_one ps_never)
        pss_nil)), ?_⟩
    refine ⟨_, rfl, x, _, rfl, hl.parts.2, hl.parts.1, fun H1 e1 => ⟨_, rfl, ?_⟩⟩
    rw [hl.is]
    exact iteF (q H1 e1)
def spNum : Sp := fun vs H Q _ => ∃ i : Int, vs = [.int i] ∧ (-1000000000000000000000000000000 ≤ i ∧ i ≤ 1000000000000000000000000000000) ∧ RetV .non H Q
theorem ok_need_year (T : Txt K mg) : FnOk P w K mg base CX0 3 T.need_year.f T.need_year.fd ["thing"] spNum := by
  have G_is_between : FnOk P w K mg base CX0 2 T.is_between.f T.is_between.fd ["thing", "least", "most"] spBetween := ok_is_between T
  refine T.need_year.F.ok sc_need_year (fun vs H Q E h => ?_) (fun cdv A outer s H vs Q E hr h => ?_)
  · obtain ⟨i, rfl, _⟩ := h
    rfl
  · obtain ⟨i, rfl, hb, q⟩ := h
    refine ⟨_, (pss_one (ps_if (pt_not (pt_val (pe_call G_is_between (hr.mono (by omega)) (by rfl) T.is_between.g T.is_between.F.kp T.is_between.b .nil pass0 (pa_cons (pv 0) (pa_cons (pe_un un_neg (pe_glob (v := .int 1000000000000000000000000000000) rfl T.c_FARTHEST ⟨_, rfl⟩)) (pa_cons (pe_glob (v := .int 1000000000000000000000000000000) rfl T.c_FARTHEST ⟨_, rfl⟩) pa_nil))))))
        (pss_one ps_never)
        pss_nil)), ?_⟩
    refine ⟨_, rfl, _, rfl, _, _, _, _, rfl, .int i, fun H1 e1 => ⟨_, rfl, ?_⟩⟩
    rw [btw_yes hb]
    exact iteF (q H1 e1)

theorem ok_need_day (T : Txt K mg) : FnOk P w K mg base CX0 3 T.need_day.f T.need_day.fd ["thing"] spNum := by
  have G_is_between : FnOk P w K mg base CX0 2 T.is_between.f T.is_between.fd ["thing", "least", "most"] spBetween := ok_is_between T
  refine T.need_day.F.ok sc_need_day (fun vs H Q E h => ?_) (fun cdv A outer s H vs Q E hr h => ?_)
  · obtain ⟨i, rfl, _⟩ := h
    rfl
  · obtain ⟨i, rfl, hb, q⟩ := h
    refine ⟨_, (pss_one (ps_if (pt_not (pt_val (pe_call G_is_between (hr.mono (by omega)) (by rfl) T.is_between.g T.is_between.F.kp T.is_between.b .nil pass0 (pa_cons (pv 0) (pa_cons (pe_un un_neg (pe_glob (v := .int 1000000000000000000000000000000) rfl T.c_FARTHEST ⟨_, rfl⟩)) (pa_cons (pe_glob (v := .int 1000000000000000000000000000000) rfl T.c_FARTHEST ⟨_, rfl⟩) pa_nil))))))
        (pss_one ps_never)
        pss_nil)), ?_⟩
    refine ⟨_, rfl, _, rfl, _, _, _, _, rfl, .int i, fun H1 e1 => ⟨_, rfl, ?_⟩⟩
    rw [btw_yes hb]
    exact iteF (q H1 e1)

def spStep : Sp := fun vs H Q _ => ∃ v D T B S, vs = [v] ∧ Land H v D T B S ∧ RetV (.int (D * B + T)) H Q
theorem ok_step_of (T : Txt K mg) : FnOk P w K mg base CX0 1 T.step_of.f T.step_of.fd ["land"] spStep := by
  refine T.step_of.F.ok sc_step_of (fun vs H Q E h => ?_) (fun cdv A outer s H vs Q E hr h => ?_)
  · obtain ⟨x, _, _, _, _, rfl, _⟩ := h
    rfl
  · obtain ⟨x, D, T', B, S, rfl, ⟨a, rfl, ha, r1, r2, r3, r4⟩, q⟩ := h
    refine ⟨_, (pss_cons (ps_asg (pv 0) (pg_tup rfl (pgs_cons (pg_name (i := 1) sc_step_of.nd rfl (Or.inl rfl)) (pgs_cons (pg_name (i := 2) sc_step_of.nd rfl (Or.inl rfl)) (pgs_cons (pg_name (i := 3) sc_step_of.nd rfl (Or.inl rfl)) (pgs_cons (pg_name (i := 4) sc_step_of.nd rfl (Or.inl rfl)) pgs_nil))))))
      (pss_one (ps_ret (pe_op op_add (pe_op op_mul (pv 1) (pv 3)) (pv 2))))), ?_⟩
    refine ⟨_, rfl, a, _, rfl, st_of ha, rfl, _, _, rfl, _, _, rfl, _, _, rfl, _, _, rfl, rfl, ?_⟩
    exact ⟨_, rfl, _, rfl, _, _, rfl, rfl, cm_l (by omega), _, rfl, _, _, rfl, rfl, q H (Ex.refl H)⟩
def spFirst : Sp := fun vs H Q _ => ∃ v D T B S y, vs = [v, .int y] ∧ Land H v D T B S ∧ RetV (.int (fst D T B S y)) H Q
theorem ok_first_day (T : Txt K mg) : FnOk P w K mg base CX0 2 T.first_day.f T.first_day.fd ["land", "year"] spFirst := by
  have G_step_of : FnOk P w K mg base CX0 1 T.step_of.f T.step_of.fd ["land"] spStep := ok_step_of T
  refine T.first_day.F.ok sc_first_day (fun vs H Q E h => ?_) (fun cdv A outer s H vs Q E hr h => ?_)
  · obtain ⟨x, _, _, _, _, _, rfl, _⟩ := h
    rfl
  · obtain ⟨x, D, T', B, S, y, rfl, hL, q⟩ := h
    obtain ⟨a, rfl, ha, r1, r2, r3, r4⟩ := id hL
    have hs := step_bd r1 r2 r3
    refine ⟨_, (pss_cons (ps_asg (pv 0) (pg_tup rfl (pgs_cons (pg_name (i := 2) sc_first_day.nd rfl (Or.inl rfl)) (pgs_cons (pg_name (i := 3) sc_first_day.nd rfl (Or.inl rfl)) (pgs_cons (pg_name (i := 4) sc_first_day.nd rfl (Or.inl rfl)) (pgs_cons (pg_name (i := 5) sc_first_day.nd rfl (Or.inl rfl)) pgs_nil))))))
      (pss_one (ps_ret (pe_op op_fdiv (pe_op op_add (pe_op op_mul (pe_call G_step_of (hr.mono (by omega)) (by rfl) T.step_of.g T.step_of.F.kp T.step_of.b .nil pass0 (pa_cons (pv 0) pa_nil)) (pv 1)) (pv 5)) (pv 4))))), ?_⟩
    refine ⟨_, rfl, a, _, rfl, st_of ha, rfl, _, _, rfl, _, _, rfl, _, _, rfl, _, _, rfl, rfl, ?_⟩
    refine ⟨_, rfl, _, D, T', B, S, rfl, hL, fun H1 e1 => ?_⟩
    exact ⟨_, rfl, _, _, rfl, rfl, cm_l (by omega), _, rfl, _, _, rfl, rfl, _, rfl, _, _, rfl, rfl, ⟨by omega, by omega⟩, q H1 e1⟩

def spAdded : Sp := fun vs H Q _ => ∃ v D T B S y, vs = [v, .int y] ∧ Land H v D T B S ∧ RetV (.int (add T B S y)) H Q
theorem ok_added_days (T : Txt K mg) : FnOk P w K mg base CX0 1 T.added_days.f T.added_days.fd ["land", "year"] spAdded := by
  refine T.added_days.F.ok sc_added_days (fun vs H Q E h => ?_) (fun cdv A outer s H vs Q E hr h => ?_)
  · obtain ⟨x, _, _, _, _, _, rfl, _⟩ := h
    rfl
  · obtain ⟨x, D, T', B, S, y, rfl, hL, q⟩ := h
    obtain ⟨a, rfl, ha, r1, r2, r3, r4⟩ := id hL
    refine ⟨_, (pss_cons (ps_asg (pv 0) (pg_tup rfl (pgs_cons (pg_name (i := 2) sc_added_days.nd rfl (Or.inl rfl)) (pgs_cons (pg_name (i := 3) sc_added_days.nd rfl (Or.inl rfl)) (pgs_cons (pg_name (i := 4) sc_added_days.nd rfl (Or.inl rfl)) (pgs_cons (pg_name (i := 5) sc_added_days.nd rfl (Or.inl rfl)) pgs_nil))))))
      (pss_one (ps_ret (pe_op op_fdiv (pe_op op_add (pe_op op_mul (pv 3) (pv 1)) (pv 5)) (pv 4))))), ?_⟩
    refine ⟨_, rfl, a, _, rfl, st_of ha, rfl, _, _, rfl, _, _, rfl, _, _, rfl, _, _, rfl, rfl, ?_⟩
    exact ⟨_, rfl, _, rfl, _, _, rfl, rfl, cm_l (by omega), _, rfl, _, _, rfl, rfl, _, rfl, _, _, rfl, rfl, ⟨by omega, by omega⟩, q H (Ex.refl H)⟩

abbrev Far (i : Int) : Prop := -1000000000000000000000000000000 ≤ i ∧ i ≤ 1000000000000000000000000000000
def spBegin : Sp := fun vs H Q _ => ∃ v D T B S y, vs = [v, .int y] ∧ Land H v D T B S ∧ Far y ∧ RetV (.int (fst D T B S y)) H Q
theorem ok_begin (T : Txt K mg) : FnOk P w K mg base CX0 5 T.begin.f T.begin.fd ["land", "year"] spBegin := by
  have G_need_land : FnOk P w K mg base CX0 4 T.need_land.f T.need_land.fd ["thing"] spNeedLand := ok_need_land T
  have G_need_year : FnOk P w K mg base CX0 3 T.need_year.f T.need_year.fd ["thing"] spNum := ok_need_year T
  have G_first_day : FnOk P w K mg base CX0 2 T.first_day.f T.first_day.fd ["land", "year"] spFirst := ok_first_day T
  refine T.begin.F.ok sc_begin (fun vs H Q E h => ?_) (fun cdv A outer s H vs Q E hr h => ?_)
  · obtain ⟨x, _, _, _, _, _, rfl, _⟩ := h
    rfl
  · obtain ⟨x, D, T', B, S, y, rfl, hL, hy, q⟩ := h
    refine ⟨_, (pss_cons (ps_expr (pe_call G_need_land (hr.mono (by omega)) (by rfl) T.need_land.g T.need_land.F.kp T.need_land.b .nil pass0 (pa_cons (pv 0) pa_nil)))
      (pss_cons (ps_expr (pe_call G_need_year (hr.mono (by omega)) (by rfl) T.need_year.g T.need_year.F.kp T.need_year.b .nil pass0 (pa_cons (pv 1) pa_nil)))
      (pss_one (ps_ret (pe_call G_first_day (hr.mono (by omega)) (by rfl) T.first_day.g T.first_day.F.kp T.first_day.b .nil pass0 (pa_cons (pv 0) (pa_cons (pv 1) pa_nil))))))), ?_⟩
    refine ⟨_, rfl, _, D, T', B, S, rfl, hL, fun H1 e1 => ?_⟩
    refine ⟨_, rfl, y, rfl, hy, fun H2 e2 => ?_⟩
    exact ⟨_, rfl, _, rfl, _, D, T', B, S, y, rfl, hL.ex (e1.trans e2), fun H3 e3 => q H3 ((e1.trans e2).trans e3)⟩
def spDate : Sp := fun vs H Q _ => ∃ v D T B S n, vs = [v, .int n] ∧ Land H v D T B S ∧ Far n ∧
  ∀ p H2, H p = none → Ex H H2 → H2 p = some (.tup [.int (yr D T B S n), .int (n - fst D T B S (yr D T B S n))]) → Q (.ref p) H2
def spDateOf : Sp := fun vs H Q _ => ∃ v D T B S n, vs = [v, .int n] ∧ Land H v D T B S ∧
  ∀ p H2, H p = none → Ex H H2 → H2 p = some (.tup [.int (yr D T B S n), .int (n - fst D T B S (yr D T B S n))]) → Q (.ref p) H2
theorem ok_date_of (T : Txt K mg) : FnOk P w K mg base CX0 3 T.date_of.f T.date_of.fd ["land", "day"] spDateOf := by
  have G_first_day : FnOk P w K mg base CX0 2 T.first_day.f T.first_day.fd ["land", "year"] spFirst := ok_first_day T
  have G_step_of : FnOk P w K mg base CX0 1 T.step_of.f T.step_of.fd ["land"] spStep := ok_step_of T
  refine T.date_of.F.ok sc_date_of (fun vs H Q E h => ?_) (fun cdv A outer s H vs Q E hr h => ?_)
  · obtain ⟨x, _, _, _, _, _, rfl, _⟩ := h
    rfl
  · obtain ⟨x, D, T', B, S, n, rfl, hL, q⟩ := h
    obtain ⟨a, rfl, ha, r1, r2, r3, r4⟩ := id hL
    have hs := step_bd r1 r2 r3
    refine ⟨_, (pss_cons (ps_asg (pv 0) (pg_tup rfl (pgs_cons (pg_name (i := 2) sc_date_of.nd rfl (Or.inl rfl)) (pgs_cons (pg_name (i := 3) sc_date_of.nd rfl (Or.inl rfl)) (pgs_cons (pg_name (i := 4) sc_date_of.nd rfl (Or.inl rfl)) (pgs_cons (pg_name (i := 5) sc_date_of.nd rfl (Or.inl rfl)) pgs_nil))))))
      (pss_cons (ps_set (i := 6) sc_date_of.nd rfl (Or.inl rfl) (pe_op op_fdiv (pe_op op_sub (pe_op op_sub (pe_op op_mul (pe_op op_add (pv 1) pe_int) (pv 4)) (pv 5)) pe_int) (pe_call G_step_of (hr.mono (by omega)) (by rfl) T.step_of.g T.step_of.F.kp T.step_of.b .nil pass0 (pa_cons (pv 0) pa_nil))))
      (pss_one (ps_ret (pe_tup (pa_cons (pv 6) (pa_cons (pe_op op_sub (pv 1) (pe_call G_first_day (hr.mono (by omega)) (by rfl) T.first_day.g T.first_day.F.kp T.first_day.b .nil pass0 (pa_cons (pv 0) (pa_cons (pv 6) pa_nil)))) pa_nil))))))), ?_⟩
    refine ⟨_, rfl, a, _, rfl, st_of ha, rfl, _, _, rfl, _, _, rfl, _, _, rfl, _, _, rfl, rfl, ?_⟩
    refine ⟨_, rfl, _, _, rfl, rfl, _, rfl, _, _, rfl, rfl, cm_r (by omega), _, rfl, _, _, rfl, rfl, _, _, rfl, rfl, ?_⟩
    refine ⟨_, rfl, _, D, T', B, S, rfl, hL, fun H3 e3 => ?_⟩
    refine ⟨_, _, rfl, rfl, ⟨by omega, by omega⟩, ?_⟩
    refine ⟨_, rfl, _, rfl, _, rfl, _, rfl, _, D, T', B, S, yr D T' B S n, rfl, hL.ex e3, fun H4 e4 => ?_⟩
    exact ⟨_, _, rfl, rfl, by show 2 ≤ sizeLine; decide, fun p hp => q p _ (fresh_back (e3.trans e4) hp) ((e3.trans e4).trans (Ex.new hp)) upd_same⟩
theorem ok_date (T : Txt K mg) : FnOk P w K mg base CX0 5 T.date.f T.date.fd ["land", "day"] spDate := by
  have G_need_land : FnOk P w K mg base CX0 4 T.need_land.f T.need_land.fd ["thing"] spNeedLand := ok_need_land T
  have G_need_day : FnOk P w K mg base CX0 3 T.need_day.f T.need_day.fd ["thing"] spNum := ok_need_day T
  have G_date_of : FnOk P w K mg base CX0 3 T.date_of.f T.date_of.fd ["land", "day"] spDateOf := ok_date_of T
  refine T.date.F.ok sc_date (fun vs H Q E h => ?_) (fun cdv A outer s H vs Q E hr h => ?_)
  · obtain ⟨x, _, _, _, _, _, rfl, _⟩ := h
    rfl
  · obtain ⟨x, D, T', B, S, n, rfl, hL, hy, q⟩ := h
    refine ⟨_, (pss_cons (ps_expr (pe_call G_need_land (hr.mono (by omega)) (by rfl) T.need_land.g T.need_land.F.kp T.need_land.b .nil pass0 (pa_cons (pv 0) pa_nil)))
      (pss_cons (ps_expr (pe_call G_need_day (hr.mono (by omega)) (by rfl) T.need_day.g T.need_day.F.kp T.need_day.b .nil pass0 (pa_cons (pv 1) pa_nil)))
      (pss_one (ps_ret (pe_call G_date_of (hr.mono (by omega)) (by rfl) T.date_of.g T.date_of.F.kp T.date_of.b .nil pass0 (pa_cons (pv 0) (pa_cons (pv 1) pa_nil))))))), ?_⟩
    refine ⟨_, rfl, _, D, T', B, S, rfl, hL, fun H1 e1 => ?_⟩
    refine ⟨_, rfl, n, rfl, hy, fun H2 e2 => ?_⟩
    have e12 := e1.trans e2
    exact ⟨_, rfl, _, rfl, _, D, T', B, S, n, rfl, hL.ex e12, fun p H3 np e3 h3 => q p H3 (fresh_back e12 np) (e12.trans e3) h3⟩
def spIsLong : Sp := fun vs H Q _ => ∃ v D T B S y, vs = [v, .int y] ∧ Land H v D T B S ∧ Far y ∧ RetV (.bl (decide (add T B S (y + 1) > add T B S y))) H Q
theorem ok_is_long (T : Txt K mg) : FnOk P w K mg base CX0 5 T.is_long.f T.is_long.fd ["land", "year"] spIsLong := by
  have G_need_land : FnOk P w K mg base CX0 4 T.need_land.f T.need_land.fd ["thing"] spNeedLand := ok_need_land T
  have G_need_year : FnOk P w K mg base CX0 3 T.need_year.f T.need_year.fd ["thing"] spNum := ok_need_year T
  have G_added_days : FnOk P w K mg base CX0 1 T.added_days.f T.added_days.fd ["land", "year"] spAdded := ok_added_days T
  refine T.is_long.F.ok sc_is_long (fun vs H Q E h => ?_) (fun cdv A outer s H vs Q E hr h => ?_)
  · obtain ⟨x, _, _, _, _, _, rfl, _⟩ := h
    rfl
  · obtain ⟨x, D, T', B, S, y, rfl, hL, hy, q⟩ := h
    refine ⟨_, (pss_cons (ps_expr (pe_call G_need_land (hr.mono (by omega)) (by rfl) T.need_land.g T.need_land.F.kp T.need_land.b .nil pass0 (pa_cons (pv 0) pa_nil)))
      (pss_cons (ps_expr (pe_call G_need_year (hr.mono (by omega)) (by rfl) T.need_year.g T.need_year.F.kp T.need_year.b .nil pass0 (pa_cons (pv 1) pa_nil)))
      (pss_one (ps_ret (pe_cmpR op_gt (pe_call G_added_days (hr.mono (by omega)) (by rfl) T.added_days.g T.added_days.F.kp T.added_days.b .nil pass0 (pa_cons (pv 0) (pa_cons (pe_op op_add (pv 1) pe_int) pa_nil))) (pe_call G_added_days (hr.mono (by omega)) (by rfl) T.added_days.g T.added_days.F.kp T.added_days.b .nil pass0 (pa_cons (pv 0) (pa_cons (pv 1) pa_nil))) (nomark _)))))), ?_⟩
    refine ⟨_, rfl, _, D, T', B, S, rfl, hL, fun H1 e1 => ?_⟩
    refine ⟨_, rfl, y, rfl, hy, fun H2 e2 => ?_⟩
    have e12 := e1.trans e2
    refine ⟨_, rfl, _, rfl, _, _, rfl, rfl, _, D, T', B, S, y + 1, rfl, hL.ex e12, fun H3 e3 => ?_⟩
    have e13 := e12.trans e3
    refine ⟨_, rfl, _, rfl, _, D, T', B, S, y, rfl, hL.ex e13, fun H4 e4 => ?_⟩
    exact ⟨_, _, rfl, rfl, q H4 (e13.trans e4)⟩

end

/-! ### the deck -/
def Dk (n : Nat) (H : Hp) (d : Addr) : Prop := ∃ x y z : Int, H d = some (.lst [.int x, .int y, .int z]) ∧ (0 ≤ y ∧ y < 2147483579) ∧ (0 ≤ z ∧ z ≤ (n : Int))
/-- all but the deck stands as it stood -/
def ExD (d : Addr) (H H' : Hp) : Prop := ∀ a o, a ≠ d → H a = some o → H' a = some o
theorem ExD.refl {d : Addr} {H : Hp} : ExD d H H := fun _ _ _ h => h
theorem ExD.trans {d : Addr} {H H1 H2 : Hp} (a : ExD d H H1) (b : ExD d H1 H2) : ExD d H H2 := fun x o n h => b x o n (a x o n h)
theorem ExD.of {d : Addr} {H H' : Hp} (e : Ex H H') : ExD d H H' := fun a o _ h => e a o h
theorem ExD.upd {d : Addr} {H : Hp} {o : HO} : ExD d H (upd H d o) := fun a u n h => by
  rw [upd_ne n]
  exact h
theorem Dk.ex {n : Nat} {H H' : Hp} {d : Addr} (e : Ex H H') (h : Dk n H d) : Dk n H' d := by
  obtain ⟨x, y, z, hd, r⟩ := h
  exact ⟨x, y, z, e _ _ hd, r⟩
theorem Dk.ne_tup {n : Nat} {H : Hp} {d a : Addr} {xs : List V} (h : Dk n H d) (ha : H a = some (.tup xs)) : a ≠ d := by
  obtain ⟨x, y, z, hd, r⟩ := h
  exact ne_of ha hd (fun z => by cases z)
theorem ExD.tup {n : Nat} {H H' : Hp} {d a : Addr} {xs : List V} (e : ExD d H H') (h : Dk n H d) (ha : H a = some (.tup xs)) : H' a = some (.tup xs) := e _ _ (h.ne_tup ha) ha
theorem ExD.land {n : Nat} {H H' : Hp} {d : Addr} {v : V} {D T B S : Int} (e : ExD d H H') (h : Dk n H d) (hl : Land H v D T B S) : Land H' v D T B S := by
  obtain ⟨a, rfl, ha, r⟩ := hl
  exact ⟨a, rfl, e.tup h ha, r⟩
/-- new addresses are new -/
theorem ExD.fresh {n : Nat} {d : Addr} {H H' : Hp} {p : Addr} (e : ExD d H H') (hd : Dk n H' d) (h : H' p = none) : H p = none := by
  cases q : H p with
  | none => rfl
  | some o =>
    by_cases hp : p = d
    · obtain ⟨x, y, z, h1, _⟩ := hd
      rw [hp, h1] at h
      cases h
    · rw [e _ _ hp q] at h
      cases h
section
variable {P : Program} {w : World} {K : PySem.W.Frag} {mg : Str → Option Value} {base : Heap}
def spDeck : Sp := fun vs H Q _ => ∃ (c : Int) (n : Nat), vs = [.int c, .int n] ∧ ∀ p H2, H p = none → Ex H H2 → Dk n H2 p → Q (.ref p) H2
theorem ok__law_deck (T : Txt K mg) : FnOk P w K mg base CX0 1 T._law_deck.f T._law_deck.fd ["cell", "turn"] spDeck := by
  refine T._law_deck.F.ok sc__law_deck (fun vs H Q E h => ?_) (fun cdv A outer s H vs Q E hr h => ?_)
  · obtain ⟨c, n, rfl, _⟩ := h
    rfl
  · obtain ⟨c, n, rfl, q⟩ := h
    have hm := Int.emod_nonneg c (show (2147483579 : Int) ≠ 0 by decide)
    have hm2 := Int.emod_lt_of_pos c (show (0 : Int) < 2147483579 by decide)
    refine ⟨_, (pss_cons (ps_if (pt_cmpR op_ge (pv 0) (pe_op op_pow pe_int pe_int) (nomark _))
        (pss_one (ps_ret (pe_lst (pa_cons (pe_op op_sub (pv 0) (pe_op op_pow pe_int pe_int)) (pa_cons (pe_op op_mod (pv 0) pe_int) (pa_cons (pv 1) pa_nil))))))
        pss_nil)
      (pss_one (ps_ret (pe_lst (pa_cons pe_int (pa_cons (pe_op op_mod (pv 0) pe_int) (pa_cons (pv 1) pa_nil))))))), ?_⟩
    refine ⟨_, rfl, _, _, rfl, rfl, ⟨by decide, by decide, by decide⟩, _, _, rfl, rfl, _, rfl, ite2 (fun e => ?_) (fun e => ?_)⟩
    · refine ⟨_, rfl, _, _, rfl, rfl, ⟨by decide, by decide, by decide⟩, _, _, rfl, rfl, _, rfl, _, _, rfl, rfl, by show (0 : Int) < 2147483579; decide, _, rfl, by show 3 ≤ sizeLine; decide, fun p hp => ?_⟩
      exact q p _ hp (Ex.new hp) ⟨_, _, _, upd_same, ⟨hm, hm2⟩, by omega, by omega⟩
    · refine ⟨_, rfl, _, _, rfl, rfl, by show (0 : Int) < 2147483579; decide, _, rfl, by show 3 ≤ sizeLine; decide, fun p hp => ?_⟩
      exact q p _ hp (Ex.new hp) ⟨_, _, _, upd_same, ⟨hm, hm2⟩, by omega, by omega⟩
def spPick : Sp := fun vs H Q _ => ∃ (d : Addr) (m : Int) (n : Nat), vs = [.ref d, .int m] ∧ Dk n H d ∧ n < 1000000 ∧ (0 < m ∧ m.natAbs < 2 ^ 100) ∧ ∀ r H', 0 ≤ r → r < m → ExD d H H' → Dk (n + 1) H' d → Q (.int r) H'
theorem ok__law_pick (T : Txt K mg) : FnOk P w K mg base CX0 1 T._law_pick.f T._law_pick.fd ["deck", "size"] spPick := by
  refine T._law_pick.F.ok sc__law_pick (fun vs H Q E h => ?_) (fun cdv A outer s H vs Q E hr h => ?_)
  · obtain ⟨d, m, n, rfl, _⟩ := h
    rfl
  · obtain ⟨d, m, n, rfl, ⟨x, y, z, hd, hy, hz⟩, hn, hm, q⟩ := h
    refine ⟨_, (pss_cons (ps_if (pt_cmpR op_gt (pe_ix ix_list (pv 0) pe_int (fun _ _ => rfl)) pe_int (nomark _))
        (pss_cons (ps_set (i := 2) sc__law_pick.nd rfl (Or.inl rfl) (pe_op op_mod (pe_ix ix_list (pv 0) pe_int (fun _ _ => rfl)) (pv 1)))
      (pss_cons (ps_asg (pe_op op_fdivW (pe_ix ix_list (pv 0) pe_int (fun _ _ => rfl)) (pv 1)) (pg_sub (pv 0) pe_int set_list))
      (pss_one (ps_ret (pv 2)))))
        pss_nil)
      (pss_cons (ps_asg (pe_op op_add (pe_ix ix_list (pv 0) pe_int (fun _ _ => rfl)) pe_int) (pg_sub (pv 0) pe_int set_list))
      (pss_cons (ps_set (i := 3) sc__law_pick.nd rfl (Or.inl rfl) (pe_op op_mod (pe_op op_pow (pe_op op_add (pe_ix ix_list (pv 0) pe_int (fun _ _ => rfl)) (pe_op op_mul pe_int (pe_ix ix_list (pv 0) pe_int (fun _ _ => rfl)))) pe_int) pe_int))
      (pss_cons (ps_set (i := 2) sc__law_pick.nd rfl (Or.inl rfl) (pe_op op_fdiv (pe_op op_mod (pe_op op_pow (pe_op op_add (pv 3) (pe_op op_mul pe_int (pe_ix ix_list (pv 0) pe_int (fun _ _ => rfl)))) pe_int) pe_int) pe_int))
      (pss_one (ps_ret (pe_op op_mod (pv 2) (pv 1)))))))), ?_⟩
    refine ⟨.ref d, rfl, d, _, 0, _, rfl, rfl, sq_of hd, rfl, _, _, rfl, rfl, _, rfl, ite2 (fun e => ?_) (fun e => ?_)⟩
    · refine ⟨.ref d, rfl, d, _, 0, _, rfl, rfl, sq_of hd, rfl, _, rfl, _, _, rfl, rfl, hm.1, ?_⟩
      refine ⟨.ref d, rfl, d, _, 0, _, rfl, rfl, sq_of hd, rfl, _, rfl, _, _, rfl, rfl, wide_div hm.1 hm.2 (by decide) (by decide), ?_⟩
      refine ⟨.ref d, rfl, d, _, _, _, rfl, rfl, hd, rfl, ?_⟩
      refine ⟨_, rfl, ?_⟩
      exact q _ _ (Int.emod_nonneg x (by omega)) (Int.emod_lt_of_pos x hm.1) ExD.upd ⟨_, _, _, upd_same, hy, by omega, by omega⟩
    · refine ⟨.ref d, rfl, d, _, 2, _, rfl, rfl, sq_of hd, rfl, _, _, rfl, rfl, ?_⟩
      refine ⟨.ref d, rfl, d, _, _, _, rfl, rfl, hd, rfl, ?_⟩
      have hd2 : upd H d (.lst ([V.int x, V.int y, V.int z].set 2 (.int (z + 1)))) d = some (.lst [.int x, .int y, .int (z + 1)]) := upd_same
      have hE : ExD d H (upd H d (.lst ([V.int x, V.int y, V.int z].set 2 (.int (z + 1))))) := ExD.upd
      revert hd2 hE
      show ∀ _ _, tSeq _ _ _ _ (upd H d (.lst ([V.int x, V.int y, V.int z].set 2 (.int (z + 1)))))
      generalize upd H d (.lst ([V.int x, V.int y, V.int z].set 2 (.int (z + 1)))) = H2
      intro hd2 hE
      refine ⟨.ref d, rfl, d, _, 1, _, rfl, rfl, sq_of hd2, rfl, .ref d, rfl, d, _, 2, _, rfl, rfl, sq_of hd2, rfl, _, _, rfl, rfl, cm_l (by omega), _, _, rfl, rfl, _, _, rfl, rfl, ⟨by decide, by decide, by omega⟩, _, _, rfl, rfl, by show (0 : Int) < 2147483647; decide, ?_⟩
      have g1 := Int.emod_nonneg ((y + 15485867 * (z + 1)) ^ (5 : Int).toNat) (show (2147483647 : Int) ≠ 0 by decide)
      have g2 := Int.emod_lt_of_pos ((y + 15485867 * (z + 1)) ^ (5 : Int).toNat) (show (0 : Int) < 2147483647 by decide)
      revert g1 g2
      generalize ((y + 15485867 * (z + 1)) ^ (5 : Int).toNat) % 2147483647 = N
      intro g1 g2
      refine ⟨_, rfl, .ref d, rfl, d, _, 2, _, rfl, rfl, sq_of hd2, rfl, _, _, rfl, rfl, cm_l (by omega), _, _, rfl, rfl, _, _, rfl, rfl, ⟨by decide, by decide, by omega⟩, _, _, rfl, rfl, by show (0 : Int) < 2147483629; decide, _, _, rfl, rfl, ⟨by decide, by decide⟩, ?_⟩
      refine ⟨_, rfl, _, rfl, _, _, rfl, rfl, hm.1, ?_⟩
      exact q _ _ (Int.emod_nonneg _ (by omega)) (Int.emod_lt_of_pos _ hm.1) hE ⟨_, _, _, hd2, hy, by omega, by omega⟩
def spOne : Sp := fun vs H Q _ => ∃ (d b : Addr) (xs : List V) (n : Nat), vs = [.ref d, .ref b] ∧ Dk n H d ∧ n < 1000000 ∧ H b = some (.lst xs) ∧ b ≠ d ∧ (0 < xs.length ∧ xs.length ≤ 1000) ∧
  ∀ v H', v ∈ xs → ExD d H H' → Dk (n + 1) H' d → Q v H'
theorem ok__law_one (T : Txt K mg) : FnOk P w K mg base CX0 2 T._law_one.f T._law_one.fd ["deck", "some"] spOne := by
  have G__law_pick : FnOk P w K mg base CX0 1 T._law_pick.f T._law_pick.fd ["deck", "size"] spPick := ok__law_pick T
  refine T._law_one.F.ok sc__law_one (fun vs H Q E h => ?_) (fun cdv A outer s H vs Q E hr h => ?_)
  · obtain ⟨d, m, xs, n, rfl, _⟩ := h
    rfl
  · obtain ⟨d, b, xs, n, rfl, hk, hn, hb, ne, hl, q⟩ := h
    refine ⟨_, (pss_one (ps_ret (pe_ix ix_list (pv 1) (pe_call G__law_pick (hr.mono (by omega)) (by rfl) T._law_pick.g T._law_pick.F.kp T._law_pick.b .nil pass0 (pa_cons (pv 0) (pa_cons (pe_callB call_len_seq (by rfl) T.len (by decide +kernel) (pa_cons (pv 1) pa_nil)) pa_nil))) (fun _ _ => rfl)))), ?_⟩
    refine ⟨_, rfl, _, rfl, _, rfl, b, xs, rfl, .inl (sq_of hb), d, _, n, rfl, hk, hn, ⟨by omega, by omega⟩, fun r H1 h0 h1 e1 k1 => ?_⟩
    have hr : r.toNat < xs.length := by omega
    refine ⟨b, xs, r, xs[r.toNat], rfl, rfl, sq_of (e1 _ _ ne hb), ?_, q _ _ (List.getElem_mem hr) e1 k1⟩
    exact at_of (j := r.toNat) (by omega) (List.getElem?_eq_getElem hr)
end

/-! ### weeks: what is asked -/
abbrev Far' (i : Int) : Prop := -1000000000000000000000000000000 ≤ i ∧ i ≤ 1000000000000000000000000000000
section
variable {P : Program} {w : World} {K : PySem.W.Frag} {mg : Str → Option Value} {base : Heap}
def spTwo : Sp := fun vs H Q _ => ∃ i j : Int, vs = [.int i, .int j] ∧ Far' i ∧ Far' j ∧ i ≤ j ∧ RetV .non H Q
theorem ok_need_years (T : Txt K mg) : FnOk P w K mg base CX0 4 T.need_years.f T.need_years.fd ["first", "last"] spTwo := by
  have G_need_year : FnOk P w K mg base CX0 3 T.need_year.f T.need_year.fd ["thing"] spNum := ok_need_year T
  refine T.need_years.F.ok sc_need_years (fun vs H Q E h => ?_) (fun cdv A outer s H vs Q E hr h => ?_)
  · obtain ⟨_, _, rfl, _⟩ := h
    rfl
  · obtain ⟨i, j, rfl, fi, fj, le, q⟩ := h
    refine ⟨_, (pss_cons (ps_expr (pe_call G_need_year (hr.mono (by omega)) (by rfl) T.need_year.g T.need_year.F.kp T.need_year.b .nil pass0 (pa_cons (pv 0) pa_nil)))
      (pss_cons (ps_expr (pe_call G_need_year (hr.mono (by omega)) (by rfl) T.need_year.g T.need_year.F.kp T.need_year.b .nil pass0 (pa_cons (pv 1) pa_nil)))
      (pss_one (ps_if (pt_cmpR op_lt (pv 1) (pv 0) (nomark _))
        (pss_one ps_never)
        pss_nil)))), ?_⟩
    refine ⟨_, rfl, i, rfl, fi, fun H1 e1 => ⟨_, rfl, j, rfl, fj, fun H2 e2 => ?_⟩⟩
    refine ⟨_, rfl, _, rfl, _, _, rfl, rfl, _, rfl, ?_⟩
    rw [decide_eq_false (show ¬ j < i by omega)]
    exact iteF (q H2 (e1.trans e2))

def spPlace : Sp := fun vs H Q _ => ∃ v D T B S i, vs = [v, .int i] ∧ Land H v D T B S ∧ (0 ≤ i ∧ i < D) ∧ RetV .non H Q
theorem ok_need_place (T : Txt K mg) : FnOk P w K mg base CX0 3 T.need_place.f T.need_place.fd ["land", "thing"] spPlace := by
  have G_is_between : FnOk P w K mg base CX0 2 T.is_between.f T.is_between.fd ["thing", "least", "most"] spBetween := ok_is_between T
  refine T.need_place.F.ok sc_need_place (fun vs H Q E h => ?_) (fun cdv A outer s H vs Q E hr h => ?_)
  · obtain ⟨_, _, _, _, _, _, rfl, _⟩ := h
    rfl
  · obtain ⟨v, D, T', B, S, i, rfl, ⟨a, rfl, ha, r⟩, hi, q⟩ := h
    refine ⟨_, (pss_cons (ps_set (i := 2) sc_need_place.nd rfl (Or.inl rfl) (pe_ix ix_tup (pv 0) pe_int (fun _ _ => rfl)))
      (pss_one (ps_if (pt_not (pt_val (pe_call G_is_between (hr.mono (by omega)) (by rfl) T.is_between.g T.is_between.F.kp T.is_between.b .nil pass0 (pa_cons (pv 1) (pa_cons pe_int (pa_cons (pe_op op_sub (pv 2) pe_int) pa_nil))))))
        (pss_one ps_never)
        pss_nil))), ?_⟩
    refine ⟨_, rfl, a, _, 0, _, rfl, rfl, st_of ha, rfl, ?_⟩
    refine ⟨_, rfl, _, rfl, _, _, rfl, rfl, _, _, _, _, rfl, .int i, fun H1 e1 => ⟨_, rfl, ?_⟩⟩
    rw [btw_yes ⟨hi.1, by omega⟩]
    exact iteF (q H1 e1)
def spWeek : Sp := fun vs H Q _ => ∃ i : Int, vs = [.int i] ∧ (1 ≤ i ∧ i ≤ 20) ∧ RetV .non H Q
theorem ok_need_week (T : Txt K mg) : FnOk P w K mg base CX0 3 T.need_week.f T.need_week.fd ["thing"] spWeek := by
  have G_is_between : FnOk P w K mg base CX0 2 T.is_between.f T.is_between.fd ["thing", "least", "most"] spBetween := ok_is_between T
  refine T.need_week.F.ok sc_need_week (fun vs H Q E h => ?_) (fun cdv A outer s H vs Q E hr h => ?_)
  · obtain ⟨_, rfl, _⟩ := h
    rfl
  · obtain ⟨i, rfl, hi, q⟩ := h
    refine ⟨_, (pss_one (ps_if (pt_not (pt_val (pe_call G_is_between (hr.mono (by omega)) (by rfl) T.is_between.g T.is_between.F.kp T.is_between.b .nil pass0 (pa_cons (pv 0) (pa_cons pe_int (pa_cons (pe_glob (v := .int 20) rfl T.c_LONGEST_WEEK ⟨_, rfl⟩) pa_nil))))))
        (pss_one ps_never)
        pss_nil)), ?_⟩
    refine ⟨_, rfl, _, _, _, _, rfl, .int i, fun H1 e1 => ⟨_, rfl, ?_⟩⟩
    rw [btw_yes hi]
    exact iteF (q H1 e1)
def spName : Sp := fun vs H Q _ => ∃ k i : Int, vs = [.int k, .int i] ∧ (0 ≤ i ∧ i < k) ∧ RetV .non H Q
theorem ok_need_name (T : Txt K mg) : FnOk P w K mg base CX0 3 T.need_name.f T.need_name.fd ["week", "thing"] spName := by
  have G_is_between : FnOk P w K mg base CX0 2 T.is_between.f T.is_between.fd ["thing", "least", "most"] spBetween := ok_is_between T
  refine T.need_name.F.ok sc_need_name (fun vs H Q E h => ?_) (fun cdv A outer s H vs Q E hr h => ?_)
  · obtain ⟨_, _, rfl, _⟩ := h
    rfl
  · obtain ⟨k, i, rfl, hi, q⟩ := h
    refine ⟨_, (pss_one (ps_if (pt_not (pt_val (pe_call G_is_between (hr.mono (by omega)) (by rfl) T.is_between.g T.is_between.F.kp T.is_between.b .nil pass0 (pa_cons (pv 1) (pa_cons pe_int (pa_cons (pe_op op_sub (pv 0) pe_int) pa_nil))))))
        (pss_one ps_never)
        pss_nil)), ?_⟩
    refine ⟨_, rfl, _, rfl, _, _, rfl, rfl, _, _, _, _, rfl, .int i, fun H1 e1 => ⟨_, rfl, ?_⟩⟩
    rw [btw_yes ⟨hi.1, by omega⟩]
    exact iteF (q H1 e1)
/-- a land, a place, a week and a day of it -/
def Asked (H : Hp) (v : V) (D T B S pl wk nm : Int) : Prop := Land H v D T B S ∧ (0 ≤ pl ∧ pl < D) ∧ (1 ≤ wk ∧ wk ≤ 20) ∧ (0 ≤ nm ∧ nm < wk)
theorem Asked.ex {H H' : Hp} {v : V} {D T B S pl wk nm : Int} (e : Ex H H') (h : Asked H v D T B S pl wk nm) : Asked H' v D T B S pl wk nm := ⟨h.1.ex e, h.2⟩
def spAsked : Sp := fun vs H Q _ => ∃ v D T B S pl wk nm, vs = [v, .int pl, .int wk, .int nm] ∧ Asked H v D T B S pl wk nm ∧ RetV .non H Q
theorem ok_need_asked (T : Txt K mg) : FnOk P w K mg base CX0 5 T.need_asked.f T.need_asked.fd ["land", "place", "week", "name"] spAsked := by
  have G_need_land : FnOk P w K mg base CX0 4 T.need_land.f T.need_land.fd ["thing"] spNeedLand := ok_need_land T
  have G_need_place : FnOk P w K mg base CX0 3 T.need_place.f T.need_place.fd ["land", "thing"] spPlace := ok_need_place T
  have G_need_week : FnOk P w K mg base CX0 3 T.need_week.f T.need_week.fd ["thing"] spWeek := ok_need_week T
  have G_need_name : FnOk P w K mg base CX0 3 T.need_name.f T.need_name.fd ["week", "thing"] spName := ok_need_name T
  refine T.need_asked.F.ok sc_need_asked (fun vs H Q E h => ?_) (fun cdv A outer s H vs Q E hr h => ?_)
  · obtain ⟨_, _, _, _, _, _, _, _, rfl, _⟩ := h
    rfl
  · obtain ⟨v, D, T', B, S, pl, wk, nm, rfl, ⟨hL, hp, hw, hn⟩, q⟩ := h
    refine ⟨_, (pss_cons (ps_expr (pe_call G_need_land (hr.mono (by omega)) (by rfl) T.need_land.g T.need_land.F.kp T.need_land.b .nil pass0 (pa_cons (pv 0) pa_nil)))
      (pss_cons (ps_expr (pe_call G_need_place (hr.mono (by omega)) (by rfl) T.need_place.g T.need_place.F.kp T.need_place.b .nil pass0 (pa_cons (pv 0) (pa_cons (pv 1) pa_nil))))
      (pss_cons (ps_expr (pe_call G_need_week (hr.mono (by omega)) (by rfl) T.need_week.g T.need_week.F.kp T.need_week.b .nil pass0 (pa_cons (pv 2) pa_nil)))
      (pss_one (ps_expr (pe_call G_need_name (hr.mono (by omega)) (by rfl) T.need_name.g T.need_name.F.kp T.need_name.b .nil pass0 (pa_cons (pv 2) (pa_cons (pv 3) pa_nil)))))))), ?_⟩
    refine ⟨_, rfl, v, D, T', B, S, rfl, hL, fun H1 e1 => ?_⟩
    refine ⟨_, rfl, _, rfl, v, D, T', B, S, pl, rfl, hL.ex e1, hp, fun H2 e2 => ?_⟩
    refine ⟨_, rfl, wk, rfl, hw, fun H3 e3 => ?_⟩
    exact ⟨_, rfl, _, rfl, wk, nm, rfl, hn, fun H4 e4 => q H4 ((e1.trans e2).trans (e3.trans e4))⟩
end

section
variable {P : Program} {w : World} {K : PySem.W.Frag} {mg : Str → Option Value} {base : Heap}
theorem fun_okN {x qual : Str} {st : Stmt} {f : Addr} {fd : FuncData} {N ps : List Str} {k : Nat} {sp : Sp} (F : Fun K x qual st f fd) (S : FnScope N ps (defScope st)) (len : ∀ vs H Q E, sp vs H Q E → vs.length = ps.length)
    (body : ∀ (cdv : Value) (A : Around) (outer : List Env) (s : Shared) (H : Hp) (vs : List V) (Q : VK) (E : XK), Room k (A.deeper (envOfC qual (defScope st) s.heap.objs.size f cdv)) → sp vs H Q E →
      ∃ t, PSs (cxOf (L2N.CX P w) P w K mg base N qual (defScope st) f cdv A outer s H E) (defBody st) t ∧ t { nx := fun _ H' => Q .non H', rt := Q } (L2.start N vs) H) : FnOk P w K mg base (L2N.CX P w) (k + 1) f fd ps sp := by
  obtain ⟨_, _, _, _, _, _, cdv, _, _, made, lk, cd⟩ := F.ex
  subst made
  exact ⟨len, fun A outer s H args us vs Q E hr e0 hb r h => LamX.run_ofS lk cd S hr e0 hb r (len _ _ _ _ h) fun hr1 => body cdv A outer s H vs Q E hr1 h⟩
end

/-! ### what is refused -/
/-- the error C goes out -/
def Out (C : Addr) (E : XK) (H : Hp) : Prop := ∀ H', Ex H H' → E (.ref C) none H'
theorem Out.mono {C : Addr} {E : XK} {H H' : Hp} (h : Out C E H) (e : Ex H H') : Out C E H' := fun _ e2 => h _ (e.trans e2)
/-- a number out of its bounds, or none -/
def Bad (H : Hp) (x : V) (lo hi : Int) : Prop := ∃ k, Dat H x k ∧ btw x lo hi = false
theorem Bad.ex {H H' : Hp} {x : V} {lo hi : Int} (h : Bad H x lo hi) (e : Ex H H') : Bad H' x lo hi := let ⟨k, d, n⟩ := h; ⟨k, d.ex e, n⟩
/-- no land -/
def NoL (H : Hp) (v : V) : Prop := ∃ t, Dat H v t ∧ Parts H v ∧ landB H v = false
theorem NoL.ex {H H' : Hp} {v : V} (h : NoL H v) (e : Ex H H') : NoL H' v := by
  obtain ⟨t, d, pt, no⟩ := h
  refine ⟨t, d.ex e, ?_, ?_⟩
  · rintro a xs rfl ha y hy
    cases d with
    | lst h => rw [e _ _ h] at ha; cases ha
    | tup h =>
      rw [e _ _ h] at ha
      cases ha
      obtain ⟨u, du⟩ := pt _ _ rfl h y hy
      exact ⟨u, du.ex e⟩
  · cases d with
    | non => rfl
    | bl b => rfl
    | int i => rfl
    | str x => rfl
    | lst h => exact landB_lst (e _ _ h)
    | tup h =>
      rw [landB_tup h] at no
      rw [landB_tup (e _ _ h)]
      exact no
/-- two numbers within bounds, the second no less, are not what these are -/
inductive NoTwo (H : Hp) (lo hi : Int) : V → V → Prop
  | first {x y : V} : Bad H x lo hi → NoTwo H lo hi x y
  | last {i : Int} {y : V} : (lo ≤ i ∧ i ≤ hi) → Bad H y lo hi → NoTwo H lo hi (.int i) y
  | less {i j : Int} : (lo ≤ i ∧ i ≤ hi) → (lo ≤ j ∧ j ≤ hi) → j < i → NoTwo H lo hi (.int i) (.int j)
theorem NoTwo.ex {H H' : Hp} {lo hi : Int} {x y : V} (h : NoTwo H lo hi x y) (e : Ex H H') : NoTwo H' lo hi x y := by
  cases h with
  | first b => exact .first (b.ex e)
  | last r b => exact .last r (b.ex e)
  | less r r' l => exact .less r r' l
/-- where a week is asked for, the first that is none -/
inductive NoAsk (CL CP CW CN : Addr) (H : Hp) (E : XK) : V → V → V → V → Prop
  | land {v x y z : V} : NoL H v → Out CL E H → NoAsk CL CP CW CN H E v x y z
  | place {v x y z : V} {D T B S : Int} : Land H v D T B S → Bad H x 0 (D - 1) → Out CP E H → NoAsk CL CP CW CN H E v x y z
  | week {v y z : V} {D T B S i : Int} : Land H v D T B S → (0 ≤ i ∧ i < D) → Bad H y 1 20 → Out CW E H → NoAsk CL CP CW CN H E v (.int i) y z
  | name {v z : V} {D T B S i k : Int} : Land H v D T B S → (0 ≤ i ∧ i < D) → (1 ≤ k ∧ k ≤ 20) → Bad H z 0 (k - 1) → Out CN E H → NoAsk CL CP CW CN H E v (.int i) (.int k) z
/-- where two lands are asked for, the first that is none -/
inductive NoBoth (CL CP : Addr) (H : Hp) (E : XK) : V → V → V → V → Prop
  | land {v x v' x' : V} : NoL H v → Out CL E H → NoBoth CL CP H E v x v' x'
  | place {v x v' x' : V} {D T B S : Int} : Land H v D T B S → Bad H x 0 (D - 1) → Out CP E H → NoBoth CL CP H E v x v' x'
  | other {v v' x' : V} {D T B S i : Int} : Land H v D T B S → (0 ≤ i ∧ i < D) → NoL H v' → Out CL E H → NoBoth CL CP H E v (.int i) v' x'
  | there {v v' x' : V} {D T B S i D' T' B' S' : Int} : Land H v D T B S → (0 ≤ i ∧ i < D) → Land H v' D' T' B' S' → Bad H x' 0 (D' - 1) → Out CP E H → NoBoth CL CP H E v (.int i) v' x'
section
variable {P : Program} {w : World} {K : PySem.W.Frag} {mg : Str → Option Value} {base : Heap}
def spNeedLandB (C : Addr) : Sp := fun vs H Q E => ∃ v, vs = [v] ∧ ((NoL H v ∧ Out C E H) ∨ (∃ D T B S, Land H v D T B S ∧ RetV .non H Q))
theorem both_need_land (T : Txt K mg) : FnOk P w K mg base (L2N.CX P w) 4 T.need_land.f T.need_land.fd ["thing"] (spNeedLandB T.C_NoLand) := by
  have G_is_land : FnOk P w K mg base CX0 3 T.is_land.f T.is_land.fd ["thing"] spIsLand := ok_is_land T
  refine fun_okN T.need_land.F sc_need_land (fun vs H Q E h => ?_) (fun cdv A outer s H vs Q E hr h => ?_)
  · obtain ⟨_, rfl, _⟩ := h
    rfl
  · obtain ⟨v, rfl, h⟩ := h
    refine ⟨_, (pss_one (ps_if (pt_not (pt_val (pe_call G_is_land (hr.mono (by omega)) (by rfl) T.is_land.g T.is_land.F.kp T.is_land.b .nil pass0 (pa_cons (pv 0) pa_nil))))
        (pss_one (L2N.ps_raise rfl (L2N.takes_of rfl rfl rfl rfl) (L2N.pmk_own PySem.F.excBase_ValueError T.err_NoLand.ex T.g_NoLand T.err_NoLand.kp (raises_own T.err_NoLand.sb T.err_NoLand.tp) rfl)))
        pss_nil)), ?_⟩
    rcases h with ⟨⟨t, d, pt, no⟩, out⟩ | ⟨D, T1, B, S, hl, q⟩
    · refine ⟨_, rfl, v, t, rfl, d, pt, fun H1 e1 => ⟨_, rfl, ?_⟩⟩
      rw [no]
      exact iteT (out H1 e1)
    · refine ⟨_, rfl, v, _, rfl, hl.parts.2, hl.parts.1, fun H1 e1 => ⟨_, rfl, ?_⟩⟩
      rw [hl.is]
      exact iteF (q H1 e1)
def spNumB (C : Addr) (lo hi : Int) : Sp := fun vs H Q E => ∃ x, vs = [x] ∧ ((Bad H x lo hi ∧ Out C E H) ∨ (∃ i, x = .int i ∧ (lo ≤ i ∧ i ≤ hi) ∧ RetV .non H Q))
theorem both_need_year (T : Txt K mg) : FnOk P w K mg base (L2N.CX P w) 3 T.need_year.f T.need_year.fd ["thing"] (spNumB T.C_NoYear (-1000000000000000000000000000000) 1000000000000000000000000000000) := by
  have G_is_between : FnOk P w K mg base CX0 2 T.is_between.f T.is_between.fd ["thing", "least", "most"] spBetween := ok_is_between T
  refine fun_okN T.need_year.F sc_need_year (fun vs H Q E h => ?_) (fun cdv A outer s H vs Q E hr h => ?_)
  · obtain ⟨_, rfl, _⟩ := h
    rfl
  · obtain ⟨x, rfl, h⟩ := h
    refine ⟨_, (pss_one (ps_if (pt_not (pt_val (pe_call G_is_between (hr.mono (by omega)) (by rfl) T.is_between.g T.is_between.F.kp T.is_between.b .nil pass0 (pa_cons (pv 0) (pa_cons (pe_un un_neg (pe_glob (v := .int 1000000000000000000000000000000) rfl T.c_FARTHEST ⟨_, rfl⟩)) (pa_cons (pe_glob (v := .int 1000000000000000000000000000000) rfl T.c_FARTHEST ⟨_, rfl⟩) pa_nil))))))
        (pss_one (L2N.ps_raise rfl (L2N.takes_of rfl rfl rfl rfl) (L2N.pmk_own PySem.F.excBase_ValueError T.err_NoYear.ex T.g_NoYear T.err_NoYear.kp (raises_own T.err_NoYear.sb T.err_NoYear.tp) rfl)))
        pss_nil)), ?_⟩
    rcases h with ⟨⟨k, dk, no⟩, out⟩ | ⟨i, rfl, hi, q⟩
    · refine ⟨_, rfl, _, rfl, _, _, _, _, rfl, dk, fun H1 e1 => ⟨_, rfl, ?_⟩⟩
      rw [no]
      exact iteT (out H1 e1)
    · refine ⟨_, rfl, _, rfl, _, _, _, _, rfl, .int i, fun H1 e1 => ⟨_, rfl, ?_⟩⟩
      rw [btw_yes hi]
      exact iteF (q H1 e1)
theorem both_need_day (T : Txt K mg) : FnOk P w K mg base (L2N.CX P w) 3 T.need_day.f T.need_day.fd ["thing"] (spNumB T.C_NoDay (-1000000000000000000000000000000) 1000000000000000000000000000000) := by
  have G_is_between : FnOk P w K mg base CX0 2 T.is_between.f T.is_between.fd ["thing", "least", "most"] spBetween := ok_is_between T
  refine fun_okN T.need_day.F sc_need_day (fun vs H Q E h => ?_) (fun cdv A outer s H vs Q E hr h => ?_)
  · obtain ⟨_, rfl, _⟩ := h
    rfl
  · obtain ⟨x, rfl, h⟩ := h
    refine ⟨_, (pss_one (ps_if (pt_not (pt_val (pe_call G_is_between (hr.mono (by omega)) (by rfl) T.is_between.g T.is_between.F.kp T.is_between.b .nil pass0 (pa_cons (pv 0) (pa_cons (pe_un un_neg (pe_glob (v := .int 1000000000000000000000000000000) rfl T.c_FARTHEST ⟨_, rfl⟩)) (pa_cons (pe_glob (v := .int 1000000000000000000000000000000) rfl T.c_FARTHEST ⟨_, rfl⟩) pa_nil))))))
        (pss_one (L2N.ps_raise rfl (L2N.takes_of rfl rfl rfl rfl) (L2N.pmk_own PySem.F.excBase_ValueError T.err_NoDay.ex T.g_NoDay T.err_NoDay.kp (raises_own T.err_NoDay.sb T.err_NoDay.tp) rfl)))
        pss_nil)), ?_⟩
    rcases h with ⟨⟨k, dk, no⟩, out⟩ | ⟨i, rfl, hi, q⟩
    · refine ⟨_, rfl, _, rfl, _, _, _, _, rfl, dk, fun H1 e1 => ⟨_, rfl, ?_⟩⟩
      rw [no]
      exact iteT (out H1 e1)
    · refine ⟨_, rfl, _, rfl, _, _, _, _, rfl, .int i, fun H1 e1 => ⟨_, rfl, ?_⟩⟩
      rw [btw_yes hi]
      exact iteF (q H1 e1)
theorem both_need_week (T : Txt K mg) : FnOk P w K mg base (L2N.CX P w) 3 T.need_week.f T.need_week.fd ["thing"] (spNumB T.C_NoWeek 1 20) := by
  have G_is_between : FnOk P w K mg base CX0 2 T.is_between.f T.is_between.fd ["thing", "least", "most"] spBetween := ok_is_between T
  refine fun_okN T.need_week.F sc_need_week (fun vs H Q E h => ?_) (fun cdv A outer s H vs Q E hr h => ?_)
  · obtain ⟨_, rfl, _⟩ := h
    rfl
  · obtain ⟨x, rfl, h⟩ := h
    refine ⟨_, (pss_one (ps_if (pt_not (pt_val (pe_call G_is_between (hr.mono (by omega)) (by rfl) T.is_between.g T.is_between.F.kp T.is_between.b .nil pass0 (pa_cons (pv 0) (pa_cons pe_int (pa_cons (pe_glob (v := .int 20) rfl T.c_LONGEST_WEEK ⟨_, rfl⟩) pa_nil))))))
        (pss_one (L2N.ps_raise rfl (L2N.takes_of rfl rfl rfl rfl) (L2N.pmk_own PySem.F.excBase_ValueError T.err_NoWeek.ex T.g_NoWeek T.err_NoWeek.kp (raises_own T.err_NoWeek.sb T.err_NoWeek.tp) rfl)))
        pss_nil)), ?_⟩
    rcases h with ⟨⟨k, dk, no⟩, out⟩ | ⟨i, rfl, hi, q⟩
    · refine ⟨_, rfl, _, _, _, _, rfl, dk, fun H1 e1 => ⟨_, rfl, ?_⟩⟩
      rw [no]
      exact iteT (out H1 e1)
    · refine ⟨_, rfl, _, _, _, _, rfl, .int i, fun H1 e1 => ⟨_, rfl, ?_⟩⟩
      rw [btw_yes hi]
      exact iteF (q H1 e1)
def spPlaceB (C : Addr) : Sp := fun vs H Q E => ∃ v D T B S x, vs = [v, x] ∧ Land H v D T B S ∧ ((Bad H x 0 (D - 1) ∧ Out C E H) ∨ (∃ i, x = .int i ∧ (0 ≤ i ∧ i < D) ∧ RetV .non H Q))
theorem both_need_place (T : Txt K mg) : FnOk P w K mg base (L2N.CX P w) 3 T.need_place.f T.need_place.fd ["land", "thing"] (spPlaceB T.C_NoPlace) := by
  have G_is_between : FnOk P w K mg base CX0 2 T.is_between.f T.is_between.fd ["thing", "least", "most"] spBetween := ok_is_between T
  refine fun_okN T.need_place.F sc_need_place (fun vs H Q E h => ?_) (fun cdv A outer s H vs Q E hr h => ?_)
  · obtain ⟨_, _, _, _, _, _, rfl, _⟩ := h
    rfl
  · obtain ⟨v, D, T', B, S, x, rfl, ⟨a, rfl, ha, r⟩, h⟩ := h
    refine ⟨_, (pss_cons (ps_set (i := 2) sc_need_place.nd rfl (Or.inl rfl) (pe_ix ix_tup (pv 0) pe_int (fun _ _ => rfl)))
      (pss_one (ps_if (pt_not (pt_val (pe_call G_is_between (hr.mono (by omega)) (by rfl) T.is_between.g T.is_between.F.kp T.is_between.b .nil pass0 (pa_cons (pv 1) (pa_cons pe_int (pa_cons (pe_op op_sub (pv 2) pe_int) pa_nil))))))
        (pss_one (L2N.ps_raise rfl (L2N.takes_of rfl rfl rfl rfl) (L2N.pmk_own PySem.F.excBase_ValueError T.err_NoPlace.ex T.g_NoPlace T.err_NoPlace.kp (raises_own T.err_NoPlace.sb T.err_NoPlace.tp) rfl)))
        pss_nil))), ?_⟩
    refine ⟨_, rfl, a, _, 0, _, rfl, rfl, st_of ha, rfl, ?_⟩
    rcases h with ⟨⟨k, dk, no⟩, out⟩ | ⟨i, rfl, hi, q⟩
    · refine ⟨_, rfl, _, rfl, _, _, rfl, rfl, _, _, _, _, rfl, dk, fun H1 e1 => ⟨_, rfl, ?_⟩⟩
      rw [no]
      exact iteT (out H1 e1)
    · refine ⟨_, rfl, _, rfl, _, _, rfl, rfl, _, _, _, _, rfl, .int i, fun H1 e1 => ⟨_, rfl, ?_⟩⟩
      rw [btw_yes ⟨hi.1, by omega⟩]
      exact iteF (q H1 e1)
def spNameB (C : Addr) : Sp := fun vs H Q E => ∃ (n : Int) (x : V), vs = [.int n, x] ∧ ((Bad H x 0 (n - 1) ∧ Out C E H) ∨ (∃ i, x = .int i ∧ (0 ≤ i ∧ i < n) ∧ RetV .non H Q))
theorem both_need_name (T : Txt K mg) : FnOk P w K mg base (L2N.CX P w) 3 T.need_name.f T.need_name.fd ["week", "thing"] (spNameB T.C_NoName) := by
  have G_is_between : FnOk P w K mg base CX0 2 T.is_between.f T.is_between.fd ["thing", "least", "most"] spBetween := ok_is_between T
  refine fun_okN T.need_name.F sc_need_name (fun vs H Q E h => ?_) (fun cdv A outer s H vs Q E hr h => ?_)
  · obtain ⟨_, _, rfl, _⟩ := h
    rfl
  · obtain ⟨n, x, rfl, h⟩ := h
    refine ⟨_, (pss_one (ps_if (pt_not (pt_val (pe_call G_is_between (hr.mono (by omega)) (by rfl) T.is_between.g T.is_between.F.kp T.is_between.b .nil pass0 (pa_cons (pv 1) (pa_cons pe_int (pa_cons (pe_op op_sub (pv 0) pe_int) pa_nil))))))
        (pss_one (L2N.ps_raise rfl (L2N.takes_of rfl rfl rfl rfl) (L2N.pmk_own PySem.F.excBase_ValueError T.err_NoName.ex T.g_NoName T.err_NoName.kp (raises_own T.err_NoName.sb T.err_NoName.tp) rfl)))
        pss_nil)), ?_⟩
    rcases h with ⟨⟨k, dk, no⟩, out⟩ | ⟨i, rfl, hi, q⟩
    · refine ⟨_, rfl, _, rfl, _, _, rfl, rfl, _, _, _, _, rfl, dk, fun H1 e1 => ⟨_, rfl, ?_⟩⟩
      rw [no]
      exact iteT (out H1 e1)
    · refine ⟨_, rfl, _, rfl, _, _, rfl, rfl, _, _, _, _, rfl, .int i, fun H1 e1 => ⟨_, rfl, ?_⟩⟩
      rw [btw_yes ⟨hi.1, by omega⟩]
      exact iteF (q H1 e1)
def spTwoNo (C : Addr) : Sp := fun vs H _ E => ∃ x y, vs = [x, y] ∧ NoTwo H (-1000000000000000000000000000000) 1000000000000000000000000000000 x y ∧ Out C E H
theorem no2_need_years (T : Txt K mg) : FnOk P w K mg base (L2N.CX P w) 4 T.need_years.f T.need_years.fd ["first", "last"] (spTwoNo T.C_NoYear) := by
  have G_need_year : FnOk P w K mg base (L2N.CX P w) 3 T.need_year.f T.need_year.fd ["thing"] (spNumB T.C_NoYear (-1000000000000000000000000000000) 1000000000000000000000000000000) := both_need_year T
  refine fun_okN T.need_years.F sc_need_years (fun vs H Q E h => ?_) (fun cdv A outer s H vs Q E hr h => ?_)
  · obtain ⟨_, _, rfl, _⟩ := h
    rfl
  · obtain ⟨x, y, rfl, no, out⟩ := h
    refine ⟨_, (pss_cons (ps_expr (pe_callS G_need_year (hr.mono (by omega)) (by rfl) T.need_year.g T.need_year.F.kp T.need_year.b (fun σ => L2N.passAt (L2N.takes_of rfl rfl rfl rfl) σ) (pa_cons (pv 0) pa_nil)))
      (pss_cons (ps_expr (pe_callS G_need_year (hr.mono (by omega)) (by rfl) T.need_year.g T.need_year.F.kp T.need_year.b (fun σ => L2N.passAt (L2N.takes_of rfl rfl rfl rfl) σ) (pa_cons (pv 1) pa_nil)))
      (pss_one (ps_if (pt_cmpR op_lt (pv 1) (pv 0) (nomark _))
        (pss_one (L2N.ps_raise rfl (L2N.takes_of rfl rfl rfl rfl) (L2N.pmk_own PySem.F.excBase_ValueError T.err_NoYear.ex T.g_NoYear T.err_NoYear.kp (raises_own T.err_NoYear.sb T.err_NoYear.tp) rfl)))
        pss_nil)))), ?_⟩
    cases no with
    | first b => exact ⟨_, rfl, _, rfl, .inl ⟨b, out⟩⟩
    | last r b => exact ⟨_, rfl, _, rfl, .inr ⟨_, rfl, r, fun H1 e1 => ⟨_, rfl, _, rfl, .inl ⟨b.ex e1, out.mono e1⟩⟩⟩⟩
    | less r r' l =>
      refine ⟨_, rfl, _, rfl, .inr ⟨_, rfl, r, fun H1 e1 => ⟨_, rfl, _, rfl, .inr ⟨_, rfl, r', fun H2 e2 => ?_⟩⟩⟩⟩
      refine ⟨_, rfl, _, rfl, _, _, rfl, rfl, _, rfl, ?_⟩
      rw [decide_eq_true l]
      exact iteT (out H2 (e1.trans e2))
theorem no2_need_days (T : Txt K mg) : FnOk P w K mg base (L2N.CX P w) 4 T.need_days.f T.need_days.fd ["first", "last"] (spTwoNo T.C_NoDay) := by
  have G_need_day : FnOk P w K mg base (L2N.CX P w) 3 T.need_day.f T.need_day.fd ["thing"] (spNumB T.C_NoDay (-1000000000000000000000000000000) 1000000000000000000000000000000) := both_need_day T
  refine fun_okN T.need_days.F sc_need_days (fun vs H Q E h => ?_) (fun cdv A outer s H vs Q E hr h => ?_)
  · obtain ⟨_, _, rfl, _⟩ := h
    rfl
  · obtain ⟨x, y, rfl, no, out⟩ := h
    refine ⟨_, (pss_cons (ps_expr (pe_callS G_need_day (hr.mono (by omega)) (by rfl) T.need_day.g T.need_day.F.kp T.need_day.b (fun σ => L2N.passAt (L2N.takes_of rfl rfl rfl rfl) σ) (pa_cons (pv 0) pa_nil)))
      (pss_cons (ps_expr (pe_callS G_need_day (hr.mono (by omega)) (by rfl) T.need_day.g T.need_day.F.kp T.need_day.b (fun σ => L2N.passAt (L2N.takes_of rfl rfl rfl rfl) σ) (pa_cons (pv 1) pa_nil)))
      (pss_one (ps_if (pt_cmpR op_lt (pv 1) (pv 0) (nomark _))
        (pss_one (L2N.ps_raise rfl (L2N.takes_of rfl rfl rfl rfl) (L2N.pmk_own PySem.F.excBase_ValueError T.err_NoDay.ex T.g_NoDay T.err_NoDay.kp (raises_own T.err_NoDay.sb T.err_NoDay.tp) rfl)))
        pss_nil)))), ?_⟩
    cases no with
    | first b => exact ⟨_, rfl, _, rfl, .inl ⟨b, out⟩⟩
    | last r b => exact ⟨_, rfl, _, rfl, .inr ⟨_, rfl, r, fun H1 e1 => ⟨_, rfl, _, rfl, .inl ⟨b.ex e1, out.mono e1⟩⟩⟩⟩
    | less r r' l =>
      refine ⟨_, rfl, _, rfl, .inr ⟨_, rfl, r, fun H1 e1 => ⟨_, rfl, _, rfl, .inr ⟨_, rfl, r', fun H2 e2 => ?_⟩⟩⟩⟩
      refine ⟨_, rfl, _, rfl, _, _, rfl, rfl, _, rfl, ?_⟩
      rw [decide_eq_true l]
      exact iteT (out H2 (e1.trans e2))
def spAskB (CL CP CW CN : Addr) : Sp := fun vs H Q E => ∃ v x y z, vs = [v, x, y, z] ∧ (NoAsk CL CP CW CN H E v x y z ∨ (∃ D T B S i k n, x = .int i ∧ y = .int k ∧ z = .int n ∧ Asked H v D T B S i k n ∧ RetV .non H Q))
theorem both_need_asked (T : Txt K mg) : FnOk P w K mg base (L2N.CX P w) 5 T.need_asked.f T.need_asked.fd ["land", "place", "week", "name"] (spAskB T.C_NoLand T.C_NoPlace T.C_NoWeek T.C_NoName) := by
  have G_need_land : FnOk P w K mg base (L2N.CX P w) 4 T.need_land.f T.need_land.fd ["thing"] (spNeedLandB T.C_NoLand) := both_need_land T
  have G_need_place : FnOk P w K mg base (L2N.CX P w) 3 T.need_place.f T.need_place.fd ["land", "thing"] (spPlaceB T.C_NoPlace) := both_need_place T
  have G_need_week : FnOk P w K mg base (L2N.CX P w) 3 T.need_week.f T.need_week.fd ["thing"] (spNumB T.C_NoWeek 1 20) := both_need_week T
  have G_need_name : FnOk P w K mg base (L2N.CX P w) 3 T.need_name.f T.need_name.fd ["week", "thing"] (spNameB T.C_NoName) := both_need_name T
  refine fun_okN T.need_asked.F sc_need_asked (fun vs H Q E h => ?_) (fun cdv A outer s H vs Q E hr h => ?_)
  · obtain ⟨_, _, _, _, rfl, _⟩ := h
    rfl
  · obtain ⟨v, x, y, z, rfl, h⟩ := h
    refine ⟨_, (pss_cons (ps_expr (pe_callS G_need_land (hr.mono (by omega)) (by rfl) T.need_land.g T.need_land.F.kp T.need_land.b (fun σ => L2N.passAt (L2N.takes_of rfl rfl rfl rfl) σ) (pa_cons (pv 0) pa_nil)))
      (pss_cons (ps_expr (pe_callS G_need_place (hr.mono (by omega)) (by rfl) T.need_place.g T.need_place.F.kp T.need_place.b (fun σ => L2N.passAt (L2N.takes_of rfl rfl rfl rfl) σ) (pa_cons (pv 0) (pa_cons (pv 1) pa_nil))))
      (pss_cons (ps_expr (pe_callS G_need_week (hr.mono (by omega)) (by rfl) T.need_week.g T.need_week.F.kp T.need_week.b (fun σ => L2N.passAt (L2N.takes_of rfl rfl rfl rfl) σ) (pa_cons (pv 2) pa_nil)))
      (pss_one (ps_expr (pe_callS G_need_name (hr.mono (by omega)) (by rfl) T.need_name.g T.need_name.F.kp T.need_name.b (fun σ => L2N.passAt (L2N.takes_of rfl rfl rfl rfl) σ) (pa_cons (pv 2) (pa_cons (pv 3) pa_nil)))))))), ?_⟩
    rcases h with no | ⟨D, T', B, S, i, k, n, rfl, rfl, rfl, ⟨hL, hp, hw, hn⟩, q⟩
    · cases no with
      | land no out => exact ⟨_, rfl, _, rfl, .inl ⟨no, out⟩⟩
      | place l b out => exact ⟨_, rfl, _, rfl, .inr ⟨_, _, _, _, l, fun H1 e1 => ⟨_, rfl, _, rfl, _, _, _, _, _, _, rfl, l.ex e1, .inl ⟨b.ex e1, out.mono e1⟩⟩⟩⟩
      | week l hi b out => exact ⟨_, rfl, _, rfl, .inr ⟨_, _, _, _, l, fun H1 e1 => ⟨_, rfl, _, rfl, _, _, _, _, _, _, rfl, l.ex e1, .inr ⟨_, rfl, hi, fun H2 e2 => ⟨_, rfl, _, rfl, .inl ⟨b.ex (e1.trans e2), out.mono (e1.trans e2)⟩⟩⟩⟩⟩⟩
      | name l hi hk b out => exact ⟨_, rfl, _, rfl, .inr ⟨_, _, _, _, l, fun H1 e1 => ⟨_, rfl, _, rfl, _, _, _, _, _, _, rfl, l.ex e1, .inr ⟨_, rfl, hi, fun H2 e2 => ⟨_, rfl, _, rfl, .inr ⟨_, rfl, hk, fun H3 e3 => ⟨_, rfl, _, rfl, _, _, rfl, .inl ⟨b.ex ((e1.trans e2).trans e3), out.mono ((e1.trans e2).trans e3)⟩⟩⟩⟩⟩⟩⟩⟩
    · exact ⟨_, rfl, _, rfl, .inr ⟨_, _, _, _, hL, fun H1 e1 => ⟨_, rfl, _, rfl, _, _, _, _, _, _, rfl, hL.ex e1, .inr ⟨_, rfl, hp, fun H2 e2 => ⟨_, rfl, _, rfl, .inr ⟨_, rfl, hw, fun H3 e3 => ⟨_, rfl, _, rfl, _, _, rfl, .inr ⟨_, rfl, hn, fun H4 e4 => q H4 ((e1.trans e2).trans (e3.trans e4))⟩⟩⟩⟩⟩⟩⟩⟩
def spBothB (CL CP : Addr) : Sp := fun vs H Q E => ∃ v x v' x', vs = [v, x, v', x'] ∧ (NoBoth CL CP H E v x v' x' ∨ (∃ D T B S i D' T' B' S' j, x = .int i ∧ x' = .int j ∧ Land H v D T B S ∧ (0 ≤ i ∧ i < D) ∧ Land H v' D' T' B' S' ∧ (0 ≤ j ∧ j < D') ∧ RetV .non H Q))
theorem both_need_places (T : Txt K mg) : FnOk P w K mg base (L2N.CX P w) 5 T.need_places.f T.need_places.fd ["one", "place_one", "other", "place_other"] (spBothB T.C_NoLand T.C_NoPlace) := by
  have G_need_land : FnOk P w K mg base (L2N.CX P w) 4 T.need_land.f T.need_land.fd ["thing"] (spNeedLandB T.C_NoLand) := both_need_land T
  have G_need_place : FnOk P w K mg base (L2N.CX P w) 3 T.need_place.f T.need_place.fd ["land", "thing"] (spPlaceB T.C_NoPlace) := both_need_place T
  refine fun_okN T.need_places.F sc_need_places (fun vs H Q E h => ?_) (fun cdv A outer s H vs Q E hr h => ?_)
  · obtain ⟨_, _, _, _, rfl, _⟩ := h
    rfl
  · obtain ⟨v, x, v', x', rfl, h⟩ := h
    refine ⟨_, (pss_cons (ps_expr (pe_callS G_need_land (hr.mono (by omega)) (by rfl) T.need_land.g T.need_land.F.kp T.need_land.b (fun σ => L2N.passAt (L2N.takes_of rfl rfl rfl rfl) σ) (pa_cons (pv 0) pa_nil)))
      (pss_cons (ps_expr (pe_callS G_need_place (hr.mono (by omega)) (by rfl) T.need_place.g T.need_place.F.kp T.need_place.b (fun σ => L2N.passAt (L2N.takes_of rfl rfl rfl rfl) σ) (pa_cons (pv 0) (pa_cons (pv 1) pa_nil))))
      (pss_cons (ps_expr (pe_callS G_need_land (hr.mono (by omega)) (by rfl) T.need_land.g T.need_land.F.kp T.need_land.b (fun σ => L2N.passAt (L2N.takes_of rfl rfl rfl rfl) σ) (pa_cons (pv 2) pa_nil)))
      (pss_one (ps_expr (pe_callS G_need_place (hr.mono (by omega)) (by rfl) T.need_place.g T.need_place.F.kp T.need_place.b (fun σ => L2N.passAt (L2N.takes_of rfl rfl rfl rfl) σ) (pa_cons (pv 2) (pa_cons (pv 3) pa_nil)))))))), ?_⟩
    rcases h with no | ⟨D, T1, B, S, i, D', T', B', S', j, rfl, rfl, hL, hi, hL', hj, q⟩
    · cases no with
      | land no out => exact ⟨_, rfl, _, rfl, .inl ⟨no, out⟩⟩
      | place l b out => exact ⟨_, rfl, _, rfl, .inr ⟨_, _, _, _, l, fun H1 e1 => ⟨_, rfl, _, rfl, _, _, _, _, _, _, rfl, l.ex e1, .inl ⟨b.ex e1, out.mono e1⟩⟩⟩⟩
      | other l hi no out => exact ⟨_, rfl, _, rfl, .inr ⟨_, _, _, _, l, fun H1 e1 => ⟨_, rfl, _, rfl, _, _, _, _, _, _, rfl, l.ex e1, .inr ⟨_, rfl, hi, fun H2 e2 => ⟨_, rfl, _, rfl, .inl ⟨no.ex (e1.trans e2), out.mono (e1.trans e2)⟩⟩⟩⟩⟩⟩
      | there l hi l' b out => exact ⟨_, rfl, _, rfl, .inr ⟨_, _, _, _, l, fun H1 e1 => ⟨_, rfl, _, rfl, _, _, _, _, _, _, rfl, l.ex e1, .inr ⟨_, rfl, hi, fun H2 e2 => ⟨_, rfl, _, rfl, .inr ⟨_, _, _, _, l'.ex (e1.trans e2), fun H3 e3 => ⟨_, rfl, _, rfl, _, _, _, _, _, _, rfl, l'.ex ((e1.trans e2).trans e3), .inl ⟨b.ex ((e1.trans e2).trans e3), out.mono ((e1.trans e2).trans e3)⟩⟩⟩⟩⟩⟩⟩⟩
    · exact ⟨_, rfl, _, rfl, .inr ⟨_, _, _, _, hL, fun H1 e1 => ⟨_, rfl, _, rfl, _, _, _, _, _, _, rfl, hL.ex e1, .inr ⟨_, rfl, hi, fun H2 e2 => ⟨_, rfl, _, rfl, .inr ⟨_, _, _, _, hL'.ex (e1.trans e2), fun H3 e3 => ⟨_, rfl, _, rfl, _, _, _, _, _, _, rfl, hL'.ex ((e1.trans e2).trans e3), .inr ⟨_, rfl, hj, fun H4 e4 => q H4 ((e1.trans e2).trans (e3.trans e4))⟩⟩⟩⟩⟩⟩⟩⟩
end

/-! ### each function refuses -/
section
variable {P : Program} {w : World} {K : PySem.W.Frag} {mg : Str → Option Value} {base : Heap}
def spByLand (CL C : Addr) : Sp := fun vs H _ E => ∃ v x, vs = [v, x] ∧ ((NoL H v ∧ Out CL E H) ∨ (∃ D T B S, Land H v D T B S ∧ Bad H x (-1000000000000000000000000000000) 1000000000000000000000000000000 ∧ Out C E H))
theorem no_begin (T : Txt K mg) : FnOk P w K mg base (L2N.CX P w) 5 T.begin.f T.begin.fd ["land", "year"] (spByLand T.C_NoLand T.C_NoYear) := by
  have G_need_land : FnOk P w K mg base (L2N.CX P w) 4 T.need_land.f T.need_land.fd ["thing"] (spNeedLandB T.C_NoLand) := both_need_land T
  have G_need_year : FnOk P w K mg base (L2N.CX P w) 3 T.need_year.f T.need_year.fd ["thing"] (spNumB T.C_NoYear (-1000000000000000000000000000000) 1000000000000000000000000000000) := both_need_year T
  refine fun_okN T.begin.F sc_begin (fun vs H Q E h => ?_) (fun cdv A outer s H vs Q E hr h => ?_)
  · obtain ⟨_, _, rfl, _⟩ := h
    rfl
  · obtain ⟨v, x, rfl, h⟩ := h
    refine ⟨_, (pss_cons (ps_expr (pe_callS G_need_land (hr.mono (by omega)) (by rfl) T.need_land.g T.need_land.F.kp T.need_land.b (fun σ => L2N.passAt (L2N.takes_of rfl rfl rfl rfl) σ) (pa_cons (pv 0) pa_nil)))
      (pss_cons (ps_expr (pe_callS G_need_year (hr.mono (by omega)) (by rfl) T.need_year.g T.need_year.F.kp T.need_year.b (fun σ => L2N.passAt (L2N.takes_of rfl rfl rfl rfl) σ) (pa_cons (pv 1) pa_nil)))
      pss_never)), ?_⟩
    rcases h with ⟨no, out⟩ | ⟨D, T1, B, S, l, b, out⟩
    · exact ⟨_, rfl, _, rfl, .inl ⟨no, out⟩⟩
    · exact ⟨_, rfl, _, rfl, .inr ⟨_, _, _, _, l, fun H1 e1 => ⟨_, rfl, _, rfl, .inl ⟨b.ex e1, out.mono e1⟩⟩⟩⟩
theorem no_date (T : Txt K mg) : FnOk P w K mg base (L2N.CX P w) 5 T.date.f T.date.fd ["land", "day"] (spByLand T.C_NoLand T.C_NoDay) := by
  have G_need_land : FnOk P w K mg base (L2N.CX P w) 4 T.need_land.f T.need_land.fd ["thing"] (spNeedLandB T.C_NoLand) := both_need_land T
  have G_need_day : FnOk P w K mg base (L2N.CX P w) 3 T.need_day.f T.need_day.fd ["thing"] (spNumB T.C_NoDay (-1000000000000000000000000000000) 1000000000000000000000000000000) := both_need_day T
  refine fun_okN T.date.F sc_date (fun vs H Q E h => ?_) (fun cdv A outer s H vs Q E hr h => ?_)
  · obtain ⟨_, _, rfl, _⟩ := h
    rfl
  · obtain ⟨v, x, rfl, h⟩ := h
    refine ⟨_, (pss_cons (ps_expr (pe_callS G_need_land (hr.mono (by omega)) (by rfl) T.need_land.g T.need_land.F.kp T.need_land.b (fun σ => L2N.passAt (L2N.takes_of rfl rfl rfl rfl) σ) (pa_cons (pv 0) pa_nil)))
      (pss_cons (ps_expr (pe_callS G_need_day (hr.mono (by omega)) (by rfl) T.need_day.g T.need_day.F.kp T.need_day.b (fun σ => L2N.passAt (L2N.takes_of rfl rfl rfl rfl) σ) (pa_cons (pv 1) pa_nil)))
      pss_never)), ?_⟩
    rcases h with ⟨no, out⟩ | ⟨D, T1, B, S, l, b, out⟩
    · exact ⟨_, rfl, _, rfl, .inl ⟨no, out⟩⟩
    · exact ⟨_, rfl, _, rfl, .inr ⟨_, _, _, _, l, fun H1 e1 => ⟨_, rfl, _, rfl, .inl ⟨b.ex e1, out.mono e1⟩⟩⟩⟩
theorem no_is_long (T : Txt K mg) : FnOk P w K mg base (L2N.CX P w) 5 T.is_long.f T.is_long.fd ["land", "year"] (spByLand T.C_NoLand T.C_NoYear) := by
  have G_need_land : FnOk P w K mg base (L2N.CX P w) 4 T.need_land.f T.need_land.fd ["thing"] (spNeedLandB T.C_NoLand) := both_need_land T
  have G_need_year : FnOk P w K mg base (L2N.CX P w) 3 T.need_year.f T.need_year.fd ["thing"] (spNumB T.C_NoYear (-1000000000000000000000000000000) 1000000000000000000000000000000) := both_need_year T
  refine fun_okN T.is_long.F sc_is_long (fun vs H Q E h => ?_) (fun cdv A outer s H vs Q E hr h => ?_)
  · obtain ⟨_, _, rfl, _⟩ := h
    rfl
  · obtain ⟨v, x, rfl, h⟩ := h
    refine ⟨_, (pss_cons (ps_expr (pe_callS G_need_land (hr.mono (by omega)) (by rfl) T.need_land.g T.need_land.F.kp T.need_land.b (fun σ => L2N.passAt (L2N.takes_of rfl rfl rfl rfl) σ) (pa_cons (pv 0) pa_nil)))
      (pss_cons (ps_expr (pe_callS G_need_year (hr.mono (by omega)) (by rfl) T.need_year.g T.need_year.F.kp T.need_year.b (fun σ => L2N.passAt (L2N.takes_of rfl rfl rfl rfl) σ) (pa_cons (pv 1) pa_nil)))
      pss_never)), ?_⟩
    rcases h with ⟨no, out⟩ | ⟨D, T1, B, S, l, b, out⟩
    · exact ⟨_, rfl, _, rfl, .inl ⟨no, out⟩⟩
    · exact ⟨_, rfl, _, rfl, .inr ⟨_, _, _, _, l, fun H1 e1 => ⟨_, rfl, _, rfl, .inl ⟨b.ex e1, out.mono e1⟩⟩⟩⟩
theorem no_next_long (T : Txt K mg) : FnOk P w K mg base (L2N.CX P w) 5 T.next_long.f T.next_long.fd ["land", "year"] (spByLand T.C_NoLand T.C_NoYear) := by
  have G_need_land : FnOk P w K mg base (L2N.CX P w) 4 T.need_land.f T.need_land.fd ["thing"] (spNeedLandB T.C_NoLand) := both_need_land T
  have G_need_year : FnOk P w K mg base (L2N.CX P w) 3 T.need_year.f T.need_year.fd ["thing"] (spNumB T.C_NoYear (-1000000000000000000000000000000) 1000000000000000000000000000000) := both_need_year T
  refine fun_okN T.next_long.F sc_next_long (fun vs H Q E h => ?_) (fun cdv A outer s H vs Q E hr h => ?_)
  · obtain ⟨_, _, rfl, _⟩ := h
    rfl
  · obtain ⟨v, x, rfl, h⟩ := h
    refine ⟨_, (pss_cons (ps_expr (pe_callS G_need_land (hr.mono (by omega)) (by rfl) T.need_land.g T.need_land.F.kp T.need_land.b (fun σ => L2N.passAt (L2N.takes_of rfl rfl rfl rfl) σ) (pa_cons (pv 0) pa_nil)))
      (pss_cons (ps_expr (pe_callS G_need_year (hr.mono (by omega)) (by rfl) T.need_year.g T.need_year.F.kp T.need_year.b (fun σ => L2N.passAt (L2N.takes_of rfl rfl rfl rfl) σ) (pa_cons (pv 1) pa_nil)))
      pss_never)), ?_⟩
    rcases h with ⟨no, out⟩ | ⟨D, T1, B, S, l, b, out⟩
    · exact ⟨_, rfl, _, rfl, .inl ⟨no, out⟩⟩
    · exact ⟨_, rfl, _, rfl, .inr ⟨_, _, _, _, l, fun H1 e1 => ⟨_, rfl, _, rfl, .inl ⟨b.ex e1, out.mono e1⟩⟩⟩⟩
def spLongsB (CL C : Addr) : Sp := fun vs H _ E => ∃ v x y, vs = [v, x, y] ∧ ((NoL H v ∧ Out CL E H) ∨ (∃ D T B S, Land H v D T B S ∧ NoTwo H (-1000000000000000000000000000000) 1000000000000000000000000000000 x y ∧ Out C E H))
theorem no2_long_years (T : Txt K mg) : FnOk P w K mg base (L2N.CX P w) 5 T.long_years.f T.long_years.fd ["land", "first", "last"] (spLongsB T.C_NoLand T.C_NoYear) := by
  have G_need_land : FnOk P w K mg base (L2N.CX P w) 4 T.need_land.f T.need_land.fd ["thing"] (spNeedLandB T.C_NoLand) := both_need_land T
  have G_need_years : FnOk P w K mg base (L2N.CX P w) 4 T.need_years.f T.need_years.fd ["first", "last"] (spTwoNo T.C_NoYear) := no2_need_years T
  refine fun_okN T.long_years.F sc_long_years (fun vs H Q E h => ?_) (fun cdv A outer s H vs Q E hr h => ?_)
  · obtain ⟨_, _, _, rfl, _⟩ := h
    rfl
  · obtain ⟨v, x, y, rfl, h⟩ := h
    refine ⟨_, (pss_cons (ps_expr (pe_callS G_need_land (hr.mono (by omega)) (by rfl) T.need_land.g T.need_land.F.kp T.need_land.b (fun σ => L2N.passAt (L2N.takes_of rfl rfl rfl rfl) σ) (pa_cons (pv 0) pa_nil)))
      (pss_cons (ps_expr (pe_callS G_need_years (hr.mono (by omega)) (by rfl) T.need_years.g T.need_years.F.kp T.need_years.b (fun σ => L2N.passAt (L2N.takes_of rfl rfl rfl rfl) σ) (pa_cons (pv 1) (pa_cons (pv 2) pa_nil))))
      pss_never)), ?_⟩
    rcases h with ⟨no, out⟩ | ⟨D, T1, B, S, l, b, out⟩
    · exact ⟨_, rfl, _, rfl, .inl ⟨no, out⟩⟩
    · exact ⟨_, rfl, _, rfl, .inr ⟨_, _, _, _, l, fun H1 e1 => ⟨_, rfl, _, rfl, _, _, rfl, b.ex e1, out.mono e1⟩⟩⟩
def spAskNo (CL CP CW CN : Addr) : Sp := fun vs H _ E => ∃ v x y z, vs = [v, x, y, z] ∧ NoAsk CL CP CW CN H E v x y z
def spBothNo (CL CP : Addr) : Sp := fun vs H _ E => ∃ v x v' x', vs = [v, x, v', x'] ∧ NoBoth CL CP H E v x v' x'
def spAskThing (CL CP CW CN : Addr) : Sp := fun vs H _ E => ∃ v x y z t, vs = [v, x, y, z, t] ∧ NoAsk CL CP CW CN H E v x y z
def spBothThing (CL CP : Addr) : Sp := fun vs H _ E => ∃ v x v' x' t, vs = [v, x, v', x', t] ∧ NoBoth CL CP H E v x v' x'
def spAskYear (CL CP CW CN C : Addr) : Sp := fun vs H _ E => ∃ v x y z t, vs = [v, x, y, z, t] ∧ (NoAsk CL CP CW CN H E v x y z ∨ (∃ D T B S i k n, x = .int i ∧ y = .int k ∧ z = .int n ∧ Asked H v D T B S i k n ∧ Bad H t (-1000000000000000000000000000000) 1000000000000000000000000000000 ∧ Out C E H))
def spAskYears (CL CP CW CN C : Addr) : Sp := fun vs H _ E => ∃ v x y z t u, vs = [v, x, y, z, t, u] ∧ (NoAsk CL CP CW CN H E v x y z ∨ (∃ D T B S i k n, x = .int i ∧ y = .int k ∧ z = .int n ∧ Asked H v D T B S i k n ∧ NoTwo H (-1000000000000000000000000000000) 1000000000000000000000000000000 t u ∧ Out C E H))
def spBothDay (CL CP C : Addr) : Sp := fun vs H _ E => ∃ v x v' x' t, vs = [v, x, v', x', t] ∧ (NoBoth CL CP H E v x v' x' ∨ (∃ D T B S i D' T' B' S' j, x = .int i ∧ x' = .int j ∧ Land H v D T B S ∧ (0 ≤ i ∧ i < D) ∧ Land H v' D' T' B' S' ∧ (0 ≤ j ∧ j < D') ∧ Bad H t (-1000000000000000000000000000000) 1000000000000000000000000000000 ∧ Out C E H))
def spBothDays (CL CP C : Addr) : Sp := fun vs H _ E => ∃ v x v' x' t u, vs = [v, x, v', x', t, u] ∧ (NoBoth CL CP H E v x v' x' ∨ (∃ D T B S i D' T' B' S' j, x = .int i ∧ x' = .int j ∧ Land H v D T B S ∧ (0 ≤ i ∧ i < D) ∧ Land H v' D' T' B' S' ∧ (0 ≤ j ∧ j < D') ∧ NoTwo H (-1000000000000000000000000000000) 1000000000000000000000000000000 t u ∧ Out C E H))
theorem no_lengths (T : Txt K mg) : FnOk P w K mg base (L2N.CX P w) 6 T.lengths.f T.lengths.fd ["land", "place", "week", "name"] (spAskNo T.C_NoLand T.C_NoPlace T.C_NoWeek T.C_NoName) := by
  have G_need_asked : FnOk P w K mg base (L2N.CX P w) 5 T.need_asked.f T.need_asked.fd ["land", "place", "week", "name"] (spAskB T.C_NoLand T.C_NoPlace T.C_NoWeek T.C_NoName) := both_need_asked T
  refine fun_okN T.lengths.F sc_lengths (fun vs H Q E h => ?_) (fun cdv A outer s H vs Q E hr h => ?_)
  · obtain ⟨_, _, _, _, rfl, _⟩ := h
    rfl
  · obtain ⟨_, _, _, _, rfl, no⟩ := h
    exact ⟨_, (pss_cons (ps_expr (pe_callS G_need_asked (hr.mono (by omega)) (by rfl) T.need_asked.g T.need_asked.F.kp T.need_asked.b (fun σ => L2N.passAt (L2N.takes_of rfl rfl rfl rfl) σ) (pa_cons (pv 0) (pa_cons (pv 1) (pa_cons (pv 2) (pa_cons (pv 3) pa_nil))))))
      pss_never), _, rfl, _, rfl, _, rfl, _, rfl, _, _, _, _, rfl, .inl no⟩
theorem no_barring (T : Txt K mg) : FnOk P w K mg base (L2N.CX P w) 6 T.barring.f T.barring.fd ["land", "place", "week", "name"] (spAskNo T.C_NoLand T.C_NoPlace T.C_NoWeek T.C_NoName) := by
  have G_need_asked : FnOk P w K mg base (L2N.CX P w) 5 T.need_asked.f T.need_asked.fd ["land", "place", "week", "name"] (spAskB T.C_NoLand T.C_NoPlace T.C_NoWeek T.C_NoName) := both_need_asked T
  refine fun_okN T.barring.F sc_barring (fun vs H Q E h => ?_) (fun cdv A outer s H vs Q E hr h => ?_)
  · obtain ⟨_, _, _, _, rfl, _⟩ := h
    rfl
  · obtain ⟨_, _, _, _, rfl, no⟩ := h
    exact ⟨_, (pss_cons (ps_expr (pe_callS G_need_asked (hr.mono (by omega)) (by rfl) T.need_asked.g T.need_asked.F.kp T.need_asked.b (fun σ => L2N.passAt (L2N.takes_of rfl rfl rfl rfl) σ) (pa_cons (pv 0) (pa_cons (pv 1) (pa_cons (pv 2) (pa_cons (pv 3) pa_nil))))))
      pss_never), _, rfl, _, rfl, _, rfl, _, rfl, _, _, _, _, rfl, .inl no⟩
theorem no_bars (T : Txt K mg) : FnOk P w K mg base (L2N.CX P w) 6 T.bars.f T.bars.fd ["land", "place", "week", "name", "thing"] (spAskThing T.C_NoLand T.C_NoPlace T.C_NoWeek T.C_NoName) := by
  have G_need_asked : FnOk P w K mg base (L2N.CX P w) 5 T.need_asked.f T.need_asked.fd ["land", "place", "week", "name"] (spAskB T.C_NoLand T.C_NoPlace T.C_NoWeek T.C_NoName) := both_need_asked T
  refine fun_okN T.bars.F sc_bars (fun vs H Q E h => ?_) (fun cdv A outer s H vs Q E hr h => ?_)
  · obtain ⟨_, _, _, _, _, rfl, _⟩ := h
    rfl
  · obtain ⟨_, _, _, _, _, rfl, no⟩ := h
    exact ⟨_, (pss_cons (ps_expr (pe_callS G_need_asked (hr.mono (by omega)) (by rfl) T.need_asked.g T.need_asked.F.kp T.need_asked.b (fun σ => L2N.passAt (L2N.takes_of rfl rfl rfl rfl) σ) (pa_cons (pv 0) (pa_cons (pv 1) (pa_cons (pv 2) (pa_cons (pv 3) pa_nil))))))
      pss_never), _, rfl, _, rfl, _, rfl, _, rfl, _, _, _, _, rfl, .inl no⟩
theorem no_parting (T : Txt K mg) : FnOk P w K mg base (L2N.CX P w) 6 T.parting.f T.parting.fd ["one", "place_one", "other", "place_other"] (spBothNo T.C_NoLand T.C_NoPlace) := by
  have G_need_places : FnOk P w K mg base (L2N.CX P w) 5 T.need_places.f T.need_places.fd ["one", "place_one", "other", "place_other"] (spBothB T.C_NoLand T.C_NoPlace) := both_need_places T
  refine fun_okN T.parting.F sc_parting (fun vs H Q E h => ?_) (fun cdv A outer s H vs Q E hr h => ?_)
  · obtain ⟨_, _, _, _, rfl, _⟩ := h
    rfl
  · obtain ⟨_, _, _, _, rfl, no⟩ := h
    exact ⟨_, (pss_cons (ps_expr (pe_callS G_need_places (hr.mono (by omega)) (by rfl) T.need_places.g T.need_places.F.kp T.need_places.b (fun σ => L2N.passAt (L2N.takes_of rfl rfl rfl rfl) σ) (pa_cons (pv 0) (pa_cons (pv 1) (pa_cons (pv 2) (pa_cons (pv 3) pa_nil))))))
      pss_never), _, rfl, _, rfl, _, rfl, _, rfl, _, _, _, _, rfl, .inl no⟩
theorem no_parts (T : Txt K mg) : FnOk P w K mg base (L2N.CX P w) 6 T.parts.f T.parts.fd ["one", "place_one", "other", "place_other", "thing"] (spBothThing T.C_NoLand T.C_NoPlace) := by
  have G_need_places : FnOk P w K mg base (L2N.CX P w) 5 T.need_places.f T.need_places.fd ["one", "place_one", "other", "place_other"] (spBothB T.C_NoLand T.C_NoPlace) := both_need_places T
  refine fun_okN T.parts.F sc_parts (fun vs H Q E h => ?_) (fun cdv A outer s H vs Q E hr h => ?_)
  · obtain ⟨_, _, _, _, _, rfl, _⟩ := h
    rfl
  · obtain ⟨_, _, _, _, _, rfl, no⟩ := h
    exact ⟨_, (pss_cons (ps_expr (pe_callS G_need_places (hr.mono (by omega)) (by rfl) T.need_places.g T.need_places.F.kp T.need_places.b (fun σ => L2N.passAt (L2N.takes_of rfl rfl rfl rfl) σ) (pa_cons (pv 0) (pa_cons (pv 1) (pa_cons (pv 2) (pa_cons (pv 3) pa_nil))))))
      pss_never), _, rfl, _, rfl, _, rfl, _, rfl, _, _, _, _, rfl, .inl no⟩
theorem no_next_year (T : Txt K mg) : FnOk P w K mg base (L2N.CX P w) 6 T.next_year.f T.next_year.fd ["land", "place", "week", "name", "year"] (spAskYear T.C_NoLand T.C_NoPlace T.C_NoWeek T.C_NoName T.C_NoYear) := by
  have G_need_asked : FnOk P w K mg base (L2N.CX P w) 5 T.need_asked.f T.need_asked.fd ["land", "place", "week", "name"] (spAskB T.C_NoLand T.C_NoPlace T.C_NoWeek T.C_NoName) := both_need_asked T
  have G_need_year : FnOk P w K mg base (L2N.CX P w) 3 T.need_year.f T.need_year.fd ["thing"] (spNumB T.C_NoYear (-1000000000000000000000000000000) 1000000000000000000000000000000) := both_need_year T
  refine fun_okN T.next_year.F sc_next_year (fun vs H Q E h => ?_) (fun cdv A outer s H vs Q E hr h => ?_)
  · obtain ⟨_, _, _, _, _, rfl, _⟩ := h
    rfl
  · obtain ⟨_, _, _, _, _, rfl, h⟩ := h
    refine ⟨_, (pss_cons (ps_expr (pe_callS G_need_asked (hr.mono (by omega)) (by rfl) T.need_asked.g T.need_asked.F.kp T.need_asked.b (fun σ => L2N.passAt (L2N.takes_of rfl rfl rfl rfl) σ) (pa_cons (pv 0) (pa_cons (pv 1) (pa_cons (pv 2) (pa_cons (pv 3) pa_nil))))))
      (pss_cons (ps_expr (pe_callS G_need_year (hr.mono (by omega)) (by rfl) T.need_year.g T.need_year.F.kp T.need_year.b (fun σ => L2N.passAt (L2N.takes_of rfl rfl rfl rfl) σ) (pa_cons (pv 4) pa_nil)))
      pss_never)), ?_⟩
    rcases h with no | ⟨D, T1, B, S, i, k, m, rfl, rfl, rfl, as, b, out⟩
    · exact ⟨_, rfl, _, rfl, _, rfl, _, rfl, _, _, _, _, rfl, .inl no⟩
    · exact ⟨_, rfl, _, rfl, _, rfl, _, rfl, _, _, _, _, rfl, .inr ⟨_, _, _, _, _, _, _, rfl, rfl, rfl, as, fun H1 e1 => ⟨_, rfl, _, rfl, .inl ⟨b.ex e1, out.mono e1⟩⟩⟩⟩
theorem no_how_many (T : Txt K mg) : FnOk P w K mg base (L2N.CX P w) 6 T.how_many.f T.how_many.fd ["land", "place", "week", "name", "first", "last"] (spAskYears T.C_NoLand T.C_NoPlace T.C_NoWeek T.C_NoName T.C_NoYear) := by
  have G_need_asked : FnOk P w K mg base (L2N.CX P w) 5 T.need_asked.f T.need_asked.fd ["land", "place", "week", "name"] (spAskB T.C_NoLand T.C_NoPlace T.C_NoWeek T.C_NoName) := both_need_asked T
  have G_need_years : FnOk P w K mg base (L2N.CX P w) 4 T.need_years.f T.need_years.fd ["first", "last"] (spTwoNo T.C_NoYear) := no2_need_years T
  refine fun_okN T.how_many.F sc_how_many (fun vs H Q E h => ?_) (fun cdv A outer s H vs Q E hr h => ?_)
  · obtain ⟨_, _, _, _, _, _, rfl, _⟩ := h
    rfl
  · obtain ⟨_, _, _, _, _, _, rfl, h⟩ := h
    refine ⟨_, (pss_cons (ps_expr (pe_callS G_need_asked (hr.mono (by omega)) (by rfl) T.need_asked.g T.need_asked.F.kp T.need_asked.b (fun σ => L2N.passAt (L2N.takes_of rfl rfl rfl rfl) σ) (pa_cons (pv 0) (pa_cons (pv 1) (pa_cons (pv 2) (pa_cons (pv 3) pa_nil))))))
      (pss_cons (ps_expr (pe_callS G_need_years (hr.mono (by omega)) (by rfl) T.need_years.g T.need_years.F.kp T.need_years.b (fun σ => L2N.passAt (L2N.takes_of rfl rfl rfl rfl) σ) (pa_cons (pv 4) (pa_cons (pv 5) pa_nil))))
      pss_never)), ?_⟩
    rcases h with no | ⟨D, T1, B, S, i, k, m, rfl, rfl, rfl, as, b, out⟩
    · exact ⟨_, rfl, _, rfl, _, rfl, _, rfl, _, _, _, _, rfl, .inl no⟩
    · exact ⟨_, rfl, _, rfl, _, rfl, _, rfl, _, _, _, _, rfl, .inr ⟨_, _, _, _, _, _, _, rfl, rfl, rfl, as, fun H1 e1 => ⟨_, rfl, _, rfl, _, _, rfl, b.ex e1, out.mono e1⟩⟩⟩
theorem no_next_day (T : Txt K mg) : FnOk P w K mg base (L2N.CX P w) 6 T.next_day.f T.next_day.fd ["one", "place_one", "other", "place_other", "day"] (spBothDay T.C_NoLand T.C_NoPlace T.C_NoDay) := by
  have G_need_places : FnOk P w K mg base (L2N.CX P w) 5 T.need_places.f T.need_places.fd ["one", "place_one", "other", "place_other"] (spBothB T.C_NoLand T.C_NoPlace) := both_need_places T
  have G_need_day : FnOk P w K mg base (L2N.CX P w) 3 T.need_day.f T.need_day.fd ["thing"] (spNumB T.C_NoDay (-1000000000000000000000000000000) 1000000000000000000000000000000) := both_need_day T
  refine fun_okN T.next_day.F sc_next_day (fun vs H Q E h => ?_) (fun cdv A outer s H vs Q E hr h => ?_)
  · obtain ⟨_, _, _, _, _, rfl, _⟩ := h
    rfl
  · obtain ⟨_, _, _, _, _, rfl, h⟩ := h
    refine ⟨_, (pss_cons (ps_expr (pe_callS G_need_places (hr.mono (by omega)) (by rfl) T.need_places.g T.need_places.F.kp T.need_places.b (fun σ => L2N.passAt (L2N.takes_of rfl rfl rfl rfl) σ) (pa_cons (pv 0) (pa_cons (pv 1) (pa_cons (pv 2) (pa_cons (pv 3) pa_nil))))))
      (pss_cons (ps_expr (pe_callS G_need_day (hr.mono (by omega)) (by rfl) T.need_day.g T.need_day.F.kp T.need_day.b (fun σ => L2N.passAt (L2N.takes_of rfl rfl rfl rfl) σ) (pa_cons (pv 4) pa_nil)))
      pss_never)), ?_⟩
    rcases h with no | ⟨D, T1, B, S, i, D', T', B', S', j, rfl, rfl, l, hi, l', hj, b, out⟩
    · exact ⟨_, rfl, _, rfl, _, rfl, _, rfl, _, _, _, _, rfl, .inl no⟩
    · exact ⟨_, rfl, _, rfl, _, rfl, _, rfl, _, _, _, _, rfl, .inr ⟨_, _, _, _, _, _, _, _, _, _, rfl, rfl, l, hi, l', hj, fun H1 e1 => ⟨_, rfl, _, rfl, .inl ⟨b.ex e1, out.mono e1⟩⟩⟩⟩
theorem no_days (T : Txt K mg) : FnOk P w K mg base (L2N.CX P w) 6 T.days.f T.days.fd ["one", "place_one", "other", "place_other", "first", "last"] (spBothDays T.C_NoLand T.C_NoPlace T.C_NoDay) := by
  have G_need_places : FnOk P w K mg base (L2N.CX P w) 5 T.need_places.f T.need_places.fd ["one", "place_one", "other", "place_other"] (spBothB T.C_NoLand T.C_NoPlace) := both_need_places T
  have G_need_days : FnOk P w K mg base (L2N.CX P w) 4 T.need_days.f T.need_days.fd ["first", "last"] (spTwoNo T.C_NoDay) := no2_need_days T
  refine fun_okN T.days.F sc_days (fun vs H Q E h => ?_) (fun cdv A outer s H vs Q E hr h => ?_)
  · obtain ⟨_, _, _, _, _, _, rfl, _⟩ := h
    rfl
  · obtain ⟨_, _, _, _, _, _, rfl, h⟩ := h
    refine ⟨_, (pss_cons (ps_expr (pe_callS G_need_places (hr.mono (by omega)) (by rfl) T.need_places.g T.need_places.F.kp T.need_places.b (fun σ => L2N.passAt (L2N.takes_of rfl rfl rfl rfl) σ) (pa_cons (pv 0) (pa_cons (pv 1) (pa_cons (pv 2) (pa_cons (pv 3) pa_nil))))))
      (pss_cons (ps_expr (pe_callS G_need_days (hr.mono (by omega)) (by rfl) T.need_days.g T.need_days.F.kp T.need_days.b (fun σ => L2N.passAt (L2N.takes_of rfl rfl rfl rfl) σ) (pa_cons (pv 4) (pa_cons (pv 5) pa_nil))))
      pss_never)), ?_⟩
    rcases h with no | ⟨D, T1, B, S, i, D', T', B', S', j, rfl, rfl, l, hi, l', hj, b, out⟩
    · exact ⟨_, rfl, _, rfl, _, rfl, _, rfl, _, _, _, _, rfl, .inl no⟩
    · exact ⟨_, rfl, _, rfl, _, rfl, _, rfl, _, _, _, _, rfl, .inr ⟨_, _, _, _, _, _, _, _, _, _, rfl, rfl, l, hi, l', hj, fun H1 e1 => ⟨_, rfl, _, rfl, _, _, rfl, b.ex e1, out.mono e1⟩⟩⟩
def spPartNo (CL : Addr) : Sp := fun vs H _ E => ∃ v x, vs = [v, x] ∧ ((NoL H v ∧ Out CL E H) ∨ (∃ D T B S, Land H v D T B S ∧ NoL H x ∧ Out CL E H))
theorem no_first_parting (T : Txt K mg) : FnOk P w K mg base (L2N.CX P w) 5 T.first_parting.f T.first_parting.fd ["one", "other"] (spPartNo T.C_NoLand) := by
  have G_need_land : FnOk P w K mg base (L2N.CX P w) 4 T.need_land.f T.need_land.fd ["thing"] (spNeedLandB T.C_NoLand) := both_need_land T
  refine fun_okN T.first_parting.F sc_first_parting (fun vs H Q E h => ?_) (fun cdv A outer s H vs Q E hr h => ?_)
  · obtain ⟨_, _, rfl, _⟩ := h
    rfl
  · obtain ⟨v, x, rfl, h⟩ := h
    refine ⟨_, (pss_cons (ps_expr (pe_callS G_need_land (hr.mono (by omega)) (by rfl) T.need_land.g T.need_land.F.kp T.need_land.b (fun σ => L2N.passAt (L2N.takes_of rfl rfl rfl rfl) σ) (pa_cons (pv 0) pa_nil)))
      (pss_cons (ps_expr (pe_callS G_need_land (hr.mono (by omega)) (by rfl) T.need_land.g T.need_land.F.kp T.need_land.b (fun σ => L2N.passAt (L2N.takes_of rfl rfl rfl rfl) σ) (pa_cons (pv 1) pa_nil)))
      pss_never)), ?_⟩
    rcases h with ⟨no, out⟩ | ⟨D, T1, B, S, l, no, out⟩
    · exact ⟨_, rfl, _, rfl, .inl ⟨no, out⟩⟩
    · exact ⟨_, rfl, _, rfl, .inr ⟨_, _, _, _, l, fun H1 e1 => ⟨_, rfl, _, rfl, .inl ⟨no.ex e1, out.mono e1⟩⟩⟩⟩
theorem no_alike (T : Txt K mg) : FnOk P w K mg base (L2N.CX P w) 6 T.alike.f T.alike.fd ["one", "other"] (spPartNo T.C_NoLand) := by
  have G_first_parting : FnOk P w K mg base (L2N.CX P w) 5 T.first_parting.f T.first_parting.fd ["one", "other"] (spPartNo T.C_NoLand) := no_first_parting T
  refine fun_okN T.alike.F sc_alike (fun vs H Q E h => ?_) (fun cdv A outer s H vs Q E hr h => ?_)
  · obtain ⟨_, _, rfl, _⟩ := h
    rfl
  · obtain ⟨v, x, rfl, h⟩ := h
    exact ⟨_, (pss_one (ps_ret (pe_cmpR op_isN (pe_callS G_first_parting (hr.mono (by omega)) (by rfl) T.first_parting.g T.first_parting.F.kp T.first_parting.b (fun σ => L2N.passAt (L2N.takes_of rfl rfl rfl rfl) σ) (pa_cons (pv 0) (pa_cons (pv 1) pa_nil))) pe_non (nomark _)))), _, rfl, _, rfl, v, x, rfl, h⟩
end

/-! ### things of one's own kind: untold for a call, told again behind it -/
/-- the things at ds are no longer told -/
def less (H : Hp) (ds : List Addr) : Hp := fun b => if b ∈ ds then none else H b
/-- they are told again, as in H -/
def again (H' H : Hp) (ds : List Addr) : Hp := fun b => if b ∈ ds then H b else H' b
def OwnK (H : Hp) (ds : List Addr) : Prop := ∀ b ∈ ds, ∃ φ, H b = some (.ext φ)
section
variable {H H' : Hp} {ds : List Addr} {b : Addr} {o : HO}
theorem less_in (h : b ∈ ds) : less H ds b = none := if_pos h
theorem less_out (h : b ∉ ds) : less H ds b = H b := if_neg h
theorem less_none (e : H b = none) : less H ds b = none := by
  unfold less
  split
  · rfl
  · exact e
theorem again_in (h : b ∈ ds) : again H' H ds b = H b := if_pos h
theorem again_out (h : b ∉ ds) : again H' H ds b = H' b := if_neg h
theorem OwnK.out (own : OwnK H ds) (e : H b = some o) (no : ∀ φ, o ≠ .ext φ) : b ∉ ds := fun z =>
  let ⟨φ, q⟩ := own b z
  no φ (Option.some.inj (e.symm.trans q))
theorem OwnK.stays (own : OwnK H ds) (e : H b = some o) (no : ∀ φ, o ≠ .ext φ) : less H ds b = some o := (less_out (own.out e no)).trans e
variable {P : Program} {w : World} {K : PySem.W.Frag} {mg : Str → Option Value} {base : Heap} {A : Around} {outer : List Env} {s s' : Shared}
theorem env0_less (own : OwnK H ds) (e0 : Env0 P w K mg base A outer s H) : Env0 P w K mg base A outer s (less H ds) := by
  refine ⟨e0.frames, e0.mod, fun b o e => ⟨(e0.bs b o e).1, less_none (e0.bs b o e).2⟩, e0.bsz, e0.funs, fun b hb => less_none (e0.frf b hb), fun a o e => ?_, e0.bare⟩
  have out : a ∉ ds := fun z => by rw [less_in z] at e; cases e
  rw [less_out out] at e
  exact (e0.hok a o e).stay (fun _ _ _ q => q) (fun b q => own.stays q fun φ z => by cases z) fun b xs q => own.stays q fun φ z => by cases z
/-- what stands at ds, and that no frame does -/
theorem env0_own (own : OwnK H ds) (e0 : Env0 P w K mg base A outer s H) (hb : b ∈ ds) : b ∉ frs outer ∧ ∃ ob, s.heap.get? b = some ob := by
  obtain ⟨φ, q⟩ := own b hb
  obtain ⟨_, there, _⟩ := e0.hok b _ q
  exact ⟨fun z => (by rw [e0.frf b z] at q; cases q), there⟩
theorem hok_again (own : OwnK H ds) (e0 : Env0 P w K mg base A outer s H) {G : Heap} (hok : HOk P w H' G) (gone : ∀ b ∈ ds, H' b = none) (kept : ∀ b ∈ ds, ∀ ob, s.heap.get? b = some ob → G.get? b = some ob) : HOk P w (again H' H ds) G := by
  have whole : ∀ b o, H' b = some o → again H' H ds b = some o := fun b o e => (again_out fun z => by rw [gone b z] at e; cases e).trans e
  intro a o e
  by_cases z : a ∈ ds
  · obtain ⟨φ, q⟩ := own a z
    rw [again_in z, q] at e
    cases e
    obtain ⟨p, ⟨ob, there⟩, st⟩ := e0.hok a _ q
    exact ⟨st _ _ p fun u hu => kept a z u hu, ⟨ob, kept a z ob there⟩, st⟩
  · rw [again_out z] at e
    exact (hok a o e).stay (fun _ _ _ q => q) (fun b q => whole b _ q) fun b xs q => whole b _ q
theorem ce_again (own : OwnK H ds) (e0 : Env0 P w K mg base A outer s H) {Q : VK} {u : Value} (c : CE outer P w (less H ds) s (fun v H' => Q v (again H' H ds)) u s') : CE outer P w H s Q u s' := by
  obtain ⟨v, H', os, bare, un, hok, r, q⟩ := c
  have gone : ∀ b ∈ ds, H' b = none := fun b hb => let ⟨ob, there⟩ := (env0_own own e0 hb).2; un.free b ob there (less_in hb) List.not_mem_nil
  have kept : ∀ b ∈ ds, ∀ ob, s.heap.get? b = some ob → s'.heap.get? b = some ob := fun b hb ob there => un.keep b ob there (less_in hb) (env0_own own e0 hb).1 List.not_mem_nil
  have whole : ∀ b o, H' b = some o → again H' H ds b = some o := fun b o e => (again_out fun z => by rw [gone b z] at e; cases e).trans e
  refine ⟨v, again H' H ds, os, bare, ⟨fun b o e n => un.keep b o e (less_none n), fun b o e n => un.slot b o e (less_none n), fun b o e n x => ?_, un.there, fun b xs e => ?_, fun b o u e => ?_, fun b ps e => ?_⟩, hok_again own e0 hok gone kept, r, q⟩
  · by_cases z : b ∈ ds
    · rw [again_in z]
      exact n
    · rw [again_out z]
      exact un.free b o e (less_none n) x
  · exact whole _ _ (un.tups b xs (own.stays e fun φ z => by cases z))
  · exact whole _ _ (un.frzs b o u (own.stays e fun φ z => by cases z))
  · obtain ⟨more, m⟩ := un.tbls b ps (own.stays e fun φ z => by cases z)
    exact ⟨more, whole _ _ m⟩
theorem cx_again (own : OwnK H ds) (e0 : Env0 P w K mg base A outer s H) {E : XK} {u : Value} (c : L2N.CX P w outer (less H ds) s (fun cls d H' => E cls d (again H' H ds)) u s') : L2N.CX P w outer H s E u s' := by
  obtain ⟨a, B, H', cls, d, eu, fl, hok, ub, na, os, bare, q⟩ := c
  have gone : ∀ b ∈ ds, H' b = none := fun b hb => let ⟨ob, there⟩ := (env0_own own e0 hb).2; ub.free b ob there (less_in hb)
  have kept : ∀ b ∈ ds, ∀ ob, s.heap.get? b = some ob → B.get? b = some ob := fun b hb ob there => ub.keep b ob there (less_in hb) (env0_own own e0 hb).1
  have whole : ∀ b o, H' b = some o → again H' H ds b = some o := fun b o e => (again_out fun z => by rw [gone b z] at e; cases e).trans e
  have nota : a ∉ ds := fun z => by
    obtain ⟨_, ob, there⟩ := env0_own own e0 z
    have := kept a z ob there
    rw [fl.2.1] at this
    cases this
  refine ⟨a, B, again H' H ds, cls, d, eu, fl, hok_again own e0 hok gone kept, ⟨fun b o e n => ub.keep b o e (less_none n), ub.slot, fun b o e n => ?_, ub.there, fun b xs e => ?_, fun b o u e => ?_, fun b ps e => ?_⟩, (again_out nota).trans na, os, bare, q⟩
  · by_cases z : b ∈ ds
    · rw [again_in z]
      exact n
    · rw [again_out z]
      exact ub.free b o e (less_none n)
  · exact whole _ _ (ub.tups b xs (own.stays e fun φ z => by cases z))
  · exact whole _ _ (ub.frzs b o u (own.stays e fun φ z => by cases z))
  · obtain ⟨more, m⟩ := ub.tbls b ps (own.stays e fun φ z => by cases z)
    exact ⟨more, whole _ _ m⟩
/-- both ends of a call -/
theorem cr_again (own : OwnK H ds) (e0 : Env0 P w K mg base A outer s H) {Q : VK} {E : XK} {r : Result} (c : CR (L2N.CX P w) outer P w (less H ds) s (fun v H' => Q v (again H' H ds)) (fun cls d H' => E cls d (again H' H ds)) r s') : CR (L2N.CX P w) outer P w H s Q E r s' := by
  match r, c with
  | .ok (.ret u), c => exact ce_again own e0 c
  | .error x, c => exact cx_again own e0 c
end

/-! ### a lambda that outlives the call of the def that made it -/
/-- the lambda at f: its cells are among mc, its code object at c -/
def LamO (q : Str) (params : Arguments) (body : Expr) (scope : Scope) (mc : List (Str × Addr)) (f c : Addr) : HO := .ext fun h => ∃ pm ctv, h.get? f = some (PySem.W.kla_obj "<lambda>" (q ++ "<lambda>") params body scope (cloFrom mc scope.names []) pm c ctv)
/-- the cell at c, as it stands -/
def CellO (c : Addr) (o : Obj) : HO := .ext fun h => h.get? c = some o
/-- it may be called from H: N and σ, the captured names and what they hold; sc, the scope of its maker -/
structure Live (H : Hp) (q : Str) (params : Arguments) (body : Expr) (sc scope : Scope) (mc : List (Str × Addr)) (N : List Str) (σ : L2.St) (f c : Addr) : Prop where
  lam : H f = some (LamO q params body scope mc f c)
  code : H c = some (LamX.CodeO c (q ++ "<lambda>"))
  apart : c ∉ f :: mc.map (·.2)
  cell : ∀ x d, mc.lookup x = some d → ∃ o v, o.data = .cell v ∧ H d = some (CellO d o)
  own : ∀ d ∈ mc.map (·.2), ∃ φ, H d = some (.ext φ)
  inj : ∀ x y d, mc.lookup x = some d → mc.lookup y = some d → x = y
  has : ∀ x, (sc.names.lookup x = some .cell ∨ sc.names.lookup x = some .free) → ∃ d, mc.lookup x = some d
  kind : sc.kind = .function
  say : ∀ (i : Nat) (x : Str) (v : V), N[i]? = some x → σ[i]? = some (some v) → Vis sc x → ∃ u d, RelV v u ∧ (sc.names.lookup x = some .cell ∨ sc.names.lookup x = some .free) ∧ mc.lookup x = some d ∧ ∃ o, o.data = .cell (some u) ∧ H d = some (CellO d o)
  len : σ.length = N.length
/-- what its maker would be, seen from Z -/
def makerOf (Z : Cx) (q : Str) (sc : Scope) (mc : List (Str × Addr)) (N : List Str) : Cx :=
  { Z with env := { Z.env with scope := sc, cells := mc, qual := q }, N := N, A := { Z.A with frames := some Z.outer }, stack := Z.outer, ex := [], fn := fun _ => false, pn := [] }
section
variable {Z : Cx} {pins : List (Addr × Obj)} {σZ σ : L2.St} {H : Hp} {s : Shared} {q : Str} {params : Arguments} {body : Expr} {sc scope : Scope} {mc : List (Str × Addr)} {N : List Str} {f c : Addr}
theorem Live.owns (l : Live H q params body sc scope mc N σ f c) : OwnK H (f :: mc.map (·.2)) := fun b hb => by
  rcases List.mem_cons.mp hb with itself | captured
  · exact ⟨_, itself ▸ l.lam⟩
  · exact l.own b captured
theorem lookup_in {x : Str} {d : Addr} (e : mc.lookup x = some d) : d ∈ mc.map (·.2) := List.mem_map.mpr ⟨_, PySem.mem_of_lookup e, rfl⟩
theorem maker_inv (I : Inv Z pins σZ H s) (noex : Z.ex = []) (l : Live H q params body sc scope mc N σ f c) : Inv (makerOf Z q sc mc N) [] σ (less H (f :: mc.map (·.2))) s := by
  have own := l.owns
  have e0 := env0_less own I.env0
  have un := I.base
  rw [noex] at un
  have isCell : ∀ {d o v}, o.data = .cell v → H d = some (CellO d o) → s.heap.IsCell d v := fun {d o v} dat e => ⟨o, (I.hok d _ e).1, dat⟩
  refine ⟨⟨I.ok.mod, l.kind, I.ok.glob, I.ok.blt, I.ok.above, l.inj, l.has, fun x d z => (by cases z), fun z => I.ok.hd z, rfl, .inl rfl, fun b z => (by cases z), I.ok.bs, I.ok.bsz, fun b o e z => (by cases z), fun b z => (by cases z), I.ok.funs, I.ok.frf⟩, I.os, I.bare, ?base, ?loc, fun x d e => ?_, less_none I.free, fun x d e => less_in (List.mem_cons_of_mem _ (lookup_in e)), fun p z => (by cases z), e0.hok, l.len⟩
  case base => exact ⟨un.keep, un.slot, fun b o e n x => less_none (un.free b o e n x), un.there, fun b xs e => own.stays (un.tups b xs e) (fun φ z => by cases z), fun b o u e => own.stays (un.frzs b o u e) (fun φ z => by cases z), fun b ps e => let ⟨more, m⟩ := un.tbls b ps e; ⟨more, own.stays m fun φ z => by cases z⟩⟩
  case loc =>
    obtain ⟨m, ns, _⟩ := I.loc
    refine ⟨m, ns, fun i x v e1 e2 vis => ?_⟩
    obtain ⟨u, d, r, k, e3, o, dat, e4⟩ := l.say i x v e1 e2 vis
    exact ⟨u, r, .inr ⟨k, d, e3, isCell dat e4⟩⟩
  · obtain ⟨o, v, dat, e4⟩ := l.cell x d e
    exact ⟨_, isCell dat e4⟩
theorem stack_has (I : Inv Z pins σZ H s) {b : Addr} (h : b ∈ frs Z.outer) : b ∈ frs Z.stack := by
  rcases I.ok.stk with z | ⟨z, _⟩
  · rw [z]
    exact h
  · rw [z]
    unfold frs at h ⊢
    rw [List.filterMap_cons]
    split
    · exact h
    · exact List.mem_cons_of_mem _ h
theorem ex_again {H' : Hp} {ds : List Addr} (e : Ex (less H ds) H') : Ex H (again H' H ds) := fun b o h => by
  by_cases z : b ∈ ds
  · rw [again_in z]
    exact h
  · rw [again_out z]
    exact e b o ((less_out z).trans h)
/-- it is called from Z -/
theorem live_runs {Q : VK} {E : XK} {tb : TE} (I : Inv Z pins σZ H s) (noex : Z.ex = []) (calm : Z.calm = true) (L : LamX.LamS sc scope) (l : Live H q params body sc scope mc N σ f c)
    (none_ : ∀ (q : Str) (cl : List (Str × Addr)) (pm cv ctv : Value), bindArgs (PySem.W.kla_fn "<lambda>" q params body scope cl pm cv ctv) ⟨[], []⟩ = pure []) (room : Z.A.depth < recursionLimit)
    (runs : PE (lamN (makerOf Z q sc mc N) Z.A Z.stack s (less H (f :: mc.map (·.2))) (fun cls d H' => E cls d (again H' H (f :: mc.map (·.2)))) scope f c) body tb)
    (h : tb σ (less H (f :: mc.map (·.2))) fun v H' => Q v (again H' H (f :: mc.map (·.2)))) : codeAny (model Z.prog Z.w) Z.A (.call (.ref f) ⟨[], []⟩) (CR (L2N.CX Z.prog Z.w) Z.stack Z.prog Z.w H s Q E) s := by
  have own := l.owns
  have code : less H (f :: mc.map (·.2)) c = some (LamX.CodeO c (q ++ "<lambda>")) := (less_out l.apart).trans l.code
  have at_ : LamAt (makerOf Z q sc mc N) s (less H (f :: mc.map (·.2))) params body scope f c := ⟨(I.hok f _ l.lam).1, less_in (List.mem_cons_self ..), fun z => by
    exact (env0_own own I.env0 (List.mem_cons_self ..)).1 (stack_has I z), code⟩
  have go := lam_runs (X := makerOf Z q sc mc N) (A := Z.A) (outer := Z.stack) (sZ := s) (HZ := less H (f :: mc.map (·.2))) (maker_inv I noex l) L at_ none_ (env0_less own I.env0) (I.ok.hd calm) room Un.refl code runs h
  exact codeAny_mono go fun r t z => cr_again own I.env0 z
end

/-! ### a door: a lambda that refuses, called by the def that tries it -/
/-- the lambda at f refuses by C, from H0 on -/
structure Door (P : Program) (w : World) (K : PySem.W.Frag) (mg : Str → Option Value) (base : Heap) (n : Nat) (C : Addr) (H0 : Hp) (f : Addr) : Prop where
  lam : ∃ q params body scope mc c, H0 f = some (LamO q params body scope mc f c)
  runs : ∀ (Z : Cx) (pins : List (Addr × Obj)) (σZ : L2.St) (H : Hp) (s : Shared), Z.prog = P → Z.w = w → Z.K = K → Z.mg = mg → Z.base = base → Inv Z pins σZ H s → Z.ex = [] → Z.calm = true → Room (n + 1) Z.A → LamX.ExtN H0 H → ∀ (Q : VK) (E : XK), (∀ H', Ex H H' → E (.ref C) none H') →
    codeAny (model Z.prog Z.w) Z.A (.call (.ref f) ⟨[], []⟩) (CR (L2N.CX Z.prog Z.w) Z.stack Z.prog Z.w H s Q E) s
theorem lamO_no {q : Str} {params : Arguments} {body : Expr} {scope : Scope} {mc : List (Str × Addr)} {f c : Addr} (ps : Array Value) : LamO q params body scope mc f c ≠ .tbl ps := fun z => by
  unfold LamO at z
  cases z
theorem Door.ex {P : Program} {w : World} {K : PySem.W.Frag} {mg : Str → Option Value} {base : Heap} {n : Nat} {C f : Addr} {H0 H1 : Hp} (d : Door P w K mg base n C H0 f) (e : LamX.ExtN H0 H1) : Door P w K mg base n C H1 f :=
  ⟨let ⟨q, ps, b, sc, mc, c, h⟩ := d.lam; ⟨q, ps, b, sc, mc, c, e _ _ h lamO_no⟩, fun Z pins σZ H s a1 a2 a3 a4 a5 I x y r e' => d.runs Z pins σZ H s a1 a2 a3 a4 a5 I x y r (e.trans e')⟩
theorem pe_live {Z : Cx} {W : WX} {n i : Nat} {C f : Addr} {H0 : Hp} {a : Str} {p1 p2 : Pos} (D : Door Z.prog Z.w Z.K Z.mg Z.base n C H0 f) (noex : Z.ex = []) (calm : Z.calm = true) (room : Room (n + 1) Z.A) (tk : L2N.Takes Z W)
    (hN : Z.N[i]? = some a) (hv : Vis Z.env.scope a) (hd : (a == ("__debug__" : Str)) = false := by decide) (hcd : (a == ("__classdict__" : Str)) = false := by decide) :
    PE Z (.Call (.Name a p1) [] [] p2) (fun σZ HZ Q => σZ[i]? = some (some (.ref f)) ∧ LamX.ExtN H0 HZ ∧ ∀ H', Ex HZ H' → W (.ref C) none σZ H') := by
  refine ⟨fun pins s σZ HZ Q IZ ⟨slot, ext, out⟩ => wpAny_Call_Name_kw ?_⟩
  have got := (pe_var (pos := p1) hN hv hd hcd).run pins s σZ HZ (fun v H1 => v = .ref f ∧ H1 = HZ) IZ ⟨_, slot, rfl, rfl⟩
  refine thn got fun u s1 ⟨v, H1, I1, r1, ev, eh⟩ => ?_
  subst ev eh
  cases r1
  obtain ⟨q, params, body, scope, mc, c, at_⟩ := D.lam
  obtain ⟨⟨pm, ctv, made⟩, _⟩ := I1.hok f _ (ext _ _ at_ lamO_no)
  refine PySem.W.callWith_F0 ⟨_, _, _, _, made⟩ (wpAny_call ?_)
  refine codeAny_mono (D.runs Z pins σZ H1 s1 rfl rfl rfl rfl rfl I1 noex calm room ext Q (fun cls d H' => W cls d σZ H') out) fun r t e => ?_
  match r, e with
  | .ok (.ret u), e => exact I1.after e
  | .error x, e => exact tk x t (L2N.XE.of_call I1 (fun _ _ _ z => z) e)
section
variable {P : Program} {w : World} {K : PySem.W.Frag} {mg : Str → Option Value} {base : Heap}
def spTryDoor (T : Txt K mg) (P : Program) (w : World) (base : Heap) (n : Nat) : Sp := fun vs H Q _ => ∃ f C b0 b1 b2 b3 b4 b5 b6 b7 b8 b9, vs = [.ref f] ∧ Door P w K mg base n C H f ∧ PySem.W.exmOne K (.ref C) (.ref T.C_YearError) = some true ∧ Kin T C b0 b1 b2 b3 b4 b5 b6 b7 b8 b9 ∧ RetV (.str (kinWord [b0, b1, b2, b3, b4, b5, b6, b7, b8, b9])) H Q
theorem try_door (T : Txt K mg) (n : Nat) : FnOk P w K mg base CX0 (n + 2) T._law_try.f T._law_try.fd ["door"] (spTryDoor T P w base n) := by
  refine T._law_try.F.ok sc__law_try (fun vs H Q E h => ?_) (fun cdv A outer s H vs Q E hr h => ?_)
  · obtain ⟨_, _, _, _, _, _, _, _, _, _, _, _, rfl, _⟩ := h
    rfl
  · obtain ⟨f, C, b0, b1, b2, b3, b4, b5, b6, b7, b8, b9, rfl, door, em, kin0, q⟩ := h
    refine ⟨_, PSs.nox (pss_cons (ps_set (i := 1) sc__law_try.nd rfl (Or.inl rfl) pe_non) (pss_cons (L2N.ps_try_as (i := 2) rfl rfl sc__law_try.nd rfl rfl ⟨rfl, by decide, .inl T.g_YearError⟩ takes_none
      (fun W pn xe tk _ => pss_one (ps_set (i := 1) sc__law_try.nd rfl (Or.inl rfl) (pe_tup (pa_cons pe_str (pa_cons (pe_live door rfl rfl ?room tk (i := 0) rfl (.inl rfl)) pa_nil)))))
      (fun a oe cls d pn zn fl => pss_one (ps_set (i := 1) sc__law_try.nd rfl (Or.inl rfl) (show PE _ _ (fun σ H Q => σ[2]? = some (some (V.ref a)) ∧ Caught T Q cls d H) from pe_told (Y := (cxOf CX0 P w K mg base ["door", "found", "e"] "_law_try" (defScope s__law_try) T._law_try.f cdv A outer s H E).nox.suite a ((a, oe) :: pn)) (e := "e") (p := (a, oe)) (k := 0) (i := 2) (R := fun H Q => Caught T Q cls d H) T._law_kin.F sc__law_kin T._law_kin.b ?hot (List.mem_cons_self ..) ?roomH rfl T._law_kin.g rfl (.inl rfl) ?kin)))) (pss_one (ps_ret (pv 1))))), ?rd⟩
    case room => exact hr
    case hot =>
      obtain ⟨vs, ev⟩ := fl
      exact ⟨rfl, vs, ev, zn.2.2 vs ev⟩
    case roomH =>
      have r := (L2H.roomH_of hr).mono (show 0 + 1 ≤ n + 1 by omega)
      exact ⟨r.dp, r.un⟩
    case kin =>
      rintro cd A outer s' H' Q' hot _ ⟨D, b0, b1, b2, b3, b4, b5, b6, b7, b8, b9, rfl, rfl, _, kin, q⟩
      exact kin_runs T kin hot zn.zc q
    case rd =>
      refine ⟨rfl, LamX.ExtN.refl H, fun H1 e1 => ⟨true, em, fun _ a na => ⟨rfl, C, b0, b1, b2, b3, b4, b5, b6, b7, b8, b9, rfl, rfl, em, kin0, fun H2 e2 => ⟨_, rfl, q H2 (e1.trans e2)⟩⟩, fun z => by cases z⟩⟩
end

/-! ### a lambda made, and told from now on -/
section
variable {X : Cx} {s : Shared} {σ : L2.St} {H : Hp} {pins : List (Addr × Obj)}
/-- its object is laid last -/
theorem lam_laid {q : Str} {params : Arguments} {body : Expr} {scope : Scope} {c : Addr} {pm ctv : Value} {t' : Nat} (I : Inv X pins σ H s) :
    Inv X pins σ (upd H s.heap.objs.size (LamO q params body scope X.env.cells s.heap.objs.size c)) { s with heap := s.heap.push (PySem.W.kla_obj "<lambda>" (q ++ "<lambda>") params body scope (cloFrom X.env.cells scope.names []) pm c ctv), toks := t' } :=
  I.laid (fun _ _ e => Heap.get?_push_of_some _ e) (Nat.le_refl _) ⟨⟨pm, ctv, Heap.get?_push_size _ rfl⟩, ⟨_, Heap.get?_push_size _ rfl⟩, fun _ _ ⟨p1, c1, e⟩ st => ⟨p1, c1, st _ e⟩⟩
theorem tab_more {P c : Addr} {q : Str} {ps : Array Value} {pos : Pos} (hP : H P = some (.tbl ps)) (new : H c = none) (ok : TriplesOk ps.toList) (all : ∀ (p' : Pos) (cv : Value), codeAmong p' ps.toList = some cv → ∃ d, cv = .ref d ∧ H d = some (LamX.CodeO d q)) :
    LamX.ExtN H (upd (upd H P (.tbl (ps ++ #[rawInt pos.line, rawInt pos.col, .ref c]))) c (LamX.CodeO c q)) ∧ LamX.TabS (upd (upd H P (.tbl (ps ++ #[rawInt pos.line, rawInt pos.col, .ref c]))) c (LamX.CodeO c q)) P q := by
  have Pc : P ≠ c := ne_of_none hP new
  have ext : LamX.ExtN H (upd (upd H P (.tbl (ps ++ #[rawInt pos.line, rawInt pos.col, .ref c]))) c (LamX.CodeO c q)) := fun b o e no => by
    have b1 : b ≠ c := ne_of_none e new
    have b2 : b ≠ P := fun z => by
      rw [z, hP] at e
      exact no ps (Option.some.inj e).symm
    rw [upd_ne b1, upd_ne b2, e]
  have row : (ps ++ #[rawInt pos.line, rawInt pos.col, .ref c]).toList = ps.toList ++ [rawInt pos.line, rawInt pos.col, .ref c] := Array.toList_append
  refine ⟨ext, _, (upd_ne Pc).trans upd_same, row ▸ PySem.TriplesOk_snoc _ _ _ _ ok, fun p' cv found => ?_⟩
  rw [row] at found
  rcases LamX.among_app _ ok found with old | this
  · obtain ⟨d, e1, e2⟩ := all p' cv old
    exact ⟨d, e1, ext d _ e2 LamX.codeO_ne⟩
  · exact ⟨c, this, upd_same⟩
theorem tabs_more {cs : List (Addr × Str)} {P c : Addr} {q : Str} {ps : Array Value} {pos : Pos} (hP : H P = some (.tbl ps)) (new : H c = none) (ok : TriplesOk ps.toList) (all : ∀ (p' : Pos) (cv : Value), codeAmong p' ps.toList = some cv → ∃ d, cv = .ref d ∧ H d = some (LamX.CodeO d q))
    (one : ∀ p ∈ cs, p.1 = P → p.2 = q) (tabs : LamX.Tabs cs H) : LamX.Tabs cs (upd (upd H P (.tbl (ps ++ #[rawInt pos.line, rawInt pos.col, .ref c]))) c (LamX.CodeO c q)) := fun p hp => by
  obtain ⟨ext, own⟩ := tab_more (pos := pos) hP new ok all
  by_cases z : p.1 = P
  · rw [z, one p hp z]
    exact own
  · obtain ⟨ps', e, ok', all'⟩ := tabs p hp
    refine ⟨ps', ?_, ok', fun p' cv found => ?_⟩
    · rw [upd_ne (ne_of_none e new), upd_ne z, e]
    · obtain ⟨d, e1, e2⟩ := all' p' cv found
      exact ⟨d, e1, ext d _ e2 LamX.codeO_ne⟩
theorem Tabs.ex {cs : List (Addr × Str)} {H' : Hp} (t : LamX.Tabs cs H) (e : Ex H H') : LamX.Tabs cs H' := fun p hp => (t p hp).ext e
/-- (lambda: body), told in H -/
theorem pe_lam {cs : List (Addr × Str)} {P c : Addr} {params : Arguments} {body : Expr} {scope : Scope} {pos : Pos} (TB : LamX.TabB X.base X.mg c P) (hcode : X.env.code = .ref c) (L : LamX.LamS X.env.scope scope) (hdef : defaultsOf params X.env = ([], [])) (mem : (P, X.env.qual ++ "<lambda>") ∈ cs) (one : ∀ p ∈ cs, p.1 = P → p.2 = X.env.qual ++ "<lambda>") :
    PE X (.Lambda params body scope pos) (fun _ H Q => LamX.Tabs cs H ∧ ∀ (f d : Addr) (H1 : Hp), H f = none → LamX.ExtN H H1 → LamX.Tabs cs H1 → H1 f = some (LamO X.env.qual params body scope X.env.cells f d) → H1 d = some (LamX.CodeO d (X.env.qual ++ "<lambda>")) → d ≠ f → Q (.ref f) H1) := by
  refine ⟨fun pins s σ H Q I ⟨tabs0, h⟩ => PySem.W.kla_eval hdef ?_⟩
  obtain ⟨ps, hP, ok, all⟩ := tabs0 _ mem
  have clo := closure_ok (L.has I.ok)
  have gl := I.mod.glob.keeps I.bk
  have bP := TB.bm.keeps I.bk
  have cP := TB.code.keeps I.bk
  have tP : s.heap.get? P = some { cls := .none, data := .fields ps } := I.hok P _ hP
  have fin : ∀ {H1 : Hp} {s1 : Shared} {d : Addr} {pm ctv : Value} {t' : Nat}, Inv X pins σ H1 s1 → s.heap.objs.size ≤ s1.heap.objs.size → LamX.ExtN H H1 → LamX.Tabs cs H1 → H1 d = some (LamX.CodeO d (X.env.qual ++ "<lambda>")) →
      EP X pins σ Q (.ref s1.heap.objs.size) { s1 with heap := s1.heap.push (PySem.W.kla_obj "<lambda>" (X.env.qual ++ "<lambda>") params body scope (cloFrom X.env.cells scope.names []) pm d ctv), toks := t' } := fun {H1 s1 d pm ctv t'} I1 le ext tab code => by
    have fresh := I1.hok.fresh (Nat.le_refl s1.heap.objs.size)
    have x := Ex.new (o := LamO X.env.qual params body scope X.env.cells s1.heap.objs.size d) fresh
    exact ⟨.ref s1.heap.objs.size, _, lam_laid I1, rfl, h _ d _ (I.hok.fresh le) (ext.trans (LamX.ExtN.of x)) (Tabs.ex tab x) upd_same (x _ _ code) (ne_of_none code fresh)⟩
  cases found : codeAmong pos ps.toList with
  | none =>
    refine PySem.W.kla_makeFunction clo I.ok.glob gl hcode cP tP ok found TB.gP bP fun d ctv h' tk keep ge lt rec tab => ?_
    obtain ⟨_, oc, vs, t, e2, e3, e4, e5⟩ := rec
    cases e2
    obtain ⟨ext, _⟩ := tab_more (pos := pos) hP (I.hok.fresh ge) ok all
    have tabs := tabs_more (pos := pos) hP (I.hok.fresh ge) ok all one tabs0
    exact fin (s1 := { s with heap := h', toks := tk }) (LamX.inv_table I hP (fun b o ne e => keep b o ne e) tab ge ⟨oc, vs, t, e3, e4, e5⟩) (Nat.le_trans ge (Nat.le_of_lt lt)) ext tabs upd_same
  | some cv =>
    obtain ⟨d, rfl, code⟩ := all pos cv found
    exact PySem.W.kla_makeFunctionHit clo I.ok.glob gl hcode cP tP ok found bP fun ctv h' tk keep le => fin (s1 := { s with heap := h', toks := tk }) (I.kept keep) le (LamX.ExtN.refl H) tabs0 code
end

/-! ### the cells of a def, told: at its end, or while it calls -/
def told (H : Hp) (ds : List Addr) (val : Addr → Obj) : Hp := fun b => if b ∈ ds then some (CellO b (val b)) else H b
theorem told_in {H : Hp} {ds : List Addr} {val : Addr → Obj} {b : Addr} (h : b ∈ ds) : told H ds val b = some (CellO b (val b)) := if_pos h
theorem told_out {H : Hp} {ds : List Addr} {val : Addr → Obj} {b : Addr} (h : b ∉ ds) : told H ds val b = H b := if_neg h
theorem told_more {H : Hp} {ds : List Addr} {val : Addr → Obj} {b : Addr} {o : HO} (gone : ∀ d ∈ ds, H d = none) (e : H b = some o) : told H ds val b = some o := (told_out fun z => by rw [gone b z] at e; cases e).trans e
theorem told_hok {P : Program} {w : World} {H : Hp} {h : Heap} {ds : List Addr} {val : Addr → Obj} (hok : HOk P w H h) (gone : ∀ d ∈ ds, H d = none) (at_ : ∀ d ∈ ds, h.get? d = some (val d)) : HOk P w (told H ds val) h := fun b o e => by
  by_cases z : b ∈ ds
  · rw [told_in z] at e
    cases e
    exact ⟨at_ b z, ⟨_, at_ b z⟩, fun _ _ e1 st => st _ e1⟩
  · rw [told_out z] at e
    exact (hok b o e).stay (fun _ _ _ q => q) (fun d q => told_more gone q) fun d xs q => told_more gone q
/-- what is known of the cells of a def -/
structure Cells (sc : Scope) (mc : List (Str × Addr)) (N : List Str) (σ : L2.St) (H : Hp) (val : Addr → Obj) : Prop where
  gone : ∀ d ∈ mc.map (·.2), H d = none
  inj : ∀ x y d, mc.lookup x = some d → mc.lookup y = some d → x = y
  has : ∀ x, (sc.names.lookup x = some .cell ∨ sc.names.lookup x = some .free) → ∃ d, mc.lookup x = some d
  kind : sc.kind = .function
  data : ∀ x d, mc.lookup x = some d → ∃ v, (val d).data = .cell v
  say : ∀ (i : Nat) (x : Str) (y : V), N[i]? = some x → σ[i]? = some (some y) → sc.names.lookup x = some .cell → ∃ d u, mc.lookup x = some d ∧ (val d).data = .cell (some u) ∧ RelV y u
  len : σ.length = N.length
def objAt (h : Heap) (d : Addr) : Obj := match h.get? d with
  | some o => o
  | none => ⟨.none, none, .cell none, #[]⟩
theorem objAt_of {h : Heap} {d : Addr} {o : Obj} (e : h.get? d = some o) : objAt h d = o := by
  unfold objAt
  rw [e]
/-- each cell has a name -/
def Named (mc : List (Str × Addr)) : Prop := ∀ d ∈ mc.map (·.2), ∃ x, mc.lookup x = some d
theorem named_cells {n : Nat} : ∀ {names : List (Str × NameKind)} {acc : List (Str × Addr)} {k : Nat}, k = n → Named acc → (∀ y ∈ names, acc.lookup y.1 = none) → (names.map (·.1)).Nodup → Named (cellsFrom k names acc) := by
  intro names
  induction names generalizing n with
  | nil => intro acc k _ h _ _; exact h
  | cons y rest ih =>
    intro acc k _ h out nd
    obtain ⟨x, kd⟩ := y
    rw [cellsFrom.eq_2]
    rw [List.map_cons, List.nodup_cons] at nd
    split
    · refine ih rfl (fun d hd => ?_) (fun y hy => ?_) nd.2
      · rw [List.map_cons, List.mem_cons] at hd
        rcases hd with rfl | hd
        · exact ⟨x, by rw [List.lookup_cons, beq_self_eq_true]⟩
        · obtain ⟨y, hy⟩ := h d hd
          refine ⟨y, ?_⟩
          have : (y == x) = false := by
            cases z : y == x with
            | false => rfl
            | true =>
              have := out (x, kd) (List.mem_cons_self ..)
              rw [eq_of_beq z] at hy
              rw [hy] at this
              cases this
          rw [List.lookup_cons, this]
          exact hy
      · have : (y.1 == x) = false := by
          cases z : y.1 == x with
          | false => rfl
          | true => exact absurd (List.mem_map.mpr ⟨y, hy, eq_of_beq z⟩) nd.1
        rw [List.lookup_cons, this]
        exact out y (List.mem_cons_of_mem _ hy)
    · exact ih rfl h (fun y hy => out y (List.mem_cons_of_mem _ hy)) nd.2
theorem named_of {n : Nat} {sc : Scope} (nd : (sc.names.map (·.1)).Nodup) : Named (cellsFrom n sc.names []) := named_cells rfl (fun d hd => by cases hd) (fun _ _ => rfl) nd
section
variable {X : Cx} {σ : L2.St} {H : Hp} {pins : List (Addr × Obj)} {s : Shared}
theorem cells_at (I : Inv X pins σ H s) (nm : Named X.env.cells) : ∀ d ∈ X.env.cells.map (·.2), s.heap.get? d = some (objAt s.heap d) := fun d hd => by
  obtain ⟨x, look⟩ := nm d hd
  obtain ⟨v, o, e, _⟩ := I.cell x d look
  rw [objAt_of e, e]
theorem cells_of (I : Inv X pins σ H s) (nm : Named X.env.cells) : Cells X.env.scope X.env.cells X.N σ H (objAt s.heap) := by
  refine ⟨fun d hd => let ⟨x, look⟩ := nm d hd; I.freeC x d look, I.ok.inj, I.ok.has, I.ok.kind, fun x d look => ?_, fun i x y hN hv k => ?_, I.len⟩
  · obtain ⟨v, o, e, dat⟩ := I.cell x d look
    exact ⟨v, by rw [objAt_of e, dat]⟩
  · obtain ⟨m, _, all⟩ := I.loc
    obtain ⟨u, r, look⟩ := all i x y hN hv (.inr (.inl k))
    rcases look with ⟨no, _⟩ | ⟨_, d, e, o, there, dat⟩
    · have no : X.env.scope.names.lookup x = some .local := no
      rw [k] at no
      cases no
    · exact ⟨d, u, e, by rw [objAt_of there, dat], r⟩
/-- at its end -/
theorem ce_cells {Q : VK} {u : Value} {v : V} (I : Inv X pins σ H s) (noex : X.ex = []) (fn : ∀ x, X.fn x = true) (nm : Named X.env.cells) (r : RelV v u) (q : Q v (told H (X.env.cells.map (·.2)) (objAt s.heap))) : CE X.outer X.prog X.w X.H_0 X.s_0 Q u s := by
  have un := I.base
  rw [noex] at un
  have gone := (cells_of I nm).gone
  refine ⟨v, _, I.os, I.bare, ⟨un.keep, un.slot, fun b o e n x => ?_, un.there, fun b xs e => told_more gone (un.tups b xs e), fun b o u e => told_more gone (un.frzs b o u e), fun b ps e => let ⟨more, m⟩ := un.tbls b ps e; ⟨more, told_more gone m⟩⟩, told_hok I.hok gone (cells_at I nm), r, q⟩
  have out : b ∉ X.env.cells.map (·.2) := fun z => by
    obtain ⟨y, look⟩ := nm b z
    exact Nat.lt_irrefl _ (Nat.lt_of_lt_of_le (Heap.lt_size e) (I.ok.cab y b (fn y) look))
  exact (told_out out).trans (un.free b o e n x)
end
/-- what a lambda needs of it -/
def masked : List Bool → L2.St → L2.St
  | [], _ => []
  | _ :: _, [] => []
  | b :: bs, v :: vs => (if b then v else none) :: masked bs vs
theorem masked_get : ∀ {bs : List Bool} {σ : L2.St} {i : Nat} {y : V}, (masked bs σ)[i]? = some (some y) → bs[i]? = some true ∧ σ[i]? = some (some y)
  | [], _, i, y, h => by cases h
  | _ :: _, [], i, y, h => by cases h
  | b :: bs, v :: vs, 0, y, h => by
    cases b with
    | true => exact ⟨rfl, h⟩
    | false => cases h
  | b :: bs, v :: vs, i + 1, y, h => masked_get (bs := bs) (σ := vs) h
theorem masked_len : ∀ {bs : List Bool} {σ : L2.St}, bs.length = σ.length → (masked bs σ).length = σ.length
  | [], [], _ => rfl
  | b :: bs, v :: vs, h => by
    show (masked bs vs).length + 1 = vs.length + 1
    rw [masked_len (Nat.succ.inj h)]
def maskOk (sc : Scope) : List Str → List Bool → Bool
  | [], [] => true
  | x :: xs, b :: bs => (!b || sc.names.lookup x == some .cell) && maskOk sc xs bs
  | _, _ => false
theorem maskOk_get {sc : Scope} : ∀ {N : List Str} {bs : List Bool} {i : Nat} {x : Str}, maskOk sc N bs = true → bs[i]? = some true → N[i]? = some x → sc.names.lookup x = some .cell
  | [], [], i, x, _, h, _ => by cases h
  | _ :: _, b :: bs, 0, x, h, h1, h2 => by
    cases h1
    cases h2
    unfold maskOk at h
    rw [Bool.and_eq_true] at h
    exact eq_of_beq h.1
  | x :: xs, b :: bs, i + 1, y, h, h1, h2 => by
    unfold maskOk at h
    rw [Bool.and_eq_true] at h
    exact maskOk_get h.2 h1 h2
theorem maskOk_len {sc : Scope} : ∀ {N : List Str} {bs : List Bool}, maskOk sc N bs = true → bs.length = N.length
  | [], [], _ => rfl
  | x :: xs, b :: bs, h => by
    unfold maskOk at h
    rw [Bool.and_eq_true] at h
    show bs.length + 1 = xs.length + 1
    rw [maskOk_len h.2]
/-- a lambda over the told cells lives -/
theorem live_of {H : Hp} {q : Str} {params : Arguments} {body : Expr} {sc scope : Scope} {mc : List (Str × Addr)} {N : List Str} {σ : L2.St} {f c : Addr} {val : Addr → Obj} {bs : List Bool} (k : Cells sc mc N σ H val) (ok : maskOk sc N bs = true)
    (lam : H f = some (LamO q params body scope mc f c)) (code : H c = some (LamX.CodeO c (q ++ "<lambda>"))) (ne : c ≠ f) : Live (told H (mc.map (·.2)) val) q params body sc scope mc N (masked bs σ) f c := by
  have cin : ∀ {x d}, mc.lookup x = some d → told H (mc.map (·.2)) val d = some (CellO d (val d)) := fun {x d} look => told_in (lookup_in look)
  refine ⟨told_more k.gone lam, told_more k.gone code, fun z => ?_, fun x d look => ?_, fun d hd => ⟨_, told_in hd⟩, k.inj, k.has, k.kind, fun i x v hN hv _ => ?_, ?_⟩
  · rcases List.mem_cons.mp z with itself | z
    · exact ne itself
    · have := k.gone c z
      rw [code] at this
      cases this
  · obtain ⟨v, dat⟩ := k.data x d look
    exact ⟨_, v, dat, cin look⟩
  · obtain ⟨on, there⟩ := masked_get hv
    have isC := maskOk_get ok on hN
    obtain ⟨d, u, look, dat, r⟩ := k.say i x v hN there isC
    exact ⟨u, d, r, .inl isC, look, _, dat, cin look⟩
  · rw [masked_len ((maskOk_len ok).trans k.len.symm), k.len]

/-! ### its run -/
/-- statements that end by a return; what the slots hold then is known -/
structure PSsR (X : Cx) (sts : List Stmt) (t : (L2.St → V → Hp → Prop) → L2.St → Hp → Prop) : Prop where
  run : ∀ (pins : List (Addr × Obj)) (s : Shared) (σ : L2.St) (H : Hp) (R : L2.St → V → Hp → Prop), Inv X pins σ H s → t R σ H → wpAny (model X.prog X.w) X.A (execs sts X.env) (fun fl s' => ∃ u v σ' H', fl = .ret u ∧ Inv X pins σ' H' s' ∧ RelV v u ∧ R σ' v H') X.xe s
section
variable {X : Cx} {st : Stmt} {sts : List Stmt}
theorem pssR_cons {t : TS} {u : (L2.St → V → Hp → Prop) → L2.St → Hp → Prop} (h1 : PS X st t) (h2 : PSsR X sts u) : PSsR X (st :: sts) (fun R => t { nx := u R, rt := fun _ _ => False, bk := fun _ _ => False, ct := fun _ _ => False }) := by
  refine ⟨fun pins s σ H R I h => wpAny_execs_cons (thn (h1.run pins s σ H _ I h) fun fl s1 z => ?_)⟩
  cases fl with
  | next =>
    obtain ⟨σ1, H1, I1, z⟩ := z
    exact h2.run pins s1 σ1 H1 R I1 z
  | brk => obtain ⟨_, _, _, z⟩ := z; exact z.elim
  | cont => obtain ⟨_, _, _, z⟩ := z; exact z.elim
  | ret u => obtain ⟨_, _, _, _, _, z⟩ := z; exact z.elim
theorem pssR_ret {e : Expr} {te : TE} {pos : Pos} (he : PE X e te) : PSsR X [.Return (some e) pos] (fun R σ H => te σ H fun v H' => R σ v H') := by
  refine ⟨fun pins s σ H R I h => wpAny_execs_cons ?_⟩
  exact wpAny_Return_some (thn (he.run pins s σ H _ I h) fun u s1 ⟨v, H1, I1, r, q⟩ => ⟨u, v, σ, H1, rfl, I1, r, q⟩)
end
/-- what such a def owes at its return: what follows is asked with the cells told -/
def Leaves (N : List Str) (sc : Scope) (mc : List (Str × Addr)) (Q : VK) : L2.St → V → Hp → Prop := fun σ v H' => ∀ val : Addr → Obj, Cells sc mc N σ H' val → Q v (told H' (mc.map (·.2)) val)
theorem run_leaves {P : Program} {w : World} {K : PySem.W.Frag} {mg : Str → Option Value} {base : Heap} {k : Nat} {f : Addr} {name qual : Str} {params : Arguments} {body : List Stmt} {scope : Scope} {dV kV doc pm cdv ct oc : Value} {an od : Option Addr} {osl : Array (Option Value)} {N ps : List Str}
    (lk : K.lookup f = some ⟨oc, od, .func (PySem.W.fnOf name qual params body scope dV kV doc pm an cdv ct), osl⟩) (code : PySem.W.codeIn K cdv qual = true) (S : FnScope N ps scope) {A : Around} {outer : List Env} {s : Shared} {H : Hp} {args : Args} {us : List Value} {vs : List V} {Q : VK} {E : XK}
    (nd : (scope.names.map (·.1)).Nodup) (hr : Room (k + 1) A) (e0 : Env0 P w K mg base A outer s H) (hb : BindsTo s (PySem.W.fnOf name qual params body scope dV kV doc pm an cdv ct) args (ps.zip us)) (r : Vals vs us) (hl : vs.length = ps.length)
    (walks : Room k (A.deeper (envOfC qual scope s.heap.objs.size f cdv)) → ∃ t, PSsR (cxOf CX0 P w K mg base N qual scope f cdv A outer s H E0) body t ∧ t (Leaves N scope (cellsFrom (s.heap.objs.size + 1) scope.names []) Q) (L2.start N vs) H) :
    codeAny (model P w) A (.call (.ref f) args) (CR CX0 outer P w H s Q E) s := by
  have same : ∀ b o, base.get? b = some o → s.heap.get? b = some o := fun b o e => (e0.bs b o e).1
  have kinds : ((ps.zip us).all fun y => scope.names.lookup y.1 == some .local || scope.names.lookup y.1 == some .cell) = true := List.all_eq_true.mpr fun y hy => by
    rcases S.par y.1 (List.of_mem_zip hy).1 with z | z <;> simp [z]
  refine codeAny_mono (R := fun r t => ∃ u, r = .ok (.ret u) ∧ CE outer P w H s Q u t) ?_ fun r t ⟨u, er, c⟩ => er ▸ c
  refine Att.call_fn (e0.mod.kin.keeps same) (e0.mod.nolimit.keeps same) lk code hr.depth hb kinds (fun s1 entered => ?_) S.co S.gen S.kind
  obtain ⟨t, walk, rd⟩ := walks (hr.deeper _)
  have J := inv_start (CX := CX0) (E := E0) (cd := cdv) S hr.hd e0 hl r entered
  refine wpAny_mono (walk.run [] s1 _ H _ J rd) (fun fl s2 ⟨u, v, σ', H', ef, I', rv, q⟩ => ?_) fun e s2 z => wpAny_mono z (fun _ _ no => (no : False).elim) fun _ _ no => (no : False).elim
  subst ef
  exact ⟨u, rfl, ce_cells I' rfl (fun _ => rfl) (named_of nd) rv (q _ (cells_of I' (named_of nd)))⟩

/-! ### a living lambda whose body refuses is a door -/
section
variable {P : Program} {w : World} {K : PySem.W.Frag} {mg : Str → Option Value} {base : Heap} {n : Nat} {C f c : Addr} {H0 H : Hp} {q : Str} {params : Arguments} {body : Expr} {sc scope : Scope} {mc : List (Str × Addr)} {N : List Str} {σ : L2.St}
theorem Live.extN (l : Live H0 q params body sc scope mc N σ f c) (e : LamX.ExtN H0 H) : Live H q params body sc scope mc N σ f c := by
  have cellE : ∀ {d o}, H0 d = some (CellO d o) → H d = some (CellO d o) := fun {d o} h => e d _ h fun ps z => by
    unfold CellO at z
    cases z
  refine ⟨e _ _ l.lam lamO_no, e _ _ l.code LamX.codeO_ne, l.apart, fun x d h => ?_, fun d h => ?_, l.inj, l.has, l.kind, fun i x v a1 a2 a3 => ?_, l.len⟩
  · obtain ⟨o, v, dat, hu⟩ := l.cell x d h
    exact ⟨o, v, dat, cellE hu⟩
  · obtain ⟨φ, hφ⟩ := l.own d h
    exact ⟨φ, e _ _ hφ fun ps z => by cases z⟩
  · obtain ⟨u, d, r, k, e1, o, dat, e2⟩ := l.say i x v a1 a2 a3
    exact ⟨u, d, r, k, e1, o, dat, cellE e2⟩
theorem door_of {tb : XK → TE} (L : LamX.LamS sc scope) (l : Live H0 q params body sc scope mc N σ f c) (none_ : ∀ (q : Str) (cl : List (Str × Addr)) (pm cv ctv : Value), bindArgs (PySem.W.kla_fn "<lambda>" q params body scope cl pm cv ctv) ⟨[], []⟩ = pure [])
    (runs : ∀ (Z : Cx) (s : Shared) (H : Hp) (E : XK), Z.prog = P → Z.w = w → Z.K = K → Z.mg = mg → Z.base = base → Room (n + 1) Z.A → PE (lamN (makerOf Z q sc mc N) Z.A Z.stack s H E scope f c) body (tb E))
    (no : ∀ (H : Hp) (E : XK) (Q : VK), LamX.ExtN H0 H → (∀ H', Ex (less H (f :: mc.map (·.2))) H' → E (.ref C) none H') → tb E σ (less H (f :: mc.map (·.2))) Q) : Door P w K mg base n C H0 f :=
  ⟨⟨q, params, body, scope, mc, c, l.lam⟩, fun Z pins σZ H s a1 a2 a3 a4 a5 I noex calm room ext Q E out =>
    live_runs I noex calm L (l.extN ext) none_ (L2H.roomH_of room).depth (runs Z s _ _ a1 a2 a3 a4 a5 room) (no H _ _ ext fun H' e => out _ (ex_again e))⟩
end

/-! ### a call while the caller's cells are told -/
section
variable {X : Cx} {σ : L2.St} {H : Hp} {pins : List (Addr × Obj)} {s : Shared}
theorem cell_noframe (I : Inv X pins σ H s) (fn : ∀ x, X.fn x = true) (nm : Named X.env.cells) : ∀ d ∈ X.env.cells.map (·.2), d ∉ frs X.stack := fun d hd z => by
  obtain ⟨x, look⟩ := nm d hd
  rcases List.mem_cons.mp (I.stkSub d z) with e | e
  · obtain ⟨v, o, there, dat⟩ := I.cell x d look
    obtain ⟨m, ns, _⟩ := I.loc
    rw [e] at there
    obtain ⟨o', es, ep, e', dat', _⟩ := ns
    rw [there] at e'
    cases e'
    rw [dat] at dat'
    cases dat'
  · obtain ⟨_, o, there, _⟩ := Heap.FunFrames.mem I.ok.funs e
    exact Nat.lt_irrefl _ (Nat.lt_of_lt_of_le (Heap.lt_size there) (I.ok.cab x d (fn x) look))
theorem env0_told (I : Inv X pins σ H s) (fn : ∀ x, X.fn x = true) (nm : Named X.env.cells) : Env0 X.prog X.w X.K X.mg X.base X.A X.stack s (told H (X.env.cells.map (·.2)) (objAt s.heap)) := by
  have e0 := I.env0
  refine ⟨e0.frames, e0.mod, fun b o e => ⟨(e0.bs b o e).1, (told_out fun z => ?_).trans (e0.bs b o e).2⟩, e0.bsz, e0.funs, fun b hb => (told_out fun z => cell_noframe I fn nm b z hb).trans (e0.frf b hb), told_hok I.hok (cells_of I nm).gone (cells_at I nm), e0.bare⟩
  obtain ⟨x, look⟩ := nm b z
  exact Nat.lt_irrefl _ (Nat.lt_of_lt_of_le (Heap.lt_size (I.ok.bs b o e).1) (I.ok.cab x b (fn x) look))
theorem ce_told {Q : VK} {u : Value} {s' : Shared} (I : Inv X pins σ H s) (fn : ∀ x, X.fn x = true) (nm : Named X.env.cells)
    (c : CE X.stack X.prog X.w (told H (X.env.cells.map (·.2)) (objAt s.heap)) s (fun v H' => (∀ d ∈ X.env.cells.map (·.2), H' d = some (CellO d (objAt s.heap d))) ∧ Q v (less H' (X.env.cells.map (·.2)))) u s') : CE X.stack X.prog X.w H s Q u s' := by
  obtain ⟨v, H', os, bare, un, hok, r, still, q⟩ := c
  have gone := (cells_of I nm).gone
  have own : OwnK H' (X.env.cells.map (·.2)) := fun d hd => ⟨_, still d hd⟩
  refine ⟨v, _, os, bare, ⟨fun b o e n nf x => ?_, fun b o e n f x => ?_, fun b o e n x => ?_, un.there, fun b xs e => ?_, fun b o u e => ?_, fun b ps e => ?_⟩, fun b o e => ?_, r, q⟩
  · by_cases z : b ∈ X.env.cells.map (·.2)
    · have now := (hok b _ (still b z)).1
      rw [now, ← e, cells_at I nm b z]
    · exact un.keep b o e ((told_out z).trans n) nf x
  · exact un.slot b o e ((told_out fun z => cell_noframe I fn nm b z f).trans n) f x
  · by_cases z : b ∈ X.env.cells.map (·.2)
    · exact less_in z
    · exact less_none (un.free b o e ((told_out z).trans n) x)
  · exact own.stays (un.tups b xs (told_more gone e)) fun φ z => by cases z
  · exact own.stays (un.frzs b o u (told_more gone e)) fun φ z => by cases z
  · obtain ⟨more, m⟩ := un.tbls b ps (told_more gone e)
    exact ⟨more, own.stays m fun φ z => by cases z⟩
  · have out : b ∉ X.env.cells.map (·.2) := fun z => by rw [less_in z] at e; cases e
    rw [less_out out] at e
    exact (hok b o e).stay (fun _ _ _ q => q) (fun d q => own.stays q fun φ z => by cases z) fun d xs q => own.stays q fun φ z => by cases z
end
theorem pe_callT {X : Cx} {k : Nat} {f : Addr} {fd : FuncData} {ps : List Str} {sp : Sp} {x : Str} {p pos : Pos} {e : Expr} {es : List Expr} {t : TA} (F : FnOk X.prog X.w X.K X.mg X.base CX0 k f fd ps sp) (hr : Room k X.A) (hg : Gl X x) (hm : X.mg x = some (.ref f)) (kp : PySem.W.keepIn X.K (.ref f) = true) (b : Binds X.K fd ps [])
    (fn : ∀ x, X.fn x = true) (nm : Named X.env.cells) (ha : PA X (e :: es) t) (hdx : (x == ("__debug__" : Str)) = false := by decide) (h2 : starEach (e :: es) X.env = (false, eval e X.env) :: starEach es X.env := by rfl) (h3 : ((backTo pos (starEach es X.env)).any fun x => x.fst) = false := by rfl) :
    PE X (.Call (.Name x p) (e :: es) [] pos) (fun σ H Q => t σ H fun vs H1 => ∀ val : Addr → Obj, Cells X.env.scope X.env.cells X.N σ H1 val →
      sp vs (told H1 (X.env.cells.map (·.2)) val) (fun v H' => (∀ d ∈ X.env.cells.map (·.2), H' d = some (CellO d (val d))) ∧ Q v (less H' (X.env.cells.map (·.2)))) E0) := by
  refine ⟨fun pins s σ H Q I h => wpAny_Call_Name_kw (ld_glob I hg hm ?_ hdx)⟩
  refine PySem.W.callWith_K (h₀ := X.base) I.ok.mod.kin kp (thn (ha.run pos pins s σ H _ I h) fun us s1 ⟨vs, H1, I1, r, q⟩ => ⟨I1.kIn, ?_⟩) h2 h3
  have q' := q _ (cells_of I1 nm)
  have len : us.length = ps.length := r.length ▸ F.len _ _ _ _ q'
  have bound := b s1 us I1.kIn (by rw [List.append_nil]; exact len)
  rw [List.append_nil] at bound
  refine wpAny_call (codeAny_mono (F.run X.A X.stack s1 _ _ us vs _ E0 hr (env0_told I1 fn nm) bound r q') fun r t z => ?_)
  match r, z with
  | .ok (.ret u), z => exact I1.after (ce_told I1 fn nm z)
  | .error x, z => exact (z : False).elim
/-- told and untold -/
theorem ex_told {H H' : Hp} {ds : List Addr} {val : Addr → Obj} (gone : ∀ d ∈ ds, H d = none) (e : Ex (told H ds val) H') : Ex H (less H' ds) := fun b o h => by
  have out : b ∉ ds := fun z => by rw [gone b z] at h; cases h
  exact (less_out out).trans (e b o (told_more gone h))

/-! ### what is refused stays refused -/
/-- tuples and lists stay -/
def Tame (H H' : Hp) : Prop := ∀ b, (∀ xs, H b = some (.tup xs) → H' b = some (.tup xs)) ∧ (∀ xs, H b = some (.lst xs) → H' b = some (.lst xs))
section
variable {H H' H2 : Hp} {v x y z : V} {lo hi : Int}
theorem Tame.of (e : LamX.ExtN H H') : Tame H H' := fun b => ⟨fun xs h => e b _ h (fun ps z => by cases z), fun xs h => e b _ h (fun ps z => by cases z)⟩
theorem Tame.trans (a : Tame H H') (b : Tame H' H2) : Tame H H2 := fun c => ⟨fun xs h => (b c).1 _ ((a c).1 _ h), fun xs h => (b c).2 _ ((a c).2 _ h)⟩
theorem Tame.untold {ds : List Addr} (own : OwnK H ds) : Tame H (less H ds) := fun b => ⟨fun xs h => own.stays h (fun φ z => by cases z), fun xs h => own.stays h (fun φ z => by cases z)⟩
theorem Tame.refl : Tame H H := fun _ => ⟨fun _ h => h, fun _ h => h⟩
theorem Tame.ofEx (e : Ex H H') : Tame H H' := fun b => ⟨fun _ h => e _ _ h, fun _ h => e _ _ h⟩
theorem Dat.tame {k : Kd} (d : Dat H x k) (e : Tame H H') : Dat H' x k := by
  cases d with
  | non => exact .non
  | bl b => exact .bl b
  | int i => exact .int i
  | str x => exact .str x
  | lst h => exact .lst ((e _).2 _ h)
  | tup h => exact .tup ((e _).1 _ h)
theorem Bad.tame (h : Bad H x lo hi) (e : Tame H H') : Bad H' x lo hi := let ⟨k, d, n⟩ := h; ⟨k, d.tame e, n⟩
theorem Land.tame {D T B S : Int} (h : Land H v D T B S) (e : Tame H H') : Land H' v D T B S := let ⟨a, ev, ha, r⟩ := h; ⟨a, ev, (e a).1 _ ha, r⟩
theorem NoTwo.tame (h : NoTwo H lo hi x y) (e : Tame H H') : NoTwo H' lo hi x y := by
  cases h with
  | first b => exact .first (b.tame e)
  | last r b => exact .last r (b.tame e)
  | less r r' l => exact .less r r' l
theorem NoL.tame (h : NoL H v) (e : Tame H H') : NoL H' v := by
  obtain ⟨t, d, pt, no⟩ := h
  refine ⟨t, d.tame e, ?_, ?_⟩
  · rintro a xs rfl ha y hy
    cases d with
    | lst h => rw [(e _).2 _ h] at ha; cases ha
    | tup h =>
      rw [(e _).1 _ h] at ha
      cases ha
      obtain ⟨u, du⟩ := pt _ _ rfl h y hy
      exact ⟨u, du.tame e⟩
  · cases d with
    | non => rfl
    | bl b => rfl
    | int i => rfl
    | str x => rfl
    | lst h => exact landB_lst ((e _).2 _ h)
    | tup h =>
      rw [landB_tup h] at no
      rw [landB_tup ((e _).1 _ h)]
      exact no
/-- the error is C -/
def isC (C : Addr) : XK := fun cls d _ => cls = .ref C ∧ d = none
theorem out_isC {C C' : Addr} {E : XK} (h : Out C' (isC C) H) (o : Out C E H') : Out C' E H' := by
  have := (h H (Ex.refl H)).1
  injection this with e
  subst e
  exact o
theorem isC_out {C : Addr} : Out C (isC C) H := fun _ _ => ⟨rfl, rfl⟩
theorem NoAsk.tame {CL CP CW CN C : Addr} {E : XK} (h : NoAsk CL CP CW CN H (isC C) v x y z) (e : Tame H H') (o : Out C E H') : NoAsk CL CP CW CN H' E v x y z := by
  cases h with
  | land n q => exact .land (n.tame e) (out_isC q o)
  | place l b q => exact .place (l.tame e) (b.tame e) (out_isC q o)
  | week l r b q => exact .week (l.tame e) r (b.tame e) (out_isC q o)
  | name l r r' b q => exact .name (l.tame e) r r' (b.tame e) (out_isC q o)
theorem NoBoth.tame {CL CP C : Addr} {E : XK} (h : NoBoth CL CP H (isC C) v x y z) (e : Tame H H') (o : Out C E H') : NoBoth CL CP H' E v x y z := by
  cases h with
  | land n q => exact .land (n.tame e) (out_isC q o)
  | place l b q => exact .place (l.tame e) (b.tame e) (out_isC q o)
  | other l r n q => exact .other (l.tame e) r (n.tame e) (out_isC q o)
  | there l r l' b q => exact .there (l.tame e) r (l'.tame e) (b.tame e) (out_isC q o)
/-- no land, or no year -/
def NoYr (CL CY : Addr) (H : Hp) (E : XK) (v x : V) : Prop := (NoL H v ∧ Out CL E H) ∨ (∃ D T B S, Land H v D T B S ∧ Bad H x (-1000000000000000000000000000000) 1000000000000000000000000000000 ∧ Out CY E H)
theorem NoYr.tame {CL CY C : Addr} {E : XK} (h : NoYr CL CY H (isC C) v x) (e : Tame H H') (o : Out C E H') : NoYr CL CY H' E v x := by
  rcases h with ⟨n, q⟩ | ⟨D, T, B, S, l, b, q⟩
  · exact .inl ⟨n.tame e, out_isC q o⟩
  · exact .inr ⟨D, T, B, S, l.tame e, b.tame e, out_isC q o⟩
theorem NoYr.longs {CL CY : Addr} {E : XK} (h : NoYr CL CY H E v x) : (NoL H v ∧ Out CL E H) ∨ (∃ D T B S, Land H v D T B S ∧ NoTwo H (-1000000000000000000000000000000) 1000000000000000000000000000000 x y ∧ Out CY E H) := by
  rcases h with q | ⟨D, T, B, S, l, b, q⟩
  · exact .inl q
  · exact .inr ⟨D, T, B, S, l, .first b, q⟩
end
section
variable {P : Program} {w : World} {K : PySem.W.Frag} {mg : Str → Option Value} {base : Heap} {n : Nat} {C f c : Addr} {H0 H : Hp} {q : Str} {params : Arguments} {body : Expr} {sc scope : Scope} {mc : List (Str × Addr)} {N : List Str} {σ : L2.St}
theorem door_tame {tb : XK → TE} (L : LamX.LamS sc scope) (l : Live H0 q params body sc scope mc N σ f c) (none_ : ∀ (q : Str) (cl : List (Str × Addr)) (pm cv ctv : Value), bindArgs (PySem.W.kla_fn "<lambda>" q params body scope cl pm cv ctv) ⟨[], []⟩ = pure [])
    (runs : ∀ (Z : Cx) (s : Shared) (H : Hp) (E : XK), Z.prog = P → Z.w = w → Z.K = K → Z.mg = mg → Z.base = base → Room (n + 1) Z.A → PE (lamN (makerOf Z q sc mc N) Z.A Z.stack s H E scope f c) body (tb E))
    (no : ∀ (H : Hp) (E : XK) (Q : VK), Tame H0 H → Out C E H → tb E σ H Q) : Door P w K mg base n C H0 f :=
  door_of L l none_ runs fun H E Q ext out => no _ E Q ((Tame.of ext).trans (Tame.untold (l.extN ext).owns)) out
/-- a def whose code object is at c -/
def CodeAt (K : PySem.W.Frag) (x : Str) (st : Stmt) (f : Addr) (fd : FuncData) (c : Addr) : Prop := ∃ (oc kV doc pm ct : Value) (od an : Option Addr) (sl : Array (Option Value)), fd = PySem.W.fnOf x x (defArgs st) (defBody st) (defScope st) .none kV doc pm an (.ref c) ct ∧ K.lookup f = some ⟨oc, od, .func fd, sl⟩ ∧ PySem.W.codeIn K (.ref c) x = true
/-- it makes lambdas; their table is at p, one of those at cs -/
structure Maker (K : PySem.W.Frag) (mg : Str → Option Value) (base : Heap) (cs : List (Addr × Str)) (x : Str) (st : Stmt) (f : Addr) (fd : FuncData) : Type where
  c : Addr
  p : Addr
  code : CodeAt K x st f fd c
  tb : LamX.TabB base mg c p
  mem : (p, x ++ ".<locals>." ++ "<lambda>") ∈ cs
  one : ∀ y ∈ cs, y.1 = p → y.2 = x ++ ".<locals>." ++ "<lambda>"
/-- such a def that leaves its cells -/
theorem maker_ok {cs : List (Addr × Str)} {x : Str} {st : Stmt} {fd : FuncData} {ps : List Str} {k : Nat} {sp : Sp} (M : Maker K mg base cs x st f fd) (S : FnScope N ps (defScope st)) (nd : ((defScope st).names.map (·.1)).Nodup) (len : ∀ vs H Q E, sp vs H Q E → vs.length = ps.length)
    (walks : ∀ (A : Around) (outer : List Env) (s : Shared) (H : Hp) (vs : List V) (Q : VK) (E : XK), Room k (A.deeper (envOfC x (defScope st) s.heap.objs.size f (.ref M.c))) → sp vs H Q E →
      ∃ t, PSsR (cxOf CX0 P w K mg base N x (defScope st) f (.ref M.c) A outer s H E0) (defBody st) t ∧ t (Leaves N (defScope st) (cellsFrom (s.heap.objs.size + 1) (defScope st).names []) Q) (L2.start N vs) H) : FnOk P w K mg base CX0 (k + 1) f fd ps sp := by
  obtain ⟨c, p, ⟨oc, kV, doc, pm, ct, od, an, sl, e, lk, cd⟩, tb, mem, one⟩ := M
  subst e
  exact ⟨len, fun A outer s H args us vs Q E hr e0 hb r h => run_leaves lk cd S nd hr e0 hb r (len _ _ _ _ h) fun hr1 => walks A outer s H vs Q E hr1 h⟩
end

/-! ### the three defs that return doors -/
theorem ne_told {H : Hp} {a b : Addr} {o o' : HO} (e : H a = some o) (e' : H b = some o') (ne : o ≠ o') : a ≠ b := fun z => by
  rw [z, e'] at e
  exact ne (Option.some.inj e).symm
/-- all of H stays, and a is new -/
def ExtB (a : Addr) (H H' : Hp) : Prop := ∀ b o, H b = some o → (∀ ps, o ≠ .tbl ps) → b ≠ a ∧ H' b = some o
theorem ExtB.new {a : Addr} {H H' : Hp} {o' : HO} (e : LamX.ExtN H H') (na : H' a = none) : ExtB a H (upd H' a o') := fun b o h no =>
  have ne := ne_of_none (e b o h no) na
  ⟨ne, (upd_ne ne).trans (e b o h no)⟩
theorem ExtB.step {a : Addr} {H H' H2 : Hp} {o' : HO} (x : ExtB a H H') (e : LamX.ExtN H' H2) : ExtB a H (upd H2 a o') := fun b o h no =>
  ⟨(x b o h no).1, (upd_ne (x b o h no).1).trans (e b o (x b o h no).2 no)⟩
theorem ExtB.extN {a : Addr} {H H' : Hp} (x : ExtB a H H') : LamX.ExtN H H' := fun b o h no => (x b o h no).2
theorem tabs_list {cs : List (Addr × Str)} {H : Hp} {l : Addr} {xs ys : List V} (hl : H l = some (.lst xs)) (t : LamX.Tabs cs H) : LamX.Tabs cs (upd H l (.lst ys)) := fun p hp => by
  obtain ⟨ps, hP, ok, all⟩ := t p hp
  refine ⟨ps, (upd_ne (ne_told hP hl fun z => by cases z)).trans hP, ok, fun pos cv h => ?_⟩
  obtain ⟨c, e1, e2⟩ := all pos cv h
  exact ⟨c, e1, (upd_ne (ne_told e2 hl fun z => by unfold LamX.CodeO at z; cases z)).trans e2⟩
/-- a lambda made with this body stands there -/
structure Made (q : Str) (params : Arguments) (body : Expr) (scope : Scope) (mc : List (Str × Addr)) (f d : Addr) (H : Hp) : Prop where
  lam : H f = some (LamO q params body scope mc f d)
  code : H d = some (LamX.CodeO d (q ++ "<lambda>"))
  ne : d ≠ f
section
variable {q : Str} {params : Arguments} {body : Expr} {scope : Scope} {mc : List (Str × Addr)} {f d : Addr} {H H' : Hp}
theorem Made.extN (m : Made q params body scope mc f d H) (e : LamX.ExtN H H') : Made q params body scope mc f d H' := ⟨e _ _ m.lam lamO_no, e _ _ m.code LamX.codeO_ne, m.ne⟩
theorem Made.list {l : Addr} {xs ys : List V} (m : Made q params body scope mc f d H) (hl : H l = some (.lst xs)) : Made q params body scope mc f d (upd H l (.lst ys)) :=
  ⟨(upd_ne (ne_told m.lam hl fun z => by unfold LamO at z; cases z)).trans m.lam, (upd_ne (ne_told m.code hl fun z => by unfold LamX.CodeO at z; cases z)).trans m.code, m.ne⟩
theorem Made.live {sc : Scope} {N : List Str} {σ : L2.St} {val : Addr → Obj} {bs : List Bool} (m : Made q params body scope mc f d H) (k : Cells sc mc N σ H val) (ok : maskOk sc N bs = true) : Live (told H (mc.map (·.2)) val) q params body sc scope mc N (masked bs σ) f d := live_of k ok m.lam m.code m.ne
end
section
variable {P : Program} {w : World} {K : PySem.W.Frag} {mg : Str → Option Value} {base : Heap}
/-- what they owe: a list of doors -/
def Doors (P : Program) (w : World) (K : PySem.W.Frag) (mg : Str → Option Value) (base : Heap) (cs : List (Addr × Str)) (C : Addr) (m : Nat) (H : Hp) (Q : VK) : Prop := ∀ (a : Addr) (fs : List Addr) (H' : Hp), fs.length = m → LamX.ExtN H H' → LamX.Tabs cs H' → H' a = some (.lst (fs.map V.ref)) → (∀ f ∈ fs, Door P w K mg base 6 C H' f) → Q (.ref a) H'
/-- what a door's lambda calls -/
theorem pe_doorCall {Z : Cx} {q : Str} {sc scope : Scope} {mc : List (Str × Addr)} {N : List Str} {s : Shared} {H : Hp} {E : XK} {f c : Addr} {n k : Nat} {g : Addr} {fd : FuncData} {ps : List Str} {sp : Sp} {x : Str} {p pos : Pos} {e : Expr} {es : List Expr} {t : TA} (F : FnOk Z.prog Z.w Z.K Z.mg Z.base (L2N.CX Z.prog Z.w) k g fd ps sp) (room : Room (n + 1) Z.A) (le : k ≤ n)
    (hg : (scope.names.lookup x = some .globalImplicit)) (hm : Z.mg x = some (.ref g)) (kp : PySem.W.keepIn Z.K (.ref g) = true) (b : Binds Z.K fd ps []) (ha : PA (lamN (makerOf Z q sc mc N) Z.A Z.stack s H E scope f c) (e :: es) t) (hdx : (x == ("__debug__" : Str)) = false := by decide) (h2 : ∀ env : Env, starEach (e :: es) env = (false, eval e env) :: starEach es env := by intro _; rfl) (h3 : ∀ env : Env, ((backTo pos (starEach es env)).any fun x => x.fst) = false := by intro _; rfl) :
    PE (lamN (makerOf Z q sc mc N) Z.A Z.stack s H E scope f c) (.Call (.Name x p) (e :: es) [] pos) (tCallS sp (fun _ cls d H2 => E cls d H2) t) :=
  pe_callS (X := lamN (makerOf Z q sc mc N) Z.A Z.stack s H E scope f c) F ((room.deeper _).mono le) hg hm kp b (fun σ => L2N.passAt (lamN_takes (X := makerOf Z q sc mc N)) σ) ha hdx (h2 _) (h3 _)
def spDoorsLand (T : Txt K mg) (P : Program) (w : World) (base : Heap) (cs : List (Addr × Str)) : Sp := fun vs H Q _ => ∃ v x C, vs = [v, x] ∧ LamX.Tabs cs H ∧ NoYr T.C_NoLand T.C_NoYear H (isC C) v x ∧ Doors P w K mg base cs C 4 H Q
def spDoorsWeek (T : Txt K mg) (P : Program) (w : World) (base : Heap) (cs : List (Addr × Str)) : Sp := fun vs H Q _ => ∃ v x y z C, vs = [v, x, y, z] ∧ LamX.Tabs cs H ∧ NoAsk T.C_NoLand T.C_NoPlace T.C_NoWeek T.C_NoName H (isC C) v x y z ∧ Doors P w K mg base cs C 5 H Q
def spDoorsTwo (T : Txt K mg) (P : Program) (w : World) (base : Heap) (cs : List (Addr × Str)) : Sp := fun vs H Q _ => ∃ v x y z C, vs = [v, x, y, z] ∧ LamX.Tabs cs H ∧ NoBoth T.C_NoLand T.C_NoPlace H (isC C) v x y z ∧ Doors P w K mg base cs C 4 H Q

theorem ok__law_by_land (T : Txt K mg) {cs : List (Addr × Str)} (M : Maker K mg base cs "_law_by_land" s__law_by_land T._law_by_land.f T._law_by_land.fd) : FnOk P w K mg base CX0 1 T._law_by_land.f T._law_by_land.fd ["land", "other"] (spDoorsLand T P w base cs) := by
  have N_begin : FnOk P w K mg base (L2N.CX P w) 5 T.begin.f T.begin.fd ["land", "year"] (spByLand T.C_NoLand T.C_NoYear) := no_begin T
  have N_is_long : FnOk P w K mg base (L2N.CX P w) 5 T.is_long.f T.is_long.fd ["land", "year"] (spByLand T.C_NoLand T.C_NoYear) := no_is_long T
  have N_next_long : FnOk P w K mg base (L2N.CX P w) 5 T.next_long.f T.next_long.fd ["land", "year"] (spByLand T.C_NoLand T.C_NoYear) := no_next_long T
  have N_long_years : FnOk P w K mg base (L2N.CX P w) 5 T.long_years.f T.long_years.fd ["land", "first", "last"] (spLongsB T.C_NoLand T.C_NoYear) := no2_long_years T
  refine maker_ok M sc__law_by_land (by decide +kernel) (fun vs H Q E h => ?_) fun A outer s H vs Q E hr h => ?_
  · obtain ⟨_, _, _, rfl, _⟩ := h
    rfl
  obtain ⟨v, x, C, rfl, t0, no, q⟩ := h
  refine ⟨_, pssR_cons (ps_set (i := 2) sc__law_by_land.nd rfl (Or.inl rfl) (pe_lst (pa_cons (pe_lam M.tb rfl (show LamX.LamS (defScope s__law_by_land) _ from LamX.lamS_by (by decide +kernel)) rfl M.mem M.one) pa_nil)))
    (pssR_cons (ps_expr (pe_bm PySem.F.plainAttrs_list PySem.F.slot_list_append PySem.F.type_list_append mt_append (pv 2) (pa_cons (pe_lam M.tb rfl (show LamX.LamS (defScope s__law_by_land) _ from LamX.lamS_by (by decide +kernel)) rfl M.mem M.one) pa_nil)))
    (pssR_cons (ps_expr (pe_bm PySem.F.plainAttrs_list PySem.F.slot_list_append PySem.F.type_list_append mt_append (pv 2) (pa_cons (pe_lam M.tb rfl (show LamX.LamS (defScope s__law_by_land) _ from LamX.lamS_by (by decide +kernel)) rfl M.mem M.one) pa_nil)))
    (pssR_cons (ps_expr (pe_bm PySem.F.plainAttrs_list PySem.F.slot_list_append PySem.F.type_list_append mt_append (pv 2) (pa_cons (pe_lam M.tb rfl (show LamX.LamS (defScope s__law_by_land) _ from LamX.lamS_by (by decide +kernel)) rfl M.mem M.one) pa_nil)))
    (pssR_ret (pv 2))))), ?_⟩
  refine ⟨t0, fun f1 d1 H1 _ e1 t1 l1 c1 m1 => ⟨by show 1 ≤ sizeLine; decide, fun a na => ?_⟩⟩
  have a1 : upd H1 a (.lst [.ref f1]) a = some (.lst [.ref f1]) := upd_same
  have x1 : ExtB a H (upd H1 a (.lst [.ref f1])) := ExtB.new e1 na
  have k1_1 := (Made.mk l1 c1 m1).extN (LamX.ExtN.of (Ex.new (o := .lst [.ref f1]) na))
  have t1 := Tabs.ex t1 (Ex.new (o := .lst [.ref f1]) na)
  clear l1 c1 m1 e1 na
  refine ⟨_, rfl, .inl ⟨rfl, _, sq_of a1⟩, t1, fun f2 d2 H2 _ e2 t2 l2 c2 m2 => ⟨_, _, _, rfl, rfl, e2 _ _ a1 (fun ps z => by cases z), by show 1 < sizeLine; decide, ?_⟩⟩
  have b2 := e2 _ _ a1 (fun ps z => by cases z)
  have a2 : upd H2 a (.lst [.ref f1, .ref f2]) a = some (.lst [.ref f1, .ref f2]) := upd_same
  have x2 : ExtB a H (upd H2 a (.lst [.ref f1, .ref f2])) := x1.step e2
  have k2_1 := (k1_1.extN e2).list (ys := [.ref f1, .ref f2]) b2
  have k2_2 := (Made.mk l2 c2 m2).list (ys := [.ref f1, .ref f2]) b2
  have t2 : LamX.Tabs cs (upd H2 a (.lst [.ref f1, .ref f2])) := tabs_list b2 t2
  clear l2 c2 m2 e2 b2 x1 t1 k1_1
  refine ⟨_, rfl, .inl ⟨rfl, _, sq_of a2⟩, t2, fun f3 d3 H3 _ e3 t3 l3 c3 m3 => ⟨_, _, _, rfl, rfl, e3 _ _ a2 (fun ps z => by cases z), by show 2 < sizeLine; decide, ?_⟩⟩
  have b3 := e3 _ _ a2 (fun ps z => by cases z)
  have a3 : upd H3 a (.lst [.ref f1, .ref f2, .ref f3]) a = some (.lst [.ref f1, .ref f2, .ref f3]) := upd_same
  have x3 : ExtB a H (upd H3 a (.lst [.ref f1, .ref f2, .ref f3])) := x2.step e3
  have k3_1 := (k2_1.extN e3).list (ys := [.ref f1, .ref f2, .ref f3]) b3
  have k3_2 := (k2_2.extN e3).list (ys := [.ref f1, .ref f2, .ref f3]) b3
  have k3_3 := (Made.mk l3 c3 m3).list (ys := [.ref f1, .ref f2, .ref f3]) b3
  have t3 : LamX.Tabs cs (upd H3 a (.lst [.ref f1, .ref f2, .ref f3])) := tabs_list b3 t3
  clear l3 c3 m3 e3 b3 x2 t2 k2_1 k2_2
  refine ⟨_, rfl, .inl ⟨rfl, _, sq_of a3⟩, t3, fun f4 d4 H4 _ e4 t4 l4 c4 m4 => ⟨_, _, _, rfl, rfl, e4 _ _ a3 (fun ps z => by cases z), by show 3 < sizeLine; decide, ?_⟩⟩
  have b4 := e4 _ _ a3 (fun ps z => by cases z)
  have a4 : upd H4 a (.lst [.ref f1, .ref f2, .ref f3, .ref f4]) a = some (.lst [.ref f1, .ref f2, .ref f3, .ref f4]) := upd_same
  have x4 : ExtB a H (upd H4 a (.lst [.ref f1, .ref f2, .ref f3, .ref f4])) := x3.step e4
  have k4_1 := (k3_1.extN e4).list (ys := [.ref f1, .ref f2, .ref f3, .ref f4]) b4
  have k4_2 := (k3_2.extN e4).list (ys := [.ref f1, .ref f2, .ref f3, .ref f4]) b4
  have k4_3 := (k3_3.extN e4).list (ys := [.ref f1, .ref f2, .ref f3, .ref f4]) b4
  have k4_4 := (Made.mk l4 c4 m4).list (ys := [.ref f1, .ref f2, .ref f3, .ref f4]) b4
  have t4 : LamX.Tabs cs (upd H4 a (.lst [.ref f1, .ref f2, .ref f3, .ref f4])) := tabs_list b4 t4
  clear l4 c4 m4 e4 b4 x3 t3 k3_1 k3_2 k3_3
  refine ⟨_, rfl, fun val cells => q a [f1, f2, f3, f4] _ rfl (fun b o h no => told_more cells.gone ((x4.extN) b o h no)) (Tabs.ex t4 fun b o h => told_more cells.gone h) (told_more cells.gone a4) fun f hf => ?_⟩
  have tm0 : Tame H (told (upd H4 a (.lst [.ref f1, .ref f2, .ref f3, .ref f4])) _ val) := (Tame.of x4.extN).trans fun b => ⟨fun xs h => told_more cells.gone h, fun xs h => told_more cells.gone h⟩
  have mk : maskOk (defScope s__law_by_land) ["land", "other", "found"] [true, true, false] = true := by decide +kernel
  simp only [List.mem_cons, List.not_mem_nil, or_false] at hf
  rcases hf with rfl | rfl | rfl | rfl
  · refine door_tame (tb := fun E => tCallS (spByLand T.C_NoLand T.C_NoYear) (fun _ cls d H2 => E cls d H2) (tCons (tVar 0) (tCons (tVar 1) tNil))) (show LamX.LamS (defScope s__law_by_land) _ from LamX.lamS_by (by decide +kernel)) (k4_1.live cells mk) (fun _ _ _ _ _ => rfl) (fun Z s H E h1 h2 h3 h4 h5 room => ?_) fun H' E Q tm out => ?_
    rotate_left
    · exact ⟨_, rfl, _, rfl, v, x, rfl, no.tame (tm0.trans tm) out⟩
    · subst h1 h2 h3 h4 h5
      exact pe_doorCall N_begin room (by decide) rfl T.begin.g T.begin.F.kp T.begin.b (pa_cons (pv 0) (pa_cons (pv 1) pa_nil))
  · refine door_tame (tb := fun E => tCallS (spByLand T.C_NoLand T.C_NoYear) (fun _ cls d H2 => E cls d H2) (tCons (tVar 0) (tCons (tVar 1) tNil))) (show LamX.LamS (defScope s__law_by_land) _ from LamX.lamS_by (by decide +kernel)) (k4_2.live cells mk) (fun _ _ _ _ _ => rfl) (fun Z s H E h1 h2 h3 h4 h5 room => ?_) fun H' E Q tm out => ?_
    rotate_left
    · exact ⟨_, rfl, _, rfl, v, x, rfl, no.tame (tm0.trans tm) out⟩
    · subst h1 h2 h3 h4 h5
      exact pe_doorCall N_is_long room (by decide) rfl T.is_long.g T.is_long.F.kp T.is_long.b (pa_cons (pv 0) (pa_cons (pv 1) pa_nil))
  · refine door_tame (tb := fun E => tCallS (spByLand T.C_NoLand T.C_NoYear) (fun _ cls d H2 => E cls d H2) (tCons (tVar 0) (tCons (tVar 1) tNil))) (show LamX.LamS (defScope s__law_by_land) _ from LamX.lamS_by (by decide +kernel)) (k4_3.live cells mk) (fun _ _ _ _ _ => rfl) (fun Z s H E h1 h2 h3 h4 h5 room => ?_) fun H' E Q tm out => ?_
    rotate_left
    · exact ⟨_, rfl, _, rfl, v, x, rfl, no.tame (tm0.trans tm) out⟩
    · subst h1 h2 h3 h4 h5
      exact pe_doorCall N_next_long room (by decide) rfl T.next_long.g T.next_long.F.kp T.next_long.b (pa_cons (pv 0) (pa_cons (pv 1) pa_nil))
  · refine door_tame (tb := fun E => tCallS (spLongsB T.C_NoLand T.C_NoYear) (fun _ cls d H2 => E cls d H2) (tCons (tVar 0) (tCons (tVar 1) (tCons (tC .non) tNil)))) (show LamX.LamS (defScope s__law_by_land) _ from LamX.lamS_by (by decide +kernel)) (k4_4.live cells mk) (fun _ _ _ _ _ => rfl) (fun Z s H E h1 h2 h3 h4 h5 room => ?_) fun H' E Q tm out => ?_
    rotate_left
    · exact ⟨_, rfl, _, rfl, v, x, _, rfl, (no.tame (tm0.trans tm) out).longs⟩
    · subst h1 h2 h3 h4 h5
      exact pe_doorCall N_long_years room (by decide) rfl T.long_years.g T.long_years.F.kp T.long_years.b (pa_cons (pv 0) (pa_cons (pv 1) (pa_cons pe_non pa_nil)))
theorem ok__law_by_week (T : Txt K mg) {cs : List (Addr × Str)} (M : Maker K mg base cs "_law_by_week" s__law_by_week T._law_by_week.f T._law_by_week.fd) : FnOk P w K mg base CX0 1 T._law_by_week.f T._law_by_week.fd ["land", "place", "week", "name"] (spDoorsWeek T P w base cs) := by
  have N_next_year : FnOk P w K mg base (L2N.CX P w) 6 T.next_year.f T.next_year.fd ["land", "place", "week", "name", "year"] (spAskYear T.C_NoLand T.C_NoPlace T.C_NoWeek T.C_NoName T.C_NoYear) := no_next_year T
  have N_how_many : FnOk P w K mg base (L2N.CX P w) 6 T.how_many.f T.how_many.fd ["land", "place", "week", "name", "first", "last"] (spAskYears T.C_NoLand T.C_NoPlace T.C_NoWeek T.C_NoName T.C_NoYear) := no_how_many T
  have N_lengths : FnOk P w K mg base (L2N.CX P w) 6 T.lengths.f T.lengths.fd ["land", "place", "week", "name"] (spAskNo T.C_NoLand T.C_NoPlace T.C_NoWeek T.C_NoName) := no_lengths T
  have N_barring : FnOk P w K mg base (L2N.CX P w) 6 T.barring.f T.barring.fd ["land", "place", "week", "name"] (spAskNo T.C_NoLand T.C_NoPlace T.C_NoWeek T.C_NoName) := no_barring T
  have N_bars : FnOk P w K mg base (L2N.CX P w) 6 T.bars.f T.bars.fd ["land", "place", "week", "name", "thing"] (spAskThing T.C_NoLand T.C_NoPlace T.C_NoWeek T.C_NoName) := no_bars T
  refine maker_ok M sc__law_by_week (by decide +kernel) (fun vs H Q E h => ?_) fun A outer s H vs Q E hr h => ?_
  · obtain ⟨_, _, _, _, _, rfl, _⟩ := h
    rfl
  obtain ⟨v, x, y, z, C, rfl, t0, no, q⟩ := h
  refine ⟨_, pssR_cons (ps_set (i := 4) sc__law_by_week.nd rfl (Or.inl rfl) (pe_lst (pa_cons (pe_lam M.tb rfl (show LamX.LamS (defScope s__law_by_week) _ from LamX.lamS_by (by decide +kernel)) rfl M.mem M.one) pa_nil)))
    (pssR_cons (ps_expr (pe_bm PySem.F.plainAttrs_list PySem.F.slot_list_append PySem.F.type_list_append mt_append (pv 4) (pa_cons (pe_lam M.tb rfl (show LamX.LamS (defScope s__law_by_week) _ from LamX.lamS_by (by decide +kernel)) rfl M.mem M.one) pa_nil)))
    (pssR_cons (ps_expr (pe_bm PySem.F.plainAttrs_list PySem.F.slot_list_append PySem.F.type_list_append mt_append (pv 4) (pa_cons (pe_lam M.tb rfl (show LamX.LamS (defScope s__law_by_week) _ from LamX.lamS_by (by decide +kernel)) rfl M.mem M.one) pa_nil)))
    (pssR_cons (ps_expr (pe_bm PySem.F.plainAttrs_list PySem.F.slot_list_append PySem.F.type_list_append mt_append (pv 4) (pa_cons (pe_lam M.tb rfl (show LamX.LamS (defScope s__law_by_week) _ from LamX.lamS_by (by decide +kernel)) rfl M.mem M.one) pa_nil)))
    (pssR_cons (ps_expr (pe_bm PySem.F.plainAttrs_list PySem.F.slot_list_append PySem.F.type_list_append mt_append (pv 4) (pa_cons (pe_lam M.tb rfl (show LamX.LamS (defScope s__law_by_week) _ from LamX.lamS_by (by decide +kernel)) rfl M.mem M.one) pa_nil)))
    (pssR_ret (pv 4)))))), ?_⟩
  refine ⟨t0, fun f1 d1 H1 _ e1 t1 l1 c1 m1 => ⟨by show 1 ≤ sizeLine; decide, fun a na => ?_⟩⟩
  have a1 : upd H1 a (.lst [.ref f1]) a = some (.lst [.ref f1]) := upd_same
  have x1 : ExtB a H (upd H1 a (.lst [.ref f1])) := ExtB.new e1 na
  have k1_1 := (Made.mk l1 c1 m1).extN (LamX.ExtN.of (Ex.new (o := .lst [.ref f1]) na))
  have t1 := Tabs.ex t1 (Ex.new (o := .lst [.ref f1]) na)
  clear l1 c1 m1 e1 na
  refine ⟨_, rfl, .inl ⟨rfl, _, sq_of a1⟩, t1, fun f2 d2 H2 _ e2 t2 l2 c2 m2 => ⟨_, _, _, rfl, rfl, e2 _ _ a1 (fun ps z => by cases z), by show 1 < sizeLine; decide, ?_⟩⟩
  have b2 := e2 _ _ a1 (fun ps z => by cases z)
  have a2 : upd H2 a (.lst [.ref f1, .ref f2]) a = some (.lst [.ref f1, .ref f2]) := upd_same
  have x2 : ExtB a H (upd H2 a (.lst [.ref f1, .ref f2])) := x1.step e2
  have k2_1 := (k1_1.extN e2).list (ys := [.ref f1, .ref f2]) b2
  have k2_2 := (Made.mk l2 c2 m2).list (ys := [.ref f1, .ref f2]) b2
  have t2 : LamX.Tabs cs (upd H2 a (.lst [.ref f1, .ref f2])) := tabs_list b2 t2
  clear l2 c2 m2 e2 b2 x1 t1 k1_1
  refine ⟨_, rfl, .inl ⟨rfl, _, sq_of a2⟩, t2, fun f3 d3 H3 _ e3 t3 l3 c3 m3 => ⟨_, _, _, rfl, rfl, e3 _ _ a2 (fun ps z => by cases z), by show 2 < sizeLine; decide, ?_⟩⟩
  have b3 := e3 _ _ a2 (fun ps z => by cases z)
  have a3 : upd H3 a (.lst [.ref f1, .ref f2, .ref f3]) a = some (.lst [.ref f1, .ref f2, .ref f3]) := upd_same
  have x3 : ExtB a H (upd H3 a (.lst [.ref f1, .ref f2, .ref f3])) := x2.step e3
  have k3_1 := (k2_1.extN e3).list (ys := [.ref f1, .ref f2, .ref f3]) b3
  have k3_2 := (k2_2.extN e3).list (ys := [.ref f1, .ref f2, .ref f3]) b3
  have k3_3 := (Made.mk l3 c3 m3).list (ys := [.ref f1, .ref f2, .ref f3]) b3
  have t3 : LamX.Tabs cs (upd H3 a (.lst [.ref f1, .ref f2, .ref f3])) := tabs_list b3 t3
  clear l3 c3 m3 e3 b3 x2 t2 k2_1 k2_2
  refine ⟨_, rfl, .inl ⟨rfl, _, sq_of a3⟩, t3, fun f4 d4 H4 _ e4 t4 l4 c4 m4 => ⟨_, _, _, rfl, rfl, e4 _ _ a3 (fun ps z => by cases z), by show 3 < sizeLine; decide, ?_⟩⟩
  have b4 := e4 _ _ a3 (fun ps z => by cases z)
  have a4 : upd H4 a (.lst [.ref f1, .ref f2, .ref f3, .ref f4]) a = some (.lst [.ref f1, .ref f2, .ref f3, .ref f4]) := upd_same
  have x4 : ExtB a H (upd H4 a (.lst [.ref f1, .ref f2, .ref f3, .ref f4])) := x3.step e4
  have k4_1 := (k3_1.extN e4).list (ys := [.ref f1, .ref f2, .ref f3, .ref f4]) b4
  have k4_2 := (k3_2.extN e4).list (ys := [.ref f1, .ref f2, .ref f3, .ref f4]) b4
  have k4_3 := (k3_3.extN e4).list (ys := [.ref f1, .ref f2, .ref f3, .ref f4]) b4
  have k4_4 := (Made.mk l4 c4 m4).list (ys := [.ref f1, .ref f2, .ref f3, .ref f4]) b4
  have t4 : LamX.Tabs cs (upd H4 a (.lst [.ref f1, .ref f2, .ref f3, .ref f4])) := tabs_list b4 t4
  clear l4 c4 m4 e4 b4 x3 t3 k3_1 k3_2 k3_3
  refine ⟨_, rfl, .inl ⟨rfl, _, sq_of a4⟩, t4, fun f5 d5 H5 _ e5 t5 l5 c5 m5 => ⟨_, _, _, rfl, rfl, e5 _ _ a4 (fun ps z => by cases z), by show 4 < sizeLine; decide, ?_⟩⟩
  have b5 := e5 _ _ a4 (fun ps z => by cases z)
  have a5 : upd H5 a (.lst [.ref f1, .ref f2, .ref f3, .ref f4, .ref f5]) a = some (.lst [.ref f1, .ref f2, .ref f3, .ref f4, .ref f5]) := upd_same
  have x5 : ExtB a H (upd H5 a (.lst [.ref f1, .ref f2, .ref f3, .ref f4, .ref f5])) := x4.step e5
  have k5_1 := (k4_1.extN e5).list (ys := [.ref f1, .ref f2, .ref f3, .ref f4, .ref f5]) b5
  have k5_2 := (k4_2.extN e5).list (ys := [.ref f1, .ref f2, .ref f3, .ref f4, .ref f5]) b5
  have k5_3 := (k4_3.extN e5).list (ys := [.ref f1, .ref f2, .ref f3, .ref f4, .ref f5]) b5
  have k5_4 := (k4_4.extN e5).list (ys := [.ref f1, .ref f2, .ref f3, .ref f4, .ref f5]) b5
  have k5_5 := (Made.mk l5 c5 m5).list (ys := [.ref f1, .ref f2, .ref f3, .ref f4, .ref f5]) b5
  have t5 : LamX.Tabs cs (upd H5 a (.lst [.ref f1, .ref f2, .ref f3, .ref f4, .ref f5])) := tabs_list b5 t5
  clear l5 c5 m5 e5 b5 x4 t4 k4_1 k4_2 k4_3 k4_4
  refine ⟨_, rfl, fun val cells => q a [f1, f2, f3, f4, f5] _ rfl (fun b o h no => told_more cells.gone ((x5.extN) b o h no)) (Tabs.ex t5 fun b o h => told_more cells.gone h) (told_more cells.gone a5) fun f hf => ?_⟩
  have tm0 : Tame H (told (upd H5 a (.lst [.ref f1, .ref f2, .ref f3, .ref f4, .ref f5])) _ val) := (Tame.of x5.extN).trans fun b => ⟨fun xs h => told_more cells.gone h, fun xs h => told_more cells.gone h⟩
  have mk : maskOk (defScope s__law_by_week) ["land", "place", "week", "name", "found"] [true, true, true, true, false] = true := by decide +kernel
  simp only [List.mem_cons, List.not_mem_nil, or_false] at hf
  rcases hf with rfl | rfl | rfl | rfl | rfl
  · refine door_tame (tb := fun E => tCallS (spAskYear T.C_NoLand T.C_NoPlace T.C_NoWeek T.C_NoName T.C_NoYear) (fun _ cls d H2 => E cls d H2) (tCons (tVar 0) (tCons (tVar 1) (tCons (tVar 2) (tCons (tVar 3) (tCons (tC .non) tNil)))))) (show LamX.LamS (defScope s__law_by_week) _ from LamX.lamS_by (by decide +kernel)) (k5_1.live cells mk) (fun _ _ _ _ _ => rfl) (fun Z s H E h1 h2 h3 h4 h5 room => ?_) fun H' E Q tm out => ?_
    rotate_left
    · exact ⟨_, rfl, _, rfl, _, rfl, _, rfl, v, x, y, z, _, rfl, .inl (no.tame (tm0.trans tm) out)⟩
    · subst h1 h2 h3 h4 h5
      exact pe_doorCall N_next_year room (by decide) rfl T.next_year.g T.next_year.F.kp T.next_year.b (pa_cons (pv 0) (pa_cons (pv 1) (pa_cons (pv 2) (pa_cons (pv 3) (pa_cons pe_non pa_nil)))))
  · refine door_tame (tb := fun E => tCallS (spAskYears T.C_NoLand T.C_NoPlace T.C_NoWeek T.C_NoName T.C_NoYear) (fun _ cls d H2 => E cls d H2) (tCons (tVar 0) (tCons (tVar 1) (tCons (tVar 2) (tCons (tVar 3) (tCons (tC .non) (tCons (tC .non) tNil))))))) (show LamX.LamS (defScope s__law_by_week) _ from LamX.lamS_by (by decide +kernel)) (k5_2.live cells mk) (fun _ _ _ _ _ => rfl) (fun Z s H E h1 h2 h3 h4 h5 room => ?_) fun H' E Q tm out => ?_
    rotate_left
    · exact ⟨_, rfl, _, rfl, _, rfl, _, rfl, v, x, y, z, _, _, rfl, .inl (no.tame (tm0.trans tm) out)⟩
    · subst h1 h2 h3 h4 h5
      exact pe_doorCall N_how_many room (by decide) rfl T.how_many.g T.how_many.F.kp T.how_many.b (pa_cons (pv 0) (pa_cons (pv 1) (pa_cons (pv 2) (pa_cons (pv 3) (pa_cons pe_non (pa_cons pe_non pa_nil))))))
  · refine door_tame (tb := fun E => tCallS (spAskNo T.C_NoLand T.C_NoPlace T.C_NoWeek T.C_NoName) (fun _ cls d H2 => E cls d H2) (tCons (tVar 0) (tCons (tVar 1) (tCons (tVar 2) (tCons (tVar 3) tNil))))) (show LamX.LamS (defScope s__law_by_week) _ from LamX.lamS_by (by decide +kernel)) (k5_3.live cells mk) (fun _ _ _ _ _ => rfl) (fun Z s H E h1 h2 h3 h4 h5 room => ?_) fun H' E Q tm out => ?_
    rotate_left
    · exact ⟨_, rfl, _, rfl, _, rfl, _, rfl, v, x, y, z, rfl, no.tame (tm0.trans tm) out⟩
    · subst h1 h2 h3 h4 h5
      exact pe_doorCall N_lengths room (by decide) rfl T.lengths.g T.lengths.F.kp T.lengths.b (pa_cons (pv 0) (pa_cons (pv 1) (pa_cons (pv 2) (pa_cons (pv 3) pa_nil))))
  · refine door_tame (tb := fun E => tCallS (spAskNo T.C_NoLand T.C_NoPlace T.C_NoWeek T.C_NoName) (fun _ cls d H2 => E cls d H2) (tCons (tVar 0) (tCons (tVar 1) (tCons (tVar 2) (tCons (tVar 3) tNil))))) (show LamX.LamS (defScope s__law_by_week) _ from LamX.lamS_by (by decide +kernel)) (k5_4.live cells mk) (fun _ _ _ _ _ => rfl) (fun Z s H E h1 h2 h3 h4 h5 room => ?_) fun H' E Q tm out => ?_
    rotate_left
    · exact ⟨_, rfl, _, rfl, _, rfl, _, rfl, v, x, y, z, rfl, no.tame (tm0.trans tm) out⟩
    · subst h1 h2 h3 h4 h5
      exact pe_doorCall N_barring room (by decide) rfl T.barring.g T.barring.F.kp T.barring.b (pa_cons (pv 0) (pa_cons (pv 1) (pa_cons (pv 2) (pa_cons (pv 3) pa_nil))))
  · refine door_tame (tb := fun E => tCallS (spAskThing T.C_NoLand T.C_NoPlace T.C_NoWeek T.C_NoName) (fun _ cls d H2 => E cls d H2) (tCons (tVar 0) (tCons (tVar 1) (tCons (tVar 2) (tCons (tVar 3) (tCons (tC .non) tNil)))))) (show LamX.LamS (defScope s__law_by_week) _ from LamX.lamS_by (by decide +kernel)) (k5_5.live cells mk) (fun _ _ _ _ _ => rfl) (fun Z s H E h1 h2 h3 h4 h5 room => ?_) fun H' E Q tm out => ?_
    rotate_left
    · exact ⟨_, rfl, _, rfl, _, rfl, _, rfl, v, x, y, z, _, rfl, no.tame (tm0.trans tm) out⟩
    · subst h1 h2 h3 h4 h5
      exact pe_doorCall N_bars room (by decide) rfl T.bars.g T.bars.F.kp T.bars.b (pa_cons (pv 0) (pa_cons (pv 1) (pa_cons (pv 2) (pa_cons (pv 3) (pa_cons pe_non pa_nil)))))
theorem ok__law_by_two (T : Txt K mg) {cs : List (Addr × Str)} (M : Maker K mg base cs "_law_by_two" s__law_by_two T._law_by_two.f T._law_by_two.fd) : FnOk P w K mg base CX0 1 T._law_by_two.f T._law_by_two.fd ["one", "place_one", "other", "place_other"] (spDoorsTwo T P w base cs) := by
  have N_next_day : FnOk P w K mg base (L2N.CX P w) 6 T.next_day.f T.next_day.fd ["one", "place_one", "other", "place_other", "day"] (spBothDay T.C_NoLand T.C_NoPlace T.C_NoDay) := no_next_day T
  have N_days : FnOk P w K mg base (L2N.CX P w) 6 T.days.f T.days.fd ["one", "place_one", "other", "place_other", "first", "last"] (spBothDays T.C_NoLand T.C_NoPlace T.C_NoDay) := no_days T
  have N_parting : FnOk P w K mg base (L2N.CX P w) 6 T.parting.f T.parting.fd ["one", "place_one", "other", "place_other"] (spBothNo T.C_NoLand T.C_NoPlace) := no_parting T
  have N_parts : FnOk P w K mg base (L2N.CX P w) 6 T.parts.f T.parts.fd ["one", "place_one", "other", "place_other", "thing"] (spBothThing T.C_NoLand T.C_NoPlace) := no_parts T
  refine maker_ok M sc__law_by_two (by decide +kernel) (fun vs H Q E h => ?_) fun A outer s H vs Q E hr h => ?_
  · obtain ⟨_, _, _, _, _, rfl, _⟩ := h
    rfl
  obtain ⟨v, x, y, z, C, rfl, t0, no, q⟩ := h
  refine ⟨_, pssR_cons (ps_set (i := 4) sc__law_by_two.nd rfl (Or.inl rfl) (pe_lst (pa_cons (pe_lam M.tb rfl (show LamX.LamS (defScope s__law_by_two) _ from LamX.lamS_by (by decide +kernel)) rfl M.mem M.one) pa_nil)))
    (pssR_cons (ps_expr (pe_bm PySem.F.plainAttrs_list PySem.F.slot_list_append PySem.F.type_list_append mt_append (pv 4) (pa_cons (pe_lam M.tb rfl (show LamX.LamS (defScope s__law_by_two) _ from LamX.lamS_by (by decide +kernel)) rfl M.mem M.one) pa_nil)))
    (pssR_cons (ps_expr (pe_bm PySem.F.plainAttrs_list PySem.F.slot_list_append PySem.F.type_list_append mt_append (pv 4) (pa_cons (pe_lam M.tb rfl (show LamX.LamS (defScope s__law_by_two) _ from LamX.lamS_by (by decide +kernel)) rfl M.mem M.one) pa_nil)))
    (pssR_cons (ps_expr (pe_bm PySem.F.plainAttrs_list PySem.F.slot_list_append PySem.F.type_list_append mt_append (pv 4) (pa_cons (pe_lam M.tb rfl (show LamX.LamS (defScope s__law_by_two) _ from LamX.lamS_by (by decide +kernel)) rfl M.mem M.one) pa_nil)))
    (pssR_ret (pv 4))))), ?_⟩
  refine ⟨t0, fun f1 d1 H1 _ e1 t1 l1 c1 m1 => ⟨by show 1 ≤ sizeLine; decide, fun a na => ?_⟩⟩
  have a1 : upd H1 a (.lst [.ref f1]) a = some (.lst [.ref f1]) := upd_same
  have x1 : ExtB a H (upd H1 a (.lst [.ref f1])) := ExtB.new e1 na
  have k1_1 := (Made.mk l1 c1 m1).extN (LamX.ExtN.of (Ex.new (o := .lst [.ref f1]) na))
  have t1 := Tabs.ex t1 (Ex.new (o := .lst [.ref f1]) na)
  clear l1 c1 m1 e1 na
  refine ⟨_, rfl, .inl ⟨rfl, _, sq_of a1⟩, t1, fun f2 d2 H2 _ e2 t2 l2 c2 m2 => ⟨_, _, _, rfl, rfl, e2 _ _ a1 (fun ps z => by cases z), by show 1 < sizeLine; decide, ?_⟩⟩
  have b2 := e2 _ _ a1 (fun ps z => by cases z)
  have a2 : upd H2 a (.lst [.ref f1, .ref f2]) a = some (.lst [.ref f1, .ref f2]) := upd_same
  have x2 : ExtB a H (upd H2 a (.lst [.ref f1, .ref f2])) := x1.step e2
  have k2_1 := (k1_1.extN e2).list (ys := [.ref f1, .ref f2]) b2
  have k2_2 := (Made.mk l2 c2 m2).list (ys := [.ref f1, .ref f2]) b2
  have t2 : LamX.Tabs cs (upd H2 a (.lst [.ref f1, .ref f2])) := tabs_list b2 t2
  clear l2 c2 m2 e2 b2 x1 t1 k1_1
  refine ⟨_, rfl, .inl ⟨rfl, _, sq_of a2⟩, t2, fun f3 d3 H3 _ e3 t3 l3 c3 m3 => ⟨_, _, _, rfl, rfl, e3 _ _ a2 (fun ps z => by cases z), by show 2 < sizeLine; decide, ?_⟩⟩
  have b3 := e3 _ _ a2 (fun ps z => by cases z)
  have a3 : upd H3 a (.lst [.ref f1, .ref f2, .ref f3]) a = some (.lst [.ref f1, .ref f2, .ref f3]) := upd_same
  have x3 : ExtB a H (upd H3 a (.lst [.ref f1, .ref f2, .ref f3])) := x2.step e3
  have k3_1 := (k2_1.extN e3).list (ys := [.ref f1, .ref f2, .ref f3]) b3
  have k3_2 := (k2_2.extN e3).list (ys := [.ref f1, .ref f2, .ref f3]) b3
  have k3_3 := (Made.mk l3 c3 m3).list (ys := [.ref f1, .ref f2, .ref f3]) b3
  have t3 : LamX.Tabs cs (upd H3 a (.lst [.ref f1, .ref f2, .ref f3])) := tabs_list b3 t3
  clear l3 c3 m3 e3 b3 x2 t2 k2_1 k2_2
  refine ⟨_, rfl, .inl ⟨rfl, _, sq_of a3⟩, t3, fun f4 d4 H4 _ e4 t4 l4 c4 m4 => ⟨_, _, _, rfl, rfl, e4 _ _ a3 (fun ps z => by cases z), by show 3 < sizeLine; decide, ?_⟩⟩
  have b4 := e4 _ _ a3 (fun ps z => by cases z)
  have a4 : upd H4 a (.lst [.ref f1, .ref f2, .ref f3, .ref f4]) a = some (.lst [.ref f1, .ref f2, .ref f3, .ref f4]) := upd_same
  have x4 : ExtB a H (upd H4 a (.lst [.ref f1, .ref f2, .ref f3, .ref f4])) := x3.step e4
  have k4_1 := (k3_1.extN e4).list (ys := [.ref f1, .ref f2, .ref f3, .ref f4]) b4
  have k4_2 := (k3_2.extN e4).list (ys := [.ref f1, .ref f2, .ref f3, .ref f4]) b4
  have k4_3 := (k3_3.extN e4).list (ys := [.ref f1, .ref f2, .ref f3, .ref f4]) b4
  have k4_4 := (Made.mk l4 c4 m4).list (ys := [.ref f1, .ref f2, .ref f3, .ref f4]) b4
  have t4 : LamX.Tabs cs (upd H4 a (.lst [.ref f1, .ref f2, .ref f3, .ref f4])) := tabs_list b4 t4
  clear l4 c4 m4 e4 b4 x3 t3 k3_1 k3_2 k3_3
  refine ⟨_, rfl, fun val cells => q a [f1, f2, f3, f4] _ rfl (fun b o h no => told_more cells.gone ((x4.extN) b o h no)) (Tabs.ex t4 fun b o h => told_more cells.gone h) (told_more cells.gone a4) fun f hf => ?_⟩
  have tm0 : Tame H (told (upd H4 a (.lst [.ref f1, .ref f2, .ref f3, .ref f4])) _ val) := (Tame.of x4.extN).trans fun b => ⟨fun xs h => told_more cells.gone h, fun xs h => told_more cells.gone h⟩
  have mk : maskOk (defScope s__law_by_two) ["one", "place_one", "other", "place_other", "found"] [true, true, true, true, false] = true := by decide +kernel
  simp only [List.mem_cons, List.not_mem_nil, or_false] at hf
  rcases hf with rfl | rfl | rfl | rfl
  · refine door_tame (tb := fun E => tCallS (spBothDay T.C_NoLand T.C_NoPlace T.C_NoDay) (fun _ cls d H2 => E cls d H2) (tCons (tVar 0) (tCons (tVar 1) (tCons (tVar 2) (tCons (tVar 3) (tCons (tC .non) tNil)))))) (show LamX.LamS (defScope s__law_by_two) _ from LamX.lamS_by (by decide +kernel)) (k4_1.live cells mk) (fun _ _ _ _ _ => rfl) (fun Z s H E h1 h2 h3 h4 h5 room => ?_) fun H' E Q tm out => ?_
    rotate_left
    · exact ⟨_, rfl, _, rfl, _, rfl, _, rfl, v, x, y, z, _, rfl, .inl (no.tame (tm0.trans tm) out)⟩
    · subst h1 h2 h3 h4 h5
      exact pe_doorCall N_next_day room (by decide) rfl T.next_day.g T.next_day.F.kp T.next_day.b (pa_cons (pv 0) (pa_cons (pv 1) (pa_cons (pv 2) (pa_cons (pv 3) (pa_cons pe_non pa_nil)))))
  · refine door_tame (tb := fun E => tCallS (spBothDays T.C_NoLand T.C_NoPlace T.C_NoDay) (fun _ cls d H2 => E cls d H2) (tCons (tVar 0) (tCons (tVar 1) (tCons (tVar 2) (tCons (tVar 3) (tCons (tC .non) (tCons (tC .non) tNil))))))) (show LamX.LamS (defScope s__law_by_two) _ from LamX.lamS_by (by decide +kernel)) (k4_2.live cells mk) (fun _ _ _ _ _ => rfl) (fun Z s H E h1 h2 h3 h4 h5 room => ?_) fun H' E Q tm out => ?_
    rotate_left
    · exact ⟨_, rfl, _, rfl, _, rfl, _, rfl, v, x, y, z, _, _, rfl, .inl (no.tame (tm0.trans tm) out)⟩
    · subst h1 h2 h3 h4 h5
      exact pe_doorCall N_days room (by decide) rfl T.days.g T.days.F.kp T.days.b (pa_cons (pv 0) (pa_cons (pv 1) (pa_cons (pv 2) (pa_cons (pv 3) (pa_cons pe_non (pa_cons pe_non pa_nil))))))
  · refine door_tame (tb := fun E => tCallS (spBothNo T.C_NoLand T.C_NoPlace) (fun _ cls d H2 => E cls d H2) (tCons (tVar 0) (tCons (tVar 1) (tCons (tVar 2) (tCons (tVar 3) tNil))))) (show LamX.LamS (defScope s__law_by_two) _ from LamX.lamS_by (by decide +kernel)) (k4_3.live cells mk) (fun _ _ _ _ _ => rfl) (fun Z s H E h1 h2 h3 h4 h5 room => ?_) fun H' E Q tm out => ?_
    rotate_left
    · exact ⟨_, rfl, _, rfl, _, rfl, _, rfl, v, x, y, z, rfl, no.tame (tm0.trans tm) out⟩
    · subst h1 h2 h3 h4 h5
      exact pe_doorCall N_parting room (by decide) rfl T.parting.g T.parting.F.kp T.parting.b (pa_cons (pv 0) (pa_cons (pv 1) (pa_cons (pv 2) (pa_cons (pv 3) pa_nil))))
  · refine door_tame (tb := fun E => tCallS (spBothThing T.C_NoLand T.C_NoPlace) (fun _ cls d H2 => E cls d H2) (tCons (tVar 0) (tCons (tVar 1) (tCons (tVar 2) (tCons (tVar 3) (tCons (tC .non) tNil)))))) (show LamX.LamS (defScope s__law_by_two) _ from LamX.lamS_by (by decide +kernel)) (k4_4.live cells mk) (fun _ _ _ _ _ => rfl) (fun Z s H E h1 h2 h3 h4 h5 room => ?_) fun H' E Q tm out => ?_
    rotate_left
    · exact ⟨_, rfl, _, rfl, _, rfl, _, rfl, v, x, y, z, _, rfl, no.tame (tm0.trans tm) out⟩
    · subst h1 h2 h3 h4 h5
      exact pe_doorCall N_parts room (by decide) rfl T.parts.g T.parts.F.kp T.parts.b (pa_cons (pv 0) (pa_cons (pv 1) (pa_cons (pv 2) (pa_cons (pv 3) (pa_cons pe_non pa_nil)))))
end

/-! ### all doors tell the same word -/
section
variable {P : Program} {w : World} {K : PySem.W.Frag} {mg : Str → Option Value} {base : Heap}
/-- an error of the class C is told by the word wd -/
def Says (T : Txt K mg) (C : Addr) (wd : Str) : Prop := ∃ b0 b1 b2 b3 b4 b5 b6 b7 b8 b9, PySem.W.exmOne K (.ref C) (.ref T.C_YearError) = some true ∧ Kin T C b0 b1 b2 b3 b4 b5 b6 b7 b8 b9 ∧ kinWord [b0, b1, b2, b3, b4, b5, b6, b7, b8, b9] = wd
theorem says_NoLand (T : Txt K mg) : Says T T.C_NoLand "NoLand+" := ⟨true, false, false, false, false, false, false, false, false, true, T.err_NoLand.em, ⟨T.err_NoLand.is, T.ki_NoLand_NoLand, T.ki_NoLand_NoYear, T.ki_NoLand_NoDay, T.ki_NoLand_NoPlace, T.ki_NoLand_NoWeek, T.ki_NoLand_NoName, T.ki_NoLand_NoSeen, T.ki_NoLand_NoNumber, T.ki_NoLand_NothingLeft, T.ki_NoLand_V⟩, by decide +kernel⟩
theorem says_NoYear (T : Txt K mg) : Says T T.C_NoYear "NoYear+" := ⟨false, true, false, false, false, false, false, false, false, true, T.err_NoYear.em, ⟨T.err_NoYear.is, T.ki_NoYear_NoLand, T.ki_NoYear_NoYear, T.ki_NoYear_NoDay, T.ki_NoYear_NoPlace, T.ki_NoYear_NoWeek, T.ki_NoYear_NoName, T.ki_NoYear_NoSeen, T.ki_NoYear_NoNumber, T.ki_NoYear_NothingLeft, T.ki_NoYear_V⟩, by decide +kernel⟩
theorem says_NoDay (T : Txt K mg) : Says T T.C_NoDay "NoDay+" := ⟨false, false, true, false, false, false, false, false, false, true, T.err_NoDay.em, ⟨T.err_NoDay.is, T.ki_NoDay_NoLand, T.ki_NoDay_NoYear, T.ki_NoDay_NoDay, T.ki_NoDay_NoPlace, T.ki_NoDay_NoWeek, T.ki_NoDay_NoName, T.ki_NoDay_NoSeen, T.ki_NoDay_NoNumber, T.ki_NoDay_NothingLeft, T.ki_NoDay_V⟩, by decide +kernel⟩
theorem says_NoPlace (T : Txt K mg) : Says T T.C_NoPlace "NoPlace+" := ⟨false, false, false, true, false, false, false, false, false, true, T.err_NoPlace.em, ⟨T.err_NoPlace.is, T.ki_NoPlace_NoLand, T.ki_NoPlace_NoYear, T.ki_NoPlace_NoDay, T.ki_NoPlace_NoPlace, T.ki_NoPlace_NoWeek, T.ki_NoPlace_NoName, T.ki_NoPlace_NoSeen, T.ki_NoPlace_NoNumber, T.ki_NoPlace_NothingLeft, T.ki_NoPlace_V⟩, by decide +kernel⟩
theorem says_NoWeek (T : Txt K mg) : Says T T.C_NoWeek "NoWeek+" := ⟨false, false, false, false, true, false, false, false, false, true, T.err_NoWeek.em, ⟨T.err_NoWeek.is, T.ki_NoWeek_NoLand, T.ki_NoWeek_NoYear, T.ki_NoWeek_NoDay, T.ki_NoWeek_NoPlace, T.ki_NoWeek_NoWeek, T.ki_NoWeek_NoName, T.ki_NoWeek_NoSeen, T.ki_NoWeek_NoNumber, T.ki_NoWeek_NothingLeft, T.ki_NoWeek_V⟩, by decide +kernel⟩
theorem says_NoName (T : Txt K mg) : Says T T.C_NoName "NoName+" := ⟨false, false, false, false, false, true, false, false, false, true, T.err_NoName.em, ⟨T.err_NoName.is, T.ki_NoName_NoLand, T.ki_NoName_NoYear, T.ki_NoName_NoDay, T.ki_NoName_NoPlace, T.ki_NoName_NoWeek, T.ki_NoName_NoName, T.ki_NoName_NoSeen, T.ki_NoName_NoNumber, T.ki_NoName_NothingLeft, T.ki_NoName_V⟩, by decide +kernel⟩
theorem caught_says {T : Txt K mg} {C : Addr} {wd : Str} {Q : VK} {H : Hp} (s : Says T C wd) (q : RetV (.str wd) H Q) : Caught T Q (.ref C) none H := by
  obtain ⟨b0, b1, b2, b3, b4, b5, b6, b7, b8, b9, em, kin, e⟩ := s
  exact ⟨C, b0, b1, b2, b3, b4, b5, b6, b7, b8, b9, rfl, rfl, em, kin, e ▸ q⟩
def spAllTold (T : Txt K mg) (P : Program) (w : World) (base : Heap) : Sp := fun vs H Q _ => ∃ (a : Addr) (fs : List Addr) (C : Addr) (wd : Str), vs = [.ref a, .str wd] ∧ H a = some (.lst (fs.map V.ref)) ∧ (∀ f ∈ fs, Door P w K mg base 6 C H f) ∧ Says T C wd ∧ RetV (.bl true) H Q
theorem ok__law_all_told (T : Txt K mg) : FnOk P w K mg base CX0 9 T._law_all_told.f T._law_all_told.fd ["doors", "word"] (spAllTold T P w base) := by
  have G__law_try : FnOk P w K mg base CX0 8 T._law_try.f T._law_try.fd ["door"] (spTryDoor T P w base 6) := try_door T 6
  refine T._law_all_told.F.ok sc__law_all_told (fun vs H Q E h => ?_) (fun cdv A outer s H vs Q E hr h => ?_)
  · obtain ⟨_, _, _, _, rfl, _⟩ := h
    rfl
  · obtain ⟨a, fs, C, wd, rfl, ha, doors, says, q⟩ := h
    refine ⟨_, (pss_one (ps_ret (pe_cmpR (op_eqD hr.units) (pe_lc (own := [("door", 2)]) (g := gName 2) (by rfl) sc__law_all_told.nd (pi_list (pv 0)) (blkOk_by (own := [("door", 2)]) (N := ["doors", "word", "door"]) (sc := defScope s__law_all_told) (by decide +kernel)) (fun _ _ _ _ _ => (pg_name (i := 2) sc__law_all_told.nd rfl (Or.inl rfl))) (fun _ _ _ _ _ => (pts_one (pt_cmpR op_ne (pe_call G__law_try (hr.mono (by omega)) (by rfl) T._law_try.g T._law_try.F.kp T._law_try.b .nil pass0 (pa_cons (pv 2) pa_nil)) (pv 1) (nomark _)))) (fun _ _ _ _ _ => (pv 2))) (pe_lst pa_nil) (nomark _)))), ?_⟩
    refine ⟨_, rfl, a, rfl, ⟨_, sq_of ha⟩, fun D hD => ?_⟩
    refine lc_list (xs := fs.map V.ref) (fun i H' => Ex H H' ∧ H' D = some (.lst [])) ⟨Ex.new hD, upd_same⟩ (fun i H' _ p => sq_of (p.1 _ _ ha)) (fun i x H' hi p => ?_) (fun H' p => ?_)
    · rw [List.getElem?_map] at hi
      obtain ⟨f, hf, rfl⟩ := Option.map_eq_some_iff.mp hi
      obtain ⟨b0, b1, b2, b3, b4, b5, b6, b7, b8, b9, em, kin, e⟩ := says
      refine ⟨rfl, _, rfl, f, C, b0, b1, b2, b3, b4, b5, b6, b7, b8, b9, rfl, (doors f (List.mem_of_getElem? hf)).ex (LamX.ExtN.of p.1), em, kin, fun H2 e2 => ⟨_, rfl, rfl, _, rfl, ?_⟩⟩
      exact iteNS (by rw [e]) ⟨p.1.trans e2, e2 _ _ p.2⟩
    · refine ⟨by show 0 ≤ sizeLine; decide, fun p' hp' => ?_⟩
      have e6 := p.1.trans (Ex.new (o := .lst []) hp')
      exact ⟨.list [], .list [], .lst (sq_of (Ex.new (o := .lst []) hp' _ _ p.2)) .nil, .lst (sq_of upd_same) .nil, rfl, rfl, q _ e6⟩
end
/-- _law_try(lambda: body) among several tables -/
theorem pe_tries {X : Cx} {n : Nat} {cs : List (Addr × Str)} (T : Txt X.K X.mg) {params : Arguments} {body : Expr} {scope : Scope} {c p : Addr} {tb : XK → TE} {q lpos pos : Pos} (hg : Gl X "_law_try") (TB : LamX.TabB X.base X.mg c p) (hcode : X.env.code = .ref c) (mem : (p, X.env.qual ++ "<lambda>") ∈ cs) (one : ∀ y ∈ cs, y.1 = p → y.2 = X.env.qual ++ "<lambda>") (hr : Room (n + 2) X.A) (L : LamX.LamS X.env.scope scope)
    (hdef : defaultsOf params X.env = ([], [])) (none_ : ∀ (q : Str) (cl : List (Str × Addr)) (pm cv ctv : Value), bindArgs (PySem.W.kla_fn "<lambda>" q params body scope cl pm cv ctv) ⟨[], []⟩ = pure [])
    (runs : ∀ (f c' : Addr) (A : Around) (outer : List Env) (sZ : Shared) (HZ : Hp) (E : XK), Room n (A.deeper (LamX.lamEnv X scope sZ.heap.objs.size f c')) → PE (lamN X A outer sZ HZ E scope f c') body (tb E)) :
    PE X (.Call (.Name "_law_try" q) [.Lambda params body scope lpos] [] pos) (fun σ H Q => LamX.Tabs cs H ∧ ∀ H1, LamX.ExtN H H1 → LamX.Tabs cs H1 → ∀ (E : XK) (Q' : VK), (∀ cls d H', Caught T Q cls d H' → E cls d H') → (∀ v H', Given Q v H' → Q' v H') → tb E σ H1 Q') := by
  refine ⟨fun pins s σ H Q I ⟨tabs0, h⟩ => wpAny_Call_Name_kw (ld_glob I hg T._law_try.g ?_)⟩
  refine PySem.W.callWith_K (h₀ := X.base) I.ok.mod.kin T._law_try.F.kp (args_cons (LamX.lam_make2 I TB hcode mem one tabs0 hdef (L.has I.ok) fun f c' pm ctv H1 s1 I1 ext tabs made out nofr code => args_nil ⟨I1.kIn, ?_⟩))
  obtain ⟨oc, od, kV, doc, pm', an, cdv, ct, osl, e, lk, cd⟩ := T._law_try.F.ex
  have bound := T._law_try.b s1 [.ref f] I1.kIn rfl
  rw [e] at bound lk
  refine wpAny_call (codeAny_mono (LamX.run_ofS (CX := CX0) (E := E0) (Q := Q) lk cd sc__law_try hr I1.env0 bound (vs := [.ref f]) (.cons rfl .nil) rfl fun hr1 => try_runs T I1 L ⟨⟨pm, ctv, made⟩, out, nofr, code⟩ none_ (runs f c') hr1 (h H1 ext tabs)) fun r t z => ?_)
  match r, z with
  | .ok (.ret u), z => exact I1.after z
  | .error x, z => exact (z : False).elim

/-! ### years and days that are none -/
section
variable {P : Program} {w : World} {K : PySem.W.Frag} {mg : Str → Option Value} {base : Heap}
/-- a def that makes lambdas and tries them -/
theorem maker_run {cs : List (Addr × Str)} {x : Str} {st : Stmt} {f : Addr} {fd : FuncData} {N ps : List Str} {k : Nat} {sp : Sp} (M : Maker K mg base cs x st f fd) (S : FnScope N ps (defScope st)) (len : ∀ vs H Q E, sp vs H Q E → vs.length = ps.length)
    (body : ∀ (A : Around) (outer : List Env) (s : Shared) (H : Hp) (vs : List V) (Q : VK) (E : XK), Room k (A.deeper (envOfC x (defScope st) s.heap.objs.size f (.ref M.c))) → sp vs H Q E →
      ∃ t, PSs (cxOf CX0 P w K mg base N x (defScope st) f (.ref M.c) A outer s H E) (defBody st) t ∧ t { nx := fun _ H' => Q .non H', rt := Q } (L2.start N vs) H) : FnOk P w K mg base CX0 (k + 1) f fd ps sp := by
  obtain ⟨c, p, ⟨oc, kV, doc, pm, ct, od, an, sl, e, lk, cd⟩, tb, mem, one⟩ := M
  subst e
  exact ⟨len, fun A outer s H args us vs Q E hr e0 hb r h => LamX.run_ofS lk cd S hr e0 hb r (len _ _ _ _ h) fun hr1 => body A outer s H vs Q E hr1 h⟩
def badNums : List V := [.non, .bl true, .int 1000000000000000000000000000001, .int (-1000000000000000000000000000001), .str "1"]
theorem badNums_are {x : V} {i : Nat} {H : Hp} (h : badNums[i]? = some x) : Bad H x (-1000000000000000000000000000000) 1000000000000000000000000000000 := by
  match i, h with
  | 0, h => cases h; exact ⟨_, .non, rfl⟩
  | 1, h => cases h; exact ⟨_, .bl true, rfl⟩
  | 2, h => cases h; exact ⟨_, .int _, by decide +kernel⟩
  | 3, h => cases h; exact ⟨_, .int _, by decide +kernel⟩
  | 4, h => cases h; exact ⟨_, .str _, rfl⟩
  | n + 5, h => cases h
/-- what follows an error told by its word, compared with it -/
structure Stay (cs : List (Addr × Str)) (p : Addr) (xs : List V) (H H' : Hp) : Prop where
  lst : H' p = some (.lst xs)
  ext : LamX.ExtN H H'
  tab : LamX.Tabs cs H'
theorem Stay.extN {cs : List (Addr × Str)} {p : Addr} {xs : List V} {H H1 H2 : Hp} (s : Stay cs p xs H H1) (e : LamX.ExtN H1 H2) (t : LamX.Tabs cs H2) : Stay cs p xs H H2 := ⟨e _ _ s.lst (fun ps z => by cases z), s.ext.trans e, t⟩
theorem Stay.ex {cs : List (Addr × Str)} {p : Addr} {xs : List V} {H H1 H2 : Hp} (s : Stay cs p xs H H1) (e : Ex H1 H2) : Stay cs p xs H H2 := s.extN (LamX.ExtN.of e) (Tabs.ex s.tab e)
def spNums (cs : List (Addr × Str)) : Sp := fun vs H Q _ => ∃ v v' D T B S D' T' B' S', vs = [v, v'] ∧ LamX.Tabs cs H ∧ Land H v D T B S ∧ Land H v' D' T' B' S' ∧ ∀ H', LamX.ExtN H H' → LamX.Tabs cs H' → Q (.bl true) H'
theorem ok__law_numbers_right (T : Txt K mg) {cs : List (Addr × Str)} (ML : Maker K mg base cs "_law_by_land" s__law_by_land T._law_by_land.f T._law_by_land.fd) (M : Maker K mg base cs "_law_numbers_right" s__law_numbers_right T._law_numbers_right.f T._law_numbers_right.fd) : FnOk P w K mg base CX0 10 T._law_numbers_right.f T._law_numbers_right.fd ["land", "other"] (spNums cs) := by
  have G__law_all_told : FnOk P w K mg base CX0 9 T._law_all_told.f T._law_all_told.fd ["doors", "word"] (spAllTold T P w base) := ok__law_all_told T
  have G__law_by_land : FnOk P w K mg base CX0 1 T._law_by_land.f T._law_by_land.fd ["land", "other"] (spDoorsLand T P w base cs) := ok__law_by_land T ML
  have N_date : FnOk P w K mg base (L2N.CX P w) 5 T.date.f T.date.fd ["land", "day"] (spByLand T.C_NoLand T.C_NoDay) := no_date T
  have N_next_year : FnOk P w K mg base (L2N.CX P w) 6 T.next_year.f T.next_year.fd ["land", "place", "week", "name", "year"] (spAskYear T.C_NoLand T.C_NoPlace T.C_NoWeek T.C_NoName T.C_NoYear) := no_next_year T
  have N_how_many : FnOk P w K mg base (L2N.CX P w) 6 T.how_many.f T.how_many.fd ["land", "place", "week", "name", "first", "last"] (spAskYears T.C_NoLand T.C_NoPlace T.C_NoWeek T.C_NoName T.C_NoYear) := no_how_many T
  have N_days : FnOk P w K mg base (L2N.CX P w) 6 T.days.f T.days.fd ["one", "place_one", "other", "place_other", "first", "last"] (spBothDays T.C_NoLand T.C_NoPlace T.C_NoDay) := no_days T
  refine maker_run M sc__law_numbers_right (fun vs H Q E h => ?_) fun A outer s H vs Q E hr h => ?_
  · obtain ⟨_, _, _, _, _, _, _, _, _, _, rfl, _⟩ := h
    rfl
  obtain ⟨v, v', D, T1, B, S, D', T', B', S', rfl, t0, l, l', q⟩ := h
  refine ⟨_, PSs.nox (pss_cons (ps_for PassesOwn.never rfl (pi_list (pe_lst (pa_cons pe_non (pa_cons pe_bl (pa_cons (pe_op op_add (pe_op op_pow pe_int pe_int) pe_int) (pa_cons (pe_op op_sub (pe_un un_neg (pe_op op_pow pe_int pe_int)) pe_int) (pa_cons pe_str pa_nil))))))) (pg_name (i := 2) sc__law_numbers_right.nd rfl (Or.inr rfl))
        (pss_cons (ps_if (PW.pt (pw_or (pt_not (pt_val (pe_call G__law_all_told (hr.mono (by omega)) (by rfl) T._law_all_told.g T._law_all_told.F.kp T._law_all_told.b .nil pass0 (pa_cons (pe_call G__law_by_land (hr.mono (by omega)) (by rfl) T._law_by_land.g T._law_by_land.F.kp T._law_by_land.b .nil pass0 (pa_cons (pv 0) (pa_cons (pv 2) pa_nil))) (pa_cons pe_str pa_nil))))) (pw_or1 (pt_cmpR op_ne (pe_tries (n := 6) T (by rfl) M.tb rfl M.mem M.one (hr.mono (by omega)) (show LamX.LamS (defScope s__law_numbers_right) _ from LamX.lamS_by (by decide +kernel)) rfl (fun _ _ _ _ _ => rfl) (fun f c' A outer sZ HZ E hr => (pe_callS N_date (hr.mono (by omega)) (by rfl) T.date.g T.date.F.kp T.date.b (fun σ => L2N.passAt lamN_takes σ) (pa_cons (pv 0) (pa_cons (pv 2) pa_nil))))) pe_str (nomark _)))))
        (pss_one (ps_ret pe_bl))
        pss_nil)
      (pss_cons (ps_if (pt_cmpR op_ne (pe_tries (n := 6) T (by rfl) M.tb rfl M.mem M.one (hr.mono (by omega)) (show LamX.LamS (defScope s__law_numbers_right) _ from LamX.lamS_by (by decide +kernel)) rfl (fun _ _ _ _ _ => rfl) (fun f c' A outer sZ HZ E hr => (pe_callS N_next_year (hr.mono (by omega)) (by rfl) T.next_year.g T.next_year.F.kp T.next_year.b (fun σ => L2N.passAt lamN_takes σ) (pa_cons (pv 0) (pa_cons pe_int (pa_cons pe_int (pa_cons pe_int (pa_cons (pv 2) pa_nil)))))))) pe_str (nomark _))
        (pss_one (ps_ret pe_bl))
        pss_nil)
      (pss_cons (ps_if (pt_cmpR op_ne (pe_tries (n := 6) T (by rfl) M.tb rfl M.mem M.one (hr.mono (by omega)) (show LamX.LamS (defScope s__law_numbers_right) _ from LamX.lamS_by (by decide +kernel)) rfl (fun _ _ _ _ _ => rfl) (fun f c' A outer sZ HZ E hr => (pe_callS N_how_many (hr.mono (by omega)) (by rfl) T.how_many.g T.how_many.F.kp T.how_many.b (fun σ => L2N.passAt lamN_takes σ) (pa_cons (pv 0) (pa_cons pe_int (pa_cons pe_int (pa_cons pe_int (pa_cons pe_int (pa_cons (pv 2) pa_nil))))))))) pe_str (nomark _))
        (pss_one (ps_ret pe_bl))
        pss_nil)
      (pss_cons (ps_if (pt_cmpR op_ne (pe_tries (n := 6) T (by rfl) M.tb rfl M.mem M.one (hr.mono (by omega)) (show LamX.LamS (defScope s__law_numbers_right) _ from LamX.lamS_by (by decide +kernel)) rfl (fun _ _ _ _ _ => rfl) (fun f c' A outer sZ HZ E hr => (pe_callS N_days (hr.mono (by omega)) (by rfl) T.days.g T.days.F.kp T.days.b (fun σ => L2N.passAt lamN_takes σ) (pa_cons (pv 0) (pa_cons pe_int (pa_cons (pv 1) (pa_cons pe_int (pa_cons (pv 2) (pa_cons pe_non pa_nil))))))))) pe_str (nomark _))
        (pss_one (ps_ret pe_bl))
        pss_nil)
      (pss_one (ps_if (pt_cmpR op_ne (pe_tries (n := 6) T (by rfl) M.tb rfl M.mem M.one (hr.mono (by omega)) (show LamX.LamS (defScope s__law_numbers_right) _ from LamX.lamS_by (by decide +kernel)) rfl (fun _ _ _ _ _ => rfl) (fun f c' A outer sZ HZ E hr => (pe_callS N_days (hr.mono (by omega)) (by rfl) T.days.g T.days.F.kp T.days.b (fun σ => L2N.passAt lamN_takes σ) (pa_cons (pv 0) (pa_cons pe_int (pa_cons (pv 1) (pa_cons pe_int (pa_cons pe_int (pa_cons (pv 2) pa_nil))))))))) pe_str (nomark _))
        (pss_one (ps_ret pe_bl))
        pss_nil)))))))
      (pss_cons (ps_if (pt_cmpR op_ne (pe_tries (n := 6) T (by rfl) M.tb rfl M.mem M.one (hr.mono (by omega)) (show LamX.LamS (defScope s__law_numbers_right) _ from LamX.lamS_by (by decide +kernel)) rfl (fun _ _ _ _ _ => rfl) (fun f c' A outer sZ HZ E hr => (pe_callS N_how_many (hr.mono (by omega)) (by rfl) T.how_many.g T.how_many.F.kp T.how_many.b (fun σ => L2N.passAt lamN_takes σ) (pa_cons (pv 0) (pa_cons pe_int (pa_cons pe_int (pa_cons pe_int (pa_cons pe_int (pa_cons pe_int pa_nil))))))))) pe_str (nomark _))
        (pss_one (ps_ret pe_bl))
        pss_nil)
      (pss_one (ps_ret (pe_cmpR op_eq (pe_tries (n := 6) T (by rfl) M.tb rfl M.mem M.one (hr.mono (by omega)) (show LamX.LamS (defScope s__law_numbers_right) _ from LamX.lamS_by (by decide +kernel)) rfl (fun _ _ _ _ _ => rfl) (fun f c' A outer sZ HZ E hr => (pe_callS N_days (hr.mono (by omega)) (by rfl) T.days.g T.days.F.kp T.days.b (fun σ => L2N.passAt lamN_takes σ) (pa_cons (pv 0) (pa_cons pe_int (pa_cons (pv 1) (pa_cons pe_int (pa_cons pe_int (pa_cons pe_int pa_nil))))))))) pe_str (nomark _)))))), ?_⟩
  refine ⟨_, _, rfl, rfl, ⟨by decide, by decide, by decide⟩, _, _, rfl, rfl, _, _, rfl, rfl, ⟨by decide, by decide, by decide⟩, _, rfl, _, _, rfl, rfl, by show 5 ≤ sizeLine; decide, fun p hp => ?_⟩
  have y0 := Ex.new (o := .lst badNums) hp
  have h0 : upd H p (.lst badNums) p = some (.lst badNums) := upd_same
  refine ⟨p, rfl, ⟨_, sq_of h0⟩, ?_⟩
  refine for_list (xs := badNums) (fun i σ H' => (∃ z, σ = [some v, some v', z]) ∧ Stay cs p badNums H H') ⟨⟨_, rfl⟩, h0, LamX.ExtN.of y0, Tabs.ex t0 y0⟩ (fun i σ H' _ h => sq_of h.2.lst) ?_ ?_
  · clear y0 h0
    rintro i x σ H1 hx ⟨⟨z, rfl⟩, s1⟩
    have bad : ∀ H', Bad H' x (-1000000000000000000000000000000) 1000000000000000000000000000000 := fun _ => badNums_are hx
    have dd : 0 < D := by obtain ⟨_, _, _, r, _⟩ := l; omega
    have dd' : 0 < D' := by obtain ⟨_, _, _, r, _⟩ := l'; omega
    refine ⟨_, rfl, _, rfl, v, x, T.C_NoYear, rfl, s1.tab, .inr ⟨D, T1, B, S, l.tame (Tame.of s1.ext), bad _, isC_out⟩, fun a fs H2 _ e2 t2 ha doors => ?_⟩
    have s2 := s1.extN e2 t2
    refine ⟨a, fs, T.C_NoYear, _, rfl, ha, doors, says_NoYear T, fun H3 e3 => ⟨_, rfl, iteF ?_⟩⟩
    have s3 := s2.ex e3
    clear s1 s2 e2 t2 ha doors e3
    refine ⟨s3.tab, fun H4 e4 t4 E1 Q1 caught _ => ?_⟩
    have s4 := s3.extN e4 t4
    refine ⟨_, rfl, _, rfl, v, x, rfl, .inr ⟨D, T1, B, S, l.tame (Tame.of s4.ext), bad _, fun H5 e5 => caught _ _ _ (caught_says (says_NoDay T) fun H6 e6 => ⟨rfl, _, rfl, iteNS rfl ?_⟩)⟩⟩
    have s6 := (s4.ex e5).ex e6
    clear s3 s4 e4 t4 e5 e6 caught
    refine ⟨s6.tab, fun H7 e7 t7 E1 Q1 caught _ => ?_⟩
    have s7 := s6.extN e7 t7
    refine ⟨_, rfl, _, rfl, _, _, _, _, _, rfl, .inr ⟨D, T1, B, S, 0, 7, 0, rfl, rfl, rfl, ⟨l.tame (Tame.of s7.ext), by omega, by omega, by omega, by omega⟩, bad _, fun H8 e8 => caught _ _ _ (caught_says (says_NoYear T) fun H9 e9 => ⟨rfl, _, rfl, iteNS rfl ?_⟩)⟩⟩
    have s9 := (s7.ex e8).ex e9
    clear s6 s7 e7 t7 e8 e9 caught
    refine ⟨s9.tab, fun H10 e10 t10 E1 Q1 caught _ => ?_⟩
    have s10 := s9.extN e10 t10
    refine ⟨_, rfl, _, rfl, _, _, _, _, _, _, rfl, .inr ⟨D, T1, B, S, 0, 7, 0, rfl, rfl, rfl, ⟨l.tame (Tame.of s10.ext), by omega, by omega, by omega, by omega⟩, .last ⟨by omega, by omega⟩ (bad _), fun H11 e11 => caught _ _ _ (caught_says (says_NoYear T) fun H12 e12 => ⟨rfl, _, rfl, iteNS rfl ?_⟩)⟩⟩
    have s12 := (s10.ex e11).ex e12
    clear s9 s10 e10 t10 e11 e12 caught
    refine ⟨s12.tab, fun H13 e13 t13 E1 Q1 caught _ => ?_⟩
    have s13 := s12.extN e13 t13
    refine ⟨_, rfl, _, rfl, _, rfl, _, _, _, _, _, _, rfl, .inr ⟨D, T1, B, S, 0, D', T', B', S', 0, rfl, rfl, l.tame (Tame.of s13.ext), by omega, l'.tame (Tame.of s13.ext), by omega, .first (bad _), fun H14 e14 => caught _ _ _ (caught_says (says_NoDay T) fun H15 e15 => ⟨rfl, _, rfl, iteNS rfl ?_⟩)⟩⟩
    have s15 := (s13.ex e14).ex e15
    clear s12 s13 e13 t13 e14 e15 caught
    refine ⟨s15.tab, fun H16 e16 t16 E1 Q1 caught _ => ?_⟩
    have s16 := s15.extN e16 t16
    refine ⟨_, rfl, _, rfl, _, rfl, _, _, _, _, _, _, rfl, .inr ⟨D, T1, B, S, 0, D', T', B', S', 0, rfl, rfl, l.tame (Tame.of s16.ext), by omega, l'.tame (Tame.of s16.ext), by omega, .last ⟨by omega, by omega⟩ (bad _), fun H17 e17 => caught _ _ _ (caught_says (says_NoDay T) fun H18 e18 => ⟨rfl, _, rfl, iteNS rfl ?_⟩)⟩⟩
    exact ⟨⟨_, rfl⟩, (s16.ex e17).ex e18⟩
  · rintro σ H1 ⟨⟨z, rfl⟩, s1⟩
    have dd : 0 < D := by obtain ⟨_, _, _, r, _⟩ := l; omega
    have dd' : 0 < D' := by obtain ⟨_, _, _, r, _⟩ := l'; omega
    refine ⟨s1.tab, fun H2 e2 t2 E1 Q1 caught _ => ?_⟩
    have s2 := s1.extN e2 t2
    refine ⟨_, rfl, _, _, _, _, _, _, rfl, .inr ⟨D, T1, B, S, 0, 7, 0, rfl, rfl, rfl, ⟨l.tame (Tame.of s2.ext), by omega, by omega, by omega, by omega⟩, .less ⟨by omega, by omega⟩ ⟨by omega, by omega⟩ (by omega), fun H3 e3 => caught _ _ _ (caught_says (says_NoYear T) fun H4 e4 => ⟨rfl, _, rfl, iteNS rfl ?_⟩)⟩⟩
    have s4 := (s2.ex e3).ex e4
    clear s1 s2 e2 t2 e3 e4 caught
    refine ⟨s4.tab, fun H5 e5 t5 E1 Q1 caught _ => ?_⟩
    have s5 := s4.extN e5 t5
    refine ⟨_, rfl, _, rfl, _, _, _, _, _, _, rfl, .inr ⟨D, T1, B, S, 0, D', T', B', S', 0, rfl, rfl, l.tame (Tame.of s5.ext), by omega, l'.tame (Tame.of s5.ext), by omega, .less ⟨by omega, by omega⟩ ⟨by omega, by omega⟩ (by omega), fun H6 e6 => caught _ _ _ (caught_says (says_NoDay T) fun H7 e7 => ⟨rfl, ?_⟩)⟩⟩
    have s7 := (s5.ex e6).ex e7
    exact q _ s7.ext s7.tab
end

/-! ### drawn lands, far numbers -/
section
variable {P : Program} {w : World} {K : PySem.W.Frag} {mg : Str → Option Value} {base : Heap}
def spDraw : Sp := fun vs H Q _ => ∃ (d : Addr) (L M N : Int) (n : Nat), vs = [.ref d, .int L, .int M, .int N] ∧ Dk n H d ∧ n < 900000 ∧ (1 ≤ L ∧ L ≤ 400) ∧ (1 ≤ M ∧ M ≤ 60) ∧ (0 ≤ N ∧ N ≤ 1000000) ∧
  ∀ v H' D T B S, Land H' v D T B S → D ≤ L → B ≤ M → -N ≤ S → S ≤ N → ExD d H H' → Dk (n + 4) H' d → Q v H'
theorem ok__law_land (T : Txt K mg) : FnOk P w K mg base CX0 2 T._law_land.f T._law_land.fd ["deck", "long_so", "bottoms", "shifts"] spDraw := by
  have G__law_pick : FnOk P w K mg base CX0 1 T._law_pick.f T._law_pick.fd ["deck", "size"] spPick := ok__law_pick T
  refine T._law_land.F.ok sc__law_land (fun vs H Q E h => ?_) (fun cdv A outer s H vs Q E hr h => ?_)
  · obtain ⟨d, L, M, N, n, rfl, _⟩ := h
    rfl
  · obtain ⟨d, L, M, N, n, rfl, hk, hn, hL, hM, hN, q⟩ := h
    refine ⟨_, (pss_cons (ps_set (i := 4) sc__law_land.nd rfl (Or.inl rfl) (pe_op op_add pe_int (pe_call G__law_pick (hr.mono (by omega)) (by rfl) T._law_pick.g T._law_pick.F.kp T._law_pick.b .nil pass0 (pa_cons (pv 0) (pa_cons (pv 2) pa_nil)))))
      (pss_cons (ps_set (i := 5) sc__law_land.nd rfl (Or.inl rfl) (pe_op op_sub (pe_call G__law_pick (hr.mono (by omega)) (by rfl) T._law_pick.g T._law_pick.F.kp T._law_pick.b .nil pass0 (pa_cons (pv 0) (pa_cons (pe_op op_add (pe_op op_mul pe_int (pv 3)) pe_int) pa_nil))) (pv 3)))
      (pss_one (ps_ret (pe_tup (pa_cons (pe_op op_add pe_int (pe_call G__law_pick (hr.mono (by omega)) (by rfl) T._law_pick.g T._law_pick.F.kp T._law_pick.b .nil pass0 (pa_cons (pv 0) (pa_cons (pv 1) pa_nil)))) (pa_cons (pe_call G__law_pick (hr.mono (by omega)) (by rfl) T._law_pick.g T._law_pick.F.kp T._law_pick.b .nil pass0 (pa_cons (pv 0) (pa_cons (pv 4) pa_nil))) (pa_cons (pv 4) (pa_cons (pv 5) pa_nil))))))))), ?_⟩
    refine ⟨_, rfl, _, rfl, d, M, n, rfl, hk, by omega, ⟨by omega, by omega⟩, fun b H1 b0 b1 e1 k1 => ⟨_, _, rfl, rfl, ?_⟩⟩
    refine ⟨_, rfl, _, rfl, _, _, rfl, rfl, cm_l (by omega), _, _, rfl, rfl, d, _, n + 1, rfl, k1, by omega, ⟨by omega, by omega⟩, fun sh H2 s0 s1 e2 k2 => ⟨_, rfl, _, _, rfl, rfl, ?_⟩⟩
    refine ⟨_, rfl, _, rfl, d, L, n + 2, rfl, k2, by omega, ⟨by omega, by omega⟩, fun dd H3 d0 d1 e3 k3 => ⟨_, _, rfl, rfl, ?_⟩⟩
    refine ⟨_, rfl, _, rfl, d, 1 + b, n + 3, rfl, k3, by omega, ⟨by omega, by omega⟩, fun tt H4 t0 t1 e4 k4 => ?_⟩
    refine ⟨_, rfl, _, rfl, by show 4 ≤ sizeLine; decide, fun p hp => ?_⟩
    exact q _ _ (1 + dd) tt (1 + b) (sh - N) ⟨p, rfl, upd_same, ⟨by omega, by omega⟩, ⟨by omega, by omega⟩, ⟨by omega, by omega⟩, ⟨by omega, by omega⟩⟩ (by omega) (by omega) (by omega) (by omega)
      (((e1.trans e2).trans (e3.trans e4)).trans (ExD.of (Ex.new hp))) (k4.ex (Ex.new hp))
def spAny : Sp := fun vs H Q _ => ∃ (d : Addr) (n : Nat), vs = [.ref d] ∧ Dk n H d ∧ n < 800000 ∧ ∀ v H' D T B S, Land H' v D T B S → ExD d H H' → Dk (n + 5) H' d → Q v H'
theorem ok__law_any (T : Txt K mg) : FnOk P w K mg base CX0 3 T._law_any.f T._law_any.fd ["deck"] spAny := by
  have G__law_one : FnOk P w K mg base CX0 2 T._law_one.f T._law_one.fd ["deck", "some"] spOne := ok__law_one T
  have G__law_land : FnOk P w K mg base CX0 2 T._law_land.f T._law_land.fd ["deck", "long_so", "bottoms", "shifts"] spDraw := ok__law_land T
  refine T._law_any.F.ok sc__law_any (fun vs H Q E h => ?_) (fun cdv A outer s H vs Q E hr h => ?_)
  · obtain ⟨d, n, rfl, _⟩ := h
    rfl
  · obtain ⟨d, n, rfl, hk, hn, q⟩ := h
    refine ⟨_, (pss_cons (ps_asg (pe_call G__law_one (hr.mono (by omega)) (by rfl) T._law_one.g T._law_one.F.kp T._law_one.b .nil pass0 (pa_cons (pv 0) (pa_cons (pe_lst (pa_cons (pe_tup (pa_cons pe_int (pa_cons pe_int (pa_cons pe_int pa_nil)))) (pa_cons (pe_tup (pa_cons pe_int (pa_cons pe_int (pa_cons pe_int pa_nil)))) (pa_cons (pe_tup (pa_cons pe_int (pa_cons pe_int (pa_cons (pe_op op_pow pe_int pe_int) pa_nil)))) pa_nil)))) pa_nil))) (pg_tup rfl (pgs_cons (pg_name (i := 1) sc__law_any.nd rfl (Or.inl rfl)) (pgs_cons (pg_name (i := 2) sc__law_any.nd rfl (Or.inl rfl)) (pgs_cons (pg_name (i := 3) sc__law_any.nd rfl (Or.inl rfl)) pgs_nil)))))
      (pss_one (ps_ret (pe_call G__law_land (hr.mono (by omega)) (by rfl) T._law_land.g T._law_land.F.kp T._law_land.b .nil pass0 (pa_cons (pv 0) (pa_cons (pv 1) (pa_cons (pv 2) (pa_cons (pv 3) pa_nil)))))))), ?_⟩
    refine ⟨_, rfl, by show 3 ≤ sizeLine; decide, fun p1 n1 => ?_⟩
    refine ⟨by show 3 ≤ sizeLine; decide, fun p2 n2 => ?_⟩
    refine ⟨_, _, rfl, rfl, ⟨by decide, by decide, by decide⟩, by show 3 ≤ sizeLine; decide, fun p3 n3 => ?_⟩
    refine ⟨by show 3 ≤ sizeLine; decide, fun p4 n4 => ?_⟩
    have x1 := Ex.new (o := .tup [.int 9, .int 5, .int 9]) n1
    have x2 := Ex.new (o := .tup [.int 30, .int 60, .int 99]) n2
    have x3 := Ex.new (o := .tup [.int 400, .int 60, .int ((10 : Int) ^ (6 : Int).toNat)]) n3
    have x4 := Ex.new (o := .lst [.ref p1, .ref p2, .ref p3]) n4
    have k4 := (((hk.ex x1).ex x2).ex x3).ex x4
    have a1 := x4 _ _ (x3 _ _ (x2 _ _ (upd_same (H := H) (a := p1) (o := .tup [.int 9, .int 5, .int 9]))))
    have a2 := x4 _ _ (x3 _ _ (upd_same (a := p2) (o := .tup [.int 30, .int 60, .int 99])))
    have a3 := x4 _ _ (upd_same (a := p3) (o := .tup [.int 400, .int 60, .int ((10 : Int) ^ (6 : Int).toNat)]))
    have nd : p4 ≠ d := fun z => by
      obtain ⟨_, _, _, hd, _⟩ := ((hk.ex x1).ex x2).ex x3
      rw [z, hd] at n4
      cases n4
    refine ⟨d, p4, _, n, rfl, k4, by omega, upd_same, nd, ⟨by show 0 < 3; decide, by show 3 ≤ 1000; decide⟩, fun v H5 hv e5 k5 => ?_⟩
    obtain ⟨p, L, M, N, rfl, hp, hL, hM, hN⟩ : ∃ (p : Addr) (L M N : Int), v = .ref p ∧ H5 p = some (.tup [.int L, .int M, .int N]) ∧ (1 ≤ L ∧ L ≤ 400) ∧ (1 ≤ M ∧ M ≤ 60) ∧ (0 ≤ N ∧ N ≤ 1000000) := by
      simp only [List.mem_cons, List.not_mem_nil, or_false] at hv
      rcases hv with hv | hv | hv
      · exact ⟨p1, _, _, _, hv, e5.tup k4 a1, ⟨by decide, by decide⟩, ⟨by decide, by decide⟩, ⟨by decide, by decide⟩⟩
      · exact ⟨p2, _, _, _, hv, e5.tup k4 a2, ⟨by decide, by decide⟩, ⟨by decide, by decide⟩, ⟨by decide, by decide⟩⟩
      · exact ⟨p3, _, _, _, hv, e5.tup k4 a3, ⟨by decide, by decide⟩, ⟨by decide, by decide⟩, ⟨by decide, by decide⟩⟩
    refine ⟨p, _, rfl, st_of hp, rfl, _, _, rfl, _, _, rfl, _, _, rfl, rfl, ?_⟩
    refine ⟨_, rfl, _, rfl, _, rfl, _, rfl, d, L, M, N, n + 1, rfl, k5, by omega, hL, hM, hN, fun u H6 D T' B S hl _ _ _ _ e6 k6 => ?_⟩
    exact q u H6 D T' B S hl ((ExD.of (((x1.trans x2).trans x3).trans x4)).trans (e5.trans e6)) k6

end

theorem cut_mem {xs : List V} {lo hi : Option Int} {x : V} (h : x ∈ cutV xs lo hi) : x ∈ xs := by
  unfold cutV at h
  exact List.mem_of_mem_drop (List.mem_of_mem_take h)
theorem cells_int {ns : List Int} {lo hi : Option Int} {i : Nat} {x : V} (h : (cutV (V.int 0 :: ns.map V.int) lo hi)[i]? = some x) : ∃ c : Int, x = .int c := by
  have hm := cut_mem (List.mem_of_getElem? h)
  rcases List.mem_cons.mp hm with rfl | there
  · exact ⟨0, rfl⟩
  · obtain ⟨c, _, rfl⟩ := List.mem_map.mp there
    exact ⟨c, rfl⟩

/-! ### the law -/
section
variable {H : Hp} {a : Addr}
theorem NoL.non : NoL H .non := ⟨_, .non, fun a xs z => (by cases z), rfl⟩
theorem NoL.bl {b : Bool} : NoL H (.bl b) := ⟨_, .bl b, fun a xs z => (by cases z), rfl⟩
theorem NoL.int {i : Int} : NoL H (.int i) := ⟨_, .int i, fun a xs z => (by cases z), rfl⟩
theorem NoL.str {x : Str} : NoL H (.str x) := ⟨_, .str x, fun a xs z => (by cases z), rfl⟩
theorem NoL.lst {xs : List V} (h : H a = some (.lst xs)) : NoL H (.ref a) := ⟨_, .lst h, fun b ys z hb => (by cases z; rw [h] at hb; cases hb), landB_lst h⟩
theorem NoL.tup {is : List Int} (h : H a = some (.tup (is.map V.int))) (no : landL (is.map V.int) = false) : NoL H (.ref a) := by
  refine ⟨_, .tup h, fun b ys z hb y hy => ?_, (landB_tup h).trans no⟩
  cases z
  rw [h] at hb
  cases hb
  obtain ⟨i, _, rfl⟩ := List.mem_map.mp hy
  exact ⟨_, .int i⟩
end
theorem TabS_but {H H' : Hp} {P x : Addr} {q : Str} {zs : List V} (t : LamX.TabS H P q) (hx : H x = some (.lst zs)) (e : ExD x H H') : LamX.TabS H' P q := by
  obtain ⟨ps, hP, ok, all⟩ := t
  refine ⟨ps, e _ _ (fun z => by rw [z, hx] at hP; cases hP) hP, ok, fun pos cv h => ?_⟩
  obtain ⟨c, e1, e2⟩ := all pos cv h
  exact ⟨c, e1, e _ _ (fun z => by rw [z, hx] at e2; cases e2) e2⟩
theorem Dk.ne_fresh {n : Nat} {H : Hp} {d p : Addr} (h : Dk n H d) (hp : H p = none) : p ≠ d := fun z => by
  obtain ⟨_, _, _, hd, _⟩ := h
  rw [z, hd] at hp
  cases hp
theorem new2 {H : Hp} {x dx : Addr} {o o' : HO} (nx : H x = none) (ndx : H dx = none) (ne : dx ≠ x) : Ex H (upd (upd H dx o) x o') := (Ex.new ndx).trans (Ex.new ((upd_ne fun z => ne z.symm).trans nx))
/-- what are no places, weeks, names -/
theorem five_bad {x x3 x4 : V} {i : Nat} {s : Str} {lo hi : Int} {H : Hp} {j3 j4 : Int} (h : [V.non, .bl true, .int j3, .int j4, .str s][i]? = some x) (b3 : ¬ (lo ≤ j3 ∧ j3 ≤ hi)) (b4 : ¬ (lo ≤ j4 ∧ j4 ≤ hi)) : Bad H x lo hi := by
  have num : ∀ {j : Int}, ¬ (lo ≤ j ∧ j ≤ hi) → btw (.int j) lo hi = false := fun {j} b => by
    show (decide (lo ≤ j) && decide (j ≤ hi)) = false
    by_cases z : lo ≤ j
    · rw [decide_eq_false (fun z' => b ⟨z, z'⟩), Bool.and_false]
    · rw [decide_eq_false z, Bool.false_and]
  match i, h with
  | 0, h => cases h; exact ⟨_, .non, rfl⟩
  | 1, h => cases h; exact ⟨_, .bl true, rfl⟩
  | 2, h => cases h; exact ⟨_, .int _, num b3⟩
  | 3, h => cases h; exact ⟨_, .int _, num b4⟩
  | 4, h => cases h; exact ⟨_, .str _, rfl⟩
  | n + 5, h => cases h
/-- as Stay, while the deck at d is drawn from -/
structure StayD (cs : List (Addr × Str)) (p : Addr) (xs : List V) (d : Addr) (H H' : Hp) : Prop where
  lst : H' p = some (.lst xs)
  ne : p ≠ d
  ext : ExtB d H H'
  tab : LamX.Tabs cs H'
section
variable {cs : List (Addr × Str)} {p d : Addr} {xs : List V} {H H1 H2 : Hp} {n : Nat}
theorem Stay.deck (s : Stay cs p xs H H1) (nd : H1 d = none) (e : Ex H1 H2) : StayD cs p xs d H H2 := ⟨e _ _ s.lst, ne_of_none s.lst nd, fun b o h no => ⟨ne_of_none (s.ext b o h no) nd, e _ _ (s.ext b o h no)⟩, Tabs.ex s.tab e⟩
theorem StayD.exd (s : StayD cs p xs d H H1) (k : Dk n H1 d) (e : ExD d H1 H2) : StayD cs p xs d H H2 := by
  obtain ⟨_, _, _, hd, _⟩ := k
  exact ⟨e _ _ s.ne s.lst, s.ne, fun b o h no => ⟨(s.ext b o h no).1, e _ _ (s.ext b o h no).1 (s.ext b o h no).2⟩, fun y hy => TabS_but (s.tab y hy) hd e⟩
theorem StayD.extN (s : StayD cs p xs d H H1) (e : LamX.ExtN H1 H2) (t : LamX.Tabs cs H2) : StayD cs p xs d H H2 := ⟨e _ _ s.lst (fun ps z => by cases z), s.ne, fun b o h no => ⟨(s.ext b o h no).1, e _ _ (s.ext b o h no).2 no⟩, t⟩
theorem StayD.ex (s : StayD cs p xs d H H1) (e : Ex H1 H2) : StayD cs p xs d H H2 := s.extN (LamX.ExtN.of e) (Tabs.ex s.tab e)
theorem StayD.append {ys zs : List V} (s : StayD cs p xs d H H1) (e : LamX.ExtN H1 H2) (t : LamX.Tabs cs H2) (hl : H2 d = some (.lst ys)) : StayD cs p xs d H (upd H2 d (.lst zs)) :=
  ⟨(upd_ne s.ne).trans (e _ _ s.lst fun ps z => by cases z), s.ne, s.ext.step e, tabs_list hl t⟩
theorem StayD.stay (s : StayD cs p xs d H H1) : Stay cs p xs H H1 := ⟨s.lst, s.ext.extN, s.tab⟩
end
section
variable {P : Program} {w : World} {K : PySem.W.Frag} {mg : Str → Option Value} {base : Heap}
def spInitNo (C : Addr) : Sp := fun vs H _ E => ∃ x v, vs = [x, v] ∧ NoL H v ∧ Out C E H
theorem no_Realm_init (T : Txt K mg) : FnOk P w K mg base (L2N.CX P w) 5 T.Realm_init.f T.Realm_init.fd ["self", "land"] (spInitNo T.C_NoLand) := by
  have G_need_land : FnOk P w K mg base (L2N.CX P w) 4 T.need_land.f T.need_land.fd ["thing"] (spNeedLandB T.C_NoLand) := both_need_land T
  refine fun_okN T.Realm_init.F sc_Realm_init (fun vs H Q E h => ?_) (fun cdv A outer s H vs Q E hr h => ?_)
  · obtain ⟨_, _, rfl, _⟩ := h
    rfl
  · obtain ⟨x, v, rfl, no, out⟩ := h
    exact ⟨_, (pss_cons (ps_expr (pe_callS G_need_land (hr.mono (by omega)) (by rfl) T.need_land.g T.need_land.F.kp T.need_land.b (fun σ => L2N.passAt (L2N.takes_of rfl rfl rfl rfl) σ) (pa_cons (pv 1) pa_nil)))
      pss_never), _, rfl, _, rfl, .inl ⟨no, out⟩⟩
/-- a door's lambda makes a thing of a class -/
theorem pe_doorMake {Z : Cx} {q : Str} {sc scope : Scope} {mc : List (Str × Addr)} {N : List Str} {s : Shared} {H : Hp} {E : XK} {f c : Addr} {n k : Nat} {g C : Addr} {fd : FuncData} {ps : List Str} {sp : Sp} {x : Str} {p pos : Pos} {e : Expr} {es : List Expr} {t : TA} (mk : Mk Z.K C g) (F : FnOk Z.prog Z.w Z.K Z.mg Z.base (L2N.CX Z.prog Z.w) k g fd ps sp) (room : Room (n + 1) Z.A) (le : k + 1 ≤ n)
    (hg : (scope.names.lookup x = some .globalImplicit)) (hm : Z.mg x = some (.ref C)) (b : Binds Z.K fd ps []) (ha : PA (lamN (makerOf Z q sc mc N) Z.A Z.stack s H E scope f c) (e :: es) t) (hdx : (x == ("__debug__" : Str)) = false := by decide) (h2 : ∀ env : Env, starEach (e :: es) env = (false, eval e env) :: starEach es env := by intro _; rfl) (h3 : ∀ env : Env, ((backTo pos (starEach es env)).any fun x => x.fst) = false := by intro _; rfl) :
    PE (lamN (makerOf Z q sc mc N) Z.A Z.stack s H E scope f c) (.Call (.Name x p) (e :: es) [] pos) (tMake C sp [] (fun cls d H2 => E cls d H2) t) :=
  pe_make (X := lamN (makerOf Z q sc mc N) Z.A Z.stack s H E scope f c) mk F ((room.deeper _).mono le) hg hm b .nil (fun pins σ H s e s' I c => L2N.passAt (lamN_takes (X := makerOf Z q sc mc N)) σ pins H s e s' I c) ha hdx (h2 _) (h3 _)
def spLawC (K : PySem.W.Frag) (cs : List (Addr × Str)) : Sp := fun vs H Q _ => ∃ (a : Addr) (ns : List Int), vs = [.ref a] ∧ SqL K H a (ns.map V.int) ∧ ns.length ≤ 63 ∧ LamX.Tabs cs H ∧ ∀ H', Q (.bl true) H'
theorem ok_law (T : Txt K mg) {cs : List (Addr × Str)} {f : Addr} {fd : FuncData} (ML : Maker K mg base cs "_law_by_land" s__law_by_land T._law_by_land.f T._law_by_land.fd) (MW : Maker K mg base cs "_law_by_week" s__law_by_week T._law_by_week.f T._law_by_week.fd) (M2 : Maker K mg base cs "_law_by_two" s__law_by_two T._law_by_two.f T._law_by_two.fd)
    (MN : Maker K mg base cs "_law_numbers_right" s__law_numbers_right T._law_numbers_right.f T._law_numbers_right.fd) (M : Maker K mg base cs "law" s_law f fd) : FnOk P w K mg base CX0 11 f fd ["script"] (spLawC K cs) := by
  have G__law_all_told : FnOk P w K mg base CX0 9 T._law_all_told.f T._law_all_told.fd ["doors", "word"] (spAllTold T P w base) := ok__law_all_told T
  have G__law_by_land : FnOk P w K mg base CX0 1 T._law_by_land.f T._law_by_land.fd ["land", "other"] (spDoorsLand T P w base cs) := ok__law_by_land T ML
  have G__law_by_week : FnOk P w K mg base CX0 1 T._law_by_week.f T._law_by_week.fd ["land", "place", "week", "name"] (spDoorsWeek T P w base cs) := ok__law_by_week T MW
  have G__law_by_two : FnOk P w K mg base CX0 1 T._law_by_two.f T._law_by_two.fd ["one", "place_one", "other", "place_other"] (spDoorsTwo T P w base cs) := ok__law_by_two T M2
  have G__law_numbers_right : FnOk P w K mg base CX0 10 T._law_numbers_right.f T._law_numbers_right.fd ["land", "other"] (spNums cs) := ok__law_numbers_right T ML MN
  have G__law_deck : FnOk P w K mg base CX0 1 T._law_deck.f T._law_deck.fd ["cell", "turn"] spDeck := ok__law_deck T
  have G__law_any : FnOk P w K mg base CX0 3 T._law_any.f T._law_any.fd ["deck"] spAny := ok__law_any T
  have G__law_one : FnOk P w K mg base CX0 2 T._law_one.f T._law_one.fd ["deck", "some"] spOne := ok__law_one T
  have N_date : FnOk P w K mg base (L2N.CX P w) 5 T.date.f T.date.fd ["land", "day"] (spByLand T.C_NoLand T.C_NoDay) := no_date T
  have N_alike : FnOk P w K mg base (L2N.CX P w) 6 T.alike.f T.alike.fd ["one", "other"] (spPartNo T.C_NoLand) := no_alike T
  have N_first_parting : FnOk P w K mg base (L2N.CX P w) 5 T.first_parting.f T.first_parting.fd ["one", "other"] (spPartNo T.C_NoLand) := no_first_parting T
  have N_init : FnOk P w K mg base (L2N.CX P w) 5 T.Realm_init.f T.Realm_init.fd ["self", "land"] (spInitNo T.C_NoLand) := no_Realm_init T
  refine maker_run M sc_law (fun vs H Q E h => ?_) fun A outer s H vs Q E hr h => ?_
  · obtain ⟨_, _, rfl, _⟩ := h
    rfl
  obtain ⟨a, ns, rfl, hS, hlen, t0, q⟩ := h
  refine ⟨_, PSs.nox (pss_cons (ps_for PassesOwn.never rfl (pi_list (pe_slice sl_list (pe_op op_catL (pe_lst (pa_cons pe_int pa_nil)) (pv 0)) po_none (po_some pe_int))) (pg_name (i := 1) sc_law.nd rfl (Or.inl rfl))
        (pss_cons (ps_set (i := 2) sc_law.nd rfl (Or.inl rfl) (pe_call G__law_deck (hr.mono (by omega)) (by rfl) T._law_deck.g T._law_deck.F.kp T._law_deck.b .nil pass0 (pa_cons (pv 1) (pa_cons pe_int pa_nil))))
      (pss_cons (ps_asg (pe_tup (pa_cons (pe_call G__law_any (hr.mono (by omega)) (by rfl) T._law_any.g T._law_any.F.kp T._law_any.b .nil pass0 (pa_cons (pv 2) pa_nil)) (pa_cons (pe_call G__law_any (hr.mono (by omega)) (by rfl) T._law_any.g T._law_any.F.kp T._law_any.b .nil pass0 (pa_cons (pv 2) pa_nil)) pa_nil))) (pg_tup rfl (pgs_cons (pg_name (i := 6) sc_law.nd rfl (Or.inr rfl)) (pgs_cons (pg_name (i := 3) sc_law.nd rfl (Or.inl rfl)) pgs_nil))))
      (pss_cons (ps_set (i := 7) sc_law.nd rfl (Or.inr rfl) (pe_call G__law_one (hr.mono (by omega)) (by rfl) T._law_one.g T._law_one.F.kp T._law_one.b .nil pass0 (pa_cons (pv 2) (pa_cons (pe_lst (pa_cons pe_non (pa_cons pe_bl (pa_cons pe_str (pa_cons (pe_tup pa_nil) (pa_cons (pe_lst pa_nil) (pa_cons pe_int (pa_cons (pe_callTy call_list_of (by rfl) T.b_list (by decide +kernel) (pa_cons (pv 6) pa_nil)) (pa_cons (pe_slice sl_tupA (pv 6) po_none (po_some pe_int)) (pa_cons (pe_tup (pa_cons pe_int (pa_cons pe_int (pa_cons pe_int (pa_cons pe_int pa_nil))))) (pa_cons (pe_tup (pa_cons pe_int (pa_cons pe_int (pa_cons pe_int (pa_cons pe_int pa_nil))))) pa_nil))))))))))) pa_nil))))
      (pss_cons (ps_set (i := 4) sc_law.nd rfl (Or.inl rfl) (pe_op op_catL (pe_op op_catL (pe_call G__law_by_land (hr.mono (by omega)) (by rfl) T._law_by_land.g T._law_by_land.F.kp T._law_by_land.b .nil pass0 (pa_cons (pv 7) (pa_cons pe_non pa_nil))) (pe_call G__law_by_week (hr.mono (by omega)) (by rfl) T._law_by_week.g T._law_by_week.F.kp T._law_by_week.b .nil pass0 (pa_cons (pv 7) (pa_cons pe_non (pa_cons pe_non (pa_cons pe_non pa_nil)))))) (pe_call G__law_by_two (hr.mono (by omega)) (by rfl) T._law_by_two.g T._law_by_two.F.kp T._law_by_two.b .nil pass0 (pa_cons (pv 7) (pa_cons pe_non (pa_cons pe_non (pa_cons pe_non pa_nil)))))))
      (pss_cons (ps_expr (pe_bm PySem.F.plainAttrs_list PySem.F.slot_list_append PySem.F.type_list_append mt_append (pv 4) (pa_cons (pe_lam M.tb rfl (show LamX.LamS (defScope s_law) _ from LamX.lamS_by (by decide +kernel)) rfl M.mem M.one) pa_nil)))
      (pss_cons (ps_expr (pe_bm PySem.F.plainAttrs_list PySem.F.slot_list_append PySem.F.type_list_append mt_append (pv 4) (pa_cons (pe_lam M.tb rfl (show LamX.LamS (defScope s_law) _ from LamX.lamS_by (by decide +kernel)) rfl M.mem M.one) pa_nil)))
      (pss_cons (ps_expr (pe_bm PySem.F.plainAttrs_list PySem.F.slot_list_append PySem.F.type_list_append mt_append (pv 4) (pa_cons (pe_lam M.tb rfl (show LamX.LamS (defScope s_law) _ from LamX.lamS_by (by decide +kernel)) rfl M.mem M.one) pa_nil)))
      (pss_cons (ps_expr (pe_bm PySem.F.plainAttrs_list PySem.F.slot_list_append PySem.F.type_list_append mt_append (pv 4) (pa_cons (pe_lam M.tb rfl (show LamX.LamS (defScope s_law) _ from LamX.lamS_by (by decide +kernel)) rfl M.mem M.one) pa_nil)))
      (pss_cons (ps_if (PW.pt (pw_or (pt_not (pt_val (pe_callT G__law_all_told (hr.mono (by omega)) (by rfl) T._law_all_told.g T._law_all_told.F.kp T._law_all_told.b (fun _ => rfl) (named_of (by decide +kernel)) (pa_cons (pv 4) (pa_cons pe_str pa_nil))))) (pw_or1 (pt_not (pt_val (pe_call G__law_all_told (hr.mono (by omega)) (by rfl) T._law_all_told.g T._law_all_told.F.kp T._law_all_told.b .nil pass0 (pa_cons (pe_call G__law_by_two (hr.mono (by omega)) (by rfl) T._law_by_two.g T._law_by_two.F.kp T._law_by_two.b .nil pass0 (pa_cons (pv 6) (pa_cons pe_int (pa_cons (pv 7) (pa_cons pe_non pa_nil))))) (pa_cons pe_str pa_nil))))))))
        (pss_one (ps_ret pe_bl))
        pss_nil)
      (pss_cons (ps_if (pt_not (pt_val (pe_call G__law_numbers_right (hr.mono (by omega)) (by rfl) T._law_numbers_right.g T._law_numbers_right.F.kp T._law_numbers_right.b .nil pass0 (pa_cons (pv 6) (pa_cons (pv 3) pa_nil)))))
        (pss_one (ps_ret pe_bl))
        pss_nil)
      (pss_cons (ps_for PassesOwn.never rfl (pi_list (pe_lst (pa_cons pe_non (pa_cons pe_bl (pa_cons (pe_un un_neg pe_int) (pa_cons (pe_ix ix_tup (pv 6) pe_int (fun _ _ => rfl)) (pa_cons pe_str pa_nil))))))) (pg_name (i := 5) sc_law.nd rfl (Or.inl rfl))
        (pss_one (ps_if (pt_not (pt_val (pe_call G__law_all_told (hr.mono (by omega)) (by rfl) T._law_all_told.g T._law_all_told.F.kp T._law_all_told.b .nil pass0 (pa_cons (pe_op op_catL (pe_call G__law_by_week (hr.mono (by omega)) (by rfl) T._law_by_week.g T._law_by_week.F.kp T._law_by_week.b .nil pass0 (pa_cons (pv 6) (pa_cons (pv 5) (pa_cons pe_non (pa_cons pe_non pa_nil))))) (pe_call G__law_by_two (hr.mono (by omega)) (by rfl) T._law_by_two.g T._law_by_two.F.kp T._law_by_two.b .nil pass0 (pa_cons (pv 6) (pa_cons (pv 5) (pa_cons pe_non (pa_cons pe_non pa_nil)))))) (pa_cons pe_str pa_nil)))))
        (pss_one (ps_ret pe_bl))
        pss_nil)))
      (pss_cons (ps_if (pt_not (pt_val (pe_call G__law_all_told (hr.mono (by omega)) (by rfl) T._law_all_told.g T._law_all_told.F.kp T._law_all_told.b .nil pass0 (pa_cons (pe_call G__law_by_two (hr.mono (by omega)) (by rfl) T._law_by_two.g T._law_by_two.F.kp T._law_by_two.b .nil pass0 (pa_cons (pv 6) (pa_cons pe_int (pa_cons (pv 3) (pa_cons (pe_ix ix_tup (pv 3) pe_int (fun _ _ => rfl)) pa_nil))))) (pa_cons pe_str pa_nil)))))
        (pss_one (ps_ret pe_bl))
        pss_nil)
      (pss_cons (ps_for PassesOwn.never rfl (pi_list (pe_lst (pa_cons pe_non (pa_cons pe_bl (pa_cons pe_int (pa_cons pe_int (pa_cons pe_str pa_nil))))))) (pg_name (i := 5) sc_law.nd rfl (Or.inl rfl))
        (pss_one (ps_if (pt_not (pt_val (pe_call G__law_all_told (hr.mono (by omega)) (by rfl) T._law_all_told.g T._law_all_told.F.kp T._law_all_told.b .nil pass0 (pa_cons (pe_call G__law_by_week (hr.mono (by omega)) (by rfl) T._law_by_week.g T._law_by_week.F.kp T._law_by_week.b .nil pass0 (pa_cons (pv 6) (pa_cons pe_int (pa_cons (pv 5) (pa_cons pe_non pa_nil))))) (pa_cons pe_str pa_nil)))))
        (pss_one (ps_ret pe_bl))
        pss_nil)))
      (pss_one (ps_for PassesOwn.never rfl (pi_list (pe_lst (pa_cons pe_non (pa_cons pe_bl (pa_cons (pe_un un_neg pe_int) (pa_cons pe_int (pa_cons pe_str pa_nil))))))) (pg_name (i := 5) sc_law.nd rfl (Or.inl rfl))
        (pss_one (ps_if (pt_not (pt_val (pe_call G__law_all_told (hr.mono (by omega)) (by rfl) T._law_all_told.g T._law_all_told.F.kp T._law_all_told.b .nil pass0 (pa_cons (pe_call G__law_by_week (hr.mono (by omega)) (by rfl) T._law_by_week.g T._law_by_week.F.kp T._law_by_week.b .nil pass0 (pa_cons (pv 6) (pa_cons pe_int (pa_cons pe_int (pa_cons (pv 5) pa_nil))))) (pa_cons pe_str pa_nil)))))
        (pss_one (ps_ret pe_bl))
        pss_nil))))))))))))))))))
      (pss_one (ps_ret pe_bl))), ?_⟩
  refine ⟨by show 1 ≤ sizeLine; decide, fun p0 n0 => ?_⟩
  refine ⟨_, rfl, p0, a, _, _, rfl, rfl, sq_of upd_same, ex_l (Ex.new n0) hS, ?_, fun p1 n1 => ?_⟩
  · rw [List.length_map]
    exact sz_of (by show 1 + ns.length ≤ 100000; omega)
  refine ⟨8, rfl, p1, _, rfl, sq_of upd_same, fun p2 n2 => ?_⟩
  refine ⟨p2, rfl, ⟨_, sq_of upd_same⟩, ?_⟩
  have y0 := Ex.new n0 (o := .lst [.int 0])
  have y1 := Ex.new n1 (o := .lst (V.int 0 :: ns.map V.int))
  have y2 := Ex.new n2 (o := .lst (cutV (V.int 0 :: ns.map V.int) none (some 8)))
  refine for_list (xs := cutV (V.int 0 :: ns.map V.int) none (some 8)) (fun i σ H' => (∃ z1 z2 z3 z4 z5 z6 z7, σ = [some (.ref a), z1, z2, z3, z4, z5, z6, z7]) ∧ Stay cs p2 (cutV (V.int 0 :: ns.map V.int) none (some 8)) H H')
      ⟨⟨_, _, _, _, _, _, _, rfl⟩, upd_same, LamX.ExtN.of (y0.trans (y1.trans y2)), Tabs.ex t0 (y0.trans (y1.trans y2))⟩ (fun i σ H' _ h => sq_of h.2.lst) ?_ (fun σ H' _ => q _)
  clear y0 y1 y2 n0 n1 n2
  rintro i x σ H1 hx ⟨⟨z1, z2, z3, z4, z5, z6, z7, rfl⟩, s1⟩
  obtain ⟨cl, rfl⟩ := cells_int hx
  generalize cutV (V.int 0 :: ns.map V.int) none (some 8) = cells at s1 ⊢
  refine ⟨_, rfl, cl, 12, rfl, fun d H2 nd e2 k2 => ?_⟩
  have s2 := s1.deck nd e2
  refine ⟨_, rfl, d, 12, rfl, k2, by omega, fun v H3 D T1 B S l3 e3 k3 => ?_⟩
  have s3 := s2.exd k2 e3
  refine ⟨_, rfl, d, 17, rfl, k3, by omega, fun v' H4 D' T' B' S' l4' e4 k4 => ?_⟩
  have s4 := s3.exd k3 e4
  have l4 := e4.land k3 l3
  clear s1 e2 k2 s2 e3 k3 s3 l3 e4 nd
  refine ⟨by show 2 ≤ sizeLine; decide, fun t5 n5 => ⟨t5, _, rfl, st_of upd_same, rfl, _, _, rfl, _, _, rfl, rfl, ?_⟩⟩
  have y5 := Ex.new n5 (o := .tup [v, v'])
  have s5 := s4.ex y5
  have l5 := l4.ex y5
  have l5' := l4'.ex y5
  have k5 := k4.ex y5
  clear s4 l4 l4' k4 y5 n5
  obtain ⟨la, rfl, hla, rl⟩ := id l5
  refine ⟨_, rfl, by show 0 ≤ sizeLine; decide, fun t6 n6 => ⟨by show 0 ≤ sizeLine; decide, fun t7 n7 => ?_⟩⟩
  have y6 := Ex.new n6 (o := .tup [])
  have y7 := Ex.new n7 (o := .lst [])
  have f7 := y6.trans y7
  refine ⟨_, rfl, la, _, rfl, .inr (st_of (f7 _ _ hla)), fun t8 n8 => ?_⟩
  have y8 := Ex.new n8 (o := .lst [.int D, .int T1, .int B, .int S])
  have f8 := f7.trans y8
  refine ⟨_, rfl, _, rfl, la, _, rfl, st_of (f8 _ _ hla), fun z => absurd z.2 (by show ¬ HT.sIx 4 4 (some 3) = 4; decide), fun _ t9 n9 => ?_⟩
  have y9 := Ex.new n9 (o := .tup (cutV [.int D, .int T1, .int B, .int S] none (some 3)))
  have f9 := f8.trans y9
  refine ⟨by show 4 ≤ sizeLine; decide, fun t10 n10 => ⟨by show 4 ≤ sizeLine; decide, fun t11 n11 => ⟨by show 10 ≤ sizeLine; decide, fun t12 n12 => ?_⟩⟩⟩
  have y10 := Ex.new n10 (o := .tup [.int 0, .int 0, .int 1, .int 0])
  have y11 := Ex.new n11 (o := .tup [.int 1, .int 1, .int 1, .int 0])
  have y12 := Ex.new n12 (o := .lst [.non, .bl true, .str "", .ref t6, .ref t7, .int 7, .ref t8, .ref t9, .ref t10, .ref t11])
  have f12 := f9.trans (y10.trans (y11.trans y12))
  have k12 := k5.ex f12
  have s12 := s5.ex f12
  have g6 := k5.ne_fresh n6
  have g7 := (k5.ex y6).ne_fresh n7
  have g8 := (k5.ex f7).ne_fresh n8
  have g9 := (k5.ex f8).ne_fresh n9
  have g10 := (k5.ex f9).ne_fresh n10
  have g11 := (k5.ex (f9.trans y10)).ne_fresh n11
  have g12 := (k5.ex (f9.trans (y10.trans y11))).ne_fresh n12
  refine ⟨d, t12, _, 22, rfl, k12, by omega, upd_same, g12, ⟨by show 0 < 10; decide, by show 10 ≤ 1000; decide⟩, fun od H13 mem e13 k13 => ?_⟩
  have s13 := (s12.exd k12 e13).stay
  have l13 : Land H13 (.ref la) D T1 B S := e13.land k12 (l5.ex f12)
  have l13' : Land H13 v' D' T' B' S' := e13.land k12 (l5'.ex f12)
  have h6 := e13 _ _ g6 ((y7.trans (y8.trans (y9.trans (y10.trans (y11.trans y12))))) _ _ upd_same)
  have h7 := e13 _ _ g7 ((y8.trans (y9.trans (y10.trans (y11.trans y12)))) _ _ upd_same)
  have h8 := e13 _ _ g8 ((y9.trans (y10.trans (y11.trans y12))) _ _ upd_same)
  have h9 := e13 _ _ g9 ((y10.trans (y11.trans y12)) _ _ upd_same)
  have h10 := e13 _ _ g10 ((y11.trans y12) _ _ upd_same)
  have h11 := e13 _ _ g11 (y12 _ _ upd_same)
  have nol : NoL H13 od := by
    simp only [List.mem_cons, List.not_mem_nil, or_false] at mem
    rcases mem with rfl | rfl | rfl | rfl | rfl | rfl | rfl | rfl | rfl | rfl
    · exact .non
    · exact .bl
    · exact .str
    · exact NoL.tup (is := []) h6 rfl
    · exact .lst h7
    · exact .int
    · exact .lst h8
    · exact NoL.tup (is := [D, T1, B]) h9 rfl
    · exact NoL.tup (is := [0, 0, 1, 0]) h10 (by decide +kernel)
    · exact NoL.tup (is := [1, 1, 1, 0]) h11 (by decide +kernel)
  clear h6 h7 h8 h9 h10 h11 mem e13 k13 g6 g7 g8 g9 g10 g11 g12 y6 y7 y8 y9 y10 y11 y12 f7 f8 f9 f12 k12 s12 n6 n7 n8 n9 n10 n11 n12 s5 l5 l5' k5 hla
  refine ⟨_, rfl, od, .non, T.C_NoLand, rfl, s13.tab, .inl ⟨nol, isC_out⟩, fun a1 fs1 H14 len1 e14 t14 ha1 d1 => ?_⟩
  have s14 := s13.extN e14 t14
  refine ⟨_, rfl, od, .non, .non, .non, T.C_NoLand, rfl, t14, .land (nol.tame (Tame.of e14)) isC_out, fun a2 fs2 H15 len2 e15 t15 ha2 d2 => ?_⟩
  have s15 := s14.extN e15 t15
  refine ⟨a1, a2, _, _, rfl, rfl, sq_of (e15 _ _ ha1 fun ps z => by cases z), sq_of ha2, ?_, fun p16 n16 => ?_⟩
  · rw [List.length_map, List.length_map, len1, len2]
    show 9 ≤ sizeLine
    decide
  have y16 := Ex.new n16 (o := .lst (fs1.map V.ref ++ fs2.map V.ref))
  have s16 := s15.ex y16
  have e16 := e14.trans (e15.trans (LamX.ExtN.of y16))
  refine ⟨_, rfl, od, .non, .non, .non, T.C_NoLand, rfl, s16.tab, .land (nol.tame (Tame.of e16)) isC_out, fun a3 fs3 H17 len3 e17 t17 ha3 d3 => ?_⟩
  have s17 := s16.extN e17 t17
  refine ⟨p16, a3, _, _, rfl, rfl, sq_of (e17 _ _ upd_same fun ps z => by cases z), sq_of ha3, ?_, fun dl n18 => ?_⟩
  · rw [List.length_append, List.length_map, List.length_map, List.length_map, len1, len2, len3]
    show 13 ≤ sizeLine
    decide
  have nol17 := nol.tame (Tame.of (e16.trans e17))
  have l17 := l13.tame (Tame.of (e16.trans e17))
  have l17' := l13'.tame (Tame.of (e16.trans e17))
  obtain ⟨F0, hF0⟩ : ∃ F0 : List Addr, fs1 ++ fs2 ++ fs3 = F0 := ⟨_, rfl⟩
  have lF0 : F0.length = 13 := by rw [← hF0, List.length_append, List.length_append, len1, len2, len3]
  have dF0 : ∀ f ∈ F0, Door P w K mg base 6 T.C_NoLand H17 f := fun f hf => by
    rw [← hF0, List.mem_append, List.mem_append] at hf
    rcases hf with (hf | hf) | hf
    · exact (d1 f hf).ex (e15.trans ((LamX.ExtN.of y16).trans e17))
    · exact (d2 f hf).ex ((LamX.ExtN.of y16).trans e17)
    · exact d3 f hf
  rw [show fs1.map V.ref ++ fs2.map V.ref ++ fs3.map V.ref = F0.map V.ref by rw [← hF0, List.map_append, List.map_append]]
  clear hF0 d1 d2 d3 len1 len2 len3 ha1 ha2 ha3 e14 e15 e16 e17 y16 n16 t14 t15 t17 s13 s14 s15 s16 nol l13 l13'
  have x18 : ExtB dl H17 (upd H17 dl (.lst (F0.map V.ref))) := ExtB.new (LamX.ExtN.refl H17) n18
  have s18 := s17.deck n18 (Ex.new n18 (o := .lst (F0.map V.ref)))
  have h18 : upd H17 dl (.lst (F0.map V.ref)) dl = some (.lst (F0.map V.ref)) := upd_same
  clear n18 s17
  refine ⟨_, rfl, .inl ⟨rfl, _, sq_of h18⟩, s18.tab, fun f1 c1 H19 _ e19 t19 la1 lb1 lc1 => ⟨_, _, _, rfl, rfl, e19 _ _ h18 (fun ps z => by cases z), ?_, ?_⟩⟩
  · simp only [List.length_append, List.length_map, lF0, List.length_cons, List.length_nil]
    show 13 < sizeLine
    decide
  have b19 := e19 _ _ h18 (fun ps z => by cases z)
  have x19 : ExtB dl H17 (upd H19 dl (.lst (F0.map V.ref ++ [.ref f1]))) := x18.step e19
  have h19 : upd H19 dl (.lst (F0.map V.ref ++ [.ref f1])) dl = some (.lst (F0.map V.ref ++ [.ref f1])) := upd_same
  have s19 : StayD cs p2 cells dl H (upd H19 dl (.lst (F0.map V.ref ++ [.ref f1]))) := s18.append e19 t19 b19
  have m19_1 := (Made.mk la1 lb1 lc1).list (ys := (F0.map V.ref ++ [.ref f1])) b19
  clear la1 lb1 lc1 e19 t19 b19 x18 h18 s18 
  refine ⟨_, rfl, .inl ⟨rfl, _, sq_of h19⟩, s19.tab, fun f2 c2 H20 _ e20 t20 la2 lb2 lc2 => ⟨_, _, _, rfl, rfl, e20 _ _ h19 (fun ps z => by cases z), ?_, ?_⟩⟩
  · simp only [List.length_append, List.length_map, lF0, List.length_cons, List.length_nil]
    show 14 < sizeLine
    decide
  have b20 := e20 _ _ h19 (fun ps z => by cases z)
  have x20 : ExtB dl H17 (upd H20 dl (.lst (F0.map V.ref ++ [.ref f1] ++ [.ref f2]))) := x19.step e20
  have h20 : upd H20 dl (.lst (F0.map V.ref ++ [.ref f1] ++ [.ref f2])) dl = some (.lst (F0.map V.ref ++ [.ref f1] ++ [.ref f2])) := upd_same
  have s20 : StayD cs p2 cells dl H (upd H20 dl (.lst (F0.map V.ref ++ [.ref f1] ++ [.ref f2]))) := s19.append e20 t20 b20
  have m20_1 := (m19_1.extN e20).list (ys := (F0.map V.ref ++ [.ref f1] ++ [.ref f2])) b20
  have m20_2 := (Made.mk la2 lb2 lc2).list (ys := (F0.map V.ref ++ [.ref f1] ++ [.ref f2])) b20
  clear la2 lb2 lc2 e20 t20 b20 x19 h19 s19 m19_1
  refine ⟨_, rfl, .inl ⟨rfl, _, sq_of h20⟩, s20.tab, fun f3 c3 H21 _ e21 t21 la3 lb3 lc3 => ⟨_, _, _, rfl, rfl, e21 _ _ h20 (fun ps z => by cases z), ?_, ?_⟩⟩
  · simp only [List.length_append, List.length_map, lF0, List.length_cons, List.length_nil]
    show 15 < sizeLine
    decide
  have b21 := e21 _ _ h20 (fun ps z => by cases z)
  have x21 : ExtB dl H17 (upd H21 dl (.lst (F0.map V.ref ++ [.ref f1] ++ [.ref f2] ++ [.ref f3]))) := x20.step e21
  have h21 : upd H21 dl (.lst (F0.map V.ref ++ [.ref f1] ++ [.ref f2] ++ [.ref f3])) dl = some (.lst (F0.map V.ref ++ [.ref f1] ++ [.ref f2] ++ [.ref f3])) := upd_same
  have s21 : StayD cs p2 cells dl H (upd H21 dl (.lst (F0.map V.ref ++ [.ref f1] ++ [.ref f2] ++ [.ref f3]))) := s20.append e21 t21 b21
  have m21_1 := (m20_1.extN e21).list (ys := (F0.map V.ref ++ [.ref f1] ++ [.ref f2] ++ [.ref f3])) b21
  have m21_2 := (m20_2.extN e21).list (ys := (F0.map V.ref ++ [.ref f1] ++ [.ref f2] ++ [.ref f3])) b21
  have m21_3 := (Made.mk la3 lb3 lc3).list (ys := (F0.map V.ref ++ [.ref f1] ++ [.ref f2] ++ [.ref f3])) b21
  clear la3 lb3 lc3 e21 t21 b21 x20 h20 s20 m20_1 m20_2
  refine ⟨_, rfl, .inl ⟨rfl, _, sq_of h21⟩, s21.tab, fun f4 c4 H22 _ e22 t22 la4 lb4 lc4 => ⟨_, _, _, rfl, rfl, e22 _ _ h21 (fun ps z => by cases z), ?_, ?_⟩⟩
  · simp only [List.length_append, List.length_map, lF0, List.length_cons, List.length_nil]
    show 16 < sizeLine
    decide
  have b22 := e22 _ _ h21 (fun ps z => by cases z)
  have x22 : ExtB dl H17 (upd H22 dl (.lst (F0.map V.ref ++ [.ref f1] ++ [.ref f2] ++ [.ref f3] ++ [.ref f4]))) := x21.step e22
  have h22 : upd H22 dl (.lst (F0.map V.ref ++ [.ref f1] ++ [.ref f2] ++ [.ref f3] ++ [.ref f4])) dl = some (.lst (F0.map V.ref ++ [.ref f1] ++ [.ref f2] ++ [.ref f3] ++ [.ref f4])) := upd_same
  have s22 : StayD cs p2 cells dl H (upd H22 dl (.lst (F0.map V.ref ++ [.ref f1] ++ [.ref f2] ++ [.ref f3] ++ [.ref f4]))) := s21.append e22 t22 b22
  have m22_1 := (m21_1.extN e22).list (ys := (F0.map V.ref ++ [.ref f1] ++ [.ref f2] ++ [.ref f3] ++ [.ref f4])) b22
  have m22_2 := (m21_2.extN e22).list (ys := (F0.map V.ref ++ [.ref f1] ++ [.ref f2] ++ [.ref f3] ++ [.ref f4])) b22
  have m22_3 := (m21_3.extN e22).list (ys := (F0.map V.ref ++ [.ref f1] ++ [.ref f2] ++ [.ref f3] ++ [.ref f4])) b22
  have m22_4 := (Made.mk la4 lb4 lc4).list (ys := (F0.map V.ref ++ [.ref f1] ++ [.ref f2] ++ [.ref f3] ++ [.ref f4])) b22
  clear la4 lb4 lc4 e22 t22 b22 x21 h21 s21 m21_1 m21_2 m21_3
  refine ⟨_, rfl, fun val ck => ?_⟩
  have mk : maskOk (defScope s_law) ["script", "cell", "deck", "other", "doors", "bad", "land", "odd"] [false, false, false, false, false, false, true, true] = true := by decide +kernel
  have tm0 := (Tame.of x22.extN).trans (fun b => ⟨fun xs h => told_more (val := val) ck.gone h, fun xs h => told_more (val := val) ck.gone h⟩)
  refine ⟨dl, F0 ++ [f1, f2, f3, f4], T.C_NoLand, _, rfl, (told_more ck.gone h22).trans (congrArg (fun l => some (HO.lst l)) (by simp)), fun g hg => ?_, says_NoLand T, fun H23 e23 => ⟨fun d hd => e23 _ _ (told_in hd), _, rfl, iteF ?_⟩⟩
  · rw [List.mem_append] at hg
    simp only [List.mem_cons, List.not_mem_nil, or_false] at hg
    rcases hg with hg | rfl | rfl | rfl | rfl
    · exact (dF0 g hg).ex (x22.extN.trans fun b o h _ => told_more ck.gone h)
    · refine door_tame (tb := fun E => tCallS (spByLand T.C_NoLand T.C_NoDay) (fun _ cls d H2 => E cls d H2) (tCons (tVar 7) (tCons (tC .non) tNil))) (show LamX.LamS (defScope s_law) _ from LamX.lamS_by (by decide +kernel)) (m22_1.live ck mk) (fun _ _ _ _ _ => rfl) (fun Z s H E h1 h2 h3 h4 h5 room => ?_) fun H' E Q tm out => ?_
      rotate_left
      · exact ⟨_, rfl, od, .non, rfl, .inl ⟨nol17.tame (tm0.trans tm), out⟩⟩
      · subst h1 h2 h3 h4 h5
        exact pe_doorCall N_date room (by decide) rfl T.date.g T.date.F.kp T.date.b (pa_cons (pv 7) (pa_cons pe_non pa_nil))
    · refine door_tame (tb := fun E => tCallS (spPartNo T.C_NoLand) (fun _ cls d H2 => E cls d H2) (tCons (tVar 7) (tCons (tC .non) tNil))) (show LamX.LamS (defScope s_law) _ from LamX.lamS_by (by decide +kernel)) (m22_2.live ck mk) (fun _ _ _ _ _ => rfl) (fun Z s H E h1 h2 h3 h4 h5 room => ?_) fun H' E Q tm out => ?_
      rotate_left
      · exact ⟨_, rfl, od, .non, rfl, .inl ⟨nol17.tame (tm0.trans tm), out⟩⟩
      · subst h1 h2 h3 h4 h5
        exact pe_doorCall N_alike room (by decide) rfl T.alike.g T.alike.F.kp T.alike.b (pa_cons (pv 7) (pa_cons pe_non pa_nil))
    · refine door_tame (tb := fun E => tCallS (spPartNo T.C_NoLand) (fun _ cls d H2 => E cls d H2) (tCons (tVar 6) (tCons (tVar 7) tNil))) (show LamX.LamS (defScope s_law) _ from LamX.lamS_by (by decide +kernel)) (m22_3.live ck mk) (fun _ _ _ _ _ => rfl) (fun Z s H E h1 h2 h3 h4 h5 room => ?_) fun H' E Q tm out => ?_
      rotate_left
      · exact ⟨_, rfl, _, rfl, .ref la, od, rfl, .inr ⟨D, T1, B, S, l17.tame (tm0.trans tm), nol17.tame (tm0.trans tm), out⟩⟩
      · subst h1 h2 h3 h4 h5
        exact pe_doorCall N_first_parting room (by decide) rfl T.first_parting.g T.first_parting.F.kp T.first_parting.b (pa_cons (pv 6) (pa_cons (pv 7) pa_nil))
    · refine door_tame (tb := fun E => tMake T.C_Realm (spInitNo T.C_NoLand) [] (fun cls d H2 => E cls d H2) (tCons (tVar 7) tNil)) (show LamX.LamS (defScope s_law) _ from LamX.lamS_by (by decide +kernel)) (m22_4.live ck mk) (fun _ _ _ _ _ => rfl) (fun Z s H E h1 h2 h3 h4 h5 room => ?_) fun H' E Q tm out => ?_
      rotate_left
      · exact ⟨_, rfl, fun x dx nx ndx ne => ⟨.ref x, od, rfl, (nol17.tame (tm0.trans tm)).ex (new2 nx ndx ne), out.mono (new2 nx ndx ne)⟩⟩
      · subst h1 h2 h3 h4 h5
        exact pe_doorMake T.mk_Realm N_init room (by decide) rfl T.g_Realm T.Realm_init.b (pa_cons (pv 7) pa_nil)
  have e24 := ex_told ck.gone e23
  have s24 := (s22.ex e24).stay
  have tm24 := (Tame.of x22.extN).trans (Tame.ofEx e24)
  have nol24 := nol17.tame tm24
  have l24 := l17.tame tm24
  have l24' := l17'.tame tm24
  generalize less H23 _ = H24 at e24 s24 tm24 nol24 l24 l24' ⊢
  clear mk tm0 ck e23 e24 tm24 dF0 lF0 x22 h22 s22 m22_1 m22_2 m22_3 m22_4 nol17 l17 l17'
  have dD : 0 < D := by omega
  have dD' : 0 < D' := by obtain ⟨_, _, _, r, _⟩ := l24'; omega
  refine ⟨_, rfl, _, rfl, .ref la, .int 0, od, .non, T.C_NoLand, rfl, s24.tab, .other l24 ⟨by omega, by omega⟩ nol24 isC_out, fun a4 fs4 H25 _ e25 t25 ha4 d4 => ⟨a4, fs4, T.C_NoLand, _, rfl, ha4, d4, says_NoLand T, fun H26 e26 => ⟨_, rfl, iteF ?_⟩⟩⟩
  have s26 := (s24.extN e25 t25).ex e26
  have tm26 := (Tame.of e25).trans (Tame.ofEx e26)
  have l26 := l24.tame tm26
  have l26' := l24'.tame tm26
  clear s24 nol24 l24 l24' e25 t25 ha4 d4 e26 tm26
  refine ⟨_, rfl, _, rfl, .ref la, v', D, T1, B, S, D', T', B', S', rfl, s26.tab, l26, l26', fun H27 e27 t27 => ⟨_, rfl, iteF ?_⟩⟩
  have s27 := s26.extN e27 t27
  have l27 := l26.tame (Tame.of e27)
  have l27' := l26'.tame (Tame.of e27)
  clear s26 l26 l26' e27 t27
  obtain ⟨lb, eb, hlb, _⟩ := id l27
  cases eb
  refine ⟨_, rfl, _, rfl, la, _, 0, _, rfl, rfl, st_of hlb, rfl, by show 5 ≤ sizeLine; decide, fun p28 n28 => ⟨p28, rfl, ⟨_, sq_of upd_same⟩, ?_⟩⟩
  have y28 := Ex.new n28 (o := .lst [.non, .bl true, .int (-1), .int D, .str "0"])
  refine for_list (xs := [.non, .bl true, .int (-1), .int D, .str "0"]) (fun i σ H' => (∃ z, σ = [some (.ref a), some (.int cl), some (.ref d), some v', some (.ref dl), z, some (.ref la), some od]) ∧ Stay cs p2 cells H H' ∧ Stay cs p28 [.non, .bl true, .int (-1), .int D, .str "0"] H27 H') ⟨⟨_, rfl⟩, s27.ex y28, upd_same, LamX.ExtN.of y28, (s27.ex y28).tab⟩ (fun i σ H' _ h => sq_of h.2.2.lst) ?_ ?_
  · clear y28
    rintro j x σ H29 hx ⟨⟨z, rfl⟩, s29, r29⟩
    have bad : ∀ {H' : Hp}, Bad H' x 0 (D - 1) := fun {H'} => five_bad (x3 := .non) (x4 := .non) hx (by omega) (by omega)
    refine ⟨_, rfl, _, rfl, .ref la, x, .non, .non, T.C_NoPlace, rfl, s29.tab, .place (l27.tame (Tame.of r29.ext)) bad isC_out, fun a5 fs5 H30 len5 e30 t30 ha5 d5 => ?_⟩
    have s30 := s29.extN e30 t30
    have r30 := r29.extN e30 t30
    refine ⟨_, rfl, _, rfl, .ref la, x, .non, .non, T.C_NoPlace, rfl, s30.tab, .place (l27.tame (Tame.of r30.ext)) bad isC_out, fun a6 fs6 H31 len6 e31 t31 ha6 d6 => ?_⟩
    have s31 := s30.extN e31 t31
    have r31 := r30.extN e31 t31
    refine ⟨a5, a6, _, _, rfl, rfl, sq_of (e31 _ _ ha5 fun ps z => by cases z), sq_of ha6, ?_, fun p32 n32 => ?_⟩
    · rw [List.length_map, List.length_map, len5, len6]
      show 9 ≤ sizeLine
      decide
    have y32 := Ex.new n32 (o := .lst (fs5.map V.ref ++ fs6.map V.ref))
    refine ⟨p32, fs5 ++ fs6, T.C_NoPlace, _, rfl, upd_same.trans (congrArg (fun l => some (HO.lst l)) (by rw [List.map_append])), fun g hg => ?_, says_NoPlace T, fun H33 e33 => ⟨_, rfl, iteF ⟨⟨_, rfl⟩, (s31.ex y32).ex e33, (r31.ex y32).ex e33⟩⟩⟩
    rcases List.mem_append.mp hg with hg | hg
    · exact (d5 g hg).ex (e31.trans (LamX.ExtN.of y32))
    · exact (d6 g hg).ex (LamX.ExtN.of y32)
  rintro σ H29 ⟨⟨z, rfl⟩, s29, r29⟩
  have l29 := l27.tame (Tame.of r29.ext)
  have l29' := l27'.tame (Tame.of r29.ext)
  clear s27 l27 l27' r29 y28 n28 hlb
  obtain ⟨lo, rfl, hlo, _⟩ := id l29'
  have bo : ∀ {H' : Hp}, Bad H' (.int D') 0 (D' - 1) := fun {H'} => five_bad (i := 3) (x3 := .non) (x4 := .non) (j3 := -1) (s := "") rfl (by omega) (by omega)
  refine ⟨_, rfl, _, rfl, _, rfl, lo, _, 0, _, rfl, rfl, st_of hlo, rfl, .ref la, .int 0, .ref lo, .int D', T.C_NoPlace, rfl, s29.tab, .there l29 ⟨by omega, by omega⟩ l29' bo isC_out, fun a7 fs7 H30 _ e30 t30 ha7 d7 => ⟨a7, fs7, T.C_NoPlace, _, rfl, ha7, d7, says_NoPlace T, fun H31 e31 => ⟨_, rfl, iteF ?_⟩⟩⟩
  have s31 := (s29.extN e30 t30).ex e31
  have l31 := l29.tame ((Tame.of e30).trans (Tame.ofEx e31))
  clear s29 l29 l29' e30 t30 ha7 d7 e31 bo hlo
  refine ⟨by show 5 ≤ sizeLine; decide, fun p32 n32 => ⟨p32, rfl, ⟨_, sq_of upd_same⟩, ?_⟩⟩
  have y32 := Ex.new n32 (o := .lst [.non, .bl true, .int 0, .int 21, .str "7"])
  refine for_list (xs := [.non, .bl true, .int 0, .int 21, .str "7"]) (fun i σ H' => (∃ z, σ = [some (.ref a), some (.int cl), some (.ref d), some (.ref lo), some (.ref dl), z, some (.ref la), some od]) ∧ Stay cs p2 cells H H' ∧ Stay cs p32 [.non, .bl true, .int 0, .int 21, .str "7"] H31 H') ⟨⟨_, rfl⟩, s31.ex y32, upd_same, LamX.ExtN.of y32, (s31.ex y32).tab⟩ (fun i σ H' _ h => sq_of h.2.2.lst) ?_ ?_
  · clear y32
    rintro j x σ H33 hx ⟨⟨z, rfl⟩, s33, r33⟩
    have bad : ∀ {H' : Hp}, Bad H' x 1 20 := fun {H'} => five_bad (x3 := .non) (x4 := .non) hx (by omega) (by omega)
    refine ⟨_, rfl, _, rfl, .ref la, .int 0, x, .non, T.C_NoWeek, rfl, s33.tab, .week (l31.tame (Tame.of r33.ext)) ⟨by omega, by omega⟩ bad isC_out, fun a8 fs8 H34 _ e34 t34 ha8 d8 => ⟨a8, fs8, T.C_NoWeek, _, rfl, ha8, d8, says_NoWeek T, fun H35 e35 => ⟨_, rfl, iteF ⟨⟨_, rfl⟩, (s33.extN e34 t34).ex e35, (r33.extN e34 t34).ex e35⟩⟩⟩⟩
  rintro σ H33 ⟨⟨z, rfl⟩, s33, r33⟩
  have l33 := l31.tame (Tame.of r33.ext)
  clear s31 l31 r33 y32 n32
  refine ⟨_, rfl, by show 5 ≤ sizeLine; decide, fun p36 n36 => ⟨p36, rfl, ⟨_, sq_of upd_same⟩, ?_⟩⟩
  have y36 := Ex.new n36 (o := .lst [.non, .bl true, .int (-1), .int 7, .str "0"])
  refine for_list (xs := [.non, .bl true, .int (-1), .int 7, .str "0"]) (fun i σ H' => (∃ z, σ = [some (.ref a), some (.int cl), some (.ref d), some (.ref lo), some (.ref dl), z, some (.ref la), some od]) ∧ Stay cs p2 cells H H' ∧ Stay cs p36 [.non, .bl true, .int (-1), .int 7, .str "0"] H33 H') ⟨⟨_, rfl⟩, s33.ex y36, upd_same, LamX.ExtN.of y36, (s33.ex y36).tab⟩ (fun i σ H' _ h => sq_of h.2.2.lst) ?_ ?_
  · clear y36
    rintro j x σ H37 hx ⟨⟨z, rfl⟩, s37, r37⟩
    have bad : ∀ {H' : Hp}, Bad H' x 0 (7 - 1) := fun {H'} => five_bad (x3 := .non) (x4 := .non) hx (by omega) (by omega)
    refine ⟨_, rfl, _, rfl, .ref la, .int 0, .int 7, x, T.C_NoName, rfl, s37.tab, .name (l33.tame (Tame.of r37.ext)) ⟨by omega, by omega⟩ ⟨by omega, by omega⟩ bad isC_out, fun a9 fs9 H38 _ e38 t38 ha9 d9 => ⟨a9, fs9, T.C_NoName, _, rfl, ha9, d9, says_NoName T, fun H39 e39 => ⟨_, rfl, iteF ⟨⟨_, rfl⟩, (s37.extN e38 t38).ex e39, (r37.extN e38 t38).ex e39⟩⟩⟩⟩
  rintro σ H37 ⟨⟨z, rfl⟩, s37, _⟩
  exact ⟨⟨_, _, _, _, _, _, _, rfl⟩, s37⟩
end

theorem one_of {p : Addr} {q : Str} : ∀ {cs : List (Addr × Str)}, (cs.map (·.1)).Nodup → (p, q) ∈ cs → ∀ y ∈ cs, y.1 = p → y.2 = q
  | [], _, m, _, _, _ => by cases m
  | z :: cs, nd, m, y, hy, e => by
    rw [List.map_cons, List.nodup_cons] at nd
    rcases List.mem_cons.mp m with rfl | m1
    · rcases List.mem_cons.mp hy with rfl | later
      · rfl
      · exact absurd (List.mem_map.mpr ⟨y, later, e⟩) nd.1
    · rcases List.mem_cons.mp hy with rfl | later
      · exact absurd (List.mem_map.mpr ⟨(p, q), m1, e.symm⟩) nd.1
      · exact one_of nd.2 m1 y later e

theorem all_mk {l : PySem.W.OpenLaw} {w : World} {K : PySem.W.Frag} {h : Heap} {mg : Str → Option Value} {fa : Addr} (X : K.In h) (G : h.Ns mainGlobals mg) (hfa : mg "law" = some (.ref fa))
    {f0 : Addr} {od0 an0 : Option Addr} {sl0 : Array (Option Value)} {oc0 kV0 dc0 pm0 cd0 ct0 : Value}
    (ya0 : PySem.W.nsIn K mainGlobals "_wall" = some (some (.ref f0))) (yl0 : K.lookup f0 = some ⟨oc0, od0, .func (PySem.W.fnOf "_wall" "_wall" (defArgs s__wall) (defBody s__wall) (defScope s__wall) .none kV0 dc0 pm0 an0 cd0 ct0), sl0⟩) (yc0 : PySem.W.codeIn K cd0 "_wall" = true) (yk0 : PySem.W.keepIn K (.ref f0) = true)
    {f1 : Addr} {od1 an1 : Option Addr} {sl1 : Array (Option Value)} {oc1 kV1 dc1 pm1 cd1 ct1 : Value}
    (ya1 : PySem.W.nsIn K mainGlobals "is_whole" = some (some (.ref f1))) (yl1 : K.lookup f1 = some ⟨oc1, od1, .func (PySem.W.fnOf "is_whole" "is_whole" (defArgs s_is_whole) (defBody s_is_whole) (defScope s_is_whole) .none kV1 dc1 pm1 an1 cd1 ct1), sl1⟩) (yc1 : PySem.W.codeIn K cd1 "is_whole" = true) (yk1 : PySem.W.keepIn K (.ref f1) = true)
    {f2 : Addr} {od2 an2 : Option Addr} {sl2 : Array (Option Value)} {oc2 kV2 dc2 pm2 cd2 ct2 : Value}
    (ya2 : PySem.W.nsIn K mainGlobals "is_between" = some (some (.ref f2))) (yl2 : K.lookup f2 = some ⟨oc2, od2, .func (PySem.W.fnOf "is_between" "is_between" (defArgs s_is_between) (defBody s_is_between) (defScope s_is_between) .none kV2 dc2 pm2 an2 cd2 ct2), sl2⟩) (yc2 : PySem.W.codeIn K cd2 "is_between" = true) (yk2 : PySem.W.keepIn K (.ref f2) = true)
    {f3 : Addr} {od3 an3 : Option Addr} {sl3 : Array (Option Value)} {oc3 kV3 dc3 pm3 cd3 ct3 : Value}
    (ya3 : PySem.W.nsIn K mainGlobals "common_measure" = some (some (.ref f3))) (yl3 : K.lookup f3 = some ⟨oc3, od3, .func (PySem.W.fnOf "common_measure" "common_measure" (defArgs s_common_measure) (defBody s_common_measure) (defScope s_common_measure) .none kV3 dc3 pm3 an3 cd3 ct3), sl3⟩) (yc3 : PySem.W.codeIn K cd3 "common_measure" = true) (yk3 : PySem.W.keepIn K (.ref f3) = true)
    {f4 : Addr} {od4 an4 : Option Addr} {sl4 : Array (Option Value)} {oc4 kV4 dc4 pm4 cd4 ct4 : Value}
    (ya4 : PySem.W.nsIn K mainGlobals "undoing_factor" = some (some (.ref f4))) (yl4 : K.lookup f4 = some ⟨oc4, od4, .func (PySem.W.fnOf "undoing_factor" "undoing_factor" (defArgs s_undoing_factor) (defBody s_undoing_factor) (defScope s_undoing_factor) .none kV4 dc4 pm4 an4 cd4 ct4), sl4⟩) (yc4 : PySem.W.codeIn K cd4 "undoing_factor" = true) (yk4 : PySem.W.keepIn K (.ref f4) = true)
    {f5 : Addr} {od5 an5 : Option Addr} {sl5 : Array (Option Value)} {oc5 kV5 dc5 pm5 cd5 ct5 : Value}
    (ya5 : PySem.W.nsIn K mainGlobals "is_land" = some (some (.ref f5))) (yl5 : K.lookup f5 = some ⟨oc5, od5, .func (PySem.W.fnOf "is_land" "is_land" (defArgs s_is_land) (defBody s_is_land) (defScope s_is_land) .none kV5 dc5 pm5 an5 cd5 ct5), sl5⟩) (yc5 : PySem.W.codeIn K cd5 "is_land" = true) (yk5 : PySem.W.keepIn K (.ref f5) = true)
    {f6 : Addr} {od6 an6 : Option Addr} {sl6 : Array (Option Value)} {oc6 kV6 dc6 pm6 cd6 ct6 : Value}
    (ya6 : PySem.W.nsIn K mainGlobals "need_land" = some (some (.ref f6))) (yl6 : K.lookup f6 = some ⟨oc6, od6, .func (PySem.W.fnOf "need_land" "need_land" (defArgs s_need_land) (defBody s_need_land) (defScope s_need_land) .none kV6 dc6 pm6 an6 cd6 ct6), sl6⟩) (yc6 : PySem.W.codeIn K cd6 "need_land" = true) (yk6 : PySem.W.keepIn K (.ref f6) = true)
    {f7 : Addr} {od7 an7 : Option Addr} {sl7 : Array (Option Value)} {oc7 kV7 dc7 pm7 cd7 ct7 : Value}
    (ya7 : PySem.W.nsIn K mainGlobals "need_year" = some (some (.ref f7))) (yl7 : K.lookup f7 = some ⟨oc7, od7, .func (PySem.W.fnOf "need_year" "need_year" (defArgs s_need_year) (defBody s_need_year) (defScope s_need_year) .none kV7 dc7 pm7 an7 cd7 ct7), sl7⟩) (yc7 : PySem.W.codeIn K cd7 "need_year" = true) (yk7 : PySem.W.keepIn K (.ref f7) = true)
    {f8 : Addr} {od8 an8 : Option Addr} {sl8 : Array (Option Value)} {oc8 kV8 dc8 pm8 cd8 ct8 : Value}
    (ya8 : PySem.W.nsIn K mainGlobals "need_years" = some (some (.ref f8))) (yl8 : K.lookup f8 = some ⟨oc8, od8, .func (PySem.W.fnOf "need_years" "need_years" (defArgs s_need_years) (defBody s_need_years) (defScope s_need_years) .none kV8 dc8 pm8 an8 cd8 ct8), sl8⟩) (yc8 : PySem.W.codeIn K cd8 "need_years" = true) (yk8 : PySem.W.keepIn K (.ref f8) = true)
    {f9 : Addr} {od9 an9 : Option Addr} {sl9 : Array (Option Value)} {oc9 kV9 dc9 pm9 cd9 ct9 : Value}
    (ya9 : PySem.W.nsIn K mainGlobals "need_day" = some (some (.ref f9))) (yl9 : K.lookup f9 = some ⟨oc9, od9, .func (PySem.W.fnOf "need_day" "need_day" (defArgs s_need_day) (defBody s_need_day) (defScope s_need_day) .none kV9 dc9 pm9 an9 cd9 ct9), sl9⟩) (yc9 : PySem.W.codeIn K cd9 "need_day" = true) (yk9 : PySem.W.keepIn K (.ref f9) = true)
    {f10 : Addr} {od10 an10 : Option Addr} {sl10 : Array (Option Value)} {oc10 kV10 dc10 pm10 cd10 ct10 : Value}
    (ya10 : PySem.W.nsIn K mainGlobals "need_days" = some (some (.ref f10))) (yl10 : K.lookup f10 = some ⟨oc10, od10, .func (PySem.W.fnOf "need_days" "need_days" (defArgs s_need_days) (defBody s_need_days) (defScope s_need_days) .none kV10 dc10 pm10 an10 cd10 ct10), sl10⟩) (yc10 : PySem.W.codeIn K cd10 "need_days" = true) (yk10 : PySem.W.keepIn K (.ref f10) = true)
    {f11 : Addr} {od11 an11 : Option Addr} {sl11 : Array (Option Value)} {oc11 kV11 dc11 pm11 cd11 ct11 : Value}
    (ya11 : PySem.W.nsIn K mainGlobals "need_place" = some (some (.ref f11))) (yl11 : K.lookup f11 = some ⟨oc11, od11, .func (PySem.W.fnOf "need_place" "need_place" (defArgs s_need_place) (defBody s_need_place) (defScope s_need_place) .none kV11 dc11 pm11 an11 cd11 ct11), sl11⟩) (yc11 : PySem.W.codeIn K cd11 "need_place" = true) (yk11 : PySem.W.keepIn K (.ref f11) = true)
    {f12 : Addr} {od12 an12 : Option Addr} {sl12 : Array (Option Value)} {oc12 kV12 dc12 pm12 cd12 ct12 : Value}
    (ya12 : PySem.W.nsIn K mainGlobals "step_of" = some (some (.ref f12))) (yl12 : K.lookup f12 = some ⟨oc12, od12, .func (PySem.W.fnOf "step_of" "step_of" (defArgs s_step_of) (defBody s_step_of) (defScope s_step_of) .none kV12 dc12 pm12 an12 cd12 ct12), sl12⟩) (yc12 : PySem.W.codeIn K cd12 "step_of" = true) (yk12 : PySem.W.keepIn K (.ref f12) = true)
    {f13 : Addr} {od13 an13 : Option Addr} {sl13 : Array (Option Value)} {oc13 kV13 dc13 pm13 cd13 ct13 : Value}
    (ya13 : PySem.W.nsIn K mainGlobals "first_day" = some (some (.ref f13))) (yl13 : K.lookup f13 = some ⟨oc13, od13, .func (PySem.W.fnOf "first_day" "first_day" (defArgs s_first_day) (defBody s_first_day) (defScope s_first_day) .none kV13 dc13 pm13 an13 cd13 ct13), sl13⟩) (yc13 : PySem.W.codeIn K cd13 "first_day" = true) (yk13 : PySem.W.keepIn K (.ref f13) = true)
    {f14 : Addr} {od14 an14 : Option Addr} {sl14 : Array (Option Value)} {oc14 kV14 dc14 pm14 cd14 ct14 : Value}
    (ya14 : PySem.W.nsIn K mainGlobals "date_of" = some (some (.ref f14))) (yl14 : K.lookup f14 = some ⟨oc14, od14, .func (PySem.W.fnOf "date_of" "date_of" (defArgs s_date_of) (defBody s_date_of) (defScope s_date_of) .none kV14 dc14 pm14 an14 cd14 ct14), sl14⟩) (yc14 : PySem.W.codeIn K cd14 "date_of" = true) (yk14 : PySem.W.keepIn K (.ref f14) = true)
    {f15 : Addr} {od15 an15 : Option Addr} {sl15 : Array (Option Value)} {oc15 kV15 dc15 pm15 cd15 ct15 : Value}
    (ya15 : PySem.W.nsIn K mainGlobals "added_days" = some (some (.ref f15))) (yl15 : K.lookup f15 = some ⟨oc15, od15, .func (PySem.W.fnOf "added_days" "added_days" (defArgs s_added_days) (defBody s_added_days) (defScope s_added_days) .none kV15 dc15 pm15 an15 cd15 ct15), sl15⟩) (yc15 : PySem.W.codeIn K cd15 "added_days" = true) (yk15 : PySem.W.keepIn K (.ref f15) = true)
    {f16 : Addr} {od16 an16 : Option Addr} {sl16 : Array (Option Value)} {oc16 kV16 dc16 pm16 cd16 ct16 : Value}
    (ya16 : PySem.W.nsIn K mainGlobals "begin" = some (some (.ref f16))) (yl16 : K.lookup f16 = some ⟨oc16, od16, .func (PySem.W.fnOf "begin" "begin" (defArgs s_begin) (defBody s_begin) (defScope s_begin) .none kV16 dc16 pm16 an16 cd16 ct16), sl16⟩) (yc16 : PySem.W.codeIn K cd16 "begin" = true) (yk16 : PySem.W.keepIn K (.ref f16) = true)
    {f17 : Addr} {od17 an17 : Option Addr} {sl17 : Array (Option Value)} {oc17 kV17 dc17 pm17 cd17 ct17 : Value}
    (ya17 : PySem.W.nsIn K mainGlobals "date" = some (some (.ref f17))) (yl17 : K.lookup f17 = some ⟨oc17, od17, .func (PySem.W.fnOf "date" "date" (defArgs s_date) (defBody s_date) (defScope s_date) .none kV17 dc17 pm17 an17 cd17 ct17), sl17⟩) (yc17 : PySem.W.codeIn K cd17 "date" = true) (yk17 : PySem.W.keepIn K (.ref f17) = true)
    {f18 : Addr} {od18 an18 : Option Addr} {sl18 : Array (Option Value)} {oc18 kV18 dc18 pm18 cd18 ct18 : Value}
    (ya18 : PySem.W.nsIn K mainGlobals "is_long" = some (some (.ref f18))) (yl18 : K.lookup f18 = some ⟨oc18, od18, .func (PySem.W.fnOf "is_long" "is_long" (defArgs s_is_long) (defBody s_is_long) (defScope s_is_long) .none kV18 dc18 pm18 an18 cd18 ct18), sl18⟩) (yc18 : PySem.W.codeIn K cd18 "is_long" = true) (yk18 : PySem.W.keepIn K (.ref f18) = true)
    {f19 : Addr} {od19 an19 : Option Addr} {sl19 : Array (Option Value)} {oc19 kV19 dc19 pm19 cd19 ct19 : Value}
    (ya19 : PySem.W.nsIn K mainGlobals "next_long" = some (some (.ref f19))) (yl19 : K.lookup f19 = some ⟨oc19, od19, .func (PySem.W.fnOf "next_long" "next_long" (defArgs s_next_long) (defBody s_next_long) (defScope s_next_long) .none kV19 dc19 pm19 an19 cd19 ct19), sl19⟩) (yc19 : PySem.W.codeIn K cd19 "next_long" = true) (yk19 : PySem.W.keepIn K (.ref f19) = true)
    {f20 : Addr} {od20 an20 : Option Addr} {sl20 : Array (Option Value)} {oc20 kV20 dc20 pm20 cd20 ct20 : Value}
    (ya20 : PySem.W.nsIn K mainGlobals "long_years" = some (some (.ref f20))) (yl20 : K.lookup f20 = some ⟨oc20, od20, .func (PySem.W.fnOf "long_years" "long_years" (defArgs s_long_years) (defBody s_long_years) (defScope s_long_years) .none kV20 dc20 pm20 an20 cd20 ct20), sl20⟩) (yc20 : PySem.W.codeIn K cd20 "long_years" = true) (yk20 : PySem.W.keepIn K (.ref f20) = true)
    {f21 : Addr} {od21 an21 : Option Addr} {sl21 : Array (Option Value)} {oc21 kV21 dc21 pm21 cd21 ct21 : Value}
    (ya21 : PySem.W.nsIn K mainGlobals "need_week" = some (some (.ref f21))) (yl21 : K.lookup f21 = some ⟨oc21, od21, .func (PySem.W.fnOf "need_week" "need_week" (defArgs s_need_week) (defBody s_need_week) (defScope s_need_week) .none kV21 dc21 pm21 an21 cd21 ct21), sl21⟩) (yc21 : PySem.W.codeIn K cd21 "need_week" = true) (yk21 : PySem.W.keepIn K (.ref f21) = true)
    {f22 : Addr} {od22 an22 : Option Addr} {sl22 : Array (Option Value)} {oc22 kV22 dc22 pm22 cd22 ct22 : Value}
    (ya22 : PySem.W.nsIn K mainGlobals "need_name" = some (some (.ref f22))) (yl22 : K.lookup f22 = some ⟨oc22, od22, .func (PySem.W.fnOf "need_name" "need_name" (defArgs s_need_name) (defBody s_need_name) (defScope s_need_name) .none kV22 dc22 pm22 an22 cd22 ct22), sl22⟩) (yc22 : PySem.W.codeIn K cd22 "need_name" = true) (yk22 : PySem.W.keepIn K (.ref f22) = true)
    {f23 : Addr} {od23 an23 : Option Addr} {sl23 : Array (Option Value)} {oc23 kV23 dc23 pm23 cd23 ct23 : Value}
    (ya23 : PySem.W.nsIn K mainGlobals "need_asked" = some (some (.ref f23))) (yl23 : K.lookup f23 = some ⟨oc23, od23, .func (PySem.W.fnOf "need_asked" "need_asked" (defArgs s_need_asked) (defBody s_need_asked) (defScope s_need_asked) .none kV23 dc23 pm23 an23 cd23 ct23), sl23⟩) (yc23 : PySem.W.codeIn K cd23 "need_asked" = true) (yk23 : PySem.W.keepIn K (.ref f23) = true)
    {f24 : Addr} {od24 an24 : Option Addr} {sl24 : Array (Option Value)} {oc24 kV24 dc24 pm24 cd24 ct24 : Value}
    (ya24 : PySem.W.nsIn K mainGlobals "ring_of" = some (some (.ref f24))) (yl24 : K.lookup f24 = some ⟨oc24, od24, .func (PySem.W.fnOf "ring_of" "ring_of" (defArgs s_ring_of) (defBody s_ring_of) (defScope s_ring_of) .none kV24 dc24 pm24 an24 cd24 ct24), sl24⟩) (yc24 : PySem.W.codeIn K cd24 "ring_of" = true) (yk24 : PySem.W.keepIn K (.ref f24) = true)
    {f25 : Addr} {od25 an25 : Option Addr} {sl25 : Array (Option Value)} {oc25 kV25 dc25 pm25 cd25 ct25 : Value}
    (ya25 : PySem.W.nsIn K mainGlobals "shared_measure" = some (some (.ref f25))) (yl25 : K.lookup f25 = some ⟨oc25, od25, .func (PySem.W.fnOf "shared_measure" "shared_measure" (defArgs s_shared_measure) (defBody s_shared_measure) (defScope s_shared_measure) .none kV25 dc25 pm25 an25 cd25 ct25), sl25⟩) (yc25 : PySem.W.codeIn K cd25 "shared_measure" = true) (yk25 : PySem.W.keepIn K (.ref f25) = true)
    {f26 : Addr} {od26 an26 : Option Addr} {sl26 : Array (Option Value)} {oc26 kV26 dc26 pm26 cd26 ct26 : Value}
    (ya26 : PySem.W.nsIn K mainGlobals "cycle_of" = some (some (.ref f26))) (yl26 : K.lookup f26 = some ⟨oc26, od26, .func (PySem.W.fnOf "cycle_of" "cycle_of" (defArgs s_cycle_of) (defBody s_cycle_of) (defScope s_cycle_of) .none kV26 dc26 pm26 an26 cd26 ct26), sl26⟩) (yc26 : PySem.W.codeIn K cd26 "cycle_of" = true) (yk26 : PySem.W.keepIn K (.ref f26) = true)
    {f27 : Addr} {od27 an27 : Option Addr} {sl27 : Array (Option Value)} {oc27 kV27 dc27 pm27 cd27 ct27 : Value}
    (ya27 : PySem.W.nsIn K mainGlobals "falls" = some (some (.ref f27))) (yl27 : K.lookup f27 = some ⟨oc27, od27, .func (PySem.W.fnOf "falls" "falls" (defArgs s_falls) (defBody s_falls) (defScope s_falls) .none kV27 dc27 pm27 an27 cd27 ct27), sl27⟩) (yc27 : PySem.W.codeIn K cd27 "falls" = true) (yk27 : PySem.W.keepIn K (.ref f27) = true)
    {f28 : Addr} {od28 an28 : Option Addr} {sl28 : Array (Option Value)} {oc28 kV28 dc28 pm28 cd28 ct28 : Value}
    (ya28 : PySem.W.nsIn K mainGlobals "falling_years" = some (some (.ref f28))) (yl28 : K.lookup f28 = some ⟨oc28, od28, .func (PySem.W.fnOf "falling_years" "falling_years" (defArgs s_falling_years) (defBody s_falling_years) (defScope s_falling_years) .none kV28 dc28 pm28 an28 cd28 ct28), sl28⟩) (yc28 : PySem.W.codeIn K cd28 "falling_years" = true) (yk28 : PySem.W.keepIn K (.ref f28) = true)
    {f29 : Addr} {od29 an29 : Option Addr} {sl29 : Array (Option Value)} {oc29 kV29 dc29 pm29 cd29 ct29 : Value}
    (ya29 : PySem.W.nsIn K mainGlobals "next_year" = some (some (.ref f29))) (yl29 : K.lookup f29 = some ⟨oc29, od29, .func (PySem.W.fnOf "next_year" "next_year" (defArgs s_next_year) (defBody s_next_year) (defScope s_next_year) .none kV29 dc29 pm29 an29 cd29 ct29), sl29⟩) (yc29 : PySem.W.codeIn K cd29 "next_year" = true) (yk29 : PySem.W.keepIn K (.ref f29) = true)
    {f30 : Addr} {od30 an30 : Option Addr} {sl30 : Array (Option Value)} {oc30 kV30 dc30 pm30 cd30 ct30 : Value}
    (ya30 : PySem.W.nsIn K mainGlobals "how_many" = some (some (.ref f30))) (yl30 : K.lookup f30 = some ⟨oc30, od30, .func (PySem.W.fnOf "how_many" "how_many" (defArgs s_how_many) (defBody s_how_many) (defScope s_how_many) .none kV30 dc30 pm30 an30 cd30 ct30), sl30⟩) (yc30 : PySem.W.codeIn K cd30 "how_many" = true) (yk30 : PySem.W.keepIn K (.ref f30) = true)
    {f31 : Addr} {od31 an31 : Option Addr} {sl31 : Array (Option Value)} {oc31 kV31 dc31 pm31 cd31 ct31 : Value}
    (ya31 : PySem.W.nsIn K mainGlobals "lengths" = some (some (.ref f31))) (yl31 : K.lookup f31 = some ⟨oc31, od31, .func (PySem.W.fnOf "lengths" "lengths" (defArgs s_lengths) (defBody s_lengths) (defScope s_lengths) .none kV31 dc31 pm31 an31 cd31 ct31), sl31⟩) (yc31 : PySem.W.codeIn K cd31 "lengths" = true) (yk31 : PySem.W.keepIn K (.ref f31) = true)
    {f32 : Addr} {od32 an32 : Option Addr} {sl32 : Array (Option Value)} {oc32 kV32 dc32 pm32 cd32 ct32 : Value}
    (ya32 : PySem.W.nsIn K mainGlobals "is_barring" = some (some (.ref f32))) (yl32 : K.lookup f32 = some ⟨oc32, od32, .func (PySem.W.fnOf "is_barring" "is_barring" (defArgs s_is_barring) (defBody s_is_barring) (defScope s_is_barring) .none kV32 dc32 pm32 an32 cd32 ct32), sl32⟩) (yc32 : PySem.W.codeIn K cd32 "is_barring" = true) (yk32 : PySem.W.keepIn K (.ref f32) = true)
    {f33 : Addr} {od33 an33 : Option Addr} {sl33 : Array (Option Value)} {oc33 kV33 dc33 pm33 cd33 ct33 : Value}
    (ya33 : PySem.W.nsIn K mainGlobals "barring" = some (some (.ref f33))) (yl33 : K.lookup f33 = some ⟨oc33, od33, .func (PySem.W.fnOf "barring" "barring" (defArgs s_barring) (defBody s_barring) (defScope s_barring) .none kV33 dc33 pm33 an33 cd33 ct33), sl33⟩) (yc33 : PySem.W.codeIn K cd33 "barring" = true) (yk33 : PySem.W.keepIn K (.ref f33) = true)
    {f34 : Addr} {od34 an34 : Option Addr} {sl34 : Array (Option Value)} {oc34 kV34 dc34 pm34 cd34 ct34 : Value}
    (ya34 : PySem.W.nsIn K mainGlobals "bars" = some (some (.ref f34))) (yl34 : K.lookup f34 = some ⟨oc34, od34, .func (PySem.W.fnOf "bars" "bars" (defArgs s_bars) (defBody s_bars) (defScope s_bars) .none kV34 dc34 pm34 an34 cd34 ct34), sl34⟩) (yc34 : PySem.W.codeIn K cd34 "bars" = true) (yk34 : PySem.W.keepIn K (.ref f34) = true)
    {f35 : Addr} {od35 an35 : Option Addr} {sl35 : Array (Option Value)} {oc35 kV35 dc35 pm35 cd35 ct35 : Value}
    (ya35 : PySem.W.nsIn K mainGlobals "need_places" = some (some (.ref f35))) (yl35 : K.lookup f35 = some ⟨oc35, od35, .func (PySem.W.fnOf "need_places" "need_places" (defArgs s_need_places) (defBody s_need_places) (defScope s_need_places) .none kV35 dc35 pm35 an35 cd35 ct35), sl35⟩) (yc35 : PySem.W.codeIn K cd35 "need_places" = true) (yk35 : PySem.W.keepIn K (.ref f35) = true)
    {f36 : Addr} {od36 an36 : Option Addr} {sl36 : Array (Option Value)} {oc36 kV36 dc36 pm36 cd36 ct36 : Value}
    (ya36 : PySem.W.nsIn K mainGlobals "placed_days" = some (some (.ref f36))) (yl36 : K.lookup f36 = some ⟨oc36, od36, .func (PySem.W.fnOf "placed_days" "placed_days" (defArgs s_placed_days) (defBody s_placed_days) (defScope s_placed_days) .none kV36 dc36 pm36 an36 cd36 ct36), sl36⟩) (yc36 : PySem.W.codeIn K cd36 "placed_days" = true) (yk36 : PySem.W.keepIn K (.ref f36) = true)
    {f37 : Addr} {od37 an37 : Option Addr} {sl37 : Array (Option Value)} {oc37 kV37 dc37 pm37 cd37 ct37 : Value}
    (ya37 : PySem.W.nsIn K mainGlobals "shared_step" = some (some (.ref f37))) (yl37 : K.lookup f37 = some ⟨oc37, od37, .func (PySem.W.fnOf "shared_step" "shared_step" (defArgs s_shared_step) (defBody s_shared_step) (defScope s_shared_step) .none kV37 dc37 pm37 an37 cd37 ct37), sl37⟩) (yc37 : PySem.W.codeIn K cd37 "shared_step" = true) (yk37 : PySem.W.keepIn K (.ref f37) = true)
    {f38 : Addr} {od38 an38 : Option Addr} {sl38 : Array (Option Value)} {oc38 kV38 dc38 pm38 cd38 ct38 : Value}
    (ya38 : PySem.W.nsIn K mainGlobals "round_from" = some (some (.ref f38))) (yl38 : K.lookup f38 = some ⟨oc38, od38, .func (PySem.W.fnOf "round_from" "round_from" (defArgs s_round_from) (defBody s_round_from) (defScope s_round_from) .none kV38 dc38 pm38 an38 cd38 ct38), sl38⟩) (yc38 : PySem.W.codeIn K cd38 "round_from" = true) (yk38 : PySem.W.keepIn K (.ref f38) = true)
    {f39 : Addr} {od39 an39 : Option Addr} {sl39 : Array (Option Value)} {oc39 kV39 dc39 pm39 cd39 ct39 : Value}
    (ya39 : PySem.W.nsIn K mainGlobals "ends_ahead" = some (some (.ref f39))) (yl39 : K.lookup f39 = some ⟨oc39, od39, .func (PySem.W.fnOf "ends_ahead" "ends_ahead" (defArgs s_ends_ahead) (defBody s_ends_ahead) (defScope s_ends_ahead) .none kV39 dc39 pm39 an39 cd39 ct39), sl39⟩) (yc39 : PySem.W.codeIn K cd39 "ends_ahead" = true) (yk39 : PySem.W.keepIn K (.ref f39) = true)
    {f40 : Addr} {od40 an40 : Option Addr} {sl40 : Array (Option Value)} {oc40 kV40 dc40 pm40 cd40 ct40 : Value}
    (ya40 : PySem.W.nsIn K mainGlobals "next_day" = some (some (.ref f40))) (yl40 : K.lookup f40 = some ⟨oc40, od40, .func (PySem.W.fnOf "next_day" "next_day" (defArgs s_next_day) (defBody s_next_day) (defScope s_next_day) .none kV40 dc40 pm40 an40 cd40 ct40), sl40⟩) (yc40 : PySem.W.codeIn K cd40 "next_day" = true) (yk40 : PySem.W.keepIn K (.ref f40) = true)
    {f41 : Addr} {od41 an41 : Option Addr} {sl41 : Array (Option Value)} {oc41 kV41 dc41 pm41 cd41 ct41 : Value}
    (ya41 : PySem.W.nsIn K mainGlobals "days" = some (some (.ref f41))) (yl41 : K.lookup f41 = some ⟨oc41, od41, .func (PySem.W.fnOf "days" "days" (defArgs s_days) (defBody s_days) (defScope s_days) .none kV41 dc41 pm41 an41 cd41 ct41), sl41⟩) (yc41 : PySem.W.codeIn K cd41 "days" = true) (yk41 : PySem.W.keepIn K (.ref f41) = true)
    {f42 : Addr} {od42 an42 : Option Addr} {sl42 : Array (Option Value)} {oc42 kV42 dc42 pm42 cd42 ct42 : Value}
    (ya42 : PySem.W.nsIn K mainGlobals "is_parting" = some (some (.ref f42))) (yl42 : K.lookup f42 = some ⟨oc42, od42, .func (PySem.W.fnOf "is_parting" "is_parting" (defArgs s_is_parting) (defBody s_is_parting) (defScope s_is_parting) .none kV42 dc42 pm42 an42 cd42 ct42), sl42⟩) (yc42 : PySem.W.codeIn K cd42 "is_parting" = true) (yk42 : PySem.W.keepIn K (.ref f42) = true)
    {f43 : Addr} {od43 an43 : Option Addr} {sl43 : Array (Option Value)} {oc43 kV43 dc43 pm43 cd43 ct43 : Value}
    (ya43 : PySem.W.nsIn K mainGlobals "parting" = some (some (.ref f43))) (yl43 : K.lookup f43 = some ⟨oc43, od43, .func (PySem.W.fnOf "parting" "parting" (defArgs s_parting) (defBody s_parting) (defScope s_parting) .none kV43 dc43 pm43 an43 cd43 ct43), sl43⟩) (yc43 : PySem.W.codeIn K cd43 "parting" = true) (yk43 : PySem.W.keepIn K (.ref f43) = true)
    {f44 : Addr} {od44 an44 : Option Addr} {sl44 : Array (Option Value)} {oc44 kV44 dc44 pm44 cd44 ct44 : Value}
    (ya44 : PySem.W.nsIn K mainGlobals "parts" = some (some (.ref f44))) (yl44 : K.lookup f44 = some ⟨oc44, od44, .func (PySem.W.fnOf "parts" "parts" (defArgs s_parts) (defBody s_parts) (defScope s_parts) .none kV44 dc44 pm44 an44 cd44 ct44), sl44⟩) (yc44 : PySem.W.codeIn K cd44 "parts" = true) (yk44 : PySem.W.keepIn K (.ref f44) = true)
    {f45 : Addr} {od45 an45 : Option Addr} {sl45 : Array (Option Value)} {oc45 kV45 dc45 pm45 cd45 ct45 : Value}
    (ya45 : PySem.W.nsIn K mainGlobals "alike" = some (some (.ref f45))) (yl45 : K.lookup f45 = some ⟨oc45, od45, .func (PySem.W.fnOf "alike" "alike" (defArgs s_alike) (defBody s_alike) (defScope s_alike) .none kV45 dc45 pm45 an45 cd45 ct45), sl45⟩) (yc45 : PySem.W.codeIn K cd45 "alike" = true) (yk45 : PySem.W.keepIn K (.ref f45) = true)
    {f46 : Addr} {od46 an46 : Option Addr} {sl46 : Array (Option Value)} {oc46 kV46 dc46 pm46 cd46 ct46 : Value}
    (ya46 : PySem.W.nsIn K mainGlobals "first_parting" = some (some (.ref f46))) (yl46 : K.lookup f46 = some ⟨oc46, od46, .func (PySem.W.fnOf "first_parting" "first_parting" (defArgs s_first_parting) (defBody s_first_parting) (defScope s_first_parting) .none kV46 dc46 pm46 an46 cd46 ct46), sl46⟩) (yc46 : PySem.W.codeIn K cd46 "first_parting" = true) (yk46 : PySem.W.keepIn K (.ref f46) = true)
    {f47 : Addr} {od47 an47 : Option Addr} {sl47 : Array (Option Value)} {oc47 kV47 dc47 pm47 cd47 ct47 : Value}
    (ya47 : PySem.W.nsIn K mainGlobals "_law_deck" = some (some (.ref f47))) (yl47 : K.lookup f47 = some ⟨oc47, od47, .func (PySem.W.fnOf "_law_deck" "_law_deck" (defArgs s__law_deck) (defBody s__law_deck) (defScope s__law_deck) .none kV47 dc47 pm47 an47 cd47 ct47), sl47⟩) (yc47 : PySem.W.codeIn K cd47 "_law_deck" = true) (yk47 : PySem.W.keepIn K (.ref f47) = true)
    {f48 : Addr} {od48 an48 : Option Addr} {sl48 : Array (Option Value)} {oc48 kV48 dc48 pm48 cd48 ct48 : Value}
    (ya48 : PySem.W.nsIn K mainGlobals "_law_pick" = some (some (.ref f48))) (yl48 : K.lookup f48 = some ⟨oc48, od48, .func (PySem.W.fnOf "_law_pick" "_law_pick" (defArgs s__law_pick) (defBody s__law_pick) (defScope s__law_pick) .none kV48 dc48 pm48 an48 cd48 ct48), sl48⟩) (yc48 : PySem.W.codeIn K cd48 "_law_pick" = true) (yk48 : PySem.W.keepIn K (.ref f48) = true)
    {f49 : Addr} {od49 an49 : Option Addr} {sl49 : Array (Option Value)} {oc49 kV49 dc49 pm49 cd49 ct49 : Value}
    (ya49 : PySem.W.nsIn K mainGlobals "_law_one" = some (some (.ref f49))) (yl49 : K.lookup f49 = some ⟨oc49, od49, .func (PySem.W.fnOf "_law_one" "_law_one" (defArgs s__law_one) (defBody s__law_one) (defScope s__law_one) .none kV49 dc49 pm49 an49 cd49 ct49), sl49⟩) (yc49 : PySem.W.codeIn K cd49 "_law_one" = true) (yk49 : PySem.W.keepIn K (.ref f49) = true)
    {f50 : Addr} {od50 an50 : Option Addr} {sl50 : Array (Option Value)} {oc50 kV50 dc50 pm50 cd50 ct50 : Value}
    (ya50 : PySem.W.nsIn K mainGlobals "_law_kin" = some (some (.ref f50))) (yl50 : K.lookup f50 = some ⟨oc50, od50, .func (PySem.W.fnOf "_law_kin" "_law_kin" (defArgs s__law_kin) (defBody s__law_kin) (defScope s__law_kin) .none kV50 dc50 pm50 an50 cd50 ct50), sl50⟩) (yc50 : PySem.W.codeIn K cd50 "_law_kin" = true) (yk50 : PySem.W.keepIn K (.ref f50) = true)
    {f51 : Addr} {od51 an51 : Option Addr} {sl51 : Array (Option Value)} {oc51 kV51 dc51 pm51 cd51 ct51 : Value}
    (ya51 : PySem.W.nsIn K mainGlobals "_law_try" = some (some (.ref f51))) (yl51 : K.lookup f51 = some ⟨oc51, od51, .func (PySem.W.fnOf "_law_try" "_law_try" (defArgs s__law_try) (defBody s__law_try) (defScope s__law_try) .none kV51 dc51 pm51 an51 cd51 ct51), sl51⟩) (yc51 : PySem.W.codeIn K cd51 "_law_try" = true) (yk51 : PySem.W.keepIn K (.ref f51) = true)
    {f52 : Addr} {od52 an52 : Option Addr} {sl52 : Array (Option Value)} {oc52 kV52 dc52 pm52 cd52 ct52 : Value}
    (ya52 : PySem.W.nsIn K mainGlobals "_law_land" = some (some (.ref f52))) (yl52 : K.lookup f52 = some ⟨oc52, od52, .func (PySem.W.fnOf "_law_land" "_law_land" (defArgs s__law_land) (defBody s__law_land) (defScope s__law_land) .none kV52 dc52 pm52 an52 cd52 ct52), sl52⟩) (yc52 : PySem.W.codeIn K cd52 "_law_land" = true) (yk52 : PySem.W.keepIn K (.ref f52) = true)
    {f53 : Addr} {od53 an53 : Option Addr} {sl53 : Array (Option Value)} {oc53 kV53 dc53 pm53 cd53 ct53 : Value}
    (ya53 : PySem.W.nsIn K mainGlobals "_law_any" = some (some (.ref f53))) (yl53 : K.lookup f53 = some ⟨oc53, od53, .func (PySem.W.fnOf "_law_any" "_law_any" (defArgs s__law_any) (defBody s__law_any) (defScope s__law_any) .none kV53 dc53 pm53 an53 cd53 ct53), sl53⟩) (yc53 : PySem.W.codeIn K cd53 "_law_any" = true) (yk53 : PySem.W.keepIn K (.ref f53) = true)
    {f54 : Addr} {od54 an54 : Option Addr} {sl54 : Array (Option Value)} {oc54 kV54 dc54 pm54 cd54 ct54 : Value}
    (ya54 : PySem.W.nsIn K mainGlobals "_law_by_land" = some (some (.ref f54))) (yl54 : K.lookup f54 = some ⟨oc54, od54, .func (PySem.W.fnOf "_law_by_land" "_law_by_land" (defArgs s__law_by_land) (defBody s__law_by_land) (defScope s__law_by_land) .none kV54 dc54 pm54 an54 cd54 ct54), sl54⟩) (yc54 : PySem.W.codeIn K cd54 "_law_by_land" = true) (yk54 : PySem.W.keepIn K (.ref f54) = true)
    {f55 : Addr} {od55 an55 : Option Addr} {sl55 : Array (Option Value)} {oc55 kV55 dc55 pm55 cd55 ct55 : Value}
    (ya55 : PySem.W.nsIn K mainGlobals "_law_by_week" = some (some (.ref f55))) (yl55 : K.lookup f55 = some ⟨oc55, od55, .func (PySem.W.fnOf "_law_by_week" "_law_by_week" (defArgs s__law_by_week) (defBody s__law_by_week) (defScope s__law_by_week) .none kV55 dc55 pm55 an55 cd55 ct55), sl55⟩) (yc55 : PySem.W.codeIn K cd55 "_law_by_week" = true) (yk55 : PySem.W.keepIn K (.ref f55) = true)
    {f56 : Addr} {od56 an56 : Option Addr} {sl56 : Array (Option Value)} {oc56 kV56 dc56 pm56 cd56 ct56 : Value}
    (ya56 : PySem.W.nsIn K mainGlobals "_law_by_two" = some (some (.ref f56))) (yl56 : K.lookup f56 = some ⟨oc56, od56, .func (PySem.W.fnOf "_law_by_two" "_law_by_two" (defArgs s__law_by_two) (defBody s__law_by_two) (defScope s__law_by_two) .none kV56 dc56 pm56 an56 cd56 ct56), sl56⟩) (yc56 : PySem.W.codeIn K cd56 "_law_by_two" = true) (yk56 : PySem.W.keepIn K (.ref f56) = true)
    {f57 : Addr} {od57 an57 : Option Addr} {sl57 : Array (Option Value)} {oc57 kV57 dc57 pm57 cd57 ct57 : Value}
    (ya57 : PySem.W.nsIn K mainGlobals "_law_all_told" = some (some (.ref f57))) (yl57 : K.lookup f57 = some ⟨oc57, od57, .func (PySem.W.fnOf "_law_all_told" "_law_all_told" (defArgs s__law_all_told) (defBody s__law_all_told) (defScope s__law_all_told) .none kV57 dc57 pm57 an57 cd57 ct57), sl57⟩) (yc57 : PySem.W.codeIn K cd57 "_law_all_told" = true) (yk57 : PySem.W.keepIn K (.ref f57) = true)
    {f58 : Addr} {od58 an58 : Option Addr} {sl58 : Array (Option Value)} {oc58 kV58 dc58 pm58 cd58 ct58 : Value}
    (ya58 : PySem.W.nsIn K mainGlobals "_law_numbers_right" = some (some (.ref f58))) (yl58 : K.lookup f58 = some ⟨oc58, od58, .func (PySem.W.fnOf "_law_numbers_right" "_law_numbers_right" (defArgs s__law_numbers_right) (defBody s__law_numbers_right) (defScope s__law_numbers_right) .none kV58 dc58 pm58 an58 cd58 ct58), sl58⟩) (yc58 : PySem.W.codeIn K cd58 "_law_numbers_right" = true) (yk58 : PySem.W.keepIn K (.ref f58) = true)
    {f59 : Addr} {od59 an59 : Option Addr} {sl59 : Array (Option Value)} {oc59 kV59 dc59 pm59 cd59 ct59 : Value}
    (ya59 : PySem.W.nsIn K mainGlobals "law" = some (some (.ref f59))) (yl59 : K.lookup f59 = some ⟨oc59, od59, .func (PySem.W.fnOf "law" "law" (defArgs s_law) (defBody s_law) (defScope s_law) .none kV59 dc59 pm59 an59 cd59 ct59), sl59⟩) (yc59 : PySem.W.codeIn K cd59 "law" = true) (yk59 : PySem.W.keepIn K (.ref f59) = true)
    {tk0 : Tok} (ycst0 : PySem.W.nsIn K mainGlobals "MOST_DAYS" = some (some (.int 400 tk0)))
    {tk1 : Tok} (ycst1 : PySem.W.nsIn K mainGlobals "MOST_BOTTOM" = some (some (.int 60 tk1)))
    {tk2 : Tok} (ycst2 : PySem.W.nsIn K mainGlobals "MOST_SHIFT" = some (some (.int 1000000 tk2)))
    {tk3 : Tok} (ycst3 : PySem.W.nsIn K mainGlobals "FARTHEST" = some (some (.int 1000000000000000000000000000000 tk3)))
    {tk4 : Tok} (ycst4 : PySem.W.nsIn K mainGlobals "LONGEST_WEEK" = some (some (.int 20 tk4)))
    (yz0 : PySem.W.nsIn K mainGlobals "isinstance" = some none)
    (yz1 : PySem.W.nsIn K mainGlobals "int" = some none)
    (yz2 : PySem.W.nsIn K mainGlobals "bool" = some none)
    (yz3 : PySem.W.nsIn K mainGlobals "tuple" = some none)
    (yz4 : PySem.W.nsIn K mainGlobals "len" = some none)
    (yz5 : PySem.W.nsIn K mainGlobals "range" = some none)
    (yz6 : PySem.W.nsIn K mainGlobals "divmod" = some none)
    (yz7 : PySem.W.nsIn K mainGlobals "zip" = some none)
    (yz8 : PySem.W.nsIn K mainGlobals "sorted" = some none)
    (yz9 : PySem.W.nsIn K mainGlobals "min" = some none)
    (yz10 : PySem.W.nsIn K mainGlobals "sum" = some none)
    (yz11 : PySem.W.nsIn K mainGlobals "any" = some none)
    (yz12 : PySem.W.nsIn K mainGlobals "ValueError" = some none)
    (yz13 : PySem.W.nsIn K mainGlobals "list" = some none)
    {C_Realm : Addr} (yC_Realm : PySem.W.nsIn K mainGlobals "Realm" = some (some (.ref C_Realm))) (ypg_Realm : PySem.W.plainGet K C_Realm Str.empty = true) (yhd_Realm : PySem.W.hasDictIn K C_Realm = true) (ypo_Realm : PySem.W.plainOver K C_Realm = true) (ysa_Realm : PySem.W.findIn K (.ref C_Realm) "__setattr__" = some (some (.builtin "object.__setattr__"))) (ymk_Realm : PySem.W.makesIn K C_Realm = true) (ykc_Realm : PySem.W.keepIn K (.ref C_Realm) = true)
    (ynf_Realm_pairs : PySem.W.findIn K (.ref C_Realm) "pairs" = some none)
    {fM_Realm_init : Addr} {odM_Realm_init anM_Realm_init : Option Addr} {slM_Realm_init : Array (Option Value)} {ocM_Realm_init kVM_Realm_init dcM_Realm_init pmM_Realm_init cdM_Realm_init ctM_Realm_init : Value}
    (yma_Realm_init : PySem.W.findIn K (.ref C_Realm) "__init__" = some (some (.ref fM_Realm_init))) (ymi_Realm_init : PySem.W.isFn K (.ref fM_Realm_init) = true) (yml_Realm_init : K.lookup fM_Realm_init = some ⟨ocM_Realm_init, odM_Realm_init, .func (PySem.W.fnOf "__init__" "Realm.__init__" (defArgs s_Realm_init) (defBody s_Realm_init) (defScope s_Realm_init) .none kVM_Realm_init dcM_Realm_init pmM_Realm_init anM_Realm_init cdM_Realm_init ctM_Realm_init), slM_Realm_init⟩) (ymc_Realm_init : PySem.W.codeIn K cdM_Realm_init "Realm.__init__" = true) (ymk_Realm_init : PySem.W.keepIn K (.ref fM_Realm_init) = true)
    {fM_Realm_is_later : Addr} {odM_Realm_is_later anM_Realm_is_later : Option Addr} {slM_Realm_is_later : Array (Option Value)} {ocM_Realm_is_later kVM_Realm_is_later dcM_Realm_is_later pmM_Realm_is_later cdM_Realm_is_later ctM_Realm_is_later : Value}
    (yma_Realm_is_later : PySem.W.findIn K (.ref C_Realm) "is_later" = some (some (.ref fM_Realm_is_later))) (ymi_Realm_is_later : PySem.W.isFn K (.ref fM_Realm_is_later) = true) (yml_Realm_is_later : K.lookup fM_Realm_is_later = some ⟨ocM_Realm_is_later, odM_Realm_is_later, .func (PySem.W.fnOf "is_later" "Realm.is_later" (defArgs s_Realm_is_later) (defBody s_Realm_is_later) (defScope s_Realm_is_later) .none kVM_Realm_is_later dcM_Realm_is_later pmM_Realm_is_later anM_Realm_is_later cdM_Realm_is_later ctM_Realm_is_later), slM_Realm_is_later⟩) (ymc_Realm_is_later : PySem.W.codeIn K cdM_Realm_is_later "Realm.is_later" = true) (ymk_Realm_is_later : PySem.W.keepIn K (.ref fM_Realm_is_later) = true)
    {fM_Realm_land_on : Addr} {odM_Realm_land_on anM_Realm_land_on : Option Addr} {slM_Realm_land_on : Array (Option Value)} {ocM_Realm_land_on kVM_Realm_land_on dcM_Realm_land_on pmM_Realm_land_on cdM_Realm_land_on ctM_Realm_land_on : Value}
    (yma_Realm_land_on : PySem.W.findIn K (.ref C_Realm) "land_on" = some (some (.ref fM_Realm_land_on))) (ymi_Realm_land_on : PySem.W.isFn K (.ref fM_Realm_land_on) = true) (yml_Realm_land_on : K.lookup fM_Realm_land_on = some ⟨ocM_Realm_land_on, odM_Realm_land_on, .func (PySem.W.fnOf "land_on" "Realm.land_on" (defArgs s_Realm_land_on) (defBody s_Realm_land_on) (defScope s_Realm_land_on) .none kVM_Realm_land_on dcM_Realm_land_on pmM_Realm_land_on anM_Realm_land_on cdM_Realm_land_on ctM_Realm_land_on), slM_Realm_land_on⟩) (ymc_Realm_land_on : PySem.W.codeIn K cdM_Realm_land_on "Realm.land_on" = true) (ymk_Realm_land_on : PySem.W.keepIn K (.ref fM_Realm_land_on) = true)
    {C_YearError : Addr} (yE_YearError : PySem.W.nsIn K mainGlobals "YearError" = some (some (.ref C_YearError)))
    {C_NoLand : Addr} (yE_NoLand : PySem.W.nsIn K mainGlobals "NoLand" = some (some (.ref C_NoLand)))
    {C_NoYear : Addr} (yE_NoYear : PySem.W.nsIn K mainGlobals "NoYear" = some (some (.ref C_NoYear)))
    {C_NoDay : Addr} (yE_NoDay : PySem.W.nsIn K mainGlobals "NoDay" = some (some (.ref C_NoDay)))
    {C_NoPlace : Addr} (yE_NoPlace : PySem.W.nsIn K mainGlobals "NoPlace" = some (some (.ref C_NoPlace)))
    {C_NoWeek : Addr} (yE_NoWeek : PySem.W.nsIn K mainGlobals "NoWeek" = some (some (.ref C_NoWeek)))
    {C_NoName : Addr} (yE_NoName : PySem.W.nsIn K mainGlobals "NoName" = some (some (.ref C_NoName)))
    {C_NoSeen : Addr} (yE_NoSeen : PySem.W.nsIn K mainGlobals "NoSeen" = some (some (.ref C_NoSeen)))
    {C_NoNumber : Addr} (yE_NoNumber : PySem.W.nsIn K mainGlobals "NoNumber" = some (some (.ref C_NoNumber)))
    {C_NothingLeft : Addr} (yE_NothingLeft : PySem.W.nsIn K mainGlobals "NothingLeft" = some (some (.ref C_NothingLeft)))
    (ysp : PySem.W.specialIn K (.builtin "object.__class__") "__get__" = some (some (.builtin "getset_descriptor.__get__")))
    (ytk : PySem.W.takesIn K (.builtin "object.__class__") = some true)
    (yx_NoLand : PySem.W.excIn K C_NoLand [.type "ValueError", .type "Exception", .type "BaseException", .type "object"] "ValueError.__new__" = true)
    (yk_NoLand : PySem.W.keepIn K (.ref C_NoLand) = true)
    (ysb_NoLand : PySem.W.subIn K (.ref C_NoLand) (.type "BaseException") = some true)
    (ytp_NoLand : PySem.W.typeIn K (.ref C_NoLand) = some (.type "type"))
    (yga_NoLand : PySem.W.findIn K (.ref C_NoLand) "__getattribute__" = some (some (.builtin "BaseException.__getattribute__")))
    (ygt_NoLand : PySem.W.findIn K (.ref C_NoLand) "__getattr__" = some none)
    (yhd_NoLand : PySem.W.hasDictIn K C_NoLand = true)
    (yca_NoLand : PySem.W.findIn K (.ref C_NoLand) "__class__" = some (some (.builtin "object.__class__")))
    (ymr_NoLand : PySem.W.mroIn K C_NoLand (.type "object") = some true)
    (yem_NoLand : PySem.W.exmOne K (.ref C_NoLand) (.ref C_YearError) = some true)
    (yki_NoLand_NoLand : PySem.W.kitOne K (.ref C_NoLand) (.ref C_NoLand) = some true)
    (yki_NoLand_NoYear : PySem.W.kitOne K (.ref C_NoLand) (.ref C_NoYear) = some false)
    (yki_NoLand_NoDay : PySem.W.kitOne K (.ref C_NoLand) (.ref C_NoDay) = some false)
    (yki_NoLand_NoPlace : PySem.W.kitOne K (.ref C_NoLand) (.ref C_NoPlace) = some false)
    (yki_NoLand_NoWeek : PySem.W.kitOne K (.ref C_NoLand) (.ref C_NoWeek) = some false)
    (yki_NoLand_NoName : PySem.W.kitOne K (.ref C_NoLand) (.ref C_NoName) = some false)
    (yki_NoLand_NoSeen : PySem.W.kitOne K (.ref C_NoLand) (.ref C_NoSeen) = some false)
    (yki_NoLand_NoNumber : PySem.W.kitOne K (.ref C_NoLand) (.ref C_NoNumber) = some false)
    (yki_NoLand_NothingLeft : PySem.W.kitOne K (.ref C_NoLand) (.ref C_NothingLeft) = some false)
    (yki_NoLand_V : PySem.W.kitOne K (.ref C_NoLand) (.type "ValueError") = some true)
    (yx_NoYear : PySem.W.excIn K C_NoYear [.type "ValueError", .type "Exception", .type "BaseException", .type "object"] "ValueError.__new__" = true)
    (yk_NoYear : PySem.W.keepIn K (.ref C_NoYear) = true)
    (ysb_NoYear : PySem.W.subIn K (.ref C_NoYear) (.type "BaseException") = some true)
    (ytp_NoYear : PySem.W.typeIn K (.ref C_NoYear) = some (.type "type"))
    (yga_NoYear : PySem.W.findIn K (.ref C_NoYear) "__getattribute__" = some (some (.builtin "BaseException.__getattribute__")))
    (ygt_NoYear : PySem.W.findIn K (.ref C_NoYear) "__getattr__" = some none)
    (yhd_NoYear : PySem.W.hasDictIn K C_NoYear = true)
    (yca_NoYear : PySem.W.findIn K (.ref C_NoYear) "__class__" = some (some (.builtin "object.__class__")))
    (ymr_NoYear : PySem.W.mroIn K C_NoYear (.type "object") = some true)
    (yem_NoYear : PySem.W.exmOne K (.ref C_NoYear) (.ref C_YearError) = some true)
    (yki_NoYear_NoLand : PySem.W.kitOne K (.ref C_NoYear) (.ref C_NoLand) = some false)
    (yki_NoYear_NoYear : PySem.W.kitOne K (.ref C_NoYear) (.ref C_NoYear) = some true)
    (yki_NoYear_NoDay : PySem.W.kitOne K (.ref C_NoYear) (.ref C_NoDay) = some false)
    (yki_NoYear_NoPlace : PySem.W.kitOne K (.ref C_NoYear) (.ref C_NoPlace) = some false)
    (yki_NoYear_NoWeek : PySem.W.kitOne K (.ref C_NoYear) (.ref C_NoWeek) = some false)
    (yki_NoYear_NoName : PySem.W.kitOne K (.ref C_NoYear) (.ref C_NoName) = some false)
    (yki_NoYear_NoSeen : PySem.W.kitOne K (.ref C_NoYear) (.ref C_NoSeen) = some false)
    (yki_NoYear_NoNumber : PySem.W.kitOne K (.ref C_NoYear) (.ref C_NoNumber) = some false)
    (yki_NoYear_NothingLeft : PySem.W.kitOne K (.ref C_NoYear) (.ref C_NothingLeft) = some false)
    (yki_NoYear_V : PySem.W.kitOne K (.ref C_NoYear) (.type "ValueError") = some true)
    (yx_NoDay : PySem.W.excIn K C_NoDay [.type "ValueError", .type "Exception", .type "BaseException", .type "object"] "ValueError.__new__" = true)
    (yk_NoDay : PySem.W.keepIn K (.ref C_NoDay) = true)
    (ysb_NoDay : PySem.W.subIn K (.ref C_NoDay) (.type "BaseException") = some true)
    (ytp_NoDay : PySem.W.typeIn K (.ref C_NoDay) = some (.type "type"))
    (yga_NoDay : PySem.W.findIn K (.ref C_NoDay) "__getattribute__" = some (some (.builtin "BaseException.__getattribute__")))
    (ygt_NoDay : PySem.W.findIn K (.ref C_NoDay) "__getattr__" = some none)
    (yhd_NoDay : PySem.W.hasDictIn K C_NoDay = true)
    (yca_NoDay : PySem.W.findIn K (.ref C_NoDay) "__class__" = some (some (.builtin "object.__class__")))
    (ymr_NoDay : PySem.W.mroIn K C_NoDay (.type "object") = some true)
    (yem_NoDay : PySem.W.exmOne K (.ref C_NoDay) (.ref C_YearError) = some true)
    (yki_NoDay_NoLand : PySem.W.kitOne K (.ref C_NoDay) (.ref C_NoLand) = some false)
    (yki_NoDay_NoYear : PySem.W.kitOne K (.ref C_NoDay) (.ref C_NoYear) = some false)
    (yki_NoDay_NoDay : PySem.W.kitOne K (.ref C_NoDay) (.ref C_NoDay) = some true)
    (yki_NoDay_NoPlace : PySem.W.kitOne K (.ref C_NoDay) (.ref C_NoPlace) = some false)
    (yki_NoDay_NoWeek : PySem.W.kitOne K (.ref C_NoDay) (.ref C_NoWeek) = some false)
    (yki_NoDay_NoName : PySem.W.kitOne K (.ref C_NoDay) (.ref C_NoName) = some false)
    (yki_NoDay_NoSeen : PySem.W.kitOne K (.ref C_NoDay) (.ref C_NoSeen) = some false)
    (yki_NoDay_NoNumber : PySem.W.kitOne K (.ref C_NoDay) (.ref C_NoNumber) = some false)
    (yki_NoDay_NothingLeft : PySem.W.kitOne K (.ref C_NoDay) (.ref C_NothingLeft) = some false)
    (yki_NoDay_V : PySem.W.kitOne K (.ref C_NoDay) (.type "ValueError") = some true)
    (yx_NoPlace : PySem.W.excIn K C_NoPlace [.type "ValueError", .type "Exception", .type "BaseException", .type "object"] "ValueError.__new__" = true)
    (yk_NoPlace : PySem.W.keepIn K (.ref C_NoPlace) = true)
    (ysb_NoPlace : PySem.W.subIn K (.ref C_NoPlace) (.type "BaseException") = some true)
    (ytp_NoPlace : PySem.W.typeIn K (.ref C_NoPlace) = some (.type "type"))
    (yga_NoPlace : PySem.W.findIn K (.ref C_NoPlace) "__getattribute__" = some (some (.builtin "BaseException.__getattribute__")))
    (ygt_NoPlace : PySem.W.findIn K (.ref C_NoPlace) "__getattr__" = some none)
    (yhd_NoPlace : PySem.W.hasDictIn K C_NoPlace = true)
    (yca_NoPlace : PySem.W.findIn K (.ref C_NoPlace) "__class__" = some (some (.builtin "object.__class__")))
    (ymr_NoPlace : PySem.W.mroIn K C_NoPlace (.type "object") = some true)
    (yem_NoPlace : PySem.W.exmOne K (.ref C_NoPlace) (.ref C_YearError) = some true)
    (yki_NoPlace_NoLand : PySem.W.kitOne K (.ref C_NoPlace) (.ref C_NoLand) = some false)
    (yki_NoPlace_NoYear : PySem.W.kitOne K (.ref C_NoPlace) (.ref C_NoYear) = some false)
    (yki_NoPlace_NoDay : PySem.W.kitOne K (.ref C_NoPlace) (.ref C_NoDay) = some false)
    (yki_NoPlace_NoPlace : PySem.W.kitOne K (.ref C_NoPlace) (.ref C_NoPlace) = some true)
    (yki_NoPlace_NoWeek : PySem.W.kitOne K (.ref C_NoPlace) (.ref C_NoWeek) = some false)
    (yki_NoPlace_NoName : PySem.W.kitOne K (.ref C_NoPlace) (.ref C_NoName) = some false)
    (yki_NoPlace_NoSeen : PySem.W.kitOne K (.ref C_NoPlace) (.ref C_NoSeen) = some false)
    (yki_NoPlace_NoNumber : PySem.W.kitOne K (.ref C_NoPlace) (.ref C_NoNumber) = some false)
    (yki_NoPlace_NothingLeft : PySem.W.kitOne K (.ref C_NoPlace) (.ref C_NothingLeft) = some false)
    (yki_NoPlace_V : PySem.W.kitOne K (.ref C_NoPlace) (.type "ValueError") = some true)
    (yx_NoWeek : PySem.W.excIn K C_NoWeek [.type "ValueError", .type "Exception", .type "BaseException", .type "object"] "ValueError.__new__" = true)
    (yk_NoWeek : PySem.W.keepIn K (.ref C_NoWeek) = true)
    (ysb_NoWeek : PySem.W.subIn K (.ref C_NoWeek) (.type "BaseException") = some true)
    (ytp_NoWeek : PySem.W.typeIn K (.ref C_NoWeek) = some (.type "type"))
    (yga_NoWeek : PySem.W.findIn K (.ref C_NoWeek) "__getattribute__" = some (some (.builtin "BaseException.__getattribute__")))
    (ygt_NoWeek : PySem.W.findIn K (.ref C_NoWeek) "__getattr__" = some none)
    (yhd_NoWeek : PySem.W.hasDictIn K C_NoWeek = true)
    (yca_NoWeek : PySem.W.findIn K (.ref C_NoWeek) "__class__" = some (some (.builtin "object.__class__")))
    (ymr_NoWeek : PySem.W.mroIn K C_NoWeek (.type "object") = some true)
    (yem_NoWeek : PySem.W.exmOne K (.ref C_NoWeek) (.ref C_YearError) = some true)
    (yki_NoWeek_NoLand : PySem.W.kitOne K (.ref C_NoWeek) (.ref C_NoLand) = some false)
    (yki_NoWeek_NoYear : PySem.W.kitOne K (.ref C_NoWeek) (.ref C_NoYear) = some false)
    (yki_NoWeek_NoDay : PySem.W.kitOne K (.ref C_NoWeek) (.ref C_NoDay) = some false)
    (yki_NoWeek_NoPlace : PySem.W.kitOne K (.ref C_NoWeek) (.ref C_NoPlace) = some false)
    (yki_NoWeek_NoWeek : PySem.W.kitOne K (.ref C_NoWeek) (.ref C_NoWeek) = some true)
    (yki_NoWeek_NoName : PySem.W.kitOne K (.ref C_NoWeek) (.ref C_NoName) = some false)
    (yki_NoWeek_NoSeen : PySem.W.kitOne K (.ref C_NoWeek) (.ref C_NoSeen) = some false)
    (yki_NoWeek_NoNumber : PySem.W.kitOne K (.ref C_NoWeek) (.ref C_NoNumber) = some false)
    (yki_NoWeek_NothingLeft : PySem.W.kitOne K (.ref C_NoWeek) (.ref C_NothingLeft) = some false)
    (yki_NoWeek_V : PySem.W.kitOne K (.ref C_NoWeek) (.type "ValueError") = some true)
    (yx_NoName : PySem.W.excIn K C_NoName [.type "ValueError", .type "Exception", .type "BaseException", .type "object"] "ValueError.__new__" = true)
    (yk_NoName : PySem.W.keepIn K (.ref C_NoName) = true)
    (ysb_NoName : PySem.W.subIn K (.ref C_NoName) (.type "BaseException") = some true)
    (ytp_NoName : PySem.W.typeIn K (.ref C_NoName) = some (.type "type"))
    (yga_NoName : PySem.W.findIn K (.ref C_NoName) "__getattribute__" = some (some (.builtin "BaseException.__getattribute__")))
    (ygt_NoName : PySem.W.findIn K (.ref C_NoName) "__getattr__" = some none)
    (yhd_NoName : PySem.W.hasDictIn K C_NoName = true)
    (yca_NoName : PySem.W.findIn K (.ref C_NoName) "__class__" = some (some (.builtin "object.__class__")))
    (ymr_NoName : PySem.W.mroIn K C_NoName (.type "object") = some true)
    (yem_NoName : PySem.W.exmOne K (.ref C_NoName) (.ref C_YearError) = some true)
    (yki_NoName_NoLand : PySem.W.kitOne K (.ref C_NoName) (.ref C_NoLand) = some false)
    (yki_NoName_NoYear : PySem.W.kitOne K (.ref C_NoName) (.ref C_NoYear) = some false)
    (yki_NoName_NoDay : PySem.W.kitOne K (.ref C_NoName) (.ref C_NoDay) = some false)
    (yki_NoName_NoPlace : PySem.W.kitOne K (.ref C_NoName) (.ref C_NoPlace) = some false)
    (yki_NoName_NoWeek : PySem.W.kitOne K (.ref C_NoName) (.ref C_NoWeek) = some false)
    (yki_NoName_NoName : PySem.W.kitOne K (.ref C_NoName) (.ref C_NoName) = some true)
    (yki_NoName_NoSeen : PySem.W.kitOne K (.ref C_NoName) (.ref C_NoSeen) = some false)
    (yki_NoName_NoNumber : PySem.W.kitOne K (.ref C_NoName) (.ref C_NoNumber) = some false)
    (yki_NoName_NothingLeft : PySem.W.kitOne K (.ref C_NoName) (.ref C_NothingLeft) = some false)
    (yki_NoName_V : PySem.W.kitOne K (.ref C_NoName) (.type "ValueError") = some true)
    {cL54 PT54 : Addr} (ycl54 : cd54 = .ref cL54) (ych54 : PySem.W.codeHdIn K cL54 PT54 = true) (ynl54 : K.lookup PT54 = none) (ytab54 : h.get? PT54 = some (PySem.W.tabObj #[]))
    {cL55 PT55 : Addr} (ycl55 : cd55 = .ref cL55) (ych55 : PySem.W.codeHdIn K cL55 PT55 = true) (ynl55 : K.lookup PT55 = none) (ytab55 : h.get? PT55 = some (PySem.W.tabObj #[]))
    {cL56 PT56 : Addr} (ycl56 : cd56 = .ref cL56) (ych56 : PySem.W.codeHdIn K cL56 PT56 = true) (ynl56 : K.lookup PT56 = none) (ytab56 : h.get? PT56 = some (PySem.W.tabObj #[]))
    {cL58 PT58 : Addr} (ycl58 : cd58 = .ref cL58) (ych58 : PySem.W.codeHdIn K cL58 PT58 = true) (ynl58 : K.lookup PT58 = none) (ytab58 : h.get? PT58 = some (PySem.W.tabObj #[]))
    {cL59 PT59 : Addr} (ycl59 : cd59 = .ref cL59) (ych59 : PySem.W.codeHdIn K cL59 PT59 = true) (ynl59 : K.lookup PT59 = none) (ytab59 : h.get? PT59 = some (PySem.W.tabObj #[]))
    (ynd : [PT54, PT55, PT56, PT58, PT59].Nodup)
    : LamX.LawAtS l w K CX0 11 63 "script" mg fa h := by
  have e := hfa.symm.trans (PySem.W.mg_of X G ya59)
  cases e
  have F0 := fun_mk (st := s__wall) yl0 yc0 yk0
  have b0 := F0.binds (ps := ["k"]) fun _ _ _ _ _ _ us hl => match us, hl with | [_], _ => rfl
  have F1 := fun_mk (st := s_is_whole) yl1 yc1 yk1
  have b1 := F1.binds (ps := ["thing"]) fun _ _ _ _ _ _ us hl => match us, hl with | [_], _ => rfl
  have F2 := fun_mk (st := s_is_between) yl2 yc2 yk2
  have b2 := F2.binds (ps := ["thing", "least", "most"]) fun _ _ _ _ _ _ us hl => match us, hl with | [_, _, _], _ => rfl
  have F3 := fun_mk (st := s_common_measure) yl3 yc3 yk3
  have b3 := F3.binds (ps := ["one", "other"]) fun _ _ _ _ _ _ us hl => match us, hl with | [_, _], _ => rfl
  have F4 := fun_mk (st := s_undoing_factor) yl4 yc4 yk4
  have b4 := F4.binds (ps := ["number", "ring"]) fun _ _ _ _ _ _ us hl => match us, hl with | [_, _], _ => rfl
  have F5 := fun_mk (st := s_is_land) yl5 yc5 yk5
  have b5 := F5.binds (ps := ["thing"]) fun _ _ _ _ _ _ us hl => match us, hl with | [_], _ => rfl
  have F6 := fun_mk (st := s_need_land) yl6 yc6 yk6
  have b6 := F6.binds (ps := ["thing"]) fun _ _ _ _ _ _ us hl => match us, hl with | [_], _ => rfl
  have F7 := fun_mk (st := s_need_year) yl7 yc7 yk7
  have b7 := F7.binds (ps := ["thing"]) fun _ _ _ _ _ _ us hl => match us, hl with | [_], _ => rfl
  have F8 := fun_mk (st := s_need_years) yl8 yc8 yk8
  have b8 := F8.binds (ps := ["first", "last"]) fun _ _ _ _ _ _ us hl => match us, hl with | [_, _], _ => rfl
  have F9 := fun_mk (st := s_need_day) yl9 yc9 yk9
  have b9 := F9.binds (ps := ["thing"]) fun _ _ _ _ _ _ us hl => match us, hl with | [_], _ => rfl
  have F10 := fun_mk (st := s_need_days) yl10 yc10 yk10
  have b10 := F10.binds (ps := ["first", "last"]) fun _ _ _ _ _ _ us hl => match us, hl with | [_, _], _ => rfl
  have F11 := fun_mk (st := s_need_place) yl11 yc11 yk11
  have b11 := F11.binds (ps := ["land", "thing"]) fun _ _ _ _ _ _ us hl => match us, hl with | [_, _], _ => rfl
  have F12 := fun_mk (st := s_step_of) yl12 yc12 yk12
  have b12 := F12.binds (ps := ["land"]) fun _ _ _ _ _ _ us hl => match us, hl with | [_], _ => rfl
  have F13 := fun_mk (st := s_first_day) yl13 yc13 yk13
  have b13 := F13.binds (ps := ["land", "year"]) fun _ _ _ _ _ _ us hl => match us, hl with | [_, _], _ => rfl
  have F14 := fun_mk (st := s_date_of) yl14 yc14 yk14
  have b14 := F14.binds (ps := ["land", "day"]) fun _ _ _ _ _ _ us hl => match us, hl with | [_, _], _ => rfl
  have F15 := fun_mk (st := s_added_days) yl15 yc15 yk15
  have b15 := F15.binds (ps := ["land", "year"]) fun _ _ _ _ _ _ us hl => match us, hl with | [_, _], _ => rfl
  have F16 := fun_mk (st := s_begin) yl16 yc16 yk16
  have b16 := F16.binds (ps := ["land", "year"]) fun _ _ _ _ _ _ us hl => match us, hl with | [_, _], _ => rfl
  have F17 := fun_mk (st := s_date) yl17 yc17 yk17
  have b17 := F17.binds (ps := ["land", "day"]) fun _ _ _ _ _ _ us hl => match us, hl with | [_, _], _ => rfl
  have F18 := fun_mk (st := s_is_long) yl18 yc18 yk18
  have b18 := F18.binds (ps := ["land", "year"]) fun _ _ _ _ _ _ us hl => match us, hl with | [_, _], _ => rfl
  have F19 := fun_mk (st := s_next_long) yl19 yc19 yk19
  have b19 := F19.binds (ps := ["land", "year"]) fun _ _ _ _ _ _ us hl => match us, hl with | [_, _], _ => rfl
  have F20 := fun_mk (st := s_long_years) yl20 yc20 yk20
  have b20 := F20.binds (ps := ["land", "first", "last"]) fun _ _ _ _ _ _ us hl => match us, hl with | [_, _, _], _ => rfl
  have F21 := fun_mk (st := s_need_week) yl21 yc21 yk21
  have b21 := F21.binds (ps := ["thing"]) fun _ _ _ _ _ _ us hl => match us, hl with | [_], _ => rfl
  have F22 := fun_mk (st := s_need_name) yl22 yc22 yk22
  have b22 := F22.binds (ps := ["week", "thing"]) fun _ _ _ _ _ _ us hl => match us, hl with | [_, _], _ => rfl
  have F23 := fun_mk (st := s_need_asked) yl23 yc23 yk23
  have b23 := F23.binds (ps := ["land", "place", "week", "name"]) fun _ _ _ _ _ _ us hl => match us, hl with | [_, _, _, _], _ => rfl
  have F24 := fun_mk (st := s_ring_of) yl24 yc24 yk24
  have b24 := F24.binds (ps := ["land", "week"]) fun _ _ _ _ _ _ us hl => match us, hl with | [_, _], _ => rfl
  have F25 := fun_mk (st := s_shared_measure) yl25 yc25 yk25
  have b25 := F25.binds (ps := ["land", "week"]) fun _ _ _ _ _ _ us hl => match us, hl with | [_, _], _ => rfl
  have F26 := fun_mk (st := s_cycle_of) yl26 yc26 yk26
  have b26 := F26.binds (ps := ["land", "week"]) fun _ _ _ _ _ _ us hl => match us, hl with | [_, _], _ => rfl
  have F27 := fun_mk (st := s_falls) yl27 yc27 yk27
  have b27 := F27.binds (ps := ["land", "place", "week", "name", "year"]) fun _ _ _ _ _ _ us hl => match us, hl with | [_, _, _, _, _], _ => rfl
  have F28 := fun_mk (st := s_falling_years) yl28 yc28 yk28
  have b28 := F28.binds (ps := ["land", "place", "week", "name", "first", "last"]) fun _ _ _ _ _ _ us hl => match us, hl with | [_, _, _, _, _, _], _ => rfl
  have F29 := fun_mk (st := s_next_year) yl29 yc29 yk29
  have b29 := F29.binds (ps := ["land", "place", "week", "name", "year"]) fun _ _ _ _ _ _ us hl => match us, hl with | [_, _, _, _, _], _ => rfl
  have F30 := fun_mk (st := s_how_many) yl30 yc30 yk30
  have b30 := F30.binds (ps := ["land", "place", "week", "name", "first", "last"]) fun _ _ _ _ _ _ us hl => match us, hl with | [_, _, _, _, _, _], _ => rfl
  have F31 := fun_mk (st := s_lengths) yl31 yc31 yk31
  have b31 := F31.binds (ps := ["land", "place", "week", "name"]) fun _ _ _ _ _ _ us hl => match us, hl with | [_, _, _, _], _ => rfl
  have F32 := fun_mk (st := s_is_barring) yl32 yc32 yk32
  have b32 := F32.binds (ps := ["land", "place", "week", "name", "measure"]) fun _ _ _ _ _ _ us hl => match us, hl with | [_, _, _, _, _], _ => rfl
  have F33 := fun_mk (st := s_barring) yl33 yc33 yk33
  have b33 := F33.binds (ps := ["land", "place", "week", "name"]) fun _ _ _ _ _ _ us hl => match us, hl with | [_, _, _, _], _ => rfl
  have F34 := fun_mk (st := s_bars) yl34 yc34 yk34
  have b34 := F34.binds (ps := ["land", "place", "week", "name", "thing"]) fun _ _ _ _ _ _ us hl => match us, hl with | [_, _, _, _, _], _ => rfl
  have F35 := fun_mk (st := s_need_places) yl35 yc35 yk35
  have b35 := F35.binds (ps := ["one", "place_one", "other", "place_other"]) fun _ _ _ _ _ _ us hl => match us, hl with | [_, _, _, _], _ => rfl
  have F36 := fun_mk (st := s_placed_days) yl36 yc36 yk36
  have b36 := F36.binds (ps := ["land", "place"]) fun _ _ _ _ _ _ us hl => match us, hl with | [_, _], _ => rfl
  have F37 := fun_mk (st := s_shared_step) yl37 yc37 yk37
  have b37 := F37.binds (ps := ["one", "other"]) fun _ _ _ _ _ _ us hl => match us, hl with | [_, _], _ => rfl
  have F38 := fun_mk (st := s_round_from) yl38 yc38 yk38
  have b38 := F38.binds (ps := ["one", "place_one", "other", "place_other", "day"]) fun _ _ _ _ _ _ us hl => match us, hl with | [_, _, _, _, _], _ => rfl
  have F39 := fun_mk (st := s_ends_ahead) yl39 yc39 yk39
  have b39 := F39.binds (ps := ["starts", "ends"]) fun _ _ _ _ _ _ us hl => match us, hl with | [_, _], _ => rfl
  have F40 := fun_mk (st := s_next_day) yl40 yc40 yk40
  have b40 := F40.binds (ps := ["one", "place_one", "other", "place_other", "day"]) fun _ _ _ _ _ _ us hl => match us, hl with | [_, _, _, _, _], _ => rfl
  have F41 := fun_mk (st := s_days) yl41 yc41 yk41
  have b41 := F41.binds (ps := ["one", "place_one", "other", "place_other", "first", "last"]) fun _ _ _ _ _ _ us hl => match us, hl with | [_, _, _, _, _, _], _ => rfl
  have F42 := fun_mk (st := s_is_parting) yl42 yc42 yk42
  have b42 := F42.binds (ps := ["one", "place_one", "other", "place_other", "number"]) fun _ _ _ _ _ _ us hl => match us, hl with | [_, _, _, _, _], _ => rfl
  have F43 := fun_mk (st := s_parting) yl43 yc43 yk43
  have b43 := F43.binds (ps := ["one", "place_one", "other", "place_other"]) fun _ _ _ _ _ _ us hl => match us, hl with | [_, _, _, _], _ => rfl
  have F44 := fun_mk (st := s_parts) yl44 yc44 yk44
  have b44 := F44.binds (ps := ["one", "place_one", "other", "place_other", "thing"]) fun _ _ _ _ _ _ us hl => match us, hl with | [_, _, _, _, _], _ => rfl
  have F45 := fun_mk (st := s_alike) yl45 yc45 yk45
  have b45 := F45.binds (ps := ["one", "other"]) fun _ _ _ _ _ _ us hl => match us, hl with | [_, _], _ => rfl
  have F46 := fun_mk (st := s_first_parting) yl46 yc46 yk46
  have b46 := F46.binds (ps := ["one", "other"]) fun _ _ _ _ _ _ us hl => match us, hl with | [_, _], _ => rfl
  have F47 := fun_mk (st := s__law_deck) yl47 yc47 yk47
  have b47 := F47.binds (ps := ["cell", "turn"]) fun _ _ _ _ _ _ us hl => match us, hl with | [_, _], _ => rfl
  have F48 := fun_mk (st := s__law_pick) yl48 yc48 yk48
  have b48 := F48.binds (ps := ["deck", "size"]) fun _ _ _ _ _ _ us hl => match us, hl with | [_, _], _ => rfl
  have F49 := fun_mk (st := s__law_one) yl49 yc49 yk49
  have b49 := F49.binds (ps := ["deck", "some"]) fun _ _ _ _ _ _ us hl => match us, hl with | [_, _], _ => rfl
  have F50 := fun_mk (st := s__law_kin) yl50 yc50 yk50
  have b50 := F50.binds (ps := ["e"]) fun _ _ _ _ _ _ us hl => match us, hl with | [_], _ => rfl
  have F51 := fun_mk (st := s__law_try) yl51 yc51 yk51
  have b51 := F51.binds (ps := ["door"]) fun _ _ _ _ _ _ us hl => match us, hl with | [_], _ => rfl
  have F52 := fun_mk (st := s__law_land) yl52 yc52 yk52
  have b52 := F52.binds (ps := ["deck", "long_so", "bottoms", "shifts"]) fun _ _ _ _ _ _ us hl => match us, hl with | [_, _, _, _], _ => rfl
  have F53 := fun_mk (st := s__law_any) yl53 yc53 yk53
  have b53 := F53.binds (ps := ["deck"]) fun _ _ _ _ _ _ us hl => match us, hl with | [_], _ => rfl
  have F54 := fun_mk (st := s__law_by_land) yl54 yc54 yk54
  have b54 := F54.binds (ps := ["land", "other"]) fun _ _ _ _ _ _ us hl => match us, hl with | [_, _], _ => rfl
  have F55 := fun_mk (st := s__law_by_week) yl55 yc55 yk55
  have b55 := F55.binds (ps := ["land", "place", "week", "name"]) fun _ _ _ _ _ _ us hl => match us, hl with | [_, _, _, _], _ => rfl
  have F56 := fun_mk (st := s__law_by_two) yl56 yc56 yk56
  have b56 := F56.binds (ps := ["one", "place_one", "other", "place_other"]) fun _ _ _ _ _ _ us hl => match us, hl with | [_, _, _, _], _ => rfl
  have F57 := fun_mk (st := s__law_all_told) yl57 yc57 yk57
  have b57 := F57.binds (ps := ["doors", "word"]) fun _ _ _ _ _ _ us hl => match us, hl with | [_, _], _ => rfl
  have F58 := fun_mk (st := s__law_numbers_right) yl58 yc58 yk58
  have b58 := F58.binds (ps := ["land", "other"]) fun _ _ _ _ _ _ us hl => match us, hl with | [_, _], _ => rfl
  have FL := fun_mk (st := s_law) yl59 yc59 yk59
  have FM_Realm_init := fun_mk (st := s_Realm_init) yml_Realm_init ymc_Realm_init ymk_Realm_init
  have bM_Realm_init := FM_Realm_init.binds (ps := ["self", "land"]) fun _ _ _ _ _ _ us hl => match us, hl with | [_, _], _ => rfl
  have FM_Realm_is_later := fun_mk (st := s_Realm_is_later) yml_Realm_is_later ymc_Realm_is_later ymk_Realm_is_later
  have bM_Realm_is_later := FM_Realm_is_later.binds (ps := ["self", "day"]) fun _ _ _ _ _ _ us hl => match us, hl with | [_, _], _ => rfl
  have FM_Realm_land_on := fun_mk (st := s_Realm_land_on) yml_Realm_land_on ymc_Realm_land_on ymk_Realm_land_on
  have bM_Realm_land_on := FM_Realm_land_on.binds (ps := ["self", "day"]) fun _ _ _ _ _ _ us hl => match us, hl with | [_, _], _ => rfl
  let T : Txt K mg := { _wall := ⟨_, _, F0, b0, PySem.W.mg_of X G ya0⟩, is_whole := ⟨_, _, F1, b1, PySem.W.mg_of X G ya1⟩, is_between := ⟨_, _, F2, b2, PySem.W.mg_of X G ya2⟩, common_measure := ⟨_, _, F3, b3, PySem.W.mg_of X G ya3⟩, undoing_factor := ⟨_, _, F4, b4, PySem.W.mg_of X G ya4⟩, is_land := ⟨_, _, F5, b5, PySem.W.mg_of X G ya5⟩, need_land := ⟨_, _, F6, b6, PySem.W.mg_of X G ya6⟩, need_year := ⟨_, _, F7, b7, PySem.W.mg_of X G ya7⟩, need_years := ⟨_, _, F8, b8, PySem.W.mg_of X G ya8⟩, need_day := ⟨_, _, F9, b9, PySem.W.mg_of X G ya9⟩, need_days := ⟨_, _, F10, b10, PySem.W.mg_of X G ya10⟩, need_place := ⟨_, _, F11, b11, PySem.W.mg_of X G ya11⟩, step_of := ⟨_, _, F12, b12, PySem.W.mg_of X G ya12⟩, first_day := ⟨_, _, F13, b13, PySem.W.mg_of X G ya13⟩, date_of := ⟨_, _, F14, b14, PySem.W.mg_of X G ya14⟩, added_days := ⟨_, _, F15, b15, PySem.W.mg_of X G ya15⟩, begin := ⟨_, _, F16, b16, PySem.W.mg_of X G ya16⟩, date := ⟨_, _, F17, b17, PySem.W.mg_of X G ya17⟩, is_long := ⟨_, _, F18, b18, PySem.W.mg_of X G ya18⟩, next_long := ⟨_, _, F19, b19, PySem.W.mg_of X G ya19⟩, long_years := ⟨_, _, F20, b20, PySem.W.mg_of X G ya20⟩, need_week := ⟨_, _, F21, b21, PySem.W.mg_of X G ya21⟩, need_name := ⟨_, _, F22, b22, PySem.W.mg_of X G ya22⟩, need_asked := ⟨_, _, F23, b23, PySem.W.mg_of X G ya23⟩, ring_of := ⟨_, _, F24, b24, PySem.W.mg_of X G ya24⟩, shared_measure := ⟨_, _, F25, b25, PySem.W.mg_of X G ya25⟩, cycle_of := ⟨_, _, F26, b26, PySem.W.mg_of X G ya26⟩, falls := ⟨_, _, F27, b27, PySem.W.mg_of X G ya27⟩, falling_years := ⟨_, _, F28, b28, PySem.W.mg_of X G ya28⟩, next_year := ⟨_, _, F29, b29, PySem.W.mg_of X G ya29⟩, how_many := ⟨_, _, F30, b30, PySem.W.mg_of X G ya30⟩, lengths := ⟨_, _, F31, b31, PySem.W.mg_of X G ya31⟩, is_barring := ⟨_, _, F32, b32, PySem.W.mg_of X G ya32⟩, barring := ⟨_, _, F33, b33, PySem.W.mg_of X G ya33⟩, bars := ⟨_, _, F34, b34, PySem.W.mg_of X G ya34⟩, need_places := ⟨_, _, F35, b35, PySem.W.mg_of X G ya35⟩, placed_days := ⟨_, _, F36, b36, PySem.W.mg_of X G ya36⟩, shared_step := ⟨_, _, F37, b37, PySem.W.mg_of X G ya37⟩, round_from := ⟨_, _, F38, b38, PySem.W.mg_of X G ya38⟩, ends_ahead := ⟨_, _, F39, b39, PySem.W.mg_of X G ya39⟩, next_day := ⟨_, _, F40, b40, PySem.W.mg_of X G ya40⟩, days := ⟨_, _, F41, b41, PySem.W.mg_of X G ya41⟩, is_parting := ⟨_, _, F42, b42, PySem.W.mg_of X G ya42⟩, parting := ⟨_, _, F43, b43, PySem.W.mg_of X G ya43⟩, parts := ⟨_, _, F44, b44, PySem.W.mg_of X G ya44⟩, alike := ⟨_, _, F45, b45, PySem.W.mg_of X G ya45⟩, first_parting := ⟨_, _, F46, b46, PySem.W.mg_of X G ya46⟩, _law_deck := ⟨_, _, F47, b47, PySem.W.mg_of X G ya47⟩, _law_pick := ⟨_, _, F48, b48, PySem.W.mg_of X G ya48⟩, _law_one := ⟨_, _, F49, b49, PySem.W.mg_of X G ya49⟩, _law_kin := ⟨_, _, F50, b50, PySem.W.mg_of X G ya50⟩, _law_try := ⟨_, _, F51, b51, PySem.W.mg_of X G ya51⟩, _law_land := ⟨_, _, F52, b52, PySem.W.mg_of X G ya52⟩, _law_any := ⟨_, _, F53, b53, PySem.W.mg_of X G ya53⟩, _law_by_land := ⟨_, _, F54, b54, PySem.W.mg_of X G ya54⟩, _law_by_week := ⟨_, _, F55, b55, PySem.W.mg_of X G ya55⟩, _law_by_two := ⟨_, _, F56, b56, PySem.W.mg_of X G ya56⟩, _law_all_told := ⟨_, _, F57, b57, PySem.W.mg_of X G ya57⟩, _law_numbers_right := ⟨_, _, F58, b58, PySem.W.mg_of X G ya58⟩, t_MOST_DAYS := _, c_MOST_DAYS := PySem.W.mg_of X G ycst0, t_MOST_BOTTOM := _, c_MOST_BOTTOM := PySem.W.mg_of X G ycst1, t_MOST_SHIFT := _, c_MOST_SHIFT := PySem.W.mg_of X G ycst2, t_FARTHEST := _, c_FARTHEST := PySem.W.mg_of X G ycst3, t_LONGEST_WEEK := _, c_LONGEST_WEEK := PySem.W.mg_of X G ycst4, isinstance := PySem.W.mg_none_of X G yz0, b_int := PySem.W.mg_none_of X G yz1, b_bool := PySem.W.mg_none_of X G yz2, tuple := PySem.W.mg_none_of X G yz3, len := PySem.W.mg_none_of X G yz4, range := PySem.W.mg_none_of X G yz5, divmod := PySem.W.mg_none_of X G yz6, zip := PySem.W.mg_none_of X G yz7, sorted := PySem.W.mg_none_of X G yz8, min := PySem.W.mg_none_of X G yz9, sum := PySem.W.mg_none_of X G yz10, any := PySem.W.mg_none_of X G yz11, ValueError := PySem.W.mg_none_of X G yz12, b_list := PySem.W.mg_none_of X G yz13, C_Realm := C_Realm, cl_Realm := ⟨ypg_Realm, yhd_Realm, ypo_Realm, ysa_Realm⟩, g_Realm := PySem.W.mg_of X G yC_Realm, n_Realm_pairs := ynf_Realm_pairs, Realm_init := ⟨_, _, FM_Realm_init, bM_Realm_init, yma_Realm_init, ymi_Realm_init, ymk_Realm_init⟩, mk_Realm := ⟨ymk_Realm, yma_Realm_init, ymi_Realm_init, ykc_Realm⟩, Realm_is_later := ⟨_, _, FM_Realm_is_later, bM_Realm_is_later, yma_Realm_is_later, ymi_Realm_is_later, ymk_Realm_is_later⟩, Realm_land_on := ⟨_, _, FM_Realm_land_on, bM_Realm_land_on, yma_Realm_land_on, ymi_Realm_land_on, ymk_Realm_land_on⟩, C_YearError := C_YearError, g_YearError := PySem.W.mg_of X G yE_YearError, C_NoLand := C_NoLand, g_NoLand := PySem.W.mg_of X G yE_NoLand, C_NoYear := C_NoYear, g_NoYear := PySem.W.mg_of X G yE_NoYear, C_NoDay := C_NoDay, g_NoDay := PySem.W.mg_of X G yE_NoDay, C_NoPlace := C_NoPlace, g_NoPlace := PySem.W.mg_of X G yE_NoPlace, C_NoWeek := C_NoWeek, g_NoWeek := PySem.W.mg_of X G yE_NoWeek, C_NoName := C_NoName, g_NoName := PySem.W.mg_of X G yE_NoName, C_NoSeen := C_NoSeen, g_NoSeen := PySem.W.mg_of X G yE_NoSeen, C_NoNumber := C_NoNumber, g_NoNumber := PySem.W.mg_of X G yE_NoNumber, C_NothingLeft := C_NothingLeft, g_NothingLeft := PySem.W.mg_of X G yE_NothingLeft, err_NoLand := ⟨yx_NoLand, yk_NoLand, ysb_NoLand, ytp_NoLand, ⟨yga_NoLand, ygt_NoLand, ysb_NoLand, yhd_NoLand, yca_NoLand, ysp, ytk, ymr_NoLand⟩, yem_NoLand⟩, ki_NoLand_NoLand := yki_NoLand_NoLand, ki_NoLand_NoYear := yki_NoLand_NoYear, ki_NoLand_NoDay := yki_NoLand_NoDay, ki_NoLand_NoPlace := yki_NoLand_NoPlace, ki_NoLand_NoWeek := yki_NoLand_NoWeek, ki_NoLand_NoName := yki_NoLand_NoName, ki_NoLand_NoSeen := yki_NoLand_NoSeen, ki_NoLand_NoNumber := yki_NoLand_NoNumber, ki_NoLand_NothingLeft := yki_NoLand_NothingLeft, ki_NoLand_V := yki_NoLand_V, err_NoYear := ⟨yx_NoYear, yk_NoYear, ysb_NoYear, ytp_NoYear, ⟨yga_NoYear, ygt_NoYear, ysb_NoYear, yhd_NoYear, yca_NoYear, ysp, ytk, ymr_NoYear⟩, yem_NoYear⟩, ki_NoYear_NoLand := yki_NoYear_NoLand, ki_NoYear_NoYear := yki_NoYear_NoYear, ki_NoYear_NoDay := yki_NoYear_NoDay, ki_NoYear_NoPlace := yki_NoYear_NoPlace, ki_NoYear_NoWeek := yki_NoYear_NoWeek, ki_NoYear_NoName := yki_NoYear_NoName, ki_NoYear_NoSeen := yki_NoYear_NoSeen, ki_NoYear_NoNumber := yki_NoYear_NoNumber, ki_NoYear_NothingLeft := yki_NoYear_NothingLeft, ki_NoYear_V := yki_NoYear_V, err_NoDay := ⟨yx_NoDay, yk_NoDay, ysb_NoDay, ytp_NoDay, ⟨yga_NoDay, ygt_NoDay, ysb_NoDay, yhd_NoDay, yca_NoDay, ysp, ytk, ymr_NoDay⟩, yem_NoDay⟩, ki_NoDay_NoLand := yki_NoDay_NoLand, ki_NoDay_NoYear := yki_NoDay_NoYear, ki_NoDay_NoDay := yki_NoDay_NoDay, ki_NoDay_NoPlace := yki_NoDay_NoPlace, ki_NoDay_NoWeek := yki_NoDay_NoWeek, ki_NoDay_NoName := yki_NoDay_NoName, ki_NoDay_NoSeen := yki_NoDay_NoSeen, ki_NoDay_NoNumber := yki_NoDay_NoNumber, ki_NoDay_NothingLeft := yki_NoDay_NothingLeft, ki_NoDay_V := yki_NoDay_V, err_NoPlace := ⟨yx_NoPlace, yk_NoPlace, ysb_NoPlace, ytp_NoPlace, ⟨yga_NoPlace, ygt_NoPlace, ysb_NoPlace, yhd_NoPlace, yca_NoPlace, ysp, ytk, ymr_NoPlace⟩, yem_NoPlace⟩, ki_NoPlace_NoLand := yki_NoPlace_NoLand, ki_NoPlace_NoYear := yki_NoPlace_NoYear, ki_NoPlace_NoDay := yki_NoPlace_NoDay, ki_NoPlace_NoPlace := yki_NoPlace_NoPlace, ki_NoPlace_NoWeek := yki_NoPlace_NoWeek, ki_NoPlace_NoName := yki_NoPlace_NoName, ki_NoPlace_NoSeen := yki_NoPlace_NoSeen, ki_NoPlace_NoNumber := yki_NoPlace_NoNumber, ki_NoPlace_NothingLeft := yki_NoPlace_NothingLeft, ki_NoPlace_V := yki_NoPlace_V, err_NoWeek := ⟨yx_NoWeek, yk_NoWeek, ysb_NoWeek, ytp_NoWeek, ⟨yga_NoWeek, ygt_NoWeek, ysb_NoWeek, yhd_NoWeek, yca_NoWeek, ysp, ytk, ymr_NoWeek⟩, yem_NoWeek⟩, ki_NoWeek_NoLand := yki_NoWeek_NoLand, ki_NoWeek_NoYear := yki_NoWeek_NoYear, ki_NoWeek_NoDay := yki_NoWeek_NoDay, ki_NoWeek_NoPlace := yki_NoWeek_NoPlace, ki_NoWeek_NoWeek := yki_NoWeek_NoWeek, ki_NoWeek_NoName := yki_NoWeek_NoName, ki_NoWeek_NoSeen := yki_NoWeek_NoSeen, ki_NoWeek_NoNumber := yki_NoWeek_NoNumber, ki_NoWeek_NothingLeft := yki_NoWeek_NothingLeft, ki_NoWeek_V := yki_NoWeek_V, err_NoName := ⟨yx_NoName, yk_NoName, ysb_NoName, ytp_NoName, ⟨yga_NoName, ygt_NoName, ysb_NoName, yhd_NoName, yca_NoName, ysp, ytk, ymr_NoName⟩, yem_NoName⟩, ki_NoName_NoLand := yki_NoName_NoLand, ki_NoName_NoYear := yki_NoName_NoYear, ki_NoName_NoDay := yki_NoName_NoDay, ki_NoName_NoPlace := yki_NoName_NoPlace, ki_NoName_NoWeek := yki_NoName_NoWeek, ki_NoName_NoName := yki_NoName_NoName, ki_NoName_NoSeen := yki_NoName_NoSeen, ki_NoName_NoNumber := yki_NoName_NoNumber, ki_NoName_NothingLeft := yki_NoName_NothingLeft, ki_NoName_V := yki_NoName_V }
  subst ycl54
  subst ycl55
  subst ycl56
  subst ycl58
  subst ycl59
  have every : ∀ {R : Addr × Addr → Prop}, R (cL54, PT54) → R (cL55, PT55) → R (cL56, PT56) → R (cL58, PT58) → R (cL59, PT59) → ∀ p ∈ [(cL54, PT54), (cL55, PT55), (cL56, PT56), (cL58, PT58), (cL59, PT59)], R p := fun r54 r55 r56 r58 r59 p hp => by
    simp only [List.mem_cons, List.not_mem_nil, or_false] at hp
    rcases hp with rfl | rfl | rfl | rfl | rfl
    · exact r54
    · exact r55
    · exact r56
    · exact r58
    · exact r59
  let cs : List (Addr × Str) := [(PT54, ("_law_by_land" : Str) ++ ".<locals>." ++ "<lambda>"), (PT55, ("_law_by_week" : Str) ++ ".<locals>." ++ "<lambda>"), (PT56, ("_law_by_two" : Str) ++ ".<locals>." ++ "<lambda>"), (PT58, ("_law_numbers_right" : Str) ++ ".<locals>." ++ "<lambda>"), (PT59, ("law" : Str) ++ ".<locals>." ++ "<lambda>")]
  have tabs : ∀ H : Hp, (∀ p ∈ [(cL54, PT54), (cL55, PT55), (cL56, PT56), (cL58, PT58), (cL59, PT59)], H p.2 = some (.tbl #[])) → LamX.Tabs cs H := fun H ht p hp => by
    rcases List.mem_cons.mp hp with rfl | hp; exact LamX.TabS.nil (ht (cL54, PT54) (List.mem_cons_self ..))
    rcases List.mem_cons.mp hp with rfl | hp; exact LamX.TabS.nil (ht (cL55, PT55) (List.mem_cons_of_mem _ (List.mem_cons_self ..)))
    rcases List.mem_cons.mp hp with rfl | hp; exact LamX.TabS.nil (ht (cL56, PT56) (List.mem_cons_of_mem _ (List.mem_cons_of_mem _ (List.mem_cons_self ..))))
    rcases List.mem_cons.mp hp with rfl | hp; exact LamX.TabS.nil (ht (cL58, PT58) (List.mem_cons_of_mem _ (List.mem_cons_of_mem _ (List.mem_cons_of_mem _ (List.mem_cons_self ..)))))
    rcases List.mem_cons.mp hp with rfl | hp; exact LamX.TabS.nil (ht (cL59, PT59) (List.mem_cons_of_mem _ (List.mem_cons_of_mem _ (List.mem_cons_of_mem _ (List.mem_cons_of_mem _ (List.mem_cons_self ..))))))
    cases hp
  exact ⟨PySem.W.fnOf "law" "law" (defArgs s_law) (defBody s_law) (defScope s_law) .none kV59 dc59 pm59 an59 (.ref cL59) ct59, [(cL54, PT54), (cL55, PT55), (cL56, PT56), (cL58, PT58), (cL59, PT59)], spLawC K cs, every ytab54 ytab55 ytab56 ytab58 ytab59, every ynl54 ynl55 ynl56 ynl58 ynl59, every (PySem.W.codeHd_of_K X ych54) (PySem.W.codeHd_of_K X ych55) (PySem.W.codeHd_of_K X ych56) (PySem.W.codeHd_of_K X ych58) (PySem.W.codeHd_of_K X ych59), fun s v => .of_eq rfl, fun H a ns hl _ ht hS => ⟨a, ns, rfl, hS, hl, tabs H ht, fun _ => rfl⟩, fun base _ _ tb => ok_law T (cs := cs) ⟨cL54, PT54, ⟨_, _, _, _, _, _, _, _, rfl, yl54, yc54⟩, tb (cL54, PT54) (List.mem_cons_self ..), (List.mem_cons_self ..), one_of (cs := cs) ynd (List.mem_cons_self ..)⟩ ⟨cL55, PT55, ⟨_, _, _, _, _, _, _, _, rfl, yl55, yc55⟩, tb (cL55, PT55) (List.mem_cons_of_mem _ (List.mem_cons_self ..)), (List.mem_cons_of_mem _ (List.mem_cons_self ..)), one_of (cs := cs) ynd (List.mem_cons_of_mem _ (List.mem_cons_self ..))⟩ ⟨cL56, PT56, ⟨_, _, _, _, _, _, _, _, rfl, yl56, yc56⟩, tb (cL56, PT56) (List.mem_cons_of_mem _ (List.mem_cons_of_mem _ (List.mem_cons_self ..))), (List.mem_cons_of_mem _ (List.mem_cons_of_mem _ (List.mem_cons_self ..))), one_of (cs := cs) ynd (List.mem_cons_of_mem _ (List.mem_cons_of_mem _ (List.mem_cons_self ..)))⟩ ⟨cL58, PT58, ⟨_, _, _, _, _, _, _, _, rfl, yl58, yc58⟩, tb (cL58, PT58) (List.mem_cons_of_mem _ (List.mem_cons_of_mem _ (List.mem_cons_of_mem _ (List.mem_cons_self ..)))), (List.mem_cons_of_mem _ (List.mem_cons_of_mem _ (List.mem_cons_of_mem _ (List.mem_cons_self ..)))), one_of (cs := cs) ynd (List.mem_cons_of_mem _ (List.mem_cons_of_mem _ (List.mem_cons_of_mem _ (List.mem_cons_self ..))))⟩ ⟨cL59, PT59, ⟨_, _, _, _, _, _, _, _, rfl, yl59, yc59⟩, tb (cL59, PT59) (List.mem_cons_of_mem _ (List.mem_cons_of_mem _ (List.mem_cons_of_mem _ (List.mem_cons_of_mem _ (List.mem_cons_self ..))))), (List.mem_cons_of_mem _ (List.mem_cons_of_mem _ (List.mem_cons_of_mem _ (List.mem_cons_of_mem _ (List.mem_cons_self ..))))), one_of (cs := cs) ynd (List.mem_cons_of_mem _ (List.mem_cons_of_mem _ (List.mem_cons_of_mem _ (List.mem_cons_of_mem _ (List.mem_cons_self ..)))))⟩⟩
end LY
open PySem PySem.W PyProof.Rows
set_option maxHeartbeats 0 in
theorem PySem.Challenge.cw_longyears_k12_what_is_refused_holds : PySem.Challenge.rw_longyears_k12_what_is_refused.Holds := by
  w_on; o_law; k_head; (case hw => w_witness2)
  k_fill
  refine LamX.walk_ofTs (l := PySem.Challenge.rw_longyears_k12_what_is_refused) (n := 63) (k := 11) (x := "script") (CX := fun _ => L2.CX0) rfl (by decide) rfl ⟨rfl, by decide, by decide⟩ (fun w h Y => PySem.W.km_in_of Y) ?F (fun _ _ _ _ _ h => h)
  case F =>
    intro w mg fa h Y KX G hmg
    have tab := km_tabs_of Y
    refine' LY.all_mk KX G hmg ?ya0 ?yl0 ?yc0 ?yk0 ?ya1 ?yl1 ?yc1 ?yk1 ?ya2 ?yl2 ?yc2 ?yk2 ?ya3 ?yl3 ?yc3 ?yk3 ?ya4 ?yl4 ?yc4 ?yk4 ?ya5 ?yl5 ?yc5 ?yk5 ?ya6 ?yl6 ?yc6 ?yk6 ?ya7 ?yl7 ?yc7 ?yk7 ?ya8 ?yl8 ?yc8 ?yk8 ?ya9 ?yl9 ?yc9 ?yk9 ?ya10 ?yl10 ?yc10 ?yk10 ?ya11 ?yl11 ?yc11 ?yk11 ?ya12 ?yl12 ?yc12 ?yk12 ?ya13 ?yl13 ?yc13 ?yk13 ?ya14 ?yl14 ?yc14 ?yk14 ?ya15 ?yl15 ?yc15 ?yk15 ?ya16 ?yl16 ?yc16 ?yk16 ?ya17 ?yl17 ?yc17 ?yk17 ?ya18 ?yl18 ?yc18 ?yk18 ?ya19 ?yl19 ?yc19 ?yk19 ?ya20 ?yl20 ?yc20 ?yk20 ?ya21 ?yl21 ?yc21 ?yk21 ?ya22 ?yl22 ?yc22 ?yk22 ?ya23 ?yl23 ?yc23 ?yk23 ?ya24 ?yl24 ?yc24 ?yk24 ?ya25 ?yl25 ?yc25 ?yk25 ?ya26 ?yl26 ?yc26 ?yk26 ?ya27 ?yl27 ?yc27 ?yk27 ?ya28 ?yl28 ?yc28 ?yk28 ?ya29 ?yl29 ?yc29 ?yk29 ?ya30 ?yl30 ?yc30 ?yk30 ?ya31 ?yl31 ?yc31 ?yk31 ?ya32 ?yl32 ?yc32 ?yk32 ?ya33 ?yl33 ?yc33 ?yk33 ?ya34 ?yl34 ?yc34 ?yk34 ?ya35 ?yl35 ?yc35 ?yk35 ?ya36 ?yl36 ?yc36 ?yk36 ?ya37 ?yl37 ?yc37 ?yk37 ?ya38 ?yl38 ?yc38 ?yk38 ?ya39 ?yl39 ?yc39 ?yk39 ?ya40 ?yl40 ?yc40 ?yk40 ?ya41 ?yl41 ?yc41 ?yk41 ?ya42 ?yl42 ?yc42 ?yk42 ?ya43 ?yl43 ?yc43 ?yk43 ?ya44 ?yl44 ?yc44 ?yk44 ?ya45 ?yl45 ?yc45 ?yk45 ?ya46 ?yl46 ?yc46 ?yk46 ?ya47 ?yl47 ?yc47 ?yk47 ?ya48 ?yl48 ?yc48 ?yk48 ?ya49 ?yl49 ?yc49 ?yk49 ?ya50 ?yl50 ?yc50 ?yk50 ?ya51 ?yl51 ?yc51 ?yk51 ?ya52 ?yl52 ?yc52 ?yk52 ?ya53 ?yl53 ?yc53 ?yk53 ?ya54 ?yl54 ?yc54 ?yk54 ?ya55 ?yl55 ?yc55 ?yk55 ?ya56 ?yl56 ?yc56 ?yk56 ?ya57 ?yl57 ?yc57 ?yk57 ?ya58 ?yl58 ?yc58 ?yk58 ?ya59 ?yl59 ?yc59 ?yk59 ?ycst0 ?ycst1 ?ycst2 ?ycst3 ?ycst4 ?yz0 ?yz1 ?yz2 ?yz3 ?yz4 ?yz5 ?yz6 ?yz7 ?yz8 ?yz9 ?yz10 ?yz11 ?yz12 ?yz13 ?yC_Realm ?ypg_Realm ?yhd_Realm ?ypo_Realm ?ysa_Realm ?ymk_Realm ?ykc_Realm ?ynf_Realm_pairs ?yma_Realm_init ?ymi_Realm_init ?yml_Realm_init ?ymc_Realm_init ?ymk_Realm_init ?yma_Realm_is_later ?ymi_Realm_is_later ?yml_Realm_is_later ?ymc_Realm_is_later ?ymk_Realm_is_later ?yma_Realm_land_on ?ymi_Realm_land_on ?yml_Realm_land_on ?ymc_Realm_land_on ?ymk_Realm_land_on ?yE_YearError ?yE_NoLand ?yE_NoYear ?yE_NoDay ?yE_NoPlace ?yE_NoWeek ?yE_NoName ?yE_NoSeen ?yE_NoNumber ?yE_NothingLeft ?ysp ?ytk ?yx_NoLand ?yk_NoLand ?ysb_NoLand ?ytp_NoLand ?yga_NoLand ?ygt_NoLand ?yhd_NoLand ?yca_NoLand ?ymr_NoLand ?yem_NoLand ?yki_NoLand_NoLand ?yki_NoLand_NoYear ?yki_NoLand_NoDay ?yki_NoLand_NoPlace ?yki_NoLand_NoWeek ?yki_NoLand_NoName ?yki_NoLand_NoSeen ?yki_NoLand_NoNumber ?yki_NoLand_NothingLeft ?yki_NoLand_V ?yx_NoYear ?yk_NoYear ?ysb_NoYear ?ytp_NoYear ?yga_NoYear ?ygt_NoYear ?yhd_NoYear ?yca_NoYear ?ymr_NoYear ?yem_NoYear ?yki_NoYear_NoLand ?yki_NoYear_NoYear ?yki_NoYear_NoDay ?yki_NoYear_NoPlace ?yki_NoYear_NoWeek ?yki_NoYear_NoName ?yki_NoYear_NoSeen ?yki_NoYear_NoNumber ?yki_NoYear_NothingLeft ?yki_NoYear_V ?yx_NoDay ?yk_NoDay ?ysb_NoDay ?ytp_NoDay ?yga_NoDay ?ygt_NoDay ?yhd_NoDay ?yca_NoDay ?ymr_NoDay ?yem_NoDay ?yki_NoDay_NoLand ?yki_NoDay_NoYear ?yki_NoDay_NoDay ?yki_NoDay_NoPlace ?yki_NoDay_NoWeek ?yki_NoDay_NoName ?yki_NoDay_NoSeen ?yki_NoDay_NoNumber ?yki_NoDay_NothingLeft ?yki_NoDay_V ?yx_NoPlace ?yk_NoPlace ?ysb_NoPlace ?ytp_NoPlace ?yga_NoPlace ?ygt_NoPlace ?yhd_NoPlace ?yca_NoPlace ?ymr_NoPlace ?yem_NoPlace ?yki_NoPlace_NoLand ?yki_NoPlace_NoYear ?yki_NoPlace_NoDay ?yki_NoPlace_NoPlace ?yki_NoPlace_NoWeek ?yki_NoPlace_NoName ?yki_NoPlace_NoSeen ?yki_NoPlace_NoNumber ?yki_NoPlace_NothingLeft ?yki_NoPlace_V ?yx_NoWeek ?yk_NoWeek ?ysb_NoWeek ?ytp_NoWeek ?yga_NoWeek ?ygt_NoWeek ?yhd_NoWeek ?yca_NoWeek ?ymr_NoWeek ?yem_NoWeek ?yki_NoWeek_NoLand ?yki_NoWeek_NoYear ?yki_NoWeek_NoDay ?yki_NoWeek_NoPlace ?yki_NoWeek_NoWeek ?yki_NoWeek_NoName ?yki_NoWeek_NoSeen ?yki_NoWeek_NoNumber ?yki_NoWeek_NothingLeft ?yki_NoWeek_V ?yx_NoName ?yk_NoName ?ysb_NoName ?ytp_NoName ?yga_NoName ?ygt_NoName ?yhd_NoName ?yca_NoName ?ymr_NoName ?yem_NoName ?yki_NoName_NoLand ?yki_NoName_NoYear ?yki_NoName_NoDay ?yki_NoName_NoPlace ?yki_NoName_NoWeek ?yki_NoName_NoName ?yki_NoName_NoSeen ?yki_NoName_NoNumber ?yki_NoName_NothingLeft ?yki_NoName_V ?ycl54 ?ych54 ?ynl54 (tab _ (List.mem_cons_of_mem _ (List.mem_cons_of_mem _ (List.mem_cons_of_mem _ (List.mem_cons_self ..))))) ?ycl55 ?ych55 ?ynl55 (tab _ (List.mem_cons_of_mem _ (List.mem_cons_of_mem _ (List.mem_cons_self ..)))) ?ycl56 ?ych56 ?ynl56 (tab _ (List.mem_cons_of_mem _ (List.mem_cons_self ..))) ?ycl58 ?ych58 ?ynl58 (tab _ (List.mem_cons_self ..)) ?ycl59 ?ych59 ?ynl59 (tab _ (List.mem_cons_of_mem _ (List.mem_cons_of_mem _ (List.mem_cons_of_mem _ (List.mem_cons_of_mem _ (List.mem_cons_self ..)))))) ?ynd
    (case ya0 => k_is)
    (case yl0 => k_is)
    (case yc0 => k_is)
    (case yk0 => k_is)
    (case ya1 => k_is)
    (case yl1 => k_is)
    (case yc1 => k_is)
    (case yk1 => k_is)
    (case ya2 => k_is)
    (case yl2 => k_is)
    (case yc2 => k_is)
    (case yk2 => k_is)
    (case ya3 => k_is)
    (case yl3 => k_is)
    (case yc3 => k_is)
    (case yk3 => k_is)
    (case ya4 => k_is)
    (case yl4 => k_is)
    (case yc4 => k_is)
    (case yk4 => k_is)
    (case ya5 => k_is)
    (case yl5 => k_is)
    (case yc5 => k_is)
    (case yk5 => k_is)
    (case ya6 => k_is)
    (case yl6 => k_is)
    (case yc6 => k_is)
    (case yk6 => k_is)
    (case ya7 => k_is)
    (case yl7 => k_is)
    (case yc7 => k_is)
    (case yk7 => k_is)
    (case ya8 => k_is)
    (case yl8 => k_is)
    (case yc8 => k_is)
    (case yk8 => k_is)
    (case ya9 => k_is)
    (case yl9 => k_is)
    (case yc9 => k_is)
    (case yk9 => k_is)
    (case ya10 => k_is)
    (case yl10 => k_is)
    (case yc10 => k_is)
    (case yk10 => k_is)
    (case ya11 => k_is)
    (case yl11 => k_is)
    (case yc11 => k_is)
    (case yk11 => k_is)
    (case ya12 => k_is)
    (case yl12 => k_is)
    (case yc12 => k_is)
    (case yk12 => k_is)
    (case ya13 => k_is)
    (case yl13 => k_is)
    (case yc13 => k_is)
    (case yk13 => k_is)
    (case ya14 => k_is)
    (case yl14 => k_is)
    (case yc14 => k_is)
    (case yk14 => k_is)
    (case ya15 => k_is)
    (case yl15 => k_is)
    (case yc15 => k_is)
    (case yk15 => k_is)
    (case ya16 => k_is)
    (case yl16 => k_is)
    (case yc16 => k_is)
    (case yk16 => k_is)
    (case ya17 => k_is)
    (case yl17 => k_is)
    (case yc17 => k_is)
    (case yk17 => k_is)
    (case ya18 => k_is)
    (case yl18 => k_is)
    (case yc18 => k_is)
    (case yk18 => k_is)
    (case ya19 => k_is)
    (case yl19 => k_is)
    (case yc19 => k_is)
    (case yk19 => k_is)
    (case ya20 => k_is)
    (case yl20 => k_is)
    (case yc20 => k_is)
    (case yk20 => k_is)
    (case ya21 => k_is)
    (case yl21 => k_is)
    (case yc21 => k_is)
    (case yk21 => k_is)
    (case ya22 => k_is)
    (case yl22 => k_is)
    (case yc22 => k_is)
    (case yk22 => k_is)
    (case ya23 => k_is)
    (case yl23 => k_is)
    (case yc23 => k_is)
    (case yk23 => k_is)
    (case ya24 => k_is)
    (case yl24 => k_is)
    (case yc24 => k_is)
    (case yk24 => k_is)
    (case ya25 => k_is)
    (case yl25 => k_is)
    (case yc25 => k_is)
    (case yk25 => k_is)
    (case ya26 => k_is)
    (case yl26 => k_is)
    (case yc26 => k_is)
    (case yk26 => k_is)
    (case ya27 => k_is)
    (case yl27 => k_is)
    (case yc27 => k_is)
    (case yk27 => k_is)
    (case ya28 => k_is)
    (case yl28 => k_is)
    (case yc28 => k_is)
    (case yk28 => k_is)
    (case ya29 => k_is)
    (case yl29 => k_is)
    (case yc29 => k_is)
    (case yk29 => k_is)
    (case ya30 => k_is)
    (case yl30 => k_is)
    (case yc30 => k_is)
    (case yk30 => k_is)
    (case ya31 => k_is)
    (case yl31 => k_is)
    (case yc31 => k_is)
    (case yk31 => k_is)
    (case ya32 => k_is)
    (case yl32 => k_is)
    (case yc32 => k_is)
    (case yk32 => k_is)
    (case ya33 => k_is)
    (case yl33 => k_is)
    (case yc33 => k_is)
    (case yk33 => k_is)
    (case ya34 => k_is)
    (case yl34 => k_is)
    (case yc34 => k_is)
    (case yk34 => k_is)
    (case ya35 => k_is)
    (case yl35 => k_is)
    (case yc35 => k_is)
    (case yk35 => k_is)
    (case ya36 => k_is)
    (case yl36 => k_is)
    (case yc36 => k_is)
    (case yk36 => k_is)
    (case ya37 => k_is)
    (case yl37 => k_is)
    (case yc37 => k_is)
    (case yk37 => k_is)
    (case ya38 => k_is)
    (case yl38 => k_is)
    (case yc38 => k_is)
    (case yk38 => k_is)
    (case ya39 => k_is)
    (case yl39 => k_is)
    (case yc39 => k_is)
    (case yk39 => k_is)
    (case ya40 => k_is)
    (case yl40 => k_is)
    (case yc40 => k_is)
    (case yk40 => k_is)
    (case ya41 => k_is)
    (case yl41 => k_is)
    (case yc41 => k_is)
    (case yk41 => k_is)
    (case ya42 => k_is)
    (case yl42 => k_is)
    (case yc42 => k_is)
    (case yk42 => k_is)
    (case ya43 => k_is)
    (case yl43 => k_is)
    (case yc43 => k_is)
    (case yk43 => k_is)
    (case ya44 => k_is)
    (case yl44 => k_is)
    (case yc44 => k_is)
    (case yk44 => k_is)
    (case ya45 => k_is)
    (case yl45 => k_is)
    (case yc45 => k_is)
    (case yk45 => k_is)
    (case ya46 => k_is)
    (case yl46 => k_is)
    (case yc46 => k_is)
    (case yk46 => k_is)
    (case ya47 => k_is)
    (case yl47 => k_is)
    (case yc47 => k_is)
    (case yk47 => k_is)
    (case ya48 => k_is)
    (case yl48 => k_is)
    (case yc48 => k_is)
    (case yk48 => k_is)
    (case ya49 => k_is)
    (case yl49 => k_is)
    (case yc49 => k_is)
    (case yk49 => k_is)
    (case ya50 => k_is)
    (case yl50 => k_is)
    (case yc50 => k_is)
    (case yk50 => k_is)
    (case ya51 => k_is)
    (case yl51 => k_is)
    (case yc51 => k_is)
    (case yk51 => k_is)
    (case ya52 => k_is)
    (case yl52 => k_is)
    (case yc52 => k_is)
    (case yk52 => k_is)
    (case ya53 => k_is)
    (case yl53 => k_is)
    (case yc53 => k_is)
    (case yk53 => k_is)
    (case ya54 => k_is)
    (case yl54 => k_is)
    (case yc54 => k_is)
    (case yk54 => k_is)
    (case ya55 => k_is)
    (case yl55 => k_is)
    (case yc55 => k_is)
    (case yk55 => k_is)
    (case ya56 => k_is)
    (case yl56 => k_is)
    (case yc56 => k_is)
    (case yk56 => k_is)
    (case ya57 => k_is)
    (case yl57 => k_is)
    (case yc57 => k_is)
    (case yk57 => k_is)
    (case ya58 => k_is)
    (case yl58 => k_is)
    (case yc58 => k_is)
    (case yk58 => k_is)
    (case ya59 => k_is)
    (case yl59 => k_is)
    (case yc59 => k_is)
    (case yk59 => k_is)
    (case ycst0 => k_is)
    (case ycst1 => k_is)
    (case ycst2 => k_is)
    (case ycst3 => k_is)
    (case ycst4 => k_is)
    (case yz0 => k_is)
    (case yz1 => k_is)
    (case yz2 => k_is)
    (case yz3 => k_is)
    (case yz4 => k_is)
    (case yz5 => k_is)
    (case yz6 => k_is)
    (case yz7 => k_is)
    (case yz8 => k_is)
    (case yz9 => k_is)
    (case yz10 => k_is)
    (case yz11 => k_is)
    (case yz12 => k_is)
    (case yz13 => k_is)
    (case yC_Realm => k_is)
    (case ypg_Realm => k_is)
    (case yhd_Realm => k_is)
    (case ypo_Realm => k_is)
    (case ysa_Realm => k_is)
    (case ymk_Realm => k_is)
    (case ykc_Realm => k_is)
    (case ynf_Realm_pairs => k_is)
    (case yma_Realm_init => k_is)
    (case ymi_Realm_init => k_is)
    (case yml_Realm_init => k_is)
    (case ymc_Realm_init => k_is)
    (case ymk_Realm_init => k_is)
    (case yma_Realm_is_later => k_is)
    (case ymi_Realm_is_later => k_is)
    (case yml_Realm_is_later => k_is)
    (case ymc_Realm_is_later => k_is)
    (case ymk_Realm_is_later => k_is)
    (case yma_Realm_land_on => k_is)
    (case ymi_Realm_land_on => k_is)
    (case yml_Realm_land_on => k_is)
    (case ymc_Realm_land_on => k_is)
    (case ymk_Realm_land_on => k_is)
    (case yE_YearError => k_is)
    (case yE_NoLand => k_is)
    (case yE_NoYear => k_is)
    (case yE_NoDay => k_is)
    (case yE_NoPlace => k_is)
    (case yE_NoWeek => k_is)
    (case yE_NoName => k_is)
    (case yE_NoSeen => k_is)
    (case yE_NoNumber => k_is)
    (case yE_NothingLeft => k_is)
    (case ysp => k_is)
    (case ytk => k_is)
    (case yx_NoLand => k_exc)
    (case yk_NoLand => k_is)
    (case ysb_NoLand => k_is)
    (case ytp_NoLand => k_is)
    (case yga_NoLand => k_is)
    (case ygt_NoLand => k_is)
    (case yhd_NoLand => k_is)
    (case yca_NoLand => k_is)
    (case ymr_NoLand => k_is)
    (case yem_NoLand => first | rfl | decide +kernel | kernel_rfl)
    (case yki_NoLand_NoLand => first | rfl | decide +kernel | kernel_rfl)
    (case yki_NoLand_NoYear => first | rfl | decide +kernel | kernel_rfl)
    (case yki_NoLand_NoDay => first | rfl | decide +kernel | kernel_rfl)
    (case yki_NoLand_NoPlace => first | rfl | decide +kernel | kernel_rfl)
    (case yki_NoLand_NoWeek => first | rfl | decide +kernel | kernel_rfl)
    (case yki_NoLand_NoName => first | rfl | decide +kernel | kernel_rfl)
    (case yki_NoLand_NoSeen => first | rfl | decide +kernel | kernel_rfl)
    (case yki_NoLand_NoNumber => first | rfl | decide +kernel | kernel_rfl)
    (case yki_NoLand_NothingLeft => first | rfl | decide +kernel | kernel_rfl)
    (case yki_NoLand_V => first | rfl | decide +kernel | kernel_rfl)
    (case yx_NoYear => k_exc)
    (case yk_NoYear => k_is)
    (case ysb_NoYear => k_is)
    (case ytp_NoYear => k_is)
    (case yga_NoYear => k_is)
    (case ygt_NoYear => k_is)
    (case yhd_NoYear => k_is)
    (case yca_NoYear => k_is)
    (case ymr_NoYear => k_is)
    (case yem_NoYear => first | rfl | decide +kernel | kernel_rfl)
    (case yki_NoYear_NoLand => first | rfl | decide +kernel | kernel_rfl)
    (case yki_NoYear_NoYear => first | rfl | decide +kernel | kernel_rfl)
    (case yki_NoYear_NoDay => first | rfl | decide +kernel | kernel_rfl)
    (case yki_NoYear_NoPlace => first | rfl | decide +kernel | kernel_rfl)
    (case yki_NoYear_NoWeek => first | rfl | decide +kernel | kernel_rfl)
    (case yki_NoYear_NoName => first | rfl | decide +kernel | kernel_rfl)
    (case yki_NoYear_NoSeen => first | rfl | decide +kernel | kernel_rfl)
    (case yki_NoYear_NoNumber => first | rfl | decide +kernel | kernel_rfl)
    (case yki_NoYear_NothingLeft => first | rfl | decide +kernel | kernel_rfl)
    (case yki_NoYear_V => first | rfl | decide +kernel | kernel_rfl)
    (case yx_NoDay => k_exc)
    (case yk_NoDay => k_is)
    (case ysb_NoDay => k_is)
    (case ytp_NoDay => k_is)
    (case yga_NoDay => k_is)
    (case ygt_NoDay => k_is)
    (case yhd_NoDay => k_is)
    (case yca_NoDay => k_is)
    (case ymr_NoDay => k_is)
    (case yem_NoDay => first | rfl | decide +kernel | kernel_rfl)
    (case yki_NoDay_NoLand => first | rfl | decide +kernel | kernel_rfl)
    (case yki_NoDay_NoYear => first | rfl | decide +kernel | kernel_rfl)
    (case yki_NoDay_NoDay => first | rfl | decide +kernel | kernel_rfl)
    (case yki_NoDay_NoPlace => first | rfl | decide +kernel | kernel_rfl)
    (case yki_NoDay_NoWeek => first | rfl | decide +kernel | kernel_rfl)
    (case yki_NoDay_NoName => first | rfl | decide +kernel | kernel_rfl)
    (case yki_NoDay_NoSeen => first | rfl | decide +kernel | kernel_rfl)
    (case yki_NoDay_NoNumber => first | rfl | decide +kernel | kernel_rfl)
    (case yki_NoDay_NothingLeft => first | rfl | decide +kernel | kernel_rfl)
    (case yki_NoDay_V => first | rfl | decide +kernel | kernel_rfl)
    (case yx_NoPlace => k_exc)
    (case yk_NoPlace => k_is)
    (case ysb_NoPlace => k_is)
    (case ytp_NoPlace => k_is)
    (case yga_NoPlace => k_is)
    (case ygt_NoPlace => k_is)
    (case yhd_NoPlace => k_is)
    (case yca_NoPlace => k_is)
    (case ymr_NoPlace => k_is)
    (case yem_NoPlace => first | rfl | decide +kernel | kernel_rfl)
    (case yki_NoPlace_NoLand => first | rfl | decide +kernel | kernel_rfl)
    (case yki_NoPlace_NoYear => first | rfl | decide +kernel | kernel_rfl)
    (case yki_NoPlace_NoDay => first | rfl | decide +kernel | kernel_rfl)
    (case yki_NoPlace_NoPlace => first | rfl | decide +kernel | kernel_rfl)
    (case yki_NoPlace_NoWeek => first | rfl | decide +kernel | kernel_rfl)
    (case yki_NoPlace_NoName => first | rfl | decide +kernel | kernel_rfl)
    (case yki_NoPlace_NoSeen => first | rfl | decide +kernel | kernel_rfl)
    (case yki_NoPlace_NoNumber => first | rfl | decide +kernel | kernel_rfl)
    (case yki_NoPlace_NothingLeft => first | rfl | decide +kernel | kernel_rfl)
    (case yki_NoPlace_V => first | rfl | decide +kernel | kernel_rfl)
    (case yx_NoWeek => k_exc)
    (case yk_NoWeek => k_is)
    (case ysb_NoWeek => k_is)
    (case ytp_NoWeek => k_is)
    (case yga_NoWeek => k_is)
    (case ygt_NoWeek => k_is)
    (case yhd_NoWeek => k_is)
    (case yca_NoWeek => k_is)
    (case ymr_NoWeek => k_is)
    (case yem_NoWeek => first | rfl | decide +kernel | kernel_rfl)
    (case yki_NoWeek_NoLand => first | rfl | decide +kernel | kernel_rfl)
    (case yki_NoWeek_NoYear => first | rfl | decide +kernel | kernel_rfl)
    (case yki_NoWeek_NoDay => first | rfl | decide +kernel | kernel_rfl)
    (case yki_NoWeek_NoPlace => first | rfl | decide +kernel | kernel_rfl)
    (case yki_NoWeek_NoWeek => first | rfl | decide +kernel | kernel_rfl)
    (case yki_NoWeek_NoName => first | rfl | decide +kernel | kernel_rfl)
    (case yki_NoWeek_NoSeen => first | rfl | decide +kernel | kernel_rfl)
    (case yki_NoWeek_NoNumber => first | rfl | decide +kernel | kernel_rfl)
    (case yki_NoWeek_NothingLeft => first | rfl | decide +kernel | kernel_rfl)
    (case yki_NoWeek_V => first | rfl | decide +kernel | kernel_rfl)
    (case yx_NoName => k_exc)
    (case yk_NoName => k_is)
    (case ysb_NoName => k_is)
    (case ytp_NoName => k_is)
    (case yga_NoName => k_is)
    (case ygt_NoName => k_is)
    (case yhd_NoName => k_is)
    (case yca_NoName => k_is)
    (case ymr_NoName => k_is)
    (case yem_NoName => first | rfl | decide +kernel | kernel_rfl)
    (case yki_NoName_NoLand => first | rfl | decide +kernel | kernel_rfl)
    (case yki_NoName_NoYear => first | rfl | decide +kernel | kernel_rfl)
    (case yki_NoName_NoDay => first | rfl | decide +kernel | kernel_rfl)
    (case yki_NoName_NoPlace => first | rfl | decide +kernel | kernel_rfl)
    (case yki_NoName_NoWeek => first | rfl | decide +kernel | kernel_rfl)
    (case yki_NoName_NoName => first | rfl | decide +kernel | kernel_rfl)
    (case yki_NoName_NoSeen => first | rfl | decide +kernel | kernel_rfl)
    (case yki_NoName_NoNumber => first | rfl | decide +kernel | kernel_rfl)
    (case yki_NoName_NothingLeft => first | rfl | decide +kernel | kernel_rfl)
    (case yki_NoName_V => first | rfl | decide +kernel | kernel_rfl)
    (case ycl54 => rfl)
    (case ych54 => first | rfl | decide +kernel | kernel_rfl)
    (case ynl54 => first | rfl | decide +kernel | kernel_rfl)
    (case ycl55 => rfl)
    (case ych55 => first | rfl | decide +kernel | kernel_rfl)
    (case ynl55 => first | rfl | decide +kernel | kernel_rfl)
    (case ycl56 => rfl)
    (case ych56 => first | rfl | decide +kernel | kernel_rfl)
    (case ynl56 => first | rfl | decide +kernel | kernel_rfl)
    (case ycl58 => rfl)
    (case ych58 => first | rfl | decide +kernel | kernel_rfl)
    (case ynl58 => first | rfl | decide +kernel | kernel_rfl)
    (case ycl59 => rfl)
    (case ych59 => first | rfl | decide +kernel | kernel_rfl)
    (case ynl59 => first | rfl | decide +kernel | kernel_rfl)
    (case ynd => first | decide | decide +kernel)
