import PyProof.Rows.All
import Wide.All
import OpenK.AllK
import Wide.FinOn
import HandS.ForMost
import HandS.IsInst
import HandS.Wide
import HandS.Evl
import HandS.TupAny
import HandS.Style
import HandS.Walk
import HandS.WideBits
import HandS.Conv
import HandS.SortKw
import KE.DataMinMax
import HandS.Comp
import HandS.SetFor
import HandS.SortInts
import HandS.Strs
import KE.GoesMore
import PyProof.LongRange
import HandS.Lambda
import HandS.EndTab
import HandS.HotCalls
import HandS.ExcIs
import HandS.ExcOwn
import HandS.Zip
import HandS.ExcCtx
import KE.GoesZip
import KE.GoesComp
import KE.GoesEnum
import KE.GoesNew
import HandS.TupSets
import HandS.Deep
import HandS.TupMul
import PySem.Challenge.RW_longyears_k11_whole_a_realm_changes_its
set_option Elab.async false
set_option linter.all false
set_option maxRecDepth 100000
set_option maxHeartbeats 4200000
namespace LY
open PySem PySem.Spec PyProof.Rows L2 Evl

/-! ### own bridges: whatever the library walks, as something that a loop of the hand layer walks -/
/-- n values f 0, f 1, .., the heap left alone -/
def ItF (n : Nat) (f : Nat → V) : It where
  go i _ := i < n
  yld i H x H' := H' = H ∧ x = f i
  stop i _ := i = n
theorem walk_itF {n : Nat} {f : Nat → V} : Walk (ItF n f) n (fun _ => True) (YFn f) :=
  { goes := fun _ _ h _ => h, stops := fun _ _ => rfl, yields := fun _ _ _ _ _ _ y => y }
/-- one record that the walk turns, which keeps no tuple of its own -/
def Lone (St : Nat → Heap → Prop) (it : Addr) : Prop := ∀ i h, St i h → ∃ (o : Obj) (c : String) (vs : Array Value), h.get? it = some o ∧ o.cls = .type c ∧ o.data = .fields vs ∧
  ["enumerate", "zip", "dict_itemiterator", "dict_reverseitemiterator", "odict_iterator", "itertools.zip_longest", "itertools.pairwise"].contains c = false
theorem turn_lone {P : Program} {w : World} {K : PySem.W.Frag} {tg : Expr} {it : Addr} {n : Nat} {f : Nat → V} {Pv : Nat → Value → Prop} {St : Nat → Heap → Prop}
    (W : ∀ A : Around, A.handled = none → Walks P w A it [it] [it] n Pv St) (hv : ∀ i v, Pv i v → RelV (f i) v) (lone : Lone St it)
    (self : ∀ (A : Around) i (s : Shared) Q E, St i s.heap → Q (.ref it) s → wpAny (model P w) A (pyIter (.ref it)) Q E s) : Turn P w K tg (ItF n f) [it] it St := by
  have one : ∀ {b : Addr}, b ∈ [it] → b = it := fun hb => List.mem_singleton.mp hb
  refine { mem := List.mem_singleton.mpr rfl, obj := ?o, keep := ?k, item := ?i, done := ?d, self := ?s }
  case o =>
    rintro i h st b hb
    obtain ⟨o, c, vs, g1, _, g3, _⟩ := lone i h st
    exact ⟨o, one hb ▸ g1, fun v z => by rw [g3] at z; exact Data.noConfusion z⟩
  case k =>
    intro i h h' st kp
    exact (W { callerA with handled := none } rfl).frame i h h' st kp
  case i =>
    rintro X rfl rfl rfl calm i pins s σ H E I fp st lt
    have a := fp it (List.mem_singleton.mpr rfl)
    refine (W X.A (I.ok.hd calm)).item i s _ _ lt st fun v h2 tk pv st2 kp => ⟨v, rfl, ?_⟩
    obtain ⟨o, c, vs, g1, g2, g3, g4⟩ := lone _ _ st2
    exact go_of (s := { s with heap := h2, toks := tk }) g1 g2 g3 g4 ⟨f i, H, I.turned (fun b u hb e => kp b u (fun z => hb (one z)) e) a.1 a.2.1 a.2.2.2.1 a.2.2.2.2.1 a.2.2.2.2.2, hv i v pv, ⟨rfl, rfl⟩, st2, fun b hb => (fp b hb).1⟩
  case d =>
    rintro X rfl rfl rfl calm i pins s σ H E I fp st rfl
    have a := fp it (List.mem_singleton.mpr rfl)
    exact (W X.A (I.ok.hd calm)).done s _ _ st fun h2 tk kp => ⟨rfl, I.turned (fun b u hb e => kp b u (fun z => hb (one z)) e) a.1 a.2.1 a.2.2.2.1 a.2.2.2.2.1 a.2.2.2.2.2⟩
  case s => exact self
section
variable {X : Cx} {tg : Expr}
/-- range(a, b), whatever the size: the small iterator or the long one -/
def iSpan (ta : TA) : TI := fun σ H R => ta σ H fun vs H1 => ∃ a b : Int, vs = [.int a, .int b] ∧ R (ItF (b - a).toNat fun i => .int (a + i)) H1
theorem span_count (a b : Int) : ((b - a).toNat : Int) = Builtin.Range.rangeSize a b 1 := by
  rw [rangeSize_one]
  split
  · omega
  · omega
theorem span_start {pins : List (Addr × Obj)} {σ : L2.St} {H : Hp} {s : Shared} {R : It → Hp → Prop} {E : Value → Shared → Prop} {a b : Int} {t u v : Tok} {tk : Nat} (I : Inv X pins σ H s) (q : R (ItF (b - a).toNat fun i => .int (a + i)) H) :
    wpAny (model X.prog X.w) X.A (pyIter (.ref s.heap.objs.size)) (PIE X pins σ tg R) E { s with heap := s.heap.push { cls := .type "range", data := .fields #[.int a t, .int b u, .int 1 v] }, toks := tk } := by
  generalize hr : ({ cls := .type "range", data := .fields #[.int a t, .int b u, .int 1 v] } : Obj) = rg
  have J : Inv X pins σ H { s with heap := s.heap.push rg, toks := tk } := I.kept fun _ _ => Heap.get?_push_of_some _
  have rng : IsRange (s.heap.push rg) s.heap.objs.size a b 1 t u v := by
    subst hr
    exact IsRange.new ..
  have at0 : a + ((0 : Nat) : Int) * 1 = a := by omega
  have left : ((b - a).toNat : Int) - ((0 : Nat) : Int) = Builtin.Range.rangeSize a b 1 := by
    have := span_count a b
    omega
  have val : ∀ (i : Nat) (x : Value), (∃ t, x = .int (a + i * 1) t) → RelV (.int (a + i)) x := fun i x ⟨t, e⟩ => ⟨t, by rw [e, Int.mul_one]⟩
  have mine : ∀ c ∈ [(s.heap.push rg).objs.size], FpOk X pins H c := fun c hc => by
    rw [List.mem_singleton.mp hc]
    exact J.fpOk (Nat.le_refl _) (J.hok.fresh (Nat.le_refl _))
  cases sm : Builtin.Range.small a b 1
  · refine wpAny_pyIter_longrange (s := { s with heap := s.heap.push rg, toks := tk }) rng sm ⟨_, [_], _, _, H, rfl, J.kept (t' := tk) fun _ _ => Heap.get?_push_of_some _, turn_lone (fun A hA => Walks.longrange hA _ a 1 _) val (fun i h st => ⟨_, "longrange_iterator", _, st, rfl, rfl, rfl⟩) (fun A i s' Q E' st h => wpAny_pyIter_longiter st h), ?_, mine, q⟩
    show IsLongIter _ _ _ _ _
    rw [at0, left]
    apply Heap.get?_push_size
    rfl
  · refine wpAny_pyIter_range (s := { s with heap := s.heap.push rg, toks := tk }) rng sm ⟨_, [_], _, _, H, rfl, J.kept (t' := tk) fun _ _ => Heap.get?_push_of_some _, turn_lone (fun A hA => Walks.range hA _ a 1 _) val (fun i h st => ⟨_, "range_iterator", _, st, rfl, rfl, rfl⟩) (fun A i s' Q E' st h => wpAny_pyIter_rangeiter st h), ?_, mine, q⟩
    show IsRangeIter _ _ _ _ _
    rw [at0, left]
    apply Heap.get?_push_size
    rfl
theorem pi_span {a b : Expr} {ta : TA} {p pos : Pos} (gl : Gl X "range") (no : X.mg "range" = none) (args : PA X [a, b] ta) (two : starEach [a, b] X.env = [(false, eval a X.env), (false, eval b X.env)] := by rfl) (last : starEach [b] X.env = [(false, eval b X.env)] := by rfl) :
    PI X tg (.Call (.Name "range" p) [a, b] [] pos) (iSpan ta) := by
  constructor
  intro pins s σ H R I h
  have run := args.run pos pins s σ H _ I h
  refine Call_ (ld_blt I gl no boot_range (PyProof.Rows.callWith_type1 (thn run fun us s1 got => ?_) (by rw [two, last]) (by rw [last]; rfl)))
  obtain ⟨vs, H1, I1, rel, x, y, rfl, q⟩ := got
  obtain ⟨u1, u2, rfl, ⟨t1, rfl⟩, ⟨t2, rfl⟩⟩ := vals2 rel
  exact call_range_2 (span_start I1 q)
end

/-! ### enumerate of a tracked tuple, by the library's WalksT -/
/-- pairs (i, the i-th of xs), each new -/
def ItP (xs : List V) (t : Addr) : It where
  go i H := i < xs.length ∧ H t = some (.tup xs)
  yld i H v H' := ∃ p x, v = .ref p ∧ H p = none ∧ H' = upd H p (.tup [.int (i : Nat), x]) ∧ xs[i]? = some x
  stop i H := i = xs.length ∧ H t = some (.tup xs)
theorem walk_itP {xs : List V} {t : Addr} : Walk (ItP xs t) xs.length (fun H => H t = some (.tup xs)) (YPair (fun i => some (.int (i : Nat))) (fun i => xs[i]?)) :=
  { goes := fun _ _ h k => ⟨h, k⟩, stops := fun _ k => ⟨rfl, k⟩, yields := fun i _ _ _ _ _ ⟨p, x, h1, h2, h3, h4⟩ => ⟨p, .int (i : Nat), x, h1, h2, h3, rfl, h4⟩ }
theorem turn_pairs {P : Program} {w : World} {K : PySem.W.Frag} {elts : List Expr} {kk : Nat} {tpos : Pos} {xs : List V} {t e it : Addr} (ne : e ≠ it) :
    Turn P w K (.Tuple elts kk tpos) (ItP xs t) [e, it] e (fun i h => (∃ old, IsEnum h e it i old) ∧ h.IsTupleIter it t i) := by
  have me : e ∈ [e, it] := List.mem_cons_self ..
  have mi : it ∈ [e, it] := List.mem_cons_of_mem _ (List.mem_singleton.mpr rfl)
  refine { mem := me, obj := ?o, keep := ?k, item := ?i, done := ?d, self := ?s }
  case o =>
    rintro i h ⟨⟨old, he⟩, o, ho, hc, hd⟩ b hb
    refine (List.mem_cons.mp hb).elim (fun z => ?_) (fun z => ?_)
    · exact ⟨_, z ▸ he, fun v y => Data.noConfusion y⟩
    · exact ⟨o, List.mem_singleton.mp z ▸ ho, fun v y => by rw [hd] at y; exact Data.noConfusion y⟩
  case k => exact fun i h h' st kp => ⟨st.1.imp fun old he => kp e me _ he, st.2.at fun o g => kp it mi o g⟩
  case i =>
    rintro X rfl rfl rfl calm i pins s σ H E I fp ⟨en, ti⟩ ⟨lt, ht⟩
    obtain ⟨its, rel, tup, _⟩ := I.tuple (st_of ht)
    have te : t ≠ e := ne_of_none ht (fp e me).1
    have tt : t ≠ it := ne_of_none ht (fp it mi).1
    have size : its.toArray.size = xs.length := by rw [List.size_toArray, rel.length]
    have D := Draws.tuple (prog := X.prog) (w := X.w) (A := X.A.in1) (show X.A.in1.handled = none from I.ok.hd calm) it t tt its.toArray
    have W := WalksT.enumerateD D e ne (by simp [ne, Ne.symm te]) (by simp)
    obtain ⟨u, hu, ru⟩ := rel.get (List.getElem?_eq_getElem lt)
    refine W.item i s _ _ (by omega) ⟨en, ti, tup⟩ fun p vals h2 tk pv big isT mid kp => ⟨_, rfl, W.go elts kk tpos i p _ _ _ mid fun h3 st3 kp3 => ?_⟩
    obtain ⟨tok, y, hy, rfl⟩ := pv
    have same : y = u := Option.some.inj (hy.symm.trans (by simpa using hu))
    subst same
    have pf := W.apart i p h2 mid
    have isT3 : IsTup h3 p #[.int i tok, y] := isT.at fun o g => kp3 p o pf g
    have fresh : H p = none := I.hok.fresh big
    have J : Inv X pins σ (upd H p (.tup [.int (i : Nat), xs[i]])) { s with heap := h3, toks := tk } :=
      I.turnedNew (ch := [e, it]) (fun b o hb g => kp3 b o hb (kp b o hb g)) fp big ⟨by show 2 ≤ sizeLine; decide, [.int i tok, y], .cons ⟨tok, rfl⟩ (.cons ru .nil), isT3⟩
    refine ⟨.ref p, _, J, rfl, ⟨p, xs[i], rfl, fresh, rfl, List.getElem?_eq_getElem lt⟩, ⟨st3.1, st3.2.1⟩, fun b hb => ?_⟩
    have bp : b ≠ p := fun z => pf (z ▸ hb)
    rw [upd_ne bp]
    exact (fp b hb).1
  case d =>
    rintro X rfl rfl rfl calm i pins s σ H E I fp ⟨⟨old, he⟩, ti⟩ ⟨rfl, ht⟩
    obtain ⟨its, rel, tup, _⟩ := I.tuple (st_of ht)
    have size : xs.length = its.toArray.size := by rw [List.size_toArray, rel.length]
    rw [size] at he ti
    have tt : t ≠ it := ne_of_none ht (fp it mi).1
    have f := fp it mi
    exact wpAny_pyNext_enum_endD (Draws.tuple (show X.A.in1.handled = none from I.ok.hd calm) it t tt its.toArray) he ⟨ti, tup⟩ fun h2 kp => ⟨rfl, I.turned (t' := s.toks) kp f.1 f.2.1 f.2.2.2.1 f.2.2.2.2.1 f.2.2.2.2.2⟩
  case s => exact fun A i s Q E st h => st.1.elim fun _ he => wpAny_pyIter_enum he h

/-! ### enumerate(v) begun: over whatever the library says how iter(v) begins -/
def enumOf (it : Addr) : Obj := { cls := .type "enumerate", data := .fields #[.none, .bool false, .ref it, rawInt 0, .none, .none] }
theorem enum_made {v : Value} {o : Obj} {Hv : Heap → Prop} (B : Begins v o Hv) :
    Meets (Builtin.«enumerate.__new__» ⟨[.type "enumerate", v], []⟩) (fun _ R s => Hv s.heap ∧ R (.ok (.ret (.ref (s.heap.push o).objs.size))) { s with heap := (s.heap.push o).push (enumOf s.heap.objs.size) }) := by
  refine .of_wp fun prog w A R s hyp => ?_
  have sub := sub_enumerate
  rcases s with ⟨hp, gn, dr, tk, os⟩
  rcases hyp with ⟨hv, goal⟩
  have begun := fun (A' : Around) (E : Value → Shared → Prop) (Q : Value → Shared → Prop) => B.iter prog w A' E ⟨hp, gn, dr, tk, os⟩ Q hv
  wp_walk
  refine wpAny_stack_any fun _ => ?_
  refine wpAny_pure ?_
  split
  case _ c _ _ _ _ _ =>
    generalize (c == Value.type "enumerate") = same
    cases same
    all_goals wp_walk using begun
    all_goals exact ⟨_, rfl, goal⟩
  case _ =>
    wp_walk using begun
    exact ⟨_, rfl, goal⟩
theorem enum_call {prog : Program} {w : World} {A : Around} {E : Value → Shared → Prop} {s : Shared} {v : Value} {o : Obj} {Hv : Heap → Prop} {Q : Value → Shared → Prop} (B : Begins v o Hv) (hv : Hv s.heap)
    (q : IsEnum ((s.heap.push o).push (enumOf s.heap.objs.size)) (s.heap.objs.size + 1) s.heap.objs.size 0 .none → Q (.ref (s.heap.objs.size + 1)) { s with heap := (s.heap.push o).push (enumOf s.heap.objs.size) }) :
    wpAny (model prog w) A (call (.type "enumerate") [v]) Q E s := by
  have next : (s.heap.push o).objs.size = s.heap.objs.size + 1 := Heap.size_push ..
  have en : IsEnum ((s.heap.push o).push (enumOf s.heap.objs.size)) (s.heap.objs.size + 1) s.heap.objs.size 0 .none := next ▸ Heap.get?_push_size (s.heap.push o) rfl
  refine callType_new F.called_enumerate (by decide) (F.typeCall_enumerate_1 v) (F.newCall_enumerate_1 v) (fun x => F.args_object_init_2 x v) F.entry_enumerate_new (enum_made B) ⟨hv, ?_⟩
  rw [next]
  exact ⟨⟨_, en, rfl⟩, q en⟩
/-- enumerate of a list that is read, or of a tracked tuple -/
def iEnumS (K : PySem.W.Frag) (ta : TA) : TI := fun σ H R => ta σ H fun vs H1 => ∃ t xs, vs = [.ref t] ∧ ((SqL K H1 t xs ∧ R (Ite K t) H1) ∨ (H1 t = some (.tup xs) ∧ R (ItP xs t) H1))
theorem pi_enumS {X : Cx} {e : Expr} {ta : TA} {p pos tpos : Pos} {elts : List Expr} {kk : Nat} (gl : Gl X "enumerate") (no : X.mg "enumerate" = none) (arg : PA X [e] ta) (one : starEach [e] X.env = [(false, eval e X.env)] := by rfl) :
    PI X (.Tuple elts kk tpos) (.Call (.Name "enumerate" p) [e] [] pos) (iEnumS X.K ta) := by
  constructor
  intro pins s σ H R I h
  have run := arg.run pos pins s σ H _ I h
  refine Call_ (ld_blt I gl no boot_enumerate (PyProof.Rows.callWith_type1 (thn run fun us s1 got => ?_) one rfl))
  obtain ⟨vs, H1, I1, rel, t, xs, rfl, q⟩ := got
  obtain ⟨u, rfl, ru⟩ := vals1 rel
  obtain rfl : u = .ref t := ru
  have mine : ∀ c ∈ [s1.heap.objs.size + 1, s1.heap.objs.size], FpOk X pins H1 c := fun c hc => by
    have le : s1.heap.objs.size ≤ c := by
      simp only [List.mem_cons, List.not_mem_nil, or_false] at hc
      omega
    exact I1.fpOk le (I1.hok.fresh le)
  have grow : ∀ (a b : Obj) (c : Addr) (o : Obj), s1.heap.get? c = some o → ((s1.heap.push a).push b).get? c = some o := fun a b c o g => Heap.get?_push_of_some b (Heap.get?_push_of_some a g)
  have first : ∀ a b : Obj, a.isFreed = false → ((s1.heap.push a).push b).get? s1.heap.objs.size = some a := fun a b fr => Heap.get?_push_of_some b (Heap.get?_push_size _ fr)
  rcases q with ⟨hl, q⟩ | ⟨ht, q⟩
  · obtain ⟨its, _, pl, _⟩ := I1.list hl
    refine enum_call (begins_list t its.toArray) pl.isList fun en => wpAny_pyIter_enum en ⟨_, _, _, _, H1, rfl, I1.kept (t' := s1.toks) (grow _ _), turn_enum t _ _, ⟨⟨_, en⟩, ⟨_, first _ _ rfl, rfl, rfl⟩, Nat.succ_ne_self _⟩, mine, q⟩
  · obtain ⟨its, _, tu, _⟩ := I1.tuple (st_of ht)
    exact enum_call (begins_tuple t its.toArray) tu fun en => wpAny_pyIter_enum en ⟨_, _, _, _, H1, rfl, I1.kept (t' := s1.toks) (grow _ _), turn_pairs (Nat.succ_ne_self _), ⟨⟨_, en⟩, _, first _ _ rfl, rfl, rfl⟩, mine, q⟩

/-! ### xs + ys of lists that are read -/
section
variable {X : Cx}
def rCatL (K : PySem.W.Frag) : R2 := fun x y H Q => ∃ l b xs zs, x = .ref l ∧ y = .ref b ∧ SqL K H l xs ∧ SqL K H b zs ∧ xs.length + zs.length ≤ sizeLine ∧ ∀ p, H p = none → Q (.ref p) (upd H p (.lst (xs ++ zs)))
theorem op_catL : OpR X (binaryOp .Add) (rCatL X.K) := by
  rintro pins s σ H _ _ v u Q I rx ry ⟨l, b, xs, zs, rfl, rfl, ha, hb, hz, q⟩
  cases rx
  cases ry
  obtain ⟨i1, r1, p1, _⟩ := I.list ha
  obtain ⟨i2, r2, p2, _⟩ := I.list hb
  have g1 := r1.length
  have g2 := r2.length
  obtain ⟨⟨c1, dd1, dt1, s1⟩, o1, k1, m1, e1⟩ := p1.isList
  obtain ⟨⟨c2, dd2, dt2, s2⟩, o2, k2, m2, e2⟩ := p2.isList
  simp only at k1 e1 k2 e2
  subst k1 e1 k2 e2
  have ea : i1.toArray ++ i2.toArray = (i1 ++ i2).toArray := by simp
  refine concat_meets ⟨_, o1, rfl⟩ ⟨_, o2, rfl⟩ noFill_list_add seq_list_add PySem.F.slot_list_add PySem.F.entry_list_add (PySem.F.args_list_add_2 _ _)
    (list_addW l b i1.toArray i2.toArray m1 m2 dd1 dd2 s1 s2 (by rw [List.size_toArray, List.size_toArray]; omega)) ⟨o1, o2, ?_⟩
  rw [ea]
  exact ⟨.ref _, _, I.lnew (t' := s.toks) (r1.append r2) (by rw [List.length_append]; omega), rfl, q _ I.fresh⟩
end

/-! ### a truth and a number; a truth's text; a tuple from behind -/
section
variable {X : Cx}
theorem op_either {f : Value → Value → Sem Value} {r r' : R2} (h : OpR X f r) (h' : OpR X f r') : OpR X f (fun x y H Q => r x y H Q ∨ r' x y H Q) :=
  fun pins s σ H x y v u Q I rx ry q => q.elim (h pins s σ H x y v u Q I rx ry) (h' pins s σ H x y v u Q I rx ry)
/-- a truth, then a number -/
def rTN (g : Int → Int → Int) : R2 := fun x y H Q => ∃ (b : Bool) (j : Int), x = .bl b ∧ y = .int j ∧ Q (.int (g (if b = true then 1 else 0) j)) H
theorem op_addB : OpR X (binaryOp .Add) (rTN fun i j => i + j) := by
  rintro pins s σ H _ _ v u Q I rx ry ⟨b, j, rfl, rfl, q⟩
  obtain rfl : v = .bool b := rx
  obtain ⟨t, rfl⟩ : ∃ t, u = .int j t := ry
  exact PySem.IntBool.add_bool_int ⟨.int _, H, I.tok _, ⟨_, rfl⟩, q⟩
theorem op_subB : OpR X (binaryOp .Sub) (rTN fun i j => i - j) := by
  rintro pins s σ H _ _ v u Q I rx ry ⟨b, j, rfl, rfl, q⟩
  obtain rfl : v = .bool b := rx
  obtain ⟨t, rfl⟩ : ∃ t, u = .int j t := ry
  exact PySem.IntBool.sub_bool_int ⟨.int _, H, I.tok _, ⟨_, rfl⟩, q⟩
theorem op_addU : OpR X (binaryOp .Add) (fun x y H Q => rI0 (fun i j => .int (i + j)) x y H Q ∨ rTN (fun i j => i + j) x y H Q) := op_either op_add op_addB
theorem op_subU : OpR X (binaryOp .Sub) (fun x y H Q => rI0 (fun i j => .int (i - j)) x y H Q ∨ rTN (fun i j => i - j) x y H Q) := op_either op_sub op_subB
def rCatU (K : PySem.W.Frag) : R2 := fun x y H Q => rCatL K x y H Q ∨ rCatA K x y H Q
theorem op_catU : OpR X (binaryOp .Add) (rCatU X.K) := op_either op_catL op_catA
theorem sl_U : SlR X (fun x lo hi H Q => rSlL X.K x lo hi H Q ∨ rSlA X.K x lo hi H Q) := SlR.or sl_list sl_tupA
/-- every text of Lean's is a text of Python's -/
theorem strOk_of (s : String) : PyData.strOk (Str.ofString s) = true := by
  rw [Str.ofString_eq_toList]
  refine Array.all_eq_true'.mpr fun x hx => ?_
  obtain ⟨c, _, rfl⟩ : ∃ c, c ∈ s.toList ∧ Char.toNat c = x := by simpa using hx
  exact decide_eq_true (c.valid.elim (fun low => Nat.lt_trans low (by decide)) And.right)
def truthText (b : Bool) : Str := if b then "True" else "False"
theorem truth_text {P : Program} {w : World} {A : Around} {E : Value → Shared → Prop} {s : Shared} {b : Bool} {Q : Value → Shared → Prop} (q : Q (.str (truthText b) s.toks) { s with toks := s.toks + 1 }) : wpAny (model P w) A (call (.type "str") [.bool b]) Q E s := by
  have made : Meets (Builtin.«str.__new__» ⟨[.type "str", .bool b], []⟩) (fun _ R s => R (.ok (.ret (.str (truthText b) s.toks))) { s with toks := s.toks + 1 }) :=
    meets_str_new fun _ _ _ _ s r => wpAny_strOf_gives rfl (PySem.typeIs_bool s b) F.slot_bool_str F.slot_bool_repr F.entry_bool_repr (F.args_bool_repr_1 _) (gives_bool_repr b) r (hsz := by cases b <;> decide)
  exact callType_new F.called_str (by decide) (F.typeCall_str_1 _) (F.newCall_str_1 _) (fun x => F.args_object_init_2 x _) F.entry_str_new made ⟨typeIs_str _ _ _, q⟩
/-- str of a number or of a truth: some text -/
def rStrU : List V → Hp → VK → Prop := fun xs H Q => ((∃ i : Int, xs = [.int i] ∧ i.natAbs.log2 < 1920) ∨ ∃ b, xs = [.bl b]) ∧ ∀ x : Str, PyData.strOk x = true → Q (.str x) H
theorem call_strU : CallR X (.type "str") rStrU := by
  rintro pins s σ H xs us Q I r ⟨⟨i, e, hz⟩ | ⟨b, rfl⟩, q⟩
  · exact call_str_int pins s σ H xs us Q I r ⟨i, e, hz, q _ (strOk_of _)⟩
  · obtain ⟨_, rfl, rfl⟩ := vals1 r
    exact truth_text ⟨.str (truthText b), H, I.tok _, ⟨_, rfl⟩, q _ (by cases b <;> exact strOk_of _)⟩
end
/-- what the model's slices say of [::-1] -/
theorem back_bounds (n : Nat) : Builtin.Slice.sliceAdjust none none (-1) n = ((n : Int) - 1, -1) ∧ Builtin.Slice.slicePlaces ((n : Int) - 1) (-1) (-1) = n := by
  refine ⟨by simp [Builtin.Slice.sliceAdjust], ?_⟩
  simp [Builtin.Slice.slicePlaces]
  omega
theorem back_items (its : Array Value) : ((List.range its.size).filterMap fun k : Nat => its[(((its.size : Int) - 1) + (k : Int) * (-1)).toNat]?) = its.toList.reverse := by
  have there : ∀ k : Nat, its[(((its.size : Int) - 1) + (k : Int) * (-1)).toNat]? = its[its.size - 1 - k]? := fun k => by
    rw [show (((its.size : Int) - 1) + (k : Int) * (-1)).toNat = its.size - 1 - k by omega]
  have back := congrArg (List.filterMap (its[·]?)) (PySem.W.krv_range its.size)
  rw [List.filterMap_map, List.filterMap_reverse, PySem.W.krv_all] at back
  rw [← back]
  exact congrArg (List.filterMap · _) (funext there)
section
variable {s : Shared} {P : Program} {w : World} {A : Around} {E : Value → Shared → Prop}
/-- the slice object of [::-1], taken of n items -/
theorem back_applied {sl : Addr} {tk : Tok} {n : Nat} {Q : Int × Int × Nat → Shared → Prop} (hs : s.heap.IsSliceOf sl .none .none (.int (-1) tk)) (q : Q ((n : Int) - 1, -1, n) s) :
    wpAny (model P w) A (Builtin.Slice.sliceApplied (.ref sl) (pure (n : Int))) Q E s := by
  obtain ⟨o, ho, _, hd⟩ := hs
  have none0 : IsPart Value.none none := .none
  have part : ∀ {i : Nat} {v : Value} {Q' : Value → Shared → Prop}, (#[Value.none, .none, .int (-1) tk] : Array Value)[i]? = some v → Q' v s → wpAny (model P w) A (field (.ref sl) i) Q' E s := fun hi h => wpAny_field ho hd hi h
  simp only [Builtin.Slice.sliceApplied, Builtin.Slice.sliceFields]
  refine wpAny_bind (wpAny_bind (part rfl (wpAny_bind (part rfl (wpAny_bind (part rfl (wpAny_pure ?_)))))))
  refine wpAny_bind (HT.slicePart_ (o := some (-1)) (.int (-1) tk) ?_)
  refine wpAny_bind (HT.slicePart_ none0 (wpAny_bind (HT.slicePart_ none0 (wpAny_bind (wpAny_pure ?_)))))
  have e := back_bounds n
  simp only [Option.getD, e.1, e.2]
  exact wpAny_pure q
/-- t[::-1] asked of the tuple's own __getitem__ -/
theorem back_got {t sl : Addr} {tk : Tok} {its : Array Value} {Q : Value → Shared → Prop} (ht : IsTup s.heap t its) (hs : s.heap.IsSliceOf sl .none .none (.int (-1) tk)) (hz : its.size ≤ sizeLine)
    (q : Q (.ref s.heap.objs.size) { s with heap := s.heap.push { cls := .type "tuple", data := .seq its.toList.reverse.toArray } }) : wpAny (model P w) A (getItem (.ref t) (.ref sl)) Q E s := by
  have slice : s.TypeIs (.ref sl) "slice" := hs.elim fun o h => ⟨o, h.1, h.2.1⟩
  have room : sizeOk (.seq its.toList.reverse.toArray) := by
    simpa [sizeOk] using hz
  have own : wpAny (model P w) A.in1 (Builtin.«tuple.__getitem__» ⟨[.ref t, .ref sl], []⟩) (fun fin s' => ∃ v, fin = .done (.ret v) ∧ Q v s') E s := by
    refine wpAny_bind (m := Builtin.Tuple.tupleItemsOf (.ref t)) (tupleItemsOf_ ht (wpAny_bind (wpAny_typeOf slice ?_)))
    rw [if_pos (by decide)]
    refine wpAny_bind (back_applied hs ?_)
    show wpAny _ _ (if ((its.size : Int) - 1 == 0 && (-1 : Int) == 1 && its.size == its.size) = true then _ else _) _ _ s
    rw [if_neg (by simp)]
    refine wpAny_bind (m := Builtin.Tuple.tupleExact _) ?_
    rw [back_items]
    refine wpAny_newObj_type ?_ room
    exact wpAny_pure ⟨_, rfl, q⟩
  have asked : wpAny (model P w) A (callSpecial? (.ref t) "__getitem__" [.ref sl]) (fun r s' => ∃ v, r = some v ∧ Q v s') E s :=
    wpAny_callSpecial?_slot ht.typeIs PyProof.Rows.slot_tuple_getitem (wpAny_call_entry PyProof.Rows.slot_tuple_getitem ht.typeIs entry_tuple_getitem (wpAny_mono own (fun f s' ⟨v, e, h⟩ => ⟨v, e, v, rfl, h⟩) fun _ _ h => h) (args_tuple_getitem _ _))
  simp only [getItem]
  refine wpAny_holding (wpAny_bind (wpAny_sequenceKey (hT := ht.typeIs) (by decide) ?_))
  refine wpAny_bind (wpAny_mono asked (fun r s' h => ?_) fun _ _ h => h)
  obtain ⟨v, rfl, h⟩ := h
  exact wpAny_pure h
end
section
variable {X : Cx}
/-- t[::-1], t a tuple -/
def tBack (K : PySem.W.Frag) (te : TE) : TE := fun σ H Q => te σ H fun x H1 => ∃ a xs, x = .ref a ∧ SqT K H1 a xs ∧ ∀ p, H1 p = none → Q (.ref p) (upd H1 p (.tup xs.reverse))
theorem pe_back {e : Expr} {te : TE} {k : Nat} {p1 p2 p3 pos : Pos} (he : PE X e te) : PE X (.Subscript e (.Slice none none (some (.UnaryOp .USub (.Constant (.int 1) k p1) p2)) p3) pos) (tBack X.K te) := by
  constructor
  intro pins s σ H Q I h
  have minus : PE X (.UnaryOp .USub (.Constant (.int 1) k p1) p2) (tUn (rU fun i => .int (-i)) (tC (.int 1))) := pe_un un_neg pe_int
  refine Subscript_ (thn (he.run pins s σ H _ I h) fun v s1 got => ?_)
  obtain ⟨_, H1, I1, rv, a, xs, rfl, hx, q⟩ := got
  obtain rfl : v = .ref a := rv
  refine wpAny_Slice (thn (po_none.run pins s1 σ H1 (fun o H' => o = none ∧ H' = H1) I1 ⟨rfl, rfl⟩) fun v2 s2 g2 => ?_)
  obtain ⟨_, H2, I2, n2, rfl, e2⟩ := g2
  rw [e2] at I2
  refine thn (po_none.run pins s2 σ H1 (fun o H' => o = none ∧ H' = H1) I2 ⟨rfl, rfl⟩) fun v3 s3 g3 => ?_
  obtain ⟨_, H3, I3, n3, rfl, e3⟩ := g3
  rw [e3] at I3
  refine thn ((po_some minus).run pins s3 σ H1 (fun o H' => o = some (-1) ∧ H' = H1) I3 ⟨1, rfl, -1, rfl, rfl, rfl⟩) fun v4 s4 g4 => ?_
  obtain ⟨_, H4, I4, n4, rfl, e4⟩ := g4
  rw [e4] at I4
  cases n2
  cases n3
  cases n4 with
  | int _ tk =>
    generalize hsl : ({ cls := .type "slice", data := .fields #[Value.none, .none, .int (-1) tk] } : Obj) = so
    have J : Inv X pins σ H1 { s4 with heap := s4.heap.push so } := I4.kept (t' := s4.toks) fun _ _ => Heap.get?_push_of_some _
    have sl : (s4.heap.push so).IsSliceOf s4.heap.objs.size .none .none (.int (-1) tk) := hsl ▸ Heap.IsSliceOf.new ..
    obtain ⟨its, rel, tup, z⟩ := J.tuple hx
    have sz := rel.length
    refine tail_any (s := { s4 with heap := s4.heap.push so }) (ops := [.ref a, .ref s4.heap.objs.size]) tup.typeIs PyProof.Rows.slot_tuple_getitem.lookup (back_got tup sl (by rw [List.size_toArray]; omega) ?_) (by with_unfolding_all rfl)
    refine ⟨.ref _, _, J.laid (t' := s4.toks) (o := .tup xs.reverse) (fun _ _ => Heap.get?_push_of_some _) (Nat.le_refl _) ⟨?_, its.reverse, rel.reverse, IsTup.new _ _⟩, rfl, q _ J.fresh⟩
    rw [List.length_reverse]
    exact z
end

/-- a new set, nothing in it -/
def bareSet (w : World) : Obj := { cls := .type "set", dict := none, data := .set #[] 0 (.fresh 0 0 (!w.params.followText "set-order")) }
section
variable {P : Program} {w : World} {A : Around} {E : Value → Shared → Prop}
theorem set_filled {S l : Addr} {its : Array Value} {ns : List Int} {s : Shared} {R : Result → Shared → Prop} (calm : A.handled = none) (hS : s.heap.get? S = some (bareSet w)) (hl : s.heap.IsList l its) (nums : IntsAre its.toList ns) (room : ns.length + 1 < scanBound)
    (q : ∀ h' tk' (c : Nat), SetR w h' S (fun j => decide (j ∈ ns)) c → (∀ b o, b ≠ S → s.heap.get? b = some o → h'.get? b = some o) → R (.ok (.ret .none)) { s with heap := h', toks := tk' }) :
    wpAny (model P w) A.in1 (Builtin.«set.__init__» ⟨[.ref S, .ref l], []⟩) (fun fin s' => match fin with | .done f => R (.ok f) s' | .again c' => c'.quiet = true ∧ codeAny (model P w) A c' R s') (fun e s' => R (.error e) s') s := by
  rcases s with ⟨hp, gn, dr, tk, os⟩
  have apartL : l ≠ S := fun z => by
    obtain ⟨o, ho, oc, _⟩ := hl
    rw [z, hS] at ho
    cases ho
    exact absurd oc (by show ¬ Value.type "set" = Value.type "list"; decide)
  have no1 := F.sub_list_set
  have no2 := F.sub_list_frozenset
  have no3 : (Value.type "list" == Value.type "dict") = false := by decide
  have is := hl
  obtain ⟨⟨c0, d0, t0, sl0⟩, ho, oc, n0, od⟩ := hl
  simp only at oc od
  subst oc od
  have fresh : bareSet w = { cls := .type "set", dict := none, data := .set #[] 0 (.fresh 0 0 (!w.params.followText "set-order")) } := rfl
  rw [fresh] at hS
  have begun := fun (A' : Around) (E' : Value → Shared → Prop) (Q' : Value → Shared → Prop) => wpAny_pyIter_list (prog := P) (w := w) (A := A') (E := E') (Q := Q') is
  wp_walk using begun
  have newI : S ≠ hp.objs.size := Nat.ne_of_lt (Heap.lt_size hS)
  have newL : l ≠ hp.objs.size := Nat.ne_of_lt (Heap.lt_size ho)
  have many : its.size = ns.length := Array.length_toList.symm.trans nums.length
  refine set_update_ints (Walks.list (A := A.in1.in1) (by simpa using calm) hp.objs.size l newL its).toS S (fun z => ?_) ns many room (fun i v hv => ?_) its.size 0 _ rfl (Nat.zero_le _) ⟨⟨_, Heap.get?_push_size _ rfl, rfl, rfl⟩, is.push _⟩ ⟨0, Nat.le_refl 0, setR_new_at (Heap.get?_push_of_some _ hS)⟩ (fun s' c mv _ made => ?_)
  · simp only [List.mem_cons, List.not_mem_nil, or_false] at z
    rcases z with z | z
    · exact newI z
    · exact apartL z.symm
  · obtain ⟨t, e⟩ := nums.int_at i v (by rw [Array.getElem?_toList]; exact hv)
    have lt : i < ns.length := many ▸ (Array.getElem?_eq_some_iff.mp hv).1
    exact ⟨ns[i], t, List.getElem?_eq_getElem lt, by rw [e]; simp [List.getD, lt]⟩
  · have kept : ∀ b o, b ≠ S → hp.get? b = some o → s'.heap.get? b = some o := fun b o nb g => mv.heap b o (fun z => by
      simp only [List.mem_cons, List.not_mem_nil, or_false] at z
      exact z.elim nb (Nat.ne_of_lt (Heap.lt_size g))) (Heap.get?_push_of_some _ g)
    have end_ := q s'.heap s'.toks c made kept
    rw [show ({ heap := s'.heap, gens := gn, drawn := dr, toks := s'.toks, os := os } : Shared) = s' by rcases s' with ⟨a1, a2, a3, a4, a5⟩; have g := mv.gens; have d := mv.drawn; have o := mv.os; simp only at g d o; rw [g, d, o]] at end_
    exact wpAny_pure (wpAny_pure end_)
theorem set_called {l : Addr} {its : Array Value} {ns : List Int} {s : Shared} {Z : Value → Shared → Prop} (calm : A.handled = none) (hl : s.heap.IsList l its) (nums : IntsAre its.toList ns) (room : ns.length + 1 < scanBound)
    (q : ∀ h' tk' (c : Nat), SetR w h' s.heap.objs.size (fun j => decide (j ∈ ns)) c → (∀ b o, s.heap.get? b = some o → h'.get? b = some o) → Z (.ref s.heap.objs.size) { s with heap := h', toks := tk' }) :
    wpAny (model P w) A (call (.type "set") [.ref l]) Z E s := by
  have ft := F.called_set
  have f1 := ft.notType
  have f2 := ft.canCreate
  have f3 := ft.made
  have f4 := ft.sub
  have f5 := F.typeCall_set_1 (.ref l)
  obtain ⟨c, tl, f6⟩ := ft.mro
  have made := code_set_led1 (P := P) (w := w) (A := A.in1) (E := E) (s := s) (.ref l) (Q₁ := fun obj s₁ => obj = .ref s.heap.objs.size ∧ s₁ = { s with heap := s.heap.push (bareSet w) }) ⟨rfl, rfl⟩
  apply wpAny_call
  apply codeAny_of_tree
  show wpAny _ _ (callAny (.type "set") ⟨[.ref l], []⟩) _ _ _
  apply wpAny_pure
  refine ⟨Code.quiet_builtin _ (by decide +kernel), ?_⟩
  apply codeAny_builtin F.entry_type_call
  rw [Around.under_plain (weight_type_call_type _ _ _) rfl]
  wp_walk
  refine codeAny_mono made fun got s₁ z => ?_
  rcases got with e | fl
  · exact z
  · cases fl with
    | ret obj =>
      obtain ⟨rfl, rfl⟩ := z
      have at_ : (s.heap.push (bareSet w)).get? s.heap.objs.size = some (bareSet w) := Heap.get?_push_size _ rfl
      have ty : Shared.TypeIs { s with heap := s.heap.push (bareSet w) } (.ref s.heap.objs.size) "set" := ⟨_, at_, rfl⟩
      have g1 := ft.init.lookup
      have g2 := ft.init.bind (.ref s.heap.objs.size)
      have grown : ∀ b o, s.heap.get? b = some o → (s.heap.push (bareSet w)).get? b = some o := fun b o g => Heap.get?_push_of_some _ g
      have filled := set_filled (P := P) (w := w) (A := A.in1) (S := s.heap.objs.size) (l := l) (its := its) (ns := ns) (s := { s with heap := s.heap.push (bareSet w) }) (R := wants (fun r s₂ => r = .none ∧ Z (.ref s.heap.objs.size) s₂) E) (by simpa using calm) at_ (hl.push _) nums room fun h' tk' c made kept => ⟨rfl, q h' tk' c made fun b o g => kept b o (Nat.ne_of_lt (Heap.lt_size g)) (grown b o g)⟩
      have done := codeAny_call_builtin ft.init.plain F.entry_set_init (check_set_init_1 ty filled)
      show wpAny _ _ _ _ _ _
      wp_walk
      refine codeAny_mono done fun got2 s₂ z2 => ?_
      rcases got2 with e | fl2
      · exact z2
      · cases fl2 with
        | ret r =>
          obtain ⟨rfl, goal⟩ := z2
          show wpAny _ _ _ _ _ _
          wp_walk
          exact goal
        | _ => exact z2.elim
    | _ => exact z.elim
end
section
variable {X : Cx}
/-- set(xs), xs a list of numbers that is only read: a set of just these, with as many members as there are unlike ones -/
def rSetL (K : PySem.W.Frag) (w : World) : List V → Hp → VK → Prop := fun vs H Q => ∃ (a : Addr) (ns : List Int), vs = [.ref a] ∧ SqL K H a (ns.map V.int) ∧ ns.length + 1 < scanBound ∧
  ∀ (p : Addr) (ks : List Int), ks.Nodup → (∀ k, k ∈ ks ↔ k ∈ ns) → H p = none → Q (.ref p) (upd H p (SetO w p (fun j => decide (j ∈ ns)) ks.length))
theorem cr_setL (calm : X.calm = true) : CallR X (.type "set") (rSetL X.K X.w) := by
  rintro pins s σ H vs us Q I r ⟨a, ns, rfl, hq, room, q⟩
  obtain ⟨its, rel, pl, _⟩ := I.list hq
  rw [Vals.ref1 r]
  refine set_called (its := its.toArray) (ns := ns) (I.ok.hd calm) pl.isList (by simpa using intsAre_of rel) room fun h' tk' c made kept => ?_
  obtain ⟨o, es, ep, t, ho, hx, hd, good, nd, mem, hb, hf, hn, _⟩ := id made
  have count : c = (es.toList.map keyOf).length := by rw [List.length_map, Array.length_toList, hn]
  have free := I.hok.fresh (Nat.le_refl s.heap.objs.size)
  refine ⟨.ref _, upd H s.heap.objs.size (SetO X.w s.heap.objs.size (fun j => decide (j ∈ ns)) c), I.laid (t' := tk') kept (Nat.le_refl _) (setO_new made), rfl, ?_⟩
  rw [count]
  exact q _ (es.toList.map keyOf) nd (fun k => by rw [← mem k]; exact decide_eq_true_iff) free
end

/-! ### lists and tuples of numbers compared -/
theorem dps_ints {K : PySem.W.Frag} {H : Hp} : ∀ ns : List Int, DpAll K H (ns.map V.int) (ns.map PyData.int)
  | [] => .nil
  | n :: ns => .cons (.int n) (dps_ints ns)
theorem lays_ints : ∀ ns : List Int, PyData.canLayAll0 (ns.map PyData.int) = true
  | [] => rfl
  | n :: ns => by
    have h := lays_ints ns
    simp only [List.map_cons, PyData.canLayAll0, PyData.canLay0, h, Bool.and_true, Bool.true_and]
theorem deep_ints : ∀ ns : List Int, PyData.depthAll (ns.map PyData.int) ≤ 1
  | [] => by decide
  | n :: ns => by
    have h := deep_ints ns
    simp only [List.map_cons, PyData.depth, PyData.depthAll]
    omega
theorem shaped_lst (ns : List Int) : SeqAt.shaped (.list (ns.map PyData.int)) = true := by
  have h1 := lays_ints ns
  have h2 := deep_ints ns
  unfold SeqAt.shaped
  rw [PyData.canLay0, PyData.depth, h1, Bool.true_and]
  exact decide_eq_true (show _ ≤ 64 by omega)
theorem shaped_tup (ns : List Int) : SeqAt.shaped (.tuple (ns.map PyData.int)) = true := by
  have h1 := lays_ints ns
  have h2 := deep_ints ns
  unfold SeqAt.shaped
  rw [PyData.canLay0, PyData.depth, h1, Bool.true_and]
  exact decide_eq_true (show _ ≤ 64 by omega)
theorem eqv_ints : ∀ ns ms : List Int, PyData.eqvAll (ns.map PyData.int) (ms.map PyData.int) = decide (ns = ms)
  | [], [] => rfl
  | [], m :: ms => rfl
  | n :: ns, [] => rfl
  | n :: ns, m :: ms => by
    have h := eqv_ints ns ms
    simp only [List.map_cons, PyData.eqvAll, PyData.eqv, h]
    by_cases e : n = m <;> by_cases e' : ns = ms <;> simp [e, e']
section
variable {K : PySem.W.Frag} {H : Hp} {Q : VK} {a b : Addr} {ns ms : List Int}
theorem eq_lsts (ha : SqL K H a (ns.map V.int)) (hb : SqL K H b (ms.map V.int)) (q : Q (.bl (decide (ns = ms))) H) : rEqD K (.ref a) (.ref b) H Q :=
  ⟨_, _, .lst ha (dps_ints ns), .lst hb (dps_ints ms), shaped_lst ns, shaped_lst ms, by rw [PyData.eqv, eqv_ints]; exact q⟩
theorem ne_lsts (ha : SqL K H a (ns.map V.int)) (hb : SqL K H b (ms.map V.int)) (q : Q (.bl (!decide (ns = ms))) H) : rNeD K (.ref a) (.ref b) H Q :=
  ⟨_, _, .lst ha (dps_ints ns), .lst hb (dps_ints ms), shaped_lst ns, shaped_lst ms, by rw [PyData.eqv, eqv_ints]; exact q⟩
theorem eq_tups (ha : SqT K H a (ns.map V.int)) (hb : SqT K H b (ms.map V.int)) (q : Q (.bl (decide (ns = ms))) H) : rEqD K (.ref a) (.ref b) H Q :=
  ⟨_, _, .tup ha (dps_ints ns), .tup hb (dps_ints ms), shaped_tup ns, shaped_tup ms, by rw [PyData.eqv, eqv_ints]; exact q⟩
theorem ne_tups (ha : SqT K H a (ns.map V.int)) (hb : SqT K H b (ms.map V.int)) (q : Q (.bl (!decide (ns = ms))) H) : rNeD K (.ref a) (.ref b) H Q :=
  ⟨_, _, .tup ha (dps_ints ns), .tup hb (dps_ints ms), shaped_tup ns, shaped_tup ms, by rw [PyData.eqv, eqv_ints]; exact q⟩
end
/-- a comprehension over a list of numbers, with a test -/
theorem given_list (xs : List Int) (p : Int → Bool) (g : Int → Int) : given xs.length (fun i => p (xs[i]?.getD 0)) (fun i => V.int (g (xs[i]?.getD 0))) = ((xs.filter p).map g).map V.int := by
  unfold given
  induction xs with
  | nil => rfl
  | cons x xs ih =>
    have h0 : (x :: xs)[(0 : Nat)]?.getD 0 = x := rfl
    have hs : ∀ i : Nat, (x :: xs)[i + 1]?.getD 0 = xs[i]?.getD 0 := fun i => by rw [List.getElem?_cons_succ]
    rw [List.length_cons, List.range_succ_eq_map, List.filter_cons, List.filter_map, List.filter_cons, h0]
    have e1 : ((fun i => p ((x :: xs)[i]?.getD 0)) ∘ Nat.succ) = fun i : Nat => p (xs[i]?.getD 0) := funext fun i => congrArg p (hs i)
    have e2 : ((fun i => V.int (g ((x :: xs)[i]?.getD 0))) ∘ Nat.succ) = fun i : Nat => V.int (g (xs[i]?.getD 0)) := funext fun i => congrArg (fun z => V.int (g z)) (hs i)
    rw [e1]
    by_cases h : p x = true
    · rw [if_pos h, if_pos h]
      simp only [List.map_cons, List.map_map, e2, h0]
      rw [ih, List.map_map]
    · rw [if_neg h, if_neg h, List.map_map, e2, ih]
theorem given_pick (xs : List Int) (p : Int → Bool) : given xs.length (fun i => p (xs[i]?.getD 0)) (fun i => V.int (xs[i]?.getD 0)) = (xs.filter p).map V.int := by
  have h := given_list xs p fun z => z
  rw [List.map_id'] at h
  exact h

section
variable {X : Cx}
theorem op_isT : OpR X (compareOp .Is) (fun x y H Q => ∃ a b, x = .bl a ∧ y = .bl b ∧ Q (.bl (a == b)) H) := by
  rintro pins s σ H x y v u Q I rx ry ⟨a, b, rfl, rfl, q⟩
  cases rx
  cases ry
  exact is_bool ⟨.bl _, H, I, rfl, q⟩
theorem op_isntT : OpR X (compareOp .IsNot) (fun x y H Q => ∃ a b, x = .bl a ∧ y = .bl b ∧ Q (.bl (a != b)) H) := by
  rintro pins s σ H x y v u Q I rx ry ⟨a, b, rfl, rfl, q⟩
  cases rx
  cases ry
  exact isnot_bool ⟨.bl _, H, I, rfl, q⟩
end

/-! ### min(xs, default=None) of a list of numbers -/
section
variable {X : Cx}
def rMinD (K : PySem.W.Frag) : List V → List V → Hp → VK → Prop := fun vs zs H Q => ∃ (a : Addr) (ns : List Int), vs = [.ref a] ∧ zs = [.non] ∧ SqL K H a (ns.map V.int) ∧ (ns = [] → Q .non H) ∧ ∀ m, m ∈ ns → (∀ y, y ∈ ns → m ≤ y) → Q (.int m) H
theorem cr_minD (calm : X.calm = true) : CallRK X (.builtin "min") [Str.ofString "default"] (rMinD X.K) := by
  rintro pins s σ H vs zs us ws Q I r rz ⟨a, ns, rfl, rfl, hq, q0, q1⟩
  obtain ⟨its, rel, pl, _⟩ := I.list hq
  obtain rfl := Vals.ref1 r
  obtain ⟨w1, ew, e1⟩ := vals1 rz
  subst ew
  replace e1 : w1 = Value.none := e1
  subst e1
  have nums : IntsAre its ns := intsAre_of rel
  have many : its.toArray.size = ns.length := by simpa using nums.length
  have newL : a ≠ s.heap.objs.size := Nat.ne_of_lt pl.lt
  have calm' : X.A.in1.handled = none := by simpa using I.ok.hd calm
  refine call_min_walkD (wpAny_pyIter_list pl.isList ?_)
  have kept : ∀ {s' : Shared}, Moved [s.heap.objs.size] (fun x y => y = x) { s with heap := s.heap.push { cls := .type "list_iterator", data := .fields #[.ref a, .int 0 0] } } s' → ∀ b o, s.heap.get? b = some o → s'.heap.get? b = some o := fun mv b o g =>
    mv.heap b o (fun z => Nat.ne_of_lt (Heap.lt_size g) (List.mem_singleton.mp z)) (Heap.get?_push_of_some _ g)
  have after : ∀ {s' : Shared}, Moved [s.heap.objs.size] (fun x y => y = x) { s with heap := s.heap.push { cls := .type "list_iterator", data := .fields #[.ref a, .int 0 0] } } s' → Inv X pins σ H s' := fun {s'} mv => by
    have J := I.kept (t' := s'.toks) (kept mv)
    rcases s' with ⟨h1, g1, d1, t1, o1⟩
    have eg := mv.gens
    have ed := mv.drawn
    have eo := mv.os
    simp only at eg ed eo
    subst eg ed eo
    exact J
  refine ⟨s.heap.objs.size, _, _, _, _, _, _, s.heap, fun i j => decide (ns.getD i 0 < ns.getD j 0), rfl, (Walks.list calm' s.heap.objs.size a newL its.toArray).toS, ⟨⟨_, Heap.get?_push_size _ rfl, rfl, rfl⟩, pl.isList.push _⟩, ?_, ?_, fun b o g => Heap.get?_push_of_some _ g, fun none_ s' mv => ?_, fun pos => ⟨?_, fun v s' hv mv => ?_⟩⟩
  · intro b hb
    rw [Heap.size_push]
    simp only [List.not_mem_nil, List.mem_cons, or_false] at hb
    rcases hb with rfl | rfl
    · exact Nat.lt_succ_self _
    · exact Nat.lt_succ_of_lt pl.lt
  · intro b o g z
    exact Nat.ne_of_lt (Heap.lt_size g) (List.mem_singleton.mp z)
  · refine ⟨.non, H, after mv, rfl, q0 ?_⟩
    rw [many] at none_
    exact List.eq_nil_of_length_eq_zero none_
  · intro i j vi vj s1 Q1 E1 _ hi hj q
    obtain ⟨t, rfl⟩ := nums.int_at i vi (by rw [← List.getElem?_toArray]; exact hi)
    obtain ⟨t', rfl⟩ := nums.int_at j vj (by rw [← List.getElem?_toArray]; exact hj)
    show wpAny _ _ (compareOp .Lt _ _) _ _ _
    exact lt_int q
  · obtain ⟨h1, h2⟩ := argBest_lt (fun i => ns.getD i 0) (its.toArray.size - 1)
    obtain ⟨t, rfl⟩ := nums.int_at _ v (by rw [← List.getElem?_toArray]; exact hv)
    rw [many] at pos h1 h2
    refine ⟨.int _, H, after mv, ⟨t, rfl⟩, ?_⟩
    rw [many]
    refine q1 _ (PySem.getD_mem (by omega)) fun y hy => ?_
    obtain ⟨j, hj, rfl⟩ := mem_getD hy
    exact h2 j (by omega)
end

/-! ### where a list's iterator ends while an error is handled -/
section
variable {prog : Program} {w : World} {B : Around} {hot : Addr}
/-- the new error that tells the end bears the handled one; nothing that stood is written -/
theorem tells_end {β : Type} {t : Shared} {G : β → Shared → Prop} {Z : Value → Shared → Prop} (h : HotX.HotAt B hot t.heap)
    (z : ∀ g n, (∀ c u, t.heap.get? c = some u → g.get? c = some u) → (∃ u, g.get? n = some u ∧ u.cls = .type "StopIteration") → Z (.ref n) { t with heap := g }) :
    wpAny (model prog w) B (Builtin.SmallTypes.stopIteration : Sem β) G Z t := by
  have two : ∀ {x y : Obj} {c : Addr} {u : Obj}, t.heap.get? c = some u → ((t.heap.push x).push y).get? c = some u ∧ c ≠ (t.heap.push x).objs.size := fun {x y c u} e =>
    ⟨Heap.get?_push_of_some _ (Heap.get?_push_of_some _ e), Nat.ne_of_lt (Heap.lt_size (Heap.get?_push_of_some x e))⟩
  obtain ⟨yes, u, fs, e, d, c⟩ := h
  show wpAny _ _ (newExc (.type "StopIteration") [] >>= fun v => raiseNew v) _ _ _
  refine wpAny_bind ?_
  unfold newExc newTuple
  have plain : firstArgMember (.type "StopIteration") [] = pure Value.none := rfl
  rw [plain]
  refine wpAny_bind (wpAny_newObj_type (wpAny_bind (wpAny_pure (wpAny_newObj_type ?_))))
  exact HotX.raiseNew_hot ⟨yes, u, fs, (two e).1, d, c⟩ (two (y := u) e).2 (Heap.get?_push_size _ rfl) rfl (by rw [Array.size_append]; exact Nat.lt_of_lt_of_le (show 2 < 6 by decide) (Nat.le_add_right 6 _)) (z _ _ (fun b o g => (Heap.get?_update_other _ _ (Ne.symm (two (y := u) g).2)).trans (two g).1) ⟨_, Heap.get?_update_self _ (Heap.get?_push_size _ rfl) rfl, rfl⟩)
/-- drawn from by zip: the same list, the handled error's object stands by -/
theorem draws_by {it l : Addr} (il : l ≠ it) (ih : hot ≠ it) (yes : B.in1.handled = some (.ref hot)) (items : Array Value) :
    Draws prog w B it [it, l, hot] items.size (fun i v => items[i]? = some v) (fun i h => h.IsListIter it l i ∧ h.IsList l items ∧ HotX.HotAt B.in1 hot h) := by
  constructor
  case live => exact fun _ _ st => st.1.imp fun _ e => e.1
  case frame => exact fun _ _ _ ⟨a, b, _, u, fs, e, r⟩ k => ⟨a.at fun o => k it (by simp) o, b.at fun o => k l (by simp) o, yes, u, fs, k hot (by simp) u e, r⟩
  case item => exact fun i s Q E lt ⟨a, b, _, u, fs, e, r⟩ q => wpAny_nextOf_list_item a b (x := items[i]) (getElem?_pos items i lt) fun g a' sb => q _ g s.toks (getElem?_pos items i lt) ⟨a', b.extBut sb.extBut il, yes, u, fs, sb.extBut _ _ ih e, r⟩ sb
  case done =>
    rintro s Q E ⟨a, ⟨ol, el, _, k, dl⟩, _, u, fs, e, r⟩ out
    obtain ⟨o, eo, co, fo⟩ := id a
    have past : items[items.size]? = none := getElem?_neg items items.size (Nat.lt_irrefl _)
    have ends : ∀ {G : Fin → Shared → Prop}, wpAny (model prog w) B.in1 (Builtin.«list_iterator.__next__» ⟨[.ref it], []⟩) G E s := fun {G} => by
      have off : (Value.ref l == Value.none) = false := rfl
      refine wpAny_bind (m := field _ 0) (wpAny_field eo fo (x := .ref l) rfl ?_)
      simp only [off, Bool.false_eq_true, if_false]
      refine wpAny_bind (m := field _ 1) (wpAny_field eo fo (x := .int (items.size : Nat) 0) rfl (wpAny_bind (m := seqItems? _) (wpAny_seqItems el dl ?_)))
      simp only [Int.toNat_natCast, past]
      refine wpAny_bind (wpAny_rule (wpAny_bind (wpAny_setField eo fo (Nat.zero_lt_succ _) (tells_end ⟨yes, u, fs, ?_, r⟩ fun g n k h => out g n (fun c v nc ec => k c v ?_) h))))
      · exact (Heap.get?_update_other _ _ (Ne.symm ih)).trans e
      · exact (Heap.get?_update_other _ _ (Ne.symm nc)).trans ec
    exact wpAny_bind (wpAny_callSpecial?_slot (name := Str.ofString "__next__") a.typeIs slot_listiter_next (wpAny_call_entry slot_listiter_next a.typeIs entry_listiter_next ends (args_listiter_next _)))
end

/-! ### comprehensions of any number of fors, calm or while an error is handled -/
section
variable {X Y : Cx} {pins : List (Addr × Obj)} {σ : L2.St} {H : Hp} {s : Shared} {tg : Expr} {J : It} {fp : List Addr} {it : Addr} {tn : Nat → Heap → Prop}
/-- the block of a comprehension; what the def has pinned stays pinned in it -/
abbrev blkP (X : Cx) (s : Shared) (H : Hp) (scope : Scope) (cenv : Env) (fp : List Addr) : Cx := { X.blk s H scope cenv fp with pn := X.pn }
/-- an iterator whose turns the library tells for this context -/
def Goer (X : Cx) (tg : Expr) (J : It) (fp : List Addr) (it : Addr) (tn : Nat → Heap → Prop) : Prop :=
  (X.calm = true ∧ Turn X.prog X.w X.K tg J fp it tn) ∨ (L2H.HotC X ∧ L2H.TurnH X.prog X.w X.K tg J fp it tn)
theorem Goer.self (g : Goer X tg J fp it tn) {A : Around} {i : Nat} {Q : Value → Shared → Prop} {E : Value → Shared → Prop} (st : tn i s.heap) (h : Q (.ref it) s) : wpAny (model X.prog X.w) A (pyIter (.ref it)) Q E s :=
  g.elim (fun t => t.2.self A i s Q E st h) fun t => t.2.self A i s Q E st h
theorem Goer.obj (g : Goer X tg J fp it tn) {i : Nat} {h : Heap} (st : tn i h) : ∀ b ∈ fp, ∃ o, h.get? b = some o ∧ ∀ v, o.data ≠ .cell v := g.elim (fun t => t.2.obj i h st) fun t => t.2.obj i h st
theorem Goer.keep (g : Goer X tg J fp it tn) {i : Nat} {h h' : Heap} (st : tn i h) (k : ∀ b ∈ fp, ∀ o, h.get? b = some o → h'.get? b = some o) : tn i h' := g.elim (fun t => t.2.keep i h h' st k) fun t => t.2.keep i h h' st k
/-- an item of turn i has come as u -/
def Came (X : Cx) (pins : List (Addr × Obj)) (σ : L2.St) (J : It) (fp : List Addr) (tn : Nat → Heap → Prop) (i : Nat) (H : Hp) (u : Value) (s : Shared) : Prop :=
  ∃ x H1, J.yld i H x H1 ∧ RelV x u ∧ (Inv X pins σ H1 s ∧ tn (i + 1) s.heap) ∧ ∀ b ∈ fp, H1 b = none
theorem Goer.next (g : Goer X tg J fp it tn) {i : Nat} {Q : Option Value → Shared → Prop} {E : Value → Shared → Prop} (I : Inv X pins σ H s) (f : ∀ b ∈ fp, FpOk X pins H b) (st : tn i s.heap)
    (h : (J.stop i H ∧ ∀ s1, Inv X pins σ H s1 → Q none s1) ∨ (J.go i H ∧ ∀ u s1, wpAny (model X.prog X.w) X.A (letOwnedTupleGo tg (.ref it) u) (fun _ s2 => Came X pins σ J fp tn i H u s2) E s1 → Q (some u) s1)) :
    wpAny (model X.prog X.w) X.A (pyNext (.ref it)) Q E s := by
  have made : ∀ u s2, (∃ x H', Inv X pins σ H' s2 ∧ RelV x u ∧ J.yld i H x H' ∧ tn (i + 1) s2.heap ∧ ∀ b ∈ fp, H' b = none) → Came X pins σ J fp tn i H u s2 := fun u s2 ⟨x, H1, a, b, c, d, e⟩ => ⟨x, H1, c, b, ⟨a, d⟩, e⟩
  rcases h with ⟨no, q⟩ | ⟨yes, q⟩ <;> rcases g with ⟨c, t⟩ | ⟨c, t⟩
  · exact thn (t.done X rfl rfl rfl c i pins s σ H E I f st no) fun r s1 z => z.1 ▸ q s1 z.2
  · exact thn (t.done X rfl rfl rfl c i pins s σ H E I f st no) fun r s1 z => z.1 ▸ q s1 z.2
  · exact thn (t.item X rfl rfl rfl c i pins s σ H E I f st yes) fun r s1 ⟨u, e, k⟩ => e ▸ q u s1 (thn k fun _ s2 z => made u s2 z)
  · exact thn (t.item X rfl rfl rfl c i pins s σ H E I f st yes) fun r s1 ⟨u, e, k⟩ => e ▸ q u s1 (thn k fun _ s2 z => made u s2 z)
/-- what stands behind an in: an iterator comes -/
def Begun (X : Cx) (pins : List (Addr × Obj)) (σ : L2.St) (tg : Expr) (R : It → Hp → Prop) (u : Value) (s : Shared) : Prop :=
  ∃ it J fp tn H1, u = .ref it ∧ Goer X tg J fp it tn ∧ R J H1 ∧ Inv X pins σ H1 s ∧ tn 0 s.heap ∧ ∀ b ∈ fp, FpOk X pins H1 b
def Brings (X : Cx) (tg iter : Expr) (wi : TI) : Prop := ∀ (pins : List (Addr × Obj)) (s : Shared) (σ : L2.St) (H : Hp) (R : It → Hp → Prop), Inv X pins σ H s → wi σ H R →
  wpAny (model X.prog X.w) X.A (eval iter X.env) (fun v s1 => wpAny (model X.prog X.w) X.A (pyIter v) (Begun X pins σ tg R) X.xe s1) X.xe s
theorem brings_calm {iter : Expr} {wi : TI} (c : X.calm = true) (h : PI X tg iter wi) : Brings X tg iter wi := fun pins s σ H R I q =>
  thn (h.run pins s σ H R I q) fun _ _ z => thn z fun _ _ ⟨it, fp, tn, J, H1, e, I1, t, st, f, r⟩ => ⟨it, J, fp, tn, H1, e, .inl ⟨c, t⟩, r, I1, st, f⟩
theorem brings_hot {iter : Expr} {wi : TI} (c : L2H.HotC X) (h : L2H.PIH X tg iter wi) : Brings X tg iter wi := fun pins s σ H R I q =>
  thn (h.run pins s σ H R I q) fun _ _ z => thn z fun _ _ ⟨it, fp, tn, J, H1, e, I1, t, st, f, r⟩ => ⟨it, J, fp, tn, H1, e, .inr ⟨c, t⟩, r, I1, st, f⟩
end
section
variable {prog : Program} {w : World} {A : Around} {E : Value → Shared → Prop} {s : Shared} {elt : Expr} {gens : List Comprehension} {scope : Scope} {pos : Pos} {k : Nat} {it : Value} {D : Addr} {env : Env}
/-- what is done at depth k: the next for is begun, or the item is appended; Z afterwards -/
def Into (prog : Program) (w : World) (A : Around) (E : Value → Shared → Prop) (elt : Expr) (gens : List Comprehension) (scope : Scope) (pos : Pos) (k : Nat) (D : Addr) (env : Env) (Z : Shared → Prop) (s : Shared) : Prop :=
  (gens[k]?).elim (wpAny (model prog w) A (eval elt env) (fun v s1 => wpAny (model prog w) A (call (.builtin "list.append") [.ref D, v]) (fun _ => Z) E s1) E s)
    fun g => wpAny (model prog w) A (eval g.iter env) (fun v s1 => wpAny (model prog w) A (pyIter v) (fun u => codeAny (model prog w) A (.compStart (.ListComp elt gens scope pos) k u (.ref D) env) fun r s3 => (∃ f, r = .ok f) ∧ Z s3) E s1) E s
theorem comp_turn {g : Comprehension} {Q : Fin → Shared → Prop} (hg : gens[k]? = some g) (h0 : g.is_async = 0) (h1 : ∀ g', gens[k + 1]? = some g' → g'.is_async = 0 ∧ ∀ x, foldedSetIterable g'.iter env x = pure x)
    (h : wpAny (model prog w) A (pyNext it) (fun r s1 => (r = none → Q (.done .next) s1) ∧ ∀ v, r = some v → wpAny (model prog w) A (letOwnedTupleGo g.target it v) (fun _ s2 => wpAny (model prog w) A (assign g.target env v) (fun _ s3 =>
      wpAny (model prog w) A (forIn g.ifs true fun c r => if r = true then do let ok ← isTrue c env (eval c env); pure (ForInStep.yield ok) else pure (ForInStep.yield r)) (fun ok s4 =>
        if ok = true then Into prog w A (fun _ _ => False) elt gens scope pos (k + 1) D env (Q (.again (.compLoop (.ListComp elt gens scope pos) k it (.ref D) env))) s4 else Q (.again (.compLoop (.ListComp elt gens scope pos) k it (.ref D) env)) s4) E s3) E s2) E s1) E s) :
    wpAny (model prog w) A (compTurn (.ListComp elt gens scope pos) k it (.ref D) env) Q E s := by
  unfold compTurn
  simp only [hg, h0]
  simp only [if_false, bne_self_eq_false, Bool.false_eq_true]
  refine wpAny_bind (wpAny_standAt (wpAny_bind (thn h fun r s1 ⟨no, yes⟩ => ?_)))
  cases r with
  | none => exact wpAny_pure (no rfl)
  | some v =>
    refine wpAny_bind (thn (yes v rfl) fun _ s2 z2 => wpAny_bind (thn z2 fun _ s3 z3 => wpAny_bind (thn z3 fun ok s4 z4 => ?_)))
    cases ok with
    | false => exact wpAny_pure z4
    | true =>
      unfold Into at z4
      simp only [if_true] at z4 ⊢
      cases eg : gens[k + 1]? with
      | none =>
        rw [eg] at z4
        exact wpAny_bind (wpAny_bind (thnF z4 fun v s5 z5 => wpAny_bind (thnF z5 fun _ s6 z6 => wpAny_pure (wpAny_pure z6))))
      | some g1 =>
        obtain ⟨a0, fs⟩ := h1 g1 eg
        rw [eg] at z4
        simp only [a0, bne_self_eq_false, Bool.false_eq_true, if_false]
        refine wpAny_bind (thnF z4 fun v s5 z5 => wpAny_bind (wpAny_standAt (wpAny_bind (wpAny_of_eq (fs v) (wpAny_bind (wpAny_holding (thnF z5 fun u s6 z6 => ?_)))))))
        refine wpAny_bind (wpAny_runOwn (codeAny_mono z6 fun r s7 ⟨⟨f, e⟩, z7⟩ => ?_))
        subst e
        exact wpAny_pure z7
theorem comp_start {R : Result → Shared → Prop} {g : Comprehension} (hg : gens[k]? = some g) (h0 : g.is_async = 0) (same : codeAny (model prog w) A (.compLoop (.ListComp elt gens scope pos) k it (.ref D) env) R s)
    (more : wpAny (model prog w) A (pyIter it) (fun u s1 => codeAny (model prog w) A (.compLoop (.ListComp elt gens scope pos) k u (.ref D) env) R s1) (fun _ _ => False) s) :
    codeAny (model prog w) A (.compStart (.ListComp elt gens scope pos) k it (.ref D) env) R s := by
  have at_ : (clausesOf (.ListComp elt gens scope pos))[k]? = some g := hg
  have tree : wpAny (model prog w) A (compStart (.ListComp elt gens scope pos) k it (.ref D) env) (fun f s' => match f with | .done f => R (.ok f) s' | .again c => c.quiet = true ∧ codeAny (model prog w) A c R s') (fun _ _ => False) s := by
    unfold compStart
    simp only [at_, Option.elim_some, h0, bne_self_eq_false, Bool.false_eq_true, if_false]
    refine wpAny_bind ?_
    refine wpAny_askSetting ?_
    refine wpAny_ite ?_
    split
    · exact wpAny_pure ⟨rfl, same⟩
    · exact wpAny_bind (wpAny_rule (wpAny_bind (wpAny_standAt (wpAny_bind (thnF more fun u s1 z => wpAny_pure ⟨rfl, z⟩)))))
  refine codeAny_of_tree ?_
  exact wpAny_onRaise (thnF tree fun f s' z => z)
end
/-! #### how it is read -/
abbrev TR := Addr → L2.St → Hp → (Hp → Prop) → Prop
/-- the item is appended to the new list -/
def rEnd (te : TE) : TR := fun D σ H Q => te σ H fun y H1 => ∃ had, H1 D = some (.lst had) ∧ had.length < sizeLine ∧ Q (upd H1 D (.lst (had ++ [y])))
/-- one turn with the item x: N behind it -/
def rTurn (g : TG) (tt : TT) (r : TR) (vs : List Nat) (D : Addr) (σ : L2.St) (x : V) (H : Hp) (N : Hp → Prop) : Prop := g x σ H fun σ3 H3 => wipe σ3 vs = wipe σ vs ∧ tt σ3 H3 fun b H4 => cond b (r D σ3 H4 N) (N H4)
/-- the turns of one for: a condition W on (turn, how many at most are left, heap) -/
def rTurns (J : It) (g : TG) (tt : TT) (r : TR) (vs : List Nat) : TR := fun D σ H Q => ∃ W : Nat → Nat → Hp → Prop, (∃ m, W 0 m H) ∧ ∀ i m H1, W i m H1 → (J.stop i H1 ∧ Q H1) ∨
  (J.go i H1 ∧ ∃ N : Hp → Prop, (∀ H2, N H2 → ∃ m', m' < m ∧ W (i + 1) m' H2) ∧ ∀ x H2, J.yld i H1 x H2 → rTurn g tt r vs D σ x H2 N)
def rFor (wi : TI) (g : TG) (tt : TT) (r : TR) (vs : List Nat) : TR := fun D σ H Q => wi σ H fun J H1 => rTurns J g tt r vs D (wipe σ vs) H1 Q
/-- what is done from depth k on is read by r; the slots vs are forgotten behind it -/
def Rest (Y : Cx) (elt : Expr) (gens : List Comprehension) (scope : Scope) (pos : Pos) (k : Nat) (vs : List Nat) (r : TR) : Prop := ∀ (D : Addr) (pins : List (Addr × Obj)) (s : Shared) (σ : L2.St) (H : Hp) (Q : Hp → Prop), Inv Y pins σ H s → r D σ H Q →
  Into Y.prog Y.w Y.A (fun _ _ => False) elt gens scope pos k D Y.env (fun s' => ∃ H', Inv Y pins (wipe σ vs) H' s' ∧ Q H') s
section
variable {Y : Cx} {elt tg iter : Expr} {ifs : List Expr} {gens : List Comprehension} {scope : Scope} {pos : Pos} {k : Nat} {vs vs1 : List Nat} {g : TG} {tt : TT} {te : TE} {r : TR} {wi : TI}
theorem rest_end (hx : Y.xe = fun _ _ => False) (hk : gens[k]? = none) (he : PE Y elt te) : Rest Y elt gens scope pos k [] (rEnd te) := fun D pins s σ H Q I h => by
  unfold Into
  rw [hk]
  refine thn (hx ▸ he.run pins s σ H _ I h) fun v s1 ⟨y, H1, I1, rv, had, hD, hz, q⟩ => ?_
  exact app_ok I1 hD hz rv fun s2 I2 => ⟨_, I2, q⟩
theorem wipe_sub {σ σ1 : L2.St} (e : wipe σ1 vs = wipe σ vs) (hv : ∀ i ∈ vs1, i ∈ vs) : ∀ (i : Nat) v, (wipe σ vs)[i]? = some (some v) → (wipe σ1 vs1)[i]? = some (some v) := fun i v h => by
  obtain ⟨a, b⟩ := wipe_some (e ▸ h)
  rw [wipe_out fun z => b (hv i z)]
  exact a
theorem wipe_in {σ : L2.St} {i : Nat} : ∀ {vs : List Nat}, i ∈ vs → (wipe σ vs)[i]? = if i < σ.length then some none else none
  | v :: vs, h => by
    unfold wipe
    rw [List.getElem?_set, wipe_length]
    by_cases e : v = i
    · rw [if_pos e, e]
    · rw [if_neg e]; exact wipe_in ((List.mem_cons.mp h).resolve_left fun z => e z.symm)
theorem wipe_idem {σ : L2.St} : wipe (wipe σ vs) vs = wipe σ vs := List.ext_getElem? fun i => by
  by_cases h : i ∈ vs
  · rw [wipe_in h, wipe_in h, wipe_length]
  · exact wipe_out h
theorem Into.mono {prog : Program} {w : World} {A : Around} {E : Value → Shared → Prop} {D : Addr} {env : Env} {Z Z' : Shared → Prop} {s : Shared} (h : Into prog w A E elt gens scope pos k D env Z s) (z : ∀ s, Z s → Z' s) : Into prog w A E elt gens scope pos k D env Z' s := by
  unfold Into at h ⊢
  cases e : gens[k]? with
  | none => rw [e] at h; exact thn h fun _ _ a => thn a fun _ s b => z s b
  | some g => rw [e] at h; exact thn h fun _ _ a => thn a fun _ _ b => codeAny_mono b fun _ s c => ⟨c.1, z s c.2⟩
/-- the turns of a for at depth k -/
theorem loop_at {J : It} {fp : List Addr} {it D : Addr} {tn : Nat → Heap → Prop} {pins : List (Addr × Obj)} {s : Shared} {σ : L2.St} {H : Hp} {Q : Hp → Prop} (hx : Y.xe = fun _ _ => False) (hk : gens[k]? = some ⟨tg, iter, ifs, 0⟩)
    (h1 : ∀ g', gens[k + 1]? = some g' → g'.is_async = 0 ∧ ∀ x, foldedSetIterable g'.iter Y.env x = pure x) (G : Goer Y tg J fp it tn) (hg : PG Y tg g) (ht : PTs Y ifs tt) (hr : Rest Y elt gens scope pos (k + 1) vs1 r) (hv : ∀ i ∈ vs1, i ∈ vs)
    (I : Inv Y pins σ H s) (st : tn 0 s.heap) (f : ∀ b ∈ fp, FpOk Y pins H b) (h : rTurns J g tt r vs D σ H Q) (hw : wipe σ vs = σ) :
    codeAny (model Y.prog Y.w) Y.A (.compLoop (.ListComp elt gens scope pos) k (.ref it) (.ref D) Y.env) (fun r s' => (∃ fl, r = .ok fl) ∧ ∃ H', Inv Y pins σ H' s' ∧ Q H') s := by
  obtain ⟨W, ⟨m0, w0⟩, step⟩ := h
  refine codeAny_loop rfl (fun m s' => ∃ i H1, W i m H1 ∧ Inv Y pins σ H1 s' ∧ tn i s'.heap ∧ ∀ b ∈ fp, FpOk Y pins H1 b) ?_ m0 ⟨0, H, w0, I, st, f⟩
  rintro m s1 ⟨i, H1, w1, I1, st1, f1⟩
  refine wpAny_onRaise (E := fun e s' => _) (wpAny_mono (E := fun _ _ => False) ?_ (fun _ _ z => z) fun _ _ z => z.elim)
  refine comp_turn hk rfl h1 ?_
  rcases step i m H1 w1 with ⟨no, q⟩ | ⟨yes, N, fewer, q⟩
  · exact G.next I1 f1 st1 (.inl ⟨no, fun s2 I2 => ⟨fun _ => ⟨⟨_, rfl⟩, H1, I2, q⟩, fun v e => (by cases e)⟩⟩)
  · refine G.next I1 f1 st1 (.inr ⟨yes, fun u s2 z => ⟨fun e => (by cases e), fun v e => ?_⟩⟩)
    cases e
    refine thn z fun _ s3 ⟨x, H3, y3, rv, ⟨I3, st3⟩, n3⟩ => ?_
    have f3 : ∀ b ∈ fp, FpOk Y pins H3 b := fun b hb => ⟨n3 b hb, (f1 b hb).2⟩
    have P3 := I3.pinned f3 (G.obj st3)
    have back : ∀ {H5 : Hp} {σ5 : L2.St} {s5 : Shared}, Inv Y (pins ++ pinsAt fp s3.heap) σ5 H5 s5 → (∀ (j : Nat) v, σ[j]? = some (some v) → σ5[j]? = some (some v)) → N H5 → ∃ m', m' < m ∧ ∃ i H1, W i m' H1 ∧ Inv Y pins σ H1 s5 ∧ tn i s5.heap ∧ ∀ b ∈ fp, FpOk Y pins H1 b := fun {H5 σ5 s5} I5 le n5 => by
      obtain ⟨m', lt, w5⟩ := fewer H5 n5
      have at5 : ∀ b ∈ fp, ∀ o, s3.heap.get? b = some o → s5.heap.get? b = some o ∧ H5 b = none := fun b hb o e => by
        have p := I5.pin (b, o) (List.mem_append_right _ (List.mem_append_right _ (mem_pinsAt hb e)))
        exact ⟨p.1, p.2.1⟩
      refine ⟨m', lt, i + 1, H5, w5, (I5.unpinned).weak (I.len.trans I5.len.symm) le, G.keep st3 fun b hb o e => (at5 b hb o e).1, fun b hb => ⟨?_, (f1 b hb).2⟩⟩
      obtain ⟨o, e, _⟩ := G.obj st3 b hb
      exact (at5 b hb o e).2
    refine thnF (hx ▸ hg.run _ s3 σ H3 x u _ P3 rv (q x H3 y3)) fun _ s4 ⟨σ4, H4, P4, same, t4⟩ => thnF (hx ▸ ht.run _ s4 σ4 H4 _ P4 t4) fun ok s5 ⟨H5, P5, q5⟩ => ?_
    have le0 : ∀ (j : Nat) v, σ[j]? = some (some v) → σ4[j]? = some (some v) := fun j v e => (wipe_sub (vs1 := []) same (fun _ z => by cases z)) j v (hw.symm ▸ e)
    cases ok with
    | false => exact ⟨rfl, back P5 le0 q5⟩
    | true =>
      have le1 : ∀ (j : Nat) v, σ[j]? = some (some v) → (wipe σ4 vs1)[j]? = some (some v) := fun j v e => wipe_sub same hv j v (hw.symm ▸ e)
      exact (hr D _ s5 σ4 H5 _ P5 q5).mono fun s6 ⟨H6, P6, q6⟩ => ⟨rfl, back P6 le1 q6⟩
theorem rest_for (hx : Y.xe = fun _ _ => False) (hk : gens[k]? = some ⟨tg, iter, ifs, 0⟩) (h1 : ∀ g', gens[k + 1]? = some g' → g'.is_async = 0 ∧ ∀ x, foldedSetIterable g'.iter Y.env x = pure x)
    (hi : Brings Y tg iter wi) (hg : PG Y tg g) (ht : PTs Y ifs tt) (hr : Rest Y elt gens scope pos (k + 1) vs1 r) (hv : ∀ i ∈ vs1, i ∈ vs) : Rest Y elt gens scope pos k vs (rFor wi g tt r vs) := fun D pins s σ H Q I h => by
  unfold Into
  rw [hk]
  refine thn (hx ▸ hi pins s σ H _ I h) fun v s1 z => thn z fun u s2 ⟨it, J, fp, tn, H1, e, G, q, I2, st, f⟩ => ?_
  subst e
  have I3 : Inv Y pins (wipe σ vs) H1 s2 := I2.weak (wipe_length σ vs) fun i v e => (wipe_some e).1
  have go := loop_at (iter := iter) hx hk h1 G hg ht hr hv I3 st f q wipe_idem
  exact comp_start hk rfl go (G.self st go)
/-- the whole: an iterator, a new list, the turns -/
def tDeep (wi : TI) (g : TG) (tt : TT) (r : TR) (vs : List Nat) : TE := fun σ H Q => wi σ H fun J H1 => ∀ D, H1 D = none → rTurns J g tt r vs D (wipe σ vs) (upd H1 D (.lst [])) (Q (.ref D))
/-- the block begins; the pins are told in it too -/
theorem blk_begins {X : Cx} {pins : List (Addr × Obj)} {σ : L2.St} {H : Hp} {s : Shared} {own : List (Str × Nat)} {fp : List Addr} (I : Inv X pins σ H s) (ok : BlkOk X.N X.env.scope scope own) (hN : X.N.Nodup) (hf : ∀ b ∈ fp, FpOk X pins H b ∧ b < s.heap.objs.size) :
    Inv (blkP X s H scope (compEnvC scope (cellsFrom (s.heap.objs.size + 1) scope.names (cloFrom X.env.cells scope.names [])) s.heap.objs.size X.env) fp) [] (wipe σ (own.map (·.2))) H { s with heap := pushCells (s.heap.push { cls := .type "dict", data := .dict #[] }) scope.names } := by
  have B := block_start I ok hN hf
  refine { B with ok := { B.ok with }, pin := fun p hp => ?_ }
  have hp' : p ∈ X.pn := by simpa using hp
  obtain ⟨a, b, c, d, e⟩ := I.pin p (List.mem_append_left _ hp')
  have lt := Heap.lt_size a
  refine ⟨?_, b, Nat.ne_of_lt lt, fun z => ?_, e⟩
  · exact pushCells_keeps _ _ _ _ (Heap.get?_push_of_some _ a)
  · exact (List.mem_cons.mp (I.stkSub _ z)).elim c d
theorem pe_deep {X : Cx} {own : List (Str × Nat)} {rest : List Comprehension} (hN : X.N.Nodup) (hi : Brings X tg iter wi) (ok : BlkOk X.N X.env.scope scope own)
    (hg : ∀ (s : Shared) (H : Hp) (C : Addr) (cl : List (Str × Addr)) (fp : List Addr), PG (blkP X s H scope (compEnvC scope cl C X.env) fp) tg g)
    (ht : ∀ (s : Shared) (H : Hp) (C : Addr) (cl : List (Str × Addr)) (fp : List Addr), PTs (blkP X s H scope (compEnvC scope cl C X.env) fp) ifs tt)
    (hr : ∀ (s : Shared) (H : Hp) (C : Addr) (cl : List (Str × Addr)) (fp : List Addr), Rest (blkP X s H scope (compEnvC scope cl C X.env) fp) elt (⟨tg, iter, ifs, 0⟩ :: rest) scope pos 1 vs1 r)
    (hv : ∀ i ∈ vs1, i ∈ own.map (·.2)) (h1 : ∀ g', rest[0]? = some g' → g'.is_async = 0 ∧ ∀ env x, foldedSetIterable g'.iter env x = pure x) (hs : ∀ x, foldedSetIterable iter X.env x = pure x := by intro _; rfl) :
    PE X (.ListComp elt (⟨tg, iter, ifs, 0⟩ :: rest) scope pos) (tDeep wi g tt r (own.map (·.2))) := by
  refine ⟨fun pins s σ H Q I h => ?_⟩
  have caught : ∀ y ∈ scope.names, y.2 = .free → ∃ c, X.env.cells.lookup y.1 = some c := fun y hy e => I.ok.has _ (ok.free y hy e)
  rw [eval_ListComp]
  refine wpAny_comprehension_free rfl hs (closure_ok caught) ok.kind (fun y hy e => (ok.uniq y hy).trans (congrArg some e)) (thn (hi pins s σ H _ I h) fun v s1 z => thn z fun u s2 ⟨it, J, fp, tn, H1, e, G, q, I2, st, f⟩ => ?_)
  subst e
  have I3 := I2.lnew (ys := []) (its := []) (t' := s2.toks) .nil (Nat.zero_le _)
  refine wpAny_newObj_type (newEnv_comp ?_) (Nat.zero_le _)
  have old : ∀ b ∈ fp, b < s2.heap.objs.size := fun b hb => let ⟨_, e, _⟩ := G.obj st b hb; Heap.lt_size e
  have f3 : ∀ b ∈ fp, FpOk X pins (upd H1 s2.heap.objs.size (.lst [])) b := fun b hb => ⟨(upd_ne (Nat.ne_of_lt (old b hb))).trans (f b hb).1, (f b hb).2⟩
  have B := blk_begins I3 ok hN fun b hb => ⟨f3 b hb, by rw [Heap.size_push]; exact Nat.lt_succ_of_lt (old b hb)⟩
  have fresh := q s2.heap.objs.size I2.fresh
  generalize hs3 : ({ s2 with heap := s2.heap.push { cls := .type "list", data := .seq ([] : List Value).toArray } } : Shared) = s3 at I3 B
  have st3 : tn 0 (pushCells (s3.heap.push { cls := .type "dict", data := .dict #[] }) scope.names) := G.keep st fun b _ o e => pushCells_keeps _ _ _ _ (Heap.get?_push_of_some _ (by rw [← hs3]; exact Heap.get?_push_of_some _ e))
  have G' : Goer (blkP X s3 (upd H1 s2.heap.objs.size (.lst [])) scope (compEnvC scope (cellsFrom (s3.heap.objs.size + 1) scope.names (cloFrom X.env.cells scope.names [])) s3.heap.objs.size X.env) fp) tg J fp it tn := G
  have f4 : ∀ b ∈ fp, FpOk (blkP X s3 (upd H1 s2.heap.objs.size (.lst [])) scope (compEnvC scope (cellsFrom (s3.heap.objs.size + 1) scope.names (cloFrom X.env.cells scope.names [])) s3.heap.objs.size X.env) fp) [] (upd H1 s2.heap.objs.size (.lst [])) b := fun b hb => by
    obtain ⟨a0, a1, a2, a3, a4, a5⟩ := f3 b hb
    refine ⟨a0, (B.ok.exf b hb).1, B.ok.exfs b hb, .inl hb, (B.ok.exf b hb).2, fun p hp => ?_⟩
    exact a5 p (List.mem_append_left _ (by simpa using hp))
  have go := loop_at (elt := elt) (gens := ⟨tg, iter, ifs, 0⟩ :: rest) (pos := pos) (k := 0) (iter := iter) (D := s2.heap.objs.size) rfl rfl (fun g' e => ⟨(h1 g' e).1, (h1 g' e).2 _⟩) G' (hg _ _ _ _ _) (ht _ _ _ _ _) (hr _ _ _ _ _) hv B st3 f4 fresh wipe_idem
  have ended := comp_start rfl rfl go (G'.self st3 go)
  refine codeAny_mono ended fun res s5 ⟨⟨fl, e⟩, H5, I5, q5⟩ => ?_
  subst e
  obtain ⟨m, hm, _⟩ := I5.loc
  refine ⟨m, hm, fun h' sb => ⟨.ref s2.heap.objs.size, H5, ?_, rfl, q5⟩⟩
  obtain ⟨z0, z1, z2, z3, z4, z5⟩ := I3.fpOk (Nat.le_refl _) I5.free
  have I6 : Inv X pins σ H5 s5 := I3.call' I5.os I5.base I5.hok I5.bare fun b hb => ⟨(f3 b hb).2.2.2.1, (f3 b hb).2.1, (f3 b hb).2.2.2.2.1, (f3 b hb).2.2.2.2.2⟩
  exact I6.turned (t' := s5.toks) (fun b o hb e => (sb.2 b hb).trans e) z0 z1 z3 z4 z5
end

/-! ### a tuple unpacked while an error is handled -/
section
variable {prog : Program} {w : World} {A : Around} {E : Value → Shared → Prop} {s : Shared} {hot : Addr}
/-- a rising iterator that is through tells its end by a new error -/
theorem rising_through {it l : Addr} {o ol : Obj} {i : Nat} {items : Array Value} {n : Nat} {G : PySem.Fin → Shared → Prop} {Z : Value → Shared → Prop} (ho : HotX.HotAt A hot s.heap) (ih : hot ≠ it) (eo : s.heap.get? it = some o) (fo : o.data = .fields #[.ref l, .int i 0])
    (el : s.heap.get? l = some ol) (fl : ol.data = .seq items n) (past : items[i]? = none)
    (z : ∀ g a, (∀ c v, c ≠ it → s.heap.get? c = some v → g.get? c = some v) → (∃ v, g.get? a = some v ∧ v.cls = .type "StopIteration") → Z (.ref a) { s with heap := g }) :
    wpAny (model prog w) A (Builtin.«tuple_iterator.__next__» ⟨[.ref it], []⟩) G Z s := by
  obtain ⟨yes, u, fs, e, r⟩ := ho
  have off : (Value.ref l == Value.none) = false := rfl
  refine wpAny_bind (m := field _ 0) (wpAny_field eo fo (x := .ref l) rfl ?_)
  simp only [off, Bool.false_eq_true, if_false]
  refine wpAny_bind (m := field _ 1) (wpAny_field eo fo (x := .int i 0) rfl (wpAny_bind (m := seqItems? _) (wpAny_seqItems el fl ?_)))
  simp only [Int.toNat_natCast, past]
  refine wpAny_bind (wpAny_rule (wpAny_bind (wpAny_setField eo fo (Nat.zero_lt_succ _) (tells_end ⟨yes, u, fs, (Heap.get?_update_other _ _ (Ne.symm ih)).trans e, r⟩ fun g a k h => z g a (fun c v nc ec => k c v ?_) h))))
  exact (Heap.get?_update_other _ _ (Ne.symm nc)).trans ec
/-- the end of a tuple's iterator -/
theorem next_tuple_through {it t : Addr} {i : Nat} {items : Array Value} {Q : Option Value → Shared → Prop} (ho : HotX.HotAt A hot s.heap) (ih : hot ≠ it) (a : s.heap.IsTupleIter it t i) (b : s.heap.IsTuple t items) (past : items[i]? = none)
    (q : ∀ g, (∀ c v, c ≠ it → s.heap.get? c = some v → g.get? c = some v) → Q none { s with heap := g }) : wpAny (model prog w) A (pyNext (.ref it)) Q E s := by
  obtain ⟨o, eo, co, fo⟩ := id a
  obtain ⟨ol, el, _, n, fl⟩ := b
  have ho1 : HotX.HotAt A.in1 hot s.heap := ho
  refine wpAny_bind (wpAny_attempt (wpAny_callSpecial?_slot (name := Str.ofString "__next__") a.typeIs F.slot_tuple_iterator_next (wpAny_call_entry F.slot_tuple_iterator_next a.typeIs F.entry_tuple_iterator_next
    (rising_through ho1 ih eo fo el fl past fun g x k ⟨v, ev, cv⟩ => ?_) (F.args_tuple_iterator_next_1 _))))
  exact wpAny_bind (wpAny_isInstance (T := "StopIteration") (U := "StopIteration") (b := true) ⟨v, ev, cv⟩ isSubtype_stop (wpAny_pure (q g k)))
/-- all that a tuple holds is handed out; only an iterator is new -/
theorem unpacked {t : Addr} {items : Array Value} {Q : List Value → Shared → Prop} (ho : HotX.HotAt A hot s.heap) (b : s.heap.IsTuple t items)
    (q : ∀ g, (∀ c v, s.heap.get? c = some v → g.get? c = some v) → Q items.toList { s with heap := g }) : wpAny (model prog w) A (unpackItems (.ref t) items.size none) Q E s := by
  have young : ∀ {c : Addr} {v : Obj}, s.heap.get? c = some v → c ≠ s.heap.objs.size := fun e => Nat.ne_of_lt (Heap.lt_size e)
  have bt : t ≠ s.heap.objs.size := let ⟨_, e, _⟩ := b; young e
  obtain ⟨yes, u, fs, eu, r⟩ := id ho
  -- behind the draws
  have last : ∀ g : Heap, g.IsTupleIter s.heap.objs.size t items.size → (∀ c v, s.heap.get? c = some v → g.get? c = some v) →
      wpAny (model prog w) A (pyNext (.ref s.heap.objs.size)) (fun x s' => x = none ∧ Q items.toList s') E { s with heap := g } := fun g it k =>
    next_tuple_through (s := { s with heap := g }) ⟨yes, u, fs, k _ _ eu, r⟩ (young eu) it (let ⟨o, e, z⟩ := b; ⟨o, k _ _ e, z⟩) (Array.getElem?_eq_none (Nat.le_refl _)) fun g' k' => ⟨rfl, q g' fun c v e => k' c v (young e) (k c v e)⟩
  have all : wpAny (model prog w) A (draw (.ref s.heap.objs.size) items.size) (fun vs s' => vs = items.toList ∧ wpAny (model prog w) A (pyNext (.ref s.heap.objs.size)) (fun x s' => x = none ∧ Q items.toList s') E s') E { s with heap := s.heap.push { cls := .type "tuple_iterator", data := .fields #[.ref t, .int 0 0] } } :=
    wpAny_draw_tuple bt items.size 0 _ _ ⟨_, Heap.get?_push_size _ rfl, rfl, rfl⟩ (b.push _) (Nat.le_of_eq (Nat.zero_add _)) fun g it k => ⟨List.take_of_length_le (Nat.le_of_eq Array.length_toList), last g (Nat.zero_add items.size ▸ it) fun c v e => k.extBut c v (young e) (Heap.get?_push_of_some _ e)⟩
  refine wpAny_bind (m := notIterableAtAll _) (wpAny_bind (m := specialOf _ _) (wpAny_specialOf b.typeIs F.slot_tuple_iter.lookup (wpAny_pure ?_)))
  refine wpAny_bind (m := holding _ _) (wpAny_holding (wpAny_pyIter_tuple b (wpAny_bind (m := holding _ _) (wpAny_holding (thn all fun vs s1 ⟨e, z⟩ => ?_)))))
  subst e
  have full : ¬ items.toList.length < items.size := by simp
  simp only [full, if_false]
  exact wpAny_bind (m := holding _ _) (wpAny_holding (thn z fun x s2 ⟨e, z2⟩ => by subst e; exact wpAny_pure z2))
/-- stored to names, each its own -/
theorem unpacked_to {elts : List Expr} {k : Nat} {pos : Pos} {env : Env} {t : Addr} {items : Array Value} {Q : Unit → Shared → Prop} (ho : HotX.HotAt A hot s.heap) (b : s.heap.IsTuple t items) (hn : (assignEach elts env).length = items.size) (hst : (assignEach elts env).findIdx? (·.1) = none)
    (q : ∀ g, (∀ c v, s.heap.get? c = some v → g.get? c = some v) → wpAny (model prog w) A (assignInOrder ((assignEach elts env).map (·.2)) items.toList) Q E { s with heap := g }) : wpAny (model prog w) A (assign (.Tuple elts k pos) env (.ref t)) Q E s :=
  wpAny_bind (m := standAt pos) (wpAny_standAt (wpAny_bind (m := holding _ _) (wpAny_holding (hn ▸ hst ▸ unpacked ho b q))))
/-- a, b, .. = a tuple, there -/
theorem pg_tupH {X : Cx} {es : List Expr} {k n : Nat} {t : TGs} {pos : Pos} (hc : L2H.HotC X) (each : PGs X es t) (hn : (assignEach es X.env).length = n := by rfl) (hst : (assignEach es X.env).findIdx? (·.1) = none := by rfl) : PG X (.Tuple es k pos) (gTup X.K n t) where
  run := by
    rintro pins s σ H _ u Q I rel ⟨at_, xs, rfl, tup, many, go⟩
    obtain rfl : u = .ref at_ := rel
    obtain ⟨_, hot⟩ := hc.at I
    have ⟨us, same, isT, _⟩ := I.tuple tup
    have size : us.toArray.size = xs.length := by simp [same.length]
    exact unpacked_to hot isT (by rw [hn, size, many]) hst fun g k => each.run pins _ σ H xs us Q (I.kept (t' := s.toks) k) same go
end

/-! ### zip of two lists while an error is handled -/
/-- as the library's, but that the end is told at the shorter one's length -/
def ItzH (K : PySem.W.Frag) (a b : Addr) : It := { Itz K a b with stop := fun i H => ∃ xs ys : List V, SqL K H a xs ∧ SqL K H b ys ∧ i = min xs.length ys.length }
/-- what the objects of such a zip are at turn i -/
def ZipAt (a b z TI TO i1 i2 : Addr) (i : Nat) (h : Heap) : Prop := IsZip h z TI TO .none ∧ IsTupOf2 h TI (.ref i1) (.ref i2) ∧ (∃ x y, IsTupOf2 h TO x y) ∧ h.IsListIter i1 a i ∧ h.IsListIter i2 b i
section
variable {a b z TI TO i1 i2 : Addr}
theorem ZipAt.obj {i : Nat} {h : Heap} (st : ZipAt a b z TI TO i1 i2 i h) : ∀ c ∈ [z, TI, TO, i1, i2], ∃ o, h.get? c = some o ∧ ∀ v, o.data ≠ .cell v := fun c hc => by
  obtain ⟨z1, z2, ⟨x, y, z3⟩, ⟨o4, z4, _, d4⟩, o5, z5, _, d5⟩ := st
  simp only [List.mem_cons, List.not_mem_nil, or_false] at hc
  rcases hc with rfl | rfl | rfl | rfl | rfl
  · exact ⟨_, z1, fun v e => by cases e⟩
  · exact ⟨_, z2, fun v e => by cases e⟩
  · exact ⟨_, z3, fun v e => by cases e⟩
  · exact ⟨_, z4, fun v e => by rw [d4] at e; cases e⟩
  · exact ⟨_, z5, fun v e => by rw [d5] at e; cases e⟩
theorem ZipAt.keep {i : Nat} {h h' : Heap} (st : ZipAt a b z TI TO i1 i2 i h) (k : ∀ c ∈ [z, TI, TO, i1, i2], ∀ o, h.get? c = some o → h'.get? c = some o) : ZipAt a b z TI TO i1 i2 i h' := by
  obtain ⟨z1, z2, ⟨x, y, z3⟩, ⟨o4, z4, r4⟩, o5, z5, r5⟩ := st
  exact ⟨k z (by simp) _ z1, k TI (by simp) _ z2, ⟨x, y, k TO (by simp) _ z3⟩, ⟨o4, k i1 (by simp) _ z4, r4⟩, o5, k i2 (by simp) _ z5, r5⟩
/-- the walk of such a zip, the handled error's object kept by -/
theorem zip_goes {X : Cx} {pins : List (Addr × Obj)} {σ : L2.St} {H : Hp} {s : Shared} {elts : List Expr} {kk : Nat} {tpos : Pos} (S : ZipSep2 z TI TO i1 i2 [i1, a] [i2, b]) (c : L2H.HotC X) (I : Inv X pins σ H s) (f : ∀ c ∈ [z, TI, TO, i1, i2], FpOk X pins H c)
    {j : Nat} (st : ZipAt a b z TI TO i1 i2 j s.heap) {xs ys : List V} (ha : SqL X.K H a xs) (hb : SqL X.K H b ys) : ∃ (us vs : List Value) (hot : Addr) (St : Nat → Heap → Prop), Vals xs us ∧ Vals ys vs ∧ (∀ i h, St i h → ZipAt a b z TI TO i1 i2 i h) ∧ St j s.heap ∧
      GoesN X.prog X.w X.A (.Tuple elts kk tpos) z (z :: TI :: TO :: ([i1, a, hot] ++ [i2, b, hot])) [z, TO, i1, i2] (min us.length vs.length) (fun i h0 v h => ∃ T x y, v = .ref T ∧ h0.objs.size ≤ T ∧ us[i]? = some x ∧ vs[i]? = some y ∧ h.IsTuple T #[x, y]) St := by
  obtain ⟨us, ru, pu, _⟩ := I.list ha
  obtain ⟨vs, rv, pv, _⟩ := I.list hb
  obtain ⟨p, ⟨yes, w1, e1, c1⟩, hp⟩ := id c
  have off : ∀ d ∈ [z, TI, TO, i1, i2], p.1 ≠ d := fun d hd => (f d hd).2.2.2.2.2 p (List.mem_append_left _ hp)
  have hotAt : HotX.HotAt X.A p.1 s.heap := ⟨yes, p.2, w1, (I.pin p (List.mem_append_left _ hp)).1, e1, c1⟩
  have o1 := off z (by simp); have o3 := off TO (by simp); have o4 := off i1 (by simp); have o5 := off i2 (by simp)
  obtain ⟨z1, z2, z3, ⟨q1, g1, k1, d1⟩, q2, g2, k2, d2⟩ := id st
  have n1 : a ≠ i1 := fun e => by
    obtain ⟨o, _, g, _, _, k⟩ := pu
    rw [e, g1] at g; cases g
    rw [d1] at k; cases k
  have n2 : b ≠ i2 := fun e => by
    obtain ⟨o, _, g, _, _, k⟩ := pv
    rw [e, g2] at g; cases g
    rw [d2] at k; cases k
  have wide : ∀ {c d : Addr} {m : Addr}, c ∉ [d, m] → p.1 ≠ c → c ∉ [d, m, p.1] := fun {c d m} h1 h2 h => by
    simp only [List.mem_cons, List.not_mem_nil, or_false, not_or] at h1 h
    rcases h with h | h | h
    · exact h1.1 h
    · exact h1.2 h
    · exact h2 h.symm
  have S' : ZipSep2 z TI TO i1 i2 [i1, a, p.1] [i2, b, p.1] := { S with mem1 := List.mem_cons_self .., mem2 := List.mem_cons_self .., zf1 := wide S.zf1 o1, Tf1 := wide S.Tf1 o3, zf2 := wide S.zf2 o1, Tf2 := wide S.Tf2 o3, sep1_2 := wide S.sep1_2 o4, sep2_1 := wide S.sep2_1 o5 }
  have W := (GoesN.zip2 (prog := X.prog) (w := X.w) (elts := elts) (x1 := kk) (pos := tpos) S' (draws_by (B := X.A.in1) n1 o4 yes us.toArray) (draws_by (B := X.A.in1) n2 o5 yes vs.toArray)).mono (Y' := fun i h0 v h => ∃ T x y, v = .ref T ∧ h0.objs.size ≤ T ∧ us[i]? = some x ∧ vs[i]? = some y ∧ h.IsTuple T #[x, y]) fun i h0 v h _ ⟨T, x, y, e, n, hx, hy, ht⟩ => ⟨T, x, y, e, n, by simpa using hx, by simpa using hy, ht⟩
  exact ⟨us, vs, p.1, _, ru, rv, fun i h ⟨y1, y2, y3, ⟨y4, _⟩, y5, _⟩ => ⟨y1, y2, y3, y4, y5⟩, ⟨z1, z2, z3, ⟨⟨q1, g1, k1, d1⟩, pu.isList, hotAt⟩, ⟨q2, g2, k2, d2⟩, pv.isList, hotAt⟩, W⟩
theorem vals_at {xs : List V} {us : List Value} (r : Vals xs us) {i : Nat} {u : Value} (e : us[i]? = some u) : ∃ x, xs[i]? = some x ∧ RelV x u := by
  induction r generalizing i with
  | nil => cases e
  | cons h t ih => cases i with
    | zero => cases e; exact ⟨_, rfl, h⟩
    | succ i => exact ih e
theorem zip_turnsH {P : Program} {w : World} {K : PySem.W.Frag} {elts : List Expr} {kk : Nat} {tpos : Pos} (S : ZipSep2 z TI TO i1 i2 [i1, a] [i2, b]) : L2H.TurnH P w K (.Tuple elts kk tpos) (ItzH K a b) [z, TI, TO, i1, i2] z (ZipAt a b z TI TO i1 i2) := by
  have sub : ∀ c ∈ [z, TO, i1, i2], c ∈ [z, TI, TO, i1, i2] := fun c hc => (List.mem_cons.mp hc).elim (fun e => e ▸ List.mem_cons_self ..) fun h => List.mem_cons_of_mem _ (List.mem_cons_of_mem _ h)
  constructor
  case mem => simp
  case obj => exact fun i h st => st.obj
  case keep => exact fun i h h' st k => st.keep k
  case self => exact fun A i s Q E st q => wpAny_pyIter_zip st.1 q
  case done =>
    rintro X rfl rfl rfl c i pins s σ H E I f st ⟨xs, ys, ha, hb, rfl⟩
    obtain ⟨us, vs, hot, St, ru, rv, _, st', W⟩ := zip_goes (elts := elts) (kk := kk) (tpos := tpos) S c I f st ha hb
    rw [ru.length, rv.length] at st'
    refine W.stops s _ E st' fun h' tk k _ => ?_
    exact I.turnedL k fun c hc => f c (sub c hc)
  case item =>
    rintro X rfl rfl rfl c i pins s σ H E I f st ⟨xs, ys, x, y, ha, hb, ex, ey⟩
    obtain ⟨us, vs, hot, St, ru, rv, back, st', W⟩ := zip_goes (elts := elts) (kk := kk) (tpos := tpos) S c I f st ha hb
    have lt : i < min us.length vs.length := by
      have l1 := (List.getElem?_eq_some_iff.mp ex).1
      have l2 := (List.getElem?_eq_some_iff.mp ey).1
      rw [ru.length] at l1; rw [rv.length] at l2; omega
    refine W.goes i s (fun v s2 => ∃ x H', Inv X pins σ H' s2 ∧ RelV x v ∧ (ItzH X.K a b).yld i H x H' ∧ ZipAt a b z TI TO i1 i2 (i + 1) s2.heap ∧ ∀ b ∈ [z, TI, TO, i1, i2], H' b = none) E lt st' ?_
    rintro v h' tk ⟨T, u1, u2, rfl, hT, e1, e2, tu⟩ stn k _
    obtain ⟨x1, f1, r1⟩ := vals_at ru e1
    obtain ⟨x2, f2, r2⟩ := vals_at rv e2
    have fresh : H T = none := I.hok.fresh hT
    refine ⟨.ref T, upd H T (.tup [x1, x2]), I.turnedNew k (fun c hc => f c (sub c hc)) hT ⟨by show 2 ≤ sizeLine; decide, [u1, u2], .cons r1 (.cons r2 .nil), tu⟩, rfl, ⟨T, x1, x2, rfl, fresh, rfl, fun zs hz => I.list_inj ha hz ▸ f1, fun zs hz => I.list_inj hb hz ▸ f2⟩, back _ _ stn, fun c hc => ?_⟩
    obtain ⟨o, eo, _⟩ := st.obj c hc
    exact (upd_ne (Nat.ne_of_lt (Nat.lt_of_lt_of_le (Heap.lt_size eo) hT))).trans (f c hc).1
end
/-- zip(a, b) there -/
def iZipH (K : PySem.W.Frag) (ta : TA) : TI := fun σ H R => ta σ H fun vs H1 => ∃ a b xs ys, vs = [.ref a, .ref b] ∧ SqL K H1 a xs ∧ SqL K H1 b ys ∧ R (ItzH K a b) H1
theorem pi_zipH {X : Cx} {e e2 : Expr} {ta : TA} {p pos tpos : Pos} {elts : List Expr} {kk : Nat} (gl : Gl X "zip") (no : X.mg "zip" = none) (args : PA X [e, e2] ta) (two : starEach [e, e2] X.env = (false, eval e X.env) :: starEach [e2] X.env := by rfl) (last : (backTo pos (starEach [e2] X.env)).any (·.1) = false := by rfl) :
    L2H.PIH X (.Tuple elts kk tpos) (.Call (.Name "zip" p) [e, e2] [] pos) (iZipH X.K ta) := by
  constructor
  intro pins s σ H R I h
  have run := args.run pos pins s σ H _ I h
  refine Call_ (ld_blt I gl no boot_zip (PyProof.Rows.callWith_type1 (thn run fun us s1 got => ?_) two last))
  obtain ⟨vs, H1, I1, rel, a, b, xs, ys, rfl, ha, hb, q⟩ := got
  obtain ⟨u1, u2, rfl, r1, r2⟩ : ∃ u1 u2, us = [u1, u2] ∧ RelV (.ref a) u1 ∧ RelV (.ref b) u2 := by
    rcases rel with _ | ⟨x1, _ | ⟨x2, _ | _⟩⟩
    exact ⟨_, _, rfl, x1, x2⟩
  cases r1; cases r2
  obtain ⟨is, _, pa, _⟩ := I1.list ha
  obtain ⟨js, _, pb, _⟩ := I1.list hb
  have la : a < s1.heap.objs.size := let ⟨_, _, e, _⟩ := pa; Heap.lt_size e
  have lb : b < s1.heap.objs.size := let ⟨_, _, e, _⟩ := pb; Heap.lt_size e
  refine zip_begins2 (begins_list a is.toArray) (begins_list b js.toArray) pa.isList pb.isList fun g g1 g2 g3 g4 g5 _ k => wpAny_pyIter_zip g1 ?_
  refine ⟨_, _, _, _, H1, rfl, I1.kept (t' := s1.toks) k, zip_turnsH (zip_sep2 (N := s1.heap.objs.size) (fp1 := [a]) (fp2 := [b]) (fun c hc => List.mem_singleton.mp hc ▸ la) fun c hc => List.mem_singleton.mp hc ▸ lb), ⟨g1, g2, ⟨_, _, g3⟩, ⟨_, g4, rfl, rfl⟩, _, g5, rfl, rfl⟩, fun c hc => ?_, q⟩
  have le : s1.heap.objs.size ≤ c := by
    simp only [List.mem_cons, List.not_mem_nil, or_false] at hc
    rcases hc with e | e | e | e | e <;> (rw [e]; first | exact Nat.le_add_right _ _ | exact Nat.le_refl _)
  exact I1.fpOk le (I1.hok.fresh le)

/-! ### a lambda called in the def that got it: that its errors bear no context stays known -/
section
variable {X : Cx} {pins : List (Addr × Obj)} {σ : L2.St} {H HZ : Hp} {s sZ : Shared} {scope : Scope} {params : Arguments} {body : Expr} {f c : Addr} {pm ctv : Value}
/-- the body's context -/
def lamN (X : Cx) (A : Around) (outer : List Env) (s : Shared) (H : Hp) (E : XK) (scope : Scope) (f c : Addr) : Cx :=
  { LamX.lamCx X A outer s H E scope f c with
    xe := fun e t => wpAny (model X.prog X.w) (A.deeper (LamX.lamEnv X scope s.heap.objs.size f c)) (leaving (LamX.lamEnv X scope s.heap.objs.size f c) e) (fun _ t' => L2N.CX X.prog X.w outer H s E e t') (fun _ _ => False) t }
theorem lamN_takes {A : Around} {outer : List Env} {E : XK} : L2N.Takes (lamN X A outer s H E scope f c) (fun cls d _ H' => E cls d H') := L2N.takes_of rfl rfl rfl rfl
/-- the lambda at f, as its maker X left it in s -/
structure LamAt (X : Cx) (s : Shared) (H : Hp) (params : Arguments) (body : Expr) (scope : Scope) (f c : Addr) : Prop where
  obj : ∃ pm ctv, s.heap.get? f = some (PySem.W.kla_obj "<lambda>" (X.env.qual ++ "<lambda>") params body scope (cloFrom X.env.cells scope.names []) pm c ctv)
  out : H f = none
  nofr : f ∉ frs X.stack
  code : H c = some (LamX.CodeO c (X.env.qual ++ "<lambda>"))
/-- run where the frames are outer -/
theorem lam_runs {A : Around} {outer : List Env} {E : XK} {Q : VK} {tb : TE} (I : Inv X pins σ H s) (L : LamX.LamS X.env.scope scope) (at_ : LamAt X s H params body scope f c)
    (none_ : ∀ (q : Str) (cl : List (Str × Addr)) (pm cv ctv : Value), bindArgs (PySem.W.kla_fn "<lambda>" q params body scope cl pm cv ctv) ⟨[], []⟩ = pure [])
    (e0 : Env0 X.prog X.w X.K X.mg X.base A outer sZ HZ) (calm : A.handled = none) (room : A.depth < recursionLimit) (un : Un (frs X.stack) [] H HZ s.heap sZ.heap) (code : HZ c = some (LamX.CodeO c (X.env.qual ++ "<lambda>")))
    (runs : PE (lamN X A outer sZ HZ E scope f c) body tb) (h : tb σ HZ Q) : codeAny (model X.prog X.w) A (.call (.ref f) ⟨[], []⟩) (CR (L2N.CX X.prog X.w) outer X.prog X.w HZ sZ Q E) sZ := by
  obtain ⟨pm, ctv, made⟩ := at_.obj
  have now := un.keep f _ made at_.out at_.nofr List.not_mem_nil
  obtain ⟨⟨oc, vs, tk, g1, g2, g3⟩, _⟩ := e0.hok c _ code
  refine PySem.W.kla_callFunE room now rfl L.co L.gen rfl ⟨c, oc, vs, tk, rfl, g1, g2, g3⟩ (wpAny_of_eq (none_ _ _ _ _ _) ?_)
  refine wpAny_newFunctionEnv (fun x hx => (L.own x hx).2) (fun x hx => by cases hx) (fun g names same => ?_) L.kind
  have kept : ∀ b o, sZ.heap.get? b = some o → g.get? b = some o := fun b o e => (same.2 b (Nat.ne_of_lt (Heap.lt_size e))).trans (Heap.get?_push_of_some _ e)
  have J := LamX.lam_start2 (E := E) (f := f) (c' := c) (tk := sZ.toks + ([] : List (Str × Value)).length) I L e0 calm un names kept
  refine ⟨J.nolimit, PySem.W.kla_codeExpr ?_⟩
  have J' : Inv (lamN X A outer sZ HZ E scope f c) [] σ HZ { sZ with heap := g, toks := sZ.toks + ([] : List (Str × Value)).length } := { J with ok := { J.ok with } }
  refine wpAny_mono (runs.run [] _ σ HZ Q J' h) (fun u t ⟨v, H', I', r, q⟩ => ?_) fun e t z => wpAny_mono z (fun _ _ x => x) fun _ _ x => x.elim
  exact ⟨v, H', I'.os, I'.bare, I'.base, I'.hok, r, q⟩
/-- a(), where a holds the lambda: Z is the context of the def that got it, entered at s -/
theorem pe_door {Z : Cx} {W : WX} {tb : XK → TE} {i : Nat} {a : Str} {p1 p2 : Pos} (I : Inv X pins σ H s) (L : LamX.LamS X.env.scope scope) (at_ : LamAt X s H params body scope f c)
    (none_ : ∀ (q : Str) (cl : List (Str × Addr)) (pm cv ctv : Value), bindArgs (PySem.W.kla_fn "<lambda>" q params body scope cl pm cv ctv) ⟨[], []⟩ = pure [])
    (same : Z.prog = X.prog ∧ Z.w = X.w ∧ Z.K = X.K ∧ Z.mg = X.mg ∧ Z.base = X.base) (ent : Z.s_0 = s ∧ Z.H_0 = H ∧ Z.outer = X.stack ∧ Z.ex = []) (calm : Z.calm = true) (room : Z.A.depth < recursionLimit)
    (tk : L2N.Takes Z W) (runs : ∀ (sZ : Shared) (HZ : Hp) (E : XK), PE (lamN X Z.A Z.stack sZ HZ E scope f c) body (tb E))
    (hN : Z.N[i]? = some a) (hv : Vis Z.env.scope a) (hd : (a == ("__debug__" : Str)) = false := by decide) (hcd : (a == ("__classdict__" : Str)) = false := by decide) :
    PE Z (.Call (.Name a p1) [] [] p2) (fun σZ HZ Q => σZ[i]? = some (some (.ref f)) ∧ HZ c = some (LamX.CodeO c (X.env.qual ++ "<lambda>")) ∧ tb (fun cls d H' => W cls d σZ H') σ HZ Q) := by
  obtain ⟨zp, zw, zk, zm, zb⟩ := same
  obtain ⟨zs, zh, zo, zx⟩ := ent
  refine ⟨fun pinsZ sZ σZ HZ Q IZ ⟨slot, code, h⟩ => wpAny_Call_Name_kw ?_⟩
  refine thn ((pe_var (pos := p1) hN hv hd hcd).run pinsZ sZ σZ HZ (fun v H1 => v = .ref f ∧ H1 = HZ) IZ ⟨_, slot, rfl, rfl⟩) fun u s1 ⟨v, H1, I1, r1, ev, eh⟩ => ?_
  subst ev eh
  cases r1
  have un : Un (frs X.stack) [] H H1 s.heap s1.heap := by
    have b := I1.base
    rw [zs, zh, zx] at b
    show Un (frs X.stack) [] H H1 s.heap s1.heap
    rw [← zo]
    exact b
  have e0 := I1.env0
  rw [zp, zw, zk, zm, zb] at e0
  obtain ⟨pm, ctv, made⟩ := at_.obj
  refine PySem.W.callWith_F0 ⟨_, _, _, _, un.keep f _ made at_.out at_.nofr List.not_mem_nil⟩ (wpAny_call ?_)
  have go := lam_runs (E := fun cls d H' => W cls d σZ H') I L at_ none_ e0 (I1.ok.hd calm) room un code (runs s1 H1 _) h
  rw [zp, zw]
  refine codeAny_mono go fun r t e => ?_
  match r, e with
  | .ok (.ret u), e => exact I1.after (by rw [zp, zw]; exact e)
  | .error x, e => exact tk x t (L2N.XE.of_call I1 (fun _ _ _ z => z) (by rw [zp, zw]; exact e))
end

/-! ### a def called with the handled error itself -/
section
variable {Y : Cx} {p : Addr × Obj} {k i : Nat} {x a e : Str} {st : Stmt} {f : Addr} {fd : FuncData} {N : List Str} {R : Hp → VK → Prop}
theorem pe_told {q q1 pos : Pos} (F : Fun Y.K x x st f fd) (S : FnScope N [a] (defScope st)) (b : Binds Y.K fd [a] []) (hot : L2H.Hot1 Y.A p) (mem : p ∈ Y.pn) (room : L2H.RoomH (k + 1) Y.A) (hg : Gl Y x) (hm : Y.mg x = some (.ref f))
    (hN : Y.N[i]? = some e) (hv : Vis Y.env.scope e)
    (runs : ∀ (cdv : Value) (A : Around) (outer : List Env) (s : Shared) (H : Hp) (Q : VK), L2H.Hot1 A p → L2H.RoomH k (A.deeper (envOfC x (defScope st) s.heap.objs.size f cdv)) → R H Q →
      ∃ t, PSs (L2H.cxH CX0 Y.prog Y.w Y.K Y.mg Y.base N x (defScope st) f cdv A outer s H E0 p) (defBody st) t ∧ t { nx := fun _ H' => Q .non H', rt := Q } (L2.start N [.ref p.1]) H)
    (hdx : (x == ("__debug__" : Str)) = false := by decide) (hde : (e == ("__debug__" : Str)) = false := by decide) (hce : (e == ("__classdict__" : Str)) = false := by decide) :
    PE Y (.Call (.Name x q) [.Name e q1] [] pos) (fun σ H Q => σ[i]? = some (some (.ref p.1)) ∧ R H Q) := by
  obtain ⟨oc, od, kV, doc, pm, an, cdv, ct, osl, rfl, there, code⟩ := F.ex
  refine ⟨fun pins s σ H Q I ⟨slot, h⟩ => wpAny_Call_Name_kw (ld_glob I hg hm ?_ hdx)⟩
  have arg := (pe_var (pos := q1) hN hv hde hce).run pins s σ H (fun v H1 => v = .ref p.1 ∧ H1 = H) I ⟨_, slot, rfl, rfl⟩
  refine PySem.W.callWith_K (h₀ := Y.base) I.ok.mod.kin F.kp (args_cons (thn arg fun u s1 ⟨v, H1, I1, r1, ev, eh⟩ => args_nil ⟨I1.kIn, ?_⟩))
  subst ev eh
  cases r1
  obtain ⟨g1, g2, g3, g4, g5⟩ := I1.pin p (List.mem_append_left _ mem)
  have pin : L2H.PinOk Y.stack H1 s1 p := ⟨g1, g2, fun z => (List.mem_cons.mp (I1.stkSub _ z)).elim g3 g4, g5⟩
  have bound := b s1 [.ref p.1] I1.kIn rfl
  have kinds : (([a].zip ([Value.ref p.1] ++ [])).all fun y => (defScope st).names.lookup y.1 == some .local || (defScope st).names.lookup y.1 == some .cell) = true := by
    rcases S.par a (List.mem_cons_self ..) with z | z <;> simp [z]
  refine wpAny_call (codeAny_mono (R := fun r t => ∃ u, r = .ok (.ret u) ∧ CE Y.stack Y.prog Y.w H1 s1 Q u t) ?_ fun r t ⟨u, er, c⟩ => er ▸ I1.after c)
  refine Att.call_fn I1.kIn I1.nolimit there code room.depth bound kinds (fun s2 entered => ?_) S.co S.gen S.kind
  obtain ⟨t, walk, rd⟩ := runs cdv Y.A Y.stack s1 H1 Q hot (room.deeper _) h
  have J := L2H.inv_startH (CX := CX0) (E := E0) S pin I1.env0 (vs := [.ref p.1]) rfl (.cons rfl .nil) entered
  refine wpAny_mono (walk.run [] s2 _ H1 _ J rd) (fun fl s3 z => ?_) fun e s3 z => wpAny_mono z (fun _ _ no => (no : False).elim) fun _ _ no => (no : False).elim
  cases fl with
  | next => obtain ⟨σ', H', I', z⟩ := z; exact ⟨_, rfl, .non, H', I'.os, I'.bare, I'.base, I'.hok, rfl, z⟩
  | brk => obtain ⟨_, _, _, z⟩ := z; exact z.elim
  | cont => obtain ⟨_, _, _, z⟩ := z; exact z.elim
  | ret u => obtain ⟨v, σ', H', I', r, z⟩ := z; exact ⟨_, rfl, v, H', I'.os, I'.bare, I'.base, I'.hok, r, z⟩
end

/-- a walk within a walk: the body is told where it goes on -/
theorem walk_in {J : It} {n : Nat} {G : Hp → Prop} {Y : Nat → Hp → V → Hp → Prop} (w : Walk J n G Y) {body : V → Hp → (Hp → Prop) → Prop} {Nx : Hp → Prop} {H0 : Hp} (Pv : Nat → Hp → Prop) (h0 : Pv 0 H0) (hG : ∀ i H, i ≤ n → Pv i H → G H)
    (hs : ∀ i x H H', i < n → Pv i H → Y i H x H' → body x H' (Pv (i + 1))) (hd : ∀ H, Pv n H → Nx H) :
    ∃ W : Nat → Nat → Hp → Prop, (∃ m, W 0 m H0) ∧ ∀ i m H, W i m H → (J.stop i H ∧ Nx H) ∨ (J.go i H ∧ ∃ N : Hp → Prop, (∀ H', N H' → ∃ m', m' < m ∧ W (i + 1) m' H') ∧ ∀ x H', J.yld i H x H' → body x H' N) := by
  refine ⟨fun i m H => i + m = n ∧ Pv i H, ⟨n, Nat.zero_add n, h0⟩, fun i m H ⟨im, p⟩ => ?_⟩
  have g := hG i H (by omega) p
  cases m with
  | zero =>
    obtain rfl : i = n := by omega
    exact .inl ⟨w.stops H g, hd H p⟩
  | succ m => exact .inr ⟨w.goes i H (by omega) g, Pv (i + 1), fun H' p' => ⟨m, Nat.lt_succ_self m, by omega, p'⟩, fun x H' y => hs i x H H' (by omega) p (w.yields i H x H' (by omega) g y)⟩

/-! ### the text -/
def topS (i : Nat) : Stmt := PySem.Challenge.pw_longyears_k11_whole_a_realm_changes_its.main.body.getD i (.Pass ⟨0, 0, 0, 0⟩)
abbrev s_is_whole : Stmt := topS 12
abbrev s_is_between : Stmt := topS 13
abbrev s_is_land : Stmt := topS 19
abbrev s_need_land : Stmt := topS 20
abbrev s_need_year : Stmt := topS 21
abbrev s_need_day : Stmt := topS 22
abbrev s_step_of : Stmt := topS 23
abbrev s_first_day : Stmt := topS 24
abbrev s_date_of : Stmt := topS 25
abbrev s_need_realm_place : Stmt := topS 27
abbrev s__law_deck : Stmt := topS 30
abbrev s__law_pick : Stmt := topS 31
abbrev s__law_whole : Stmt := topS 32
abbrev s__law_one : Stmt := topS 33
abbrev s__law_kin : Stmt := topS 34
abbrev s__law_try : Stmt := topS 35
abbrev s__law_sort : Stmt := topS 36
abbrev s__law_same : Stmt := topS 37
abbrev s__law_land : Stmt := topS 38
abbrev s__law_any : Stmt := topS 39
abbrev s__law_begin : Stmt := topS 40
abbrev s__law_length : Stmt := topS 41
abbrev s__law_far : Stmt := topS 42
abbrev s__law_step : Stmt := topS 43
abbrev s__law_of : Stmt := topS 44
abbrev s__law_dated : Stmt := topS 45
abbrev s__law_days_right : Stmt := topS 46
abbrev s__law_do : Stmt := topS 47
abbrev s__law_due : Stmt := topS 48
abbrev s_law : Stmt := topS 49
abbrev s_Realm_init : Stmt := inClass (topS 28) 0
abbrev s_Realm_change : Stmt := inClass (topS 28) 1
abbrev s_Realm_back : Stmt := inClass (topS 28) 2
abbrev s_Realm_date : Stmt := inClass (topS 28) 3
abbrev s_Realm_days_of : Stmt := inClass (topS 28) 4
abbrev s_Realm_lands : Stmt := inClass (topS 28) 5
abbrev s_Realm_len : Stmt := inClass (topS 28) 6
abbrev s_Realm_eq : Stmt := inClass (topS 28) 7
abbrev s_Realm_is_later : Stmt := inClass (topS 28) 8
abbrev s_Realm_rules : Stmt := inClass (topS 28) 9
abbrev s_Realm_land_on : Stmt := inClass (topS 28) 10
theorem sc_is_whole : FnScope ["thing"] ["thing"] (defScope s_is_whole) := ⟨rfl, rfl, rfl, by decide +kernel, rfl, by decide +kernel, by decide +kernel⟩
theorem sc_is_between : FnScope ["thing", "least", "most"] ["thing", "least", "most"] (defScope s_is_between) := ⟨rfl, rfl, rfl, by decide +kernel, rfl, by decide +kernel, by decide +kernel⟩
theorem sc_is_land : FnScope ["thing", "days", "top", "bottom", "shift"] ["thing"] (defScope s_is_land) := ⟨rfl, rfl, rfl, by decide +kernel, rfl, by decide +kernel, by decide +kernel⟩
theorem sc_need_land : FnScope ["thing"] ["thing"] (defScope s_need_land) := ⟨rfl, rfl, rfl, by decide +kernel, rfl, by decide +kernel, by decide +kernel⟩
theorem sc_need_year : FnScope ["thing"] ["thing"] (defScope s_need_year) := ⟨rfl, rfl, rfl, by decide +kernel, rfl, by decide +kernel, by decide +kernel⟩
theorem sc_need_day : FnScope ["thing"] ["thing"] (defScope s_need_day) := ⟨rfl, rfl, rfl, by decide +kernel, rfl, by decide +kernel, by decide +kernel⟩
theorem sc_step_of : FnScope ["land", "days", "top", "bottom", "shift"] ["land"] (defScope s_step_of) := ⟨rfl, rfl, rfl, by decide +kernel, rfl, by decide +kernel, by decide +kernel⟩
theorem sc_first_day : FnScope ["land", "year", "days", "top", "bottom", "shift"] ["land", "year"] (defScope s_first_day) := ⟨rfl, rfl, rfl, by decide +kernel, rfl, by decide +kernel, by decide +kernel⟩
theorem sc_date_of : FnScope ["land", "day", "days", "top", "bottom", "shift", "year"] ["land", "day"] (defScope s_date_of) := ⟨rfl, rfl, rfl, by decide +kernel, rfl, by decide +kernel, by decide +kernel⟩
theorem sc_need_realm_place : FnScope ["thing"] ["thing"] (defScope s_need_realm_place) := ⟨rfl, rfl, rfl, by decide +kernel, rfl, by decide +kernel, by decide +kernel⟩
theorem sc__law_deck : FnScope ["cell", "turn"] ["cell", "turn"] (defScope s__law_deck) := ⟨rfl, rfl, rfl, by decide +kernel, rfl, by decide +kernel, by decide +kernel⟩
theorem sc__law_pick : FnScope ["deck", "size", "found", "number"] ["deck", "size"] (defScope s__law_pick) := ⟨rfl, rfl, rfl, by decide +kernel, rfl, by decide +kernel, by decide +kernel⟩
theorem sc__law_whole : FnScope ["thing"] ["thing"] (defScope s__law_whole) := ⟨rfl, rfl, rfl, by decide +kernel, rfl, by decide +kernel, by decide +kernel⟩
theorem sc__law_one : FnScope ["deck", "some"] ["deck", "some"] (defScope s__law_one) := ⟨rfl, rfl, rfl, by decide +kernel, rfl, by decide +kernel, by decide +kernel⟩
theorem sc__law_kin : FnScope ["e", "kinds_met", "names", "name", "good"] ["e"] (defScope s__law_kin) := ⟨rfl, rfl, rfl, by decide +kernel, rfl, by decide +kernel, by decide +kernel⟩
theorem sc__law_try : FnScope ["door", "found", "e"] ["door"] (defScope s__law_try) := ⟨rfl, rfl, rfl, by decide +kernel, rfl, by decide +kernel, by decide +kernel⟩
theorem sc__law_sort : FnScope ["thing"] ["thing"] (defScope s__law_sort) := ⟨rfl, rfl, rfl, by decide +kernel, rfl, by decide +kernel, by decide +kernel⟩
theorem sc__law_same : FnScope ["told", "due", "k", "part"] ["told", "due"] (defScope s__law_same) := ⟨rfl, rfl, rfl, by decide +kernel, rfl, by decide +kernel, by decide +kernel⟩
theorem sc__law_land : FnScope ["deck", "long_so", "bottoms", "shifts", "bottom", "shift"] ["deck", "long_so", "bottoms", "shifts"] (defScope s__law_land) := ⟨rfl, rfl, rfl, by decide +kernel, rfl, by decide +kernel, by decide +kernel⟩
theorem sc__law_any : FnScope ["deck", "long_so", "bottoms", "shifts"] ["deck"] (defScope s__law_any) := ⟨rfl, rfl, rfl, by decide +kernel, rfl, by decide +kernel, by decide +kernel⟩
theorem sc__law_begin : FnScope ["land", "year"] ["land", "year"] (defScope s__law_begin) := ⟨rfl, rfl, rfl, by decide +kernel, rfl, by decide +kernel, by decide +kernel⟩
theorem sc__law_length : FnScope ["land", "year"] ["land", "year"] (defScope s__law_length) := ⟨rfl, rfl, rfl, by decide +kernel, rfl, by decide +kernel, by decide +kernel⟩
theorem sc__law_far : FnScope ["deck", "number"] ["deck"] (defScope s__law_far) := ⟨rfl, rfl, rfl, by decide +kernel, rfl, by decide +kernel, by decide +kernel⟩
theorem sc__law_step : FnScope ["land"] ["land"] (defScope s__law_step) := ⟨rfl, rfl, rfl, by decide +kernel, rfl, by decide +kernel, by decide +kernel⟩
theorem sc__law_of : FnScope ["rows", "day", "some", "begun", "land"] ["rows", "day"] (defScope s__law_of) := ⟨rfl, rfl, rfl, by decide +kernel, rfl, by decide +kernel, by decide +kernel⟩
theorem sc__law_dated : FnScope ["land", "day", "year"] ["land", "day"] (defScope s__law_dated) := ⟨rfl, rfl, rfl, by decide +kernel, rfl, by decide +kernel, by decide +kernel⟩
theorem sc__law_days_right : FnScope ["deck", "realm", "rows", "some", "begun", "land", "day", "due", "year", "place", "found", "here"] ["deck", "realm", "rows"] (defScope s__law_days_right) := ⟨rfl, rfl, rfl, by decide +kernel, rfl, by decide +kernel, by decide +kernel⟩
theorem sc__law_do : FnScope ["realm", "deed", "told"] ["realm", "deed"] (defScope s__law_do) := ⟨rfl, rfl, rfl, by decide +kernel, rfl, by decide +kernel, by decide +kernel⟩
theorem sc__law_due : FnScope ["rows", "deed", "day", "land"] ["rows", "deed"] (defScope s__law_due) := ⟨rfl, rfl, rfl, by decide +kernel, rfl, by decide +kernel, by decide +kernel⟩
theorem sc_law : FnScope ["script", "cell", "deck", "land", "other", "rows", "turn", "last", "day", "new", "deed", "due", "told", "odd", "realm"] ["script"] (defScope s_law) := ⟨rfl, rfl, rfl, by decide +kernel, rfl, by decide +kernel, by decide +kernel⟩
theorem sc_Realm_init : FnScope ["self", "land"] ["self", "land"] (defScope s_Realm_init) := ⟨rfl, rfl, rfl, by decide +kernel, rfl, by decide +kernel, by decide +kernel⟩
theorem sc_Realm_change : FnScope ["self", "day", "land"] ["self", "day", "land"] (defScope s_Realm_change) := ⟨rfl, rfl, rfl, by decide +kernel, rfl, by decide +kernel, by decide +kernel⟩
theorem sc_Realm_back : FnScope ["self"] ["self"] (defScope s_Realm_back) := ⟨rfl, rfl, rfl, by decide +kernel, rfl, by decide +kernel, by decide +kernel⟩
theorem sc_Realm_date : FnScope ["self", "day"] ["self", "day"] (defScope s_Realm_date) := ⟨rfl, rfl, rfl, by decide +kernel, rfl, by decide +kernel, by decide +kernel⟩
theorem sc_Realm_days_of : FnScope ["self", "year", "place", "found", "at", "pair", "land", "day"] ["self", "year", "place"] (defScope s_Realm_days_of) := ⟨rfl, rfl, rfl, by decide +kernel, rfl, by decide +kernel, by decide +kernel⟩
theorem sc_Realm_lands : FnScope ["self"] ["self"] (defScope s_Realm_lands) := ⟨rfl, rfl, rfl, by decide +kernel, rfl, by decide +kernel, by decide +kernel⟩
theorem sc_Realm_len : FnScope ["self"] ["self"] (defScope s_Realm_len) := ⟨rfl, rfl, rfl, by decide +kernel, rfl, by decide +kernel, by decide +kernel⟩
theorem sc_Realm_eq : FnScope ["self", "other"] ["self", "other"] (defScope s_Realm_eq) := ⟨rfl, rfl, rfl, by decide +kernel, rfl, by decide +kernel, by decide +kernel⟩
theorem sc_Realm_is_later : FnScope ["self", "day", "start"] ["self", "day"] (defScope s_Realm_is_later) := ⟨rfl, rfl, rfl, by decide +kernel, rfl, by decide +kernel, by decide +kernel⟩
theorem sc_Realm_rules : FnScope ["self", "at", "day", "start"] ["self", "at", "day"] (defScope s_Realm_rules) := ⟨rfl, rfl, rfl, by decide +kernel, rfl, by decide +kernel, by decide +kernel⟩
theorem sc_Realm_land_on : FnScope ["self", "day", "found", "start", "land"] ["self", "day"] (defScope s_Realm_land_on) := ⟨rfl, rfl, rfl, by decide +kernel, rfl, by decide +kernel, by decide +kernel⟩
structure ErrAt (K : PySem.W.Frag) (C CY : Addr) : Prop where
  ex : PySem.W.excIn K C [.type "ValueError", .type "Exception", .type "BaseException", .type "object"] "ValueError.__new__" = true
  kp : PySem.W.keepIn K (Value.ref C) = true
  sb : PySem.W.subIn K (.ref C) (.type "BaseException") = some true
  tp : PySem.W.typeIn K (.ref C) = some (.type "type")
  is : L2.ExcC K C
  em : PySem.W.exmOne K (.ref C) (.ref CY) = some true
structure DefAt (K : PySem.W.Frag) (mg : Str → Option Value) (x : Str) (st : Stmt) (ps : List Str) where
  f : Addr
  fd : FuncData
  F : Fun K x x st f fd
  b : Binds K fd ps []
  g : mg x = some (.ref f)
structure MethAt (K : PySem.W.Frag) (C : Addr) (m q : Str) (st : Stmt) (ps : List Str) where
  f : Addr
  fd : FuncData
  F : Fun K m q st f fd
  b : Binds K fd ps []
  m : Meth K C m f
structure Txt (K : PySem.W.Frag) (mg : Str → Option Value) where
  C_YearError : Addr
  g_YearError : mg "YearError" = some (.ref C_YearError)
  C_NoLand : Addr
  g_NoLand : mg "NoLand" = some (.ref C_NoLand)
  C_NoYear : Addr
  g_NoYear : mg "NoYear" = some (.ref C_NoYear)
  C_NoDay : Addr
  g_NoDay : mg "NoDay" = some (.ref C_NoDay)
  C_NoPlace : Addr
  g_NoPlace : mg "NoPlace" = some (.ref C_NoPlace)
  C_NoWeek : Addr
  g_NoWeek : mg "NoWeek" = some (.ref C_NoWeek)
  C_NoName : Addr
  g_NoName : mg "NoName" = some (.ref C_NoName)
  C_NoSeen : Addr
  g_NoSeen : mg "NoSeen" = some (.ref C_NoSeen)
  C_NoNumber : Addr
  g_NoNumber : mg "NoNumber" = some (.ref C_NoNumber)
  C_NothingLeft : Addr
  g_NothingLeft : mg "NothingLeft" = some (.ref C_NothingLeft)
  err_NoLand : ErrAt K C_NoLand C_YearError
  ki_NoLand_NoLand : PySem.W.kitOne K (.ref C_NoLand) (.ref C_NoLand) = some true
  ki_NoLand_NoYear : PySem.W.kitOne K (.ref C_NoLand) (.ref C_NoYear) = some false
  ki_NoLand_NoDay : PySem.W.kitOne K (.ref C_NoLand) (.ref C_NoDay) = some false
  ki_NoLand_NoPlace : PySem.W.kitOne K (.ref C_NoLand) (.ref C_NoPlace) = some false
  ki_NoLand_NoWeek : PySem.W.kitOne K (.ref C_NoLand) (.ref C_NoWeek) = some false
  ki_NoLand_NoName : PySem.W.kitOne K (.ref C_NoLand) (.ref C_NoName) = some false
  ki_NoLand_NoSeen : PySem.W.kitOne K (.ref C_NoLand) (.ref C_NoSeen) = some false
  ki_NoLand_NoNumber : PySem.W.kitOne K (.ref C_NoLand) (.ref C_NoNumber) = some false
  ki_NoLand_NothingLeft : PySem.W.kitOne K (.ref C_NoLand) (.ref C_NothingLeft) = some false
  ki_NoLand_V : PySem.W.kitOne K (.ref C_NoLand) (.type "ValueError") = some true
  err_NoYear : ErrAt K C_NoYear C_YearError
  ki_NoYear_NoLand : PySem.W.kitOne K (.ref C_NoYear) (.ref C_NoLand) = some false
  ki_NoYear_NoYear : PySem.W.kitOne K (.ref C_NoYear) (.ref C_NoYear) = some true
  ki_NoYear_NoDay : PySem.W.kitOne K (.ref C_NoYear) (.ref C_NoDay) = some false
  ki_NoYear_NoPlace : PySem.W.kitOne K (.ref C_NoYear) (.ref C_NoPlace) = some false
  ki_NoYear_NoWeek : PySem.W.kitOne K (.ref C_NoYear) (.ref C_NoWeek) = some false
  ki_NoYear_NoName : PySem.W.kitOne K (.ref C_NoYear) (.ref C_NoName) = some false
  ki_NoYear_NoSeen : PySem.W.kitOne K (.ref C_NoYear) (.ref C_NoSeen) = some false
  ki_NoYear_NoNumber : PySem.W.kitOne K (.ref C_NoYear) (.ref C_NoNumber) = some false
  ki_NoYear_NothingLeft : PySem.W.kitOne K (.ref C_NoYear) (.ref C_NothingLeft) = some false
  ki_NoYear_V : PySem.W.kitOne K (.ref C_NoYear) (.type "ValueError") = some true
  err_NoDay : ErrAt K C_NoDay C_YearError
  ki_NoDay_NoLand : PySem.W.kitOne K (.ref C_NoDay) (.ref C_NoLand) = some false
  ki_NoDay_NoYear : PySem.W.kitOne K (.ref C_NoDay) (.ref C_NoYear) = some false
  ki_NoDay_NoDay : PySem.W.kitOne K (.ref C_NoDay) (.ref C_NoDay) = some true
  ki_NoDay_NoPlace : PySem.W.kitOne K (.ref C_NoDay) (.ref C_NoPlace) = some false
  ki_NoDay_NoWeek : PySem.W.kitOne K (.ref C_NoDay) (.ref C_NoWeek) = some false
  ki_NoDay_NoName : PySem.W.kitOne K (.ref C_NoDay) (.ref C_NoName) = some false
  ki_NoDay_NoSeen : PySem.W.kitOne K (.ref C_NoDay) (.ref C_NoSeen) = some false
  ki_NoDay_NoNumber : PySem.W.kitOne K (.ref C_NoDay) (.ref C_NoNumber) = some false
  ki_NoDay_NothingLeft : PySem.W.kitOne K (.ref C_NoDay) (.ref C_NothingLeft) = some false
  ki_NoDay_V : PySem.W.kitOne K (.ref C_NoDay) (.type "ValueError") = some true
  err_NoPlace : ErrAt K C_NoPlace C_YearError
  ki_NoPlace_NoLand : PySem.W.kitOne K (.ref C_NoPlace) (.ref C_NoLand) = some false
  ki_NoPlace_NoYear : PySem.W.kitOne K (.ref C_NoPlace) (.ref C_NoYear) = some false
  ki_NoPlace_NoDay : PySem.W.kitOne K (.ref C_NoPlace) (.ref C_NoDay) = some false
  ki_NoPlace_NoPlace : PySem.W.kitOne K (.ref C_NoPlace) (.ref C_NoPlace) = some true
  ki_NoPlace_NoWeek : PySem.W.kitOne K (.ref C_NoPlace) (.ref C_NoWeek) = some false
  ki_NoPlace_NoName : PySem.W.kitOne K (.ref C_NoPlace) (.ref C_NoName) = some false
  ki_NoPlace_NoSeen : PySem.W.kitOne K (.ref C_NoPlace) (.ref C_NoSeen) = some false
  ki_NoPlace_NoNumber : PySem.W.kitOne K (.ref C_NoPlace) (.ref C_NoNumber) = some false
  ki_NoPlace_NothingLeft : PySem.W.kitOne K (.ref C_NoPlace) (.ref C_NothingLeft) = some false
  ki_NoPlace_V : PySem.W.kitOne K (.ref C_NoPlace) (.type "ValueError") = some true
  err_NothingLeft : ErrAt K C_NothingLeft C_YearError
  ki_NothingLeft_NoLand : PySem.W.kitOne K (.ref C_NothingLeft) (.ref C_NoLand) = some false
  ki_NothingLeft_NoYear : PySem.W.kitOne K (.ref C_NothingLeft) (.ref C_NoYear) = some false
  ki_NothingLeft_NoDay : PySem.W.kitOne K (.ref C_NothingLeft) (.ref C_NoDay) = some false
  ki_NothingLeft_NoPlace : PySem.W.kitOne K (.ref C_NothingLeft) (.ref C_NoPlace) = some false
  ki_NothingLeft_NoWeek : PySem.W.kitOne K (.ref C_NothingLeft) (.ref C_NoWeek) = some false
  ki_NothingLeft_NoName : PySem.W.kitOne K (.ref C_NothingLeft) (.ref C_NoName) = some false
  ki_NothingLeft_NoSeen : PySem.W.kitOne K (.ref C_NothingLeft) (.ref C_NoSeen) = some false
  ki_NothingLeft_NoNumber : PySem.W.kitOne K (.ref C_NothingLeft) (.ref C_NoNumber) = some false
  ki_NothingLeft_NothingLeft : PySem.W.kitOne K (.ref C_NothingLeft) (.ref C_NothingLeft) = some true
  ki_NothingLeft_V : PySem.W.kitOne K (.ref C_NothingLeft) (.type "ValueError") = some true
  C_Realm : Addr
  cl_Realm : Cls K C_Realm
  g_Realm : mg "Realm" = some (.ref C_Realm)
  n_Realm_pairs : NoAttr K C_Realm "pairs"
  oc_Realm : PySem.W.findIn K (.ref C_Realm) "__class__" = some (some (.builtin "object.__class__"))
  om_Realm : PySem.W.mroIn K C_Realm (.type "object") = some true
  oi_Realm : PySem.W.kitOne K (.ref C_Realm) (.ref C_Realm) = some true
  ol_Realm : PySem.W.kitOne K (.type "list") (.ref C_Realm) = some false
  on_Realm : PySem.W.notFirst K C_Realm (.type "list") = true
  osp : PySem.W.specialIn K (.builtin "object.__class__") "__get__" = some (some (.builtin "getset_descriptor.__get__"))
  otk : PySem.W.takesIn K (.builtin "object.__class__") = some true
  Realm_init : MethAt K C_Realm "__init__" "Realm.__init__" s_Realm_init ["self", "land"]
  mk_Realm : Mk K C_Realm Realm_init.f
  Realm_change : MethAt K C_Realm "change" "Realm.change" s_Realm_change ["self", "day", "land"]
  Realm_back : MethAt K C_Realm "back" "Realm.back" s_Realm_back ["self"]
  Realm_date : MethAt K C_Realm "date" "Realm.date" s_Realm_date ["self", "day"]
  Realm_days_of : MethAt K C_Realm "days_of" "Realm.days_of" s_Realm_days_of ["self", "year", "place"]
  Realm_lands : MethAt K C_Realm "lands" "Realm.lands" s_Realm_lands ["self"]
  Realm_len : MethAt K C_Realm "__len__" "Realm.__len__" s_Realm_len ["self"]
  Realm_eq : MethAt K C_Realm "__eq__" "Realm.__eq__" s_Realm_eq ["self", "other"]
  Realm_is_later : MethAt K C_Realm "is_later" "Realm.is_later" s_Realm_is_later ["self", "day"]
  Realm_rules : MethAt K C_Realm "rules" "Realm.rules" s_Realm_rules ["self", "at", "day"]
  Realm_land_on : MethAt K C_Realm "land_on" "Realm.land_on" s_Realm_land_on ["self", "day"]
  is_whole : DefAt K mg "is_whole" s_is_whole ["thing"]
  is_between : DefAt K mg "is_between" s_is_between ["thing", "least", "most"]
  is_land : DefAt K mg "is_land" s_is_land ["thing"]
  need_land : DefAt K mg "need_land" s_need_land ["thing"]
  need_year : DefAt K mg "need_year" s_need_year ["thing"]
  need_day : DefAt K mg "need_day" s_need_day ["thing"]
  step_of : DefAt K mg "step_of" s_step_of ["land"]
  first_day : DefAt K mg "first_day" s_first_day ["land", "year"]
  date_of : DefAt K mg "date_of" s_date_of ["land", "day"]
  need_realm_place : DefAt K mg "need_realm_place" s_need_realm_place ["thing"]
  _law_deck : DefAt K mg "_law_deck" s__law_deck ["cell", "turn"]
  _law_pick : DefAt K mg "_law_pick" s__law_pick ["deck", "size"]
  _law_whole : DefAt K mg "_law_whole" s__law_whole ["thing"]
  _law_one : DefAt K mg "_law_one" s__law_one ["deck", "some"]
  _law_kin : DefAt K mg "_law_kin" s__law_kin ["e"]
  _law_try : DefAt K mg "_law_try" s__law_try ["door"]
  _law_sort : DefAt K mg "_law_sort" s__law_sort ["thing"]
  _law_same : DefAt K mg "_law_same" s__law_same ["told", "due"]
  _law_land : DefAt K mg "_law_land" s__law_land ["deck", "long_so", "bottoms", "shifts"]
  _law_any : DefAt K mg "_law_any" s__law_any ["deck"]
  _law_begin : DefAt K mg "_law_begin" s__law_begin ["land", "year"]
  _law_length : DefAt K mg "_law_length" s__law_length ["land", "year"]
  _law_far : DefAt K mg "_law_far" s__law_far ["deck"]
  _law_step : DefAt K mg "_law_step" s__law_step ["land"]
  _law_of : DefAt K mg "_law_of" s__law_of ["rows", "day"]
  _law_dated : DefAt K mg "_law_dated" s__law_dated ["land", "day"]
  _law_days_right : DefAt K mg "_law_days_right" s__law_days_right ["deck", "realm", "rows"]
  _law_do : DefAt K mg "_law_do" s__law_do ["realm", "deed"]
  _law_due : DefAt K mg "_law_due" s__law_due ["rows", "deed"]
  t_MOST_DAYS : Tok
  c_MOST_DAYS : mg "MOST_DAYS" = some (.int 400 t_MOST_DAYS)
  t_MOST_BOTTOM : Tok
  c_MOST_BOTTOM : mg "MOST_BOTTOM" = some (.int 60 t_MOST_BOTTOM)
  t_MOST_SHIFT : Tok
  c_MOST_SHIFT : mg "MOST_SHIFT" = some (.int 1000000 t_MOST_SHIFT)
  t_FARTHEST : Tok
  c_FARTHEST : mg "FARTHEST" = some (.int 1000000000000000000000000000000 t_FARTHEST)
  isinstance : mg "isinstance" = none
  b_int : mg "int" = none
  b_bool : mg "bool" = none
  tuple : mg "tuple" = none
  len : mg "len" = none
  ValueError : mg "ValueError" = none
  zip : mg "zip" = none
  str : mg "str" = none
  b_list : mg "list" = none
  enumerate : mg "enumerate" = none
  sorted : mg "sorted" = none
  set : mg "set" = none
  abs : mg "abs" = none
  range : mg "range" = none

/-! ### the handled error told by its kinds -/
theorem mark_same {A : Around} {v : Value} (h : A.handled = some v) : A.mark (some v) = A := by
  obtain ⟨a, b, c, d, e⟩ := A
  cases h
  rfl
/-- ten answers, ten names: those that are true, one behind the other -/
def kinNames : List Str := ["NoLand", "NoYear", "NoDay", "NoPlace", "NoWeek", "NoName", "NoSeen", "NoNumber", "NothingLeft", "+"]
def kinPick (bs : List Bool) (n : Nat) : List Str := ((List.range n).filter fun i => bs.getD i false).map fun i => kinNames.getD i ""
def kinWord (bs : List Bool) : Str := PySem.Txt.join "" (kinPick bs 10)
theorem pick_next {bs : List Bool} {n : Nat} : kinPick bs (n + 1) = kinPick bs n ++ (if bs.getD n false = true then [kinNames.getD n ""] else []) := by
  unfold kinPick
  rw [List.range_succ, List.filter_append, List.map_append]
  congr 1
  rw [List.filter_cons]
  split <;> rfl
theorem pick_len {bs : List Bool} : ∀ n, (kinPick bs n).length ≤ n
  | 0 => Nat.le_refl 0
  | n + 1 => by
    have h := pick_len (bs := bs) n
    rw [pick_next, List.length_append]
    split
    · show _ + 1 ≤ _
      omega
    · show _ + 0 ≤ _
      omega
theorem name_len (i : Nat) : (kinNames.getD i "").length ≤ 11 := by
  match i with
  | 0 | 1 | 2 | 3 | 4 | 5 | 6 | 7 | 8 | 9 => decide +kernel
  | n + 10 => exact Nat.zero_le _
theorem pick_sum {bs : List Bool} : ∀ n, ((kinPick bs n).map (·.length)).sum ≤ 11 * n
  | 0 => Nat.le_refl 0
  | n + 1 => by
    have h := pick_sum (bs := bs) n
    have l := name_len n
    rw [pick_next, List.map_append, List.sum_append]
    split
    · simp only [List.map_cons, List.map_nil, List.sum_cons, List.sum_nil]
      omega
    · simp only [List.map_nil, List.sum_nil]
      omega
theorem walk_zipThere {K : PySem.W.Frag} {a b : Addr} {xs ys : List V} {n : Nat} (hx : xs.length = n) (hy : ys.length = n) : Walk (ItzH K a b) n (fun H => SqL K H a xs ∧ SqL K H b ys) (YPair (fun i => xs[i]?) (fun i => ys[i]?)) where
  goes := fun i H hi both => ⟨_, _, xs[i]'(by omega), ys[i]'(by omega), both.1, both.2, List.getElem?_eq_getElem _, List.getElem?_eq_getElem _⟩
  stops := fun H both => ⟨_, _, both.1, both.2, by omega⟩
  yields := fun i H v H' _ both ⟨t, x, y, ev, nt, eh, fx, fy⟩ => ⟨t, x, y, ev, nt, eh, fx _ both.1, fy _ both.2⟩
section
variable {P : Program} {w : World} {K : PySem.W.Frag} {mg : Str → Option Value} {base : Heap}
theorem kin_walk {Hs : Hp} {D l6 l5 : Addr} {bs : List Bool} {e : V} {Nx : Hp → Prop} (hD : Hs D = none) (q1 : SqL K Hs l6 (kinNames.map V.str)) (q2 : SqL K Hs l5 (bs.map V.bl)) (lb : bs.length = 10) (done : ∀ H', Ex Hs H' → H' D = some (.lst ((kinPick bs 10).map V.str)) → Nx H') :
    rTurns (ItzH K l6 l5) (gTup K 2 (gCons (gName 3) (gCons (gName 4) gNil))) (tB (tVar 4)) (rEnd (tVar 3)) [3, 4] D [some e, some (.ref l5), some (.ref l6), none, none] (upd Hs D (.lst [])) Nx := by
  refine walk_in (walk_zipThere (K := K) (a := l6) (b := l5) (xs := kinNames.map V.str) (ys := bs.map V.bl) (n := 10) rfl (by rw [List.length_map]; exact lb)) (body := fun x H' N => rTurn _ _ _ _ D _ x H' N) (fun i H' => Ex Hs H' ∧ H' D = some (.lst ((kinPick bs i).map V.str))) ⟨Ex.new hD, upd_same⟩ (fun i H' _ c => ⟨ex_l c.1 q1, ex_l c.1 q2⟩) ?_ fun H' c => done H' c.1 c.2
  rintro i v H1 H2 hi ⟨ex, at_⟩ ⟨t, x, y, rfl, nt, rfl, ex1, ey1⟩
  have ex1 : (kinNames.map V.str)[i]? = some x := ex1
  have ey1 : (bs.map V.bl)[i]? = some y := ey1
  rw [List.getElem?_map] at ex1 ey1
  obtain ⟨nm, en, rfl⟩ := Option.map_eq_some_iff.mp ex1
  obtain ⟨b, eb, rfl⟩ := Option.map_eq_some_iff.mp ey1
  have gb : bs.getD i false = b := by rw [List.getD_eq_getElem?_getD, eb]; rfl
  have gn : kinNames.getD i "" = nm := by rw [List.getD_eq_getElem?_getD, en]; rfl
  have et : Ex H1 (upd H1 t (.tup [.str nm, .bl b])) := Ex.new nt
  refine ⟨t, _, rfl, st_of upd_same, rfl, _, _, rfl, _, _, rfl, rfl, rfl, _, rfl, _, rfl, ?_⟩
  rw [pick_next, gb, gn]
  cases b with
  | true =>
    have len := pick_len (bs := bs) i
    refine ⟨_, rfl, _, et _ _ at_, ?_, Ex.mut (ex.trans et) hD, ?_⟩
    · rw [List.length_map]
      exact Nat.lt_of_lt_of_le (show _ < 11 by omega) (by decide)
    · rw [if_pos rfl, List.map_append]
      exact upd_same
  | false =>
    refine ⟨ex.trans et, ?_⟩
    rw [if_neg (fun z => by cases z), List.append_nil]
    exact et _ _ at_
/-- what isinstance answers of an error of the class D -/
structure Kin (T : Txt K mg) (D : Addr) (b0 b1 b2 b3 b4 b5 b6 b7 b8 b9 : Bool) : Prop where
  is : L2.ExcC K D
  k0 : PySem.W.kitOne K (.ref D) (.ref T.C_NoLand) = some b0
  k1 : PySem.W.kitOne K (.ref D) (.ref T.C_NoYear) = some b1
  k2 : PySem.W.kitOne K (.ref D) (.ref T.C_NoDay) = some b2
  k3 : PySem.W.kitOne K (.ref D) (.ref T.C_NoPlace) = some b3
  k4 : PySem.W.kitOne K (.ref D) (.ref T.C_NoWeek) = some b4
  k5 : PySem.W.kitOne K (.ref D) (.ref T.C_NoName) = some b5
  k6 : PySem.W.kitOne K (.ref D) (.ref T.C_NoSeen) = some b6
  k7 : PySem.W.kitOne K (.ref D) (.ref T.C_NoNumber) = some b7
  k8 : PySem.W.kitOne K (.ref D) (.ref T.C_NothingLeft) = some b8
  k9 : PySem.W.kitOne K (.ref D) (.type "ValueError") = some b9
theorem is_hot {N : List Str} {qual : Str} {scope : Scope} {f : Addr} {cd : Value} {A : Around} {outer : List Env} {s : Shared} {H : Hp} {E : XK} {D : Addr} {p : Addr × Obj} (C : L2.ExcC K D) (hot : L2H.Hot1 A p) (z : L2.Zc (.ref D) none p.2) :
    CallR (L2H.cxH CX0 P w K mg base N qual scope f cd A outer s H E p).nox (.builtin "isinstance") (rIsE K D p.1) := by
  have same : (L2H.cxH CX0 P w K mg base N qual scope f cd A outer s H E p).nox = (cxOf CX0 P w K mg base N qual scope f cd A outer s H E).suite p.1 [p] := by
    have m : (A.deeper (envOfC qual scope s.heap.objs.size f cd)).mark (some (.ref p.1)) = A.deeper (envOfC qual scope s.heap.objs.size f cd) := mark_same hot.1
    show Cx.mk _ _ _ _ _ _ _ _ _ _ _ _ _ _ _ _ _ = Cx.mk _ _ _ _ _ _ _ _ _ _ _ _ _ _ _ _ _
    congr 1
    exact m.symm
  rw [same]
  obtain ⟨_, vs, d, _⟩ := hot
  exact call_isE (X := cxOf CX0 P w K mg base N qual scope f cd A outer s H E) C z ⟨vs, d⟩
theorem kin_runs (T : Txt K mg) {D : Addr} {b0 b1 b2 b3 b4 b5 b6 b7 b8 b9 : Bool} (C : Kin T D b0 b1 b2 b3 b4 b5 b6 b7 b8 b9) {cdv : Value} {A : Around} {outer : List Env} {s : Shared} {H : Hp} {Q : VK} {p : Addr × Obj} (hot : L2H.Hot1 A p) (z : L2.Zc (.ref D) none p.2)
    (q : RetV (.str (kinWord [b0, b1, b2, b3, b4, b5, b6, b7, b8, b9])) H Q) :
    ∃ t, PSs (L2H.cxH CX0 P w K mg base ["e", "kinds_met", "names", "name", "good"] "_law_kin" (defScope s__law_kin) T._law_kin.f cdv A outer s H E0 p) (defBody s__law_kin) t ∧ t { nx := fun _ H' => Q .non H', rt := Q } (L2.start ["e", "kinds_met", "names", "name", "good"] [.ref p.1]) H := by
  have isE := is_hot (P := P) (w := w) (mg := mg) (base := base) (N := ["e", "kinds_met", "names", "name", "good"]) (qual := "_law_kin") (scope := defScope s__law_kin) (f := T._law_kin.f) (cd := cdv) (outer := outer) (s := s) (H := H) (E := E0) C.is hot z
  have hc : L2H.HotC (L2H.cxH CX0 P w K mg base ["e", "kinds_met", "names", "name", "good"] "_law_kin" (defScope s__law_kin) T._law_kin.f cdv A outer s H E0 p).nox := ⟨p, hot, List.mem_cons_self ..⟩
  refine ⟨_, PSs.nox (pss_cons (ps_set (i := 1) sc__law_kin.nd rfl (Or.inl rfl) (pe_lst (pa_cons (pe_callB isE (by rfl) T.isinstance (by decide +kernel) (pa_cons (pv 0) (pa_cons (pe_glob (v := .ref T.C_NoLand) rfl T.g_NoLand rfl) pa_nil))) (pa_cons (pe_callB isE (by rfl) T.isinstance (by decide +kernel) (pa_cons (pv 0) (pa_cons (pe_glob (v := .ref T.C_NoYear) rfl T.g_NoYear rfl) pa_nil))) (pa_cons (pe_callB isE (by rfl) T.isinstance (by decide +kernel) (pa_cons (pv 0) (pa_cons (pe_glob (v := .ref T.C_NoDay) rfl T.g_NoDay rfl) pa_nil))) (pa_cons (pe_callB isE (by rfl) T.isinstance (by decide +kernel) (pa_cons (pv 0) (pa_cons (pe_glob (v := .ref T.C_NoPlace) rfl T.g_NoPlace rfl) pa_nil))) pa_nil))))))
      (pss_cons (ps_set (i := 1) sc__law_kin.nd rfl (Or.inl rfl) (pe_op op_cat (pv 1) (pe_lst (pa_cons (pe_callB isE (by rfl) T.isinstance (by decide +kernel) (pa_cons (pv 0) (pa_cons (pe_glob (v := .ref T.C_NoWeek) rfl T.g_NoWeek rfl) pa_nil))) (pa_cons (pe_callB isE (by rfl) T.isinstance (by decide +kernel) (pa_cons (pv 0) (pa_cons (pe_glob (v := .ref T.C_NoName) rfl T.g_NoName rfl) pa_nil))) (pa_cons (pe_callB isE (by rfl) T.isinstance (by decide +kernel) (pa_cons (pv 0) (pa_cons (pe_glob (v := .ref T.C_NoSeen) rfl T.g_NoSeen rfl) pa_nil))) pa_nil))))))
      (pss_cons (ps_set (i := 1) sc__law_kin.nd rfl (Or.inl rfl) (pe_op op_cat (pv 1) (pe_lst (pa_cons (pe_callB isE (by rfl) T.isinstance (by decide +kernel) (pa_cons (pv 0) (pa_cons (pe_glob (v := .ref T.C_NoNumber) rfl T.g_NoNumber rfl) pa_nil))) (pa_cons (pe_callB isE (by rfl) T.isinstance (by decide +kernel) (pa_cons (pv 0) (pa_cons (pe_glob (v := .ref T.C_NothingLeft) rfl T.g_NothingLeft rfl) pa_nil))) (pa_cons (pe_callB isE (by rfl) T.isinstance (by decide +kernel) (pa_cons (pv 0) (pa_cons (pe_bltn (v := .ty "ValueError") (by rfl) T.ValueError (by decide +kernel) rfl) pa_nil))) pa_nil))))))
      (pss_cons (ps_set (i := 2) sc__law_kin.nd rfl (Or.inl rfl) (pe_lst (pa_cons pe_str (pa_cons pe_str (pa_cons pe_str (pa_cons pe_str (pa_cons pe_str (pa_cons pe_str (pa_cons pe_str (pa_cons pe_str (pa_cons pe_str (pa_cons pe_str pa_nil))))))))))))
      (pss_one (ps_ret (pe_bm PySem.F.plainAttrs_str PySem.F.slot_str_join PySem.F.type_str_join mt_join pe_str (pa_cons (pe_deep (own := [("name", 3), ("good", 4)]) (g := gTup K 2 (gCons (gName 3) (gCons (gName 4) gNil))) (vs1 := []) sc__law_kin.nd (brings_hot ⟨p, hot, List.mem_cons_self ..⟩ (pi_zipH (by rfl) T.zip (pa_cons (pv 2) (pa_cons (pv 1) pa_nil)))) (blkOk_by (own := [("name", 3), ("good", 4)]) (N := ["e", "kinds_met", "names", "name", "good"]) (sc := defScope s__law_kin) (by decide +kernel)) (fun _ _ _ _ _ => (pg_tupH (show L2H.HotC _ from ⟨p, hot, List.mem_cons_self ..⟩) (pgs_cons (pg_name (i := 3) sc__law_kin.nd rfl (Or.inl rfl)) (pgs_cons (pg_name (i := 4) sc__law_kin.nd rfl (Or.inl rfl)) pgs_nil)))) (fun _ _ _ _ _ => (pts_one (pt_val (pv 4)))) (fun _ _ _ _ _ => (rest_end rfl rfl (pv 3))) (by decide) (fun _ e => by cases e)) pa_nil)))))))), ?_⟩
  refine ⟨_, rfl, _, _, _, rfl, fun _ e => e, C.k0, _, rfl, _, _, _, rfl, fun _ e => e, C.k1, _, rfl, _, _, _, rfl, fun _ e => e, C.k2, _, rfl, _, _, _, rfl, fun _ e => e, C.k3, by show 4 ≤ sizeLine; decide, fun l1 n1 => ?_⟩
  have h1 : upd H l1 (.lst ([b0, b1, b2, b3].map V.bl)) l1 = some (.lst ([b0, b1, b2, b3].map V.bl)) := upd_same
  have e1 : Ex H (upd H l1 (.lst ([b0, b1, b2, b3].map V.bl))) := Ex.new n1
  refine ⟨_, rfl, _, rfl, _, _, _, rfl, fun _ e => e, C.k4, _, rfl, _, _, _, rfl, fun _ e => e, C.k5, _, rfl, _, _, _, rfl, fun _ e => e, C.k6, by show 3 ≤ sizeLine; decide, fun l2 n2 => ?_⟩
  refine ⟨l1, l2, _, _, rfl, rfl, Ex.new n2 _ _ h1, upd_same, by show 4 + 3 ≤ sizeLine; decide, fun l3 n3 => ?_⟩
  have e2 := e1.trans (Ex.new n2 (o := .lst ([b4, b5, b6].map V.bl)))
  have e3 := e2.trans (Ex.new n3 (o := .lst ([b0, b1, b2, b3, b4, b5, b6].map V.bl)))
  refine ⟨_, rfl, _, rfl, _, _, _, rfl, fun _ e => e, C.k7, _, rfl, _, _, _, rfl, fun _ e => e, C.k8, _, rfl, _, _, _, rfl, fun _ e => e, C.k9, by show 3 ≤ sizeLine; decide, fun l4 n4 => ?_⟩
  refine ⟨l3, l4, _, _, rfl, rfl, Ex.new n4 _ _ upd_same, upd_same, by show 7 + 3 ≤ sizeLine; decide, fun l5 n5 => ?_⟩
  have e4 := e3.trans (Ex.new n4 (o := .lst ([b7, b8, b9].map V.bl)))
  have e5 := e4.trans (Ex.new n5 (o := .lst ([b0, b1, b2, b3, b4, b5, b6, b7, b8, b9].map V.bl)))
  refine ⟨by show 10 ≤ sizeLine; decide, fun l6 n6 => ?_⟩
  have e6 := e5.trans (Ex.new n6 (o := .lst (kinNames.map V.str)))
  refine ⟨rfl, _, rfl, _, rfl, l6, l5, kinNames.map V.str, [b0, b1, b2, b3, b4, b5, b6, b7, b8, b9].map V.bl, rfl, sq_of upd_same, sq_of (Ex.new n6 _ _ upd_same), fun D hD => ?_⟩
  refine kin_walk (bs := [b0, b1, b2, b3, b4, b5, b6, b7, b8, b9]) hD (sq_of upd_same) (sq_of (Ex.new n6 _ _ upd_same)) rfl fun H' ex at_ => ?_
  have size := pick_sum (bs := [b0, b1, b2, b3, b4, b5, b6, b7, b8, b9]) 10
  refine ⟨"", D, _, rfl, rfl, .inl (sq_of at_), ?_, q H' (e6.trans ex)⟩
  show _ + _ * 0 ≤ _
  omega
end

/-! ### a lambda handed to the def that tries it -/
theorem takes_none {X : Cx} : L2N.Takes X (fun _ _ _ _ => False) := fun _ _ ⟨_, _, _, _, _, _, _, _, _, _, _, _, _, _, _, _, no⟩ => no.elim
section
variable {K : PySem.W.Frag} {mg : Str → Option Value}
/-- what is made of an error of the lambda: its kinds, told -/
def Caught (T : Txt K mg) (Q : VK) : XK := fun cls d H => ∃ D b0 b1 b2 b3 b4 b5 b6 b7 b8 b9, cls = .ref D ∧ d = none ∧ PySem.W.exmOne K (.ref D) (.ref T.C_YearError) = some true ∧ Kin T D b0 b1 b2 b3 b4 b5 b6 b7 b8 b9 ∧ RetV (.str (kinWord [b0, b1, b2, b3, b4, b5, b6, b7, b8, b9])) H Q
/-- what is made of what it gives: a pair -/
def Given (Q : VK) : VK := fun v H => ∀ t, H t = none → Q (.ref t) (upd H t (.tup [.str "told", v]))
theorem try_runs {X : Cx} {n : Nat} (T : Txt X.K X.mg) {pins : List (Addr × Obj)} {σ : L2.St} {H : Hp} {s : Shared} {params : Arguments} {body : Expr} {scope : Scope} {f c : Addr} {tb : XK → TE} {cdv : Value} {Q : VK} (I : Inv X pins σ H s) (L : LamX.LamS X.env.scope scope) (at_ : LamAt X s H params body scope f c)
    (none_ : ∀ (q : Str) (cl : List (Str × Addr)) (pm cv ctv : Value), bindArgs (PySem.W.kla_fn "<lambda>" q params body scope cl pm cv ctv) ⟨[], []⟩ = pure [])
    (runs : ∀ (A : Around) (outer : List Env) (sZ : Shared) (HZ : Hp) (E : XK), Room n (A.deeper (LamX.lamEnv X scope sZ.heap.objs.size f c)) → PE (lamN X A outer sZ HZ E scope f c) body (tb E))
    (hr : Room (n + 1) (X.A.deeper (envOfC "_law_try" (defScope s__law_try) s.heap.objs.size T._law_try.f cdv))) (h : ∀ (E : XK) (Q' : VK), (∀ cls d H', Caught T Q cls d H' → E cls d H') → (∀ v H', Given Q v H' → Q' v H') → tb E σ H Q') :
    ∃ t, PSs (cxOf CX0 X.prog X.w X.K X.mg X.base ["door", "found", "e"] "_law_try" (defScope s__law_try) T._law_try.f cdv X.A X.stack s H E0) (defBody s__law_try) t ∧ t { nx := fun _ H' => Q .non H', rt := Q } (L2.start ["door", "found", "e"] [.ref f]) H := by
  refine ⟨_, PSs.nox (pss_cons (ps_set (i := 1) sc__law_try.nd rfl (Or.inl rfl) pe_non) (pss_cons (L2N.ps_try_as (i := 2) rfl rfl sc__law_try.nd rfl rfl ⟨rfl, by decide, .inl T.g_YearError⟩ takes_none
    (fun W pn xe tk _ => pss_one (ps_set (i := 1) sc__law_try.nd rfl (Or.inl rfl) (pe_tup (pa_cons pe_str (pa_cons (pe_door I L at_ none_ ⟨rfl, rfl, rfl, rfl, rfl⟩ ⟨rfl, rfl, rfl, rfl⟩ rfl ?room tk (fun sZ HZ E => runs _ _ sZ HZ E (hr.deeper _)) (i := 0) rfl (.inl rfl)) pa_nil)))))
    (fun a oe cls d pn zn fl => pss_one (ps_set (i := 1) sc__law_try.nd rfl (Or.inl rfl) (show PE _ _ (fun σ H Q => σ[2]? = some (some (V.ref a)) ∧ Caught T Q cls d H) from pe_told (Y := (cxOf CX0 X.prog X.w X.K X.mg X.base ["door", "found", "e"] "_law_try" (defScope s__law_try) T._law_try.f cdv X.A X.stack s H E0).nox.suite a ((a, oe) :: pn)) (e := "e") (p := (a, oe)) (k := 0) (i := 2) (R := fun H Q => Caught T Q cls d H) T._law_kin.F sc__law_kin T._law_kin.b ?hot (List.mem_cons_self ..) ?roomH rfl T._law_kin.g rfl (.inl rfl) ?kin)))) (pss_one (ps_ret (pv 1))))), ?rd⟩
  case room => exact (L2H.roomH_of hr).depth
  case hot =>
    obtain ⟨vs, ev⟩ := fl
    exact ⟨rfl, vs, ev, zn.2.2 vs ev⟩
  case roomH =>
    have r := (L2H.roomH_of hr).mono (show 0 + 1 ≤ n + 1 by omega)
    exact ⟨r.dp, r.un⟩
  case kin =>
    rintro cd A outer s' H' Q' hot _ ⟨D, b0, b1, b2, b3, b4, b5, b6, b7, b8, b9, rfl, rfl, _, kin, q⟩
    exact kin_runs T kin hot zn.zc q
  case rd =>
    refine ⟨rfl, at_.code, h _ _ (fun cls d H' ⟨D, b0, b1, b2, b3, b4, b5, b6, b7, b8, b9, e1, e2, em, kin, q⟩ => ?_) fun v H' g => ⟨by show 2 ≤ sizeLine; decide, fun t nt => ⟨_, rfl, g t nt⟩⟩⟩
    subst e1 e2
    exact ⟨true, em, fun _ a na => ⟨rfl, D, b0, b1, b2, b3, b4, b5, b6, b7, b8, b9, rfl, rfl, em, kin, fun H1 x1 => ⟨_, rfl, q H1 x1⟩⟩, fun z => by cases z⟩
theorem pe_try {X : Cx} {n : Nat} (T : Txt X.K X.mg) {params : Arguments} {body : Expr} {scope : Scope} {c P : Addr} {tb : XK → TE} {q lpos pos : Pos} (hg : Gl X "_law_try") (TB : LamX.TabB X.base X.mg c P) (hcode : X.env.code = .ref c) (hr : Room (n + 2) X.A) (L : LamX.LamS X.env.scope scope)
    (hdef : defaultsOf params X.env = ([], [])) (none_ : ∀ (q : Str) (cl : List (Str × Addr)) (pm cv ctv : Value), bindArgs (PySem.W.kla_fn "<lambda>" q params body scope cl pm cv ctv) ⟨[], []⟩ = pure [])
    (runs : ∀ (f c' : Addr) (A : Around) (outer : List Env) (sZ : Shared) (HZ : Hp) (E : XK), Room n (A.deeper (LamX.lamEnv X scope sZ.heap.objs.size f c')) → PE (lamN X A outer sZ HZ E scope f c') body (tb E)) :
    PE X (.Call (.Name "_law_try" q) [.Lambda params body scope lpos] [] pos) (fun σ H Q => LamX.TabS H P (X.env.qual ++ "<lambda>") ∧ ∀ H1, LamX.ExtN H H1 → LamX.TabS H1 P (X.env.qual ++ "<lambda>") → ∀ (E : XK) (Q' : VK), (∀ cls d H', Caught T Q cls d H' → E cls d H') → (∀ v H', Given Q v H' → Q' v H') → tb E σ H1 Q') := by
  refine ⟨fun pins s σ H Q I ⟨tab, h⟩ => wpAny_Call_Name_kw (ld_glob I hg T._law_try.g ?_)⟩
  have all : ∀ {H' : Hp}, LamX.TabS H' P (X.env.qual ++ "<lambda>") → LamX.Tabs [(P, X.env.qual ++ "<lambda>")] H' := fun t p hp => by
    cases List.mem_singleton.mp hp
    exact t
  refine PySem.W.callWith_K (h₀ := X.base) I.ok.mod.kin T._law_try.F.kp (args_cons (LamX.lam_make2 I TB hcode (List.mem_cons_self ..) (fun p hp _ => by cases List.mem_singleton.mp hp; rfl) (all tab) hdef (L.has I.ok) fun f c' pm ctv H1 s1 I1 ext tabs made out nofr code => args_nil ⟨I1.kIn, ?_⟩))
  obtain ⟨oc, od, kV, doc, pm', an, cdv, ct, osl, e, lk, cd⟩ := T._law_try.F.ex
  have bound := T._law_try.b s1 [.ref f] I1.kIn rfl
  rw [e] at bound lk
  refine wpAny_call (codeAny_mono (LamX.run_ofS (CX := CX0) (E := E0) (Q := Q) lk cd sc__law_try hr I1.env0 bound (vs := [.ref f]) (.cons rfl .nil) rfl fun hr1 => try_runs T I1 L ⟨⟨pm, ctv, made⟩, out, nofr, code⟩ none_ (runs f c') hr1 (h H1 ext (tabs _ (List.mem_cons_self ..)))) fun r t z => ?_)
  match r, z with
  | .ok (.ret u), z => exact I1.after z
  | .error x, z => exact (z : False).elim
end

/-! ### things: plain data by kinds -/
inductive Kd where
  | non | bl | int | str | lst | tup
def Kd.nm : Kd → String
  | .non => "NoneType" | .bl => "bool" | .int => "int" | .str => "str" | .lst => "list" | .tup => "tuple"
inductive Dat (H : Hp) : V → Kd → Prop where
  | non : Dat H .non .non
  | bl (b : Bool) : Dat H (.bl b) .bl
  | int (i : Int) : Dat H (.int i) .int
  | str (x : Str) : Dat H (.str x) .str
  | lst {a : Addr} {xs : List V} (h : H a = some (.lst xs)) : Dat H (.ref a) .lst
  | tup {a : Addr} {xs : List V} (h : H a = some (.tup xs)) : Dat H (.ref a) .tup
theorem Dat.ty {K : PySem.W.Frag} {H : Hp} {x : V} {t : Kd} (d : Dat H x t) : TyX K H x (.type t.nm) := by
  cases d with
  | non => exact .base .non
  | bl b => exact .base (.bl b)
  | int i => exact .base (.int i)
  | str x => exact .base (.str x)
  | lst h => exact .base (.lst h)
  | tup h => exact .base (.tup h)
theorem Dat.ex {H H' : Hp} {x : V} {t : Kd} (e : Ex H H') (d : Dat H x t) : Dat H' x t := by
  cases d with
  | non => exact .non
  | bl b => exact .bl b
  | int i => exact .int i
  | str x => exact .str x
  | lst h => exact .lst (e _ _ h)
  | tup h => exact .tup (e _ _ h)
/-- isinstance among these kinds -/
def Kd.isa : Kd → Kd → Bool
  | .non, .non => true | .bl, .bl => true | .bl, .int => true | .int, .int => true | .str, .str => true | .lst, .lst => true | .tup, .tup => true
  | _, _ => false
theorem kit_kd {K : PySem.W.Frag} (a b : Kd) (hb : b.nm ≠ "NoneType") : PySem.W.kitOne K (.type a.nm) (.type b.nm) = some (a.isa b) := by
  cases b
  case non => exact absurd rfl hb
  all_goals cases a <;> exact kit_ty (by decide +kernel)
def wholeV : V → Bool
  | .int _ => true
  | _ => false
def btw (x : V) (lo hi : Int) : Bool := match x with
  | .int i => decide (lo ≤ i) && decide (i ≤ hi)
  | _ => false
section
variable {P : Program} {w : World} {K : PySem.W.Frag} {mg : Str → Option Value} {base : Heap}
def spWhole : Sp := fun vs H Q _ => ∃ x t, vs = [x] ∧ Dat H x t ∧ RetV (.bl (wholeV x)) H Q
theorem ok_is_whole (T : Txt K mg) {k : Nat} : FnOk P w K mg base CX0 (k + 1) T.is_whole.f T.is_whole.fd ["thing"] spWhole := by
  refine T.is_whole.F.ok sc_is_whole (fun vs H Q E h => ?_) (fun cdv A outer s H vs Q E hr h => ?_)
  · obtain ⟨x, t, rfl, _⟩ := h
    rfl
  · obtain ⟨x, t, rfl, d, q⟩ := h
    have q0 := q H (Ex.refl H)
    refine ⟨_, (pss_one (ps_ret (pe_and (pe_callB call_isi (by rfl) T.isinstance (by decide +kernel) (pa_cons (pv 0) (pa_cons (pe_bltn (v := .ty "int") (by rfl) T.b_int (by decide +kernel) rfl) pa_nil))) (pe_one (pe_not (pe_callB call_isi (by rfl) T.isinstance (by decide +kernel) (pa_cons (pv 0) (pa_cons (pe_bltn (v := .ty "bool") (by rfl) T.b_bool (by decide +kernel) rfl) pa_nil)))))))), ?_⟩
    refine ⟨_, rfl, _, _, _, _, _, rfl, .ty _, d.ty, kit_kd t .int (by decide), _, rfl, ?_⟩
    cases d
    case non => exact iteF q0
    case str => exact iteF q0
    case lst => exact iteF q0
    case tup => exact iteF q0
    case bl b => exact iteT ⟨_, rfl, _, _, _, _, _, rfl, .ty _, Dat.ty (.bl b), kit_kd .bl .bl (by decide), _, rfl, q0⟩
    case int i => exact iteT ⟨_, rfl, _, _, _, _, _, rfl, .ty _, Dat.ty (.int i), kit_kd .int .bl (by decide), _, rfl, q0⟩
def spBetween : Sp := fun vs H Q _ => ∃ x t lo hi, vs = [x, .int lo, .int hi] ∧ Dat H x t ∧ RetV (.bl (btw x lo hi)) H Q
theorem ok_is_between (T : Txt K mg) : FnOk P w K mg base CX0 2 T.is_between.f T.is_between.fd ["thing", "least", "most"] spBetween := by
  have G_is_whole : FnOk P w K mg base CX0 1 T.is_whole.f T.is_whole.fd ["thing"] spWhole := ok_is_whole T
  refine T.is_between.F.ok sc_is_between (fun vs H Q E h => ?_) (fun cdv A outer s H vs Q E hr h => ?_)
  · obtain ⟨x, t, lo, hi, rfl, _⟩ := h
    rfl
  · obtain ⟨x, t, lo, hi, rfl, d, q⟩ := h
    refine ⟨_, (pss_one (ps_ret (pe_and (pe_call G_is_whole (hr.mono (by omega)) (by rfl) T.is_whole.g T.is_whole.F.kp T.is_whole.b .nil pass0 (pa_cons (pv 0) pa_nil)) (pe_one (pe_chain op_le op_le (pv 1) (pv 0) (pv 2)))))), ?_⟩
    refine ⟨_, rfl, x, t, rfl, d, fun H1 e1 => ⟨_, rfl, ?_⟩⟩
    have q1 := q H1 e1
    cases x with
    | int i =>
      refine iteT ⟨_, rfl, _, rfl, _, _, rfl, rfl, _, rfl, ?_⟩
      by_cases h1 : lo ≤ i
      · rw [if_pos (decide_eq_true h1)]
        refine ⟨_, rfl, _, _, rfl, rfl, ?_⟩
        have e : btw (.int i) lo hi = decide (i ≤ hi) := by
          show (decide (lo ≤ i) && decide (i ≤ hi)) = _
          rw [decide_eq_true h1, Bool.true_and]
        rw [e] at q1
        exact q1
      · rw [if_neg (by rw [decide_eq_false h1]; decide)]
        have e : btw (.int i) lo hi = false := by
          show (decide (lo ≤ i) && decide (i ≤ hi)) = _
          rw [decide_eq_false h1, Bool.false_and]
        rw [e] at q1
        exact q1
    | _ => exact iteF q1
end

/-! ### is_land -/
def topB (t b : V) : Bool := match b with
  | .int b' => btw t 0 (b' - 1)
  | _ => false
def landL : List V → Bool
  | [d, t, b, s] => btw d 1 400 && (btw b 1 60 && (topB t b && btw s (-1000000) 1000000))
  | _ => false
def landB (H : Hp) (x : V) : Bool := match x with
  | .ref a => match H a with
    | some (.tup xs) => landL xs
    | _ => false
  | _ => false
theorem landB_tup {H : Hp} {a : Addr} {xs : List V} (h : H a = some (.tup xs)) : landB H (.ref a) = landL xs := by
  show (match H a with | some (.tup xs) => landL xs | _ => false) = _
  rw [h]
theorem landB_lst {H : Hp} {a : Addr} {xs : List V} (h : H a = some (.lst xs)) : landB H (.ref a) = false := by
  show (match H a with | some (.tup xs) => landL xs | _ => false) = _
  rw [h]
/-- all parts of a tuple are plain data -/
def Parts (H : Hp) (x : V) : Prop := ∀ a xs, x = .ref a → H a = some (.tup xs) → ∀ y ∈ xs, ∃ u, Dat H y u
theorem landL_len {xs : List V} (h : xs.length ≠ 4) : landL xs = false := by
  match xs, h with
  | [], _ => rfl
  | [_], _ => rfl
  | [_, _], _ => rfl
  | [_, _, _], _ => rfl
  | [_, _, _, _], h => exact absurd rfl h
  | _ :: _ :: _ :: _ :: _ :: _, _ => rfl
section
variable {P : Program} {w : World} {K : PySem.W.Frag} {mg : Str → Option Value} {base : Heap}
def spIsLand : Sp := fun vs H Q _ => ∃ x t, vs = [x] ∧ Dat H x t ∧ Parts H x ∧ RetV (.bl (landB H x)) H Q
theorem ok_is_land (T : Txt K mg) : FnOk P w K mg base CX0 3 T.is_land.f T.is_land.fd ["thing"] spIsLand := by
  have G_is_between : FnOk P w K mg base CX0 2 T.is_between.f T.is_between.fd ["thing", "least", "most"] spBetween := ok_is_between T
  refine T.is_land.F.ok sc_is_land (fun vs H Q E h => ?_) (fun cdv A outer s H vs Q E hr h => ?_)
  · obtain ⟨x, t, rfl, _⟩ := h
    rfl
  · obtain ⟨x, t, rfl, d, hp, q⟩ := h
    have q0 := q H (Ex.refl H)
    refine ⟨_, (pss_cons (ps_if (PW.pt (pw_or (pt_not (pt_val (pe_callB call_isi (by rfl) T.isinstance (by decide +kernel) (pa_cons (pv 0) (pa_cons (pe_bltn (v := .ty "tuple") (by rfl) T.tuple (by decide +kernel) rfl) pa_nil))))) (pw_or1 (pt_cmpR op_ne (pe_callB call_len_seq (by rfl) T.len (by decide +kernel) (pa_cons (pv 0) pa_nil)) pe_int (nomark _)))))
        (pss_one (ps_ret pe_bl))
        pss_nil)
      (pss_cons (ps_asg (pv 0) (pg_tup rfl (pgs_cons (pg_name (i := 1) sc_is_land.nd rfl (Or.inl rfl)) (pgs_cons (pg_name (i := 2) sc_is_land.nd rfl (Or.inl rfl)) (pgs_cons (pg_name (i := 3) sc_is_land.nd rfl (Or.inl rfl)) (pgs_cons (pg_name (i := 4) sc_is_land.nd rfl (Or.inl rfl)) pgs_nil))))))
      (pss_one (ps_ret (pe_and (pe_call G_is_between (hr.mono (by omega)) (by rfl) T.is_between.g T.is_between.F.kp T.is_between.b .nil pass0 (pa_cons (pv 1) (pa_cons pe_int (pa_cons (pe_glob (v := .int 400) rfl T.c_MOST_DAYS ⟨_, rfl⟩) pa_nil)))) (pe_and (pe_call G_is_between (hr.mono (by omega)) (by rfl) T.is_between.g T.is_between.F.kp T.is_between.b .nil pass0 (pa_cons (pv 3) (pa_cons pe_int (pa_cons (pe_glob (v := .int 60) rfl T.c_MOST_BOTTOM ⟨_, rfl⟩) pa_nil)))) (pe_and (pe_call G_is_between (hr.mono (by omega)) (by rfl) T.is_between.g T.is_between.F.kp T.is_between.b .nil pass0 (pa_cons (pv 2) (pa_cons pe_int (pa_cons (pe_op op_sub (pv 3) pe_int) pa_nil)))) (pe_one (pe_call G_is_between (hr.mono (by omega)) (by rfl) T.is_between.g T.is_between.F.kp T.is_between.b .nil pass0 (pa_cons (pv 4) (pa_cons (pe_un un_neg (pe_glob (v := .int 1000000) rfl T.c_MOST_SHIFT ⟨_, rfl⟩)) (pa_cons (pe_glob (v := .int 1000000) rfl T.c_MOST_SHIFT ⟨_, rfl⟩) pa_nil)))))))))))), ?_⟩
    refine ⟨_, rfl, _, _, _, _, _, rfl, .ty _, d.ty, kit_kd t .tup (by decide), _, rfl, ?_⟩
    cases d
    case non => exact iteT (iteT q0)
    case bl => exact iteT (iteT q0)
    case int => exact iteT (iteT q0)
    case str => exact iteT (iteT q0)
    case lst h =>
      rw [landB_lst h] at q0
      exact iteT (iteT q0)
    case tup a xs h =>
      refine iteF ⟨_, rfl, a, xs, rfl, .inr (st_of h), rfl, _, rfl, ite2 (fun e => ?_) (fun e => ?_)⟩
      · have hl : xs.length ≠ 4 := fun z => by
          rw [z] at e
          exact absurd e (by decide)
        rw [landB_tup h, landL_len hl] at q0
        exact q0
      · have hl : xs.length = 4 := by
          have e2 := Bool.eq_false_iff.mpr e
          have e3 := of_decide_eq_true (by simpa using e2 : decide (V.int (xs.length : Int) = V.int 4) = true)
          have := V.int.inj e3
          omega
        obtain ⟨dd, tt, bb, ss, rfl⟩ : ∃ d t b s, xs = [d, t, b, s] := by
          match xs, hl with
          | [d, t, b, s], _ => exact ⟨d, t, b, s, rfl⟩
        have hd := hp a _ rfl h
        obtain ⟨kd, dd'⟩ := hd dd (by simp)
        obtain ⟨kt, dt'⟩ := hd tt (by simp)
        obtain ⟨kb, db'⟩ := hd bb (by simp)
        obtain ⟨ks, ds'⟩ := hd ss (by simp)
        have q1 : ∀ H1, Ex H H1 → Q (.bl (btw dd 1 400 && (btw bb 1 60 && (topB tt bb && btw ss (-1000000) 1000000)))) H1 := fun H1 e1 => by
          have z := q H1 e1
          rw [landB_tup h] at z
          exact z
        refine ⟨.ref a, rfl, a, _, rfl, st_of h, rfl, dd, _, rfl, tt, _, rfl, bb, _, rfl, ss, _, rfl, rfl, ?_⟩
        refine ⟨dd, rfl, dd, kd, 1, 400, rfl, dd', fun H1 e1 => ⟨_, rfl, ?_⟩⟩
        cases c1 : btw dd 1 400 with
        | false =>
          have z := q1 H1 e1
          rw [c1, Bool.false_and] at z
          exact iteF z
        | true =>
        rw [c1, Bool.true_and] at q1
        refine iteT ⟨bb, rfl, bb, kb, 1, 60, rfl, db'.ex e1, fun H2 e2 => ⟨_, rfl, ?_⟩⟩
        have e12 := e1.trans e2
        cases c2 : btw bb 1 60 with
        | false =>
          have z := q1 H2 e12
          rw [c2, Bool.false_and] at z
          exact iteF z
        | true =>
        rw [c2, Bool.true_and] at q1
        match bb, c2 with
        | .int b', c2 =>
        refine iteT ⟨tt, rfl, .int b', rfl, b', 1, rfl, rfl, tt, kt, 0, b' - 1, rfl, dt'.ex e12, fun H3 e3 => ⟨_, rfl, ?_⟩⟩
        have e123 := e12.trans e3
        cases c3 : btw tt 0 (b' - 1) with
        | false =>
          have z := q1 H3 e123
          rw [show topB tt (V.int b') = btw tt 0 (b' - 1) from rfl, c3, Bool.false_and] at z
          exact iteF z
        | true =>
          refine iteT ⟨ss, rfl, 1000000, rfl, ss, ks, -1000000, 1000000, rfl, ds'.ex e123, fun H4 e4 => ?_⟩
          have z := q1 H4 (e123.trans e4)
          rw [show topB tt (V.int b') = btw tt 0 (b' - 1) from rfl, c3, Bool.true_and] at z
          exact z
end

/-! ### a land at a value -/
def Land (H : Hp) (v : V) (D T B S : Int) : Prop := ∃ a, v = .ref a ∧ H a = some (.tup [.int D, .int T, .int B, .int S]) ∧ (1 ≤ D ∧ D ≤ 400) ∧ (0 ≤ T ∧ T < B) ∧ (1 ≤ B ∧ B ≤ 60) ∧ (-1000000 ≤ S ∧ S ≤ 1000000)
theorem Land.ex {H H' : Hp} {v : V} {D T B S : Int} (e : Ex H H') (h : Land H v D T B S) : Land H' v D T B S := by
  obtain ⟨a, rfl, ha, r⟩ := h
  exact ⟨a, rfl, e _ _ ha, r⟩
theorem btw_yes {i lo hi : Int} (h : lo ≤ i ∧ i ≤ hi) : btw (.int i) lo hi = true := by
  show (decide (lo ≤ i) && decide (i ≤ hi)) = true
  rw [decide_eq_true h.1, decide_eq_true h.2]
  rfl
theorem btw_iff {i lo hi : Int} : btw (.int i) lo hi = true ↔ (lo ≤ i ∧ i ≤ hi) := by
  show (decide (lo ≤ i) && decide (i ≤ hi)) = true ↔ _
  rw [Bool.and_eq_true, decide_eq_true_iff, decide_eq_true_iff]
theorem Land.is {H : Hp} {v : V} {D T B S : Int} (h : Land H v D T B S) : landB H v = true := by
  obtain ⟨a, rfl, ha, r1, r2, r3, r4⟩ := h
  rw [landB_tup ha]
  show (btw (.int D) 1 400 && (btw (.int B) 1 60 && (btw (.int T) 0 (B - 1) && btw (.int S) (-1000000) 1000000))) = true
  rw [btw_yes r1, btw_yes r3, btw_yes ⟨r2.1, by omega⟩, btw_yes r4]
  rfl
theorem Land.parts {H : Hp} {v : V} {D T B S : Int} (h : Land H v D T B S) : Parts H v ∧ Dat H v .tup := by
  obtain ⟨a, rfl, ha, _⟩ := h
  refine ⟨fun b xs e hb y hy => ?_, .tup ha⟩
  cases e
  rw [ha] at hb
  cases hb
  simp only [List.mem_cons, List.not_mem_nil, or_false] at hy
  rcases hy with rfl | rfl | rfl | rfl <;> exact ⟨_, .int _⟩
/-- the day on which a year begins; how many days of these are added -/
def fst (D T B S y : Int) : Int := ((D * B + T) * y + S) / B
def add (T B S y : Int) : Int := (T * y + S) / B
def yr (D T B S n : Int) : Int := ((n + 1) * B - S - 1) / (D * B + T)
theorem cm_l {i j : Int} (h : -1000000000 ≤ i ∧ i ≤ 1000000000) : CMul i j := .inl ⟨by omega, by omega⟩
theorem cm_r {i j : Int} (h : -1000000000 ≤ j ∧ j ≤ 1000000000) : CMul i j := .inr ⟨by omega, by omega⟩
theorem step_bd {D T B : Int} (r1 : 1 ≤ D ∧ D ≤ 400) (r2 : 0 ≤ T ∧ T < B) (r3 : 1 ≤ B ∧ B ≤ 60) : 1 ≤ D * B + T ∧ D * B + T ≤ 24060 := by
  have h1 : D * B ≤ 400 * B := Int.mul_le_mul_of_nonneg_right r1.2 (by omega)
  have h2 : 1 * B ≤ D * B := Int.mul_le_mul_of_nonneg_right r1.1 (by omega)
  omega

section
variable {P : Program} {w : World} {K : PySem.W.Frag} {mg : Str → Option Value} {base : Heap}
def spNeedLand : Sp := fun vs H Q _ => ∃ v D T B S, vs = [v] ∧ Land H v D T B S ∧ RetV .non H Q
theorem ok_need_land (T : Txt K mg) : FnOk P w K mg base CX0 4 T.need_land.f T.need_land.fd ["thing"] spNeedLand := by
  have G_is_land : FnOk P w K mg base CX0 3 T.is_land.f T.is_land.fd ["thing"] spIsLand := ok_is_land T
  refine T.need_land.F.ok sc_need_land (fun vs H Q E h => ?_) (fun cdv A outer s H vs Q E hr h => ?_)
  · obtain ⟨x, _, _, _, _, rfl, _⟩ := h
    rfl
  · obtain ⟨x, d, t, b, sh, rfl, hl, q⟩ := h
    refine ⟨_, (pss_one (ps_if (pt_not (pt_val (pe_call G_is_land (hr.mono (by omega)) (by rfl) T.is_land.g T.is_land.F.kp T.is_land.b .nil pass0 (pa_cons (pv 0) pa_nil))))
        (pss_one ps_never)
        pss_nil)), ?_⟩
    refine ⟨_, rfl, x, _, rfl, hl.parts.2, hl.parts.1, fun H1 e1 => ⟨_, rfl, ?_⟩⟩
    rw [hl.is]
    exact iteF (q H1 e1)
def spNum : Sp := fun vs H Q _ => ∃ i : Int, vs = [.int i] ∧ (-1000000000000000000000000000000 ≤ i ∧ i ≤ 1000000000000000000000000000000) ∧ RetV .non H Q
theorem ok_need_year (T : Txt K mg) : FnOk P w K mg base CX0 3 T.need_year.f T.need_year.fd ["thing"] spNum := by
  have G_is_between : FnOk P w K mg base CX0 2 T.is_between.f T.is_between.fd ["thing", "least", "most"] spBetween := ok_is_between T
  refine T.need_year.F.ok sc_need_year (fun vs H Q E h => ?_) (fun cdv A outer s H vs Q E hr h => ?_)
  · obtain ⟨i, rfl, _⟩ := h
    rfl
  · obtain ⟨i, rfl, hb, q⟩ := h
    refine ⟨_, (pss_one (ps_if (pt_not (pt_val (pe_call G_is_between (hr.mono (by omega)) (by rfl) T.is_between.g T.is_between.F.kp T.is_between.b .nil pass0 (pa_cons (pv 0) (pa_cons (pe_un un_neg (pe_glob (v := .int 1000000000000000000000000000000) rfl T.c_FARTHEST ⟨_, rfl⟩)) (pa_cons (pe_glob (v := .int 1000000000000000000000000000000) rfl T.c_FARTHEST ⟨_, rfl⟩) pa_nil))))))
        (pss_one ps_never)
        pss_nil)), ?_⟩
    refine ⟨_, rfl, _, rfl, _, _, _, _, rfl, .int i, fun H1 e1 => ⟨_, rfl, ?_⟩⟩
    rw [btw_yes hb]
    exact iteF (q H1 e1)

theorem ok_need_day (T : Txt K mg) : FnOk P w K mg base CX0 3 T.need_day.f T.need_day.fd ["thing"] spNum := by
  have G_is_between : FnOk P w K mg base CX0 2 T.is_between.f T.is_between.fd ["thing", "least", "most"] spBetween := ok_is_between T
  refine T.need_day.F.ok sc_need_day (fun vs H Q E h => ?_) (fun cdv A outer s H vs Q E hr h => ?_)
  · obtain ⟨i, rfl, _⟩ := h
    rfl
  · obtain ⟨i, rfl, hb, q⟩ := h
    refine ⟨_, (pss_one (ps_if (pt_not (pt_val (pe_call G_is_between (hr.mono (by omega)) (by rfl) T.is_between.g T.is_between.F.kp T.is_between.b .nil pass0 (pa_cons (pv 0) (pa_cons (pe_un un_neg (pe_glob (v := .int 1000000000000000000000000000000) rfl T.c_FARTHEST ⟨_, rfl⟩)) (pa_cons (pe_glob (v := .int 1000000000000000000000000000000) rfl T.c_FARTHEST ⟨_, rfl⟩) pa_nil))))))
        (pss_one ps_never)
        pss_nil)), ?_⟩
    refine ⟨_, rfl, _, rfl, _, _, _, _, rfl, .int i, fun H1 e1 => ⟨_, rfl, ?_⟩⟩
    rw [btw_yes hb]
    exact iteF (q H1 e1)

def spStep : Sp := fun vs H Q _ => ∃ v D T B S, vs = [v] ∧ Land H v D T B S ∧ RetV (.int (D * B + T)) H Q
theorem ok_step_of (T : Txt K mg) : FnOk P w K mg base CX0 1 T.step_of.f T.step_of.fd ["land"] spStep := by
  refine T.step_of.F.ok sc_step_of (fun vs H Q E h => ?_) (fun cdv A outer s H vs Q E hr h => ?_)
  · obtain ⟨x, _, _, _, _, rfl, _⟩ := h
    rfl
  · obtain ⟨x, D, T', B, S, rfl, ⟨a, rfl, ha, r1, r2, r3, r4⟩, q⟩ := h
    refine ⟨_, (pss_cons (ps_asg (pv 0) (pg_tup rfl (pgs_cons (pg_name (i := 1) sc_step_of.nd rfl (Or.inl rfl)) (pgs_cons (pg_name (i := 2) sc_step_of.nd rfl (Or.inl rfl)) (pgs_cons (pg_name (i := 3) sc_step_of.nd rfl (Or.inl rfl)) (pgs_cons (pg_name (i := 4) sc_step_of.nd rfl (Or.inl rfl)) pgs_nil))))))
      (pss_one (ps_ret (pe_op op_add (pe_op op_mul (pv 1) (pv 3)) (pv 2))))), ?_⟩
    refine ⟨_, rfl, a, _, rfl, st_of ha, rfl, _, _, rfl, _, _, rfl, _, _, rfl, _, _, rfl, rfl, ?_⟩
    exact ⟨_, rfl, _, rfl, _, _, rfl, rfl, cm_l (by omega), _, rfl, _, _, rfl, rfl, q H (Ex.refl H)⟩
def spFirst : Sp := fun vs H Q _ => ∃ v D T B S y, vs = [v, .int y] ∧ Land H v D T B S ∧ RetV (.int (fst D T B S y)) H Q
theorem ok_first_day (T : Txt K mg) : FnOk P w K mg base CX0 2 T.first_day.f T.first_day.fd ["land", "year"] spFirst := by
  have G_step_of : FnOk P w K mg base CX0 1 T.step_of.f T.step_of.fd ["land"] spStep := ok_step_of T
  refine T.first_day.F.ok sc_first_day (fun vs H Q E h => ?_) (fun cdv A outer s H vs Q E hr h => ?_)
  · obtain ⟨x, _, _, _, _, _, rfl, _⟩ := h
    rfl
  · obtain ⟨x, D, T', B, S, y, rfl, hL, q⟩ := h
    obtain ⟨a, rfl, ha, r1, r2, r3, r4⟩ := id hL
    have hs := step_bd r1 r2 r3
    refine ⟨_, (pss_cons (ps_asg (pv 0) (pg_tup rfl (pgs_cons (pg_name (i := 2) sc_first_day.nd rfl (Or.inl rfl)) (pgs_cons (pg_name (i := 3) sc_first_day.nd rfl (Or.inl rfl)) (pgs_cons (pg_name (i := 4) sc_first_day.nd rfl (Or.inl rfl)) (pgs_cons (pg_name (i := 5) sc_first_day.nd rfl (Or.inl rfl)) pgs_nil))))))
      (pss_one (ps_ret (pe_op op_fdiv (pe_op op_add (pe_op op_mul (pe_call G_step_of (hr.mono (by omega)) (by rfl) T.step_of.g T.step_of.F.kp T.step_of.b .nil pass0 (pa_cons (pv 0) pa_nil)) (pv 1)) (pv 5)) (pv 4))))), ?_⟩
    refine ⟨_, rfl, a, _, rfl, st_of ha, rfl, _, _, rfl, _, _, rfl, _, _, rfl, _, _, rfl, rfl, ?_⟩
    refine ⟨_, rfl, _, D, T', B, S, rfl, hL, fun H1 e1 => ?_⟩
    exact ⟨_, rfl, _, _, rfl, rfl, cm_l (by omega), _, rfl, _, _, rfl, rfl, _, rfl, _, _, rfl, rfl, ⟨by omega, by omega⟩, q H1 e1⟩

def spAdded : Sp := fun vs H Q _ => ∃ v D T B S y, vs = [v, .int y] ∧ Land H v D T B S ∧ RetV (.int (add T B S y)) H Q
abbrev Far (i : Int) : Prop := -1000000000000000000000000000000 ≤ i ∧ i ≤ 1000000000000000000000000000000
def spBegin : Sp := fun vs H Q _ => ∃ v D T B S y, vs = [v, .int y] ∧ Land H v D T B S ∧ Far y ∧ RetV (.int (fst D T B S y)) H Q
def spDate : Sp := fun vs H Q _ => ∃ v D T B S n, vs = [v, .int n] ∧ Land H v D T B S ∧ Far n ∧
  ∀ p H2, H p = none → Ex H H2 → H2 p = some (.tup [.int (yr D T B S n), .int (n - fst D T B S (yr D T B S n))]) → Q (.ref p) H2
def spDateOf : Sp := fun vs H Q _ => ∃ v D T B S n, vs = [v, .int n] ∧ Land H v D T B S ∧
  ∀ p H2, H p = none → Ex H H2 → H2 p = some (.tup [.int (yr D T B S n), .int (n - fst D T B S (yr D T B S n))]) → Q (.ref p) H2
theorem ok_date_of (T : Txt K mg) : FnOk P w K mg base CX0 3 T.date_of.f T.date_of.fd ["land", "day"] spDateOf := by
  have G_first_day : FnOk P w K mg base CX0 2 T.first_day.f T.first_day.fd ["land", "year"] spFirst := ok_first_day T
  have G_step_of : FnOk P w K mg base CX0 1 T.step_of.f T.step_of.fd ["land"] spStep := ok_step_of T
  refine T.date_of.F.ok sc_date_of (fun vs H Q E h => ?_) (fun cdv A outer s H vs Q E hr h => ?_)
  · obtain ⟨x, _, _, _, _, _, rfl, _⟩ := h
    rfl
  · obtain ⟨x, D, T', B, S, n, rfl, hL, q⟩ := h
    obtain ⟨a, rfl, ha, r1, r2, r3, r4⟩ := id hL
    have hs := step_bd r1 r2 r3
    refine ⟨_, (pss_cons (ps_asg (pv 0) (pg_tup rfl (pgs_cons (pg_name (i := 2) sc_date_of.nd rfl (Or.inl rfl)) (pgs_cons (pg_name (i := 3) sc_date_of.nd rfl (Or.inl rfl)) (pgs_cons (pg_name (i := 4) sc_date_of.nd rfl (Or.inl rfl)) (pgs_cons (pg_name (i := 5) sc_date_of.nd rfl (Or.inl rfl)) pgs_nil))))))
      (pss_cons (ps_set (i := 6) sc_date_of.nd rfl (Or.inl rfl) (pe_op op_fdiv (pe_op op_sub (pe_op op_sub (pe_op op_mul (pe_op op_add (pv 1) pe_int) (pv 4)) (pv 5)) pe_int) (pe_call G_step_of (hr.mono (by omega)) (by rfl) T.step_of.g T.step_of.F.kp T.step_of.b .nil pass0 (pa_cons (pv 0) pa_nil))))
      (pss_one (ps_ret (pe_tup (pa_cons (pv 6) (pa_cons (pe_op op_sub (pv 1) (pe_call G_first_day (hr.mono (by omega)) (by rfl) T.first_day.g T.first_day.F.kp T.first_day.b .nil pass0 (pa_cons (pv 0) (pa_cons (pv 6) pa_nil)))) pa_nil))))))), ?_⟩
    refine ⟨_, rfl, a, _, rfl, st_of ha, rfl, _, _, rfl, _, _, rfl, _, _, rfl, _, _, rfl, rfl, ?_⟩
    refine ⟨_, rfl, _, _, rfl, rfl, _, rfl, _, _, rfl, rfl, cm_r (by omega), _, rfl, _, _, rfl, rfl, _, _, rfl, rfl, ?_⟩
    refine ⟨_, rfl, _, D, T', B, S, rfl, hL, fun H3 e3 => ?_⟩
    refine ⟨_, _, rfl, rfl, ⟨by omega, by omega⟩, ?_⟩
    refine ⟨_, rfl, _, rfl, _, rfl, _, rfl, _, D, T', B, S, yr D T' B S n, rfl, hL.ex e3, fun H4 e4 => ?_⟩
    exact ⟨_, _, rfl, rfl, by show 2 ≤ sizeLine; decide, fun p hp => q p _ (fresh_back (e3.trans e4) hp) ((e3.trans e4).trans (Ex.new hp)) upd_same⟩
def spIsLong : Sp := fun vs H Q _ => ∃ v D T B S y, vs = [v, .int y] ∧ Land H v D T B S ∧ Far y ∧ RetV (.bl (decide (add T B S (y + 1) > add T B S y))) H Q
end

/-! ### the deck -/
def Dk (n : Nat) (H : Hp) (d : Addr) : Prop := ∃ x y z : Int, H d = some (.lst [.int x, .int y, .int z]) ∧ (0 ≤ y ∧ y < 2147483579) ∧ (0 ≤ z ∧ z ≤ (n : Int))
/-- all but the deck stands as it stood -/
def ExD (d : Addr) (H H' : Hp) : Prop := ∀ a o, a ≠ d → H a = some o → H' a = some o
theorem ExD.refl {d : Addr} {H : Hp} : ExD d H H := fun _ _ _ h => h
theorem ExD.trans {d : Addr} {H H1 H2 : Hp} (a : ExD d H H1) (b : ExD d H1 H2) : ExD d H H2 := fun x o n h => b x o n (a x o n h)
theorem ExD.of {d : Addr} {H H' : Hp} (e : Ex H H') : ExD d H H' := fun a o _ h => e a o h
theorem ExD.upd {d : Addr} {H : Hp} {o : HO} : ExD d H (upd H d o) := fun a u n h => by
  rw [upd_ne n]
  exact h
theorem Dk.ex {n : Nat} {H H' : Hp} {d : Addr} (e : Ex H H') (h : Dk n H d) : Dk n H' d := by
  obtain ⟨x, y, z, hd, r⟩ := h
  exact ⟨x, y, z, e _ _ hd, r⟩
theorem Dk.ne_tup {n : Nat} {H : Hp} {d a : Addr} {xs : List V} (h : Dk n H d) (ha : H a = some (.tup xs)) : a ≠ d := by
  obtain ⟨x, y, z, hd, r⟩ := h
  exact ne_of ha hd (fun z => by cases z)
theorem ExD.tup {n : Nat} {H H' : Hp} {d a : Addr} {xs : List V} (e : ExD d H H') (h : Dk n H d) (ha : H a = some (.tup xs)) : H' a = some (.tup xs) := e _ _ (h.ne_tup ha) ha
theorem ExD.land {n : Nat} {H H' : Hp} {d : Addr} {v : V} {D T B S : Int} (e : ExD d H H') (h : Dk n H d) (hl : Land H v D T B S) : Land H' v D T B S := by
  obtain ⟨a, rfl, ha, r⟩ := hl
  exact ⟨a, rfl, e.tup h ha, r⟩
/-- new addresses are new -/
theorem ExD.fresh {n : Nat} {d : Addr} {H H' : Hp} {p : Addr} (e : ExD d H H') (hd : Dk n H' d) (h : H' p = none) : H p = none := by
  cases q : H p with
  | none => rfl
  | some o =>
    by_cases hp : p = d
    · obtain ⟨x, y, z, h1, _⟩ := hd
      rw [hp, h1] at h
      cases h
    · rw [e _ _ hp q] at h
      cases h
section
variable {P : Program} {w : World} {K : PySem.W.Frag} {mg : Str → Option Value} {base : Heap}
def spDeck : Sp := fun vs H Q _ => ∃ (c : Int) (n : Nat), vs = [.int c, .int n] ∧ ∀ p H2, H p = none → Ex H H2 → Dk n H2 p → Q (.ref p) H2
theorem ok__law_deck (T : Txt K mg) : FnOk P w K mg base CX0 1 T._law_deck.f T._law_deck.fd ["cell", "turn"] spDeck := by
  refine T._law_deck.F.ok sc__law_deck (fun vs H Q E h => ?_) (fun cdv A outer s H vs Q E hr h => ?_)
  · obtain ⟨c, n, rfl, _⟩ := h
    rfl
  · obtain ⟨c, n, rfl, q⟩ := h
    have hm := Int.emod_nonneg c (show (2147483579 : Int) ≠ 0 by decide)
    have hm2 := Int.emod_lt_of_pos c (show (0 : Int) < 2147483579 by decide)
    refine ⟨_, (pss_cons (ps_if (pt_cmpR op_ge (pv 0) (pe_op op_pow pe_int pe_int) (nomark _))
        (pss_one (ps_ret (pe_lst (pa_cons (pe_op op_sub (pv 0) (pe_op op_pow pe_int pe_int)) (pa_cons (pe_op op_mod (pv 0) pe_int) (pa_cons (pv 1) pa_nil))))))
        pss_nil)
      (pss_one (ps_ret (pe_lst (pa_cons pe_int (pa_cons (pe_op op_mod (pv 0) pe_int) (pa_cons (pv 1) pa_nil))))))), ?_⟩
    refine ⟨_, rfl, _, _, rfl, rfl, ⟨by decide, by decide, by decide⟩, _, _, rfl, rfl, _, rfl, ite2 (fun e => ?_) (fun e => ?_)⟩
    · refine ⟨_, rfl, _, _, rfl, rfl, ⟨by decide, by decide, by decide⟩, _, _, rfl, rfl, _, rfl, _, _, rfl, rfl, by show (0 : Int) < 2147483579; decide, _, rfl, by show 3 ≤ sizeLine; decide, fun p hp => ?_⟩
      exact q p _ hp (Ex.new hp) ⟨_, _, _, upd_same, ⟨hm, hm2⟩, by omega, by omega⟩
    · refine ⟨_, rfl, _, _, rfl, rfl, by show (0 : Int) < 2147483579; decide, _, rfl, by show 3 ≤ sizeLine; decide, fun p hp => ?_⟩
      exact q p _ hp (Ex.new hp) ⟨_, _, _, upd_same, ⟨hm, hm2⟩, by omega, by omega⟩
def spPick : Sp := fun vs H Q _ => ∃ (d : Addr) (m : Int) (n : Nat), vs = [.ref d, .int m] ∧ Dk n H d ∧ n < 1000000 ∧ (0 < m ∧ m.natAbs < 2 ^ 100) ∧ ∀ r H', 0 ≤ r → r < m → ExD d H H' → Dk (n + 1) H' d → Q (.int r) H'
theorem ok__law_pick (T : Txt K mg) : FnOk P w K mg base CX0 1 T._law_pick.f T._law_pick.fd ["deck", "size"] spPick := by
  refine T._law_pick.F.ok sc__law_pick (fun vs H Q E h => ?_) (fun cdv A outer s H vs Q E hr h => ?_)
  · obtain ⟨d, m, n, rfl, _⟩ := h
    rfl
  · obtain ⟨d, m, n, rfl, ⟨x, y, z, hd, hy, hz⟩, hn, hm, q⟩ := h
    refine ⟨_, (pss_cons (ps_if (pt_cmpR op_gt (pe_ix ix_list (pv 0) pe_int (fun _ _ => rfl)) pe_int (nomark _))
        (pss_cons (ps_set (i := 2) sc__law_pick.nd rfl (Or.inl rfl) (pe_op op_mod (pe_ix ix_list (pv 0) pe_int (fun _ _ => rfl)) (pv 1)))
      (pss_cons (ps_asg (pe_op op_fdivW (pe_ix ix_list (pv 0) pe_int (fun _ _ => rfl)) (pv 1)) (pg_sub (pv 0) pe_int set_list))
      (pss_one (ps_ret (pv 2)))))
        pss_nil)
      (pss_cons (ps_asg (pe_op op_add (pe_ix ix_list (pv 0) pe_int (fun _ _ => rfl)) pe_int) (pg_sub (pv 0) pe_int set_list))
      (pss_cons (ps_set (i := 3) sc__law_pick.nd rfl (Or.inl rfl) (pe_op op_mod (pe_op op_pow (pe_op op_add (pe_ix ix_list (pv 0) pe_int (fun _ _ => rfl)) (pe_op op_mul pe_int (pe_ix ix_list (pv 0) pe_int (fun _ _ => rfl)))) pe_int) pe_int))
      (pss_cons (ps_set (i := 2) sc__law_pick.nd rfl (Or.inl rfl) (pe_op op_fdiv (pe_op op_mod (pe_op op_pow (pe_op op_add (pv 3) (pe_op op_mul pe_int (pe_ix ix_list (pv 0) pe_int (fun _ _ => rfl)))) pe_int) pe_int) pe_int))
      (pss_one (ps_ret (pe_op op_mod (pv 2) (pv 1)))))))), ?_⟩
    refine ⟨.ref d, rfl, d, _, 0, _, rfl, rfl, sq_of hd, rfl, _, _, rfl, rfl, _, rfl, ite2 (fun e => ?_) (fun e => ?_)⟩
    · refine ⟨.ref d, rfl, d, _, 0, _, rfl, rfl, sq_of hd, rfl, _, rfl, _, _, rfl, rfl, hm.1, ?_⟩
      refine ⟨.ref d, rfl, d, _, 0, _, rfl, rfl, sq_of hd, rfl, _, rfl, _, _, rfl, rfl, wide_div hm.1 hm.2 (by decide) (by decide), ?_⟩
      refine ⟨.ref d, rfl, d, _, _, _, rfl, rfl, hd, rfl, ?_⟩
      refine ⟨_, rfl, ?_⟩
      exact q _ _ (Int.emod_nonneg x (by omega)) (Int.emod_lt_of_pos x hm.1) ExD.upd ⟨_, _, _, upd_same, hy, by omega, by omega⟩
    · refine ⟨.ref d, rfl, d, _, 2, _, rfl, rfl, sq_of hd, rfl, _, _, rfl, rfl, ?_⟩
      refine ⟨.ref d, rfl, d, _, _, _, rfl, rfl, hd, rfl, ?_⟩
      have hd2 : upd H d (.lst ([V.int x, V.int y, V.int z].set 2 (.int (z + 1)))) d = some (.lst [.int x, .int y, .int (z + 1)]) := upd_same
      have hE : ExD d H (upd H d (.lst ([V.int x, V.int y, V.int z].set 2 (.int (z + 1))))) := ExD.upd
      revert hd2 hE
      show ∀ _ _, tSeq _ _ _ _ (upd H d (.lst ([V.int x, V.int y, V.int z].set 2 (.int (z + 1)))))
      generalize upd H d (.lst ([V.int x, V.int y, V.int z].set 2 (.int (z + 1)))) = H2
      intro hd2 hE
      refine ⟨.ref d, rfl, d, _, 1, _, rfl, rfl, sq_of hd2, rfl, .ref d, rfl, d, _, 2, _, rfl, rfl, sq_of hd2, rfl, _, _, rfl, rfl, cm_l (by omega), _, _, rfl, rfl, _, _, rfl, rfl, ⟨by decide, by decide, by omega⟩, _, _, rfl, rfl, by show (0 : Int) < 2147483647; decide, ?_⟩
      have g1 := Int.emod_nonneg ((y + 15485867 * (z + 1)) ^ (5 : Int).toNat) (show (2147483647 : Int) ≠ 0 by decide)
      have g2 := Int.emod_lt_of_pos ((y + 15485867 * (z + 1)) ^ (5 : Int).toNat) (show (0 : Int) < 2147483647 by decide)
      revert g1 g2
      generalize ((y + 15485867 * (z + 1)) ^ (5 : Int).toNat) % 2147483647 = N
      intro g1 g2
      refine ⟨_, rfl, .ref d, rfl, d, _, 2, _, rfl, rfl, sq_of hd2, rfl, _, _, rfl, rfl, cm_l (by omega), _, _, rfl, rfl, _, _, rfl, rfl, ⟨by decide, by decide, by omega⟩, _, _, rfl, rfl, by show (0 : Int) < 2147483629; decide, _, _, rfl, rfl, ⟨by decide, by decide⟩, ?_⟩
      refine ⟨_, rfl, _, rfl, _, _, rfl, rfl, hm.1, ?_⟩
      exact q _ _ (Int.emod_nonneg _ (by omega)) (Int.emod_lt_of_pos _ hm.1) hE ⟨_, _, _, hd2, hy, by omega, by omega⟩
def spOne : Sp := fun vs H Q _ => ∃ (d b : Addr) (xs : List V) (n : Nat), vs = [.ref d, .ref b] ∧ Dk n H d ∧ n < 1000000 ∧ H b = some (.lst xs) ∧ b ≠ d ∧ (0 < xs.length ∧ xs.length ≤ 1000) ∧
  ∀ v H', v ∈ xs → ExD d H H' → Dk (n + 1) H' d → Q v H'
theorem ok__law_one (T : Txt K mg) : FnOk P w K mg base CX0 2 T._law_one.f T._law_one.fd ["deck", "some"] spOne := by
  have G__law_pick : FnOk P w K mg base CX0 1 T._law_pick.f T._law_pick.fd ["deck", "size"] spPick := ok__law_pick T
  refine T._law_one.F.ok sc__law_one (fun vs H Q E h => ?_) (fun cdv A outer s H vs Q E hr h => ?_)
  · obtain ⟨d, m, xs, n, rfl, _⟩ := h
    rfl
  · obtain ⟨d, b, xs, n, rfl, hk, hn, hb, ne, hl, q⟩ := h
    refine ⟨_, (pss_one (ps_ret (pe_ix ix_list (pv 1) (pe_call G__law_pick (hr.mono (by omega)) (by rfl) T._law_pick.g T._law_pick.F.kp T._law_pick.b .nil pass0 (pa_cons (pv 0) (pa_cons (pe_callB call_len_seq (by rfl) T.len (by decide +kernel) (pa_cons (pv 1) pa_nil)) pa_nil))) (fun _ _ => rfl)))), ?_⟩
    refine ⟨_, rfl, _, rfl, _, rfl, b, xs, rfl, .inl (sq_of hb), d, _, n, rfl, hk, hn, ⟨by omega, by omega⟩, fun r H1 h0 h1 e1 k1 => ?_⟩
    have hr : r.toNat < xs.length := by omega
    refine ⟨b, xs, r, xs[r.toNat], rfl, rfl, sq_of (e1 _ _ ne hb), ?_, q _ _ (List.getElem_mem hr) e1 k1⟩
    exact at_of (j := r.toNat) (by omega) (List.getElem?_eq_getElem hr)
end

/-! ### drawn lands, far numbers -/
section
variable {P : Program} {w : World} {K : PySem.W.Frag} {mg : Str → Option Value} {base : Heap}
def spDraw : Sp := fun vs H Q _ => ∃ (d : Addr) (L M N : Int) (n : Nat), vs = [.ref d, .int L, .int M, .int N] ∧ Dk n H d ∧ n < 900000 ∧ (1 ≤ L ∧ L ≤ 400) ∧ (1 ≤ M ∧ M ≤ 60) ∧ (0 ≤ N ∧ N ≤ 1000000) ∧
  ∀ v H' D T B S, Land H' v D T B S → D ≤ L → B ≤ M → -N ≤ S → S ≤ N → ExD d H H' → Dk (n + 4) H' d → Q v H'
theorem ok__law_land (T : Txt K mg) : FnOk P w K mg base CX0 2 T._law_land.f T._law_land.fd ["deck", "long_so", "bottoms", "shifts"] spDraw := by
  have G__law_pick : FnOk P w K mg base CX0 1 T._law_pick.f T._law_pick.fd ["deck", "size"] spPick := ok__law_pick T
  refine T._law_land.F.ok sc__law_land (fun vs H Q E h => ?_) (fun cdv A outer s H vs Q E hr h => ?_)
  · obtain ⟨d, L, M, N, n, rfl, _⟩ := h
    rfl
  · obtain ⟨d, L, M, N, n, rfl, hk, hn, hL, hM, hN, q⟩ := h
    refine ⟨_, (pss_cons (ps_set (i := 4) sc__law_land.nd rfl (Or.inl rfl) (pe_op op_add pe_int (pe_call G__law_pick (hr.mono (by omega)) (by rfl) T._law_pick.g T._law_pick.F.kp T._law_pick.b .nil pass0 (pa_cons (pv 0) (pa_cons (pv 2) pa_nil)))))
      (pss_cons (ps_set (i := 5) sc__law_land.nd rfl (Or.inl rfl) (pe_op op_sub (pe_call G__law_pick (hr.mono (by omega)) (by rfl) T._law_pick.g T._law_pick.F.kp T._law_pick.b .nil pass0 (pa_cons (pv 0) (pa_cons (pe_op op_add (pe_op op_mul pe_int (pv 3)) pe_int) pa_nil))) (pv 3)))
      (pss_one (ps_ret (pe_tup (pa_cons (pe_op op_add pe_int (pe_call G__law_pick (hr.mono (by omega)) (by rfl) T._law_pick.g T._law_pick.F.kp T._law_pick.b .nil pass0 (pa_cons (pv 0) (pa_cons (pv 1) pa_nil)))) (pa_cons (pe_call G__law_pick (hr.mono (by omega)) (by rfl) T._law_pick.g T._law_pick.F.kp T._law_pick.b .nil pass0 (pa_cons (pv 0) (pa_cons (pv 4) pa_nil))) (pa_cons (pv 4) (pa_cons (pv 5) pa_nil))))))))), ?_⟩
    refine ⟨_, rfl, _, rfl, d, M, n, rfl, hk, by omega, ⟨by omega, by omega⟩, fun b H1 b0 b1 e1 k1 => ⟨_, _, rfl, rfl, ?_⟩⟩
    refine ⟨_, rfl, _, rfl, _, _, rfl, rfl, cm_l (by omega), _, _, rfl, rfl, d, _, n + 1, rfl, k1, by omega, ⟨by omega, by omega⟩, fun sh H2 s0 s1 e2 k2 => ⟨_, rfl, _, _, rfl, rfl, ?_⟩⟩
    refine ⟨_, rfl, _, rfl, d, L, n + 2, rfl, k2, by omega, ⟨by omega, by omega⟩, fun dd H3 d0 d1 e3 k3 => ⟨_, _, rfl, rfl, ?_⟩⟩
    refine ⟨_, rfl, _, rfl, d, 1 + b, n + 3, rfl, k3, by omega, ⟨by omega, by omega⟩, fun tt H4 t0 t1 e4 k4 => ?_⟩
    refine ⟨_, rfl, _, rfl, by show 4 ≤ sizeLine; decide, fun p hp => ?_⟩
    exact q _ _ (1 + dd) tt (1 + b) (sh - N) ⟨p, rfl, upd_same, ⟨by omega, by omega⟩, ⟨by omega, by omega⟩, ⟨by omega, by omega⟩, ⟨by omega, by omega⟩⟩ (by omega) (by omega) (by omega) (by omega)
      (((e1.trans e2).trans (e3.trans e4)).trans (ExD.of (Ex.new hp))) (k4.ex (Ex.new hp))
def spAny : Sp := fun vs H Q _ => ∃ (d : Addr) (n : Nat), vs = [.ref d] ∧ Dk n H d ∧ n < 800000 ∧ ∀ v H' D T B S, Land H' v D T B S → ExD d H H' → Dk (n + 5) H' d → Q v H'
theorem ok__law_any (T : Txt K mg) : FnOk P w K mg base CX0 3 T._law_any.f T._law_any.fd ["deck"] spAny := by
  have G__law_one : FnOk P w K mg base CX0 2 T._law_one.f T._law_one.fd ["deck", "some"] spOne := ok__law_one T
  have G__law_land : FnOk P w K mg base CX0 2 T._law_land.f T._law_land.fd ["deck", "long_so", "bottoms", "shifts"] spDraw := ok__law_land T
  refine T._law_any.F.ok sc__law_any (fun vs H Q E h => ?_) (fun cdv A outer s H vs Q E hr h => ?_)
  · obtain ⟨d, n, rfl, _⟩ := h
    rfl
  · obtain ⟨d, n, rfl, hk, hn, q⟩ := h
    refine ⟨_, (pss_cons (ps_asg (pe_call G__law_one (hr.mono (by omega)) (by rfl) T._law_one.g T._law_one.F.kp T._law_one.b .nil pass0 (pa_cons (pv 0) (pa_cons (pe_lst (pa_cons (pe_tup (pa_cons pe_int (pa_cons pe_int (pa_cons pe_int pa_nil)))) (pa_cons (pe_tup (pa_cons pe_int (pa_cons pe_int (pa_cons pe_int pa_nil)))) (pa_cons (pe_tup (pa_cons pe_int (pa_cons pe_int (pa_cons (pe_op op_pow pe_int pe_int) pa_nil)))) pa_nil)))) pa_nil))) (pg_tup rfl (pgs_cons (pg_name (i := 1) sc__law_any.nd rfl (Or.inl rfl)) (pgs_cons (pg_name (i := 2) sc__law_any.nd rfl (Or.inl rfl)) (pgs_cons (pg_name (i := 3) sc__law_any.nd rfl (Or.inl rfl)) pgs_nil)))))
      (pss_one (ps_ret (pe_call G__law_land (hr.mono (by omega)) (by rfl) T._law_land.g T._law_land.F.kp T._law_land.b .nil pass0 (pa_cons (pv 0) (pa_cons (pv 1) (pa_cons (pv 2) (pa_cons (pv 3) pa_nil)))))))), ?_⟩
    refine ⟨_, rfl, by show 3 ≤ sizeLine; decide, fun p1 n1 => ?_⟩
    refine ⟨by show 3 ≤ sizeLine; decide, fun p2 n2 => ?_⟩
    refine ⟨_, _, rfl, rfl, ⟨by decide, by decide, by decide⟩, by show 3 ≤ sizeLine; decide, fun p3 n3 => ?_⟩
    refine ⟨by show 3 ≤ sizeLine; decide, fun p4 n4 => ?_⟩
    have x1 := Ex.new (o := .tup [.int 9, .int 5, .int 9]) n1
    have x2 := Ex.new (o := .tup [.int 30, .int 60, .int 99]) n2
    have x3 := Ex.new (o := .tup [.int 400, .int 60, .int ((10 : Int) ^ (6 : Int).toNat)]) n3
    have x4 := Ex.new (o := .lst [.ref p1, .ref p2, .ref p3]) n4
    have k4 := (((hk.ex x1).ex x2).ex x3).ex x4
    have a1 := x4 _ _ (x3 _ _ (x2 _ _ (upd_same (H := H) (a := p1) (o := .tup [.int 9, .int 5, .int 9]))))
    have a2 := x4 _ _ (x3 _ _ (upd_same (a := p2) (o := .tup [.int 30, .int 60, .int 99])))
    have a3 := x4 _ _ (upd_same (a := p3) (o := .tup [.int 400, .int 60, .int ((10 : Int) ^ (6 : Int).toNat)]))
    have nd : p4 ≠ d := fun z => by
      obtain ⟨_, _, _, hd, _⟩ := ((hk.ex x1).ex x2).ex x3
      rw [z, hd] at n4
      cases n4
    refine ⟨d, p4, _, n, rfl, k4, by omega, upd_same, nd, ⟨by show 0 < 3; decide, by show 3 ≤ 1000; decide⟩, fun v H5 hv e5 k5 => ?_⟩
    obtain ⟨p, L, M, N, rfl, hp, hL, hM, hN⟩ : ∃ (p : Addr) (L M N : Int), v = .ref p ∧ H5 p = some (.tup [.int L, .int M, .int N]) ∧ (1 ≤ L ∧ L ≤ 400) ∧ (1 ≤ M ∧ M ≤ 60) ∧ (0 ≤ N ∧ N ≤ 1000000) := by
      simp only [List.mem_cons, List.not_mem_nil, or_false] at hv
      rcases hv with hv | hv | hv
      · exact ⟨p1, _, _, _, hv, e5.tup k4 a1, ⟨by decide, by decide⟩, ⟨by decide, by decide⟩, ⟨by decide, by decide⟩⟩
      · exact ⟨p2, _, _, _, hv, e5.tup k4 a2, ⟨by decide, by decide⟩, ⟨by decide, by decide⟩, ⟨by decide, by decide⟩⟩
      · exact ⟨p3, _, _, _, hv, e5.tup k4 a3, ⟨by decide, by decide⟩, ⟨by decide, by decide⟩, ⟨by decide, by decide⟩⟩
    refine ⟨p, _, rfl, st_of hp, rfl, _, _, rfl, _, _, rfl, _, _, rfl, rfl, ?_⟩
    refine ⟨_, rfl, _, rfl, _, rfl, _, rfl, d, L, M, N, n + 1, rfl, k5, by omega, hL, hM, hN, fun u H6 D T' B S hl _ _ _ _ e6 k6 => ?_⟩
    exact q u H6 D T' B S hl ((ExD.of (((x1.trans x2).trans x3).trans x4)).trans (e5.trans e6)) k6

def spFar : Sp := fun vs H Q _ => ∃ (d : Addr) (n : Nat), vs = [.ref d] ∧ Dk n H d ∧ n < 900000 ∧ ∀ (i : Int) H', -1000000000000000000000000000 < i → i < 1000000000000000000000000000 → ExD d H H' → Dk (n + 5) H' d → Q (.int i) H'
theorem ok__law_far (T : Txt K mg) : FnOk P w K mg base CX0 3 T._law_far.f T._law_far.fd ["deck"] spFar := by
  have G__law_one : FnOk P w K mg base CX0 2 T._law_one.f T._law_one.fd ["deck", "some"] spOne := ok__law_one T
  have G__law_pick : FnOk P w K mg base CX0 1 T._law_pick.f T._law_pick.fd ["deck", "size"] spPick := ok__law_pick T
  refine T._law_far.F.ok sc__law_far (fun vs H Q E h => ?_) (fun cdv A outer s H vs Q E hr h => ?_)
  · obtain ⟨d, n, rfl, _⟩ := h
    rfl
  · obtain ⟨d, n, rfl, hk, hn, q⟩ := h
    refine ⟨_, (pss_cons (ps_set (i := 1) sc__law_far.nd rfl (Or.inl rfl) (pe_call G__law_one (hr.mono (by omega)) (by rfl) T._law_one.g T._law_one.F.kp T._law_one.b .nil pass0 (pa_cons (pv 0) (pa_cons (pe_lst (pa_cons (pe_call G__law_pick (hr.mono (by omega)) (by rfl) T._law_pick.g T._law_pick.F.kp T._law_pick.b .nil pass0 (pa_cons (pv 0) (pa_cons pe_int pa_nil))) (pa_cons (pe_call G__law_pick (hr.mono (by omega)) (by rfl) T._law_pick.g T._law_pick.F.kp T._law_pick.b .nil pass0 (pa_cons (pv 0) (pa_cons (pe_op op_pow pe_int pe_int) pa_nil))) (pa_cons (pe_call G__law_pick (hr.mono (by omega)) (by rfl) T._law_pick.g T._law_pick.F.kp T._law_pick.b .nil pass0 (pa_cons (pv 0) (pa_cons (pe_op op_pow pe_int pe_int) pa_nil))) pa_nil)))) pa_nil))))
      (pss_one (ps_ret (pe_ifExp (pt_cmpR op_eq (pe_call G__law_pick (hr.mono (by omega)) (by rfl) T._law_pick.g T._law_pick.F.kp T._law_pick.b .nil pass0 (pa_cons (pv 0) (pa_cons pe_int pa_nil))) pe_int (nomark _)) (pv 1) (pe_op op_sub pe_int (pv 1)))))), ?_⟩
    refine ⟨_, rfl, _, rfl, d, 30, n, rfl, hk, by omega, ⟨by decide, by decide⟩, fun a H1 a0 a1 e1 k1 => ?_⟩
    refine ⟨_, rfl, _, _, rfl, rfl, ⟨by decide, by decide, by decide⟩, d, _, n + 1, rfl, k1, by omega, ⟨by decide, by decide⟩, fun b H2 b0 b1 e2 k2 => ?_⟩
    refine ⟨_, rfl, _, _, rfl, rfl, ⟨by decide, by decide, by decide⟩, d, _, n + 2, rfl, k2, by omega, ⟨by decide, by decide⟩, fun c H3 c0 c1 e3 k3 => ?_⟩
    have b1' : b < 1000000000 := b1
    have c1' : c < 1000000000000000000000000000 := c1
    refine ⟨by show 3 ≤ sizeLine; decide, fun p hp => ?_⟩
    have x := Ex.new (o := .lst [.int a, .int b, .int c]) hp
    have k4 := k3.ex x
    have nd : p ≠ d := fun z => by
      obtain ⟨_, _, _, hd, _⟩ := k3
      rw [z, hd] at hp
      cases hp
    refine ⟨d, p, _, n + 3, rfl, k4, by omega, upd_same, nd, ⟨by show 0 < 3; decide, by show 3 ≤ 1000; decide⟩, fun v H5 hv e5 k5 => ?_⟩
    obtain ⟨i, rfl, i0, i1⟩ : ∃ i : Int, v = .int i ∧ 0 ≤ i ∧ i < 1000000000000000000000000000 := by
      simp only [List.mem_cons, List.not_mem_nil, or_false] at hv
      rcases hv with rfl | rfl | rfl
      · exact ⟨a, rfl, by omega, by omega⟩
      · exact ⟨b, rfl, by omega, by omega⟩
      · exact ⟨c, rfl, by omega, by omega⟩
    refine ⟨_, rfl, d, 2, n + 4, rfl, k5, by omega, ⟨by decide, by decide⟩, fun r H6 r0 r1 e6 k6 => ?_⟩
    have eT : ExD d H H6 := (e1.trans e2).trans (e3.trans ((ExD.of x).trans (e5.trans e6)))
    refine ⟨rfl, _, rfl, ite2 (fun _ => ?_) (fun _ => ?_)⟩
    · exact ⟨_, rfl, q i H6 (by omega) (by omega) eT k6⟩
    · exact ⟨_, rfl, _, _, rfl, rfl, q (0 - i) H6 (by omega) (by omega) eT k6⟩

/-! ### begins by the law's own words -/
def beg (D T B S y : Int) : Int := D * y + (T * y + S) / B
theorem beg_fst {D T B S y : Int} (hB : 1 ≤ B) : beg D T B S y = fst D T B S y := by
  unfold beg fst
  have e : (D * B + T) * y + S = (T * y + S) + B * (D * y) := by
    rw [Int.add_mul, Int.mul_right_comm, Int.mul_comm (D * y) B]
    omega
  rw [e, Int.add_mul_ediv_left _ _ (by omega)]
  omega
def spBeg : Sp := fun vs H Q _ => ∃ v D T B S y, vs = [v, .int y] ∧ Land H v D T B S ∧ RetV (.int (fst D T B S y)) H Q
theorem ok__law_begin (T : Txt K mg) : FnOk P w K mg base CX0 1 T._law_begin.f T._law_begin.fd ["land", "year"] spBeg := by
  refine T._law_begin.F.ok sc__law_begin (fun vs H Q E h => ?_) (fun cdv A outer s H vs Q E hr h => ?_)
  · obtain ⟨x, _, _, _, _, _, rfl, _⟩ := h
    rfl
  · obtain ⟨x, D, T', B, S, y, rfl, ⟨a, rfl, ha, r1, r2, r3, r4⟩, q⟩ := h
    have q0 := q H (Ex.refl H)
    rw [← beg_fst r3.1] at q0
    refine ⟨_, (pss_one (ps_ret (pe_op op_add (pe_op op_mul (pe_ix ix_tup (pv 0) pe_int (fun _ _ => rfl)) (pv 1)) (pe_op op_fdiv (pe_op op_add (pe_op op_mul (pe_ix ix_tup (pv 0) pe_int (fun _ _ => rfl)) (pv 1)) (pe_ix ix_tup (pv 0) pe_int (fun _ _ => rfl))) (pe_ix ix_tup (pv 0) pe_int (fun _ _ => rfl)))))), ?_⟩
    refine ⟨_, rfl, a, _, 0, _, rfl, rfl, st_of ha, rfl, _, rfl, _, _, rfl, rfl, cm_l (by omega), ?_⟩
    refine ⟨_, rfl, a, _, 1, _, rfl, rfl, st_of ha, rfl, _, rfl, _, _, rfl, rfl, cm_l (by omega), ?_⟩
    refine ⟨_, rfl, a, _, 3, _, rfl, rfl, st_of ha, rfl, _, _, rfl, rfl, ?_⟩
    exact ⟨_, rfl, a, _, 2, _, rfl, rfl, st_of ha, rfl, _, _, rfl, rfl, ⟨by omega, by omega⟩, _, _, rfl, rfl, q0⟩

def spLen : Sp := fun vs H Q _ => ∃ v D T B S y, vs = [v, .int y] ∧ Land H v D T B S ∧ RetV (.int (fst D T B S (y + 1) - fst D T B S y)) H Q
theorem ok__law_length (T : Txt K mg) : FnOk P w K mg base CX0 2 T._law_length.f T._law_length.fd ["land", "year"] spLen := by
  have G__law_begin : FnOk P w K mg base CX0 1 T._law_begin.f T._law_begin.fd ["land", "year"] spBeg := ok__law_begin T
  refine T._law_length.F.ok sc__law_length (fun vs H Q E h => ?_) (fun cdv A outer s H vs Q E hr h => ?_)
  · obtain ⟨x, _, _, _, _, _, rfl, _⟩ := h
    rfl
  · obtain ⟨x, D, T', B, S, y, rfl, hL, q⟩ := h
    refine ⟨_, (pss_one (ps_ret (pe_op op_sub (pe_call G__law_begin (hr.mono (by omega)) (by rfl) T._law_begin.g T._law_begin.F.kp T._law_begin.b .nil pass0 (pa_cons (pv 0) (pa_cons (pe_op op_add (pv 1) pe_int) pa_nil))) (pe_call G__law_begin (hr.mono (by omega)) (by rfl) T._law_begin.g T._law_begin.F.kp T._law_begin.b .nil pass0 (pa_cons (pv 0) (pa_cons (pv 1) pa_nil)))))), ?_⟩
    refine ⟨_, rfl, _, rfl, _, _, rfl, rfl, _, D, T', B, S, y + 1, rfl, hL, fun H1 e1 => ?_⟩
    refine ⟨_, rfl, _, rfl, _, D, T', B, S, y, rfl, hL.ex e1, fun H2 e2 => ?_⟩
    exact ⟨_, _, rfl, rfl, q H2 (e1.trans e2)⟩

theorem ok__law_step (T : Txt K mg) : FnOk P w K mg base CX0 1 T._law_step.f T._law_step.fd ["land"] spStep := by
  refine T._law_step.F.ok sc__law_step (fun vs H Q E h => ?_) (fun cdv A outer s H vs Q E hr h => ?_)
  · obtain ⟨x, _, _, _, _, rfl, _⟩ := h
    rfl
  · obtain ⟨x, D, T', B, S, rfl, ⟨a, rfl, ha, r1, r2, r3, r4⟩, q⟩ := h
    refine ⟨_, (pss_one (ps_ret (pe_op op_add (pe_op op_mul (pe_ix ix_tup (pv 0) pe_int (fun _ _ => rfl)) (pe_ix ix_tup (pv 0) pe_int (fun _ _ => rfl))) (pe_ix ix_tup (pv 0) pe_int (fun _ _ => rfl))))), ?_⟩
    refine ⟨_, rfl, a, _, 0, _, rfl, rfl, st_of ha, rfl, _, rfl, a, _, 2, _, rfl, rfl, st_of ha, rfl, _, _, rfl, rfl, cm_l (by omega), ?_⟩
    exact ⟨_, rfl, a, _, 1, _, rfl, rfl, st_of ha, rfl, _, _, rfl, rfl, q H (Ex.refl H)⟩

end

/-! ### sameness -/
def Kd.sort : Kd → Int
  | .bl => 1 | .int => 2 | .str => 3 | .lst => 4 | .tup => 5 | .non => 6
section
variable {P : Program} {w : World} {K : PySem.W.Frag} {mg : Str → Option Value} {base : Heap}
def spSort : Sp := fun vs H Q _ => ∃ x t, vs = [x] ∧ Dat H x t ∧ RetV (.int t.sort) H Q
theorem ok__law_sort (T : Txt K mg) : FnOk P w K mg base CX0 1 T._law_sort.f T._law_sort.fd ["thing"] spSort := by
  refine T._law_sort.F.ok sc__law_sort (fun vs H Q E h => ?_) (fun cdv A outer s H vs Q E hr h => ?_)
  · obtain ⟨x, t, rfl, _⟩ := h
    rfl
  · obtain ⟨x, t, rfl, d, q⟩ := h
    have q0 := q H (Ex.refl H)
    refine ⟨_, (pss_cons (ps_if (pt_val (pe_callB call_isi (by rfl) T.isinstance (by decide +kernel) (pa_cons (pv 0) (pa_cons (pe_bltn (v := .ty "bool") (by rfl) T.b_bool (by decide +kernel) rfl) pa_nil))))
        (pss_one (ps_ret pe_int))
        pss_nil)
      (pss_cons (ps_if (pt_val (pe_callB call_isi (by rfl) T.isinstance (by decide +kernel) (pa_cons (pv 0) (pa_cons (pe_bltn (v := .ty "int") (by rfl) T.b_int (by decide +kernel) rfl) pa_nil))))
        (pss_one (ps_ret pe_int))
        pss_nil)
      (pss_cons (ps_if (pt_val (pe_callB call_isi (by rfl) T.isinstance (by decide +kernel) (pa_cons (pv 0) (pa_cons (pe_bltn (v := .ty "str") (by rfl) T.str (by decide +kernel) rfl) pa_nil))))
        (pss_one (ps_ret pe_int))
        pss_nil)
      (pss_cons (ps_if (pt_val (pe_callB call_isi (by rfl) T.isinstance (by decide +kernel) (pa_cons (pv 0) (pa_cons (pe_bltn (v := .ty "list") (by rfl) T.b_list (by decide +kernel) rfl) pa_nil))))
        (pss_one (ps_ret pe_int))
        pss_nil)
      (pss_one (ps_ret (pe_ifExp (pt_val (pe_callB call_isi (by rfl) T.isinstance (by decide +kernel) (pa_cons (pv 0) (pa_cons (pe_bltn (v := .ty "tuple") (by rfl) T.tuple (by decide +kernel) rfl) pa_nil)))) pe_int pe_int))))))), ?_⟩
    refine ⟨_, rfl, _, _, _, _, _, rfl, .ty _, d.ty, kit_kd t .bl (by decide), _, rfl, ?_⟩
    cases t
    case bl => exact iteT q0
    all_goals refine iteF ⟨_, rfl, _, _, _, _, _, rfl, .ty _, d.ty, kit_kd _ .int (by decide), _, rfl, ?_⟩
    case int => exact iteT q0
    all_goals refine iteF ⟨_, rfl, _, _, _, _, _, rfl, .ty _, d.ty, kit_kd _ .str (by decide), _, rfl, ?_⟩
    case str => exact iteT q0
    all_goals refine iteF ⟨_, rfl, _, _, _, _, _, rfl, .ty _, d.ty, kit_kd _ .lst (by decide), _, rfl, ?_⟩
    case lst => exact iteT q0
    all_goals refine iteF ⟨_, rfl, _, _, _, _, _, rfl, .ty _, d.ty, kit_kd _ .tup (by decide), _, rfl, ?_⟩
    case tup => exact iteT q0
    case non => exact iteF q0
end
/-- x and y are the same data, to the depth n -/
inductive Sm (H : Hp) : Nat → V → V → Prop where
  | non {n : Nat} : Sm H n .non .non
  | bl {n : Nat} (b : Bool) : Sm H n (.bl b) (.bl b)
  | int {n : Nat} (i : Int) : Sm H n (.int i) (.int i)
  | str {n : Nat} (x : Str) : Sm H n (.str x) (.str x)
  | lst {n : Nat} {a b : Addr} {xs ys : List V} (ha : H a = some (.lst xs)) (hb : H b = some (.lst ys)) (hl : xs.length = ys.length) (hz : xs.length ≤ 1000) (h : ∀ (i : Nat) (x y : V), xs[i]? = some x → ys[i]? = some y → Sm H n x y) : Sm H (n + 1) (.ref a) (.ref b)
  | tup {n : Nat} {a b : Addr} {xs ys : List V} (ha : H a = some (.tup xs)) (hb : H b = some (.tup ys)) (hl : xs.length = ys.length) (hz : xs.length ≤ 1000) (h : ∀ (i : Nat) (x y : V), xs[i]? = some x → ys[i]? = some y → Sm H n x y) : Sm H (n + 1) (.ref a) (.ref b)
theorem Sm.ex {H H' : Hp} {n : Nat} {x y : V} (e : Ex H H') (h : Sm H n x y) : Sm H' n x y := by
  induction h with
  | non => exact .non
  | bl b => exact .bl b
  | int i => exact .int i
  | str x => exact .str x
  | lst ha hb hl hz _ ih => exact .lst (e _ _ ha) (e _ _ hb) hl hz ih
  | tup ha hb hl hz _ ih => exact .tup (e _ _ ha) (e _ _ hb) hl hz ih
theorem Sm.kd {H : Hp} {n : Nat} {x y : V} (h : Sm H n x y) : ∃ t, Dat H x t ∧ Dat H y t := by
  cases h with
  | non => exact ⟨_, .non, .non⟩
  | bl b => exact ⟨_, .bl b, .bl b⟩
  | int i => exact ⟨_, .int i, .int i⟩
  | str x => exact ⟨_, .str x, .str x⟩
  | lst ha hb _ _ _ => exact ⟨_, .lst ha, .lst hb⟩
  | tup ha hb _ _ _ => exact ⟨_, .tup ha, .tup hb⟩
def spSame : Nat → Sp
  | 0 => fun _ _ _ _ => False
  | n + 1 => fun vs H Q _ => ∃ x y, vs = [x, y] ∧ Sm H n x y ∧ RetV (.bl true) H Q
section
variable {P : Program} {w : World} {K : PySem.W.Frag} {mg : Str → Option Value} {base : Heap}
theorem ok__law_same (T : Txt K mg) (n : Nat) : FnOk P w K mg base CX0 (n + 1) T._law_same.f T._law_same.fd ["told", "due"] (spSame n) := by
  induction n with
  | zero => exact ⟨fun _ _ _ _ h => h.elim, fun _ _ _ _ _ _ _ _ _ _ _ _ _ h => h.elim⟩
  | succ n G__law_same =>
    have G__law_sort : FnOk P w K mg base CX0 1 T._law_sort.f T._law_sort.fd ["thing"] spSort := ok__law_sort T
    refine T._law_same.F.ok sc__law_same (fun vs H Q E h => ?_) (fun cdv A outer s H vs Q E hr h => ?_)
    · obtain ⟨x, y, rfl, _⟩ := h
      rfl
    · obtain ⟨x, y, rfl, hS, q⟩ := h
      refine ⟨_, (pss_cons (ps_if (pt_cmpR op_ne (pe_call G__law_sort (hr.mono (by omega)) (by rfl) T._law_sort.g T._law_sort.F.kp T._law_sort.b .nil pass0 (pa_cons (pv 0) pa_nil)) (pe_call G__law_sort (hr.mono (by omega)) (by rfl) T._law_sort.g T._law_sort.F.kp T._law_sort.b .nil pass0 (pa_cons (pv 1) pa_nil)) (nomark _))
        (pss_one (ps_ret pe_bl))
        pss_nil)
      (pss_cons (ps_if (PW.pt (pw_and (pt_cmpR op_gt (pe_call G__law_sort (hr.mono (by omega)) (by rfl) T._law_sort.g T._law_sort.F.kp T._law_sort.b .nil pass0 (pa_cons (pv 0) pa_nil)) pe_int (nomark _)) (pw_and1 (pt_cmpR op_lt (pe_call G__law_sort (hr.mono (by omega)) (by rfl) T._law_sort.g T._law_sort.F.kp T._law_sort.b .nil pass0 (pa_cons (pv 0) pa_nil)) pe_int (nomark _)))))
        (pss_cons (ps_if (pt_cmpR op_ne (pe_callB call_len_seq (by rfl) T.len (by decide +kernel) (pa_cons (pv 0) pa_nil)) (pe_callB call_len_seq (by rfl) T.len (by decide +kernel) (pa_cons (pv 1) pa_nil)) (nomark _))
        (pss_one (ps_ret pe_bl))
        pss_nil)
      (pss_one (ps_ret (pe_cmpR (op_eqD hr.units) (pe_lc (own := [("k", 2), ("part", 3)]) (g := gTup K 2 (gCons (gName 2) (gCons (gName 3) gNil))) (by rfl) sc__law_same.nd (pi_enumS rfl T.enumerate (pa_cons (pv 0) pa_nil)) (blkOk_by (own := [("k", 2), ("part", 3)]) (N := ["told", "due", "k", "part"]) (sc := defScope s__law_same) (by decide +kernel)) (fun _ _ _ _ _ => (pg_tup rfl (pgs_cons (pg_name (i := 2) sc__law_same.nd rfl (Or.inl rfl)) (pgs_cons (pg_name (i := 3) sc__law_same.nd rfl (Or.inl rfl)) pgs_nil)))) (fun _ _ _ _ _ => (pts_one (pt_not (pt_val (pe_call G__law_same (hr.mono (by omega)) (by rfl) T._law_same.g T._law_same.F.kp T._law_same.b .nil pass0 (pa_cons (pv 3) (pa_cons (pe_ix (show IxR _ (rIx K) from ix_seq) (pv 1) (pv 2) (fun _ _ => rfl)) pa_nil))))))) (fun _ _ _ _ _ => (pv 2))) (pe_lst pa_nil) (nomark _)))))
        pss_nil)
      (pss_one (ps_ret (pe_cmpR op_eq (pv 0) (pv 1) (nomark _)))))), ?_⟩
      obtain ⟨t, dx, dy⟩ := hS.kd
      refine ⟨_, rfl, _, t, rfl, dx, fun H1 e1 => ⟨_, rfl, _, t, rfl, dy.ex e1, fun H2 e2 => ⟨rfl, _, rfl, iteNS rfl ?_⟩⟩⟩
      have e12 := e1.trans e2
      refine ⟨_, rfl, _, t, rfl, dx.ex e12, fun H3 e3 => ⟨_, _, rfl, rfl, _, rfl, ?_⟩⟩
      have e13 := e12.trans e3
      have hS3 := hS.ex e13
      have dx3 := dx.ex e13
      have q3 : ∀ H4, Ex H3 H4 → Q (.bl true) H4 := fun H4 e4 => q H4 (e13.trans e4)
      clear hS dx dy q e12 e13
      cases hS3 with
      | non =>
        cases dx3
        refine iteT ⟨_, rfl, _, _, rfl, .non, fun H4 e4 => ⟨_, _, rfl, rfl, _, rfl, iteF ⟨_, rfl, _, rfl, rfl, q3 H4 e4⟩⟩⟩
      | bl b =>
        cases dx3
        refine iteF (iteF ⟨_, rfl, _, rfl, rfl, ?_⟩)
        rw [decide_eq_true rfl]
        exact q3 H3 (Ex.refl H3)
      | int i =>
        cases dx3
        refine iteF (iteF ⟨_, rfl, _, rfl, rfl, ?_⟩)
        rw [decide_eq_true rfl]
        exact q3 H3 (Ex.refl H3)
      | str x =>
        cases dx3
        refine iteF (iteF ⟨_, rfl, _, rfl, rfl, ?_⟩)
        rw [decide_eq_true rfl]
        exact q3 H3 (Ex.refl H3)
      | @lst m a b xs ys ha hb hl hz hh =>
        have et : t = .lst := by
          cases dx3 with
          | lst _ => rfl
          | tup h => rw [ha] at h; cases h
        subst et
        refine iteT ⟨_, rfl, _, _, rfl, dx3, fun H4 e4 => ⟨_, _, rfl, rfl, _, rfl, iteT ?_⟩⟩
        have ha4 := e4 _ _ ha
        have hb4 := e4 _ _ hb
        refine ⟨_, rfl, a, xs, rfl, .inl (sq_of ha4), _, rfl, b, ys, rfl, .inl (sq_of hb4), rfl, _, rfl, iteNS (by rw [hl]) ?_⟩
        refine ⟨_, rfl, a, xs, rfl, .inl ⟨sq_of ha4, fun D hD => ?_⟩⟩
        refine lc_it walk_enum (fun i H' => Ex H4 H' ∧ H' D = some (.lst [])) ⟨Ex.new hD, upd_same⟩ (fun i H' _ p => sq_of (p.1 _ _ ha4)) (fun i v H' H'' hi p y => ?_) (fun H' p => ?_)
        · obtain ⟨Tp, x1, x2, rfl, nT, rfl, h1, h2⟩ := y
          cases h1
          have x4 := p.1.trans (Ex.new (o := .tup [.int (i : Int), x2]) nT)
          have hi2 : i < ys.length := by omega
          refine ⟨Tp, _, rfl, st_of upd_same, rfl, _, _, rfl, _, _, rfl, rfl, rfl, ?_⟩
          refine ⟨_, rfl, _, rfl, _, rfl, .inl ⟨b, ys, i, ys[i], rfl, rfl, sq_of (x4 _ _ hb4), at_of (j := i) rfl (List.getElem?_eq_getElem hi2), ?_⟩⟩
          have hD2 := Ex.new (o := .tup [.int (i : Int), x2]) nT _ _ p.2
          refine ⟨x2, ys[i], rfl, (hh i x2 ys[i] h2 (List.getElem?_eq_getElem hi2)).ex (e4.trans x4), fun H5 e5 => ⟨_, rfl, iteF ⟨x4.trans e5, e5 _ _ hD2⟩⟩⟩
        · refine ⟨by show 0 ≤ sizeLine; decide, fun p' hp' => ?_⟩
          have e6 := p.1.trans (Ex.new (o := .lst []) hp')
          exact ⟨.list [], .list [], .lst (sq_of (Ex.new (o := .lst []) hp' _ _ p.2)) .nil, .lst (sq_of upd_same) .nil, rfl, rfl, q3 _ (e4.trans e6)⟩
      | @tup m a b xs ys ha hb hl hz hh =>
        have et : t = .tup := by
          cases dx3 with
          | tup _ => rfl
          | lst h => rw [ha] at h; cases h
        subst et
        refine iteT ⟨_, rfl, _, _, rfl, dx3, fun H4 e4 => ⟨_, _, rfl, rfl, _, rfl, iteT ?_⟩⟩
        have ha4 := e4 _ _ ha
        have hb4 := e4 _ _ hb
        refine ⟨_, rfl, a, xs, rfl, .inr (st_of ha4), _, rfl, b, ys, rfl, .inr (st_of hb4), rfl, _, rfl, iteNS (by rw [hl]) ?_⟩
        refine ⟨_, rfl, a, xs, rfl, .inr ⟨ha4, fun D hD => ?_⟩⟩
        refine lc_it walk_itP (fun i H' => Ex H4 H' ∧ H' D = some (.lst [])) ⟨Ex.new hD, upd_same⟩ (fun i H' _ p => p.1 _ _ ha4) (fun i v H' H'' hi p y => ?_) (fun H' p => ?_)
        · obtain ⟨Tp, x1, x2, rfl, nT, rfl, h1, h2⟩ := y
          cases h1
          have x4 := p.1.trans (Ex.new (o := .tup [.int (i : Int), x2]) nT)
          have hi2 : i < ys.length := by omega
          refine ⟨Tp, _, rfl, st_of upd_same, rfl, _, _, rfl, _, _, rfl, rfl, rfl, ?_⟩
          refine ⟨_, rfl, _, rfl, _, rfl, .inr (.inl ⟨b, ys, i, ys[i], rfl, rfl, st_of (x4 _ _ hb4), at_of (j := i) rfl (List.getElem?_eq_getElem hi2), ?_⟩)⟩
          have hD2 := Ex.new (o := .tup [.int (i : Int), x2]) nT _ _ p.2
          refine ⟨x2, ys[i], rfl, (hh i x2 ys[i] h2 (List.getElem?_eq_getElem hi2)).ex (e4.trans x4), fun H5 e5 => ⟨_, rfl, iteF ⟨x4.trans e5, e5 _ _ hD2⟩⟩⟩
        · refine ⟨by show 0 ≤ sizeLine; decide, fun p' hp' => ?_⟩
          have e6 := p.1.trans (Ex.new (o := .lst []) hp')
          exact ⟨.list [], .list [], .lst (sq_of (Ex.new (o := .lst []) hp' _ _ p.2)) .nil, .lst (sq_of upd_same) .nil, rfl, rfl, q3 _ (e4.trans e6)⟩
end

/-! ### the mathematics of one land -/
theorem mul_bd {x b K L : Int} (hx : -K ≤ x ∧ x ≤ K) (hb : 0 ≤ b ∧ b ≤ L) (hK : 0 ≤ K) : -(K * L) ≤ x * b ∧ x * b ≤ K * L := by
  have h1 : x * b ≤ K * b := Int.mul_le_mul_of_nonneg_right hx.2 hb.1
  have h2 : -K * b ≤ x * b := Int.mul_le_mul_of_nonneg_right hx.1 hb.1
  have h3 : K * b ≤ K * L := Int.mul_le_mul_of_nonneg_left hb.2 hK
  rw [Int.neg_mul] at h2
  omega
theorem div_bd {a s M : Int} (hs : 1 ≤ s) (ha : -M ≤ a ∧ a ≤ M) (hM : 0 ≤ M) : -M ≤ a / s ∧ a / s ≤ M := by
  have h1 : M * 1 ≤ M * s := Int.mul_le_mul_of_nonneg_left hs hM
  constructor
  · rw [Int.le_ediv_iff_mul_le (by omega), Int.neg_mul]
    omega
  · have h2 : a / s < M + 1 := by
      rw [Int.ediv_lt_iff_lt_mul (by omega), Int.add_mul]
      omega
    omega
theorem add_step {T B S y : Int} (hT : 0 ≤ T ∧ T < B) : add T B S y ≤ add T B S (y + 1) ∧ add T B S (y + 1) ≤ add T B S y + 1 := by
  have hB : 0 < B := by omega
  unfold add
  rw [Int.mul_add, Int.mul_one]
  have e := Int.mul_ediv_add_emod (T * y + S) B
  have r0 := Int.emod_nonneg (T * y + S) (show B ≠ 0 by omega)
  have r1 := Int.emod_lt_of_pos (T * y + S) hB
  constructor
  · rw [Int.le_ediv_iff_mul_le hB, Int.mul_comm]
    omega
  · have h : (T * y + T + S) / B < (T * y + S) / B + 1 + 1 := by
      rw [Int.ediv_lt_iff_lt_mul hB, Int.add_mul, Int.add_mul, Int.mul_comm _ B, Int.one_mul]
      omega
    omega
theorem fst_beg {D T B S y : Int} (hB : 1 ≤ B) : fst D T B S y = D * y + add T B S y := by
  unfold fst add
  have e : (D * B + T) * y + S = (T * y + S) + B * (D * y) := by
    rw [Int.add_mul, Int.mul_right_comm, Int.mul_comm (D * y) B]
    omega
  rw [e, Int.add_mul_ediv_left _ _ (by omega)]
  omega
theorem fst_succ {D T B S y : Int} (hB : 1 ≤ B) : fst D T B S (y + 1) - fst D T B S y = D + (add T B S (y + 1) - add T B S y) := by
  rw [fst_beg hB, fst_beg hB, Int.mul_add, Int.mul_one]
  omega
theorem fst_le {D T B S y n : Int} (hB : 1 ≤ B) (hs : 1 ≤ D * B + T) : fst D T B S y ≤ n ↔ y ≤ yr D T B S n := by
  unfold yr fst
  rw [Int.le_ediv_iff_mul_le (by omega), ← Int.lt_add_one_iff, Int.ediv_lt_iff_lt_mul (by omega), Int.mul_comm y]
  omega
theorem yr_spec {D T B S n : Int} (hB : 1 ≤ B) (hs : 1 ≤ D * B + T) : fst D T B S (yr D T B S n) ≤ n ∧ n < fst D T B S (yr D T B S n + 1) := by
  constructor
  · exact (fst_le hB hs).mpr (Int.le_refl _)
  · have h := mt (fst_le (D := D) (T := T) (B := B) (S := S) (y := yr D T B S n + 1) (n := n) hB hs).mp (by omega)
    omega
theorem yr_eq {D T B S n y : Int} (hB : 1 ≤ B) (hs : 1 ≤ D * B + T) (h1 : fst D T B S y ≤ n) (h2 : n < fst D T B S (y + 1)) : yr D T B S n = y := by
  have a1 := (fst_le hB hs).mp h1
  have a2 := mt (fst_le (D := D) (T := T) (B := B) (S := S) (y := y + 1) (n := n) hB hs).mpr (by omega)
  omega
theorem yr_bd {D T B S n : Int} (r1 : 1 ≤ D ∧ D ≤ 400) (r2 : 0 ≤ T ∧ T < B) (r3 : 1 ≤ B ∧ B ≤ 60) (r4 : -1000000 ≤ S ∧ S ≤ 1000000) {M : Int} (hM : 0 ≤ M) (hn : -M ≤ n ∧ n ≤ M) :
    -((M + 1) * 60 + 1000001) ≤ yr D T B S n ∧ yr D T B S n ≤ (M + 1) * 60 + 1000001 := by
  have hs := step_bd r1 r2 r3
  have h := mul_bd (x := n + 1) (b := B) (K := M + 1) (L := 60) (by omega) (by omega) (by omega)
  unfold yr
  exact div_bd hs.1 (by omega) (by omega)
theorem fst_bd {D T B S y : Int} (r1 : 1 ≤ D ∧ D ≤ 400) (r2 : 0 ≤ T ∧ T < B) (r3 : 1 ≤ B ∧ B ≤ 60) (r4 : -1000000 ≤ S ∧ S ≤ 1000000) {M : Int} (hM : 0 ≤ M) (hn : -M ≤ y ∧ y ≤ M) :
    -(M * 401 + 1000000) ≤ fst D T B S y ∧ fst D T B S y ≤ M * 401 + 1000000 := by
  have hd : D * B ≤ 400 * B := Int.mul_le_mul_of_nonneg_right r1.2 (by omega)
  have hd0 : 0 ≤ D * B := Int.mul_nonneg (by omega) (by omega)
  have h := mul_bd (x := y) (b := D * B + T) (K := M) (L := 401 * B) hn (by omega) hM
  rw [Int.mul_comm y] at h
  have e : M * (401 * B) = (M * 401) * B := by rw [Int.mul_assoc]
  rw [e] at h
  unfold fst
  have hB : 0 < B := by omega
  generalize (D * B + T) * y = Z at h ⊢
  constructor
  · rw [Int.le_ediv_iff_mul_le hB, Int.neg_mul, Int.add_mul]
    omega
  · have g : (Z + S) / B < M * 401 + 1000000 + 1 := by
      rw [Int.ediv_lt_iff_lt_mul hB, Int.add_mul, Int.add_mul]
      omega
    omega
theorem fst_round {D T B S y : Int} (hB : 1 ≤ B) : fst D T B S (y + B) = fst D T B S y + (D * B + T) := by
  unfold fst
  have e : (D * B + T) * (y + B) + S = ((D * B + T) * y + S) + (D * B + T) * B := by
    rw [Int.mul_add]
    omega
  rw [e]
  exact Int.add_mul_ediv_right _ _ (by omega)
/-- how many of the n years from y on are long -/
def longs (T B S y : Int) (n : Nat) : Nat := ((List.range n).filter fun (i : Nat) => decide (add T B S (y + (i : Int) + 1) > add T B S (y + (i : Int)))).length
theorem longs_eq {T B S y : Int} (hT : 0 ≤ T ∧ T < B) (n : Nat) : (longs T B S y n : Int) = add T B S (y + n) - add T B S y := by
  induction n with
  | zero =>
    have e : y + ((0 : Nat) : Int) = y := by omega
    rw [e]
    show ((0 : Nat) : Int) = _
    omega
  | succ n ih =>
    have hst := add_step (S := S) (y := y + (n : Int)) hT
    unfold longs at ih ⊢
    rw [List.range_succ, List.filter_append, List.length_append, List.filter_cons]
    have e : y + ((n + 1 : Nat) : Int) = y + (n : Int) + 1 := by omega
    rw [e]
    by_cases h : add T B S (y + (n : Int) + 1) > add T B S (y + (n : Int))
    · rw [if_pos (decide_eq_true h)]
      show ((_ + ([n].length) : Nat) : Int) = _
      have : [n].length = 1 := rfl
      omega
    · rw [if_neg (by rw [decide_eq_false h]; decide)]
      show ((_ + ([] : List Nat).length : Nat) : Int) = _
      have : ([] : List Nat).length = 0 := rfl
      omega
theorem add_bds {T B S y m : Int} (hT : 0 ≤ T ∧ T < B) : m * T / B ≤ add T B S (y + m) - add T B S y ∧ add T B S (y + m) - add T B S y ≤ (m * T + B - 1) / B := by
  have hB : 0 < B := by omega
  unfold add
  rw [Int.mul_add, Int.mul_comm T m]
  have e := Int.mul_ediv_add_emod (T * y + S) B
  have r0 := Int.emod_nonneg (T * y + S) (show B ≠ 0 by omega)
  have r1 := Int.emod_lt_of_pos (T * y + S) hB
  have e2 := Int.mul_ediv_add_emod (m * T) B
  have q0 := Int.emod_nonneg (m * T) (show B ≠ 0 by omega)
  have q1 := Int.emod_lt_of_pos (m * T) hB
  have e3 := Int.mul_ediv_add_emod (T * y + m * T + S) B
  have u0 := Int.emod_nonneg (T * y + m * T + S) (show B ≠ 0 by omega)
  have u1 := Int.emod_lt_of_pos (T * y + m * T + S) hB
  constructor
  · have h : m * T / B + (T * y + S) / B ≤ (T * y + m * T + S) / B := by
      rw [Int.le_ediv_iff_mul_le hB, Int.add_mul, Int.mul_comm _ B, Int.mul_comm _ B]
      omega
    omega
  · rw [Int.le_ediv_iff_mul_le hB, Int.sub_mul, Int.mul_comm _ B, Int.mul_comm _ B]
    omega
theorem add_round {T B S : Int} (hB : 1 ≤ B) : add T B S (0 + B) - add T B S 0 = T := by
  unfold add
  rw [Int.zero_add, Int.mul_zero, Int.add_comm (T * B), Int.add_mul_ediv_right _ _ (by omega), Int.zero_add]
  omega
theorem yr_fst {D T B S y : Int} (r1 : 1 ≤ D) (r2 : 0 ≤ T ∧ T < B) (hs : 1 ≤ D * B + T) : yr D T B S (fst D T B S y) = y := by
  have h := fst_succ (D := D) (T := T) (B := B) (S := S) (y := y) (by omega)
  have a := add_step (S := S) (y := y) r2
  exact yr_eq (by omega) hs (Int.le_refl _) (by omega)
theorem yr_fst1 {D T B S y : Int} (r1 : 1 ≤ D) (r2 : 0 ≤ T ∧ T < B) (hs : 1 ≤ D * B + T) : yr D T B S (fst D T B S y - 1) = y - 1 := by
  have h := fst_succ (D := D) (T := T) (B := B) (S := S) (y := y - 1) (by omega)
  have a := add_step (S := S) (y := y - 1) r2
  rw [Int.sub_add_cancel] at h a
  exact yr_eq (by omega) hs (by omega) (by rw [Int.sub_add_cancel]; omega)

/-! ### rows of numbers that have a thing -/
def cnt (f : Int → Bool) (a : Int) (n : Nat) : Nat := ((List.range n).filter fun (i : Nat) => f (a + i)).length
theorem cnt_succ {f : Int → Bool} {a : Int} (n : Nat) : cnt f a (n + 1) = cnt f a n + (if f (a + n) = true then 1 else 0) := by
  unfold cnt
  rw [List.range_succ, List.filter_append, List.length_append]
  congr 1
  cases h : f (a + (n : Int)) <;> simp [h]
theorem cnt_add {f : Int → Bool} {a : Int} (m n : Nat) : cnt f a (m + n) = cnt f a m + cnt f (a + m) n := by
  induction n with
  | zero => simp [cnt]
  | succ n ih =>
    rw [show m + (n + 1) = m + n + 1 by omega, cnt_succ, cnt_succ, ih, show a + ((m + n : Nat) : Int) = a + (m : Int) + (n : Int) by omega]
    omega
theorem cnt_shift {f : Int → Bool} {c : Int} (per : ∀ y, f (y + c) = f y) (a : Int) (n : Nat) : cnt f (a + c) n = cnt f a n := by
  unfold cnt
  congr 2
  funext i
  rw [show a + c + (i : Int) = a + (i : Int) + c by omega, per]
theorem cnt_rounds {f : Int → Bool} {c : Nat} (per : ∀ y, f (y + c) = f y) (a : Int) (k r : Nat) : cnt f a (k * c + r) = k * cnt f a c + cnt f a r := by
  induction k with
  | zero => simp
  | succ k ih =>
    rw [show (k + 1) * c + r = c + (k * c + r) by rw [Nat.succ_mul]; omega, cnt_add, cnt_shift per, ih, Nat.succ_mul]
    omega
def yrs (f : Int → Bool) (a : Int) (n : Nat) : List Int := ((List.range n).filter fun (i : Nat) => f (a + i)).map fun (i : Nat) => a + (i : Int)
theorem yrs_mem {f : Int → Bool} {a : Int} {n : Nat} {y : Int} : y ∈ yrs f a n ↔ a ≤ y ∧ y < a + n ∧ f y = true := by
  unfold yrs
  simp only [List.mem_map, List.mem_filter, List.mem_range]
  constructor
  · rintro ⟨i, ⟨hi, hf⟩, rfl⟩
    exact ⟨by omega, by omega, hf⟩
  · rintro ⟨h1, h2, h3⟩
    refine ⟨(y - a).toNat, ⟨by omega, ?_⟩, by omega⟩
    rw [show a + ((y - a).toNat : Int) = y by omega]
    exact h3
theorem yrs_up (f : Int → Bool) (a : Int) (n : Nat) : (yrs f a n).Pairwise (· < ·) := by
  unfold yrs
  rw [List.pairwise_map]
  refine List.Pairwise.imp ?_ ((List.pairwise_lt_range (n := n)).filter _)
  intro i j h
  omega
theorem up_at {xs : List Int} (h : xs.Pairwise (· < ·)) {i j : Nat} {y z : Int} (hi : xs[i]? = some y) (hj : xs[j]? = some z) : i < j → y < z := by
  intro ij
  obtain ⟨i1, rfl⟩ := List.getElem?_eq_some_iff.mp hi
  obtain ⟨j1, rfl⟩ := List.getElem?_eq_some_iff.mp hj
  exact List.pairwise_iff_getElem.mp h i j i1 j1 ij
/-- two rising rows with the same members are the same -/
theorem up_same {xs ys : List Int} (h : xs.Pairwise (· < ·)) (h' : ys.Pairwise (· < ·)) (m : ∀ k, k ∈ xs ↔ k ∈ ys) : xs = ys := by
  induction xs generalizing ys with
  | nil =>
    cases ys with
    | nil => rfl
    | cons y ys => exact absurd ((m y).mpr List.mem_cons_self) List.not_mem_nil
  | cons x xs ih =>
    cases ys with
    | nil => exact absurd ((m x).mp List.mem_cons_self) List.not_mem_nil
    | cons y ys =>
      rw [List.pairwise_cons] at h h'
      have exy : x = y := by
        rcases List.mem_cons.mp ((m x).mp List.mem_cons_self) with e | e
        · exact e
        · rcases List.mem_cons.mp ((m y).mpr List.mem_cons_self) with e' | e'
          · exact e'.symm
          · have := h'.1 x e
            have := h.1 y e'
            omega
      subst exy
      congr 1
      refine ih h.2 h'.2 fun k => ⟨fun hk => ?_, fun hk => ?_⟩
      · rcases List.mem_cons.mp ((m k).mp (List.mem_cons_of_mem _ hk)) with e | e
        · have := h.1 k hk
          omega
        · exact e
      · rcases List.mem_cons.mp ((m k).mpr (List.mem_cons_of_mem _ hk)) with e | e
        · have := h'.1 k hk
          omega
        · exact e

theorem per_many {f : Int → Bool} {c : Nat} (per : ∀ y, f (y + c) = f y) (y t : Int) : f (y + t * c) = f y := by
  have up : ∀ (n : Nat) (y : Int), f (y + n * c) = f y := by
    intro n
    induction n with
    | zero => intro y; simp
    | succ n ih =>
      intro y
      rw [show y + ((n + 1 : Nat) : Int) * c = (y + n * c) + c by rw [Int.natCast_add, Int.add_mul]; omega, per, ih]
  by_cases h : 0 ≤ t
  · have := up t.toNat y
    rwa [show ((t.toNat : Nat) : Int) = t by omega] at this
  · have := up (-t).toNat (y + t * c)
    rw [show (((-t).toNat : Nat) : Int) = -t by omega, Int.neg_mul, show y + t * (c : Int) + -(t * (c : Int)) = y by omega] at this
    exact this.symm
theorem yrs_none {f : Int → Bool} {a : Int} {n : Nat} (h : yrs f a n = []) (k : Nat) (hk : k < n) : f (a + k) = false := by
  cases e : f (a + k) with
  | false => rfl
  | true =>
    have m : a + (k : Int) ∈ yrs f a n := yrs_mem.mpr ⟨by omega, by omega, e⟩
    rw [h] at m
    cases m
theorem yrs_first {f : Int → Bool} {a : Int} {n : Nat} {y : Int} {r : List Int} (h : yrs f a n = y :: r) : ∃ k : Nat, k < n ∧ y = a + k ∧ f (a + k) = true ∧ ∀ j : Nat, j < k → f (a + j) = false := by
  have m := yrs_mem.mp (show y ∈ yrs f a n by rw [h]; exact List.mem_cons_self)
  have up := yrs_up f a n
  rw [h, List.pairwise_cons] at up
  refine ⟨(y - a).toNat, by omega, by omega, ?_, fun j hj => ?_⟩
  · rw [show a + ((y - a).toNat : Int) = y by omega]
    exact m.2.2
  · cases e : f (a + j) with
    | false => rfl
    | true =>
      have mj : a + (j : Int) ∈ yrs f a n := yrs_mem.mpr ⟨by omega, by omega, e⟩
      rw [h] at mj
      rcases List.mem_cons.mp mj with z | z
      · omega
      · have := up.1 _ z
        omega
theorem yrs_later {f : Int → Bool} {a : Int} {n m : Nat} (hm : m ≤ n) : (yrs f a n).filter (fun y => decide (y ≥ a + m)) = yrs f (a + m) (n - m) := by
  refine up_same ((yrs_up f a n).filter _) (yrs_up f (a + m) (n - m)) fun k => ?_
  rw [List.mem_filter, yrs_mem, yrs_mem]
  simp only [decide_eq_true_eq]
  constructor
  · rintro ⟨⟨h1, h2, h3⟩, h4⟩
    exact ⟨by omega, by omega, h3⟩
  · rintro ⟨h1, h2, h3⟩
    exact ⟨⟨by omega, by omega, h3⟩, by omega⟩
/-- none from a + m on in this turn: the first of the next turn is the first -/
theorem yrs_over {f : Int → Bool} {c : Nat} (per : ∀ y, f (y + c) = f y) {a : Int} {m : Nat} {y : Int} {r : List Int} (hm : m ≤ c) (h : yrs f a c = y :: r) (no : yrs f (a + m) (c - m) = []) :
    ∃ k : Nat, k < c ∧ y + c = a + m + k ∧ f (a + m + k) = true ∧ ∀ j : Nat, j < k → f (a + m + j) = false := by
  obtain ⟨k, kc, rfl, hk, before⟩ := yrs_first h
  have km : k < m := by
    rcases Nat.lt_or_ge k m with l | g
    · exact l
    · have := yrs_none no (k - m) (by omega)
      rw [show a + (m : Int) + ((k - m : Nat) : Int) = a + k by omega, hk] at this
      cases this
  refine ⟨k + c - m, by omega, by omega, ?_, fun j hj => ?_⟩
  · rw [show a + (m : Int) + ((k + c - m : Nat) : Int) = a + k + c by omega, per]
    exact hk
  · rcases Nat.lt_or_ge (m + j) c with l | g
    · exact yrs_none no j (by omega)
    · have := before (m + j - c) (by omega)
      rw [← per, show a + ((m + j - c : Nat) : Int) + c = a + m + j by omega] at this
      exact this
theorem yrs_cnt (f : Int → Bool) (a : Int) (n : Nat) : (yrs f a n).length = cnt f a n := by
  unfold yrs cnt
  rw [List.length_map]

/-- the first of a row, None where there is none -/
def hd : List Int → V
  | [] => .non
  | y :: _ => .int y
theorem hd_first {f : Int → Bool} {a : Int} {n k : Nat} (kn : k < n) (hk : f (a + k) = true) (before : ∀ j : Nat, j < k → f (a + j) = false) : hd (yrs f a n) = .int (a + k) := by
  cases h : yrs f a n with
  | nil =>
    have := yrs_none h k kn
    rw [hk] at this
    cases this
  | cons y r =>
    obtain ⟨k', kn', rfl, hk', before'⟩ := yrs_first h
    rcases Nat.lt_trichotomy k k' with l | e | l
    · rw [before' k l] at hk
      cases hk
    · rw [e]
      rfl
    · rw [before k' l] at hk'
      cases hk'
theorem hd_none {f : Int → Bool} {a : Int} {n : Nat} (no : ∀ k : Nat, k < n → f (a + k) = false) : hd (yrs f a n) = .non := by
  cases h : yrs f a n with
  | nil => rfl
  | cons y r =>
    obtain ⟨k, kn, _, hk, _⟩ := yrs_first h
    rw [no k kn] at hk
    cases hk
/-- where a row from a later year on is empty, the first one of the whole row a turn later -/
def hdOr (zs xs : List Int) (c : Int) : V := match zs, xs with
  | z :: _, _ => .int z
  | [], y :: _ => .int (y + c)
  | [], [] => .non
theorem hd_turn {f : Int → Bool} {c : Nat} (per : ∀ y, f (y + c) = f y) {a : Int} {m : Nat} (hm : m ≤ c) : hd (yrs f (a + m) c) = hdOr (yrs f (a + m) (c - m)) (yrs f a c) c := by
  cases hz : yrs f (a + m) (c - m) with
  | cons z r =>
    obtain ⟨k, kc, rfl, hk, before⟩ := yrs_first hz
    exact hd_first (by omega) hk before
  | nil =>
    cases hx : yrs f a c with
    | cons y r =>
      obtain ⟨k, kc, e, hk, before⟩ := yrs_over per hm hx hz
      rw [hd_first kc hk before, ← e]
      rfl
    | nil =>
      refine hd_none fun k kc => ?_
      by_cases l : m + k < c
      · have := yrs_none hx (m + k) l
        rwa [show a + ((m + k : Nat) : Int) = a + m + k by omega] at this
      · have := yrs_none hx (m + k - c) (by omega)
        rw [← per, show a + ((m + k - c : Nat) : Int) + c = a + m + k by omega] at this
        exact this
theorem sm_hd {H : Hp} {n : Nat} (xs : List Int) : Sm H n (hd xs) (hd xs) := by
  cases xs with
  | nil => exact .non
  | cons x xs => exact .int x
theorem sm_ints {H : Hp} {n : Nat} {a b : Addr} {ns : List Int} (ha : H a = some (.tup (ns.map V.int))) (hb : H b = some (.tup (ns.map V.int))) (hz : ns.length ≤ 1000) : Sm H (n + 1) (.ref a) (.ref b) :=
  .tup ha hb rfl (by rw [List.length_map]; exact hz) fun i x y hx hy => by
    rw [hx] at hy
    cases hy
    rw [List.getElem?_map] at hx
    cases hz : ns[i]? with
    | none => rw [hz] at hx; cases hx
    | some z => rw [hz] at hx; cases hx; exact .int z

theorem few {xs ys : List Int} (nd : xs.Nodup) (sub : ∀ x ∈ xs, x ∈ ys) : xs.length ≤ ys.length := by
  induction xs generalizing ys with
  | nil => exact Nat.zero_le _
  | cons x xs ih =>
    rw [List.nodup_cons] at nd
    have mx := sub x List.mem_cons_self
    have h := ih (ys := ys.erase x) nd.2 fun y hy => (List.mem_erase_of_ne (fun (e : y = x) => nd.1 (e ▸ hy))).mpr (sub y (List.mem_cons_of_mem _ hy))
    rw [List.length_erase_of_mem mx] at h
    have := List.length_pos_of_mem mx
    rw [List.length_cons]
    omega
theorem ex_put {H H' : Hp} {l : Addr} {o : HO} (e : Ex H H') (n : H l = none) : Ex H (upd H' l o) := fun a u h => by
  have ne : a ≠ l := fun z => by
    rw [z, n] at h
    cases h
  rw [upd_ne ne]
  exact e a u h
theorem inV_int (k : Int) : ∀ xs : List Int, inV (.int k) (xs.map V.int) = decide (k ∈ xs) := fun xs => by
  induction xs with
  | nil => rfl
  | cons x xs ih =>
    unfold inV at ih ⊢
    rw [List.map_cons, List.any_cons, ih]
    by_cases e : x = k
    · subst e
      simp [eqV]
    · have e' : ¬ k = x := fun z => e z.symm
      simp [eqV, e, e']
theorem flat_ints (xs : List Int) : (xs.map V.int).all flatV = true := by
  rw [List.all_map, List.all_eq_true]
  intro x _
  rfl
theorem cut_tail (xs : List V) : cutV xs (some 1) none = xs.drop 1 := by
  unfold cutV HT.sIx
  cases xs with
  | nil => rfl
  | cons x xs => simp
theorem cut_head (xs : List V) : cutV xs none (some 1) = xs.take 1 := by
  unfold cutV HT.sIx
  cases xs with
  | nil => rfl
  | cons x xs => simp
theorem given_all (n : Nat) (v : Nat → V) : given n (fun _ => true) v = (List.range n).map v := by
  unfold given
  rw [List.filter_eq_self.mpr fun _ _ => rfl]
theorem range_ints (xs : List Int) (g : Int → Int) : ((List.range xs.length).map fun i => V.int (g (xs[i]?.getD 0))) = (xs.map g).map V.int := by
  refine List.ext_getElem? fun i => ?_
  simp only [List.getElem?_map]
  by_cases h : i < xs.length
  · rw [List.getElem?_range h]
    show some (V.int (g (xs[i]?.getD 0))) = _
    rw [List.getElem?_eq_getElem h]
    rfl
  · rw [List.getElem?_eq_none (by rw [List.length_range]; omega), List.getElem?_eq_none (by omega)] <;> rfl
theorem given_ints (n : Nat) (p : Nat → Bool) (g : Nat → Int) : given n p (fun j => V.int (g j)) = (((List.range n).filter p).map g).map V.int := by
  unfold given
  rw [List.map_map]
  rfl
theorem none_any (n : Nat) (p : Nat → Bool) (g : Nat → Int) : decide (((List.range n).filter p).map g = []) = !((List.range n).any p) := by
  rw [Bool.eq_iff_iff, decide_eq_true_iff, List.map_eq_nil_iff, List.filter_eq_nil_iff]
  simp
theorem inV_any (k : Int) (n : Nat) (g : Nat → Int) : inV (.int k) (((List.range n).map g).map V.int) = (List.range n).any fun j => decide (g j = k) := by
  rw [inV_int, Bool.eq_iff_iff, decide_eq_true_iff, List.any_eq_true, List.mem_map]
  constructor
  · rintro ⟨j, hj, e⟩
    exact ⟨j, hj, decide_eq_true e⟩
  · rintro ⟨j, hj, e⟩
    exact ⟨j, hj, of_decide_eq_true e⟩
theorem ite_else {b : Bool} {X Y : Prop} (h : b = true → Y → X) (y : Y) : if b = true then X else Y := by
  cases b with
  | false => exact y
  | true => exact h rfl y
theorem if_join {b : Bool} {X : Prop} {N : Hp → Prop} {H : Hp} (h : b = true → (∀ H', Ex H H' → N H') → X) (n : ∀ H', Ex H H' → N H') : if b = true then X else N H := by
  cases b with
  | false => exact n H (Ex.refl H)
  | true => exact h rfl n
theorem iteD {c A B : Prop} [Decidable c] (hc : c) (h : A) : if decide c = true then A else B := by
  rw [decide_eq_true hc]
  exact iteT h
theorem iteND {c A B : Prop} [Decidable c] (hc : ¬ c) (h : B) : if decide c = true then A else B := by
  rw [decide_eq_false hc]
  exact iteF h
theorem at_map {n : Nat} {g : Nat → V} {i : Int} (h0 : 0 ≤ i) (h1 : i.toNat < n) : atI ((List.range n).map g) i = some (g i.toNat) := by
  unfold atI ixN
  rw [List.length_map, List.length_range, if_pos h0, if_pos (by omega)]
  show ((List.range n).map g)[i.toNat]? = _
  rw [List.getElem?_map, List.getElem?_range h1]
  rfl
section
variable {K : PySem.W.Frag} {H : Hp} {Q : VK} {σ : L2.St} {a b : Addr} {i j k : Nat} {xs zs : List Int}
theorem ix_first {x : Int} {xs : List Int} (ha : SqL K H a ((x :: xs).map V.int)) (q : Q (.int x) H) : rIxL K (.ref a) (.int 0) H Q := ⟨a, _, 0, _, rfl, rfl, ha, by unfold atI ixN; simp, q⟩
theorem if_hd (hσ : σ[i]? = some (some (.ref a))) (ha : SqL K H a (xs.map V.int)) (q : Q (hd xs) H) : if (!decide (xs = [])) = true then tOp (rIxL K) (tVar i) (tC (.int 0)) σ H Q else tC .non σ H Q := by
  cases xs with
  | nil => exact iteF q
  | cons x xs => exact iteT ⟨_, hσ, ix_first ha q⟩
theorem if_hdOr {c : Int} (hσ : σ[i]? = some (some (.ref a))) (hj : σ[j]? = some (some (.int c))) (ha : SqL K H a (xs.map V.int)) (e : zs = []) (q : Q (hdOr zs xs c) H) : if (!decide (xs = [])) = true then tOp (rI0 fun i j => .int (i + j)) (tOp (rIxL K) (tVar i) (tC (.int 0))) (tVar j) σ H Q else tC .non σ H Q := by
  subst e
  cases xs with
  | nil => exact iteF q
  | cons x xs => exact iteT ⟨_, hσ, ix_first (Q := fun x H1 => tVar j σ H1 fun y H2 => rI0 (fun i j => .int (i + j)) x y H2 Q) ha ⟨_, hj, _, _, rfl, rfl, q⟩⟩
theorem if_later {c : Int} (hi : σ[i]? = some (some (.ref a))) (hj : σ[j]? = some (some (.ref b))) (hk : σ[k]? = some (some (.int c))) (ha : H a = some (.lst (zs.map V.int))) (hb : H b = some (.lst (xs.map V.int))) (q : ∀ H', Ex H H' → Q (hdOr zs xs c) H') :
    tIf (tTest (tOp (rNeD K) (tVar i) (tLst tNil))) (tOp (rIxL K) (tVar i) (tC (.int 0))) (tIf (tTest (tOp (rNeD K) (tVar j) (tLst tNil))) (tOp (rI0 fun i j => .int (i + j)) (tOp (rIxL K) (tVar j) (tC (.int 0))) (tVar k)) (tC .non)) σ H Q := by
  refine ⟨_, hi, by decide, fun p np => ?_⟩
  have x := Ex.new (o := .lst []) np
  refine ne_lsts (ns := zs) (ms := []) (sq_of (x _ _ ha)) (sq_of upd_same) ⟨_, rfl, ?_⟩
  cases zs with
  | cons z zs => exact iteT ⟨_, hi, ix_first (sq_of (x _ _ ha)) (q _ x)⟩
  | nil =>
    refine iteF ⟨_, hj, by decide, fun p' np' => ?_⟩
    have x' := Ex.new (o := .lst []) np'
    have xx := x.trans x'
    exact ne_lsts (ns := xs) (ms := []) (sq_of (xx _ _ hb)) (sq_of upd_same) ⟨_, rfl, if_hdOr hj hk (sq_of (xx _ _ hb)) rfl (q _ xx)⟩
end

theorem cut_mem {xs : List V} {lo hi : Option Int} {x : V} (h : x ∈ cutV xs lo hi) : x ∈ xs := by
  unfold cutV at h
  exact List.mem_of_mem_drop (List.mem_of_mem_take h)
theorem cells_int {ns : List Int} {lo hi : Option Int} {i : Nat} {x : V} (h : (cutV (V.int 0 :: ns.map V.int) lo hi)[i]? = some x) : ∃ c : Int, x = .int c := by
  have hm := cut_mem (List.mem_of_getElem? h)
  rcases List.mem_cons.mp hm with rfl | there
  · exact ⟨0, rfl⟩
  · obtain ⟨c, _, rfl⟩ := List.mem_map.mp there
    exact ⟨c, rfl⟩

/-! ### what stands through a cell's turn -/
structure Cv (p : Addr) (cells : List V) (v : V) (D T B S : Int) (d : Addr) (n : Nat) (H : Hp) : Prop where
  hp : H p = some (.lst cells)
  ne : p ≠ d
  land : Land H v D T B S
  dk : Dk n H d
section
variable {p d : Addr} {cells : List V} {v : V} {D T B S : Int} {n m : Nat} {H H' : Hp}
theorem Cv.ex (c : Cv p cells v D T B S d n H) (e : Ex H H') : Cv p cells v D T B S d n H' := ⟨e _ _ c.hp, c.ne, c.land.ex e, c.dk.ex e⟩
theorem Cv.exd (c : Cv p cells v D T B S d n H) (e : ExD d H H') (k : Dk m H' d) : Cv p cells v D T B S d m H' := ⟨e _ _ c.ne c.hp, c.ne, e.land c.dk c.land, k⟩
end
def spLaw (K : PySem.W.Frag) : Sp := fun vs H Q _ => ∃ (a : Addr) (ns : List Int), vs = [.ref a] ∧ SqL K H a (ns.map V.int) ∧ ns.length ≤ 63 ∧ ∀ H', Q (.bl true) H'

section
variable {P : Program} {w : World} {K : PySem.W.Frag} {mg : Str → Option Value} {base : Heap}
theorem fun_okN {x qual : Str} {st : Stmt} {f : Addr} {fd : FuncData} {N ps : List Str} {k : Nat} {sp : Sp} (F : Fun K x qual st f fd) (S : FnScope N ps (defScope st)) (len : ∀ vs H Q E, sp vs H Q E → vs.length = ps.length)
    (body : ∀ (cdv : Value) (A : Around) (outer : List Env) (s : Shared) (H : Hp) (vs : List V) (Q : VK) (E : XK), Room k (A.deeper (envOfC qual (defScope st) s.heap.objs.size f cdv)) → sp vs H Q E →
      ∃ t, PSs (cxOf (L2N.CX P w) P w K mg base N qual (defScope st) f cdv A outer s H E) (defBody st) t ∧ t { nx := fun _ H' => Q .non H', rt := Q } (L2.start N vs) H) : FnOk P w K mg base (L2N.CX P w) (k + 1) f fd ps sp := by
  obtain ⟨_, _, _, _, _, _, cdv, _, _, made, lk, cd⟩ := F.ex
  subst made
  exact ⟨len, fun A outer s H args us vs Q E hr e0 hb r h => LamX.run_ofS lk cd S hr e0 hb r (len _ _ _ _ h) fun hr1 => body cdv A outer s H vs Q E hr1 h⟩
end

/-! ### weeks: what is asked -/
abbrev Far' (i : Int) : Prop := -1000000000000000000000000000000 ≤ i ∧ i ≤ 1000000000000000000000000000000
section
variable {P : Program} {w : World} {K : PySem.W.Frag} {mg : Str → Option Value} {base : Heap}
def spTwo : Sp := fun vs H Q _ => ∃ i j : Int, vs = [.int i, .int j] ∧ Far' i ∧ Far' j ∧ i ≤ j ∧ RetV .non H Q
def spPlace : Sp := fun vs H Q _ => ∃ v D T B S i, vs = [v, .int i] ∧ Land H v D T B S ∧ (0 ≤ i ∧ i < D) ∧ RetV .non H Q
def spWeek : Sp := fun vs H Q _ => ∃ i : Int, vs = [.int i] ∧ (1 ≤ i ∧ i ≤ 20) ∧ RetV .non H Q
def spName : Sp := fun vs H Q _ => ∃ k i : Int, vs = [.int k, .int i] ∧ (0 ≤ i ∧ i < k) ∧ RetV .non H Q
/-- a land, a place, a week and a day of it -/
def Asked (H : Hp) (v : V) (D T B S pl wk nm : Int) : Prop := Land H v D T B S ∧ (0 ≤ pl ∧ pl < D) ∧ (1 ≤ wk ∧ wk ≤ 20) ∧ (0 ≤ nm ∧ nm < wk)
theorem Asked.ex {H H' : Hp} {v : V} {D T B S pl wk nm : Int} (e : Ex H H') (h : Asked H v D T B S pl wk nm) : Asked H' v D T B S pl wk nm := ⟨h.1.ex e, h.2⟩
def spAsked : Sp := fun vs H Q _ => ∃ v D T B S pl wk nm, vs = [v, .int pl, .int wk, .int nm] ∧ Asked H v D T B S pl wk nm ∧ RetV .non H Q
end

/-! ### what is refused -/
/-- the error C goes out -/
def Out (C : Addr) (E : XK) (H : Hp) : Prop := ∀ H', Ex H H' → E (.ref C) none H'
theorem Out.mono {C : Addr} {E : XK} {H H' : Hp} (h : Out C E H) (e : Ex H H') : Out C E H' := fun _ e2 => h _ (e.trans e2)
/-- a number out of its bounds, or none -/
def Bad (H : Hp) (x : V) (lo hi : Int) : Prop := ∃ k, Dat H x k ∧ btw x lo hi = false
theorem Bad.ex {H H' : Hp} {x : V} {lo hi : Int} (h : Bad H x lo hi) (e : Ex H H') : Bad H' x lo hi := let ⟨k, d, n⟩ := h; ⟨k, d.ex e, n⟩
/-- no land -/
def NoL (H : Hp) (v : V) : Prop := ∃ t, Dat H v t ∧ Parts H v ∧ landB H v = false
theorem NoL.ex {H H' : Hp} {v : V} (h : NoL H v) (e : Ex H H') : NoL H' v := by
  obtain ⟨t, d, pt, no⟩ := h
  refine ⟨t, d.ex e, ?_, ?_⟩
  · rintro a xs rfl ha y hy
    cases d with
    | lst h => rw [e _ _ h] at ha; cases ha
    | tup h =>
      rw [e _ _ h] at ha
      cases ha
      obtain ⟨u, du⟩ := pt _ _ rfl h y hy
      exact ⟨u, du.ex e⟩
  · cases d with
    | non => rfl
    | bl b => rfl
    | int i => rfl
    | str x => rfl
    | lst h => exact landB_lst (e _ _ h)
    | tup h =>
      rw [landB_tup h] at no
      rw [landB_tup (e _ _ h)]
      exact no
/-- two numbers within bounds, the second no less, are not what these are -/
inductive NoTwo (H : Hp) (lo hi : Int) : V → V → Prop
  | first {x y : V} : Bad H x lo hi → NoTwo H lo hi x y
  | last {i : Int} {y : V} : (lo ≤ i ∧ i ≤ hi) → Bad H y lo hi → NoTwo H lo hi (.int i) y
  | less {i j : Int} : (lo ≤ i ∧ i ≤ hi) → (lo ≤ j ∧ j ≤ hi) → j < i → NoTwo H lo hi (.int i) (.int j)
theorem NoTwo.ex {H H' : Hp} {lo hi : Int} {x y : V} (h : NoTwo H lo hi x y) (e : Ex H H') : NoTwo H' lo hi x y := by
  cases h with
  | first b => exact .first (b.ex e)
  | last r b => exact .last r (b.ex e)
  | less r r' l => exact .less r r' l
/-- where a week is asked for, the first that is none -/
inductive NoAsk (CL CP CW CN : Addr) (H : Hp) (E : XK) : V → V → V → V → Prop
  | land {v x y z : V} : NoL H v → Out CL E H → NoAsk CL CP CW CN H E v x y z
  | place {v x y z : V} {D T B S : Int} : Land H v D T B S → Bad H x 0 (D - 1) → Out CP E H → NoAsk CL CP CW CN H E v x y z
  | week {v y z : V} {D T B S i : Int} : Land H v D T B S → (0 ≤ i ∧ i < D) → Bad H y 1 20 → Out CW E H → NoAsk CL CP CW CN H E v (.int i) y z
  | name {v z : V} {D T B S i k : Int} : Land H v D T B S → (0 ≤ i ∧ i < D) → (1 ≤ k ∧ k ≤ 20) → Bad H z 0 (k - 1) → Out CN E H → NoAsk CL CP CW CN H E v (.int i) (.int k) z
/-- where two lands are asked for, the first that is none -/
inductive NoBoth (CL CP : Addr) (H : Hp) (E : XK) : V → V → V → V → Prop
  | land {v x v' x' : V} : NoL H v → Out CL E H → NoBoth CL CP H E v x v' x'
  | place {v x v' x' : V} {D T B S : Int} : Land H v D T B S → Bad H x 0 (D - 1) → Out CP E H → NoBoth CL CP H E v x v' x'
  | other {v v' x' : V} {D T B S i : Int} : Land H v D T B S → (0 ≤ i ∧ i < D) → NoL H v' → Out CL E H → NoBoth CL CP H E v (.int i) v' x'
  | there {v v' x' : V} {D T B S i D' T' B' S' : Int} : Land H v D T B S → (0 ≤ i ∧ i < D) → Land H v' D' T' B' S' → Bad H x' 0 (D' - 1) → Out CP E H → NoBoth CL CP H E v (.int i) v' x'
section
variable {P : Program} {w : World} {K : PySem.W.Frag} {mg : Str → Option Value} {base : Heap}
def spNeedLandB (C : Addr) : Sp := fun vs H Q E => ∃ v, vs = [v] ∧ ((NoL H v ∧ Out C E H) ∨ (∃ D T B S, Land H v D T B S ∧ RetV .non H Q))
theorem both_need_land (T : Txt K mg) : FnOk P w K mg base (L2N.CX P w) 4 T.need_land.f T.need_land.fd ["thing"] (spNeedLandB T.C_NoLand) := by
  have G_is_land : FnOk P w K mg base CX0 3 T.is_land.f T.is_land.fd ["thing"] spIsLand := ok_is_land T
  refine fun_okN T.need_land.F sc_need_land (fun vs H Q E h => ?_) (fun cdv A outer s H vs Q E hr h => ?_)
  · obtain ⟨_, rfl, _⟩ := h
    rfl
  · obtain ⟨v, rfl, h⟩ := h
    refine ⟨_, (pss_one (ps_if (pt_not (pt_val (pe_call G_is_land (hr.mono (by omega)) (by rfl) T.is_land.g T.is_land.F.kp T.is_land.b .nil pass0 (pa_cons (pv 0) pa_nil))))
        (pss_one (L2N.ps_raise rfl (L2N.takes_of rfl rfl rfl rfl) (L2N.pmk_own PySem.F.excBase_ValueError T.err_NoLand.ex T.g_NoLand T.err_NoLand.kp (raises_own T.err_NoLand.sb T.err_NoLand.tp) rfl)))
        pss_nil)), ?_⟩
    rcases h with ⟨⟨t, d, pt, no⟩, out⟩ | ⟨D, T1, B, S, hl, q⟩
    · refine ⟨_, rfl, v, t, rfl, d, pt, fun H1 e1 => ⟨_, rfl, ?_⟩⟩
      rw [no]
      exact iteT (out H1 e1)
    · refine ⟨_, rfl, v, _, rfl, hl.parts.2, hl.parts.1, fun H1 e1 => ⟨_, rfl, ?_⟩⟩
      rw [hl.is]
      exact iteF (q H1 e1)
def spNumB (C : Addr) (lo hi : Int) : Sp := fun vs H Q E => ∃ x, vs = [x] ∧ ((Bad H x lo hi ∧ Out C E H) ∨ (∃ i, x = .int i ∧ (lo ≤ i ∧ i ≤ hi) ∧ RetV .non H Q))
theorem both_need_year (T : Txt K mg) : FnOk P w K mg base (L2N.CX P w) 3 T.need_year.f T.need_year.fd ["thing"] (spNumB T.C_NoYear (-1000000000000000000000000000000) 1000000000000000000000000000000) := by
  have G_is_between : FnOk P w K mg base CX0 2 T.is_between.f T.is_between.fd ["thing", "least", "most"] spBetween := ok_is_between T
  refine fun_okN T.need_year.F sc_need_year (fun vs H Q E h => ?_) (fun cdv A outer s H vs Q E hr h => ?_)
  · obtain ⟨_, rfl, _⟩ := h
    rfl
  · obtain ⟨x, rfl, h⟩ := h
    refine ⟨_, (pss_one (ps_if (pt_not (pt_val (pe_call G_is_between (hr.mono (by omega)) (by rfl) T.is_between.g T.is_between.F.kp T.is_between.b .nil pass0 (pa_cons (pv 0) (pa_cons (pe_un un_neg (pe_glob (v := .int 1000000000000000000000000000000) rfl T.c_FARTHEST ⟨_, rfl⟩)) (pa_cons (pe_glob (v := .int 1000000000000000000000000000000) rfl T.c_FARTHEST ⟨_, rfl⟩) pa_nil))))))
        (pss_one (L2N.ps_raise rfl (L2N.takes_of rfl rfl rfl rfl) (L2N.pmk_own PySem.F.excBase_ValueError T.err_NoYear.ex T.g_NoYear T.err_NoYear.kp (raises_own T.err_NoYear.sb T.err_NoYear.tp) rfl)))
        pss_nil)), ?_⟩
    rcases h with ⟨⟨k, dk, no⟩, out⟩ | ⟨i, rfl, hi, q⟩
    · refine ⟨_, rfl, _, rfl, _, _, _, _, rfl, dk, fun H1 e1 => ⟨_, rfl, ?_⟩⟩
      rw [no]
      exact iteT (out H1 e1)
    · refine ⟨_, rfl, _, rfl, _, _, _, _, rfl, .int i, fun H1 e1 => ⟨_, rfl, ?_⟩⟩
      rw [btw_yes hi]
      exact iteF (q H1 e1)
theorem both_need_day (T : Txt K mg) : FnOk P w K mg base (L2N.CX P w) 3 T.need_day.f T.need_day.fd ["thing"] (spNumB T.C_NoDay (-1000000000000000000000000000000) 1000000000000000000000000000000) := by
  have G_is_between : FnOk P w K mg base CX0 2 T.is_between.f T.is_between.fd ["thing", "least", "most"] spBetween := ok_is_between T
  refine fun_okN T.need_day.F sc_need_day (fun vs H Q E h => ?_) (fun cdv A outer s H vs Q E hr h => ?_)
  · obtain ⟨_, rfl, _⟩ := h
    rfl
  · obtain ⟨x, rfl, h⟩ := h
    refine ⟨_, (pss_one (ps_if (pt_not (pt_val (pe_call G_is_between (hr.mono (by omega)) (by rfl) T.is_between.g T.is_between.F.kp T.is_between.b .nil pass0 (pa_cons (pv 0) (pa_cons (pe_un un_neg (pe_glob (v := .int 1000000000000000000000000000000) rfl T.c_FARTHEST ⟨_, rfl⟩)) (pa_cons (pe_glob (v := .int 1000000000000000000000000000000) rfl T.c_FARTHEST ⟨_, rfl⟩) pa_nil))))))
        (pss_one (L2N.ps_raise rfl (L2N.takes_of rfl rfl rfl rfl) (L2N.pmk_own PySem.F.excBase_ValueError T.err_NoDay.ex T.g_NoDay T.err_NoDay.kp (raises_own T.err_NoDay.sb T.err_NoDay.tp) rfl)))
        pss_nil)), ?_⟩
    rcases h with ⟨⟨k, dk, no⟩, out⟩ | ⟨i, rfl, hi, q⟩
    · refine ⟨_, rfl, _, rfl, _, _, _, _, rfl, dk, fun H1 e1 => ⟨_, rfl, ?_⟩⟩
      rw [no]
      exact iteT (out H1 e1)
    · refine ⟨_, rfl, _, rfl, _, _, _, _, rfl, .int i, fun H1 e1 => ⟨_, rfl, ?_⟩⟩
      rw [btw_yes hi]
      exact iteF (q H1 e1)
def spPlaceB (C : Addr) : Sp := fun vs H Q E => ∃ v D T B S x, vs = [v, x] ∧ Land H v D T B S ∧ ((Bad H x 0 (D - 1) ∧ Out C E H) ∨ (∃ i, x = .int i ∧ (0 ≤ i ∧ i < D) ∧ RetV .non H Q))
def spNameB (C : Addr) : Sp := fun vs H Q E => ∃ (n : Int) (x : V), vs = [.int n, x] ∧ ((Bad H x 0 (n - 1) ∧ Out C E H) ∨ (∃ i, x = .int i ∧ (0 ≤ i ∧ i < n) ∧ RetV .non H Q))
def spTwoNo (C : Addr) : Sp := fun vs H _ E => ∃ x y, vs = [x, y] ∧ NoTwo H (-1000000000000000000000000000000) 1000000000000000000000000000000 x y ∧ Out C E H
def spAskB (CL CP CW CN : Addr) : Sp := fun vs H Q E => ∃ v x y z, vs = [v, x, y, z] ∧ (NoAsk CL CP CW CN H E v x y z ∨ (∃ D T B S i k n, x = .int i ∧ y = .int k ∧ z = .int n ∧ Asked H v D T B S i k n ∧ RetV .non H Q))
def spBothB (CL CP : Addr) : Sp := fun vs H Q E => ∃ v x v' x', vs = [v, x, v', x'] ∧ (NoBoth CL CP H E v x v' x' ∨ (∃ D T B S i D' T' B' S' j, x = .int i ∧ x' = .int j ∧ Land H v D T B S ∧ (0 ≤ i ∧ i < D) ∧ Land H v' D' T' B' S' ∧ (0 ≤ j ∧ j < D') ∧ RetV .non H Q))
end

/-! ### a realm: its rows of a start and a land -/
structure Row where
  st : V
  D : Int
  T : Int
  B : Int
  S : Int
/-- the pair at r is the row w -/
def RowAt (H : Hp) (r : V) (w : Row) : Prop := ∃ a v, r = .ref a ∧ H a = some (.tup [w.st, v]) ∧ Land H v w.D w.T w.B w.S
theorem RowAt.ex {H H' : Hp} {r : V} {w : Row} (h : RowAt H r w) (e : Ex H H') : RowAt H' r w := let ⟨a, v, er, ha, hl⟩ := h; ⟨a, v, er, e _ _ ha, hl.ex e⟩
inductive RowsAt (H : Hp) : List V → List Row → Prop
  | nil : RowsAt H [] []
  | cons {r w rs ws} : RowAt H r w → RowsAt H rs ws → RowsAt H (r :: rs) (w :: ws)
section
variable {H H' : Hp} {rs : List V} {ws : List Row}
theorem RowsAt.ex (h : RowsAt H rs ws) (e : Ex H H') : RowsAt H' rs ws := by
  induction h with
  | nil => exact .nil
  | cons a _ ih => exact .cons (a.ex e) ih
theorem tup_ne_lst {a l : Addr} {xs zs : List V} (h : H a = some (.tup xs)) (hl : H l = some (.lst zs)) : a ≠ l := fun e => by rw [e, hl] at h; cases h
theorem Land.but {l : Addr} {zs : List V} {v : V} {D T B S : Int} (h : Land H v D T B S) (hl : H l = some (.lst zs)) (k : ExD l H H') : Land H' v D T B S := let ⟨b, e, hb, r⟩ := h; ⟨b, e, k _ _ (tup_ne_lst hb hl) hb, r⟩
theorem RowsAt.but {l : Addr} {zs : List V} (h : RowsAt H rs ws) (hl : H l = some (.lst zs)) (k : ExD l H H') : RowsAt H' rs ws := by
  induction h with
  | nil => exact .nil
  | cons x _ ih => obtain ⟨a, v, e, ha, hv⟩ := x; exact .cons ⟨a, v, e, k _ _ (tup_ne_lst ha hl) ha, hv.but hl k⟩ ih
theorem RowsAt.len (h : RowsAt H rs ws) : rs.length = ws.length := by
  induction h with
  | nil => rfl
  | cons _ _ ih => simp [ih]
theorem RowsAt.at (all : RowsAt H rs ws) {i : Nat} {r : V} (e : rs[i]? = some r) : ∃ w, ws[i]? = some w ∧ RowAt H r w := by
  induction all generalizing i with
  | nil => cases e
  | cons a _ ih => cases i with
    | zero => cases e; exact ⟨_, rfl, a⟩
    | succ i => exact ih e
theorem RowsAt.row (all : RowsAt H rs ws) {i : Nat} {w : Row} (e : ws[i]? = some w) : ∃ r, rs[i]? = some r ∧ RowAt H r w := by
  induction all generalizing i with
  | nil => cases e
  | cons a _ ih => cases i with
    | zero => cases e; exact ⟨_, rfl, a⟩
    | succ i => exact ih e
theorem RowsAt.snoc (h : RowsAt H rs ws) {r : V} {w : Row} (x : RowAt H r w) : RowsAt H (rs ++ [r]) (ws ++ [w]) := by
  induction h with
  | nil => exact .cons x .nil
  | cons a _ ih => exact .cons a ih
end
/-- at x a realm, its list of pairs at l -/
def RealmAt (C : Addr) (H : Hp) (x l : Addr) (ws : List Row) : Prop := ∃ dx rs, H x = some (.ins C dx [("pairs", .ref l)]) ∧ H l = some (.lst rs) ∧ RowsAt H rs ws ∧ (0 < ws.length ∧ ws.length ≤ 1000)
theorem RealmAt.ex {C : Addr} {H H' : Hp} {x l : Addr} {ws : List Row} (h : RealmAt C H x l ws) (e : Ex H H') : RealmAt C H' x l ws := let ⟨dx, rs, a, b, c, d⟩ := h; ⟨dx, rs, e _ _ a, e _ _ b, c.ex e, d⟩
/-- the land of a day -/
def ruler (ws : List Row) (day : Int) : Row := (ws.drop 1).foldl (fun f w => match w.st with | .int s => if s ≤ day then w else f | _ => f) (ws.headD ⟨.non, 1, 0, 1, 0⟩)
/-- no earlier than its own start; ahead of the next one's -/
def fromB (st : V) (day : Int) : Bool := match st with | .int s => !decide (day < s) | _ => true
def aheadB (st : V) (day : Int) : Bool := match st with | .int s => decide (day < s) | _ => false
/-- whether row i is that of the day -/
def rulesB (ws : List Row) (i : Nat) (day : Int) : Bool := fromB (ws.getD i ⟨.non, 1, 0, 1, 0⟩).st day && (decide (i + 1 = ws.length) || aheadB (ws.getD (i + 1) ⟨.non, 1, 0, 1, 0⟩).st day)
def daysAt (ws : List Row) (y p : Int) : Nat → List Int
  | 0 => []
  | n + 1 => daysAt ws y p n ++ (match ws[n]? with
    | some w => if fst w.D w.T w.B w.S y + p < fst w.D w.T w.B w.S (y + 1) ∧ rulesB ws n (fst w.D w.T w.B w.S y + p) = true then [fst w.D w.T w.B w.S y + p] else []
    | none => [])
/-- all starts but the first are numbers -/
def Started (ws : List Row) : Prop := ∀ i w, ws[i]? = some w → (i = 0 ∧ w.st = .non) ∨ (0 < i ∧ ∃ s : Int, w.st = .int s)
section
variable {P : Program} {w : World} {K : PySem.W.Frag} {mg : Str → Option Value} {base : Heap}
def spPlaceR : Sp := fun vs H Q _ => ∃ i : Int, vs = [.int i] ∧ (0 ≤ i ∧ i ≤ 400) ∧ RetV .non H Q
theorem ok_need_realm_place (T : Txt K mg) : FnOk P w K mg base CX0 3 T.need_realm_place.f T.need_realm_place.fd ["thing"] spPlaceR := by
  have G_is_between : FnOk P w K mg base CX0 2 T.is_between.f T.is_between.fd ["thing", "least", "most"] spBetween := ok_is_between T
  refine T.need_realm_place.F.ok sc_need_realm_place (fun vs H Q E h => ?_) (fun cdv A outer s H vs Q E hr h => ?_)
  · obtain ⟨_, rfl, _⟩ := h
    rfl
  · obtain ⟨i, rfl, hi, q⟩ := h
    refine ⟨_, (pss_one (ps_if (pt_not (pt_val (pe_call G_is_between (hr.mono (by omega)) (by rfl) T.is_between.g T.is_between.F.kp T.is_between.b .nil pass0 (pa_cons (pv 0) (pa_cons pe_int (pa_cons (pe_glob (v := .int 400) rfl T.c_MOST_DAYS ⟨_, rfl⟩) pa_nil))))))
        (pss_one ps_never)
        pss_nil)), ?_⟩
    refine ⟨_, rfl, _, _, _, _, rfl, .int i, fun H1 e1 => ⟨_, rfl, ?_⟩⟩
    rw [btw_yes hi]
    exact iteF (q H1 e1)
def spInitR (C : Addr) : Sp := fun vs H Q _ => ∃ x dx v D T B S, vs = [.ref x, v] ∧ H x = some (.ins C dx []) ∧ Land H v D T B S ∧ ∀ l H', H l = none → ExD x H H' → RealmAt C H' x l [⟨.non, D, T, B, S⟩] → Q .non H'
theorem ok_Realm_init (T : Txt K mg) : FnOk P w K mg base CX0 5 T.Realm_init.f T.Realm_init.fd ["self", "land"] (spInitR T.C_Realm) := by
  have G_need_land : FnOk P w K mg base CX0 4 T.need_land.f T.need_land.fd ["thing"] spNeedLand := ok_need_land T
  refine T.Realm_init.F.ok sc_Realm_init (fun vs H Q E h => ?_) (fun cdv A outer s H vs Q E hr h => ?_)
  · obtain ⟨_, _, _, _, _, _, _, rfl, _⟩ := h
    rfl
  · obtain ⟨x, dx, v, D, T1, B, S, rfl, hx, hL, q⟩ := h
    refine ⟨_, (pss_cons (ps_expr (pe_call G_need_land (hr.mono (by omega)) (by rfl) T.need_land.g T.need_land.F.kp T.need_land.b .nil pass0 (pa_cons (pv 1) pa_nil)))
      (pss_one (ps_fld (pv 0) (pe_lst (pa_cons (pe_tup (pa_cons pe_non (pa_cons (pv 1) pa_nil))) pa_nil)) rfl))), ?_⟩
    refine ⟨_, rfl, _, D, T1, B, S, rfl, hL, fun H1 e1 => ?_⟩
    refine ⟨_, rfl, by show 2 ≤ sizeLine; decide, fun a na => ⟨by show 1 ≤ sizeLine; decide, fun l nl => ?_⟩⟩
    have xl : x ≠ l := ne_of_none (Ex.new na _ _ (e1 _ _ hx)) nl
    have xa : x ≠ a := ne_of_none (e1 _ _ hx) na
    have h2 : upd (upd H1 a (.tup [.non, v])) l (.lst [.ref a]) x = some (.ins T.C_Realm dx []) := by rw [upd_ne xl, upd_ne xa]; exact e1 _ _ hx
    refine ⟨_, rfl, x, T.C_Realm, dx, [], rfl, h2, T.cl_Realm, T.n_Realm_pairs, by decide, ?_⟩
    have el : Ex (upd H1 a (.tup [.non, v])) (upd (upd H1 a (.tup [.non, v])) l (.lst [.ref a])) := Ex.new nl
    have la : l ≠ a := fun z => by rw [z, upd_same] at nl; cases nl
    have kept : ∀ b o, b ≠ x → H b = some o → upd (upd (upd H1 a (.tup [.non, v])) l (.lst [.ref a])) x (.ins T.C_Realm dx (putF "pairs" (.ref l) [])) b = some o := fun b o bx e => (upd_ne bx).trans (el _ _ (Ex.new na _ _ (e1 _ _ e)))
    refine q l _ (fresh_back (e1.trans (Ex.new na)) nl) kept ⟨dx, [.ref a], upd_same, (upd_ne xl.symm).trans upd_same, .cons ⟨a, v, rfl, (upd_ne xa.symm).trans ((upd_ne la.symm).trans upd_same), ?_⟩ .nil, by show 0 < 1; decide, by show 1 ≤ 1000; decide⟩
    obtain ⟨b, rfl, hb, r⟩ := hL
    exact ⟨b, rfl, kept b _ (fun z => by rw [z, hx] at hb; cases hb) hb, r⟩
/-- what a field of a realm holds -/
def spLater (C : Addr) : Sp := fun vs H Q _ => ∃ x l ws r n, vs = [.ref x, .int n] ∧ RealmAt C H x l ws ∧ ws.getLast? = some r ∧ (r.st = .non ∨ ∃ s : Int, r.st = .int s) ∧ RetV (.bl (match r.st with | .int s => decide (s < n) | _ => true)) H Q
theorem last_at {rs : List V} {r : V} (h : rs.getLast? = some r) : atI rs (-1) = some r := by
  have e : rs[rs.length - 1]? = some r := (List.getLast?_eq_getElem? ..).symm.trans h
  have pos : 0 < rs.length := by
    have := (List.getElem?_eq_some_iff.mp e).1
    omega
  unfold atI ixN
  rw [if_neg (by decide), if_pos (by omega)]
  have n : (-1 + (rs.length : Int)).toNat = rs.length - 1 := by omega
  show rs[(-1 + (rs.length : Int)).toNat]? = some r
  rw [n, e]
theorem ok_Realm_is_later (T : Txt K mg) : FnOk P w K mg base CX0 1 T.Realm_is_later.f T.Realm_is_later.fd ["self", "day"] (spLater T.C_Realm) := by
  refine T.Realm_is_later.F.ok sc_Realm_is_later (fun vs H Q E h => ?_) (fun cdv A outer s H vs Q E hr h => ?_)
  · obtain ⟨_, _, _, _, _, rfl, _⟩ := h
    rfl
  · obtain ⟨x, l, ws, r, n, rfl, ⟨dx, rs, hx, hl, hrs, hz⟩, hlast, hst, q⟩ := h
    refine ⟨_, (pss_cons (ps_set (i := 2) sc_Realm_is_later.nd rfl (Or.inl rfl) (pe_ix ix_tup (pe_ix ix_list (pe_fld (pv 0) rfl) (pe_un un_neg pe_int) (fun _ _ => rfl)) pe_int (fun _ _ => rfl)))
      (pss_one (ps_ret (pe_or (pe_cmpR op_isN (pv 2) pe_non (nomark _)) (pe_one (pe_cmpR op_lt (pv 2) (pv 1) (nomark _))))))), ?_⟩
    have hl2 : rs.getLast? = rs[ws.length - 1]? := by rw [List.getLast?_eq_getElem?, hrs.len]
    obtain ⟨p, ep, a, v, rfl, ha, hL⟩ := hrs.row (i := ws.length - 1) (w := r) (by rw [← hlast, List.getLast?_eq_getElem?])
    refine ⟨_, rfl, x, _, dx, _, _, rfl, hx, T.cl_Realm, T.n_Realm_pairs, rfl, _, rfl, l, rs, -1, _, rfl, rfl, sq_of hl, last_at (hl2.trans ep), a, _, 0, _, rfl, rfl, st_of ha, rfl, ?_⟩
    rcases hst with e | ⟨s, e⟩
    · rw [e] at q ha ⊢
      exact ⟨_, rfl, rfl, _, rfl, q H (Ex.refl H)⟩
    · rw [e] at q ha ⊢
      refine ⟨_, rfl, rfl, _, rfl, ?_⟩
      rw [show decide (V.int s = V.non) = false from decide_eq_false fun z => by cases z]
      exact iteF ⟨_, rfl, _, rfl, _, _, rfl, rfl, q H (Ex.refl H)⟩
theorem ex_bool {b : Bool} {Q : Prop} (h : b = true ∨ b = false → Q) : Q := h (by cases b <;> simp)
/-- whoever changes: a later day, a land -/
def spChange (C : Addr) : Sp := fun vs H Q _ => ∃ x l ws r n v D T B S, vs = [.ref x, .int n, v] ∧ RealmAt C H x l ws ∧ ws.length < 999 ∧ ws.getLast? = some r ∧ (r.st = .non ∨ ∃ s : Int, r.st = .int s ∧ s < n) ∧ Far n ∧ Land H v D T B S ∧
  ∀ H', ExD l H H' → RealmAt C H' x l (ws ++ [⟨.int n, D, T, B, S⟩]) → Q .non H'
theorem ok_Realm_change (T : Txt K mg) : FnOk P w K mg base CX0 5 T.Realm_change.f T.Realm_change.fd ["self", "day", "land"] (spChange T.C_Realm) := by
  have G_need_land : FnOk P w K mg base CX0 4 T.need_land.f T.need_land.fd ["thing"] spNeedLand := ok_need_land T
  have G_need_day : FnOk P w K mg base CX0 3 T.need_day.f T.need_day.fd ["thing"] spNum := ok_need_day T
  have G_Realm_is_later : FnOk P w K mg base CX0 1 T.Realm_is_later.f T.Realm_is_later.fd ["self", "day"] (spLater T.C_Realm) := ok_Realm_is_later T
  refine T.Realm_change.F.ok sc_Realm_change (fun vs H Q E h => ?_) (fun cdv A outer s H vs Q E hr h => ?_)
  · obtain ⟨_, _, _, _, _, _, _, _, _, _, rfl, _⟩ := h
    rfl
  · obtain ⟨x, l, ws, r, n, v, D, T1, B, S, rfl, hR, hw, hlast, hst, hn, hL, q⟩ := h
    refine ⟨_, (pss_cons (ps_expr (pe_call G_need_day (hr.mono (by omega)) (by rfl) T.need_day.g T.need_day.F.kp T.need_day.b .nil pass0 (pa_cons (pv 1) pa_nil)))
      (pss_cons (ps_if (pt_not (pt_val (pe_meth (pv 0) T.cl_Realm T.Realm_is_later.m G_Realm_is_later (hr.mono (by omega)) T.Realm_is_later.b .nil pass0 (pa_cons (pv 1) pa_nil))))
        (pss_one ps_never)
        pss_nil)
      (pss_cons (ps_expr (pe_call G_need_land (hr.mono (by omega)) (by rfl) T.need_land.g T.need_land.F.kp T.need_land.b .nil pass0 (pa_cons (pv 2) pa_nil)))
      (pss_one (ps_expr (pe_bm PySem.F.plainAttrs_list PySem.F.slot_list_append PySem.F.type_list_append mt_append (pe_fld (pv 0) rfl) (pa_cons (pe_tup (pa_cons (pv 1) (pa_cons (pv 2) pa_nil))) pa_nil))))))), ?_⟩
    refine ⟨_, rfl, n, rfl, hn, fun H1 e1 => ?_⟩
    obtain ⟨dx, rs, hx, hl, hrs, hz⟩ := hR.ex e1
    have yes : (match r.st with | .int s => decide (s < n) | _ => true) = true := by
      rcases hst with e | ⟨s, e, lt⟩
      · rw [e]
      · rw [e]; exact decide_eq_true lt
    refine ⟨_, rfl, x, dx, _, rfl, hx, rfl, _, rfl, x, l, ws, r, n, rfl, hR.ex e1, hlast, hst.imp id fun ⟨s, e, _⟩ => ⟨s, e⟩, fun H2 e2 => ?_⟩
    rw [yes]
    refine ⟨_, rfl, iteF ?_⟩
    have e12 := e1.trans e2
    refine ⟨_, rfl, _, D, T1, B, S, rfl, hL.ex e12, fun H3 e3 => ?_⟩
    have e13 := e12.trans e3
    have e23 := e2.trans e3
    refine ⟨_, rfl, x, _, dx, _, _, rfl, e23 _ _ hx, T.cl_Realm, T.n_Realm_pairs, rfl, .inl ⟨rfl, _, sq_of (e23 _ _ hl)⟩, _, rfl, _, rfl, by show 2 ≤ sizeLine; decide, fun p np => ?_⟩
    have ep : Ex H3 (upd H3 p (.tup [.int n, v])) := Ex.new np
    have hl4 := ep _ _ (e23 _ _ hl)
    have len := hrs.len
    refine ⟨l, _, _, rfl, rfl, hl4, Nat.lt_of_lt_of_le (show rs.length < 1000 by omega) (by decide), ?_⟩
    have xl : x ≠ l := ne_of hx hl (by intro z; cases z)
    have pl : p ≠ l := fun z => by rw [z, e23 _ _ hl] at np; cases np
    have kept : ∀ b o, b ≠ l → upd H3 p (.tup [.int n, v]) b = some o → upd (upd H3 p (.tup [.int n, v])) l (.lst (rs ++ [.ref p])) b = some o := fun b o bl e => (upd_ne bl).trans e
    refine q _ (fun b o bl e => kept b o bl (ep _ _ (e13 _ _ e))) ⟨dx, _, kept _ _ xl (ep _ _ (e23 _ _ hx)), upd_same, RowsAt.snoc ?_ ⟨p, v, rfl, kept _ _ pl upd_same, ?_⟩, by simp, by simp; omega⟩
    · exact ((hrs.ex e23).ex ep).but hl4 kept
    · exact ((hL.ex e13).ex ep).but hl4 kept
end

section
variable {P : Program} {w : World} {K : PySem.W.Frag} {mg : Str → Option Value} {base : Heap}
theorem cut_one {rs : List V} : cutV rs (some 1) none = rs.drop 1 := by
  unfold cutV
  have a : HT.sIx rs.length 0 (some 1) = min 1 rs.length := by unfold HT.sIx; simp
  have b : HT.sIx rs.length rs.length none = rs.length := rfl
  rw [a, b]
  cases rs with
  | nil => rfl
  | cons r rs => simp
/-- one start more asked -/
def rule1 (day : Int) (f w : Row) : Row := match w.st with | .int s => if s ≤ day then w else f | _ => f
def spLandOn (C : Addr) : Sp := fun vs H Q _ => ∃ x l ws n, vs = [.ref x, .int n] ∧ RealmAt C H x l ws ∧ Started ws ∧ ∀ v H', Ex H H' → Land H' v (ruler ws n).D (ruler ws n).T (ruler ws n).B (ruler ws n).S → Q v H'
theorem ok_Realm_land_on (T : Txt K mg) : FnOk P w K mg base CX0 1 T.Realm_land_on.f T.Realm_land_on.fd ["self", "day"] (spLandOn T.C_Realm) := by
  refine T.Realm_land_on.F.ok sc_Realm_land_on (fun vs H Q E h => ?_) (fun cdv A outer s H vs Q E hr h => ?_)
  · obtain ⟨_, _, _, _, rfl, _⟩ := h
    rfl
  · obtain ⟨x, l, ws, n, rfl, ⟨dx, rs, hx, hl, hrs, hz⟩, hst, q⟩ := h
    refine ⟨_, (pss_cons (ps_set (i := 2) sc_Realm_land_on.nd rfl (Or.inl rfl) (pe_ix ix_tup (pe_ix ix_list (pe_fld (pv 0) rfl) pe_int (fun _ _ => rfl)) pe_int (fun _ _ => rfl)))
      (pss_cons (ps_for PassesOwn.never rfl (pi_list (pe_slice sl_list (pe_fld (pv 0) rfl) (po_some pe_int) po_none)) (pg_tup rfl (pgs_cons (pg_name (i := 3) sc_Realm_land_on.nd rfl (Or.inl rfl)) (pgs_cons (pg_name (i := 4) sc_Realm_land_on.nd rfl (Or.inl rfl)) pgs_nil)))
        (pss_one (ps_if (pt_cmpR op_le (pv 3) (pv 1) (nomark _))
        (pss_one (ps_set (i := 2) sc_Realm_land_on.nd rfl (Or.inl rfl) (pv 4)))
        pss_nil)))
      (pss_one (ps_ret (pv 2))))), ?_⟩
    obtain ⟨w0, ew0⟩ : ∃ w0, ws[0]? = some w0 := ⟨ws[0]'hz.1, List.getElem?_eq_getElem hz.1⟩
    obtain ⟨r0, er0, a0, v0, rfl, ha0, hL0⟩ := hrs.row ew0
    refine ⟨_, rfl, x, _, dx, _, _, rfl, hx, T.cl_Realm, T.n_Realm_pairs, rfl, l, rs, 0, _, rfl, rfl, sq_of hl, ?_, a0, _, 1, _, rfl, rfl, st_of ha0, rfl, ?_⟩
    · unfold atI ixN
      rw [if_pos (Int.le_refl 0), if_pos (by have := hrs.len; omega)]
      exact er0
    refine ⟨_, rfl, x, _, dx, _, _, rfl, hx, T.cl_Realm, T.n_Realm_pairs, rfl, 1, rfl, l, rs, rfl, sq_of hl, fun p np => ?_⟩
    rw [cut_one]
    have ep : Ex H (upd H p (.lst (rs.drop 1))) := Ex.new np
    refine ⟨p, rfl, ⟨_, sq_of upd_same⟩, for_list (K := K) (a := p) (xs := rs.drop 1) (fun i σ H' => (∃ v z1 z2, σ = [some (.ref x), some (.int n), some v, z1, z2] ∧ Land H' v (((ws.drop 1).take i).foldl (rule1 n) w0).D (((ws.drop 1).take i).foldl (rule1 n) w0).T (((ws.drop 1).take i).foldl (rule1 n) w0).B (((ws.drop 1).take i).foldl (rule1 n) w0).S) ∧ Ex H H' ∧ H' p = some (.lst (rs.drop 1))) ⟨⟨v0, _, _, rfl, hL0.ex ep⟩, ep, upd_same⟩ (fun i σ H' _ ⟨_, _, h⟩ => sq_of h) ?_ ?_⟩
    · rintro i r σ H1 hi ⟨⟨v, z1, z2, rfl, hv⟩, e1, hp⟩
      have hi2 : rs[i + 1]? = some r := by rw [List.getElem?_drop, Nat.add_comm] at hi; exact hi
      obtain ⟨w1, ew1, a, u, rfl, ha, hu⟩ := hrs.at hi2
      obtain ⟨s, es⟩ : ∃ s : Int, w1.st = .int s := by
        rcases hst _ _ ew1 with ⟨z, _⟩ | ⟨_, z⟩
        · omega
        · exact z
      have next : ((ws.drop 1).take (i + 1)).foldl (rule1 n) w0 = rule1 n (((ws.drop 1).take i).foldl (rule1 n) w0) w1 := by
        have e : (ws.drop 1)[i]? = some w1 := by rw [List.getElem?_drop, Nat.add_comm]; exact ew1
        rw [List.take_add_one, e]
        simp [List.foldl_append]
      refine ⟨a, _, rfl, st_of (e1 _ _ ha), rfl, _, _, rfl, _, _, rfl, rfl, ?_⟩
      rw [next]
      unfold rule1
      rw [es]
      refine ⟨_, rfl, _, rfl, _, _, rfl, rfl, _, rfl, ite2 (fun yes => ?_) fun no => ?_⟩
      · have le : s ≤ n := by simpa using yes
        simp only [if_pos le]
        exact ⟨_, rfl, ⟨u, _, _, rfl, hu.ex e1⟩, e1, hp⟩
      · have le : ¬ s ≤ n := by simpa using no
        simp only [if_neg le]
        exact ⟨⟨v, _, _, rfl, hv⟩, e1, hp⟩
    · rintro σ H1 ⟨⟨v, z1, z2, rfl, hv⟩, e1, hp⟩
      have all : ((ws.drop 1).take (rs.drop 1).length).foldl (rule1 n) w0 = ruler ws n := by
        have le : (rs.drop 1).length = (ws.drop 1).length := by rw [List.length_drop, List.length_drop, hrs.len]
        rw [le, List.take_length]
        unfold ruler
        cases ws with
        | nil => cases ew0
        | cons w ws => cases ew0; rfl
      rw [all] at hv
      exact ⟨_, rfl, q v H1 e1 hv⟩
def spDateR (C : Addr) : Sp := fun vs H Q _ => ∃ x l ws n, vs = [.ref x, .int n] ∧ RealmAt C H x l ws ∧ Started ws ∧ Far n ∧
  ∀ p H2, H p = none → Ex H H2 → H2 p = some (.tup [.int (yr (ruler ws n).D (ruler ws n).T (ruler ws n).B (ruler ws n).S n), .int (n - fst (ruler ws n).D (ruler ws n).T (ruler ws n).B (ruler ws n).S (yr (ruler ws n).D (ruler ws n).T (ruler ws n).B (ruler ws n).S n))]) → Q (.ref p) H2
theorem ok_Realm_date (T : Txt K mg) : FnOk P w K mg base CX0 4 T.Realm_date.f T.Realm_date.fd ["self", "day"] (spDateR T.C_Realm) := by
  have G_need_day : FnOk P w K mg base CX0 3 T.need_day.f T.need_day.fd ["thing"] spNum := ok_need_day T
  have G_date_of : FnOk P w K mg base CX0 3 T.date_of.f T.date_of.fd ["land", "day"] spDateOf := ok_date_of T
  have G_Realm_land_on : FnOk P w K mg base CX0 1 T.Realm_land_on.f T.Realm_land_on.fd ["self", "day"] (spLandOn T.C_Realm) := ok_Realm_land_on T
  refine T.Realm_date.F.ok sc_Realm_date (fun vs H Q E h => ?_) (fun cdv A outer s H vs Q E hr h => ?_)
  · obtain ⟨_, _, _, _, rfl, _⟩ := h
    rfl
  · obtain ⟨x, l, ws, n, rfl, hR, hst, hn, q⟩ := h
    refine ⟨_, (pss_cons (ps_expr (pe_call G_need_day (hr.mono (by omega)) (by rfl) T.need_day.g T.need_day.F.kp T.need_day.b .nil pass0 (pa_cons (pv 1) pa_nil)))
      (pss_one (ps_ret (pe_call G_date_of (hr.mono (by omega)) (by rfl) T.date_of.g T.date_of.F.kp T.date_of.b .nil pass0 (pa_cons (pe_meth (pv 0) T.cl_Realm T.Realm_land_on.m G_Realm_land_on (hr.mono (by omega)) T.Realm_land_on.b .nil pass0 (pa_cons (pv 1) pa_nil)) (pa_cons (pv 1) pa_nil)))))), ?_⟩
    refine ⟨_, rfl, n, rfl, hn, fun H1 e1 => ?_⟩
    obtain ⟨dx, rs, hx, hl, hrs, hz⟩ := hR.ex e1
    refine ⟨_, rfl, x, dx, _, rfl, hx, rfl, _, rfl, x, l, ws, n, rfl, hR.ex e1, hst, fun v H2 e2 hv => ⟨_, rfl, v, _, _, _, _, n, rfl, hv, fun p H3 np e3 h3 => ?_⟩⟩
    exact q p H3 (fresh_back (e1.trans e2) np) ((e1.trans e2).trans e3) h3
end

section
variable {P : Program} {w : World} {K : PySem.W.Frag} {mg : Str → Option Value} {base : Heap}
theorem at_nat {α : Type} {xs : List α} {i : Nat} {x : α} (h : xs[i]? = some x) : atI xs (i : Int) = some x := by
  have lt := (List.getElem?_eq_some_iff.mp h).1
  unfold atI ixN
  rw [if_pos (Int.natCast_nonneg i), if_pos (by omega)]
  exact h
def spRules (C : Addr) : Sp := fun vs H Q _ => ∃ x l ws n, ∃ i : Nat, vs = [.ref x, .int (i : Nat), .int n] ∧ RealmAt C H x l ws ∧ Started ws ∧ i < ws.length ∧ RetV (.bl (rulesB ws i n)) H Q
theorem ok_Realm_rules (T : Txt K mg) : FnOk P w K mg base CX0 1 T.Realm_rules.f T.Realm_rules.fd ["self", "at", "day"] (spRules T.C_Realm) := by
  refine T.Realm_rules.F.ok sc_Realm_rules (fun vs H Q E h => ?_) (fun cdv A outer s H vs Q E hr h => ?_)
  · obtain ⟨_, _, _, _, _, rfl, _⟩ := h
    rfl
  · obtain ⟨x, l, ws, n, i, rfl, ⟨dx, rs, hx, hl, hrs, hz⟩, hst, hi, q⟩ := h
    refine ⟨_, (pss_cons (ps_set (i := 3) sc_Realm_rules.nd rfl (Or.inl rfl) (pe_ix ix_tup (pe_ix ix_list (pe_fld (pv 0) rfl) (pv 1) (fun _ _ => rfl)) pe_int (fun _ _ => rfl)))
      (pss_cons (ps_if (PW.pt (pw_and (pt_cmpR op_notN (pv 3) pe_non (nomark _)) (pw_and1 (pt_cmpR op_lt (pv 2) (pv 3) (nomark _)))))
        (pss_one (ps_ret pe_bl))
        pss_nil)
      (pss_one (ps_ret (pe_or (pe_cmpR op_eq (pe_op op_add (pv 1) pe_int) (pe_callB call_len_seq (by rfl) T.len (by decide +kernel) (pa_cons (pe_fld (pv 0) rfl) pa_nil)) (nomark _)) (pe_one (pe_cmpR op_lt (pv 2) (pe_ix ix_tup (pe_ix ix_list (pe_fld (pv 0) rfl) (pe_op op_add (pv 1) pe_int) (fun _ _ => rfl)) pe_int (fun _ _ => rfl)) (nomark _)))))))), ?_⟩
    obtain ⟨w0, ew0⟩ : ∃ w0, ws[i]? = some w0 := ⟨ws[i], List.getElem?_eq_getElem hi⟩
    obtain ⟨r0, er0, a0, v0, rfl, ha0, hL0⟩ := hrs.row ew0
    have lr := hrs.len
    refine ⟨_, rfl, x, _, dx, _, _, rfl, hx, T.cl_Realm, T.n_Realm_pairs, rfl, _, rfl, l, rs, i, _, rfl, rfl, sq_of hl, at_nat er0, a0, _, 0, _, rfl, rfl, st_of ha0, rfl, ?_⟩
    have start : (w0.st = .non) ∨ ∃ s : Int, w0.st = .int s := (hst _ _ ew0).imp (·.2) (·.2)
    have g0 : ws.getD i ⟨.non, 1, 0, 1, 0⟩ = w0 := by simp [List.getD, ew0]
    have q1 : ∀ b, b = rulesB ws i n → Q (.bl b) H := fun b eb => eb ▸ q H (Ex.refl H)
    unfold rulesB at q1
    rw [g0] at q1
    -- behind the first question
    have tail : ∀ {b : Bool}, fromB w0.st n = true → b = (decide (i + 1 = ws.length) || aheadB (ws.getD (i + 1) ⟨.non, 1, 0, 1, 0⟩).st n) → Q (.bl b) H := fun {b} f eb => q1 b (by rw [f, eb]; rfl)
    rcases start with e | ⟨s, e⟩
    · have f : fromB w0.st n = true := by rw [e]; rfl
      rw [e]
      refine ⟨_, rfl, rfl, _, rfl, iteF (iteF ?_)⟩
      refine ⟨_, rfl, _, _, rfl, rfl, _, rfl, x, _, dx, _, _, rfl, hx, T.cl_Realm, T.n_Realm_pairs, rfl, l, rs, rfl, .inl (sq_of hl), rfl, _, rfl, ?_⟩
      by_cases end_ : i + 1 = ws.length
      · rw [decide_eq_true (show V.int ((i : Int) + 1) = V.int ((rs.length : Nat) : Int) by congr 1; omega)]
        exact iteT (tail f (by rw [decide_eq_true end_]; rfl))
      · rw [decide_eq_false (fun z => end_ (by have := V.int.inj z; omega) : ¬ V.int ((i : Int) + 1) = V.int ((rs.length : Nat) : Int))]
        obtain ⟨w1, ew1⟩ : ∃ w1, ws[i + 1]? = some w1 := ⟨ws[i + 1]'(by omega), List.getElem?_eq_getElem _⟩
        obtain ⟨r1, er1, a1, v1, rfl, ha1, hL1⟩ := hrs.row ew1
        obtain ⟨s1, es1⟩ : ∃ s : Int, w1.st = .int s := by
          rcases hst _ _ ew1 with ⟨z, _⟩ | ⟨_, z⟩
          · omega
          · exact z
        rw [es1] at ha1
        refine iteF ⟨_, rfl, _, rfl, x, _, dx, _, _, rfl, hx, T.cl_Realm, T.n_Realm_pairs, rfl, _, rfl, _, _, rfl, rfl, l, rs, _, _, rfl, rfl, sq_of hl, at_nat er1, a1, _, 0, _, rfl, rfl, st_of ha1, rfl, _, _, rfl, rfl, ?_⟩
        exact tail f (by rw [decide_eq_false end_]; simp [List.getD, ew1, es1, aheadB])
    · rw [e]
      refine ⟨_, rfl, rfl, _, rfl, iteT ⟨_, rfl, _, rfl, _, _, rfl, rfl, _, rfl, ?_⟩⟩
      by_cases lt : n < s
      · rw [decide_eq_true lt]
        exact iteT (q1 false (by rw [e]; simp [fromB, lt]))
      · rw [decide_eq_false lt]
        have f : fromB w0.st n = true := by rw [e]; simp [fromB, lt]
        refine iteF ?_
        refine ⟨_, rfl, _, _, rfl, rfl, _, rfl, x, _, dx, _, _, rfl, hx, T.cl_Realm, T.n_Realm_pairs, rfl, l, rs, rfl, .inl (sq_of hl), rfl, _, rfl, ?_⟩
        by_cases end_ : i + 1 = ws.length
        · rw [decide_eq_true (show V.int ((i : Int) + 1) = V.int ((rs.length : Nat) : Int) by congr 1; omega)]
          exact iteT (tail f (by rw [decide_eq_true end_]; rfl))
        · rw [decide_eq_false (fun z => end_ (by have := V.int.inj z; omega) : ¬ V.int ((i : Int) + 1) = V.int ((rs.length : Nat) : Int))]
          obtain ⟨w1, ew1⟩ : ∃ w1, ws[i + 1]? = some w1 := ⟨ws[i + 1]'(by omega), List.getElem?_eq_getElem _⟩
          obtain ⟨r1, er1, a1, v1, rfl, ha1, hL1⟩ := hrs.row ew1
          obtain ⟨s1, es1⟩ : ∃ s : Int, w1.st = .int s := by
            rcases hst _ _ ew1 with ⟨z, _⟩ | ⟨_, z⟩
            · omega
            · exact z
          rw [es1] at ha1
          refine iteF ⟨_, rfl, _, rfl, x, _, dx, _, _, rfl, hx, T.cl_Realm, T.n_Realm_pairs, rfl, _, rfl, _, _, rfl, rfl, l, rs, _, _, rfl, rfl, sq_of hl, at_nat er1, a1, _, 0, _, rfl, rfl, st_of ha1, rfl, _, _, rfl, rfl, ?_⟩
          exact tail f (by rw [decide_eq_false end_]; simp [List.getD, ew1, es1, aheadB])
end

section
variable {P : Program} {w : World} {K : PySem.W.Frag} {mg : Str → Option Value} {base : Heap}
theorem days_len {ws : List Row} {y p : Int} : ∀ n, (daysAt ws y p n).length ≤ n
  | 0 => Nat.le_refl 0
  | n + 1 => by
    have h := days_len (ws := ws) (y := y) (p := p) n
    unfold daysAt
    rw [List.length_append]
    split
    · split <;> simp <;> omega
    · simp; omega
def spDaysR (C : Addr) : Sp := fun vs H Q _ => ∃ x l ws y p, vs = [.ref x, .int y, .int p] ∧ RealmAt C H x l ws ∧ Started ws ∧ Far y ∧ (0 ≤ p ∧ p ≤ 400) ∧ ∀ a H', H a = none → Ex H H' → H' a = some (.lst ((daysAt ws y p ws.length).map V.int)) → Q (.ref a) H'
theorem ok_Realm_days_of (T : Txt K mg) : FnOk P w K mg base CX0 4 T.Realm_days_of.f T.Realm_days_of.fd ["self", "year", "place"] (spDaysR T.C_Realm) := by
  have G_need_year : FnOk P w K mg base CX0 3 T.need_year.f T.need_year.fd ["thing"] spNum := ok_need_year T
  have G_need_realm_place : FnOk P w K mg base CX0 3 T.need_realm_place.f T.need_realm_place.fd ["thing"] spPlaceR := ok_need_realm_place T
  have G_first_day : FnOk P w K mg base CX0 2 T.first_day.f T.first_day.fd ["land", "year"] spFirst := ok_first_day T
  have G_Realm_rules : FnOk P w K mg base CX0 1 T.Realm_rules.f T.Realm_rules.fd ["self", "at", "day"] (spRules T.C_Realm) := ok_Realm_rules T
  refine T.Realm_days_of.F.ok sc_Realm_days_of (fun vs H Q E h => ?_) (fun cdv A outer s H vs Q E hr h => ?_)
  · obtain ⟨_, _, _, _, _, rfl, _⟩ := h
    rfl
  · obtain ⟨x, l, ws, y, p, rfl, hR, hst, hy, hp, q⟩ := h
    refine ⟨_, (pss_cons (ps_expr (pe_call G_need_year (hr.mono (by omega)) (by rfl) T.need_year.g T.need_year.F.kp T.need_year.b .nil pass0 (pa_cons (pv 1) pa_nil)))
      (pss_cons (ps_expr (pe_call G_need_realm_place (hr.mono (by omega)) (by rfl) T.need_realm_place.g T.need_realm_place.F.kp T.need_realm_place.b .nil pass0 (pa_cons (pv 2) pa_nil)))
      (pss_cons (ps_set (i := 3) sc_Realm_days_of.nd rfl (Or.inl rfl) (pe_lst pa_nil))
      (pss_cons (ps_for PassesOwn.never rfl (pi_enum rfl T.enumerate (pa_cons (pe_fld (pv 0) rfl) pa_nil)) (pg_tup rfl (pgs_cons (pg_name (i := 4) sc_Realm_days_of.nd rfl (Or.inl rfl)) (pgs_cons (pg_name (i := 5) sc_Realm_days_of.nd rfl (Or.inl rfl)) pgs_nil)))
        (pss_cons (ps_set (i := 6) sc_Realm_days_of.nd rfl (Or.inl rfl) (pe_ix ix_tup (pv 5) pe_int (fun _ _ => rfl)))
      (pss_cons (ps_set (i := 7) sc_Realm_days_of.nd rfl (Or.inl rfl) (pe_op op_add (pe_call G_first_day (hr.mono (by omega)) (by rfl) T.first_day.g T.first_day.F.kp T.first_day.b .nil pass0 (pa_cons (pv 6) (pa_cons (pv 1) pa_nil))) (pv 2)))
      (pss_one (ps_if (PW.pt (pw_and (pt_cmpR op_lt (pv 7) (pe_call G_first_day (hr.mono (by omega)) (by rfl) T.first_day.g T.first_day.F.kp T.first_day.b .nil pass0 (pa_cons (pv 6) (pa_cons (pe_op op_add (pv 1) pe_int) pa_nil))) (nomark _)) (pw_and1 (pt_val (pe_meth (pv 0) T.cl_Realm T.Realm_rules.m G_Realm_rules (hr.mono (by omega)) T.Realm_rules.b .nil pass0 (pa_cons (pv 4) (pa_cons (pv 7) pa_nil)))))))
        (pss_one (ps_expr (pe_bm PySem.F.plainAttrs_list PySem.F.slot_list_append PySem.F.type_list_append mt_append (pv 3) (pa_cons (pv 7) pa_nil))))
        pss_nil)))))
      (pss_one (ps_ret (pv 3))))))), ?_⟩
    refine ⟨_, rfl, y, rfl, hy, fun H1 e1 => ⟨_, rfl, p, rfl, hp, fun H2 e2 => ⟨Nat.zero_le _, fun a na => ?_⟩⟩⟩
    have e12 := e1.trans e2
    have ea : Ex H2 (upd H2 a (.lst [])) := Ex.new na
    obtain ⟨dx, rs, hx, hl, hrs, hz⟩ := id (hR.ex e12)
    refine ⟨_, rfl, x, _, dx, _, _, rfl, ea _ _ hx, T.cl_Realm, T.n_Realm_pairs, rfl, l, rs, rfl, sq_of (ea _ _ hl), ?_⟩
    have lr := hrs.len
    refine for_it (walk_enum (xs := rs)) (fun i σ H' => (∃ z1 z2 z3 z4, σ = [some (.ref x), some (.int y), some (.int p), some (.ref a), z1, z2, z3, z4]) ∧ Ex H2 H' ∧ H' a = some (.lst ((daysAt ws y p i).map V.int))) ⟨⟨_, _, _, _, rfl⟩, ea, upd_same⟩ (fun i σ H' _ h => sq_of (h.2.1 _ _ hl)) ?_ ?_
    · rintro i v σ H3 H4 hi ⟨⟨z1, z2, z3, z4, rfl⟩, e3, h3⟩ ⟨t, u1, u2, rfl, nt, rfl, eu1, eu2⟩
      cases eu1
      obtain ⟨w1, ew1, a1, v1, rfl, ha1, hL1⟩ := hrs.at eu2
      have e4 : Ex H2 (upd H3 t (.tup [.int (i : Nat), .ref a1])) := e3.trans (Ex.new nt)
      have h4 : upd H3 t (.tup [.int (i : Nat), .ref a1]) a = some (.lst ((daysAt ws y p i).map V.int)) := Ex.new nt _ _ h3
      refine ⟨t, _, rfl, st_of upd_same, rfl, _, _, rfl, _, _, rfl, rfl, ?_⟩
      refine ⟨_, rfl, a1, _, 1, _, rfl, rfl, st_of (e4 _ _ ha1), rfl, ?_⟩
      refine ⟨_, rfl, _, rfl, v1, _, _, _, _, y, rfl, hL1.ex e4, fun H5 e5 => ⟨_, rfl, _, _, rfl, rfl, ?_⟩⟩
      have e45 := e4.trans e5
      refine ⟨_, rfl, _, rfl, _, rfl, _, _, rfl, rfl, v1, _, _, _, _, _, rfl, hL1.ex e45, fun H6 e6 => ⟨_, _, rfl, rfl, ?_⟩⟩
      refine ⟨_, rfl, ?_⟩
      have e46 := e45.trans e6
      have i1 : i < ws.length := by rw [← lr]; exact hi
      have next : daysAt ws y p (i + 1) = daysAt ws y p i ++ (if fst w1.D w1.T w1.B w1.S y + p < fst w1.D w1.T w1.B w1.S (y + 1) ∧ rulesB ws i (fst w1.D w1.T w1.B w1.S y + p) = true then [fst w1.D w1.T w1.B w1.S y + p] else []) := by
        show daysAt ws y p i ++ _ = _
        rw [ew1]
      rw [next]
      by_cases lt : fst w1.D w1.T w1.B w1.S y + p < fst w1.D w1.T w1.B w1.S (y + 1)
      · rw [decide_eq_true lt]
        refine iteT ⟨_, rfl, x, dx, _, rfl, e46 _ _ hx, rfl, _, rfl, _, rfl, x, l, ws, _, i, rfl, (hR.ex e12).ex e46, hst, i1, fun H7 e7 => ⟨_, rfl, ?_⟩⟩
        have e67 := (Ex.new nt).trans (e5.trans (e6.trans e7))
        cases rb : rulesB ws i (fst w1.D w1.T w1.B w1.S y + p) with
        | true =>
          refine iteT ⟨_, rfl, .inl ⟨rfl, _, sq_of (e67 _ _ h3)⟩, _, rfl, a, _, _, rfl, rfl, e67 _ _ h3, ?_, ?_⟩
          · rw [List.length_map]
            exact Nat.lt_of_le_of_lt (days_len i) (Nat.lt_of_lt_of_le (show i < 1000 by omega) (by decide))
          · refine ⟨⟨_, _, _, _, rfl⟩, fun b o e => (upd_ne (fun z => by rw [z, na] at e; cases e)).trans (e46.trans e7 _ _ e), ?_⟩
            rw [if_pos ⟨lt, rfl⟩, List.map_append]
            exact upd_same
        | false =>
          refine iteF ⟨⟨_, _, _, _, rfl⟩, e46.trans e7, ?_⟩
          rw [if_neg (fun z => by cases z.2), List.append_nil]
          exact e67 _ _ h3
      · rw [decide_eq_false lt]
        refine iteF (iteF ⟨⟨_, _, _, _, rfl⟩, e46, ?_⟩)
        rw [if_neg (fun z => lt z.1), List.append_nil]
        exact ((Ex.new nt).trans (e5.trans e6)) _ _ h3
    · rintro σ H3 ⟨⟨z1, z2, z3, z4, rfl⟩, e3, h3⟩
      exact ⟨_, rfl, q a H3 (fresh_back e12 na) (e12.trans e3) (lr ▸ h3)⟩
end

/-! ### == and len of things with their own __eq__ and __len__ -/
section
variable {X : Cx} {C g : Addr} {n : Nat} {fd : FuncData} {ps : List Str} {sp : Sp}
theorem inst_there {P : Program} {w : World} {H : Hp} {h : Heap} {a dx : Addr} {fs : List (Str × V)} (hok : HOk P w H h) (ha : H a = some (.ins C dx fs)) : ∃ od, PySem.W.InstAt h a (PySem.W.instObj C dx) C (some od) := by
  have at_ := hok a _ ha
  unfold ObjOk at at_
  obtain ⟨_, _, ne, obj, mA, ns, _⟩ := at_
  obtain ⟨od, i, _⟩ := ObjM.look ⟨obj, ns, ne⟩
  exact ⟨od, i⟩
/-- what it is compared with: such a thing too, or a list -/
def EqKind (C : Addr) (H : Hp) (y : V) : Prop := (∃ b dy gs, y = .ref b ∧ H b = some (.ins C dy gs)) ∨ (∃ b xs, y = .ref b ∧ H b = some (.lst xs))
def rOwnEq (C : Addr) (sp : Sp) : R2 := fun x y H Q => ∃ a dx fs, x = .ref a ∧ H a = some (.ins C dx fs) ∧ EqKind C H y ∧ sp [x, y] H (fun v H' => ∃ k, v = .bl k ∧ Q v H') E0
/-- a def called by values, its promise kept -/
theorem own_call {A : Around} {pins : List (Addr × Obj)} {σ : L2.St} {H : Hp} {s : Shared} {us : List Value} {vs : List V} {Q : VK} (I : Inv X pins σ H s) (F : FnOk X.prog X.w X.K X.mg X.base CX0 n g fd ps sp) (b : Binds X.K fd ps []) (hr : Room n A) (fr : A.frames = some X.stack) (r : Vals vs us) (h : sp vs H Q E0) :
    wpAny (model X.prog X.w) A (call (.ref g) us) (EP X pins σ Q) X.xe s := by
  have len : us.length = ps.length := r.length ▸ F.len _ _ _ _ h
  have bound := b s us I.kIn (by rw [List.append_nil]; exact len)
  rw [List.append_nil] at bound
  have e0 := I.env0
  have e1 : Env0 X.prog X.w X.K X.mg X.base A X.stack s H := ⟨fr, e0.mod, e0.bs, e0.bsz, e0.funs, e0.frf, e0.hok, e0.bare⟩
  refine wpAny_call (codeAny_mono (F.run A X.stack s H _ us vs Q E0 hr e1 bound r h) fun r t z => ?_)
  match r, z with
  | .ok (.ret u), z => exact I.after z
  | .error x, z => exact (z : False).elim
theorem op_eqOwn (m : Meth X.K C "__eq__" g) (nl : PySem.W.notFirst X.K C (.type "list") = true) (F : FnOk X.prog X.w X.K X.mg X.base CX0 n g fd ps sp) (b : Binds X.K fd ps []) (hr : Room n X.A) : OpR X (compareOp .Eq) (rOwnEq C sp) := by
  intro pins s σ H x y v u Q I rx ry ⟨a, dx, fs, ex, ha, kind, h⟩
  subst ex
  cases rx
  obtain ⟨od, i⟩ := inst_there I.hok ha
  obtain ⟨m0, fr⟩ := I.fr
  have go := own_call (vs := [.ref a, y]) (us := [.ref a, u]) I F b hr I.ok.frames (.cons rfl (.cons ry .nil)) h
  have back : wpAny (model X.prog X.w) X.A (call (.ref g) [.ref a, u]) (PySem.W.CmpBack (EP X pins σ Q)) X.xe s := thn go fun r s1 ⟨v1, H1, I1, r1, k, ek, q⟩ => by
    subst ek
    cases r1
    exact ⟨.bl k, H1, I1, rfl, q⟩
  refine PySem.W.cmp_ofEq ?_
  rcases kind with ⟨b', dy, gs, ey, hb⟩ | ⟨b', xs, ey, hb⟩
  · subst ey
    cases ry
    obtain ⟨od', i'⟩ := inst_there I.hok hb
    exact PySem.W.cmp_K hr.units0 fr I.ok.mod.kin i i'.type (by unfold PySem.W.notFirst; simp) m.at_ m.fn back
  · subst ey
    cases ry
    have lb := I.hok b' _ hb
    unfold ObjOk at lb
    obtain ⟨_, its, n0, _, at_⟩ := lb
    exact PySem.W.cmp_K hr.units0 fr I.ok.mod.kin i ((PySem.W.Looks.ld at_).andThen .now) nl m.at_ m.fn back
def rOwnLen (C : Addr) (sp : Sp) : List V → Hp → VK → Prop := fun xs H Q => ∃ a dx fs, xs = [.ref a] ∧ H a = some (.ins C dx fs) ∧ sp [.ref a] H (fun v H' => ∃ k : Nat, v = .int k ∧ k ≤ sizeLine ∧ Q v H') E0
theorem call_lenOwn (m : Meth X.K C "__len__" g) (F : FnOk X.prog X.w X.K X.mg X.base CX0 n g fd ps sp) (b : Binds X.K fd ps []) (hr : Room (n + 1) X.A) : CallR X (.builtin "len") (rOwnLen C sp) := by
  intro pins s σ H xs us Q I r ⟨a, dx, fs, ex, ha, h⟩
  subst ex
  cases r with
  | cons r1 r2 =>
    cases r2
    cases r1
    obtain ⟨od, i⟩ := inst_there I.hok ha
    obtain ⟨m0, fr⟩ := I.fr
    have go := own_call (vs := [.ref a]) (us := [.ref a]) (A := X.A.in1) I F b hr.in1 I.ok.frames (.cons rfl .nil) h
    refine PySem.W.len_K fr I.ok.mod.kin i m.at_ m.fn (thn go fun r s1 ⟨v1, H1, I1, r1, k, ek, small, q⟩ => ?_)
    subst ek
    obtain ⟨t, rfl⟩ := r1
    exact ⟨⟨by omega, by have : sizeLine < 2 ^ 63 := by decide
                         omega⟩, .int k, H1, I1.kept fun _ _ e => e, ⟨_, rfl⟩, q⟩
end

/-! ### a realm's methods: taken or refused -/
section
variable {P : Program} {w : World} {K : PySem.W.Frag} {mg : Str → Option Value} {base : Heap}
theorem both_need_realm_place (T : Txt K mg) : FnOk P w K mg base (L2N.CX P w) 3 T.need_realm_place.f T.need_realm_place.fd ["thing"] (spNumB T.C_NoPlace 0 400) := by
  have G_is_between : FnOk P w K mg base CX0 2 T.is_between.f T.is_between.fd ["thing", "least", "most"] spBetween := ok_is_between T
  refine fun_okN T.need_realm_place.F sc_need_realm_place (fun vs H Q E h => ?_) (fun cdv A outer s H vs Q E hr h => ?_)
  · obtain ⟨_, rfl, _⟩ := h
    rfl
  · obtain ⟨x, rfl, h⟩ := h
    refine ⟨_, (pss_one (ps_if (pt_not (pt_val (pe_call G_is_between (hr.mono (by omega)) (by rfl) T.is_between.g T.is_between.F.kp T.is_between.b .nil pass0 (pa_cons (pv 0) (pa_cons pe_int (pa_cons (pe_glob (v := .int 400) rfl T.c_MOST_DAYS ⟨_, rfl⟩) pa_nil))))))
        (pss_one (L2N.ps_raise rfl (L2N.takes_of rfl rfl rfl rfl) (L2N.pmk_own PySem.F.excBase_ValueError T.err_NoPlace.ex T.g_NoPlace T.err_NoPlace.kp (raises_own T.err_NoPlace.sb T.err_NoPlace.tp) rfl)))
        pss_nil)), ?_⟩
    rcases h with ⟨⟨k, dk, no⟩, out⟩ | ⟨i, rfl, hi, q⟩
    · refine ⟨_, rfl, _, _, _, _, rfl, dk, fun H1 e1 => ⟨_, rfl, ?_⟩⟩
      rw [no]
      exact iteT (out H1 e1)
    · refine ⟨_, rfl, _, _, _, _, rfl, .int i, fun H1 e1 => ⟨_, rfl, ?_⟩⟩
      rw [btw_yes hi]
      exact iteF (q H1 e1)
def spBackB (C CN : Addr) : Sp := fun vs H Q E => ∃ x l ws, vs = [.ref x] ∧ RealmAt C H x l ws ∧ ((ws.length = 1 ∧ Out CN E H) ∨ (1 < ws.length ∧ ∀ H', ExD l H H' → RealmAt C H' x l ws.dropLast → Q .non H'))
theorem RowsAt.cut {H : Hp} {rs : List V} {ws : List Row} (h : RowsAt H rs ws) : RowsAt H rs.dropLast ws.dropLast := by
  induction h with
  | nil => exact .nil
  | cons a b ih => cases b with
    | nil => exact .nil
    | cons c d => exact .cons a ih
theorem both_Realm_back (T : Txt K mg) : FnOk P w K mg base (L2N.CX P w) 1 T.Realm_back.f T.Realm_back.fd ["self"] (spBackB T.C_Realm T.C_NothingLeft) := by
  refine fun_okN T.Realm_back.F sc_Realm_back (fun vs H Q E h => ?_) (fun cdv A outer s H vs Q E hr h => ?_)
  · obtain ⟨_, _, _, rfl, _⟩ := h
    rfl
  · obtain ⟨x, l, ws, rfl, ⟨dx, rs, hx, hl, hrs, hz⟩, h⟩ := h
    refine ⟨_, (pss_cons (ps_if (pt_cmpR op_eq (pe_callB call_len_seq (by rfl) T.len (by decide +kernel) (pa_cons (pe_fld (pv 0) rfl) pa_nil)) pe_int (nomark _))
        (pss_one (L2N.ps_raise rfl (L2N.takes_of rfl rfl rfl rfl) (L2N.pmk_own PySem.F.excBase_ValueError T.err_NothingLeft.ex T.g_NothingLeft T.err_NothingLeft.kp (raises_own T.err_NothingLeft.sb T.err_NothingLeft.tp) rfl)))
        pss_nil)
      (pss_one (ps_expr (pe_bm0 PySem.F.plainAttrs_list PySem.F.slot_list_pop PySem.F.type_list_pop mt_pop (pe_fld (pv 0) rfl))))), ?_⟩
    have len := hrs.len
    refine ⟨_, rfl, x, _, dx, _, _, rfl, hx, T.cl_Realm, T.n_Realm_pairs, rfl, l, rs, rfl, .inl (sq_of hl), rfl, _, rfl, ?_⟩
    rcases h with ⟨one, out⟩ | ⟨more, q⟩
    · rw [decide_eq_true (show V.int ((rs.length : Nat) : Int) = V.int 1 by congr 1; omega)]
      exact iteT (out H (Ex.refl H))
    · rw [decide_eq_false (fun z => by have := V.int.inj z; omega : ¬ V.int ((rs.length : Nat) : Int) = V.int 1)]
      have lt : rs.length - 1 < rs.length := by omega
      refine iteF ⟨_, rfl, x, _, dx, _, _, rfl, hx, T.cl_Realm, T.n_Realm_pairs, rfl, .inl ⟨rfl, _, sq_of hl⟩, l, rs, _, rfl, rfl, hl, List.getElem?_eq_getElem lt, ?_⟩
      have kept : ExD l H (upd H l (.lst rs.dropLast)) := ExD.upd
      exact q _ kept ⟨dx, _, kept _ _ (ne_of hx hl (by intro z; cases z)) hx, upd_same, (hrs.cut).but hl kept, by rw [List.length_dropLast]; omega, by rw [List.length_dropLast]; omega⟩
end

section
variable {P : Program} {w : World} {K : PySem.W.Frag} {mg : Str → Option Value} {base : Heap}
/-- what becomes of a change -/
inductive Chg (C CD CL x l : Addr) (ws : List Row) (H : Hp) (Q : VK) (E : XK) : V → V → Prop
  | noday {dv v : V} : Bad H dv (-1000000000000000000000000000000) 1000000000000000000000000000000 → Out CD E H → Chg C CD CL x l ws H Q E dv v
  | early {n s : Int} {r : Row} {v : V} : Far n → ws.getLast? = some r → r.st = .int s → n ≤ s → Out CD E H → Chg C CD CL x l ws H Q E (.int n) v
  | noland {n : Int} {r : Row} {v : V} : Far n → ws.getLast? = some r → (r.st = .non ∨ ∃ s : Int, r.st = .int s ∧ s < n) → NoL H v → Out CL E H → Chg C CD CL x l ws H Q E (.int n) v
  | done {n : Int} {r : Row} {v : V} {D T B S : Int} : Far n → ws.getLast? = some r → (r.st = .non ∨ ∃ s : Int, r.st = .int s ∧ s < n) → ws.length < 999 → Land H v D T B S → (∀ H', ExD l H H' → RealmAt C H' x l (ws ++ [⟨.int n, D, T, B, S⟩]) → Q .non H') → Chg C CD CL x l ws H Q E (.int n) v
def spChangeB (C CD CL : Addr) : Sp := fun vs H Q E => ∃ x l ws dv v, vs = [.ref x, dv, v] ∧ RealmAt C H x l ws ∧ Chg C CD CL x l ws H Q E dv v
theorem both_Realm_change (T : Txt K mg) : FnOk P w K mg base (L2N.CX P w) 5 T.Realm_change.f T.Realm_change.fd ["self", "day", "land"] (spChangeB T.C_Realm T.C_NoDay T.C_NoLand) := by
  have G_need_land : FnOk P w K mg base (L2N.CX P w) 4 T.need_land.f T.need_land.fd ["thing"] (spNeedLandB T.C_NoLand) := both_need_land T
  have G_need_day : FnOk P w K mg base (L2N.CX P w) 3 T.need_day.f T.need_day.fd ["thing"] (spNumB T.C_NoDay (-1000000000000000000000000000000) 1000000000000000000000000000000) := both_need_day T
  have G_Realm_is_later : FnOk P w K mg base CX0 1 T.Realm_is_later.f T.Realm_is_later.fd ["self", "day"] (spLater T.C_Realm) := ok_Realm_is_later T
  refine fun_okN T.Realm_change.F sc_Realm_change (fun vs H Q E h => ?_) (fun cdv A outer s H vs Q E hr h => ?_)
  · obtain ⟨_, _, _, _, _, rfl, _⟩ := h
    rfl
  · obtain ⟨x, l, ws, dv, v, rfl, hR, h⟩ := h
    refine ⟨_, (pss_cons (ps_expr (pe_callS G_need_day (hr.mono (by omega)) (by rfl) T.need_day.g T.need_day.F.kp T.need_day.b (fun σ => L2N.passAt (L2N.takes_of rfl rfl rfl rfl) σ) (pa_cons (pv 1) pa_nil)))
      (pss_cons (ps_if (pt_not (pt_val (pe_meth (pv 0) T.cl_Realm T.Realm_is_later.m G_Realm_is_later (hr.mono (by omega)) T.Realm_is_later.b .nil pass0 (pa_cons (pv 1) pa_nil))))
        (pss_one (L2N.ps_raise rfl (L2N.takes_of rfl rfl rfl rfl) (L2N.pmk_own PySem.F.excBase_ValueError T.err_NoDay.ex T.g_NoDay T.err_NoDay.kp (raises_own T.err_NoDay.sb T.err_NoDay.tp) rfl)))
        pss_nil)
      (pss_cons (ps_expr (pe_callS G_need_land (hr.mono (by omega)) (by rfl) T.need_land.g T.need_land.F.kp T.need_land.b (fun σ => L2N.passAt (L2N.takes_of rfl rfl rfl rfl) σ) (pa_cons (pv 2) pa_nil)))
      (pss_one (ps_expr (pe_bm PySem.F.plainAttrs_list PySem.F.slot_list_append PySem.F.type_list_append mt_append (pe_fld (pv 0) rfl) (pa_cons (pe_tup (pa_cons (pv 1) (pa_cons (pv 2) pa_nil))) pa_nil))))))), ?_⟩
    have later : ∀ {H1 : Hp} {n : Int} {r : Row} {Q' : VK}, Ex H H1 → ws.getLast? = some r → (r.st = .non ∨ ∃ s : Int, r.st = .int s) → RetV (.bl (match r.st with | .int s => decide (s < n) | _ => true)) H1 Q' → spLater T.C_Realm [.ref x, .int n] H1 Q' E0 := fun {H1 n r Q'} e1 hlast st q => ⟨x, l, ws, r, n, rfl, hR.ex e1, hlast, st, q⟩
    cases h with
    | noday bad out => exact ⟨_, rfl, _, rfl, .inl ⟨bad, out⟩⟩
    | @early n s r v hn hlast st le out =>
      refine ⟨_, rfl, _, rfl, .inr ⟨n, rfl, hn, fun H1 e1 => ?_⟩⟩
      obtain ⟨dx, rs, hx, hl, hrs, hz⟩ := hR.ex e1
      refine ⟨_, rfl, x, dx, _, rfl, hx, rfl, _, rfl, later e1 hlast (.inr ⟨s, st⟩) fun H2 e2 => ?_⟩
      rw [show (match r.st with | .int s => decide (s < n) | _ => true) = false by rw [st]; exact decide_eq_false (by omega)]
      exact ⟨_, rfl, iteT (out H2 (e1.trans e2))⟩
    | @noland n r v hn hlast st no out =>
      refine ⟨_, rfl, _, rfl, .inr ⟨n, rfl, hn, fun H1 e1 => ?_⟩⟩
      obtain ⟨dx, rs, hx, hl, hrs, hz⟩ := hR.ex e1
      have yes : (match r.st with | .int s => decide (s < n) | _ => true) = true := by
        rcases st with e | ⟨s, e, lt⟩
        · rw [e]
        · rw [e]; exact decide_eq_true lt
      refine ⟨_, rfl, x, dx, _, rfl, hx, rfl, _, rfl, later e1 hlast (st.imp id fun ⟨s, e, _⟩ => ⟨s, e⟩) fun H2 e2 => ?_⟩
      rw [yes]
      exact ⟨_, rfl, iteF ⟨_, rfl, _, rfl, .inl ⟨no.ex (e1.trans e2), out.mono (e1.trans e2)⟩⟩⟩
    | @done n r v D T1 B S hn hlast st hw hL q =>
      refine ⟨_, rfl, _, rfl, .inr ⟨n, rfl, hn, fun H1 e1 => ?_⟩⟩
      obtain ⟨dx, rs, hx, hl, hrs, hz⟩ := hR.ex e1
      have yes : (match r.st with | .int s => decide (s < n) | _ => true) = true := by
        rcases st with e | ⟨s, e, lt⟩
        · rw [e]
        · rw [e]; exact decide_eq_true lt
      refine ⟨_, rfl, x, dx, _, rfl, hx, rfl, _, rfl, later e1 hlast (st.imp id fun ⟨s, e, _⟩ => ⟨s, e⟩) fun H2 e2 => ?_⟩
      rw [yes]
      have e12 := e1.trans e2
      refine ⟨_, rfl, iteF ⟨_, rfl, _, rfl, .inr ⟨D, T1, B, S, hL.ex e12, fun H3 e3 => ?_⟩⟩⟩
      have e13 := e12.trans e3
      have e23 := e2.trans e3
      refine ⟨_, rfl, x, _, dx, _, _, rfl, e23 _ _ hx, T.cl_Realm, T.n_Realm_pairs, rfl, .inl ⟨rfl, _, sq_of (e23 _ _ hl)⟩, _, rfl, _, rfl, by show 2 ≤ sizeLine; decide, fun p np => ?_⟩
      have ep : Ex H3 (upd H3 p (.tup [.int n, v])) := Ex.new np
      have hl4 := ep _ _ (e23 _ _ hl)
      have len := hrs.len
      refine ⟨l, _, _, rfl, rfl, hl4, Nat.lt_of_lt_of_le (show rs.length < 1000 by omega) (by decide), ?_⟩
      have pl : p ≠ l := fun z => by rw [z, e23 _ _ hl] at np; cases np
      have kept : ∀ b o, b ≠ l → upd H3 p (.tup [.int n, v]) b = some o → upd (upd H3 p (.tup [.int n, v])) l (.lst (rs ++ [.ref p])) b = some o := fun b o bl e => (upd_ne bl).trans e
      refine q _ (fun b o bl e => kept b o bl (ep _ _ (e13 _ _ e))) ⟨dx, _, kept _ _ (ne_of hx hl (by intro z; cases z)) (ep _ _ (e23 _ _ hx)), upd_same, RowsAt.snoc ?_ ⟨p, v, rfl, kept _ _ pl upd_same, ?_⟩, by simp, by simp; omega⟩
      · exact ((hrs.ex e23).ex ep).but hl4 kept
      · exact ((hL.ex e13).ex ep).but hl4 kept
def spDateNo (CD : Addr) : Sp := fun vs H _ E => ∃ x dv, vs = [x, dv] ∧ Bad H dv (-1000000000000000000000000000000) 1000000000000000000000000000000 ∧ Out CD E H
theorem no_Realm_date (T : Txt K mg) : FnOk P w K mg base (L2N.CX P w) 4 T.Realm_date.f T.Realm_date.fd ["self", "day"] (spDateNo T.C_NoDay) := by
  have G_need_day : FnOk P w K mg base (L2N.CX P w) 3 T.need_day.f T.need_day.fd ["thing"] (spNumB T.C_NoDay (-1000000000000000000000000000000) 1000000000000000000000000000000) := both_need_day T
  refine fun_okN T.Realm_date.F sc_Realm_date (fun vs H Q E h => ?_) (fun cdv A outer s H vs Q E hr h => ?_)
  · obtain ⟨_, _, rfl, _⟩ := h
    rfl
  · obtain ⟨x, dv, rfl, bad, out⟩ := h
    exact ⟨_, (pss_cons (ps_expr (pe_callS G_need_day (hr.mono (by omega)) (by rfl) T.need_day.g T.need_day.F.kp T.need_day.b (fun σ => L2N.passAt (L2N.takes_of rfl rfl rfl rfl) σ) (pa_cons (pv 1) pa_nil)))
      pss_never), _, rfl, _, rfl, .inl ⟨bad, out⟩⟩
def spDaysNo (CY CP : Addr) : Sp := fun vs H _ E => ∃ x y p, vs = [x, y, p] ∧ ((Bad H y (-1000000000000000000000000000000) 1000000000000000000000000000000 ∧ Out CY E H) ∨ (∃ i, y = .int i ∧ Far i ∧ Bad H p 0 400 ∧ Out CP E H))
theorem no_Realm_days_of (T : Txt K mg) : FnOk P w K mg base (L2N.CX P w) 4 T.Realm_days_of.f T.Realm_days_of.fd ["self", "year", "place"] (spDaysNo T.C_NoYear T.C_NoPlace) := by
  have G_need_year : FnOk P w K mg base (L2N.CX P w) 3 T.need_year.f T.need_year.fd ["thing"] (spNumB T.C_NoYear (-1000000000000000000000000000000) 1000000000000000000000000000000) := both_need_year T
  have G_need_realm_place : FnOk P w K mg base (L2N.CX P w) 3 T.need_realm_place.f T.need_realm_place.fd ["thing"] (spNumB T.C_NoPlace 0 400) := both_need_realm_place T
  refine fun_okN T.Realm_days_of.F sc_Realm_days_of (fun vs H Q E h => ?_) (fun cdv A outer s H vs Q E hr h => ?_)
  · obtain ⟨_, _, _, rfl, _⟩ := h
    rfl
  · obtain ⟨x, y, p, rfl, h⟩ := h
    refine ⟨_, (pss_cons (ps_expr (pe_callS G_need_year (hr.mono (by omega)) (by rfl) T.need_year.g T.need_year.F.kp T.need_year.b (fun σ => L2N.passAt (L2N.takes_of rfl rfl rfl rfl) σ) (pa_cons (pv 1) pa_nil)))
      (pss_cons (ps_expr (pe_callS G_need_realm_place (hr.mono (by omega)) (by rfl) T.need_realm_place.g T.need_realm_place.F.kp T.need_realm_place.b (fun σ => L2N.passAt (L2N.takes_of rfl rfl rfl rfl) σ) (pa_cons (pv 2) pa_nil)))
      pss_never)), ?_⟩
    rcases h with ⟨bad, out⟩ | ⟨i, rfl, hi, bad, out⟩
    · exact ⟨_, rfl, _, rfl, .inl ⟨bad, out⟩⟩
    · exact ⟨_, rfl, _, rfl, .inr ⟨i, rfl, hi, fun H1 e1 => ⟨_, rfl, _, rfl, .inl ⟨bad.ex e1, out.mono e1⟩⟩⟩⟩
end

/-! ### lands, len and == of a realm -/
/-- a row as data -/
def stD : V → PyData
  | .int s => .int s
  | _ => .none
def rowD (w : Row) : PyData := .tuple [stD w.st, .tuple [.int w.D, .int w.T, .int w.B, .int w.S]]
theorem row_same (w : Row) : (rowD w).eqv (rowD w) = true := by
  unfold rowD
  have st : (stD w.st).eqv (stD w.st) = true := by
    unfold stD
    split <;> simp [PyData.eqv]
  simp [PyData.eqv, PyData.eqvAll, st]
theorem rows_same : ∀ ws : List Row, PyData.eqvAll (ws.map rowD) (ws.map rowD) = true
  | [] => by simp [PyData.eqvAll]
  | w :: ws => by rw [List.map_cons, PyData.eqvAll.eq_2, row_same, rows_same ws]; rfl
theorem all_len : ∀ {xs ys : List PyData}, xs.length ≠ ys.length → PyData.eqvAll xs ys = false
  | [], [], h => absurd rfl h
  | [], _ :: _, _ => by simp [PyData.eqvAll]
  | _ :: _, [], _ => by simp [PyData.eqvAll]
  | x :: xs, y :: ys, h => by
    rw [PyData.eqvAll.eq_2, all_len (xs := xs) (ys := ys) (fun e => h (by rw [List.length_cons, List.length_cons, e])), Bool.and_false]
theorem row_flat (w : Row) : (rowD w).canLay0 = true ∧ (rowD w).depth ≤ 2 := by
  unfold rowD
  have st : (stD w.st).canLay0 = true ∧ (stD w.st).depth = 0 := by
    unfold stD
    split <;> simp [PyData.canLay0, PyData.depth]
  simp [PyData.canLay0, PyData.canLayAll0, PyData.depth, PyData.depthAll, st.1, st.2]
theorem rows_shaped (ws : List Row) : SeqAt.shaped (.list (ws.map rowD)) = true := by
  have all : PyData.canLayAll0 (ws.map rowD) = true ∧ PyData.depthAll (ws.map rowD) ≤ 2 := by
    induction ws with
    | nil => simp [PyData.canLayAll0, PyData.depthAll]
    | cons w ws ih =>
      rw [List.map_cons]
      have r := row_flat w
      constructor
      · simp [PyData.canLayAll0, r.1, ih.1]
      · rw [PyData.depthAll.eq_2]
        exact Nat.max_le.mpr ⟨r.2, ih.2⟩
  unfold SeqAt.shaped
  rw [PyData.canLay0.eq_5, all.1, PyData.depth.eq_1]
  simp
  omega
section
variable {K : PySem.W.Frag} {H : Hp}
theorem land_Dp {v : V} {D T B S : Int} (h : Land H v D T B S) : Dp K H v (.tuple [.int D, .int T, .int B, .int S]) := by
  obtain ⟨a, rfl, ha, _⟩ := h
  exact .tup (st_of ha) (.cons (.int D) (.cons (.int T) (.cons (.int B) (.cons (.int S) .nil))))
theorem rows_Dp {rs : List V} {ws : List Row} (h : RowsAt H rs ws) (st : ∀ w ∈ ws, w.st = .non ∨ ∃ s : Int, w.st = .int s) : DpAll K H rs (ws.map rowD) := by
  induction h with
  | nil => exact .nil
  | @cons r w rs ws x _ ih =>
    obtain ⟨a, v, rfl, ha, hl⟩ := x
    refine .cons (.tup (st_of ha) (.cons ?_ (.cons (land_Dp hl) .nil))) (ih fun w hw => st w (List.mem_cons_of_mem _ hw))
    rcases st w (List.mem_cons_self ..) with e | ⟨s, e⟩
    · rw [e]; exact .non
    · rw [e]; exact .int s
theorem started_st {ws : List Row} (h : Started ws) : ∀ w ∈ ws, w.st = .non ∨ ∃ s : Int, w.st = .int s := fun w hw => by
  obtain ⟨i, hi⟩ := List.getElem?_of_mem hw
  exact (h i w hi).imp (·.2) (·.2)
end
section
variable {P : Program} {w : World} {K : PySem.W.Frag} {mg : Str → Option Value} {base : Heap}
def spLandsR (C : Addr) : Sp := fun vs H Q _ => ∃ x l ws, vs = [.ref x] ∧ RealmAt C H x l ws ∧ ∀ a rs H', H a = none → Ex H H' → H' a = some (.lst rs) → RowsAt H' rs ws → Q (.ref a) H'
theorem ok_Realm_lands (T : Txt K mg) : FnOk P w K mg base CX0 1 T.Realm_lands.f T.Realm_lands.fd ["self"] (spLandsR T.C_Realm) := by
  refine T.Realm_lands.F.ok sc_Realm_lands (fun vs H Q E h => ?_) (fun cdv A outer s H vs Q E hr h => ?_)
  · obtain ⟨_, _, _, rfl, _⟩ := h
    rfl
  · obtain ⟨x, l, ws, rfl, ⟨dx, rs, hx, hl, hrs, hz⟩, q⟩ := h
    refine ⟨_, (pss_one (ps_ret (pe_callTy call_list_of (by rfl) T.b_list (by decide +kernel) (pa_cons (pe_fld (pv 0) rfl) pa_nil)))), ?_⟩
    exact ⟨_, rfl, x, _, dx, _, _, rfl, hx, T.cl_Realm, T.n_Realm_pairs, rfl, l, rs, rfl, .inl (sq_of hl), fun a na => q a rs _ na (Ex.new na) upd_same (hrs.ex (Ex.new na))⟩
def spLenR (C : Addr) : Sp := fun vs H Q _ => ∃ x l ws, vs = [.ref x] ∧ RealmAt C H x l ws ∧ RetV (.int (ws.length : Nat)) H Q
theorem ok_Realm_len (T : Txt K mg) : FnOk P w K mg base CX0 1 T.Realm_len.f T.Realm_len.fd ["self"] (spLenR T.C_Realm) := by
  refine T.Realm_len.F.ok sc_Realm_len (fun vs H Q E h => ?_) (fun cdv A outer s H vs Q E hr h => ?_)
  · obtain ⟨_, _, _, rfl, _⟩ := h
    rfl
  · obtain ⟨x, l, ws, rfl, ⟨dx, rs, hx, hl, hrs, hz⟩, q⟩ := h
    refine ⟨_, (pss_one (ps_ret (pe_callB call_len_seq (by rfl) T.len (by decide +kernel) (pa_cons (pe_fld (pv 0) rfl) pa_nil)))), ?_⟩
    exact ⟨_, rfl, x, _, dx, _, _, rfl, hx, T.cl_Realm, T.n_Realm_pairs, rfl, l, rs, rfl, .inl (sq_of hl), hrs.len ▸ q H (Ex.refl H)⟩
def spEqR (C : Addr) : Sp := fun vs H Q _ => ∃ x l ws y, vs = [.ref x, y] ∧ RealmAt C H x l ws ∧ Started ws ∧
  ((∃ y' l', y = .ref y' ∧ RealmAt C H y' l' ws ∧ RetV (.bl true) H Q) ∨ (∃ y' l' ws', y = .ref y' ∧ RealmAt C H y' l' ws' ∧ Started ws' ∧ ws.length ≠ ws'.length ∧ RetV (.bl false) H Q) ∨ (∃ b xs, y = .ref b ∧ H b = some (.lst xs) ∧ RetV (.bl false) H Q))
theorem ok_Realm_eq (T : Txt K mg) : FnOk P w K mg base CX0 1 T.Realm_eq.f T.Realm_eq.fd ["self", "other"] (spEqR T.C_Realm) := by
  refine T.Realm_eq.F.ok sc_Realm_eq (fun vs H Q E h => ?_) (fun cdv A outer s H vs Q E hr h => ?_)
  · obtain ⟨_, _, _, _, rfl, _⟩ := h
    rfl
  · obtain ⟨x, l, ws, y, rfl, ⟨dx, rs, hx, hl, hrs, hz⟩, st, h⟩ := h
    refine ⟨_, (pss_one (ps_ret (pe_and (pe_callB call_isi (by rfl) T.isinstance (by decide +kernel) (pa_cons (pv 1) (pa_cons (pe_glob (v := .ref T.C_Realm) rfl T.g_Realm rfl) pa_nil))) (pe_one (pe_cmpR (op_eqD hr.units) (pe_fld (pv 0) rfl) (pe_fld (pv 1) rfl) (nomark _)))))), ?_⟩
    have ins : ∀ {y' dy : Addr} {gs : List (Str × V)}, H y' = some (.ins T.C_Realm dy gs) → TyX K H (.ref y') (.ref T.C_Realm) := fun h => .base (.ins h T.cl_Realm T.oc_Realm T.osp T.otk T.om_Realm)
    rcases h with ⟨y', l', rfl, ⟨dy, rs', hx', hl', hrs', _⟩, q⟩ | ⟨y', l', ws', rfl, ⟨dy, rs', hx', hl', hrs', _⟩, st', ne, q⟩ | ⟨b, xs, rfl, hb, q⟩
    · refine ⟨_, rfl, _, _, _, _, true, rfl, .own _, ins hx', T.oi_Realm, _, rfl, iteT ?_⟩
      refine ⟨_, rfl, x, _, dx, _, _, rfl, hx, T.cl_Realm, T.n_Realm_pairs, rfl, _, rfl, y', _, dy, _, _, rfl, hx', T.cl_Realm, T.n_Realm_pairs, rfl, .list (ws.map rowD), .list (ws.map rowD), .lst (sq_of hl) (rows_Dp hrs (started_st st)), .lst (sq_of hl') (rows_Dp hrs' (started_st st)), rows_shaped ws, rows_shaped ws, ?_⟩
      rw [PyData.eqv.eq_7, rows_same]
      exact q H (Ex.refl H)
    · refine ⟨_, rfl, _, _, _, _, true, rfl, .own _, ins hx', T.oi_Realm, _, rfl, iteT ?_⟩
      refine ⟨_, rfl, x, _, dx, _, _, rfl, hx, T.cl_Realm, T.n_Realm_pairs, rfl, _, rfl, y', _, dy, _, _, rfl, hx', T.cl_Realm, T.n_Realm_pairs, rfl, .list (ws.map rowD), .list (ws'.map rowD), .lst (sq_of hl) (rows_Dp hrs (started_st st)), .lst (sq_of hl') (rows_Dp hrs' (started_st st')), rows_shaped ws, rows_shaped ws', ?_⟩
      rw [PyData.eqv.eq_7, all_len (by rw [List.length_map, List.length_map]; exact ne)]
      exact q H (Ex.refl H)
    · exact ⟨_, rfl, _, _, _, _, false, rfl, .own _, .base (.lst hb), T.ol_Realm, _, rfl, iteF (q H (Ex.refl H))⟩
end

/-! ### the land of a day, by the law -/
section
variable {P : Program} {w : World} {K : PySem.W.Frag} {mg : Str → Option Value} {base : Heap}
/-- the rows in a list -/
def RowsL (H : Hp) (r : Addr) (ws : List Row) : Prop := ∃ rs, H r = some (.lst rs) ∧ RowsAt H rs ws ∧ (0 < ws.length ∧ ws.length ≤ 1000)
theorem RowsL.ex {H H' : Hp} {r : Addr} {ws : List Row} (h : RowsL H r ws) (e : Ex H H') : RowsL H' r ws := let ⟨rs, a, b, c⟩ := h; ⟨rs, e _ _ a, b.ex e, c⟩
/-- that of the first rows -/
def rulerTo (ws : List Row) (w0 : Row) (n : Int) (k : Nat) : Row := ((ws.drop 1).take k).foldl (rule1 n) w0
theorem rulerTo_next {ws : List Row} {w0 w1 : Row} {n : Int} {k : Nat} (e : ws[k + 1]? = some w1) : rulerTo ws w0 n (k + 1) = rule1 n (rulerTo ws w0 n k) w1 := by
  unfold rulerTo
  have e : (ws.drop 1)[k]? = some w1 := by rw [List.getElem?_drop, Nat.add_comm]; exact e
  rw [List.take_add_one, e]
  simp [List.foldl_append]
theorem rulerTo_all {ws : List Row} {w0 : Row} {n : Int} (e : ws[0]? = some w0) : rulerTo ws w0 n (ws.length - 1) = ruler ws n := by
  unfold rulerTo ruler
  rw [show ws.length - 1 = (ws.drop 1).length by rw [List.length_drop], List.take_length]
  cases ws with
  | nil => cases e
  | cons w ws => cases e; rfl
def spOf : Sp := fun vs H Q _ => ∃ r ws n, vs = [.ref r, .int n] ∧ RowsL H r ws ∧ Started ws ∧ ∀ v H', Ex H H' → Land H' v (ruler ws n).D (ruler ws n).T (ruler ws n).B (ruler ws n).S → Q v H'
theorem ok__law_of (T : Txt K mg) : FnOk P w K mg base CX0 1 T._law_of.f T._law_of.fd ["rows", "day"] spOf := by
  refine T._law_of.F.ok sc__law_of (fun vs H Q E h => ?_) (fun cdv A outer s H vs Q E hr h => ?_)
  · obtain ⟨_, _, _, rfl, _⟩ := h
    rfl
  · obtain ⟨r, ws, n, rfl, ⟨rs, hr', hrs, hz⟩, st, q⟩ := h
    refine ⟨_, (pss_cons (ps_setLc (i := 2) (own := [("begun", 3), ("land", 4)]) (g := gTup K 2 (gCons (gName 3) (gCons (gName 4) gNil))) (by rfl) sc__law_of.nd rfl rfl (sw_true rfl rfl rfl (by decide +kernel)) (pi_list (pv 0)) (blkOk_by (own := [("begun", 3), ("land", 4)]) (N := ["rows", "day", "some", "begun", "land"]) (sc := defScope s__law_of) (by decide +kernel)) (fun _ _ _ _ _ => (pg_tup rfl (pgs_cons (pg_name (i := 3) sc__law_of.nd rfl (Or.inl rfl)) (pgs_cons (pg_name (i := 4) sc__law_of.nd rfl (Or.inl rfl)) pgs_nil)))) (fun _ _ _ _ _ => (pts_one (PW.pt (pw_or (pt_cmpR op_isN (pv 3) pe_non (nomark _)) (pw_or1 (pt_cmpR op_le (pv 3) (pv 1) (nomark _))))))) (fun _ _ _ _ _ => (pv 4)))
      (pss_one (ps_ret (pe_ix ix_list (pv 2) (pe_un un_neg pe_int) (fun _ _ => rfl))))), ?_⟩
    obtain ⟨w0, ew0⟩ : ∃ w0, ws[0]? = some w0 := ⟨ws[0]'hz.1, List.getElem?_eq_getElem hz.1⟩
    refine ⟨_, rfl, r, rfl, ⟨_, sq_of hr'⟩, fun D hD => ?_⟩
    refine lc_list (xs := rs) (fun i H' => Ex H H' ∧ ∃ acc, H' D = some (.lst acc) ∧ acc.length ≤ i ∧ (0 < i → ∃ v, acc.getLast? = some v ∧ Land H' v (rulerTo ws w0 n (i - 1)).D (rulerTo ws w0 n (i - 1)).T (rulerTo ws w0 n (i - 1)).B (rulerTo ws w0 n (i - 1)).S)) ⟨Ex.new hD, [], upd_same, Nat.le_refl 0, fun z => absurd z (by decide)⟩ (fun i H' _ p => sq_of (p.1 _ _ hr')) (fun i x H1 hi ⟨e1, acc, hacc, lacc, last⟩ => ?_) (fun H1 ⟨e1, acc, hacc, lacc, last⟩ => ?_)
    · obtain ⟨w1, ew1, a, v, rfl, ha, hv⟩ := hrs.at hi
      have lt := (List.getElem?_eq_some_iff.mp hi).1
      have len := hrs.len
      refine ⟨a, _, rfl, st_of (e1 _ _ ha), rfl, _, _, rfl, _, _, rfl, rfl, rfl, ?_⟩
      have grown : ∀ (k : Row), k = rulerTo ws w0 n i → Land H v k.D k.T k.B k.S → ∃ acc', H1 D = some (.lst acc') ∧ acc'.length < sizeLine ∧ Ex H (upd H1 D (.lst (acc' ++ [v]))) ∧ ∃ acc, upd H1 D (.lst (acc' ++ [v])) D = some (.lst acc) ∧ acc.length ≤ i + 1 ∧ (0 < i + 1 → ∃ u, acc.getLast? = some u ∧ Land (upd H1 D (.lst (acc' ++ [v]))) u (rulerTo ws w0 n (i + 1 - 1)).D (rulerTo ws w0 n (i + 1 - 1)).T (rulerTo ws w0 n (i + 1 - 1)).B (rulerTo ws w0 n (i + 1 - 1)).S) := fun k ek hk => by
        subst ek
        have put : Ex H (upd H1 D (.lst (acc ++ [v]))) := ex_put e1 hD
        exact ⟨acc, hacc, Nat.lt_of_lt_of_le (show acc.length < 1001 by omega) (by decide), put, acc ++ [v], upd_same, by rw [List.length_append, List.length_singleton]; omega, fun _ => ⟨v, by simp, hk.ex put⟩⟩
      rcases st i w1 ew1 with ⟨rfl, e⟩ | ⟨pos, s0, e⟩
      · rw [ew0] at ew1
        cases ew1
        rw [e]
        refine ⟨_, rfl, rfl, _, rfl, ?_⟩
        rw [show decide (V.non = V.non) = true from rfl]
        exact iteT (iteT ⟨_, rfl, grown w0 rfl hv⟩)
      · obtain ⟨k, rfl⟩ : ∃ k, i = k + 1 := ⟨i - 1, by omega⟩
        have next := rulerTo_next (w0 := w0) (n := n) ew1
        have r1 : rule1 n (rulerTo ws w0 n k) w1 = if s0 ≤ n then w1 else rulerTo ws w0 n k := by unfold rule1; rw [e]
        rw [r1] at next
        rw [e]
        refine ⟨_, rfl, rfl, _, rfl, ?_⟩
        rw [show decide (V.int s0 = V.non) = false from decide_eq_false fun z => by cases z]
        refine iteF ⟨_, rfl, _, rfl, _, _, rfl, rfl, _, rfl, ?_⟩
        by_cases le : s0 ≤ n
        · rw [if_pos le] at next
          rw [decide_eq_true le]
          exact iteT ⟨_, rfl, grown w1 next.symm hv⟩
        · rw [if_neg le] at next
          rw [decide_eq_false le]
          refine iteF ⟨e1, acc, hacc, by omega, fun _ => ?_⟩
          rw [show k + 1 + 1 - 1 = k + 1 from rfl, next]
          exact last (by omega)
    · have len := hrs.len
      rw [len] at last lacc
      obtain ⟨v, hlast, hv⟩ := last hz.1
      rw [rulerTo_all ew0] at hv
      exact ⟨_, rfl, _, rfl, D, acc, -1, _, rfl, rfl, sq_of hacc, last_at hlast, q v H1 e1 hv⟩
end

/-! ### the date of a day, by the law -/
section
variable {P : Program} {w : World} {K : PySem.W.Frag} {mg : Str → Option Value} {base : Heap}
def spDated : Sp := fun vs H Q _ => ∃ v D T B S n, vs = [v, .int n] ∧ Land H v D T B S ∧ ∀ p H2, H p = none → Ex H H2 → H2 p = some (.tup [.int (yr D T B S n), .int (n - fst D T B S (yr D T B S n))]) → Q (.ref p) H2
theorem ok__law_dated (T : Txt K mg) : FnOk P w K mg base CX0 2 T._law_dated.f T._law_dated.fd ["land", "day"] spDated := by
  have G__law_step : FnOk P w K mg base CX0 1 T._law_step.f T._law_step.fd ["land"] spStep := ok__law_step T
  have G__law_begin : FnOk P w K mg base CX0 1 T._law_begin.f T._law_begin.fd ["land", "year"] spBeg := ok__law_begin T
  refine T._law_dated.F.ok sc__law_dated (fun vs H Q E h => ?_) (fun cdv A outer s H vs Q E hr h => ?_)
  · obtain ⟨_, _, _, _, _, _, rfl, _⟩ := h
    rfl
  · obtain ⟨v, D, T1, B, S, d, rfl, hL, q⟩ := h
    obtain ⟨a, rfl, ha, r1, r2, r3, r4⟩ := id hL
    have hs := step_bd r1 r2 r3
    refine ⟨_, (pss_cons (ps_set (i := 2) sc__law_dated.nd rfl (Or.inl rfl) (pe_op op_sub (pe_op op_fdiv (pe_op op_sub (pe_op op_mul (pv 1) (pe_ix ix_tup (pv 0) pe_int (fun _ _ => rfl))) (pe_ix ix_tup (pv 0) pe_int (fun _ _ => rfl))) (pe_call G__law_step (hr.mono (by omega)) (by rfl) T._law_step.g T._law_step.F.kp T._law_step.b .nil pass0 (pa_cons (pv 0) pa_nil))) pe_int))
      (pss_cons (ps_while PassesOwn.never (pt_cmpR op_le (pe_call G__law_begin (hr.mono (by omega)) (by rfl) T._law_begin.g T._law_begin.F.kp T._law_begin.b .nil pass0 (pa_cons (pv 0) (pa_cons (pe_op op_add (pv 2) pe_int) pa_nil))) (pv 1) (nomark _))
        (pss_one (ps_set (i := 2) sc__law_dated.nd rfl (Or.inl rfl) (pe_op op_add (pv 2) pe_int))))
      (pss_one (ps_ret (pe_tup (pa_cons (pv 2) (pa_cons (pe_op op_sub (pv 1) (pe_call G__law_begin (hr.mono (by omega)) (by rfl) T._law_begin.g T._law_begin.F.kp T._law_begin.b .nil pass0 (pa_cons (pv 0) (pa_cons (pv 2) pa_nil)))) pa_nil))))))), ?_⟩
    refine ⟨_, rfl, _, rfl, a, _, 2, _, rfl, rfl, st_of ha, rfl, _, _, rfl, rfl, cm_r (by omega), _, rfl, a, _, 3, _, rfl, rfl, st_of ha, rfl, _, _, rfl, rfl, ?_⟩
    refine ⟨_, rfl, _, D, T1, B, S, rfl, hL, fun H1 e1 => ⟨_, _, rfl, rfl, ⟨by omega, by omega⟩, _, _, rfl, rfl, ?_⟩⟩
    have start : (d * B - S) / (D * B + T1) - 1 ≤ yr D T1 B S d := by
      have : (d * B - S) / (D * B + T1) ≤ yr D T1 B S d := by
        unfold yr
        refine Int.ediv_le_ediv (by omega) ?_
        rw [Int.add_mul]
        omega
      omega
    refine q_while (fun m σ H' => ∃ y : Int, σ = [some (.ref a), some (.int d), some (.int y)] ∧ y ≤ yr D T1 B S d ∧ (yr D T1 B S d - y).toNat = m ∧ Ex H H') (yr D T1 B S d - ((d * B - S) / (D * B + T1) - 1)).toNat ⟨_, rfl, start, rfl, e1⟩ ?_
    rintro m σ H2 ⟨y, rfl, le, hm, e2⟩
    have le_ := fst_le (D := D) (T := T1) (B := B) (S := S) (y := y + 1) (n := d) r3.1 hs.1
    by_cases more : y + 1 ≤ yr D T1 B S d
    · refine ⟨true, fun H3 e3 Q2 q2 => ⟨_, rfl, _, rfl, _, _, rfl, rfl, _, D, T1, B, S, y + 1, rfl, hL.ex (e2.trans e3), fun H4 e4 => ⟨_, rfl, _, _, rfl, rfl, _, rfl, ?_⟩⟩, fun _ H3 e3 => ?_, fun z => Bool.noConfusion z⟩
      · rw [decide_eq_true (le_.mpr more)]
        exact q2 H4 e4
      · refine ⟨fun σ' H' => σ' = [some (.ref a), some (.int d), some (.int (y + 1))] ∧ Ex H H', fun σ' H' ⟨es, ex⟩ => ⟨(yr D T1 B S d - (y + 1)).toNat, by omega, y + 1, es, more, rfl, ex⟩, ?_⟩
        exact ⟨_, rfl, _, _, rfl, rfl, rfl, e2.trans e3⟩
    · refine ⟨false, fun H3 e3 Q2 q2 => ⟨_, rfl, _, rfl, _, _, rfl, rfl, _, D, T1, B, S, y + 1, rfl, hL.ex (e2.trans e3), fun H4 e4 => ⟨_, rfl, _, _, rfl, rfl, _, rfl, ?_⟩⟩, fun z => Bool.noConfusion z, fun _ H3 e3 => ?_⟩
      · rw [decide_eq_false (fun z => more (le_.mp z))]
        exact q2 H4 e4
      · obtain rfl : y = yr D T1 B S d := by omega
        have e23 := e2.trans e3
        refine ⟨_, rfl, _, rfl, _, rfl, _, rfl, _, D, T1, B, S, _, rfl, hL.ex e23, fun H4 e4 => ⟨_, _, rfl, rfl, by show 2 ≤ sizeLine; decide, fun p np => ?_⟩⟩
        exact q p _ (fresh_back (e23.trans e4) np) ((e23.trans e4).trans (Ex.new np)) upd_same
end

section
variable {P : Program} {w : World} {K : PySem.W.Frag} {mg : Str → Option Value} {base : Heap}
theorem ok__law_whole (T : Txt K mg) : FnOk P w K mg base CX0 1 T._law_whole.f T._law_whole.fd ["thing"] spWhole := by
  refine T._law_whole.F.ok sc__law_whole (fun vs H Q E h => ?_) (fun cdv A outer s H vs Q E hr h => ?_)
  · obtain ⟨x, t, rfl, _⟩ := h
    rfl
  · obtain ⟨x, t, rfl, d, q⟩ := h
    have q0 := q H (Ex.refl H)
    refine ⟨_, (pss_one (ps_ret (pe_and (pe_callB call_isi (by rfl) T.isinstance (by decide +kernel) (pa_cons (pv 0) (pa_cons (pe_bltn (v := .ty "int") (by rfl) T.b_int (by decide +kernel) rfl) pa_nil))) (pe_one (pe_not (pe_callB call_isi (by rfl) T.isinstance (by decide +kernel) (pa_cons (pv 0) (pa_cons (pe_bltn (v := .ty "bool") (by rfl) T.b_bool (by decide +kernel) rfl) pa_nil)))))))), ?_⟩
    refine ⟨_, rfl, _, _, _, _, _, rfl, .ty _, d.ty, kit_kd t .int (by decide), _, rfl, ?_⟩
    cases d
    case non => exact iteF q0
    case str => exact iteF q0
    case lst => exact iteF q0
    case tup => exact iteF q0
    case bl b => exact iteT ⟨_, rfl, _, _, _, _, _, rfl, .ty _, Dat.ty (.bl b), kit_kd .bl .bl (by decide), _, rfl, q0⟩
    case int i => exact iteT ⟨_, rfl, _, _, _, _, _, rfl, .ty _, Dat.ty (.int i), kit_kd .int .bl (by decide), _, rfl, q0⟩
end

/-! ### what a deed is due -/
theorem iteNSF {c A B : Prop} [Decidable c] (hc : ¬ c) (h : A) : if (!decide c) = true then A else B := by
  rw [decide_eq_false hc]
  exact iteT h
/-- a new land, or what is none -/
inductive NewV (H : Hp) : V → Bool → Prop
  | land {v : V} {D T B S : Int} : Land H v D T B S → NewV H v true
  | non : NewV H .non false
  | zero {t : Addr} : H t = some (.tup [.int 0, .int 0, .int 1, .int 0]) → NewV H (.ref t) false
  | lst {t : Addr} : H t = some (.lst [.int 7, .int 0, .int 1, .int 0]) → NewV H (.ref t) false
/-- a day, or what is none -/
inductive DayV : V → Prop
  | int (n : Int) : (-1000000000000000000000000000000 ≤ n ∧ n ≤ 1000000000000000000000000000000) → DayV (.int n)
  | non : DayV .non
  | bl : DayV (.bl true)
/-- whether the change is too early -/
def ltB (st : V) (n : Int) : Bool := match st with
  | .int s => decide (s < n)
  | _ => true
def lateB (ws : List Row) (n : Int) : Bool := match ws.getLast? with
  | some r => ltB r.st n
  | none => true
def dueW (ws : List Row) (d : V) (good : Bool) : Str := match d with
  | .int n => if lateB ws n = true then (if good = true then "" else "NoLand+") else "NoDay+"
  | _ => "NoDay+"
theorem NewV.ex {H H' : Hp} {v : V} {b : Bool} (h : NewV H v b) (e : Ex H H') : NewV H' v b := by
  cases h with
  | land l => exact .land (l.ex e)
  | non => exact .non
  | zero h => exact .zero (e _ _ h)
  | lst h => exact .lst (e _ _ h)
section
variable {P : Program} {w : World} {K : PySem.W.Frag} {mg : Str → Option Value} {base : Heap}
theorem NewV.dp {H : Hp} {v : V} {b : Bool} (h : NewV H v b) : ∃ d : PyData, Dp K H v d ∧ d.canLay0 = true ∧ d.depth ≤ 1 := by
  cases h with
  | land l => exact ⟨_, land_Dp l, by simp [PyData.canLay0, PyData.canLayAll0], by simp [PyData.depth, PyData.depthAll]⟩
  | non => exact ⟨_, .non, by simp [PyData.canLay0], by simp [PyData.depth]⟩
  | zero h => exact ⟨_, .tup (st_of h) (.cons (.int 0) (.cons (.int 0) (.cons (.int 1) (.cons (.int 0) .nil)))), by simp [PyData.canLay0, PyData.canLayAll0], by simp [PyData.depth, PyData.depthAll]⟩
  | lst h => exact ⟨_, .lst (sq_of h) (.cons (.int 7) (.cons (.int 0) (.cons (.int 1) (.cons (.int 0) .nil)))), by simp [PyData.canLay0, PyData.canLayAll0], by simp [PyData.depth, PyData.depthAll]⟩
theorem DayV.dp {H : Hp} {v : V} (h : DayV v) : ∃ d : PyData, Dp K H v d ∧ d.canLay0 = true ∧ d.depth = 0 := by
  cases h with
  | int n _ => exact ⟨_, .int n, by simp [PyData.canLay0], by simp [PyData.depth]⟩
  | non => exact ⟨_, .non, by simp [PyData.canLay0], by simp [PyData.depth]⟩
  | bl => exact ⟨_, .bl true, by simp [PyData.canLay0], by simp [PyData.depth]⟩
theorem deed_dp {H : Hp} {a : Addr} {d v : V} {b : Bool} (ha : H a = some (.tup [d, v])) (hd : DayV d) (hv : NewV H v b) : ∃ e : List PyData, Dp K H (.ref a) (.tuple e) ∧ SeqAt.shaped (.tuple e) = true := by
  obtain ⟨d1, p1, c1, k1⟩ := hd.dp (K := K) (H := H)
  obtain ⟨d2, p2, c2, k2⟩ := hv.dp (K := K)
  refine ⟨[d1, d2], .tup (st_of ha) (.cons p1 (.cons p2 .nil)), ?_⟩
  unfold SeqAt.shaped
  rw [PyData.canLay0.eq_6]
  simp [PyData.canLayAll0, PyData.depth, PyData.depthAll, c1, c2, k1]
  omega
theorem back_shaped : SeqAt.shaped (.str "back") = true := by decide +kernel
def spDue : Sp := fun vs H Q _ => ∃ r ws d0, vs = [.ref r, d0] ∧ RowsL H r ws ∧ Started ws ∧
  ((d0 = .str "back" ∧ RetV (.str (if ws.length = 1 then "NothingLeft+" else "")) H Q) ∨ (∃ a d v b, d0 = .ref a ∧ H a = some (.tup [d, v]) ∧ DayV d ∧ NewV H v b ∧ RetV (.str (dueW ws d b)) H Q))
theorem ok__law_due (T : Txt K mg) : FnOk P w K mg base CX0 2 T._law_due.f T._law_due.fd ["rows", "deed"] spDue := by
  have G__law_whole : FnOk P w K mg base CX0 1 T._law_whole.f T._law_whole.fd ["thing"] spWhole := ok__law_whole T
  refine T._law_due.F.ok sc__law_due (fun vs H Q E h => ?_) (fun cdv A outer s H vs Q E hr h => ?_)
  · obtain ⟨_, _, _, rfl, _⟩ := h
    rfl
  · obtain ⟨r, ws, d0, rfl, ⟨rs, hr', hrs, hz⟩, st, h⟩ := h
    refine ⟨_, (pss_cons (ps_if (pt_cmpR (op_eqD hr.units) (pv 1) pe_str (nomark _))
        (pss_one (ps_ret (pe_ifExp (pt_cmpR op_eq (pe_callB call_len_seq (by rfl) T.len (by decide +kernel) (pa_cons (pv 0) pa_nil)) pe_int (nomark _)) pe_str pe_str)))
        pss_nil)
      (pss_cons (ps_asg (pv 1) (pg_tup rfl (pgs_cons (pg_name (i := 2) sc__law_due.nd rfl (Or.inl rfl)) (pgs_cons (pg_name (i := 3) sc__law_due.nd rfl (Or.inl rfl)) pgs_nil))))
      (pss_cons (ps_if (PW.pt (pw_or (pt_not (pt_val (pe_call G__law_whole (hr.mono (by omega)) (by rfl) T._law_whole.g T._law_whole.F.kp T._law_whole.b .nil pass0 (pa_cons (pv 2) pa_nil)))) (pw_or (pt_cmpR op_gt (pe_callB call_abs (by rfl) T.abs (by decide +kernel) (pa_cons (pv 2) pa_nil)) (pe_op op_pow pe_int pe_int) (nomark _)) (pw_or1 (PW.pt (pw_and (pt_cmpR op_notN (pe_ix ix_tup (pe_ix ix_list (pv 0) (pe_un un_neg pe_int) (fun _ _ => rfl)) pe_int (fun _ _ => rfl)) pe_non (nomark _)) (pw_and1 (pt_cmpR op_le (pv 2) (pe_ix ix_tup (pe_ix ix_list (pv 0) (pe_un un_neg pe_int) (fun _ _ => rfl)) pe_int (fun _ _ => rfl)) (nomark _)))))))))
        (pss_one (ps_ret pe_str))
        pss_nil)
      (pss_one (ps_ret (pe_ifExp (PW.pt (pw_and (pt_val (pe_callB call_isi (by rfl) T.isinstance (by decide +kernel) (pa_cons (pv 3) (pa_cons (pe_bltn (v := .ty "tuple") (by rfl) T.tuple (by decide +kernel) rfl) pa_nil)))) (pw_and (pt_cmpR op_eq (pe_callB call_len_seq (by rfl) T.len (by decide +kernel) (pa_cons (pv 3) pa_nil)) pe_int (nomark _)) (pw_and1 (pt_cmpR op_ne (pe_ix ix_tup (pv 3) pe_int (fun _ _ => rfl)) pe_int (nomark _)))))) pe_str pe_str)))))), ?_⟩
    rcases h with ⟨rfl, q⟩ | ⟨a, d, v, b, rfl, ha, hd, hv, q⟩
    · refine ⟨_, rfl, _, _, .str _, .str _, back_shaped, back_shaped, _, rfl, ?_⟩
      rw [show (PyData.str "back").eqv (.str "back") = true by decide +kernel]
      refine iteT ⟨_, rfl, r, rs, rfl, .inl (sq_of hr'), rfl, _, rfl, ?_⟩
      have len := hrs.len
      by_cases one : ws.length = 1
      · rw [if_pos one] at q
        rw [decide_eq_true (show V.int ((rs.length : Nat) : Int) = V.int 1 by congr 1; omega)]
        exact iteT (q H (Ex.refl H))
      · rw [if_neg one] at q
        rw [decide_eq_false (fun z => by have := V.int.inj z; omega : ¬ V.int ((rs.length : Nat) : Int) = V.int 1)]
        exact iteF (q H (Ex.refl H))
    · obtain ⟨e, dp, sh⟩ := deed_dp (K := K) ha hd hv
      refine ⟨_, rfl, _, _, dp, .str _, sh, back_shaped, _, rfl, ?_⟩
      rw [show (PyData.tuple e).eqv (.str "back") = false by simp [PyData.eqv]]
      refine iteF ⟨_, rfl, a, _, rfl, st_of ha, rfl, _, _, rfl, _, _, rfl, rfl, ?_⟩
      obtain ⟨r0, er0⟩ : ∃ r0, ws[ws.length - 1]? = some r0 := ⟨ws[ws.length - 1]'(by omega), List.getElem?_eq_getElem _⟩
      have hlast : ws.getLast? = some r0 := by rw [List.getLast?_eq_getElem?, er0]
      obtain ⟨pr, epr, a0, v0, rfl, ha0, hL0⟩ := hrs.row er0
      have hl2 : rs.getLast? = some (.ref a0) := by rw [List.getLast?_eq_getElem?, hrs.len, epr]
      cases hd with
      | non =>
        refine ⟨_, rfl, _, _, rfl, .non, fun H1 e1 => ⟨_, rfl, iteT (iteT ?_)⟩⟩
        exact q H1 e1
      | bl =>
        refine ⟨_, rfl, _, _, rfl, .bl true, fun H1 e1 => ⟨_, rfl, iteT (iteT ?_)⟩⟩
        exact q H1 e1
      | int n hn =>
        refine ⟨_, rfl, _, _, rfl, .int n, fun H1 e1 => ⟨_, rfl, iteF ?_⟩⟩
        refine ⟨_, rfl, n, rfl, _, _, rfl, rfl, ⟨by decide, by decide, by decide⟩, _, _, rfl, rfl, _, rfl, ?_⟩
        have nf : ¬ ((10 : Int) ^ (30 : Int).toNat < if n < 0 then -n else n) := by
          rw [show (10 : Int) ^ (30 : Int).toNat = 1000000000000000000000000000000 by decide +kernel]
          split <;> omega
        rw [decide_eq_false nf]
        refine iteF ?_
        have late : lateB ws n = ltB r0.st n := by
          unfold lateB
          rw [hlast]
        have ha1 := e1 _ _ ha0
        have start : (r0.st = .non) ∨ ∃ s : Int, r0.st = .int s := (st _ _ er0).imp (·.2) (·.2)
        have tail : lateB ws n = true → RetV (.str (if b = true then "" else "NoLand+")) H1 Q := fun lt H2 e2 => by
          have z : Q (.str (if lateB ws n = true then (if b = true then "" else "NoLand+") else "NoDay+")) H2 := q H2 (e1.trans e2)
          rw [if_pos lt] at z
          exact z
        refine ⟨_, rfl, _, rfl, r, rs, -1, _, rfl, rfl, sq_of (e1 _ _ hr'), last_at hl2, a0, _, 0, _, rfl, rfl, st_of ha1, rfl, rfl, _, rfl, ?_⟩
        rcases start with e0 | ⟨s0, e0⟩
        · rw [e0] at late
          have tail := tail late
          rw [e0, show decide (V.non = V.non) = true from rfl]
          refine iteF (iteF ?_)
          obtain hv1 := hv.ex e1
          cases hv1 with
          | @land v D T1 B S l =>
            obtain ⟨la, rfl, hla, r1, _⟩ := l
            refine ⟨_, rfl, _, _, _, _, _, rfl, .ty _, Dat.ty (.tup hla), kit_kd .tup .tup (by decide), _, rfl, iteT ?_⟩
            refine ⟨_, rfl, la, _, rfl, .inr (st_of hla), rfl, _, rfl, iteT ?_⟩
            refine ⟨_, rfl, la, _, 0, _, rfl, rfl, st_of hla, rfl, rfl, _, rfl, ?_⟩
            exact iteNSF (fun z => by have := V.int.inj z; omega) (tail H1 (Ex.refl H1))
          | non => exact ⟨_, rfl, _, _, _, _, _, rfl, .ty _, Dat.ty .non, kit_kd .non .tup (by decide), _, rfl, iteF (tail H1 (Ex.refl H1))⟩
          | @zero t h =>
            refine ⟨_, rfl, _, _, _, _, _, rfl, .ty _, Dat.ty (.tup h), kit_kd .tup .tup (by decide), _, rfl, iteT ?_⟩
            refine ⟨_, rfl, t, _, rfl, .inr (st_of h), rfl, _, rfl, iteT ?_⟩
            refine ⟨_, rfl, t, _, 0, _, rfl, rfl, st_of h, rfl, rfl, _, rfl, ?_⟩
            exact iteNS rfl (tail H1 (Ex.refl H1))
          | @lst t h => exact ⟨_, rfl, _, _, _, _, _, rfl, .ty _, Dat.ty (.lst h), kit_kd .lst .tup (by decide), _, rfl, iteF (tail H1 (Ex.refl H1))⟩
        · rw [e0] at late ha1
          rw [e0, show decide (V.int s0 = V.non) = false from decide_eq_false fun z => by cases z]
          refine iteT ⟨_, rfl, _, rfl, _, rfl, r, rs, -1, _, rfl, rfl, sq_of (e1 _ _ hr'), last_at hl2, a0, _, 0, _, rfl, rfl, st_of ha1, rfl, _, _, rfl, rfl, _, rfl, ?_⟩
          by_cases le : n ≤ s0
          · rw [decide_eq_true le]
            have z : Q (.str (if lateB ws n = true then (if b = true then "" else "NoLand+") else "NoDay+")) H1 := q H1 e1
            rw [if_neg (by rw [late.trans (decide_eq_false (by omega : ¬ s0 < n))]; decide)] at z
            exact iteT z
          · rw [decide_eq_false le]
            have tail := tail (late.trans (decide_eq_true (by omega)))
            refine iteF ?_
            obtain hv1 := hv.ex e1
            cases hv1 with
            | @land v D T1 B S l =>
              obtain ⟨la, rfl, hla, r1, _⟩ := l
              refine ⟨_, rfl, _, _, _, _, _, rfl, .ty _, Dat.ty (.tup hla), kit_kd .tup .tup (by decide), _, rfl, iteT ?_⟩
              refine ⟨_, rfl, la, _, rfl, .inr (st_of hla), rfl, _, rfl, iteT ?_⟩
              refine ⟨_, rfl, la, _, 0, _, rfl, rfl, st_of hla, rfl, rfl, _, rfl, ?_⟩
              exact iteNSF (fun z => by have := V.int.inj z; omega) (tail H1 (Ex.refl H1))
            | non => exact ⟨_, rfl, _, _, _, _, _, rfl, .ty _, Dat.ty .non, kit_kd .non .tup (by decide), _, rfl, iteF (tail H1 (Ex.refl H1))⟩
            | @zero t h =>
              refine ⟨_, rfl, _, _, _, _, _, rfl, .ty _, Dat.ty (.tup h), kit_kd .tup .tup (by decide), _, rfl, iteT ?_⟩
              refine ⟨_, rfl, t, _, rfl, .inr (st_of h), rfl, _, rfl, iteT ?_⟩
              refine ⟨_, rfl, t, _, 0, _, rfl, rfl, st_of h, rfl, rfl, _, rfl, ?_⟩
              exact iteNS rfl (tail H1 (Ex.refl H1))
            | @lst t h => exact ⟨_, rfl, _, _, _, _, _, rfl, .ty _, Dat.ty (.lst h), kit_kd .lst .tup (by decide), _, rfl, iteF (tail H1 (Ex.refl H1))⟩
end

/-! ### several tables, told words (of the pieces l4 to l14) -/
section
variable {H : Hp}
theorem Tabs.ex {cs : List (Addr × Str)} {H' : Hp} (t : LamX.Tabs cs H) (e : Ex H H') : LamX.Tabs cs H' := fun p hp => (t p hp).ext e
end
section
variable {P : Program} {w : World} {K : PySem.W.Frag} {mg : Str → Option Value} {base : Heap} {H H' H2 : Hp} {v x y z : V} {lo hi : Int}
/-- the error is C -/
def isC (C : Addr) : XK := fun cls d _ => cls = .ref C ∧ d = none
theorem out_isC {C C' : Addr} {E : XK} (h : Out C' (isC C) H) (o : Out C E H') : Out C' E H' := by
  have := (h H (Ex.refl H)).1
  injection this with e
  subst e
  exact o
theorem isC_out {C : Addr} : Out C (isC C) H := fun _ _ => ⟨rfl, rfl⟩
/-- tuples and lists stay -/
def Tame (H H' : Hp) : Prop := ∀ b, (∀ xs, H b = some (.tup xs) → H' b = some (.tup xs)) ∧ (∀ xs, H b = some (.lst xs) → H' b = some (.lst xs))
theorem Tame.of (e : LamX.ExtN H H') : Tame H H' := fun b => ⟨fun xs h => e b _ h (fun ps z => by cases z), fun xs h => e b _ h (fun ps z => by cases z)⟩
theorem Tame.trans (a : Tame H H') (b : Tame H' H2) : Tame H H2 := fun c => ⟨fun xs h => (b c).1 _ ((a c).1 _ h), fun xs h => (b c).2 _ ((a c).2 _ h)⟩
theorem Tame.refl : Tame H H := fun _ => ⟨fun _ h => h, fun _ h => h⟩
theorem Tame.ofEx (e : Ex H H') : Tame H H' := fun b => ⟨fun _ h => e _ _ h, fun _ h => e _ _ h⟩
theorem Dat.tame {k : Kd} (d : Dat H x k) (e : Tame H H') : Dat H' x k := by
  cases d with
  | non => exact .non
  | bl b => exact .bl b
  | int i => exact .int i
  | str x => exact .str x
  | lst h => exact .lst ((e _).2 _ h)
  | tup h => exact .tup ((e _).1 _ h)
theorem Bad.tame (h : Bad H x lo hi) (e : Tame H H') : Bad H' x lo hi := let ⟨k, d, n⟩ := h; ⟨k, d.tame e, n⟩
theorem Land.tame {D T B S : Int} (h : Land H v D T B S) (e : Tame H H') : Land H' v D T B S := let ⟨a, ev, ha, r⟩ := h; ⟨a, ev, (e a).1 _ ha, r⟩
theorem NoL.tame (h : NoL H v) (e : Tame H H') : NoL H' v := by
  obtain ⟨t, d, pt, no⟩ := h
  refine ⟨t, d.tame e, ?_, ?_⟩
  · rintro a xs rfl ha y hy
    cases d with
    | lst h => rw [(e _).2 _ h] at ha; cases ha
    | tup h =>
      rw [(e _).1 _ h] at ha
      cases ha
      obtain ⟨u, du⟩ := pt _ _ rfl h y hy
      exact ⟨u, du.tame e⟩
  · cases d with
    | non => rfl
    | bl b => rfl
    | int i => rfl
    | str x => rfl
    | lst h => exact landB_lst ((e _).2 _ h)
    | tup h =>
      rw [landB_tup h] at no
      rw [landB_tup ((e _).1 _ h)]
      exact no
/-- a def whose code object is at c -/
def CodeAt (K : PySem.W.Frag) (x : Str) (st : Stmt) (f : Addr) (fd : FuncData) (c : Addr) : Prop := ∃ (oc kV doc pm ct : Value) (od an : Option Addr) (sl : Array (Option Value)), fd = PySem.W.fnOf x x (defArgs st) (defBody st) (defScope st) .none kV doc pm an (.ref c) ct ∧ K.lookup f = some ⟨oc, od, .func fd, sl⟩ ∧ PySem.W.codeIn K (.ref c) x = true
/-- it makes lambdas; their table is at p, one of those at cs -/
structure Maker (K : PySem.W.Frag) (mg : Str → Option Value) (base : Heap) (cs : List (Addr × Str)) (x : Str) (st : Stmt) (f : Addr) (fd : FuncData) : Type where
  c : Addr
  p : Addr
  code : CodeAt K x st f fd c
  tb : LamX.TabB base mg c p
  mem : (p, x ++ ".<locals>." ++ "<lambda>") ∈ cs
  one : ∀ y ∈ cs, y.1 = p → y.2 = x ++ ".<locals>." ++ "<lambda>"
end
section
theorem ne_told {H : Hp} {a b : Addr} {o o' : HO} (e : H a = some o) (e' : H b = some o') (ne : o ≠ o') : a ≠ b := fun z => by
  rw [z, e'] at e
  exact ne (Option.some.inj e).symm
theorem tabs_list {cs : List (Addr × Str)} {H : Hp} {l : Addr} {xs ys : List V} (hl : H l = some (.lst xs)) (t : LamX.Tabs cs H) : LamX.Tabs cs (upd H l (.lst ys)) := fun p hp => by
  obtain ⟨ps, hP, ok, all⟩ := t p hp
  refine ⟨ps, (upd_ne (ne_told hP hl fun z => by cases z)).trans hP, ok, fun pos cv h => ?_⟩
  obtain ⟨c, e1, e2⟩ := all pos cv h
  exact ⟨c, e1, (upd_ne (ne_told e2 hl fun z => by unfold LamX.CodeO at z; cases z)).trans e2⟩
/-- all of H stays, and a is new -/
def ExtB (a : Addr) (H H' : Hp) : Prop := ∀ b o, H b = some o → (∀ ps, o ≠ .tbl ps) → b ≠ a ∧ H' b = some o
theorem ExtB.new {a : Addr} {H H' : Hp} {o' : HO} (e : LamX.ExtN H H') (na : H' a = none) : ExtB a H (upd H' a o') := fun b o h no =>
  have ne := ne_of_none (e b o h no) na
  ⟨ne, (upd_ne ne).trans (e b o h no)⟩
theorem ExtB.step {a : Addr} {H H' H2 : Hp} {o' : HO} (x : ExtB a H H') (e : LamX.ExtN H' H2) : ExtB a H (upd H2 a o') := fun b o h no =>
  ⟨(x b o h no).1, (upd_ne (x b o h no).1).trans (e b o (x b o h no).2 no)⟩
theorem ExtB.extN {a : Addr} {H H' : Hp} (x : ExtB a H H') : LamX.ExtN H H' := fun b o h no => (x b o h no).2
end
section
variable {P : Program} {w : World} {K : PySem.W.Frag} {mg : Str → Option Value} {base : Heap}
/-- an error of the class C is told by the word wd -/
def Says (T : Txt K mg) (C : Addr) (wd : Str) : Prop := ∃ b0 b1 b2 b3 b4 b5 b6 b7 b8 b9, PySem.W.exmOne K (.ref C) (.ref T.C_YearError) = some true ∧ Kin T C b0 b1 b2 b3 b4 b5 b6 b7 b8 b9 ∧ kinWord [b0, b1, b2, b3, b4, b5, b6, b7, b8, b9] = wd
theorem says_NoLand (T : Txt K mg) : Says T T.C_NoLand "NoLand+" := ⟨true, false, false, false, false, false, false, false, false, true, T.err_NoLand.em, ⟨T.err_NoLand.is, T.ki_NoLand_NoLand, T.ki_NoLand_NoYear, T.ki_NoLand_NoDay, T.ki_NoLand_NoPlace, T.ki_NoLand_NoWeek, T.ki_NoLand_NoName, T.ki_NoLand_NoSeen, T.ki_NoLand_NoNumber, T.ki_NoLand_NothingLeft, T.ki_NoLand_V⟩, by decide +kernel⟩
theorem says_NoYear (T : Txt K mg) : Says T T.C_NoYear "NoYear+" := ⟨false, true, false, false, false, false, false, false, false, true, T.err_NoYear.em, ⟨T.err_NoYear.is, T.ki_NoYear_NoLand, T.ki_NoYear_NoYear, T.ki_NoYear_NoDay, T.ki_NoYear_NoPlace, T.ki_NoYear_NoWeek, T.ki_NoYear_NoName, T.ki_NoYear_NoSeen, T.ki_NoYear_NoNumber, T.ki_NoYear_NothingLeft, T.ki_NoYear_V⟩, by decide +kernel⟩
theorem says_NoDay (T : Txt K mg) : Says T T.C_NoDay "NoDay+" := ⟨false, false, true, false, false, false, false, false, false, true, T.err_NoDay.em, ⟨T.err_NoDay.is, T.ki_NoDay_NoLand, T.ki_NoDay_NoYear, T.ki_NoDay_NoDay, T.ki_NoDay_NoPlace, T.ki_NoDay_NoWeek, T.ki_NoDay_NoName, T.ki_NoDay_NoSeen, T.ki_NoDay_NoNumber, T.ki_NoDay_NothingLeft, T.ki_NoDay_V⟩, by decide +kernel⟩
theorem says_NoPlace (T : Txt K mg) : Says T T.C_NoPlace "NoPlace+" := ⟨false, false, false, true, false, false, false, false, false, true, T.err_NoPlace.em, ⟨T.err_NoPlace.is, T.ki_NoPlace_NoLand, T.ki_NoPlace_NoYear, T.ki_NoPlace_NoDay, T.ki_NoPlace_NoPlace, T.ki_NoPlace_NoWeek, T.ki_NoPlace_NoName, T.ki_NoPlace_NoSeen, T.ki_NoPlace_NoNumber, T.ki_NoPlace_NothingLeft, T.ki_NoPlace_V⟩, by decide +kernel⟩
theorem caught_says {T : Txt K mg} {C : Addr} {wd : Str} {Q : VK} {H : Hp} (s : Says T C wd) (q : RetV (.str wd) H Q) : Caught T Q (.ref C) none H := by
  obtain ⟨b0, b1, b2, b3, b4, b5, b6, b7, b8, b9, em, kin, e⟩ := s
  exact ⟨C, b0, b1, b2, b3, b4, b5, b6, b7, b8, b9, rfl, rfl, em, kin, e ▸ q⟩
/-- _law_try(lambda: body) among several tables -/
theorem pe_tries {X : Cx} {n : Nat} {cs : List (Addr × Str)} (T : Txt X.K X.mg) {params : Arguments} {body : Expr} {scope : Scope} {c p : Addr} {tb : XK → TE} {q lpos pos : Pos} (hg : Gl X "_law_try") (TB : LamX.TabB X.base X.mg c p) (hcode : X.env.code = .ref c) (mem : (p, X.env.qual ++ "<lambda>") ∈ cs) (one : ∀ y ∈ cs, y.1 = p → y.2 = X.env.qual ++ "<lambda>") (hr : Room (n + 2) X.A) (L : LamX.LamS X.env.scope scope)
    (hdef : defaultsOf params X.env = ([], [])) (none_ : ∀ (q : Str) (cl : List (Str × Addr)) (pm cv ctv : Value), bindArgs (PySem.W.kla_fn "<lambda>" q params body scope cl pm cv ctv) ⟨[], []⟩ = pure [])
    (runs : ∀ (f c' : Addr) (A : Around) (outer : List Env) (sZ : Shared) (HZ : Hp) (E : XK), Room n (A.deeper (LamX.lamEnv X scope sZ.heap.objs.size f c')) → PE (lamN X A outer sZ HZ E scope f c') body (tb E)) :
    PE X (.Call (.Name "_law_try" q) [.Lambda params body scope lpos] [] pos) (fun σ H Q => LamX.Tabs cs H ∧ ∀ H1, LamX.ExtN H H1 → LamX.Tabs cs H1 → ∀ (E : XK) (Q' : VK), (∀ cls d H', Caught T Q cls d H' → E cls d H') → (∀ v H', Given Q v H' → Q' v H') → tb E σ H1 Q') := by
  refine ⟨fun pins s σ H Q I ⟨tabs0, h⟩ => wpAny_Call_Name_kw (ld_glob I hg T._law_try.g ?_)⟩
  refine PySem.W.callWith_K (h₀ := X.base) I.ok.mod.kin T._law_try.F.kp (args_cons (LamX.lam_make2 I TB hcode mem one tabs0 hdef (L.has I.ok) fun f c' pm ctv H1 s1 I1 ext tabs made out nofr code => args_nil ⟨I1.kIn, ?_⟩))
  obtain ⟨oc, od, kV, doc, pm', an, cdv, ct, osl, e, lk, cd⟩ := T._law_try.F.ex
  have bound := T._law_try.b s1 [.ref f] I1.kIn rfl
  rw [e] at bound lk
  refine wpAny_call (codeAny_mono (LamX.run_ofS (CX := CX0) (E := E0) (Q := Q) lk cd sc__law_try hr I1.env0 bound (vs := [.ref f]) (.cons rfl .nil) rfl fun hr1 => try_runs T I1 L ⟨⟨pm, ctv, made⟩, out, nofr, code⟩ none_ (runs f c') hr1 (h H1 ext tabs)) fun r t z => ?_)
  match r, z with
  | .ok (.ret u), z => exact I1.after z
  | .error x, z => exact (z : False).elim
end
section
variable {P : Program} {w : World} {K : PySem.W.Frag} {mg : Str → Option Value} {base : Heap}
/-- a def that makes lambdas and tries them -/
theorem maker_run {cs : List (Addr × Str)} {x : Str} {st : Stmt} {f : Addr} {fd : FuncData} {N ps : List Str} {k : Nat} {sp : Sp} (M : Maker K mg base cs x st f fd) (S : FnScope N ps (defScope st)) (len : ∀ vs H Q E, sp vs H Q E → vs.length = ps.length)
    (body : ∀ (A : Around) (outer : List Env) (s : Shared) (H : Hp) (vs : List V) (Q : VK) (E : XK), Room k (A.deeper (envOfC x (defScope st) s.heap.objs.size f (.ref M.c))) → sp vs H Q E →
      ∃ t, PSs (cxOf CX0 P w K mg base N x (defScope st) f (.ref M.c) A outer s H E) (defBody st) t ∧ t { nx := fun _ H' => Q .non H', rt := Q } (L2.start N vs) H) : FnOk P w K mg base CX0 (k + 1) f fd ps sp := by
  obtain ⟨c, p, ⟨oc, kV, doc, pm, ct, od, an, sl, e, lk, cd⟩, tb, mem, one⟩ := M
  subst e
  exact ⟨len, fun A outer s H args us vs Q E hr e0 hb r h => LamX.run_ofS lk cd S hr e0 hb r (len _ _ _ _ h) fun hr1 => body A outer s H vs Q E hr1 h⟩
/-- what follows an error told by its word, compared with it -/
structure Stay (cs : List (Addr × Str)) (p : Addr) (xs : List V) (H H' : Hp) : Prop where
  lst : H' p = some (.lst xs)
  ext : LamX.ExtN H H'
  tab : LamX.Tabs cs H'
theorem Stay.extN {cs : List (Addr × Str)} {p : Addr} {xs : List V} {H H1 H2 : Hp} (s : Stay cs p xs H H1) (e : LamX.ExtN H1 H2) (t : LamX.Tabs cs H2) : Stay cs p xs H H2 := ⟨e _ _ s.lst (fun ps z => by cases z), s.ext.trans e, t⟩
theorem Stay.ex {cs : List (Addr × Str)} {p : Addr} {xs : List V} {H H1 H2 : Hp} (s : Stay cs p xs H H1) (e : Ex H1 H2) : Stay cs p xs H H2 := s.extN (LamX.ExtN.of e) (Tabs.ex s.tab e)
end
section
variable {H : Hp} {a : Addr}
theorem NoL.non : NoL H .non := ⟨_, .non, fun a xs z => (by cases z), rfl⟩
theorem NoL.bl {b : Bool} : NoL H (.bl b) := ⟨_, .bl b, fun a xs z => (by cases z), rfl⟩
theorem NoL.int {i : Int} : NoL H (.int i) := ⟨_, .int i, fun a xs z => (by cases z), rfl⟩
theorem NoL.str {x : Str} : NoL H (.str x) := ⟨_, .str x, fun a xs z => (by cases z), rfl⟩
theorem NoL.lst {xs : List V} (h : H a = some (.lst xs)) : NoL H (.ref a) := ⟨_, .lst h, fun b ys z hb => (by cases z; rw [h] at hb; cases hb), landB_lst h⟩
theorem NoL.tup {is : List Int} (h : H a = some (.tup (is.map V.int))) (no : landL (is.map V.int) = false) : NoL H (.ref a) := by
  refine ⟨_, .tup h, fun b ys z hb y hy => ?_, (landB_tup h).trans no⟩
  cases z
  rw [h] at hb
  cases hb
  obtain ⟨i, _, rfl⟩ := List.mem_map.mp hy
  exact ⟨_, .int i⟩
theorem TabS_but {H H' : Hp} {P x : Addr} {q : Str} {zs : List V} (t : LamX.TabS H P q) (hx : H x = some (.lst zs)) (e : ExD x H H') : LamX.TabS H' P q := by
  obtain ⟨ps, hP, ok, all⟩ := t
  refine ⟨ps, e _ _ (fun z => by rw [z, hx] at hP; cases hP) hP, ok, fun pos cv h => ?_⟩
  obtain ⟨c, e1, e2⟩ := all pos cv h
  exact ⟨c, e1, e _ _ (fun z => by rw [z, hx] at e2; cases e2) e2⟩
theorem Dk.ne_fresh {n : Nat} {H : Hp} {d p : Addr} (h : Dk n H d) (hp : H p = none) : p ≠ d := fun z => by
  obtain ⟨_, _, _, hd, _⟩ := h
  rw [z, hd] at hp
  cases hp
/-- as Stay, while the deck at d is drawn from -/
structure StayD (cs : List (Addr × Str)) (p : Addr) (xs : List V) (d : Addr) (H H' : Hp) : Prop where
  lst : H' p = some (.lst xs)
  ne : p ≠ d
  ext : ExtB d H H'
  tab : LamX.Tabs cs H'
def spLawC (K : PySem.W.Frag) (cs : List (Addr × Str)) : Sp := fun vs H Q _ => ∃ (a : Addr) (ns : List Int), vs = [.ref a] ∧ SqL K H a (ns.map V.int) ∧ ns.length ≤ 63 ∧ LamX.Tabs cs H ∧ ∀ H', Q (.bl true) H'
end
section
theorem one_of {p : Addr} {q : Str} : ∀ {cs : List (Addr × Str)}, (cs.map (·.1)).Nodup → (p, q) ∈ cs → ∀ y ∈ cs, y.1 = p → y.2 = q
  | [], _, m, _, _, _ => by cases m
  | z :: cs, nd, m, y, hy, e => by
    rw [List.map_cons, List.nodup_cons] at nd
    rcases List.mem_cons.mp m with rfl | m1
    · rcases List.mem_cons.mp hy with rfl | later
      · rfl
      · exact absurd (List.mem_map.mpr ⟨y, later, e⟩) nd.1
    · rcases List.mem_cons.mp hy with rfl | later
      · exact absurd (List.mem_map.mpr ⟨(p, q), m1, e.symm⟩) nd.1
      · exact one_of nd.2 m1 y later e
end

/-! ### a deed done -/
section
variable {P : Program} {w : World} {K : PySem.W.Frag} {mg : Str → Option Value} {base : Heap}
/-- what a lambda calls: a method -/
theorem lam_passes {X : Cx} {A : Around} {outer : List Env} {s : Shared} {H : Hp} {E : XK} {scope : Scope} {f c : Addr} : Passes (L2N.CX X.prog X.w) (lamN X A outer s H E scope f c) (fun cls d H2 => E cls d H2) :=
  fun pins σ H s e s' I c => L2N.passAt (lamN_takes (X := X)) σ pins H s e s' I c
/-- all but the list at l stands, and the tables are tables -/
structure Done (cs : List (Addr × Str)) (l : Addr) (H H' : Hp) : Prop where
  ext : ∀ b o, b ≠ l → H b = some o → (∀ ps, o ≠ .tbl ps) → H' b = some o
  tab : LamX.Tabs cs H'
/-- the deed, by the rows, and the word that is told -/
inductive Deed (C x l : Addr) (cs : List (Addr × Str)) (ws : List Row) (H : Hp) (Q : VK) : V → Prop
  | none_left : ws.length = 1 → (∀ H', Done cs l H H' → RealmAt C H' x l ws → Q (.str "NothingLeft+") H') → Deed C x l cs ws H Q (.str "back")
  | back : 1 < ws.length → (∀ H', Done cs l H H' → RealmAt C H' x l ws.dropLast → Q (.str "") H') → Deed C x l cs ws H Q (.str "back")
  | change {a : Addr} {d v : V} {b : Bool} : H a = some (.tup [d, v]) → DayV d → NewV H v b → ws.length < 999 →
      (dueW ws d b ≠ "" → ∀ H', Done cs l H H' → RealmAt C H' x l ws → Q (.str (dueW ws d b)) H') →
      (∀ n D T B S, d = .int n → Land H v D T B S → dueW ws d b = "" → ∀ H', Done cs l H H' → RealmAt C H' x l (ws ++ [⟨.int n, D, T, B, S⟩]) → Q (.str "") H') → Deed C x l cs ws H Q (.ref a)
theorem says_NothingLeft (T : Txt K mg) : Says T T.C_NothingLeft "NothingLeft+" := ⟨false, false, false, false, false, false, false, false, true, true, T.err_NothingLeft.em, ⟨T.err_NothingLeft.is, T.ki_NothingLeft_NoLand, T.ki_NothingLeft_NoYear, T.ki_NothingLeft_NoDay, T.ki_NothingLeft_NoPlace, T.ki_NothingLeft_NoWeek, T.ki_NothingLeft_NoName, T.ki_NothingLeft_NoSeen, T.ki_NothingLeft_NoNumber, T.ki_NothingLeft_NothingLeft, T.ki_NothingLeft_V⟩, by decide +kernel⟩
theorem RowsAt.tame {H H' : Hp} {rs : List V} {ws : List Row} (h : RowsAt H rs ws) (e : Tame H H') : RowsAt H' rs ws := by
  induction h with
  | nil => exact .nil
  | cons x _ ih =>
    obtain ⟨a, v, er, ha, hv⟩ := x
    exact .cons ⟨a, v, er, (e a).1 _ ha, hv.tame e⟩ ih
theorem RealmAt.extN {C : Addr} {H H' : Hp} {x l : Addr} {ws : List Row} (h : RealmAt C H x l ws) (e : LamX.ExtN H H') : RealmAt C H' x l ws := by
  obtain ⟨dx, rs, hx, hl, hrs, hz⟩ := h
  exact ⟨dx, rs, e _ _ hx (fun ps z => by cases z), e _ _ hl (fun ps z => by cases z), hrs.tame (Tame.of e), hz⟩
theorem NewV.tame {H H' : Hp} {v : V} {b : Bool} (h : NewV H v b) (e : Tame H H') : NewV H' v b := by
  cases h with
  | land l => exact .land (l.tame e)
  | non => exact .non
  | zero h => exact .zero ((e _).1 _ h)
  | lst h => exact .lst ((e _).2 _ h)
theorem told_shaped : SeqAt.shaped (.tuple [.str "told", .none]) = true := by decide +kernel
/-- behind the try: a word -/
theorem end_word {X : Cx} {H3 : Hp} {z0 z1 : Option V} {wd : Str} {Q : VK} (sh : SeqAt.shaped (.str wd) = true) (q : ∀ t, H3 t = none → Q (.str wd) (upd H3 t (.tup [.str "told", .non]))) :
    tRet (tIf (tTest (tOp (rEqD X.K) (tVar 2) (tTup (tCons (tC (V.str "told")) (tCons (tC V.non) tNil))))) (tC (V.str "")) (tVar 2)) { nx := fun _ H' => Q .non H', rt := Q } [z0, z1, some (.str wd)] H3 := by
  refine ⟨_, rfl, by show 2 ≤ sizeLine; decide, fun t nt => ⟨.str wd, .tuple [.str "told", .none], .str _, .tup (st_of upd_same) (.cons (.str _) (.cons .non .nil)), sh, told_shaped, _, rfl, ?_⟩⟩
  rw [show (PyData.str wd).eqv (.tuple [.str "told", .none]) = false by simp [PyData.eqv]]
  exact iteF ⟨_, rfl, q t nt⟩
/-- behind the try: done -/
theorem end_done {X : Cx} {H3 : Hp} {z0 z1 : Option V} {a : Addr} {Q : VK} (ha : H3 a = some (.tup [.str "told", .non])) (q : ∀ t, H3 t = none → Q (.str "") (upd H3 t (.tup [.str "told", .non]))) :
    tRet (tIf (tTest (tOp (rEqD X.K) (tVar 2) (tTup (tCons (tC (V.str "told")) (tCons (tC V.non) tNil))))) (tC (V.str "")) (tVar 2)) { nx := fun _ H' => Q .non H', rt := Q } [z0, z1, some (.ref a)] H3 := by
  refine ⟨_, rfl, by show 2 ≤ sizeLine; decide, fun t nt => ⟨.tuple [.str "told", .none], .tuple [.str "told", .none], .tup (st_of (Ex.new nt _ _ ha)) (.cons (.str _) (.cons .non .nil)), .tup (st_of upd_same) (.cons (.str _) (.cons .non .nil)), told_shaped, told_shaped, _, rfl, ?_⟩⟩
  rw [show (PyData.tuple [.str "told", .none]).eqv (.tuple [.str "told", .none]) = true by decide +kernel]
  exact iteT (q t nt)
def spDo (C : Addr) (cs : List (Addr × Str)) : Sp := fun vs H Q _ => ∃ x l ws dv, vs = [.ref x, dv] ∧ LamX.Tabs cs H ∧ RealmAt C H x l ws ∧ Started ws ∧ Deed C x l cs ws H Q dv
theorem ok__law_do (T : Txt K mg) {cs : List (Addr × Str)} (M : Maker K mg base cs "_law_do" s__law_do T._law_do.f T._law_do.fd) : FnOk P w K mg base CX0 8 T._law_do.f T._law_do.fd ["realm", "deed"] (spDo T.C_Realm cs) := by
  have N_back : FnOk P w K mg base (L2N.CX P w) 1 T.Realm_back.f T.Realm_back.fd ["self"] (spBackB T.C_Realm T.C_NothingLeft) := both_Realm_back T
  have N_change : FnOk P w K mg base (L2N.CX P w) 5 T.Realm_change.f T.Realm_change.fd ["self", "day", "land"] (spChangeB T.C_Realm T.C_NoDay T.C_NoLand) := both_Realm_change T
  refine maker_run M sc__law_do (fun vs H Q E h => ?_) fun A outer s H vs Q E hr h => ?_
  · obtain ⟨_, _, _, _, rfl, _⟩ := h
    rfl
  obtain ⟨x, l, ws, dv, rfl, t0, hR, st, h⟩ := h
  refine ⟨_, PSs.nox (pss_cons (ps_if (pt_cmpR (op_eqD hr.units) (pv 1) pe_str (nomark _))
        (pss_one (ps_set (i := 2) sc__law_do.nd rfl (Or.inl rfl) (pe_tries (n := 5) T (by rfl) M.tb rfl M.mem M.one (hr.mono (by omega)) (show LamX.LamS (defScope s__law_do) _ from LamX.lamS_by (by decide +kernel)) rfl (fun _ _ _ _ _ => rfl) (fun f c' A outer sZ HZ E hr => (pe_meth0 (pv 0) T.cl_Realm T.Realm_back.m N_back (hr.mono (by omega)) T.Realm_back.b .nil lam_passes)))))
        (pss_one (ps_set (i := 2) sc__law_do.nd rfl (Or.inl rfl) (pe_tries (n := 5) T (by rfl) M.tb rfl M.mem M.one (hr.mono (by omega)) (show LamX.LamS (defScope s__law_do) _ from LamX.lamS_by (by decide +kernel)) rfl (fun _ _ _ _ _ => rfl) (fun f c' A outer sZ HZ E hr => (pe_meth (pv 0) T.cl_Realm T.Realm_change.m N_change (hr.mono (by omega)) T.Realm_change.b .nil lam_passes (pa_cons (pe_ix (show IxR _ (rIxT K) from ix_tup) (pv 1) pe_int (fun _ _ => rfl)) (pa_cons (pe_ix (show IxR _ (rIxT K) from ix_tup) (pv 1) pe_int (fun _ _ => rfl)) pa_nil))))))))
      (pss_one (ps_ret (pe_ifExp (pt_cmpR (op_eqD hr.units) (pv 2) (pe_tup (pa_cons pe_str (pa_cons pe_non pa_nil))) (nomark _)) pe_str (pv 2))))), ?_⟩
  have done1 : ∀ {H1 H2 H3 : Hp} {t : Addr} {o : HO}, LamX.ExtN H H1 → ExD l H1 H2 → LamX.Tabs cs H2 → Ex H2 H3 → H3 t = none → Done cs l H (upd H3 t o) := fun {H1 H2 H3 t o} e1 k2 t2 e3 nt => ⟨fun b o' bl h no => Ex.new nt _ _ (e3 _ _ (k2 _ _ bl (e1 _ _ h no))), Tabs.ex t2 (e3.trans (Ex.new nt))⟩
  have butT : ∀ {H1 H2 : Hp}, LamX.ExtN H H1 → LamX.Tabs cs H1 → ExD l H1 H2 → LamX.Tabs cs H2 := fun {H1 H2} e1 t1 k2 y hy => by
    obtain ⟨dx, rs, hx, hl, _⟩ := hR
    exact TabS_but (t1 y hy) (e1 _ _ hl (fun ps z => by cases z)) k2
  have word : ∀ {H1 : Hp} {wd : Str} {Q' : VK}, LamX.ExtN H H1 → LamX.Tabs cs H1 → (∀ H', Done cs l H H' → RealmAt T.C_Realm H' x l ws → Q' (.str wd) H') → ∀ {H2 H3 : Hp} {t : Addr}, Ex H1 H2 → Ex H2 H3 → H3 t = none → Q' (.str wd) (upd H3 t (.tup [.str "told", .non])) := fun {H1 wd Q'} e1 t1 q {H2 H3 t} e2 e3 nt =>
    q _ (done1 e1 ExD.refl t1 (e2.trans e3) nt) ((hR.extN e1).ex ((e2.trans e3).trans (Ex.new nt)))
  cases h with
  | none_left one q =>
    refine ⟨_, rfl, _, _, .str _, .str _, back_shaped, back_shaped, _, rfl, ?_⟩
    rw [show (PyData.str "back").eqv (.str "back") = true by decide +kernel]
    refine iteT ⟨t0, fun H1 e1 t1 E1 Q1 caught given => ?_⟩
    obtain ⟨dx, rs, hx, hl, hrs, hz⟩ := hR.extN e1
    refine ⟨_, rfl, x, dx, _, rfl, hx, rfl, x, l, ws, rfl, hR.extN e1, .inl ⟨one, fun H2 e2 => caught _ _ _ (caught_says (says_NothingLeft T) fun H3 e3 => ?_)⟩⟩
    exact end_word (X := (cxOf CX0 P w K mg base ["realm", "deed", "told"] "_law_do" (defScope s__law_do) T._law_do.f (.ref M.c) A outer s H E).nox) (by decide +kernel) fun t nt => word e1 t1 q e2 e3 nt
  | back more q =>
    refine ⟨_, rfl, _, _, .str _, .str _, back_shaped, back_shaped, _, rfl, ?_⟩
    rw [show (PyData.str "back").eqv (.str "back") = true by decide +kernel]
    refine iteT ⟨t0, fun H1 e1 t1 E1 Q1 caught given => ?_⟩
    obtain ⟨dx, rs, hx, hl, hrs, hz⟩ := hR.extN e1
    refine ⟨_, rfl, x, dx, _, rfl, hx, rfl, x, l, ws, rfl, hR.extN e1, .inr ⟨more, fun H2 k2 hR2 => given _ _ fun t nt => ?_⟩⟩
    exact end_done (X := (cxOf CX0 P w K mg base ["realm", "deed", "told"] "_law_do" (defScope s__law_do) T._law_do.f (.ref M.c) A outer s H E).nox) upd_same fun t' nt' => q _ (done1 e1 k2 (butT e1 t1 k2) (Ex.new nt) nt') (hR2.ex ((Ex.new nt).trans (Ex.new nt')))
  | @change a d v b ha hd hv small q1 q2 =>
    obtain ⟨e, dp, sh⟩ := deed_dp (K := K) ha hd hv
    refine ⟨_, rfl, _, _, dp, .str _, sh, back_shaped, _, rfl, ?_⟩
    rw [show (PyData.tuple e).eqv (.str "back") = false by simp [PyData.eqv]]
    refine iteF ⟨t0, fun H1 e1 t1 E1 Q1 caught given => ?_⟩
    obtain ⟨dx, rs, hx, hl, hrs, hz⟩ := hR.extN e1
    have ha1 := e1 _ _ ha (fun ps z => by cases z)
    refine ⟨_, rfl, x, dx, _, rfl, hx, rfl, _, rfl, a, _, 0, _, rfl, rfl, st_of ha1, rfl, _, rfl, a, _, 1, _, rfl, rfl, st_of ha1, rfl, x, l, ws, d, v, rfl, hR.extN e1, ?_⟩
    have noDay : dueW ws d b = "NoDay+" → Out T.C_NoDay (fun cls d H2 => E1 cls d H2) H1 := fun eq H2 e2 => caught _ _ _ (caught_says (says_NoDay T) fun H3 e3 => end_word (X := (cxOf CX0 P w K mg base ["realm", "deed", "told"] "_law_do" (defScope s__law_do) T._law_do.f (.ref M.c) A outer s H E).nox) (by decide +kernel) fun t nt => word e1 t1 (fun H' dn hr => eq ▸ q1 (by rw [eq]; decide) H' dn hr) e2 e3 nt)
    have noLand : dueW ws d b = "NoLand+" → Out T.C_NoLand (fun cls d H2 => E1 cls d H2) H1 := fun eq H2 e2 => caught _ _ _ (caught_says (says_NoLand T) fun H3 e3 => end_word (X := (cxOf CX0 P w K mg base ["realm", "deed", "told"] "_law_do" (defScope s__law_do) T._law_do.f (.ref M.c) A outer s H E).nox) (by decide +kernel) fun t nt => word e1 t1 (fun H' dn hr => eq ▸ q1 (by rw [eq]; decide) H' dn hr) e2 e3 nt)
    cases hd with
    | non => exact .noday ⟨_, .non, rfl⟩ (noDay rfl)
    | bl => exact .noday ⟨_, .bl true, rfl⟩ (noDay rfl)
    | int n hn =>
      obtain ⟨r0, er0⟩ : ∃ r0, ws[ws.length - 1]? = some r0 := ⟨ws[ws.length - 1]'(by omega), List.getElem?_eq_getElem _⟩
      have hlast : ws.getLast? = some r0 := by rw [List.getLast?_eq_getElem?, er0]
      have late : lateB ws n = ltB r0.st n := by
        unfold lateB
        rw [hlast]
      have start : (r0.st = .non) ∨ ∃ s : Int, r0.st = .int s := (st _ _ er0).imp (·.2) (·.2)
      have due : dueW ws (.int n) b = (if lateB ws n = true then (if b = true then ("" : Str) else ("NoLand+" : Str)) else ("NoDay+" : Str)) := rfl
      cases lt : lateB ws n with
      | false =>
        rw [lt] at due
        rw [late] at lt
        rcases start with e0 | ⟨s0, e0⟩
        · rw [e0] at lt
          cases lt
        · rw [e0] at lt
          have := of_decide_eq_false lt
          exact .early hn hlast e0 (by omega) (noDay due)
      | true =>
        rw [lt] at due
        rw [late] at lt
        have after : r0.st = .non ∨ ∃ s : Int, r0.st = .int s ∧ s < n := by
          rcases start with e0 | ⟨s0, e0⟩
          · exact .inl e0
          · rw [e0] at lt
            exact .inr ⟨s0, e0, of_decide_eq_true lt⟩
        cases hv with
        | @land v D T1 B S hL =>
          refine .done hn hlast after small (hL.tame (Tame.of e1)) fun H2 k2 hR2 => given _ _ fun t nt => ?_
          exact end_done (X := (cxOf CX0 P w K mg base ["realm", "deed", "told"] "_law_do" (defScope s__law_do) T._law_do.f (.ref M.c) A outer s H E).nox) upd_same fun t' nt' => q2 n D T1 B S rfl hL due _ (done1 e1 k2 (butT e1 t1 k2) (Ex.new nt) nt') (hR2.ex ((Ex.new nt).trans (Ex.new nt')))
        | non => exact .noland hn hlast after .non (noLand due)
        | zero h => exact .noland hn hlast after (NoL.tup (is := [0, 0, 1, 0]) (e1 _ _ h fun ps z => by cases z) (by decide +kernel)) (noLand due)
        | lst h => exact .noland hn hlast after (.lst (e1 _ _ h fun ps z => by cases z)) (noLand due)
end

/-! ### who rules a day -/
theorem rising_ext : ∀ {xs ys : List Int}, xs.Pairwise (· < ·) → ys.Pairwise (· < ·) → (∀ k, k ∈ xs ↔ k ∈ ys) → xs = ys
  | [], [], _, _, _ => rfl
  | [], y :: ys, _, _, h => absurd ((h y).mpr (List.mem_cons_self ..)) List.not_mem_nil
  | x :: xs, [], _, _, h => absurd ((h x).mp (List.mem_cons_self ..)) List.not_mem_nil
  | x :: xs, y :: ys, hx, hy, h => by
    rw [List.pairwise_cons] at hx hy
    have e : x = y := by
      rcases List.mem_cons.mp ((h x).mp (List.mem_cons_self ..)) with e | inY
      · exact e
      · rcases List.mem_cons.mp ((h y).mpr (List.mem_cons_self ..)) with e | inX
        · exact e.symm
        · have a := hy.1 x inY
          have b := hx.1 y inX
          omega
    subst e
    rw [rising_ext hx.2 hy.2 fun k => ?_]
    constructor
    · intro hk
      rcases List.mem_cons.mp ((h k).mp (List.mem_cons_of_mem _ hk)) with e | r
      · have := hx.1 k hk
        omega
      · exact r
    · intro hk
      rcases List.mem_cons.mp ((h k).mpr (List.mem_cons_of_mem _ hk)) with e | r
      · have := hy.1 k hk
        omega
      · exact r
/-- the starts rise -/
def Rising (ws : List Row) : Prop := ∀ (i j : Nat) (w w' : Row) (s s' : Int), i < j → ws[i]? = some w → ws[j]? = some w' → w.st = .int s → w'.st = .int s' → s < s'
section
variable {ws : List Row} {n : Int}
theorem rulerTo_at {w0 : Row} (st : Started ws) (e0 : ws[0]? = some w0) : ∀ k, k < ws.length → ∃ j, j ≤ k ∧ ws[j]? = some (rulerTo ws w0 n k) ∧ fromB (rulerTo ws w0 n k).st n = true ∧ ∀ i w, j < i → i ≤ k → ws[i]? = some w → aheadB w.st n = true
  | 0, _ => by
    refine ⟨0, Nat.le_refl 0, e0, ?_, fun i w a b => by omega⟩
    rcases st 0 w0 e0 with ⟨_, z⟩ | ⟨z, _⟩
    · show fromB w0.st n = true
      rw [z]
      rfl
    · omega
  | k + 1, lt => by
    obtain ⟨j, jk, ej, fj, rest⟩ := rulerTo_at st e0 k (by omega)
    obtain ⟨w1, ew1⟩ : ∃ w1, ws[k + 1]? = some w1 := ⟨ws[k + 1], List.getElem?_eq_getElem lt⟩
    obtain ⟨s, es⟩ : ∃ s : Int, w1.st = .int s := by
      rcases st _ _ ew1 with ⟨z, _⟩ | ⟨_, z⟩
      · omega
      · exact z
    rw [rulerTo_next ew1]
    have r1 : rule1 n (rulerTo ws w0 n k) w1 = if s ≤ n then w1 else rulerTo ws w0 n k := by unfold rule1; rw [es]
    rw [r1]
    by_cases le : s ≤ n
    · rw [if_pos le]
      refine ⟨k + 1, Nat.le_refl _, ew1, ?_, fun i w a b => by omega⟩
      rw [es]
      show (!decide (n < s)) = true
      rw [decide_eq_false (show ¬ n < s by omega)]
      rfl
    · rw [if_neg le]
      refine ⟨j, by omega, ej, fj, fun i w a b ew => ?_⟩
      by_cases last : i = k + 1
      · subst last
        rw [ew1] at ew
        cases ew
        rw [es]
        exact decide_eq_true (show n < s by omega)
      · exact rest i w a (by omega) ew
theorem ruler_rules (st : Started ws) (pos : 0 < ws.length) : ∃ j, j < ws.length ∧ ws[j]? = some (ruler ws n) ∧ rulesB ws j n = true := by
  obtain ⟨w0, e0⟩ : ∃ w0, ws[0]? = some w0 := ⟨ws[0], List.getElem?_eq_getElem pos⟩
  obtain ⟨j, jk, ej, fj, rest⟩ := rulerTo_at (n := n) st e0 (ws.length - 1) (by omega)
  rw [rulerTo_all e0] at ej fj
  refine ⟨j, by omega, ej, ?_⟩
  unfold rulesB
  rw [show ws.getD j ⟨.non, 1, 0, 1, 0⟩ = ruler ws n by simp [List.getD, ej], fj]
  by_cases last : j + 1 = ws.length
  · rw [decide_eq_true last]
    rfl
  · obtain ⟨w1, ew1⟩ : ∃ w1, ws[j + 1]? = some w1 := ⟨ws[j + 1]'(by omega), List.getElem?_eq_getElem _⟩
    rw [show ws.getD (j + 1) ⟨.non, 1, 0, 1, 0⟩ = w1 by simp [List.getD, ew1], rest (j + 1) w1 (by omega) (by omega) ew1]
    simp
theorem rules_parts {i : Nat} {w : Row} {d : Int} (ew : ws[i]? = some w) (h : rulesB ws i d = true) : fromB w.st d = true ∧ (i + 1 = ws.length ∨ ∃ w1, ws[i + 1]? = some w1 ∧ aheadB w1.st d = true) := by
  unfold rulesB at h
  rw [show ws.getD i ⟨.non, 1, 0, 1, 0⟩ = w by simp [List.getD, ew], Bool.and_eq_true, Bool.or_eq_true] at h
  refine ⟨h.1, ?_⟩
  have lt := (List.getElem?_eq_some_iff.mp ew).1
  by_cases last : i + 1 = ws.length
  · exact .inl last
  · obtain ⟨w1, ew1⟩ : ∃ w1, ws[i + 1]? = some w1 := ⟨ws[i + 1]'(by omega), List.getElem?_eq_getElem _⟩
    rcases h.2 with z | z
    · exact absurd (of_decide_eq_true z) last
    · rw [show ws.getD (i + 1) ⟨.non, 1, 0, 1, 0⟩ = w1 by simp [List.getD, ew1]] at z
      exact .inr ⟨w1, ew1, z⟩
/-- a later row rules later days -/
theorem rules_rise (st : Started ws) (up : Rising ws) {i j : Nat} {w w' : Row} {d d' : Int} (lt : i < j) (ei : ws[i]? = some w) (ej : ws[j]? = some w') (hi : rulesB ws i d = true) (hj : rulesB ws j d' = true) : d < d' := by
  have jl := (List.getElem?_eq_some_iff.mp ej).1
  obtain ⟨s', es'⟩ : ∃ s : Int, w'.st = .int s := by
    rcases st _ _ ej with ⟨z, _⟩ | ⟨_, z⟩
    · omega
    · exact z
  have from' := (rules_parts ej hj).1
  rw [es'] at from'
  have le : s' ≤ d' := by
    have z : (!decide (d' < s')) = true := from'
    simp at z
    omega
  rcases (rules_parts ei hi).2 with z | ⟨w1, ew1, z⟩
  · omega
  · obtain ⟨s1, es1⟩ : ∃ s : Int, w1.st = .int s := by
      rcases st _ _ ew1 with ⟨z, _⟩ | ⟨_, z⟩
      · omega
      · exact z
    rw [es1] at z
    have l1 : d < s1 := of_decide_eq_true z
    by_cases same : i + 1 = j
    · rw [same, ej] at ew1
      cases ew1
      rw [es'] at es1
      cases es1
      omega
    · have := up (i + 1) j w1 w' s1 s' (by omega) ew1 ej es1 es'
      omega
theorem rules_one (st : Started ws) (up : Rising ws) {i : Nat} {w : Row} {d : Int} (ei : ws[i]? = some w) (hi : rulesB ws i d = true) : ruler ws d = w := by
  have lt := (List.getElem?_eq_some_iff.mp ei).1
  obtain ⟨j, jl, ej, hj⟩ := ruler_rules (n := d) st (by omega)
  have e : i = j := by
    rcases Nat.lt_trichotomy i j with z | z | z
    · have := rules_rise st up z ei ej hi hj
      omega
    · exact z
    · have := rules_rise st up z ej ei hj hi
      omega
  subst e
  rw [ei] at ej
  exact (Option.some.inj ej).symm
end

/-! ### the days of a date, by all lands -/
/-- the day of the date in the row's land -/
def hereR (w : Row) (y p : Int) : Int := fst w.D w.T w.B w.S y + p
def inYear (w : Row) (y p : Int) : Prop := fst w.D w.T w.B w.S y + p < fst w.D w.T w.B w.S (y + 1)
def sameL (a b : Row) : Prop := a.D = b.D ∧ a.T = b.T ∧ a.B = b.B ∧ a.S = b.S
instance {a b : Row} : Decidable (sameL a b) := inferInstanceAs (Decidable (_ ∧ _ ∧ _ ∧ _))
instance {w : Row} {y p : Int} : Decidable (inYear w y p) := inferInstanceAs (Decidable (_ < _))
/-- what the law finds among the first rows -/
def foundTo (ws : List Row) (y p : Int) : Nat → List Int
  | 0 => []
  | n + 1 => foundTo ws y p n ++ (match ws[n]? with
    | some w => if inYear w y p ∧ sameL (ruler ws (hereR w y p)) w then [hereR w y p] else []
    | none => [])
section
variable {ws : List Row} {y p : Int}
theorem mem_found {k : Int} : ∀ n, k ∈ foundTo ws y p n ↔ ∃ i w, i < n ∧ ws[i]? = some w ∧ inYear w y p ∧ sameL (ruler ws (hereR w y p)) w ∧ hereR w y p = k
  | 0 => by
    constructor
    · intro h
      cases h
    · rintro ⟨i, w, lt, _⟩
      omega
  | n + 1 => by
    unfold foundTo
    rw [List.mem_append, mem_found n]
    constructor
    · rintro (⟨i, w, lt, r⟩ | h)
      · exact ⟨i, w, by omega, r⟩
      · split at h
        · rename_i w ew
          split at h
          · rename_i c
            rw [List.mem_singleton] at h
            exact ⟨n, w, by omega, ew, c.1, c.2, h.symm⟩
          · cases h
        · cases h
    · rintro ⟨i, w, lt, ew, c1, c2, e⟩
      by_cases last : i = n
      · subst last
        right
        rw [ew]
        show k ∈ if inYear w y p ∧ sameL (ruler ws (hereR w y p)) w then [hereR w y p] else []
        rw [if_pos ⟨c1, c2⟩, List.mem_singleton]
        exact e.symm
      · exact .inl ⟨i, w, by omega, ew, c1, c2, e⟩
theorem mem_days {k : Int} : ∀ n, k ∈ daysAt ws y p n ↔ ∃ i w, i < n ∧ ws[i]? = some w ∧ inYear w y p ∧ rulesB ws i (hereR w y p) = true ∧ hereR w y p = k
  | 0 => by
    constructor
    · intro h
      cases h
    · rintro ⟨i, w, lt, _⟩
      omega
  | n + 1 => by
    unfold daysAt
    rw [List.mem_append, mem_days n]
    constructor
    · rintro (⟨i, w, lt, r⟩ | h)
      · exact ⟨i, w, by omega, r⟩
      · split at h
        · rename_i w ew
          split at h
          · rename_i c
            rw [List.mem_singleton] at h
            exact ⟨n, w, by omega, ew, c.1, c.2, h.symm⟩
          · cases h
        · cases h
    · rintro ⟨i, w, lt, ew, c1, c2, e⟩
      by_cases last : i = n
      · subst last
        right
        rw [ew]
        show k ∈ if fst w.D w.T w.B w.S y + p < fst w.D w.T w.B w.S (y + 1) ∧ rulesB ws i (fst w.D w.T w.B w.S y + p) = true then [fst w.D w.T w.B w.S y + p] else []
        rw [if_pos ⟨c1, c2⟩, List.mem_singleton]
        exact e.symm
      · exact .inl ⟨i, w, by omega, ew, c1, c2, e⟩
theorem days_rise (st : Started ws) (up : Rising ws) : ∀ n, n ≤ ws.length → (daysAt ws y p n).Pairwise (· < ·)
  | 0, _ => List.Pairwise.nil
  | n + 1, le => by
    unfold daysAt
    rw [List.pairwise_append]
    refine ⟨days_rise st up n (by omega), ?_, fun a ha b hb => ?_⟩
    · split
      · split
        · exact List.pairwise_singleton ..
        · exact List.Pairwise.nil
      · exact List.Pairwise.nil
    · obtain ⟨i, w, lt, ew, _, hr, e⟩ := (mem_days n).mp ha
      split at hb
      · rename_i w' ew'
        split at hb
        · rename_i c
          rw [List.mem_singleton] at hb
          have := rules_rise st up lt ew ew' hr c.2
          omega
        · cases hb
      · cases hb
/-- the same days -/
theorem days_found (st : Started ws) (up : Rising ws) (pos : 0 < ws.length) {ns : List Int} (rise : ns.Pairwise (· < ·)) (mem : ∀ k, k ∈ ns ↔ k ∈ foundTo ws y p ws.length) : ns = daysAt ws y p ws.length := by
  refine rising_ext rise (days_rise st up _ (Nat.le_refl _)) fun k => ?_
  rw [mem, mem_found, mem_days]
  constructor
  · rintro ⟨i, w, lt, ew, c1, c2, e⟩
    obtain ⟨j, jl, ej, hj⟩ := ruler_rules (n := hereR w y p) st pos
    obtain ⟨s1, s2, s3, s4⟩ := c2
    have same : hereR (ruler ws (hereR w y p)) y p = hereR w y p := by
      generalize ruler ws (hereR w y p) = r at s1 s2 s3 s4 ⊢
      unfold hereR
      rw [s1, s2, s3, s4]
    refine ⟨j, _, jl, ej, ?_, ?_, same.trans e⟩
    · unfold inYear at c1 ⊢
      rw [s1, s2, s3, s4]
      exact c1
    · rw [same]
      exact hj
  · rintro ⟨i, w, lt, ew, c1, hr, e⟩
    refine ⟨i, w, lt, ew, c1, ?_, e⟩
    rw [rules_one st up ew hr]
    exact ⟨rfl, rfl, rfl, rfl⟩
theorem found_len : ∀ n, (foundTo ws y p n).length ≤ n
  | 0 => Nat.le_refl 0
  | n + 1 => by
    have h := found_len n
    unfold foundTo
    rw [List.length_append]
    split
    · split
      · rw [List.length_singleton]
        omega
      · rw [List.length_nil]
        omega
    · rw [List.length_nil]
      omega
end

/-! ### dates and days of dates are told -/
section
variable {P : Program} {w : World} {K : PySem.W.Frag} {mg : Str → Option Value} {base : Heap}
theorem Dk.mono {n m : Nat} {H : Hp} {d : Addr} (h : Dk n H d) (e : n ≤ m) : Dk m H d := by
  obtain ⟨x, y, z, hd, hy, hz⟩ := h
  exact ⟨x, y, z, hd, hy, by omega, by omega⟩
/-- starts within bounds -/
def Near (ws : List Row) : Prop := ∀ (i : Nat) (w : Row) (s : Int), ws[i]? = some w → w.st = .int s → -100000000 ≤ s ∧ s ≤ 100000000
def spDaysRight (C : Addr) : Sp := fun vs H Q _ => ∃ (d x l r : Addr) (ws : List Row) (n : Nat), vs = [.ref d, .ref x, .ref r] ∧ Dk n H d ∧ n < 700000 ∧ RealmAt C H x l ws ∧ RowsL H r ws ∧ l ≠ d ∧ r ≠ d ∧ Started ws ∧ Rising ws ∧ Near ws ∧ ws.length ≤ 60 ∧
  ∀ H', ExD d H H' → Dk (n + 70) H' d → Q (.bl true) H'
theorem four_shaped (a b c d : Int) : SeqAt.shaped (.tuple [.int a, .int b, .int c, .int d]) = true := by
  unfold SeqAt.shaped
  simp [PyData.canLay0, PyData.canLayAll0, PyData.depth, PyData.depthAll]
theorem land_eqv (a b : Row) : (PyData.tuple [.int a.D, .int a.T, .int a.B, .int a.S]).eqv (.tuple [.int b.D, .int b.T, .int b.B, .int b.S]) = decide (sameL a b) := by
  rw [Bool.eq_iff_iff]
  simp [PyData.eqv, PyData.eqvAll, sameL]
  exact decide_eq_true_iff.symm
theorem cut_len {xs : List V} {lo hi : Option Int} : (cutV xs lo hi).length ≤ xs.length := by
  unfold cutV
  simp
  omega
/-- days that may be asked -/
def Asks (ks : List Int) : Prop := ∀ k ∈ ks, -1000000000000000000000000001 < k ∧ k < 1000000000000000000000000001
theorem ok__law_days_right (T : Txt K mg) : FnOk P w K mg base CX0 6 T._law_days_right.f T._law_days_right.fd ["deck", "realm", "rows"] (spDaysRight T.C_Realm) := by
  have G__law_far : FnOk P w K mg base CX0 3 T._law_far.f T._law_far.fd ["deck"] spFar := ok__law_far T
  have G__law_pick : FnOk P w K mg base CX0 1 T._law_pick.f T._law_pick.fd ["deck", "size"] spPick := ok__law_pick T
  have G__law_of : FnOk P w K mg base CX0 1 T._law_of.f T._law_of.fd ["rows", "day"] spOf := ok__law_of T
  have G__law_dated : FnOk P w K mg base CX0 2 T._law_dated.f T._law_dated.fd ["land", "day"] spDated := ok__law_dated T
  have G__law_begin : FnOk P w K mg base CX0 1 T._law_begin.f T._law_begin.fd ["land", "year"] spBeg := ok__law_begin T
  have G__law_length : FnOk P w K mg base CX0 2 T._law_length.f T._law_length.fd ["land", "year"] spLen := ok__law_length T
  have G__law_same : FnOk P w K mg base CX0 4 T._law_same.f T._law_same.fd ["told", "due"] (spSame 3) := ok__law_same T 3
  have G_Realm_date : FnOk P w K mg base CX0 4 T.Realm_date.f T.Realm_date.fd ["self", "day"] (spDateR T.C_Realm) := ok_Realm_date T
  have G_Realm_days_of : FnOk P w K mg base CX0 4 T.Realm_days_of.f T.Realm_days_of.fd ["self", "year", "place"] (spDaysR T.C_Realm) := ok_Realm_days_of T
  refine T._law_days_right.F.ok sc__law_days_right (fun vs H Q E h => ?_) (fun cdv A outer s H vs Q E hr h => ?_)
  · obtain ⟨_, _, _, _, _, _, rfl, _⟩ := h
    rfl
  · obtain ⟨d, x, l, r, ws, n, rfl, hk, hn, hR, hrows, ld, rd, st, up, near, few, q⟩ := h
    refine ⟨_, (pss_cons (ps_set (i := 3) sc__law_days_right.nd rfl (Or.inl rfl) (pe_lst (pa_cons (pe_call G__law_far (hr.mono (by omega)) (by rfl) T._law_far.g T._law_far.F.kp T._law_far.b .nil pass0 (pa_cons (pv 0) pa_nil)) pa_nil)))
      (pss_cons (ps_for PassesOwn.never rfl (pi_list (pe_slice sl_list (pe_slice sl_list (pv 2) (po_some pe_int) po_none) (po_some (pe_un un_neg pe_int)) po_none)) (pg_tup rfl (pgs_cons (pg_name (i := 4) sc__law_days_right.nd rfl (Or.inl rfl)) (pgs_cons (pg_name (i := 5) sc__law_days_right.nd rfl (Or.inl rfl)) pgs_nil)))
        (pss_one (ps_set (i := 3) sc__law_days_right.nd rfl (Or.inl rfl) (pe_op op_catL (pv 3) (pe_lst (pa_cons (pe_op op_sub (pv 4) pe_int) (pa_cons (pv 4) (pa_cons (pe_op op_add (pv 4) (pe_call G__law_pick (hr.mono (by omega)) (by rfl) T._law_pick.g T._law_pick.F.kp T._law_pick.b .nil pass0 (pa_cons (pv 0) (pa_cons pe_int pa_nil)))) pa_nil))))))))
      (pss_cons (ps_for PassesOwn.never rfl (pi_list (pv 3)) (pg_name (i := 6) sc__law_days_right.nd rfl (Or.inl rfl))
        (pss_cons (ps_set (i := 7) sc__law_days_right.nd rfl (Or.inl rfl) (pe_call G__law_dated (hr.mono (by omega)) (by rfl) T._law_dated.g T._law_dated.F.kp T._law_dated.b .nil pass0 (pa_cons (pe_call G__law_of (hr.mono (by omega)) (by rfl) T._law_of.g T._law_of.F.kp T._law_of.b .nil pass0 (pa_cons (pv 2) (pa_cons (pv 6) pa_nil))) (pa_cons (pv 6) pa_nil))))
      (pss_cons (ps_if (pt_not (pt_val (pe_call G__law_same (hr.mono (by omega)) (by rfl) T._law_same.g T._law_same.F.kp T._law_same.b .nil pass0 (pa_cons (pe_meth (pv 1) T.cl_Realm T.Realm_date.m G_Realm_date (hr.mono (by omega)) T.Realm_date.b .nil pass0 (pa_cons (pv 6) pa_nil)) (pa_cons (pv 7) pa_nil)))))
        (pss_one (ps_ret pe_bl))
        pss_nil)
      (pss_one (ps_for PassesOwn.never rfl (pi_list (pe_lst (pa_cons (pv 7) (pa_cons (pe_tup (pa_cons (pe_op op_add (pe_ix ix_tup (pv 7) pe_int (fun _ _ => rfl)) pe_int) (pa_cons (pe_ix ix_tup (pv 7) pe_int (fun _ _ => rfl)) pa_nil))) pa_nil)))) (pg_tup rfl (pgs_cons (pg_name (i := 8) sc__law_days_right.nd rfl (Or.inl rfl)) (pgs_cons (pg_name (i := 9) sc__law_days_right.nd rfl (Or.inl rfl)) pgs_nil)))
        (pss_cons (ps_set (i := 10) sc__law_days_right.nd rfl (Or.inl rfl) (pe_lst pa_nil))
      (pss_cons (ps_for PassesOwn.never rfl (pi_list (pv 2)) (pg_tup rfl (pgs_cons (pg_name (i := 4) sc__law_days_right.nd rfl (Or.inl rfl)) (pgs_cons (pg_name (i := 5) sc__law_days_right.nd rfl (Or.inl rfl)) pgs_nil)))
        (pss_cons (ps_set (i := 11) sc__law_days_right.nd rfl (Or.inl rfl) (pe_op op_add (pe_call G__law_begin (hr.mono (by omega)) (by rfl) T._law_begin.g T._law_begin.F.kp T._law_begin.b .nil pass0 (pa_cons (pv 5) (pa_cons (pv 8) pa_nil))) (pv 9)))
      (pss_one (ps_if (PW.pt (pw_and (pt_cmpR op_lt (pv 9) (pe_call G__law_length (hr.mono (by omega)) (by rfl) T._law_length.g T._law_length.F.kp T._law_length.b .nil pass0 (pa_cons (pv 5) (pa_cons (pv 8) pa_nil))) (nomark _)) (pw_and1 (pt_cmpR (op_eqD hr.units) (pe_call G__law_of (hr.mono (by omega)) (by rfl) T._law_of.g T._law_of.F.kp T._law_of.b .nil pass0 (pa_cons (pv 2) (pa_cons (pv 11) pa_nil))) (pv 5) (nomark _)))))
        (pss_one (ps_expr (pe_bm PySem.F.plainAttrs_list PySem.F.slot_list_append PySem.F.type_list_append mt_append (pv 10) (pa_cons (pv 11) pa_nil))))
        pss_nil))))
      (pss_one (ps_if (pt_not (pt_val (pe_call G__law_same (hr.mono (by omega)) (by rfl) T._law_same.g T._law_same.F.kp T._law_same.b .nil pass0 (pa_cons (pe_meth (pv 1) T.cl_Realm T.Realm_days_of.m G_Realm_days_of (hr.mono (by omega)) T.Realm_days_of.b .nil pass0 (pa_cons (pv 8) (pa_cons (pv 9) pa_nil))) (pa_cons (pe_callB (cr_sortedSet rfl) (by rfl) T.sorted (by decide +kernel) (pa_cons (pe_callTy (cr_setL rfl) (by rfl) T.set (by decide +kernel) (pa_cons (pv 10) pa_nil)) pa_nil)) pa_nil)))))
        (pss_one (ps_ret pe_bl))
        pss_nil)))))))))
      (pss_one (ps_ret pe_bl))))), ?_⟩
    refine ⟨_, rfl, d, n, rfl, hk, by omega, fun i0 H1 a0 b0 e1 k1 => ⟨by show 1 ≤ sizeLine; decide, fun sm nsm => ?_⟩⟩
    obtain ⟨rs, hr', hrs, hz⟩ := hrows
    have smd : sm ≠ d := k1.ne_fresh nsm
    have y2 := Ex.new nsm (o := .lst [.int i0])
    have x2 : ExD d H (upd H1 sm (.lst [.int i0])) := e1.trans (ExD.of y2)
    have k2 := k1.ex y2
    refine ⟨_, rfl, 1, rfl, r, rs, rfl, sq_of (x2 _ _ rd hr'), fun p3 n3 => ?_⟩
    refine ⟨_, rfl, _, rfl, p3, _, rfl, sq_of upd_same, fun p4 n4 => ⟨p4, rfl, ⟨_, sq_of upd_same⟩, ?_⟩⟩
    have y3 := Ex.new n3 (o := .lst (cutV rs (some 1) none))
    have y4 := Ex.new n4 (o := .lst (cutV (cutV rs (some 1) none) (some (-3)) none))
    have x4 := x2.trans (ExD.of (y3.trans y4))
    have k4 := k2.ex (y3.trans y4)
    have h4 : upd (upd (upd H1 sm (.lst [.int i0])) p3 (.lst (cutV rs (some 1) none))) p4 (.lst (cutV (cutV rs (some 1) none) (some (-3)) none)) sm = some (.lst ([i0].map V.int)) := (y3.trans y4) _ _ upd_same
    have p4d : p4 ≠ d := (k2.ex y3).ne_fresh n4
    obtain ⟨xs, hxs⟩ : ∃ xs : List V, cutV (cutV rs (some 1) none) (some (-3)) none = xs := ⟨_, rfl⟩
    have hp4 : upd (upd (upd H1 sm (.lst [.int i0])) p3 (.lst (cutV rs (some 1) none))) p4 (.lst (cutV (cutV rs (some 1) none) (some (-3)) none)) p4 = some (.lst xs) := upd_same.trans (by rw [hxs])
    have lxs : xs.length ≤ 60 := by
      rw [← hxs]
      have := cut_len (xs := cutV rs (some 1) none) (lo := some (-3)) (hi := none)
      have := cut_len (xs := rs) (lo := some 1) (hi := none)
      have := hrs.len
      omega
    have mem : ∀ u ∈ xs, ∃ i, rs[i + 1]? = some u := fun u hu => by
      rw [← hxs] at hu
      have := cut_mem hu
      rw [cut_one] at this
      obtain ⟨i, hi⟩ := List.getElem?_of_mem this
      exact ⟨i, by rw [List.getElem?_drop, Nat.add_comm] at hi; exact hi⟩
    refine for_list (xs := xs) (fun i σ H' => ∃ (ks : List Int) (sa : Addr) (z4 z5 z6 z7 z8 z9 z10 z11 : Option V), σ = [some (.ref d), some (.ref x), some (.ref r), some (.ref sa), z4, z5, z6, z7, z8, z9, z10, z11] ∧ H' sa = some (.lst (ks.map V.int)) ∧ sa ≠ d ∧ ks.length ≤ 1 + 3 * i ∧ Asks ks ∧ H' p4 = some (.lst xs) ∧ ExD d H H' ∧ Dk (n + 5 + i) H' d)
      ⟨[i0], sm, _, _, _, _, _, _, _, _, rfl, h4, smd, Nat.le_refl 1, fun k hk => by rw [List.mem_singleton] at hk; omega, hp4, x4, k4⟩ (fun i σ H' _ ⟨_, _, _, _, _, _, _, _, _, _, _, _, _, _, _, h, _⟩ => sq_of h) ?_ ?_
    · rintro i u σ H5 hu ⟨ks, sa, z4, z5, z6, z7, z8, z9, z10, z11, rfl, hsa, sad, lks, ask, hp, x5, k5⟩
      have iu := (List.getElem?_eq_some_iff.mp hu).1
      obtain ⟨j, hj⟩ := mem u (List.mem_of_getElem? hu)
      obtain ⟨w1, ew1, a1, v1, rfl, ha1, hL1⟩ := hrs.at hj
      obtain ⟨s1, es1⟩ : ∃ s : Int, w1.st = .int s := by
        rcases st _ _ ew1 with ⟨z, _⟩ | ⟨_, z⟩
        · omega
        · exact z
      have nr := near _ _ _ ew1 es1
      have ha5 := x5 _ _ (hk.ne_tup ha1) ha1
      rw [es1] at ha5
      refine ⟨a1, _, rfl, st_of ha5, rfl, _, _, rfl, _, _, rfl, rfl, ?_⟩
      refine ⟨_, rfl, _, rfl, _, _, rfl, rfl, _, rfl, _, rfl, _, rfl, d, 500, n + 5 + i, rfl, k5, by omega, ⟨by decide, by decide⟩, fun r0 H6 a6 b6 e6 k6 => ⟨_, _, rfl, rfl, by show 3 ≤ sizeLine; decide, fun p7 n7 => ?_⟩⟩
      have y7 := Ex.new n7 (o := .lst [.int (s1 - 1), .int s1, .int (s1 + r0)])
      refine ⟨sa, p7, _, _, rfl, rfl, sq_of (y7 _ _ (e6 _ _ sad hsa)), sq_of upd_same, ?_, fun p8 n8 => ?_⟩
      · rw [List.length_map]
        exact sz_of (by show ks.length + 3 ≤ 100000; omega)
      have y8 := Ex.new n8 (o := .lst (ks.map V.int ++ [.int (s1 - 1), .int s1, .int (s1 + r0)]))
      refine ⟨ks ++ [s1 - 1, s1, s1 + r0], p8, _, _, _, _, _, _, _, _, rfl, upd_same.trans (by rw [List.map_append]; rfl), (k6.ex y7).ne_fresh n8, ?_, ?_, (y7.trans y8) _ _ (e6 _ _ p4d hp), (x5.trans e6).trans (ExD.of (y7.trans y8)), k6.ex (y7.trans y8)⟩
      · rw [List.length_append]
        show ks.length + 3 ≤ 1 + 3 * (i + 1)
        omega
      · intro k hk'
        rcases List.mem_append.mp hk' with old | new
        · exact ask k old
        · simp only [List.mem_cons, List.not_mem_nil, or_false] at new
          omega
    · rintro σ H5 ⟨ks, sa, z4, z5, z6, z7, z8, z9, z10, z11, rfl, hsa, sad, lks, ask, hp, x5, k5⟩
      obtain ⟨c1, c2, c3, hd, _⟩ := id hk
      have R5 : RealmAt T.C_Realm H5 x l ws := by
        obtain ⟨dx, rs0, hx, hl, hrs0, hz0⟩ := hR
        exact ⟨dx, rs0, x5 _ _ (ne_of hx hd (by intro z; cases z)) hx, x5 _ _ ld hl, hrs0.but hd x5, hz0⟩
      have L5 : RowsL H5 r ws := ⟨rs, x5 _ _ rd hr', hrs.but hd x5, hz⟩
      clear x2 k2 y2 y3 y4 x4 k4 h4 hp4 e1 k1 nsm n3 n4 hxs mem p4d hp
      refine ⟨_, rfl, sa, rfl, ⟨_, sq_of hsa⟩, ?_⟩
      refine for_list (xs := ks.map V.int) (fun i σ H' => (∃ z4 z5 z6 z7 z8 z9 z10 z11 : Option V, σ = [some (.ref d), some (.ref x), some (.ref r), some (.ref sa), z4, z5, z6, z7, z8, z9, z10, z11]) ∧ Ex H5 H') ⟨⟨_, _, _, _, _, _, _, _, rfl⟩, Ex.refl H5⟩ (fun i σ H' _ h => sq_of (h.2 _ _ hsa)) ?_ ?_
      · rintro i u σ H6 hu ⟨⟨z4, z5, z6, z7, z8, z9, z10, z11, rfl⟩, e6⟩
        rw [List.getElem?_map] at hu
        obtain ⟨k, hk6, rfl⟩ := Option.map_eq_some_iff.mp hu
        have ak := ask k (List.mem_of_getElem? hk6)
        refine ⟨_, rfl, _, rfl, r, ws, k, rfl, L5.ex e6, st, fun v7 H7 e7 hv7 => ⟨_, rfl, v7, _, _, _, _, k, rfl, hv7, fun p8 H8 n8 e8 h8 => ?_⟩⟩
        have f8 := e6.trans (e7.trans e8)
        obtain ⟨dx, rs0, hx, hl, hrs0, hz0⟩ := id (R5.ex f8)
        refine ⟨_, rfl, x, dx, _, rfl, hx, rfl, _, rfl, x, l, ws, k, rfl, R5.ex f8, st, ⟨by omega, by omega⟩, fun p9 H9 n9 e9 h9 => ?_⟩
        refine ⟨_, rfl, .ref p9, .ref p8, rfl, sm_ints (ns := [_, _]) h9 (e9 _ _ h8) (by show 2 ≤ 1000; decide), fun H10 e10 => ⟨_, rfl, iteF ?_⟩⟩
        obtain ⟨Y, hY⟩ : ∃ Y : Int, yr (ruler ws k).D (ruler ws k).T (ruler ws k).B (ruler ws k).S k = Y := ⟨_, rfl⟩
        obtain ⟨pl, hpl⟩ : ∃ pl : Int, k - fst (ruler ws k).D (ruler ws k).T (ruler ws k).B (ruler ws k).S Y = pl := ⟨_, rfl⟩
        obtain ⟨_, _, _, q1, q2, q3, q4⟩ := id hv7
        have hs := step_bd q1 q2 q3
        have sp := yr_spec (S := (ruler ws k).S) (n := k) q3.1 hs.1
        have su := fst_succ (D := (ruler ws k).D) (T := (ruler ws k).T) (S := (ruler ws k).S) (y := Y) q3.1
        have as := add_step (S := (ruler ws k).S) (y := Y) q2
        have yb := yr_bd q1 q2 q3 q4 (M := 1000000000000000000000000001) (by decide) (n := k) (by omega)
        rw [hY] at sp yb
        have h8' : H8 p8 = some (.tup [.int Y, .int pl]) := by rw [h8, hY, hpl]
        have h10 := (e9.trans e10) _ _ h8'
        have plb : 0 ≤ pl ∧ pl ≤ 400 := by omega
        refine ⟨_, rfl, _, rfl, p8, _, 0, _, rfl, rfl, st_of h10, rfl, _, _, rfl, rfl, _, rfl, p8, _, 1, _, rfl, rfl, st_of h10, rfl, by show 2 ≤ sizeLine; decide, fun t11 n11 => ⟨by show 2 ≤ sizeLine; decide, fun p12 n12 => ⟨p12, rfl, ⟨_, sq_of upd_same⟩, ?_⟩⟩⟩
        have y11 := Ex.new n11 (o := .tup [.int (Y + 1), .int pl])
        have y12 := Ex.new n12 (o := .lst [.ref p8, .ref t11])
        have eB := (f8.trans (e9.trans e10)).trans (y11.trans y12)
        have b8 := (y11.trans y12) _ _ h10
        have b11 := y12 _ _ (upd_same : upd H10 t11 (.tup [.int (Y + 1), .int pl]) t11 = _)
        have bl12 : upd (upd H10 t11 (.tup [.int (Y + 1), .int pl])) p12 (.lst [.ref p8, .ref t11]) p12 = some (.lst [.ref p8, .ref t11]) := upd_same
        generalize upd (upd H10 t11 (.tup [.int (Y + 1), .int pl])) p12 (.lst [.ref p8, .ref t11]) = HB at eB b8 b11 bl12 ⊢
        refine for_list (xs := [.ref p8, .ref t11]) (fun j σ H' => (∃ z4 z5 z8 z9 z10 z11 : Option V, σ = [some (.ref d), some (.ref x), some (.ref r), some (.ref sa), z4, z5, some (.int k), some (.ref p8), z8, z9, z10, z11]) ∧ Ex HB H') ⟨⟨_, _, _, _, _, _, rfl⟩, Ex.refl HB⟩ (fun j σ H' _ h => sq_of (h.2 _ _ bl12)) ?_ ?_
        · rintro j u σ H13 hu ⟨⟨z4, z5, z8, z9, z10, z11, rfl⟩, e13⟩
          obtain ⟨ta, yy, rfl, hta, yyb⟩ : ∃ ta yy, u = .ref ta ∧ H13 ta = some (.tup [.int yy, .int pl]) ∧ Far yy := by
            match j, hu with
            | 0, hu => cases hu; exact ⟨p8, Y, rfl, e13 _ _ b8, by omega, by omega⟩
            | 1, hu => cases hu; exact ⟨t11, Y + 1, rfl, e13 _ _ b11, by omega, by omega⟩
            | n + 2, hu => cases hu
          refine ⟨ta, _, rfl, st_of hta, rfl, _, _, rfl, _, _, rfl, rfl, Nat.zero_le _, fun fa nfa => ?_⟩
          have f13 := eB.trans e13
          obtain ⟨rs5, hr5, hrs5, _⟩ := id (L5.ex f13)
          have R13 := R5.ex f13
          have L13 := L5.ex f13
          have yf := Ex.new nfa (o := .lst [])
          refine ⟨_, rfl, r, rfl, ⟨_, sq_of (yf _ _ hr5)⟩, ?_⟩
          have len5 := hrs5.len
          refine for_list (xs := rs5) (fun i σ H' => (∃ z4 z5 z11 : Option V, σ = [some (.ref d), some (.ref x), some (.ref r), some (.ref sa), z4, z5, some (.int k), some (.ref p8), some (.int yy), some (.int pl), some (.ref fa), z11]) ∧ Ex H13 H' ∧ H' fa = some (.lst ((foundTo ws yy pl i).map V.int))) ⟨⟨_, _, _, rfl⟩, yf, upd_same⟩ (fun i σ H' _ h => sq_of (h.2.1 _ _ hr5)) ?_ ?_
          · rintro i u σ H14 hu ⟨⟨z4, z5, z11, rfl⟩, e14, h14⟩
            have iu := (List.getElem?_eq_some_iff.mp hu).1
            obtain ⟨w1, ew1, a1, v1, rfl, ha1, hL1⟩ := hrs5.at hu
            refine ⟨a1, _, rfl, st_of (e14 _ _ ha1), rfl, _, _, rfl, _, _, rfl, rfl, ?_⟩
            refine ⟨_, rfl, _, rfl, v1, _, _, _, _, yy, rfl, hL1.ex e14, fun H15 e15 => ⟨_, rfl, _, _, rfl, rfl, ?_⟩⟩
            have f15 := e14.trans e15
            refine ⟨_, rfl, _, rfl, _, rfl, v1, _, _, _, _, yy, rfl, hL1.ex f15, fun H16 e16 => ⟨_, _, rfl, rfl, _, rfl, ?_⟩⟩
            have f16 := f15.trans e16
            have h16 := (e15.trans e16) _ _ h14
            have yr1 : (pl < fst w1.D w1.T w1.B w1.S (yy + 1) - fst w1.D w1.T w1.B w1.S yy) ↔ inYear w1 yy pl := by
              unfold inYear
              omega
            have next : foundTo ws yy pl (i + 1) = foundTo ws yy pl i ++ (if inYear w1 yy pl ∧ sameL (ruler ws (hereR w1 yy pl)) w1 then [hereR w1 yy pl] else []) := by
              show foundTo ws yy pl i ++ _ = _
              rw [ew1]
            by_cases c1 : inYear w1 yy pl
            · rw [decide_eq_true (yr1.mpr c1)]
              refine iteT ⟨_, rfl, _, rfl, r, ws, _, rfl, L13.ex f16, st, fun v17 H17 e17 hv17 => ⟨_, rfl, _, _, land_Dp hv17, land_Dp (hL1.ex (f16.trans e17)), four_shaped .., four_shaped .., _, rfl, ?_⟩⟩
              have z := land_eqv (ruler ws (hereR w1 yy pl)) w1
              unfold hereR at z
              have h17 := e17 _ _ h16
              by_cases c2 : sameL (ruler ws (hereR w1 yy pl)) w1
              · rw [z.trans (decide_eq_true c2)]
                refine iteT ⟨_, rfl, .inl ⟨rfl, _, sq_of h17⟩, _, rfl, fa, _, _, rfl, rfl, h17, ?_, ⟨_, _, _, rfl⟩, ex_put (f16.trans e17) nfa, ?_⟩
                · rw [List.length_map]
                  exact Nat.lt_of_le_of_lt (found_len i) (Nat.lt_of_lt_of_le (show i < 1000 by omega) (by decide))
                · rw [next, if_pos ⟨c1, c2⟩, List.map_append]
                  exact upd_same
              · rw [z.trans (decide_eq_false c2)]
                refine iteF ⟨⟨_, _, _, rfl⟩, f16.trans e17, ?_⟩
                rw [next, if_neg (fun z => c2 z.2), List.append_nil]
                exact h17
            · rw [decide_eq_false (fun z => c1 (yr1.mp z))]
              refine iteF (iteF ⟨⟨_, _, _, rfl⟩, f16, ?_⟩)
              rw [next, if_neg (fun z => c1 z.1), List.append_nil]
              exact h16
          · rintro σ H14 ⟨⟨z4, z5, z11, rfl⟩, e14, h14⟩
            rw [len5] at h14
            obtain ⟨dx2, rs2, hx2, hl2, hrs2, hz2⟩ := id (R13.ex e14)
            refine ⟨_, rfl, x, dx2, _, rfl, hx2, rfl, _, rfl, _, rfl, x, l, ws, yy, pl, rfl, R13.ex e14, st, yyb, plb, fun p15 H15 n15 e15 h15 => ?_⟩
            have fl := found_len (ws := ws) (y := yy) (p := pl) ws.length
            refine ⟨_, rfl, fa, foundTo ws yy pl ws.length, rfl, sq_of (e15 _ _ h14), ?_, fun p16 ks2 nd2 mem2 n16 => ?_⟩
            · exact Nat.lt_of_lt_of_le (show (foundTo ws yy pl ws.length).length + 1 < 1000 by omega) (by decide)
            have y16 := Ex.new n16 (o := SetO w p16 (fun j => decide (j ∈ foundTo ws yy pl ws.length)) ks2.length)
            refine ⟨p16, _, _, rfl, upd_same, ?_, fun ns p17 rise memn lenn n17 => ?_⟩
            · have := LY.few nd2 fun k hk => (mem2 k).mp hk
              omega
            have same := days_found (p := pl) (y := yy) st up hz.1 rise fun k => by rw [memn k, decide_eq_true_iff]
            subst same
            have y17 := Ex.new n17 (o := .lst ((daysAt ws yy pl ws.length).map V.int))
            have dl := days_len (ws := ws) (y := yy) (p := pl) ws.length
            refine ⟨.ref p15, .ref p17, rfl, .lst ((y16.trans y17) _ _ h15) upd_same rfl (by rw [List.length_map]; omega) (fun i a b ha hb => ?_), fun H18 e18 => ⟨_, rfl, iteF ⟨⟨_, _, _, _, _, _, rfl⟩, e13.trans (e14.trans (e15.trans (y16.trans (y17.trans e18))))⟩⟩⟩
            rw [ha] at hb
            cases hb
            rw [List.getElem?_map] at ha
            obtain ⟨m, _, rfl⟩ := Option.map_eq_some_iff.mp ha
            exact .int m
        · rintro σ H13 ⟨⟨z4, z5, z8, z9, z10, z11, rfl⟩, e13⟩
          exact ⟨⟨_, _, _, _, _, _, _, _, rfl⟩, eB.trans e13⟩
      · rintro σ H6 ⟨⟨z4, z5, z6, z7, z8, z9, z10, z11, rfl⟩, e6⟩
        exact q H6 (x5.trans (ExD.of e6)) ((show n + 5 + xs.length ≤ n + 70 by omega) |> (k5.ex e6).mono)
end

/-! ### the state of a turn -/
section
variable {cs : List (Addr × Str)} {p d : Addr} {xs : List V} {H H1 H2 : Hp} {n : Nat}
theorem Stay.deck (s : Stay cs p xs H H1) (nd : H1 d = none) (e : Ex H1 H2) : StayD cs p xs d H H2 := ⟨e _ _ s.lst, ne_of_none s.lst nd, fun b o h no => ⟨ne_of_none (s.ext b o h no) nd, e _ _ (s.ext b o h no)⟩, Tabs.ex s.tab e⟩
theorem StayD.exd (s : StayD cs p xs d H H1) (k : Dk n H1 d) (e : ExD d H1 H2) : StayD cs p xs d H H2 := by
  obtain ⟨_, _, _, hd, _⟩ := k
  exact ⟨e _ _ s.ne s.lst, s.ne, fun b o h no => ⟨(s.ext b o h no).1, e _ _ (s.ext b o h no).1 (s.ext b o h no).2⟩, fun y hy => TabS_but (s.tab y hy) hd e⟩
theorem StayD.extN (s : StayD cs p xs d H H1) (e : LamX.ExtN H1 H2) (t : LamX.Tabs cs H2) : StayD cs p xs d H H2 := ⟨e _ _ s.lst (fun ps z => by cases z), s.ne, fun b o h no => ⟨(s.ext b o h no).1, e _ _ (s.ext b o h no).2 no⟩, t⟩
theorem StayD.ex (s : StayD cs p xs d H H1) (e : Ex H1 H2) : StayD cs p xs d H H2 := s.extN (LamX.ExtN.of e) (Tabs.ex s.tab e)
theorem StayD.stay (s : StayD cs p xs d H H1) : Stay cs p xs H H1 := ⟨s.lst, s.ext.extN, s.tab⟩
end
/-- starts within a bound -/
def NearTo (b : Int) (ws : List Row) : Prop := ∀ (i : Nat) (w : Row) (s : Int), ws[i]? = some w → w.st = .int s → -b ≤ s ∧ s ≤ b
/-- rows as a realm's are -/
structure Rows (b : Int) (ws : List Row) : Prop where
  st : Started ws
  up : Rising ws
  near : NearTo b ws
section
variable {ws : List Row} {b b' : Int}
theorem Rows.mono (h : Rows b ws) (e : b ≤ b') : Rows b' ws := ⟨h.st, h.up, fun i w s ew es => by have := h.near i w s ew es; omega⟩
theorem Rows.near8 (h : Rows b ws) (e : b ≤ 100000000) : Near ws := fun i w s ew es => by have := h.near i w s ew es; omega
theorem Rows.one {D T B S : Int} : Rows b [⟨.non, D, T, B, S⟩] := by
  have only : ∀ (i : Nat) (w : Row), [(⟨.non, D, T, B, S⟩ : Row)][i]? = some w → i = 0 ∧ w.st = .non := fun i w e => by
    match i, e with
    | 0, e => cases e; exact ⟨rfl, rfl⟩
    | i + 1, e => cases e
  refine ⟨fun i w e => .inl (only i w e), fun i j w w' s s' lt e e' es es' => ?_, fun i w s e es => ?_⟩
  · rw [(only i w e).2] at es
    cases es
  · rw [(only i w e).2] at es
    cases es
theorem cut_at {i : Nat} {w : Row} (e : ws.dropLast[i]? = some w) : ws[i]? = some w := by
  obtain ⟨hi, rfl⟩ := List.getElem?_eq_some_iff.mp e
  rw [List.getElem_dropLast]
  exact List.getElem?_eq_getElem _
theorem Rows.cut (h : Rows b ws) : Rows b ws.dropLast :=
  ⟨fun i w e => h.st i w (cut_at e), fun i j w w' s s' lt e e' => h.up i j w w' s s' lt (cut_at e) (cut_at e'), fun i w s e => h.near i w s (cut_at e)⟩
theorem snoc_at {i : Nat} {w r : Row} (e : (ws ++ [r])[i]? = some w) : (i < ws.length ∧ ws[i]? = some w) ∨ (i = ws.length ∧ w = r) := by
  by_cases lt : i < ws.length
  · rw [List.getElem?_append_left lt] at e
    exact .inl ⟨lt, e⟩
  · rw [List.getElem?_append_right (by omega)] at e
    obtain ⟨hk, e⟩ := List.getElem?_eq_some_iff.mp e
    rw [List.length_singleton] at hk
    refine .inr ⟨by omega, ?_⟩
    rw [← e, List.getElem_singleton]
/-- all begin ahead of a late day -/
theorem late_all (h : Rows b ws) {n : Int} (lt : lateB ws n = true) {i : Nat} {w : Row} {s : Int} (e : ws[i]? = some w) (es : w.st = .int s) : s < n := by
  obtain ⟨hi, _⟩ := List.getElem?_eq_some_iff.mp e
  obtain ⟨r0, er0⟩ : ∃ r0, ws[ws.length - 1]? = some r0 := ⟨ws[ws.length - 1]'(by omega), List.getElem?_eq_getElem _⟩
  have hlast : ws.getLast? = some r0 := by rw [List.getLast?_eq_getElem?, er0]
  have lt : ltB r0.st n = true := by
    unfold lateB at lt
    rw [hlast] at lt
    exact lt
  by_cases last : i = ws.length - 1
  · rw [last, er0] at e
    cases e
    rw [es] at lt
    exact of_decide_eq_true lt
  · rcases h.st _ _ er0 with ⟨z, _⟩ | ⟨_, s0, e0⟩
    · omega
    · rw [e0] at lt
      have := h.up i (ws.length - 1) w r0 s s0 (by omega) e er0 es e0
      have : s0 < n := of_decide_eq_true lt
      omega
theorem Rows.snoc (h : Rows b ws) (pos : 0 < ws.length) {n D T B S : Int} (lt : lateB ws n = true) (le : b ≤ b') (near : -b' ≤ n ∧ n ≤ b') : Rows b' (ws ++ [⟨.int n, D, T, B, S⟩]) := by
  refine ⟨fun i w e => ?_, fun i j w w' s s' ij e e' es es' => ?_, fun i w s e es => ?_⟩
  · rcases snoc_at e with ⟨_, e⟩ | ⟨rfl, rfl⟩
    · exact h.st i w e
    · exact .inr ⟨pos, n, rfl⟩
  · rcases snoc_at e with ⟨hi, e⟩ | ⟨rfl, rfl⟩
    · rcases snoc_at e' with ⟨_, e'⟩ | ⟨rfl, rfl⟩
      · exact h.up i j w w' s s' ij e e' es es'
      · cases es'
        exact late_all h lt e es
    · rcases snoc_at e' with ⟨hj, _⟩ | ⟨rfl, _⟩ <;> omega
  · rcases snoc_at e with ⟨_, e⟩ | ⟨rfl, rfl⟩
    · have := h.near i w s e es
      omega
    · cases es
      exact near
end
/-- where all lies: the cells at p, the deck at d, two realms, the rows at r; what was there ahead stands -/
structure Lie (C : Addr) (cs : List (Addr × Str)) (p : Addr) (cells : List V) (d x1 l1 x2 l2 r : Addr) (H : Hp) (n : Nat) (w1 w2 w3 : List Row) (H' : Hp) : Prop where
  lst : H' p = some (.lst cells)
  out : ∀ b o, H b = some o → (∀ ps, o ≠ .tbl ps) → b ≠ d ∧ b ≠ l1 ∧ b ≠ l2 ∧ H' b = some o
  tab : LamX.Tabs cs H'
  dk : Dk n H' d
  r1 : RealmAt C H' x1 l1 w1
  r2 : RealmAt C H' x2 l2 w2
  rl : RowsL H' r w3
  pd : p ≠ d ∧ p ≠ l1 ∧ p ≠ l2
  ld : l1 ≠ d ∧ l2 ≠ d ∧ l1 ≠ l2
  rd : r ≠ d ∧ r ≠ l1 ∧ r ≠ l2
section
variable {C : Addr} {cs : List (Addr × Str)} {p : Addr} {cells : List V} {d x1 l1 x2 l2 r : Addr} {H : Hp} {n : Nat} {w1 w2 w3 : List Row} {H1 H2 : Hp}
theorem RealmAt.but {x l b : Addr} {ws : List Row} {zs : List V} (h : RealmAt C H1 x l ws) (hb : H1 b = some (.lst zs)) (ne : l ≠ b) (e : ExD b H1 H2) : RealmAt C H2 x l ws := by
  obtain ⟨dx, rs, hx, hl, hrs, hz⟩ := h
  exact ⟨dx, rs, e _ _ (ne_of hx hb fun z => by cases z) hx, e _ _ ne hl, hrs.but hb e, hz⟩
theorem RowsL.but {l b : Addr} {ws : List Row} {zs : List V} (h : RowsL H1 l ws) (hb : H1 b = some (.lst zs)) (ne : l ≠ b) (e : ExD b H1 H2) : RowsL H2 l ws := by
  obtain ⟨rs, hl, hrs, hz⟩ := h
  exact ⟨rs, e _ _ ne hl, hrs.but hb e, hz⟩
theorem RealmAt.list {x l : Addr} {ws : List Row} (h : RealmAt C H1 x l ws) : ∃ zs, H1 l = some (.lst zs) := let ⟨_, rs, _, hl, _⟩ := h; ⟨rs, hl⟩
theorem Lie.ex (h : Lie C cs p cells d x1 l1 x2 l2 r H n w1 w2 w3 H1) (e : Ex H1 H2) : Lie C cs p cells d x1 l1 x2 l2 r H n w1 w2 w3 H2 :=
  ⟨e _ _ h.lst, fun b o hb no => let ⟨a1, a2, a3, a4⟩ := h.out b o hb no; ⟨a1, a2, a3, e _ _ a4⟩, Tabs.ex h.tab e, h.dk.ex e, h.r1.ex e, h.r2.ex e, h.rl.ex e, h.pd, h.ld, h.rd⟩
theorem Lie.exd {m : Nat} (h : Lie C cs p cells d x1 l1 x2 l2 r H n w1 w2 w3 H1) (e : ExD d H1 H2) (k : Dk m H2 d) : Lie C cs p cells d x1 l1 x2 l2 r H m w1 w2 w3 H2 := by
  obtain ⟨_, _, _, hd, _⟩ := h.dk
  exact ⟨e _ _ h.pd.1 h.lst, fun b o hb no => let ⟨a1, a2, a3, a4⟩ := h.out b o hb no; ⟨a1, a2, a3, e _ _ a1 a4⟩, fun y hy => TabS_but (h.tab y hy) hd e, k, h.r1.but hd h.ld.1 e, h.r2.but hd h.ld.2.1 e, h.rl.but hd h.rd.1 e, h.pd, h.ld, h.rd⟩
theorem RowsAt.done {l : Addr} {rs zs : List V} {ws : List Row} (h : RowsAt H1 rs ws) (hl : H1 l = some (.lst zs)) (e : ∀ b o, b ≠ l → H1 b = some o → (∀ ps, o ≠ .tbl ps) → H2 b = some o) : RowsAt H2 rs ws := by
  induction h with
  | nil => exact .nil
  | cons x _ ih =>
    obtain ⟨a, v, er, ha, b, ev, hb, rg⟩ := x
    exact .cons ⟨a, v, er, e _ _ (ne_of ha hl fun z => by cases z) ha fun ps z => (by cases z), b, ev, e _ _ (ne_of hb hl fun z => by cases z) hb fun ps z => (by cases z), rg⟩ ih
theorem Dk.done {l : Addr} (h : Dk n H1 d) (ne : d ≠ l) (e : Done cs l H1 H2) : Dk n H2 d := by
  obtain ⟨x, y, z, hd, r⟩ := h
  exact ⟨x, y, z, e.ext _ _ ne hd (fun ps z => by cases z), r⟩
theorem RealmAt.done {x l b : Addr} {ws : List Row} {zs : List V} (h : RealmAt C H1 x l ws) (hb : H1 b = some (.lst zs)) (ne : l ≠ b) (e : Done cs b H1 H2) : RealmAt C H2 x l ws := by
  obtain ⟨dx, rs, hx, hl, hrs, hz⟩ := h
  exact ⟨dx, rs, e.ext _ _ (ne_of hx hb fun z => by cases z) hx (fun ps z => by cases z), e.ext _ _ ne hl (fun ps z => by cases z), hrs.done hb e.ext, hz⟩
theorem RowsL.done {l b : Addr} {ws : List Row} {zs : List V} (h : RowsL H1 l ws) (hb : H1 b = some (.lst zs)) (ne : l ≠ b) (e : Done cs b H1 H2) : RowsL H2 l ws := by
  obtain ⟨rs, hl, hrs, hz⟩ := h
  exact ⟨rs, e.ext _ _ ne hl (fun ps z => by cases z), hrs.done hb e.ext, hz⟩
/-- a deed of the first realm -/
theorem Lie.do1 {v1 : List Row} (h : Lie C cs p cells d x1 l1 x2 l2 r H n w1 w2 w3 H1) (e : Done cs l1 H1 H2) (k : RealmAt C H2 x1 l1 v1) : Lie C cs p cells d x1 l1 x2 l2 r H n v1 w2 w3 H2 := by
  obtain ⟨zs, hl⟩ := h.r1.list
  exact ⟨e.ext _ _ h.pd.2.1 h.lst (fun ps z => by cases z), fun b o hb no => let ⟨a1, a2, a3, a4⟩ := h.out b o hb no; ⟨a1, a2, a3, e.ext _ _ a2 a4 no⟩, e.tab, h.dk.done (fun z => h.ld.1 z.symm) e, k, h.r2.done hl (fun z => h.ld.2.2 z.symm) e, h.rl.done hl h.rd.2.1 e, h.pd, h.ld, h.rd⟩
/-- a deed of the other -/
theorem Lie.do2 {v2 : List Row} (h : Lie C cs p cells d x1 l1 x2 l2 r H n w1 w2 w3 H1) (e : Done cs l2 H1 H2) (k : RealmAt C H2 x2 l2 v2) : Lie C cs p cells d x1 l1 x2 l2 r H n w1 v2 w3 H2 := by
  obtain ⟨zs, hl⟩ := h.r2.list
  exact ⟨e.ext _ _ h.pd.2.2 h.lst (fun ps z => by cases z), fun b o hb no => let ⟨a1, a2, a3, a4⟩ := h.out b o hb no; ⟨a1, a2, a3, e.ext _ _ a3 a4 no⟩, e.tab, h.dk.done (fun z => h.ld.2.1 z.symm) e, h.r1.done hl h.ld.2.2 e, k, h.rl.done hl h.rd.2.2 e, h.pd, h.ld, h.rd⟩
/-- new rows -/
theorem Lie.rows {r' : Addr} {v3 : List Row} (h : Lie C cs p cells d x1 l1 x2 l2 r H n w1 w2 w3 H1) (e : Ex H1 H2) (nr : H1 r' = none) (k : RowsL H2 r' v3) : Lie C cs p cells d x1 l1 x2 l2 r' H n w1 w2 v3 H2 := by
  have h2 := h.ex e
  obtain ⟨z1, hl1⟩ := h.r1.list
  obtain ⟨z2, hl2⟩ := h.r2.list
  exact ⟨h2.lst, h2.out, h2.tab, h2.dk, h2.r1, h2.r2, k, h.pd, h.ld, h.dk.ne_fresh nr, fun z => (ne_of_none hl1 nr) z.symm, fun z => (ne_of_none hl2 nr) z.symm⟩
theorem Lie.stay (h : Lie C cs p cells d x1 l1 x2 l2 r H n w1 w2 w3 H1) : Stay cs p cells H H1 := ⟨h.lst, fun b o hb no => (h.out b o hb no).2.2.2, h.tab⟩
/-- a list of one's own, changed -/
theorem ex_own {a : Addr} {o : HO} (na : H a = none) (e : Ex H H1) : Ex H (upd H1 a o) := fun b u h => (upd_ne (ne_of_none h na)).trans (e _ _ h)
end

/-! ### the law -/
section
/-- a value, told by what holds of it -/
theorem seq_asg {te : TE} {i : Nat} {R : TS} {D : Ends} {σ : L2.St} {H : Hp} (P : V → Hp → Prop) (h : ∀ Q : VK, (∀ v H', P v H' → Q v H') → te σ H Q) (k : ∀ v H', P v H' → R D (List.set σ i (some v)) H') : tSeq (tAsg te (gName i)) R D σ H := h _ k
/-- three statements, told by what holds behind them -/
theorem seq3 {A B C R : TS} {D : Ends} {σ : L2.St} {H : Hp} (P : L2.St → Hp → Prop) (h : ∀ nx : L2.St → Hp → Prop, (∀ σ H, P σ H → nx σ H) → tSeq A (tSeq B C) { nx := nx, rt := D.rt, bk := D.bk, ct := D.ct } σ H) (k : ∀ σ H, P σ H → R D σ H) : tSeq A (tSeq B (tSeq C R)) D σ H := h _ k
theorem new2 {H : Hp} {x dx : Addr} {o o' : HO} (nx : H x = none) (ndx : H dx = none) (ne : dx ≠ x) : Ex H (upd (upd H dx o) x o') := (Ex.new ndx).trans (Ex.new ((upd_ne fun z => ne z.symm).trans nx))
/-- a thing made: nothing else is touched -/
theorem made {C x dx l : Addr} {H H' : Hp} (nx : H x = none) (ndx : H dx = none) (ne : dx ≠ x) (nl : (upd (upd H dx (.own x)) x (.ins C dx [])) l = none) (k : ExD x (upd (upd H dx (.own x)) x (.ins C dx [])) H') : Ex H H' ∧ H l = none := by
  have e : Ex H (upd (upd H dx (.own x)) x (.ins C dx [])) := (Ex.new ndx).trans (Ex.new ((upd_ne fun z => ne z.symm).trans nx))
  refine ⟨fun b o hb => k b o (ne_of_none hb nx) (e b o hb), ?_⟩
  cases z : H l with
  | none => rfl
  | some o => rw [e _ _ z] at nl; cases nl
theorem NewV.exd {H H' : Hp} {d : Addr} {n : Nat} {v : V} {b : Bool} (h : NewV H v b) (k : Dk n H d) (e : ExD d H H') : NewV H' v b := by
  cases h with
  | land l => exact .land (e.land k l)
  | non => exact .non
  | zero h => exact .zero (e.tup k h)
  | lst h =>
    obtain ⟨x, y, z, hd, _⟩ := k
    exact .lst (e _ _ (ne_of h hd fun z => by cases z) h)
theorem Land.done {cs : List (Addr × Str)} {l : Addr} {zs : List V} {H H' : Hp} {v : V} {D T B S : Int} (h : Land H v D T B S) (hl : H l = some (.lst zs)) (e : Done cs l H H') : Land H' v D T B S := by
  obtain ⟨a, ev, ha, r⟩ := h
  exact ⟨a, ev, e.ext _ _ (ne_of ha hl fun z => by cases z) ha (fun ps z => by cases z), r⟩
theorem Land.only {H : Hp} {v : V} {D T B S D' T' B' S' : Int} (h : Land H v D T B S) (h' : Land H v D' T' B' S') : D = D' ∧ T = T' ∧ B = B' ∧ S = S' := by
  obtain ⟨a, rfl, ha, _⟩ := h
  obtain ⟨a', ea, ha', _⟩ := h'
  cases ea
  rw [ha] at ha'
  cases ha'
  exact ⟨rfl, rfl, rfl, rfl⟩
theorem due_late {ws : List Row} {m : Int} {b : Bool} (h : dueW ws (.int m) b = "") : lateB ws m = true ∧ b = true := by
  replace h : (if lateB ws m = true then (if b = true then ("" : Str) else ("NoLand+" : Str)) else ("NoDay+" : Str)) = "" := h
  cases l : lateB ws m with
  | false => rw [l] at h; exact absurd h (by cases b <;> decide)
  | true =>
    cases b with
    | true => exact ⟨rfl, rfl⟩
    | false => rw [l] at h; exact absurd h (by decide)
theorem cut_last {xs : List V} : cutV xs none (some (-1)) = xs.dropLast := by
  unfold cutV
  rw [show HT.sIx xs.length 0 none = 0 from rfl, List.drop_zero, List.dropLast_eq_take]
  congr 1
  unfold HT.sIx
  simp
  omega
theorem rows_sm {H : Hp} {tl r : Addr} {ts rs : List V} {ws : List Row} (htl : H tl = some (.lst ts)) (hr : H r = some (.lst rs)) (h1 : RowsAt H ts ws) (h2 : RowsAt H rs ws) (st : Started ws) (hz : ws.length ≤ 1000) : Sm H 3 (.ref tl) (.ref r) := by
  refine .lst htl hr (h1.len.trans h2.len.symm) (by rw [h1.len]; exact hz) fun i x y ex ey => ?_
  obtain ⟨w, ew, a, v, rfl, ha, hL⟩ := h1.at ex
  obtain ⟨w', ew', b, v', rfl, hb, hL'⟩ := h2.at ey
  rw [ew] at ew'
  cases ew'
  refine .tup ha hb rfl (by show 2 ≤ 1000; decide) fun i x y ex ey => ?_
  match i, ex, ey with
  | 0, ex, ey =>
    cases ex
    cases ey
    rcases st _ _ ew with ⟨_, e⟩ | ⟨_, s, e⟩
    · rw [e]; exact .non
    · rw [e]; exact .int s
  | 1, ex, ey =>
    cases ex
    cases ey
    obtain ⟨a1, rfl, h1, _⟩ := hL
    obtain ⟨a2, rfl, h2, _⟩ := hL'
    refine .tup h1 h2 rfl (by show 4 ≤ 1000; decide) fun i x y ex ey => ?_
    have mem := List.mem_of_getElem? ex
    rw [ex] at ey
    cases ey
    simp only [List.mem_cons, List.not_mem_nil, or_false] at mem
    rcases mem with rfl | rfl | rfl | rfl <;> exact .int _
  | i + 2, ex, ey => cases ex
theorem bad_num {H : Hp} {j lo hi : Int} (b : ¬ (lo ≤ j ∧ j ≤ hi)) : Bad H (.int j) lo hi := by
  refine ⟨_, .int j, ?_⟩
  show (decide (lo ≤ j) && decide (j ≤ hi)) = false
  by_cases z : lo ≤ j
  · rw [decide_eq_false (fun z' => b ⟨z, z'⟩), Bool.and_false]
  · rw [decide_eq_false z, Bool.false_and]
theorem ret_eq {v v' : V} {H : Hp} {Q : VK} (e : v' = v) (h : RetV v H Q) : RetV v' H Q := e ▸ h
theorem iteY {b : Bool} {A B : Prop} (e : b = true) (h : A) : if b = true then A else B := by
  rw [if_pos e]
  exact h
theorem iteN {b : Bool} {A B : Prop} (e : b = false) (h : B) : if b = true then A else B := by
  rw [if_neg (by rw [e]; decide)]
  exact h
theorem ex_none {H H' : Hp} {l : Addr} (e : Ex H H') (h : H' l = none) : H l = none := by
  cases z : H l with
  | none => rfl
  | some o => rw [e _ _ z] at h; cases h
end
section
variable {P : Program} {w : World} {K : PySem.W.Frag} {mg : Str → Option Value} {base : Heap}
theorem ok_law (T : Txt K mg) {cs : List (Addr × Str)} {f : Addr} {fd : FuncData} (MD : Maker K mg base cs "_law_do" s__law_do T._law_do.f T._law_do.fd) (M : Maker K mg base cs "law" s_law f fd) : FnOk P w K mg base CX0 9 f fd ["script"] (spLawC K cs) := by
  have G__law_deck : FnOk P w K mg base CX0 1 T._law_deck.f T._law_deck.fd ["cell", "turn"] spDeck := ok__law_deck T
  have G__law_pick : FnOk P w K mg base CX0 1 T._law_pick.f T._law_pick.fd ["deck", "size"] spPick := ok__law_pick T
  have G__law_one : FnOk P w K mg base CX0 2 T._law_one.f T._law_one.fd ["deck", "some"] spOne := ok__law_one T
  have G__law_any : FnOk P w K mg base CX0 3 T._law_any.f T._law_any.fd ["deck"] spAny := ok__law_any T
  have G__law_due : FnOk P w K mg base CX0 2 T._law_due.f T._law_due.fd ["rows", "deed"] spDue := ok__law_due T
  have G__law_do : FnOk P w K mg base CX0 8 T._law_do.f T._law_do.fd ["realm", "deed"] (spDo T.C_Realm cs) := ok__law_do T MD
  have G__law_same : FnOk P w K mg base CX0 5 T._law_same.f T._law_same.fd ["told", "due"] (spSame 4) := ok__law_same T 4
  have G__law_days_right : FnOk P w K mg base CX0 6 T._law_days_right.f T._law_days_right.fd ["deck", "realm", "rows"] (spDaysRight T.C_Realm) := ok__law_days_right T
  have G_Realm_init : FnOk P w K mg base CX0 5 T.Realm_init.f T.Realm_init.fd ["self", "land"] (spInitR T.C_Realm) := ok_Realm_init T
  have G_Realm_lands : FnOk P w K mg base CX0 1 T.Realm_lands.f T.Realm_lands.fd ["self"] (spLandsR T.C_Realm) := ok_Realm_lands T
  have G_Realm_len : FnOk P w K mg base CX0 1 T.Realm_len.f T.Realm_len.fd ["self"] (spLenR T.C_Realm) := ok_Realm_len T
  have G_Realm_eq : FnOk P w K mg base CX0 1 T.Realm_eq.f T.Realm_eq.fd ["self", "other"] (spEqR T.C_Realm) := ok_Realm_eq T
  have N_date : FnOk P w K mg base (L2N.CX P w) 4 T.Realm_date.f T.Realm_date.fd ["self", "day"] (spDateNo T.C_NoDay) := no_Realm_date T
  have N_days_of : FnOk P w K mg base (L2N.CX P w) 4 T.Realm_days_of.f T.Realm_days_of.fd ["self", "year", "place"] (spDaysNo T.C_NoYear T.C_NoPlace) := no_Realm_days_of T
  refine maker_run M sc_law (fun vs H Q E h => ?_) fun A outer s H vs Q E hr h => ?_
  · obtain ⟨_, _, rfl, _⟩ := h
    rfl
  obtain ⟨a, ns, rfl, hS, hlen, t0, q⟩ := h
  refine ⟨_, PSs.nox (pss_cons (ps_for PassesOwn.never rfl (pi_list (pe_slice sl_list (pe_op op_catL (pe_lst (pa_cons pe_int pa_nil)) (pv 0)) po_none (po_some pe_int))) (pg_name (i := 1) sc_law.nd rfl (Or.inl rfl))
        (pss_cons (ps_set (i := 2) sc_law.nd rfl (Or.inl rfl) (pe_call G__law_deck (hr.mono (by omega)) (by rfl) T._law_deck.g T._law_deck.F.kp T._law_deck.b .nil pass0 (pa_cons (pv 1) (pa_cons pe_int pa_nil))))
      (pss_cons (ps_set (i := 3) sc_law.nd rfl (Or.inl rfl) (pe_call G__law_any (hr.mono (by omega)) (by rfl) T._law_any.g T._law_any.F.kp T._law_any.b .nil pass0 (pa_cons (pv 2) pa_nil)))
      (pss_cons (ps_asg (pe_tup (pa_cons (pe_make T.mk_Realm G_Realm_init (hr.mono (by omega)) (by rfl) T.g_Realm T.Realm_init.b .nil pass0 (pa_cons (pv 3) pa_nil)) (pa_cons (pe_make T.mk_Realm G_Realm_init (hr.mono (by omega)) (by rfl) T.g_Realm T.Realm_init.b .nil pass0 (pa_cons (pv 3) pa_nil)) (pa_cons (pe_lst (pa_cons (pe_tup (pa_cons pe_non (pa_cons (pv 3) pa_nil))) pa_nil)) pa_nil)))) (pg_tup rfl (pgs_cons (pg_name (i := 14) sc_law.nd rfl (Or.inr rfl)) (pgs_cons (pg_name (i := 4) sc_law.nd rfl (Or.inl rfl)) (pgs_cons (pg_name (i := 5) sc_law.nd rfl (Or.inl rfl)) pgs_nil)))))
      (pss_cons (ps_for PassesOwn.never rfl (pi_range1 rfl T.range (pa_cons pe_int pa_nil)) (pg_name (i := 6) sc_law.nd rfl (Or.inl rfl))
        (pss_cons (ps_set (i := 7) sc_law.nd rfl (Or.inl rfl) (pe_ifExp (pt_cmpR op_notN (pe_ix ix_tup (pe_ix ix_list (pv 5) (pe_un un_neg pe_int) (fun _ _ => rfl)) pe_int (fun _ _ => rfl)) pe_non (nomark _)) (pe_ix ix_tup (pe_ix ix_list (pv 5) (pe_un un_neg pe_int) (fun _ _ => rfl)) pe_int (fun _ _ => rfl)) (pe_op op_sub (pe_call G__law_pick (hr.mono (by omega)) (by rfl) T._law_pick.g T._law_pick.F.kp T._law_pick.b .nil pass0 (pa_cons (pv 2) (pa_cons pe_int pa_nil))) pe_int)))
      (pss_cons (ps_set (i := 8) sc_law.nd rfl (Or.inl rfl) (pe_op op_add (pv 7) (pe_call G__law_one (hr.mono (by omega)) (by rfl) T._law_one.g T._law_one.F.kp T._law_one.b .nil pass0 (pa_cons (pv 2) (pa_cons (pe_lst (pa_cons pe_int (pa_cons (pe_op op_add pe_int (pe_call G__law_pick (hr.mono (by omega)) (by rfl) T._law_pick.g T._law_pick.F.kp T._law_pick.b .nil pass0 (pa_cons (pv 2) (pa_cons pe_int pa_nil)))) (pa_cons (pe_op op_add pe_int (pe_call G__law_pick (hr.mono (by omega)) (by rfl) T._law_pick.g T._law_pick.F.kp T._law_pick.b .nil pass0 (pa_cons (pv 2) (pa_cons (pe_op op_pow pe_int pe_int) pa_nil)))) (pa_cons pe_int (pa_cons (pe_un un_neg pe_int) pa_nil)))))) pa_nil)))))
      (pss_cons (ps_set (i := 9) sc_law.nd rfl (Or.inl rfl) (pe_call G__law_one (hr.mono (by omega)) (by rfl) T._law_one.g T._law_one.F.kp T._law_one.b .nil pass0 (pa_cons (pv 2) (pa_cons (pe_lst (pa_cons (pe_call G__law_any (hr.mono (by omega)) (by rfl) T._law_any.g T._law_any.F.kp T._law_any.b .nil pass0 (pa_cons (pv 2) pa_nil)) (pa_cons (pe_call G__law_any (hr.mono (by omega)) (by rfl) T._law_any.g T._law_any.F.kp T._law_any.b .nil pass0 (pa_cons (pv 2) pa_nil)) (pa_cons pe_non (pa_cons (pe_tup (pa_cons pe_int (pa_cons pe_int (pa_cons pe_int (pa_cons pe_int pa_nil))))) (pa_cons (pe_lst (pa_cons pe_int (pa_cons pe_int (pa_cons pe_int (pa_cons pe_int pa_nil))))) pa_nil)))))) pa_nil))))
      (pss_cons (ps_set (i := 10) sc_law.nd rfl (Or.inl rfl) (pe_call G__law_one (hr.mono (by omega)) (by rfl) T._law_one.g T._law_one.F.kp T._law_one.b .nil pass0 (pa_cons (pv 2) (pa_cons (pe_lst (pa_cons (pe_tup (pa_cons (pv 8) (pa_cons (pv 9) pa_nil))) (pa_cons (pe_tup (pa_cons (pv 8) (pa_cons (pv 9) pa_nil))) (pa_cons (pe_tup (pa_cons (pv 8) (pa_cons (pv 9) pa_nil))) (pa_cons pe_str (pa_cons (pe_tup (pa_cons pe_non (pa_cons (pv 9) pa_nil))) (pa_cons (pe_tup (pa_cons pe_bl (pa_cons (pv 9) pa_nil))) pa_nil))))))) pa_nil))))
      (pss_cons (ps_set (i := 11) sc_law.nd rfl (Or.inl rfl) (pe_call G__law_due (hr.mono (by omega)) (by rfl) T._law_due.g T._law_due.F.kp T._law_due.b .nil pass0 (pa_cons (pv 5) (pa_cons (pv 10) pa_nil))))
      (pss_cons (ps_if (pt_cmpR op_ne (pe_call G__law_do (hr.mono (by omega)) (by rfl) T._law_do.g T._law_do.F.kp T._law_do.b .nil pass0 (pa_cons (pv 14) (pa_cons (pv 10) pa_nil))) (pv 11) (nomark _))
        (pss_one (ps_ret pe_bl))
        pss_nil)
      (pss_cons (ps_if (pt_cmpR op_eq (pv 11) pe_str (nomark _))
        (pss_cons (ps_set (i := 5) sc_law.nd rfl (Or.inl rfl) (pe_ifExp (pt_cmpR (op_eqD hr.units) (pv 10) pe_str (nomark _)) (pe_slice sl_list (pv 5) po_none (po_some (pe_un un_neg pe_int))) (pe_op op_catL (pv 5) (pe_lst (pa_cons (pv 10) pa_nil)))))
      (pss_cons (ps_if (pt_cmpR (op_eqOwn T.Realm_eq.m T.on_Realm G_Realm_eq T.Realm_eq.b (hr.mono (by omega))) (pv 14) (pv 4) (nomark _))
        (pss_one (ps_ret pe_bl))
        pss_nil)
      (pss_one (ps_expr (pe_call G__law_do (hr.mono (by omega)) (by rfl) T._law_do.g T._law_do.F.kp T._law_do.b .nil pass0 (pa_cons (pv 4) (pa_cons (pv 10) pa_nil)))))))
        pss_nil)
      (pss_cons (ps_set (i := 12) sc_law.nd rfl (Or.inl rfl) (pe_meth0 (pv 14) T.cl_Realm T.Realm_lands.m G_Realm_lands (hr.mono (by omega)) T.Realm_lands.b .nil pass0))
      (pss_cons (ps_if (PW.pt (pw_or (pt_not (pt_val (pe_call G__law_same (hr.mono (by omega)) (by rfl) T._law_same.g T._law_same.F.kp T._law_same.b .nil pass0 (pa_cons (pv 12) (pa_cons (pv 5) pa_nil))))) (pw_or (pt_cmpR op_ne (pe_callB (call_lenOwn T.Realm_len.m G_Realm_len T.Realm_len.b (hr.mono (by omega))) (by rfl) T.len (by decide +kernel) (pa_cons (pv 14) pa_nil)) (pe_callB call_len_seq (by rfl) T.len (by decide +kernel) (pa_cons (pv 5) pa_nil)) (nomark _)) (pw_or (pt_not (pt_cmpR (op_eqOwn T.Realm_eq.m T.on_Realm G_Realm_eq T.Realm_eq.b (hr.mono (by omega))) (pv 14) (pv 4) (nomark _))) (pw_or1 (pt_cmpR (op_eqOwn T.Realm_eq.m T.on_Realm G_Realm_eq T.Realm_eq.b (hr.mono (by omega))) (pv 14) (pv 5) (nomark _)))))))
        (pss_one (ps_ret pe_bl))
        pss_nil)
      (pss_cons (ps_expr (pe_bm PySem.F.plainAttrs_list PySem.F.slot_list_append PySem.F.type_list_append mt_append (pv 12) (pa_cons pe_int pa_nil)))
      (pss_one (ps_if (PW.pt (pw_and (pt_cmpR op_eq (pe_op op_mod (pv 6) pe_int) pe_int (nomark _)) (pw_and1 (pt_not (pt_val (pe_call G__law_days_right (hr.mono (by omega)) (by rfl) T._law_days_right.g T._law_days_right.F.kp T._law_days_right.b .nil pass0 (pa_cons (pv 2) (pa_cons (pv 14) (pa_cons (pv 5) pa_nil)))))))))
        (pss_one (ps_ret pe_bl))
        pss_nil)))))))))))))
      (pss_cons (ps_for PassesOwn.never rfl (pi_list (pe_lst (pa_cons pe_non (pa_cons pe_bl (pa_cons (pe_op op_add (pe_op op_pow pe_int pe_int) pe_int) (pa_cons pe_str pa_nil)))))) (pg_name (i := 13) sc_law.nd rfl (Or.inr rfl))
        (pss_cons (ps_if (pt_cmpR op_ne (pe_tries (n := 5) T (by rfl) M.tb rfl M.mem M.one (hr.mono (by omega)) (show LamX.LamS (defScope s_law) _ from LamX.lamS_by (by decide +kernel)) rfl (fun _ _ _ _ _ => rfl) (fun f c' A outer sZ HZ E hr => (pe_meth (pv 14) T.cl_Realm T.Realm_date.m N_date (hr.mono (by omega)) T.Realm_date.b .nil lam_passes (pa_cons (pv 13) pa_nil)))) pe_str (nomark _))
        (pss_one (ps_ret pe_bl))
        pss_nil)
      (pss_one (ps_if (pt_cmpR op_ne (pe_tries (n := 5) T (by rfl) M.tb rfl M.mem M.one (hr.mono (by omega)) (show LamX.LamS (defScope s_law) _ from LamX.lamS_by (by decide +kernel)) rfl (fun _ _ _ _ _ => rfl) (fun f c' A outer sZ HZ E hr => (pe_meth (pv 14) T.cl_Realm T.Realm_days_of.m N_days_of (hr.mono (by omega)) T.Realm_days_of.b .nil lam_passes (pa_cons (pv 13) (pa_cons pe_non pa_nil))))) pe_str (nomark _))
        (pss_one (ps_ret pe_bl))
        pss_nil))))
      (pss_one (ps_for PassesOwn.never rfl (pi_list (pe_lst (pa_cons pe_non (pa_cons pe_bl (pa_cons (pe_un un_neg pe_int) (pa_cons pe_int pa_nil)))))) (pg_name (i := 13) sc_law.nd rfl (Or.inr rfl))
        (pss_one (ps_if (pt_cmpR op_ne (pe_tries (n := 5) T (by rfl) M.tb rfl M.mem M.one (hr.mono (by omega)) (show LamX.LamS (defScope s_law) _ from LamX.lamS_by (by decide +kernel)) rfl (fun _ _ _ _ _ => rfl) (fun f c' A outer sZ HZ E hr => (pe_meth (pv 14) T.cl_Realm T.Realm_days_of.m N_days_of (hr.mono (by omega)) T.Realm_days_of.b .nil lam_passes (pa_cons pe_int (pa_cons (pv 13) pa_nil))))) pe_str (nomark _))
        (pss_one (ps_ret pe_bl))
        pss_nil))))))))))
      (pss_one (ps_ret pe_bl))), ?_⟩

  refine ⟨by show 1 ≤ sizeLine; decide, fun p0 n0 => ?_⟩
  refine ⟨_, rfl, p0, a, _, _, rfl, rfl, sq_of upd_same, ex_l (Ex.new n0) hS, ?_, fun p1 n1 => ?_⟩
  · rw [List.length_map]
    exact sz_of (by show 1 + ns.length ≤ 100000; omega)
  refine ⟨6, rfl, p1, _, rfl, sq_of upd_same, fun p2 n2 => ?_⟩
  refine ⟨p2, rfl, ⟨_, sq_of upd_same⟩, ?_⟩
  have y0 := Ex.new n0 (o := .lst [.int 0])
  have y1 := Ex.new n1 (o := .lst (V.int 0 :: ns.map V.int))
  have y2 := Ex.new n2 (o := .lst (cutV (V.int 0 :: ns.map V.int) none (some 6)))
  refine for_list (xs := cutV (V.int 0 :: ns.map V.int) none (some 6)) (fun i σ H' => (∃ z1 z2 z3 z4 z5 z6 z7 z8 z9 z10 z11 z12 z13 z14, σ = [some (.ref a), z1, z2, z3, z4, z5, z6, z7, z8, z9, z10, z11, z12, z13, z14]) ∧ Stay cs p2 (cutV (V.int 0 :: ns.map V.int) none (some 6)) H H')
      ⟨⟨_, _, _, _, _, _, _, _, _, _, _, _, _, _, rfl⟩, upd_same, LamX.ExtN.of (y0.trans (y1.trans y2)), Tabs.ex t0 (y0.trans (y1.trans y2))⟩ (fun i σ H' _ h => sq_of h.2.lst) ?_ (fun σ H' _ => q _)
  clear y0 y1 y2 n0 n1 n2
  rintro i x σ H1 hx ⟨⟨z1, z2, z3, z4, z5, z6, z7, z8, z9, z10, z11, z12, z13, z14, rfl⟩, s1⟩
  obtain ⟨cl, rfl⟩ := cells_int hx
  generalize cutV (V.int 0 :: ns.map V.int) none (some 6) = cells at s1 ⊢
  refine ⟨_, rfl, cl, 11, rfl, fun d H2 nd e2 k2 => ?_⟩
  have s2 := s1.deck nd e2
  refine ⟨_, rfl, d, 11, rfl, k2, by omega, fun v H3 D T1 B S l3 e3 k3 => ?_⟩
  have s3 := s2.exd k2 e3
  clear s1 e2 k2 s2 e3 nd
  refine ⟨_, rfl, fun x1 dx1 nx1 ndx1 nex1 => ?_⟩
  refine ⟨x1, dx1, v, D, T1, B, S, rfl, upd_same, l3.ex (new2 nx1 ndx1 nex1), fun l1 H4 nl1 k4 R1 => ⟨rfl, ?_⟩⟩
  obtain ⟨e4, nl1⟩ := made nx1 ndx1 nex1 nl1 k4
  clear k4
  refine ⟨_, rfl, fun x2 dx2 nx2 ndx2 nex2 => ?_⟩
  refine ⟨x2, dx2, v, D, T1, B, S, rfl, upd_same, (l3.ex e4).ex (new2 nx2 ndx2 nex2), fun l2 H5 nl2 k5 R2 => ⟨rfl, ?_⟩⟩
  obtain ⟨e5, nl2⟩ := made nx2 ndx2 nex2 nl2 k5
  clear k5
  refine ⟨_, rfl, by show 2 ≤ sizeLine; decide, fun t6 n6 => ⟨by show 1 ≤ sizeLine; decide, fun r n7 => ⟨by show 3 ≤ sizeLine; decide, fun t8 n8 => ⟨t8, _, rfl, st_of upd_same, rfl, _, _, rfl, _, _, rfl, _, _, rfl, rfl, ?_⟩⟩⟩⟩
  have y6 := Ex.new n6 (o := .tup [.non, v])
  have y7 := Ex.new n7 (o := .lst [.ref t6])
  have y8 := Ex.new n8 (o := .tup [.ref x1, .ref x2, .ref r])
  have e8 := y6.trans (y7.trans y8)
  have lie : Lie T.C_Realm cs p2 cells d x1 l1 x2 l2 r H 16 [⟨.non, D, T1, B, S⟩] [⟨.non, D, T1, B, S⟩] [⟨.non, D, T1, B, S⟩] (upd (upd (upd H5 t6 (.tup [.non, v])) r (.lst [.ref t6])) t8 (.tup [.ref x1, .ref x2, .ref r])) := by
    have e35 := e4.trans e5
    have s8 := s3.ex (e35.trans e8)
    have m2 := ex_none e4 nl2
    obtain ⟨zs1, hl1⟩ := R1.list
    obtain ⟨zs2, hl2⟩ := R2.list
    exact ⟨s8.lst, fun b o hb no => ⟨(s8.ext b o hb no).1, ne_of_none (s3.ext b o hb no).2 nl1, ne_of_none (s3.ext b o hb no).2 m2, (s8.ext b o hb no).2⟩, s8.tab, k3.ex (e35.trans e8), R1.ex (e5.trans e8), R2.ex e8,
      ⟨_, y8 _ _ upd_same, .cons ⟨t6, v, rfl, (y7.trans y8) _ _ upd_same, l3.ex (e35.trans e8)⟩ .nil, by show 0 < 1 ∧ 1 ≤ 1000; decide⟩,
      ⟨s3.ne, ne_of_none s3.lst nl1, ne_of_none s3.lst m2⟩, ⟨k3.ne_fresh nl1, k3.ne_fresh m2, ne_of_none hl1 nl2⟩, (k3.ex (e35.trans y6)).ne_fresh n7, fun z => ne_of_none ((e5.trans y6) _ _ hl1) n7 z.symm, fun z => ne_of_none (y6 _ _ hl2) n7 z.symm⟩
  clear s3 l3 k3 nx1 ndx1 nex1 nl1 R1 e4 nx2 ndx2 nex2 nl2 R2 e5 n6 n7 n8 y6 y7 y8 e8
  refine ⟨30, rfl, by decide, by decide, for_range (lo := 0) (n := 30) (fun j σ H' => ∃ z6 z7 z8 z9 z10 z11 z12 z13 r ws, σ = [some (.ref a), some (.int cl), some (.ref d), some v, some (.ref x2), some (.ref r), z6, z7, z8, z9, z10, z11, z12, z13, some (.ref x1)] ∧ Lie T.C_Realm cs p2 cells d x1 l1 x2 l2 r H (16 + 100 * j) ws ws ws H' ∧ Rows (2000 + 1000001 * (j : Int)) ws ∧ ws.length ≤ j + 1) ⟨_, _, _, _, _, _, _, _, r, _, rfl, lie, Rows.one, Nat.le_refl 1⟩ ?_ ?_⟩
  · clear lie
    rintro j σ H4 hj ⟨z6, z7, z8, z9, z10, z11, z12, z13, r, ws, rfl, L, R, len⟩
    refine seq_asg (fun v' H' => ∃ la : Int, v' = .int la ∧ (-(2000 + 1000001 * (j : Int)) ≤ la ∧ la ≤ 2000 + 1000001 * (j : Int)) ∧ Lie T.C_Realm cs p2 cells d x1 l1 x2 l2 r H (17 + 100 * j) ws ws ws H') (fun Q' q' => ?_) ?_
    · obtain ⟨rs, hr', hrs, hz⟩ := L.rl
      obtain ⟨r0, er0⟩ : ∃ r0, ws[ws.length - 1]? = some r0 := ⟨ws[ws.length - 1]'(by omega), List.getElem?_eq_getElem _⟩
      have hlast : ws.getLast? = some r0 := by rw [List.getLast?_eq_getElem?, er0]
      obtain ⟨pr, epr, a0, v0, rfl, ha0, hL0⟩ := hrs.row er0
      have hl2 : rs.getLast? = some (.ref a0) := by rw [List.getLast?_eq_getElem?, hrs.len, epr]
      refine ⟨_, rfl, _, rfl, r, rs, -1, _, rfl, rfl, sq_of hr', last_at hl2, a0, _, 0, _, rfl, rfl, st_of ha0, rfl, rfl, _, rfl, ?_⟩
      rcases R.st _ _ er0 with ⟨_, e0⟩ | ⟨_, s0, e0⟩
      · exact iteNS e0 ⟨_, rfl, d, 2000, _, rfl, L.dk, by omega, ⟨by decide, by decide⟩, fun pk H5 a5 b5 e5 k5 => ⟨_, _, rfl, rfl, q' _ _ ⟨_, rfl, by omega, L.exd e5 (k5.mono (by omega))⟩⟩⟩
      · exact iteNSF (fun z => by rw [e0] at z; cases z) ⟨_, rfl, _, rfl, r, rs, -1, _, rfl, rfl, sq_of hr', last_at hl2, a0, _, 0, _, rfl, rfl, st_of ha0, rfl, q' _ _ ⟨s0, e0, R.near _ _ _ er0 e0, L.exd ExD.refl (L.dk.mono (by omega))⟩⟩
    clear L
    rintro _ H5 ⟨la, rfl, bla, L⟩
    refine seq_asg (fun v' H' => ∃ n : Int, v' = .int n ∧ (-(2000 + 1000001 * ((j + 1 : Nat) : Int)) ≤ n ∧ n ≤ 2000 + 1000001 * ((j + 1 : Nat) : Int)) ∧ Lie T.C_Realm cs p2 cells d x1 l1 x2 l2 r H (20 + 100 * j) ws ws ws H') (fun Q' q' => ?_) ?_
    · refine ⟨_, rfl, _, rfl, _, rfl, d, 400, _, rfl, L.dk, by omega, ⟨by decide, by decide⟩, fun g1 H6 a6 b6 e6 k6 => ⟨_, _, rfl, rfl, _, rfl, _, _, rfl, rfl, ⟨by decide, by decide, by decide⟩, d, _, _, rfl, k6, by omega, ⟨by decide +kernel, by decide +kernel⟩, fun g2 H7 a7 b7 e7 k7 => ⟨_, _, rfl, rfl, _, rfl, by show 5 ≤ sizeLine; decide, fun t8 n8 => ?_⟩⟩⟩
      have L8 := ((L.exd e6 k6).exd e7 k7).ex (Ex.new n8 (o := .lst [.int 1, .int (1 + g1), .int (1 + g2), .int 0, .int (-5)]))
      refine ⟨d, t8, _, _, rfl, L8.dk, by omega, upd_same, k7.ne_fresh n8, ⟨by show 0 < 5; decide, by show 5 ≤ 1000; decide⟩, fun w9 H9 mem e9 k9 => ?_⟩
      have L9 := L8.exd e9 (k9.mono (show _ ≤ 20 + 100 * j by omega))
      rw [show (10 : Int) ^ (6 : Int).toNat = 1000000 by decide +kernel] at b7
      simp only [List.mem_cons, List.not_mem_nil, or_false] at mem
      rcases mem with rfl | rfl | rfl | rfl | rfl <;> exact ⟨_, _, rfl, rfl, q' _ _ ⟨_, rfl, by omega, L9⟩⟩
    clear L bla
    rintro _ H6 ⟨n, rfl, bn, L⟩
    refine seq_asg (fun v' H' => (∃ b, NewV H' v' b) ∧ Lie T.C_Realm cs p2 cells d x1 l1 x2 l2 r H (31 + 100 * j) ws ws ws H') (fun Q' q' => ?_) ?_
    · refine ⟨_, rfl, _, rfl, d, _, rfl, L.dk, by omega, fun va H7 D1 T2 B1 S1 l7 e7 k7 => ⟨_, rfl, d, _, rfl, k7, by omega, fun vb H8 D2 T3 B2 S2 l8 e8 k8 => ⟨by show 4 ≤ sizeLine; decide, fun t9 n9 => ⟨by show 4 ≤ sizeLine; decide, fun t10 n10 => ⟨by show 5 ≤ sizeLine; decide, fun t11 n11 => ?_⟩⟩⟩⟩⟩
      have y9 := Ex.new n9 (o := .tup [.int 0, .int 0, .int 1, .int 0])
      have y10 := Ex.new n10 (o := .lst [.int 7, .int 0, .int 1, .int 0])
      have y11 := Ex.new n11 (o := .lst [va, vb, .non, .ref t9, .ref t10])
      have L11 := ((L.exd e7 k7).exd e8 k8).ex (y9.trans (y10.trans y11))
      refine ⟨d, t11, _, _, rfl, L11.dk, by omega, upd_same, (k8.ex (y9.trans y10)).ne_fresh n11, ⟨by show 0 < 5; decide, by show 5 ≤ 1000; decide⟩, fun w12 H12 mem e12 k12 => q' _ _ ⟨?_, L11.exd e12 (k12.mono (by omega))⟩⟩
      simp only [List.mem_cons, List.not_mem_nil, or_false] at mem
      rcases mem with rfl | rfl | rfl | rfl | rfl
      · exact ⟨_, .land (e12.land L11.dk ((e8.land k7 l7).ex (y9.trans (y10.trans y11))))⟩
      · exact ⟨_, .land (e12.land L11.dk (l8.ex (y9.trans (y10.trans y11))))⟩
      · exact ⟨_, .non⟩
      · exact ⟨_, .zero (e12 _ _ (k8.ne_fresh n9) ((y10.trans y11) _ _ upd_same))⟩
      · exact ⟨_, .lst (e12 _ _ ((k8.ex y9).ne_fresh n10) (y11 _ _ upd_same))⟩
    clear L
    rintro nw H7 ⟨⟨b, hnw⟩, L⟩
    refine seq_asg (fun v' H' => (v' = .str "back" ∨ ∃ t dv, v' = .ref t ∧ H' t = some (.tup [dv, nw]) ∧ DayV dv ∧ (∀ m, dv = .int m → m = n)) ∧ NewV H' nw b ∧ Lie T.C_Realm cs p2 cells d x1 l1 x2 l2 r H (32 + 100 * j) ws ws ws H') (fun Q' q' => ?_) ?_
    · refine ⟨_, rfl, _, rfl, _, rfl, by show 2 ≤ sizeLine; decide, fun t8 n8 => ⟨_, rfl, _, rfl, by show 2 ≤ sizeLine; decide, fun t9 n9 => ⟨_, rfl, _, rfl, by show 2 ≤ sizeLine; decide, fun t10 n10 => ⟨_, rfl, by show 2 ≤ sizeLine; decide, fun t11 n11 => ⟨_, rfl, by show 2 ≤ sizeLine; decide, fun t12 n12 => ⟨by show 6 ≤ sizeLine; decide, fun t13 n13 => ?_⟩⟩⟩⟩⟩⟩
      have y8 := Ex.new n8 (o := .tup [.int n, nw])
      have y9 := Ex.new n9 (o := .tup [.int n, nw])
      have y10 := Ex.new n10 (o := .tup [.int n, nw])
      have y11 := Ex.new n11 (o := .tup [.non, nw])
      have y12 := Ex.new n12 (o := .tup [.bl true, nw])
      have y13 := Ex.new n13 (o := .lst [.ref t8, .ref t9, .ref t10, .str "back", .ref t11, .ref t12])
      have f13 := y8.trans (y9.trans (y10.trans (y11.trans (y12.trans y13))))
      have L13 := L.ex f13
      refine ⟨d, t13, _, _, rfl, L13.dk, by omega, upd_same, (L.dk.ex (y8.trans (y9.trans (y10.trans (y11.trans y12))))).ne_fresh n13, ⟨by show 0 < 6; decide, by show 6 ≤ 1000; decide⟩, fun w14 H14 mem e14 k14 => q' _ _ ⟨?_, (hnw.ex f13).exd L13.dk e14, L13.exd e14 (k14.mono (by omega))⟩⟩
      have hd : DayV (.int n) := .int n (by omega)
      simp only [List.mem_cons, List.not_mem_nil, or_false] at mem
      rcases mem with rfl | rfl | rfl | rfl | rfl | rfl
      · exact .inr ⟨t8, _, rfl, e14.tup L13.dk ((y9.trans (y10.trans (y11.trans (y12.trans y13)))) _ _ upd_same), hd, fun m z => (V.int.inj z).symm⟩
      · exact .inr ⟨t9, _, rfl, e14.tup L13.dk ((y10.trans (y11.trans (y12.trans y13))) _ _ upd_same), hd, fun m z => (V.int.inj z).symm⟩
      · exact .inr ⟨t10, _, rfl, e14.tup L13.dk ((y11.trans (y12.trans y13)) _ _ upd_same), hd, fun m z => (V.int.inj z).symm⟩
      · exact .inl rfl
      · exact .inr ⟨t11, _, rfl, e14.tup L13.dk ((y12.trans y13) _ _ upd_same), .non, fun m z => by cases z⟩
      · exact .inr ⟨t12, _, rfl, e14.tup L13.dk (y13 _ _ upd_same), .bl, fun m z => by cases z⟩
    clear L hnw
    rintro dd H8 ⟨hdd, hnw, L⟩
    refine seq3 (fun σ H' => ∃ z10 z11 r ws, σ = [some (.ref a), some (.int cl), some (.ref d), some v, some (.ref x2), some (.ref r), some (.int (0 + (j : Int))), some (.int la), some (.int n), some nw, z10, z11, z12, z13, some (.ref x1)] ∧ Lie T.C_Realm cs p2 cells d x1 l1 x2 l2 r H (32 + 100 * j) ws ws ws H' ∧ Rows (2000 + 1000001 * ((j + 1 : Nat) : Int)) ws ∧ ws.length ≤ j + 2) (fun nx k => ?_) ?_
    · have R' : Rows (2000 + 1000001 * ((j + 1 : Nat) : Int)) ws := R.mono (by omega)
      have pos : 0 < ws.length := by
        obtain ⟨_, _, _, z, _⟩ := L.rl
        exact z
      rcases hdd with rfl | ⟨t, dv, rfl, ht, hdv, only⟩
      · by_cases one : ws.length = 1
        · refine ⟨_, rfl, _, rfl, r, ws, _, rfl, L.rl, R.st, .inl ⟨rfl, ret_eq (congrArg V.str (if_pos one)) fun H9 e9 => ?_⟩⟩
          have L9 := L.ex e9
          refine ⟨_, rfl, _, rfl, x1, l1, ws, _, rfl, L9.tab, L9.r1, R.st, .none_left one fun H10 dn hR => ⟨_, rfl, rfl, _, rfl, iteNS rfl ?_⟩⟩
          exact ⟨_, rfl, rfl, _, rfl, iteND (fun z => absurd (V.str.inj z) (by decide)) (k _ _ ⟨_, _, r, ws, rfl, L9.do1 dn hR, R', by omega⟩)⟩
        · refine ⟨_, rfl, _, rfl, r, ws, _, rfl, L.rl, R.st, .inl ⟨rfl, ret_eq (congrArg V.str (if_neg one)) fun H9 e9 => ?_⟩⟩
          have L9 := L.ex e9
          refine ⟨_, rfl, _, rfl, x1, l1, ws, _, rfl, L9.tab, L9.r1, R.st, .back (by omega) fun H10 dn hR => ⟨_, rfl, rfl, _, rfl, iteNS rfl ?_⟩⟩
          have L10 := L9.do1 dn hR
          obtain ⟨rs, hr10, hrs, hz⟩ := L10.rl
          refine ⟨_, rfl, rfl, _, rfl, iteD rfl ⟨_, rfl, _, _, .str _, .str _, back_shaped, back_shaped, _, rfl, iteY (by decide +kernel) ⟨_, rfl, _, rfl, -1, rfl, r, rs, rfl, sq_of hr10, fun r' nr' => ?_⟩⟩⟩
          have y11 := Ex.new nr' (o := .lst (cutV rs none (some (-1))))
          have cl : ws.dropLast.length = ws.length - 1 := List.length_dropLast ..
          have L11 := L10.rows y11 nr' (v3 := ws.dropLast) ⟨rs.dropLast, upd_same.trans (by rw [cut_last]), (hrs.ex y11).cut, by omega⟩
          obtain ⟨dx, _, hx, _⟩ := id L11.r1
          obtain ⟨dx', _, hx', _⟩ := id L11.r2
          refine ⟨_, rfl, _, rfl, x1, dx, _, rfl, hx, .inl ⟨x2, dx', _, rfl, hx'⟩, x1, l1, ws.dropLast, _, rfl, L11.r1, R.cut.st, .inr (.inl ⟨x2, l2, ws, rfl, L11.r2, R.st, by omega, fun H12 e12 => ⟨false, rfl, _, rfl, iteF ?_⟩⟩)⟩
          have L12 := L11.ex e12
          exact ⟨_, rfl, _, rfl, x2, l2, ws, _, rfl, L12.tab, L12.r2, R.st, .back (by omega) fun H13 dn' hR' => k _ _ ⟨_, _, r', ws.dropLast, rfl, L12.do2 dn' hR', R'.cut, by omega⟩⟩
      · refine ⟨_, rfl, _, rfl, r, ws, _, rfl, L.rl, R.st, .inr ⟨t, dv, nw, b, rfl, ht, hdv, hnw, fun H9 e9 => ?_⟩⟩
        have L9 := L.ex e9
        have ht9 := e9 _ _ ht
        have hnw9 := hnw.ex e9
        refine ⟨_, rfl, _, rfl, x1, l1, ws, _, rfl, L9.tab, L9.r1, R.st, .change ht9 hdv hnw9 (by omega) (fun ne H10 dn hR => ⟨_, rfl, rfl, _, rfl, iteNS rfl ?_⟩) (fun m D' T' B' S' em hL due H10 dn hR => ⟨_, rfl, rfl, _, rfl, iteNS (congrArg V.str due.symm) ?_⟩)⟩
        · exact ⟨_, rfl, rfl, _, rfl, iteND (fun z => ne (V.str.inj z)) (k _ _ ⟨_, _, r, ws, rfl, L9.do1 dn hR, R', by omega⟩)⟩
        subst em
        obtain ⟨late, rfl⟩ := due_late due
        have L10 := L9.do1 dn hR
        obtain ⟨zs1, hl1⟩ := L9.r1.list
        have ht10 := dn.ext _ _ (ne_of ht9 hl1 fun z => by cases z) ht9 (fun ps z => by cases z)
        have hL10 := hL.done hl1 dn
        obtain ⟨rs, hr10, hrs, hz⟩ := L10.rl
        obtain ⟨e, dp, sh⟩ := deed_dp (K := K) ht10 hdv (.land hL10)
        refine ⟨_, rfl, rfl, _, rfl, iteD (congrArg V.str due) ⟨_, rfl, _, _, dp, .str _, sh, back_shaped, _, rfl, iteN (by simp [PyData.eqv]) ⟨_, rfl, _, rfl, by show 1 ≤ sizeLine; decide, fun t11 n11 => ?_⟩⟩⟩
        have y11 := Ex.new n11 (o := .lst [.ref t])
        refine ⟨r, t11, rs, _, rfl, rfl, sq_of (y11 _ _ hr10), sq_of upd_same, ?_, fun r' nr' => ?_⟩
        · rw [hrs.len]
          exact sz_of (by show ws.length + 1 ≤ 100000; omega)
        have y12 := Ex.new nr' (o := .lst (rs ++ [.ref t]))
        have cl : (ws ++ [(⟨.int m, D', T', B', S'⟩ : Row)]).length = ws.length + 1 := by simp
        have L12 := (L10.ex y11).rows y12 nr' (v3 := ws ++ [⟨.int m, D', T', B', S'⟩]) ⟨_, upd_same, (hrs.ex (y11.trans y12)).snoc ⟨t, nw, rfl, (y11.trans y12) _ _ ht10, hL10.ex (y11.trans y12)⟩, by omega⟩
        have Rn := R.snoc pos (D := D') (T := T') (B := B') (S := S') late (b' := 2000 + 1000001 * ((j + 1 : Nat) : Int)) (by omega) (by rw [only m rfl]; exact bn)
        obtain ⟨dx, _, hx, _⟩ := id L12.r1
        obtain ⟨dx', _, hx', _⟩ := id L12.r2
        refine ⟨_, rfl, _, rfl, x1, dx, _, rfl, hx, .inl ⟨x2, dx', _, rfl, hx'⟩, x1, l1, _, _, rfl, L12.r1, Rn.st, .inr (.inl ⟨x2, l2, ws, rfl, L12.r2, R.st, by omega, fun H13 e13 => ⟨false, rfl, _, rfl, iteF ?_⟩⟩)⟩
        have L13 := L12.ex e13
        have hL13 := (hL10.ex (y11.trans y12)).ex e13
        refine ⟨_, rfl, _, rfl, x2, l2, ws, _, rfl, L13.tab, L13.r2, R.st, .change (e13 _ _ ((y11.trans y12) _ _ ht10)) hdv (.land hL13) (by omega) (fun ne => absurd due ne) fun m' D2 T2 B2 S2 em hL' _ H14 dn' hR' => ?_⟩
        cases em
        obtain ⟨rfl, rfl, rfl, rfl⟩ := hL13.only hL'
        exact k _ _ ⟨_, _, r', _, rfl, L13.do2 dn' hR', Rn, by omega⟩
    clear L hnw hdd R len
    rintro σ H9 ⟨z10', z11', r, ws, rfl, L, R, len⟩
    obtain ⟨dx, rs1, hx1, _⟩ := id L.r1
    refine ⟨_, rfl, x1, dx, _, rfl, hx1, rfl, x1, l1, ws, rfl, L.r1, fun tl ts H10 ntl e10 htl hts => ?_⟩
    have L10 := L.ex e10
    obtain ⟨rs, hr10, hrs, hz⟩ := id L10.rl
    refine ⟨_, rfl, _, rfl, .ref tl, .ref r, rfl, rows_sm htl hr10 hts hrs R.st hz.2, fun H11 e11 => ⟨_, rfl, iteF ?_⟩⟩
    have L11 := L10.ex e11
    have hx11 := (e10.trans e11) _ _ hx1
    refine ⟨_, rfl, x1, dx, _, rfl, hx11, x1, l1, ws, rfl, L11.r1, fun H12 e12 => ⟨ws.length, rfl, sz_of (by omega), _, rfl, r, rs, rfl, .inl (sq_of ((e11.trans e12) _ _ hr10)), rfl, _, rfl, iteNS (by rw [hrs.len]) ?_⟩⟩
    have L12 := L11.ex e12
    obtain ⟨dx', _, hx12', _⟩ := id L12.r2
    refine ⟨_, rfl, _, rfl, x1, dx, _, rfl, e12 _ _ hx11, .inl ⟨x2, dx', _, rfl, hx12'⟩, x1, l1, ws, _, rfl, L12.r1, R.st, .inl ⟨x2, l2, rfl, L12.r2, fun H13 e13 => ⟨true, rfl, _, rfl, iteF ?_⟩⟩⟩
    have L13 := L12.ex e13
    have hr13 := (e11.trans (e12.trans e13)) _ _ hr10
    refine ⟨_, rfl, _, rfl, x1, dx, _, rfl, (e12.trans e13) _ _ hx11, .inr ⟨r, rs, rfl, hr13⟩, x1, l1, ws, _, rfl, L13.r1, R.st, .inr (.inr ⟨r, rs, rfl, hr13, fun H14 e14 => ⟨false, rfl, _, rfl, iteF ?_⟩⟩)⟩
    have e15 := e11.trans (e12.trans (e13.trans e14))
    have htl14 := e15 _ _ htl
    refine ⟨_, rfl, .inl ⟨rfl, _, sq_of htl14⟩, tl, ts, _, rfl, rfl, htl14, ?_, ?_⟩
    · rw [hts.len]
      exact Nat.lt_of_lt_of_le (show ws.length < 1000 by omega) (by decide)
    have L15 := L.ex (ex_own ntl (e10.trans e15) (o := .lst (ts ++ [.int 1])))
    clear L L10 L11 L12 L13 hx1 hx11 hr10 hrs hr13 hts htl htl14 e10 e11 e12 e13 e14 e15 hx12' ntl
    by_cases five : (0 + (j : Int)) % 5 = 4
    · refine ⟨_, rfl, _, _, rfl, rfl, by show (0 : Int) < 5; decide, rfl, _, rfl, iteD (congrArg V.int five) ⟨_, rfl, _, rfl, _, rfl, d, x1, l1, r, ws, _, rfl, L15.dk, by omega, L15.r1, L15.rl, L15.ld.1, L15.rd.1, R.st, R.up, R.near8 (by omega), by omega, fun H16 e16 k16 => ⟨_, rfl, iteF ?_⟩⟩⟩
      exact ⟨_, _, _, _, _, _, _, _, r, ws, rfl, L15.exd e16 (k16.mono (by omega)), R, len⟩
    · exact ⟨_, rfl, _, _, rfl, rfl, by show (0 : Int) < 5; decide, rfl, _, rfl, iteND (fun z => five (V.int.inj z)) (iteF ⟨_, _, _, _, _, _, _, _, r, ws, rfl, L15.exd ExD.refl (L15.dk.mono (by omega)), R, len⟩)⟩
  rintro σ H4 ⟨z6, z7, z8, z9, z10, z11, z12, z13, r, ws, rfl, L, R, len⟩
  have s4 := L.stay
  obtain ⟨dx, _, hx4, _⟩ := id L.r1
  clear L R len lie
  refine ⟨_, _, rfl, rfl, ⟨by decide, by decide, by decide⟩, _, _, rfl, rfl, by show 4 ≤ sizeLine; decide, fun p5 n5 => ⟨p5, rfl, ⟨_, sq_of upd_same⟩, ?_⟩⟩
  have y5 := Ex.new n5 (o := .lst [.non, .bl true, .int ((10 : Int) ^ (30 : Int).toNat + 1), .str "1"])
  refine for_list (xs := [.non, .bl true, .int ((10 : Int) ^ (30 : Int).toNat + 1), .str "1"]) (fun i σ H' => (∃ z13, σ = [some (.ref a), some (.int cl), some (.ref d), some v, some (.ref x2), some (.ref r), z6, z7, z8, z9, z10, z11, z12, z13, some (.ref x1)]) ∧ Stay cs p2 cells H H' ∧ Stay cs p5 [.non, .bl true, .int ((10 : Int) ^ (30 : Int).toNat + 1), .str "1"] H4 H') ⟨⟨_, rfl⟩, s4.ex y5, upd_same, LamX.ExtN.of y5, (s4.ex y5).tab⟩ (fun i σ H' _ h => sq_of h.2.2.lst) ?_ ?_
  · clear y5
    rintro j x σ H6 hx ⟨⟨z, rfl⟩, s6, r6⟩
    have bad : ∀ {H' : Hp}, Bad H' x (-1000000000000000000000000000000) 1000000000000000000000000000000 := fun {H'} => by
      have mem := List.mem_of_getElem? hx
      simp only [List.mem_cons, List.not_mem_nil, or_false] at mem
      rcases mem with rfl | rfl | rfl | rfl
      · exact ⟨_, .non, rfl⟩
      · exact ⟨_, .bl true, rfl⟩
      · rw [show (10 : Int) ^ (30 : Int).toNat + 1 = 1000000000000000000000000000001 by decide +kernel]
        exact bad_num (by omega)
      · exact ⟨_, .str _, rfl⟩
    refine ⟨s6.tab, fun H7 e7 t7 E1 Q1 caught given => ⟨_, rfl, x1, dx, _, rfl, (r6.extN e7 t7).ext _ _ hx4 (fun ps z => by cases z), rfl, _, rfl, .ref x1, x, rfl, bad, fun H8 e8 => caught _ _ _ (caught_says (says_NoDay T) fun H9 e9 => ⟨rfl, _, rfl, iteNS rfl ?_⟩)⟩⟩
    have s9 := (s6.extN e7 t7).ex (e8.trans e9)
    have r9 := (r6.extN e7 t7).ex (e8.trans e9)
    clear s6 r6 e7 t7 e8 e9 caught given
    refine ⟨s9.tab, fun H10 e10 t10 E2 Q2 caught given => ⟨_, rfl, x1, dx, _, rfl, (r9.extN e10 t10).ext _ _ hx4 (fun ps z => by cases z), rfl, _, rfl, .ref x1, x, .non, rfl, .inl ⟨bad, fun H11 e11 => caught _ _ _ (caught_says (says_NoYear T) fun H12 e12 => ⟨rfl, _, rfl, iteNS rfl ?_⟩)⟩⟩⟩
    exact ⟨⟨_, rfl⟩, (s9.extN e10 t10).ex (e11.trans e12), (r9.extN e10 t10).ex (e11.trans e12)⟩
  rintro σ H6 ⟨⟨z, rfl⟩, s6, r6⟩
  have hx6 := r6.ext _ _ hx4 (fun ps z => by cases z)
  clear s4 hx4 r6 y5 n5
  refine ⟨_, rfl, by show 4 ≤ sizeLine; decide, fun p7 n7 => ⟨p7, rfl, ⟨_, sq_of upd_same⟩, ?_⟩⟩
  have y7 := Ex.new n7 (o := .lst [.non, .bl true, .int (-1), .int 401])
  refine for_list (xs := [.non, .bl true, .int (-1), .int 401]) (fun i σ H' => (∃ z13, σ = [some (.ref a), some (.int cl), some (.ref d), some v, some (.ref x2), some (.ref r), z6, z7, z8, z9, z10, z11, z12, z13, some (.ref x1)]) ∧ Stay cs p2 cells H H' ∧ Stay cs p7 [.non, .bl true, .int (-1), .int 401] H6 H') ⟨⟨_, rfl⟩, s6.ex y7, upd_same, LamX.ExtN.of y7, (s6.ex y7).tab⟩ (fun i σ H' _ h => sq_of h.2.2.lst) ?_ ?_
  · clear y7
    rintro j x σ H8 hx ⟨⟨z, rfl⟩, s8, r8⟩
    have bad : ∀ {H' : Hp}, Bad H' x 0 400 := fun {H'} => by
      have mem := List.mem_of_getElem? hx
      simp only [List.mem_cons, List.not_mem_nil, or_false] at mem
      rcases mem with rfl | rfl | rfl | rfl
      · exact ⟨_, .non, rfl⟩
      · exact ⟨_, .bl true, rfl⟩
      · exact bad_num (by omega)
      · exact bad_num (by omega)
    refine ⟨s8.tab, fun H9 e9 t9 E1 Q1 caught given => ⟨_, rfl, x1, dx, _, rfl, (r8.extN e9 t9).ext _ _ hx6 (fun ps z => by cases z), rfl, _, rfl, .ref x1, .int 0, x, rfl, .inr ⟨0, rfl, ⟨by omega, by omega⟩, bad, fun H10 e10 => caught _ _ _ (caught_says (says_NoPlace T) fun H11 e11 => ⟨rfl, _, rfl, iteNS rfl ?_⟩)⟩⟩⟩
    exact ⟨⟨_, rfl⟩, (s8.extN e9 t9).ex (e10.trans e11), (r8.extN e9 t9).ex (e10.trans e11)⟩
  rintro σ H8 ⟨⟨z, rfl⟩, s8, _⟩
  exact ⟨⟨_, _, _, _, _, _, _, _, _, _, _, _, _, _, rfl⟩, s8⟩
end

theorem all_mk {l : PySem.W.OpenLaw} {w : World} {K : PySem.W.Frag} {h : Heap} {mg : Str → Option Value} {fa : Addr} (X : K.In h) (G : h.Ns mainGlobals mg) (hfa : mg "law" = some (.ref fa))
    {f0 : Addr} {od0 an0 : Option Addr} {sl0 : Array (Option Value)} {oc0 kV0 dc0 pm0 cd0 ct0 : Value}
    (ya0 : PySem.W.nsIn K mainGlobals "is_whole" = some (some (.ref f0))) (yl0 : K.lookup f0 = some ⟨oc0, od0, .func (PySem.W.fnOf "is_whole" "is_whole" (defArgs s_is_whole) (defBody s_is_whole) (defScope s_is_whole) .none kV0 dc0 pm0 an0 cd0 ct0), sl0⟩) (yc0 : PySem.W.codeIn K cd0 "is_whole" = true) (yk0 : PySem.W.keepIn K (.ref f0) = true)
    {f1 : Addr} {od1 an1 : Option Addr} {sl1 : Array (Option Value)} {oc1 kV1 dc1 pm1 cd1 ct1 : Value}
    (ya1 : PySem.W.nsIn K mainGlobals "is_between" = some (some (.ref f1))) (yl1 : K.lookup f1 = some ⟨oc1, od1, .func (PySem.W.fnOf "is_between" "is_between" (defArgs s_is_between) (defBody s_is_between) (defScope s_is_between) .none kV1 dc1 pm1 an1 cd1 ct1), sl1⟩) (yc1 : PySem.W.codeIn K cd1 "is_between" = true) (yk1 : PySem.W.keepIn K (.ref f1) = true)
    {f2 : Addr} {od2 an2 : Option Addr} {sl2 : Array (Option Value)} {oc2 kV2 dc2 pm2 cd2 ct2 : Value}
    (ya2 : PySem.W.nsIn K mainGlobals "is_land" = some (some (.ref f2))) (yl2 : K.lookup f2 = some ⟨oc2, od2, .func (PySem.W.fnOf "is_land" "is_land" (defArgs s_is_land) (defBody s_is_land) (defScope s_is_land) .none kV2 dc2 pm2 an2 cd2 ct2), sl2⟩) (yc2 : PySem.W.codeIn K cd2 "is_land" = true) (yk2 : PySem.W.keepIn K (.ref f2) = true)
    {f3 : Addr} {od3 an3 : Option Addr} {sl3 : Array (Option Value)} {oc3 kV3 dc3 pm3 cd3 ct3 : Value}
    (ya3 : PySem.W.nsIn K mainGlobals "need_land" = some (some (.ref f3))) (yl3 : K.lookup f3 = some ⟨oc3, od3, .func (PySem.W.fnOf "need_land" "need_land" (defArgs s_need_land) (defBody s_need_land) (defScope s_need_land) .none kV3 dc3 pm3 an3 cd3 ct3), sl3⟩) (yc3 : PySem.W.codeIn K cd3 "need_land" = true) (yk3 : PySem.W.keepIn K (.ref f3) = true)
    {f4 : Addr} {od4 an4 : Option Addr} {sl4 : Array (Option Value)} {oc4 kV4 dc4 pm4 cd4 ct4 : Value}
    (ya4 : PySem.W.nsIn K mainGlobals "need_year" = some (some (.ref f4))) (yl4 : K.lookup f4 = some ⟨oc4, od4, .func (PySem.W.fnOf "need_year" "need_year" (defArgs s_need_year) (defBody s_need_year) (defScope s_need_year) .none kV4 dc4 pm4 an4 cd4 ct4), sl4⟩) (yc4 : PySem.W.codeIn K cd4 "need_year" = true) (yk4 : PySem.W.keepIn K (.ref f4) = true)
    {f5 : Addr} {od5 an5 : Option Addr} {sl5 : Array (Option Value)} {oc5 kV5 dc5 pm5 cd5 ct5 : Value}
    (ya5 : PySem.W.nsIn K mainGlobals "need_day" = some (some (.ref f5))) (yl5 : K.lookup f5 = some ⟨oc5, od5, .func (PySem.W.fnOf "need_day" "need_day" (defArgs s_need_day) (defBody s_need_day) (defScope s_need_day) .none kV5 dc5 pm5 an5 cd5 ct5), sl5⟩) (yc5 : PySem.W.codeIn K cd5 "need_day" = true) (yk5 : PySem.W.keepIn K (.ref f5) = true)
    {f6 : Addr} {od6 an6 : Option Addr} {sl6 : Array (Option Value)} {oc6 kV6 dc6 pm6 cd6 ct6 : Value}
    (ya6 : PySem.W.nsIn K mainGlobals "step_of" = some (some (.ref f6))) (yl6 : K.lookup f6 = some ⟨oc6, od6, .func (PySem.W.fnOf "step_of" "step_of" (defArgs s_step_of) (defBody s_step_of) (defScope s_step_of) .none kV6 dc6 pm6 an6 cd6 ct6), sl6⟩) (yc6 : PySem.W.codeIn K cd6 "step_of" = true) (yk6 : PySem.W.keepIn K (.ref f6) = true)
    {f7 : Addr} {od7 an7 : Option Addr} {sl7 : Array (Option Value)} {oc7 kV7 dc7 pm7 cd7 ct7 : Value}
    (ya7 : PySem.W.nsIn K mainGlobals "first_day" = some (some (.ref f7))) (yl7 : K.lookup f7 = some ⟨oc7, od7, .func (PySem.W.fnOf "first_day" "first_day" (defArgs s_first_day) (defBody s_first_day) (defScope s_first_day) .none kV7 dc7 pm7 an7 cd7 ct7), sl7⟩) (yc7 : PySem.W.codeIn K cd7 "first_day" = true) (yk7 : PySem.W.keepIn K (.ref f7) = true)
    {f8 : Addr} {od8 an8 : Option Addr} {sl8 : Array (Option Value)} {oc8 kV8 dc8 pm8 cd8 ct8 : Value}
    (ya8 : PySem.W.nsIn K mainGlobals "date_of" = some (some (.ref f8))) (yl8 : K.lookup f8 = some ⟨oc8, od8, .func (PySem.W.fnOf "date_of" "date_of" (defArgs s_date_of) (defBody s_date_of) (defScope s_date_of) .none kV8 dc8 pm8 an8 cd8 ct8), sl8⟩) (yc8 : PySem.W.codeIn K cd8 "date_of" = true) (yk8 : PySem.W.keepIn K (.ref f8) = true)
    {f9 : Addr} {od9 an9 : Option Addr} {sl9 : Array (Option Value)} {oc9 kV9 dc9 pm9 cd9 ct9 : Value}
    (ya9 : PySem.W.nsIn K mainGlobals "need_realm_place" = some (some (.ref f9))) (yl9 : K.lookup f9 = some ⟨oc9, od9, .func (PySem.W.fnOf "need_realm_place" "need_realm_place" (defArgs s_need_realm_place) (defBody s_need_realm_place) (defScope s_need_realm_place) .none kV9 dc9 pm9 an9 cd9 ct9), sl9⟩) (yc9 : PySem.W.codeIn K cd9 "need_realm_place" = true) (yk9 : PySem.W.keepIn K (.ref f9) = true)
    {f10 : Addr} {od10 an10 : Option Addr} {sl10 : Array (Option Value)} {oc10 kV10 dc10 pm10 cd10 ct10 : Value}
    (ya10 : PySem.W.nsIn K mainGlobals "_law_deck" = some (some (.ref f10))) (yl10 : K.lookup f10 = some ⟨oc10, od10, .func (PySem.W.fnOf "_law_deck" "_law_deck" (defArgs s__law_deck) (defBody s__law_deck) (defScope s__law_deck) .none kV10 dc10 pm10 an10 cd10 ct10), sl10⟩) (yc10 : PySem.W.codeIn K cd10 "_law_deck" = true) (yk10 : PySem.W.keepIn K (.ref f10) = true)
    {f11 : Addr} {od11 an11 : Option Addr} {sl11 : Array (Option Value)} {oc11 kV11 dc11 pm11 cd11 ct11 : Value}
    (ya11 : PySem.W.nsIn K mainGlobals "_law_pick" = some (some (.ref f11))) (yl11 : K.lookup f11 = some ⟨oc11, od11, .func (PySem.W.fnOf "_law_pick" "_law_pick" (defArgs s__law_pick) (defBody s__law_pick) (defScope s__law_pick) .none kV11 dc11 pm11 an11 cd11 ct11), sl11⟩) (yc11 : PySem.W.codeIn K cd11 "_law_pick" = true) (yk11 : PySem.W.keepIn K (.ref f11) = true)
    {f12 : Addr} {od12 an12 : Option Addr} {sl12 : Array (Option Value)} {oc12 kV12 dc12 pm12 cd12 ct12 : Value}
    (ya12 : PySem.W.nsIn K mainGlobals "_law_whole" = some (some (.ref f12))) (yl12 : K.lookup f12 = some ⟨oc12, od12, .func (PySem.W.fnOf "_law_whole" "_law_whole" (defArgs s__law_whole) (defBody s__law_whole) (defScope s__law_whole) .none kV12 dc12 pm12 an12 cd12 ct12), sl12⟩) (yc12 : PySem.W.codeIn K cd12 "_law_whole" = true) (yk12 : PySem.W.keepIn K (.ref f12) = true)
    {f13 : Addr} {od13 an13 : Option Addr} {sl13 : Array (Option Value)} {oc13 kV13 dc13 pm13 cd13 ct13 : Value}
    (ya13 : PySem.W.nsIn K mainGlobals "_law_one" = some (some (.ref f13))) (yl13 : K.lookup f13 = some ⟨oc13, od13, .func (PySem.W.fnOf "_law_one" "_law_one" (defArgs s__law_one) (defBody s__law_one) (defScope s__law_one) .none kV13 dc13 pm13 an13 cd13 ct13), sl13⟩) (yc13 : PySem.W.codeIn K cd13 "_law_one" = true) (yk13 : PySem.W.keepIn K (.ref f13) = true)
    {f14 : Addr} {od14 an14 : Option Addr} {sl14 : Array (Option Value)} {oc14 kV14 dc14 pm14 cd14 ct14 : Value}
    (ya14 : PySem.W.nsIn K mainGlobals "_law_kin" = some (some (.ref f14))) (yl14 : K.lookup f14 = some ⟨oc14, od14, .func (PySem.W.fnOf "_law_kin" "_law_kin" (defArgs s__law_kin) (defBody s__law_kin) (defScope s__law_kin) .none kV14 dc14 pm14 an14 cd14 ct14), sl14⟩) (yc14 : PySem.W.codeIn K cd14 "_law_kin" = true) (yk14 : PySem.W.keepIn K (.ref f14) = true)
    {f15 : Addr} {od15 an15 : Option Addr} {sl15 : Array (Option Value)} {oc15 kV15 dc15 pm15 cd15 ct15 : Value}
    (ya15 : PySem.W.nsIn K mainGlobals "_law_try" = some (some (.ref f15))) (yl15 : K.lookup f15 = some ⟨oc15, od15, .func (PySem.W.fnOf "_law_try" "_law_try" (defArgs s__law_try) (defBody s__law_try) (defScope s__law_try) .none kV15 dc15 pm15 an15 cd15 ct15), sl15⟩) (yc15 : PySem.W.codeIn K cd15 "_law_try" = true) (yk15 : PySem.W.keepIn K (.ref f15) = true)
    {f16 : Addr} {od16 an16 : Option Addr} {sl16 : Array (Option Value)} {oc16 kV16 dc16 pm16 cd16 ct16 : Value}
    (ya16 : PySem.W.nsIn K mainGlobals "_law_sort" = some (some (.ref f16))) (yl16 : K.lookup f16 = some ⟨oc16, od16, .func (PySem.W.fnOf "_law_sort" "_law_sort" (defArgs s__law_sort) (defBody s__law_sort) (defScope s__law_sort) .none kV16 dc16 pm16 an16 cd16 ct16), sl16⟩) (yc16 : PySem.W.codeIn K cd16 "_law_sort" = true) (yk16 : PySem.W.keepIn K (.ref f16) = true)
    {f17 : Addr} {od17 an17 : Option Addr} {sl17 : Array (Option Value)} {oc17 kV17 dc17 pm17 cd17 ct17 : Value}
    (ya17 : PySem.W.nsIn K mainGlobals "_law_same" = some (some (.ref f17))) (yl17 : K.lookup f17 = some ⟨oc17, od17, .func (PySem.W.fnOf "_law_same" "_law_same" (defArgs s__law_same) (defBody s__law_same) (defScope s__law_same) .none kV17 dc17 pm17 an17 cd17 ct17), sl17⟩) (yc17 : PySem.W.codeIn K cd17 "_law_same" = true) (yk17 : PySem.W.keepIn K (.ref f17) = true)
    {f18 : Addr} {od18 an18 : Option Addr} {sl18 : Array (Option Value)} {oc18 kV18 dc18 pm18 cd18 ct18 : Value}
    (ya18 : PySem.W.nsIn K mainGlobals "_law_land" = some (some (.ref f18))) (yl18 : K.lookup f18 = some ⟨oc18, od18, .func (PySem.W.fnOf "_law_land" "_law_land" (defArgs s__law_land) (defBody s__law_land) (defScope s__law_land) .none kV18 dc18 pm18 an18 cd18 ct18), sl18⟩) (yc18 : PySem.W.codeIn K cd18 "_law_land" = true) (yk18 : PySem.W.keepIn K (.ref f18) = true)
    {f19 : Addr} {od19 an19 : Option Addr} {sl19 : Array (Option Value)} {oc19 kV19 dc19 pm19 cd19 ct19 : Value}
    (ya19 : PySem.W.nsIn K mainGlobals "_law_any" = some (some (.ref f19))) (yl19 : K.lookup f19 = some ⟨oc19, od19, .func (PySem.W.fnOf "_law_any" "_law_any" (defArgs s__law_any) (defBody s__law_any) (defScope s__law_any) .none kV19 dc19 pm19 an19 cd19 ct19), sl19⟩) (yc19 : PySem.W.codeIn K cd19 "_law_any" = true) (yk19 : PySem.W.keepIn K (.ref f19) = true)
    {f20 : Addr} {od20 an20 : Option Addr} {sl20 : Array (Option Value)} {oc20 kV20 dc20 pm20 cd20 ct20 : Value}
    (ya20 : PySem.W.nsIn K mainGlobals "_law_begin" = some (some (.ref f20))) (yl20 : K.lookup f20 = some ⟨oc20, od20, .func (PySem.W.fnOf "_law_begin" "_law_begin" (defArgs s__law_begin) (defBody s__law_begin) (defScope s__law_begin) .none kV20 dc20 pm20 an20 cd20 ct20), sl20⟩) (yc20 : PySem.W.codeIn K cd20 "_law_begin" = true) (yk20 : PySem.W.keepIn K (.ref f20) = true)
    {f21 : Addr} {od21 an21 : Option Addr} {sl21 : Array (Option Value)} {oc21 kV21 dc21 pm21 cd21 ct21 : Value}
    (ya21 : PySem.W.nsIn K mainGlobals "_law_length" = some (some (.ref f21))) (yl21 : K.lookup f21 = some ⟨oc21, od21, .func (PySem.W.fnOf "_law_length" "_law_length" (defArgs s__law_length) (defBody s__law_length) (defScope s__law_length) .none kV21 dc21 pm21 an21 cd21 ct21), sl21⟩) (yc21 : PySem.W.codeIn K cd21 "_law_length" = true) (yk21 : PySem.W.keepIn K (.ref f21) = true)
    {f22 : Addr} {od22 an22 : Option Addr} {sl22 : Array (Option Value)} {oc22 kV22 dc22 pm22 cd22 ct22 : Value}
    (ya22 : PySem.W.nsIn K mainGlobals "_law_far" = some (some (.ref f22))) (yl22 : K.lookup f22 = some ⟨oc22, od22, .func (PySem.W.fnOf "_law_far" "_law_far" (defArgs s__law_far) (defBody s__law_far) (defScope s__law_far) .none kV22 dc22 pm22 an22 cd22 ct22), sl22⟩) (yc22 : PySem.W.codeIn K cd22 "_law_far" = true) (yk22 : PySem.W.keepIn K (.ref f22) = true)
    {f23 : Addr} {od23 an23 : Option Addr} {sl23 : Array (Option Value)} {oc23 kV23 dc23 pm23 cd23 ct23 : Value}
    (ya23 : PySem.W.nsIn K mainGlobals "_law_step" = some (some (.ref f23))) (yl23 : K.lookup f23 = some ⟨oc23, od23, .func (PySem.W.fnOf "_law_step" "_law_step" (defArgs s__law_step) (defBody s__law_step) (defScope s__law_step) .none kV23 dc23 pm23 an23 cd23 ct23), sl23⟩) (yc23 : PySem.W.codeIn K cd23 "_law_step" = true) (yk23 : PySem.W.keepIn K (.ref f23) = true)
    {f24 : Addr} {od24 an24 : Option Addr} {sl24 : Array (Option Value)} {oc24 kV24 dc24 pm24 cd24 ct24 : Value}
    (ya24 : PySem.W.nsIn K mainGlobals "_law_of" = some (some (.ref f24))) (yl24 : K.lookup f24 = some ⟨oc24, od24, .func (PySem.W.fnOf "_law_of" "_law_of" (defArgs s__law_of) (defBody s__law_of) (defScope s__law_of) .none kV24 dc24 pm24 an24 cd24 ct24), sl24⟩) (yc24 : PySem.W.codeIn K cd24 "_law_of" = true) (yk24 : PySem.W.keepIn K (.ref f24) = true)
    {f25 : Addr} {od25 an25 : Option Addr} {sl25 : Array (Option Value)} {oc25 kV25 dc25 pm25 cd25 ct25 : Value}
    (ya25 : PySem.W.nsIn K mainGlobals "_law_dated" = some (some (.ref f25))) (yl25 : K.lookup f25 = some ⟨oc25, od25, .func (PySem.W.fnOf "_law_dated" "_law_dated" (defArgs s__law_dated) (defBody s__law_dated) (defScope s__law_dated) .none kV25 dc25 pm25 an25 cd25 ct25), sl25⟩) (yc25 : PySem.W.codeIn K cd25 "_law_dated" = true) (yk25 : PySem.W.keepIn K (.ref f25) = true)
    {f26 : Addr} {od26 an26 : Option Addr} {sl26 : Array (Option Value)} {oc26 kV26 dc26 pm26 cd26 ct26 : Value}
    (ya26 : PySem.W.nsIn K mainGlobals "_law_days_right" = some (some (.ref f26))) (yl26 : K.lookup f26 = some ⟨oc26, od26, .func (PySem.W.fnOf "_law_days_right" "_law_days_right" (defArgs s__law_days_right) (defBody s__law_days_right) (defScope s__law_days_right) .none kV26 dc26 pm26 an26 cd26 ct26), sl26⟩) (yc26 : PySem.W.codeIn K cd26 "_law_days_right" = true) (yk26 : PySem.W.keepIn K (.ref f26) = true)
    {f27 : Addr} {od27 an27 : Option Addr} {sl27 : Array (Option Value)} {oc27 kV27 dc27 pm27 cd27 ct27 : Value}
    (ya27 : PySem.W.nsIn K mainGlobals "_law_do" = some (some (.ref f27))) (yl27 : K.lookup f27 = some ⟨oc27, od27, .func (PySem.W.fnOf "_law_do" "_law_do" (defArgs s__law_do) (defBody s__law_do) (defScope s__law_do) .none kV27 dc27 pm27 an27 cd27 ct27), sl27⟩) (yc27 : PySem.W.codeIn K cd27 "_law_do" = true) (yk27 : PySem.W.keepIn K (.ref f27) = true)
    {f28 : Addr} {od28 an28 : Option Addr} {sl28 : Array (Option Value)} {oc28 kV28 dc28 pm28 cd28 ct28 : Value}
    (ya28 : PySem.W.nsIn K mainGlobals "_law_due" = some (some (.ref f28))) (yl28 : K.lookup f28 = some ⟨oc28, od28, .func (PySem.W.fnOf "_law_due" "_law_due" (defArgs s__law_due) (defBody s__law_due) (defScope s__law_due) .none kV28 dc28 pm28 an28 cd28 ct28), sl28⟩) (yc28 : PySem.W.codeIn K cd28 "_law_due" = true) (yk28 : PySem.W.keepIn K (.ref f28) = true)
    {f29 : Addr} {od29 an29 : Option Addr} {sl29 : Array (Option Value)} {oc29 kV29 dc29 pm29 cd29 ct29 : Value}
    (ya29 : PySem.W.nsIn K mainGlobals "law" = some (some (.ref f29))) (yl29 : K.lookup f29 = some ⟨oc29, od29, .func (PySem.W.fnOf "law" "law" (defArgs s_law) (defBody s_law) (defScope s_law) .none kV29 dc29 pm29 an29 cd29 ct29), sl29⟩) (yc29 : PySem.W.codeIn K cd29 "law" = true) (yk29 : PySem.W.keepIn K (.ref f29) = true)
    {tk0 : Tok} (ycst0 : PySem.W.nsIn K mainGlobals "MOST_DAYS" = some (some (.int 400 tk0)))
    {tk1 : Tok} (ycst1 : PySem.W.nsIn K mainGlobals "MOST_BOTTOM" = some (some (.int 60 tk1)))
    {tk2 : Tok} (ycst2 : PySem.W.nsIn K mainGlobals "MOST_SHIFT" = some (some (.int 1000000 tk2)))
    {tk3 : Tok} (ycst3 : PySem.W.nsIn K mainGlobals "FARTHEST" = some (some (.int 1000000000000000000000000000000 tk3)))
    (yz0 : PySem.W.nsIn K mainGlobals "isinstance" = some none)
    (yz1 : PySem.W.nsIn K mainGlobals "int" = some none)
    (yz2 : PySem.W.nsIn K mainGlobals "bool" = some none)
    (yz3 : PySem.W.nsIn K mainGlobals "tuple" = some none)
    (yz4 : PySem.W.nsIn K mainGlobals "len" = some none)
    (yz5 : PySem.W.nsIn K mainGlobals "ValueError" = some none)
    (yz6 : PySem.W.nsIn K mainGlobals "zip" = some none)
    (yz7 : PySem.W.nsIn K mainGlobals "str" = some none)
    (yz8 : PySem.W.nsIn K mainGlobals "list" = some none)
    (yz9 : PySem.W.nsIn K mainGlobals "enumerate" = some none)
    (yz10 : PySem.W.nsIn K mainGlobals "sorted" = some none)
    (yz11 : PySem.W.nsIn K mainGlobals "set" = some none)
    (yz12 : PySem.W.nsIn K mainGlobals "abs" = some none)
    (yz13 : PySem.W.nsIn K mainGlobals "range" = some none)
    {C_Realm : Addr} (yC_Realm : PySem.W.nsIn K mainGlobals "Realm" = some (some (.ref C_Realm))) (ypg_Realm : PySem.W.plainGet K C_Realm Str.empty = true) (yhd_Realm : PySem.W.hasDictIn K C_Realm = true) (ypo_Realm : PySem.W.plainOver K C_Realm = true) (ysa_Realm : PySem.W.findIn K (.ref C_Realm) "__setattr__" = some (some (.builtin "object.__setattr__"))) (ymk_Realm : PySem.W.makesIn K C_Realm = true) (ykc_Realm : PySem.W.keepIn K (.ref C_Realm) = true)
    (ynf_Realm_pairs : PySem.W.findIn K (.ref C_Realm) "pairs" = some none)
    {fM_Realm_init : Addr} {odM_Realm_init anM_Realm_init : Option Addr} {slM_Realm_init : Array (Option Value)} {ocM_Realm_init kVM_Realm_init dcM_Realm_init pmM_Realm_init cdM_Realm_init ctM_Realm_init : Value}
    (yma_Realm_init : PySem.W.findIn K (.ref C_Realm) "__init__" = some (some (.ref fM_Realm_init))) (ymi_Realm_init : PySem.W.isFn K (.ref fM_Realm_init) = true) (yml_Realm_init : K.lookup fM_Realm_init = some ⟨ocM_Realm_init, odM_Realm_init, .func (PySem.W.fnOf "__init__" "Realm.__init__" (defArgs s_Realm_init) (defBody s_Realm_init) (defScope s_Realm_init) .none kVM_Realm_init dcM_Realm_init pmM_Realm_init anM_Realm_init cdM_Realm_init ctM_Realm_init), slM_Realm_init⟩) (ymc_Realm_init : PySem.W.codeIn K cdM_Realm_init "Realm.__init__" = true) (ymk_Realm_init : PySem.W.keepIn K (.ref fM_Realm_init) = true)
    {fM_Realm_change : Addr} {odM_Realm_change anM_Realm_change : Option Addr} {slM_Realm_change : Array (Option Value)} {ocM_Realm_change kVM_Realm_change dcM_Realm_change pmM_Realm_change cdM_Realm_change ctM_Realm_change : Value}
    (yma_Realm_change : PySem.W.findIn K (.ref C_Realm) "change" = some (some (.ref fM_Realm_change))) (ymi_Realm_change : PySem.W.isFn K (.ref fM_Realm_change) = true) (yml_Realm_change : K.lookup fM_Realm_change = some ⟨ocM_Realm_change, odM_Realm_change, .func (PySem.W.fnOf "change" "Realm.change" (defArgs s_Realm_change) (defBody s_Realm_change) (defScope s_Realm_change) .none kVM_Realm_change dcM_Realm_change pmM_Realm_change anM_Realm_change cdM_Realm_change ctM_Realm_change), slM_Realm_change⟩) (ymc_Realm_change : PySem.W.codeIn K cdM_Realm_change "Realm.change" = true) (ymk_Realm_change : PySem.W.keepIn K (.ref fM_Realm_change) = true)
    {fM_Realm_back : Addr} {odM_Realm_back anM_Realm_back : Option Addr} {slM_Realm_back : Array (Option Value)} {ocM_Realm_back kVM_Realm_back dcM_Realm_back pmM_Realm_back cdM_Realm_back ctM_Realm_back : Value}
    (yma_Realm_back : PySem.W.findIn K (.ref C_Realm) "back" = some (some (.ref fM_Realm_back))) (ymi_Realm_back : PySem.W.isFn K (.ref fM_Realm_back) = true) (yml_Realm_back : K.lookup fM_Realm_back = some ⟨ocM_Realm_back, odM_Realm_back, .func (PySem.W.fnOf "back" "Realm.back" (defArgs s_Realm_back) (defBody s_Realm_back) (defScope s_Realm_back) .none kVM_Realm_back dcM_Realm_back pmM_Realm_back anM_Realm_back cdM_Realm_back ctM_Realm_back), slM_Realm_back⟩) (ymc_Realm_back : PySem.W.codeIn K cdM_Realm_back "Realm.back" = true) (ymk_Realm_back : PySem.W.keepIn K (.ref fM_Realm_back) = true)
    {fM_Realm_date : Addr} {odM_Realm_date anM_Realm_date : Option Addr} {slM_Realm_date : Array (Option Value)} {ocM_Realm_date kVM_Realm_date dcM_Realm_date pmM_Realm_date cdM_Realm_date ctM_Realm_date : Value}
    (yma_Realm_date : PySem.W.findIn K (.ref C_Realm) "date" = some (some (.ref fM_Realm_date))) (ymi_Realm_date : PySem.W.isFn K (.ref fM_Realm_date) = true) (yml_Realm_date : K.lookup fM_Realm_date = some ⟨ocM_Realm_date, odM_Realm_date, .func (PySem.W.fnOf "date" "Realm.date" (defArgs s_Realm_date) (defBody s_Realm_date) (defScope s_Realm_date) .none kVM_Realm_date dcM_Realm_date pmM_Realm_date anM_Realm_date cdM_Realm_date ctM_Realm_date), slM_Realm_date⟩) (ymc_Realm_date : PySem.W.codeIn K cdM_Realm_date "Realm.date" = true) (ymk_Realm_date : PySem.W.keepIn K (.ref fM_Realm_date) = true)
    {fM_Realm_days_of : Addr} {odM_Realm_days_of anM_Realm_days_of : Option Addr} {slM_Realm_days_of : Array (Option Value)} {ocM_Realm_days_of kVM_Realm_days_of dcM_Realm_days_of pmM_Realm_days_of cdM_Realm_days_of ctM_Realm_days_of : Value}
    (yma_Realm_days_of : PySem.W.findIn K (.ref C_Realm) "days_of" = some (some (.ref fM_Realm_days_of))) (ymi_Realm_days_of : PySem.W.isFn K (.ref fM_Realm_days_of) = true) (yml_Realm_days_of : K.lookup fM_Realm_days_of = some ⟨ocM_Realm_days_of, odM_Realm_days_of, .func (PySem.W.fnOf "days_of" "Realm.days_of" (defArgs s_Realm_days_of) (defBody s_Realm_days_of) (defScope s_Realm_days_of) .none kVM_Realm_days_of dcM_Realm_days_of pmM_Realm_days_of anM_Realm_days_of cdM_Realm_days_of ctM_Realm_days_of), slM_Realm_days_of⟩) (ymc_Realm_days_of : PySem.W.codeIn K cdM_Realm_days_of "Realm.days_of" = true) (ymk_Realm_days_of : PySem.W.keepIn K (.ref fM_Realm_days_of) = true)
    {fM_Realm_lands : Addr} {odM_Realm_lands anM_Realm_lands : Option Addr} {slM_Realm_lands : Array (Option Value)} {ocM_Realm_lands kVM_Realm_lands dcM_Realm_lands pmM_Realm_lands cdM_Realm_lands ctM_Realm_lands : Value}
    (yma_Realm_lands : PySem.W.findIn K (.ref C_Realm) "lands" = some (some (.ref fM_Realm_lands))) (ymi_Realm_lands : PySem.W.isFn K (.ref fM_Realm_lands) = true) (yml_Realm_lands : K.lookup fM_Realm_lands = some ⟨ocM_Realm_lands, odM_Realm_lands, .func (PySem.W.fnOf "lands" "Realm.lands" (defArgs s_Realm_lands) (defBody s_Realm_lands) (defScope s_Realm_lands) .none kVM_Realm_lands dcM_Realm_lands pmM_Realm_lands anM_Realm_lands cdM_Realm_lands ctM_Realm_lands), slM_Realm_lands⟩) (ymc_Realm_lands : PySem.W.codeIn K cdM_Realm_lands "Realm.lands" = true) (ymk_Realm_lands : PySem.W.keepIn K (.ref fM_Realm_lands) = true)
    {fM_Realm_len : Addr} {odM_Realm_len anM_Realm_len : Option Addr} {slM_Realm_len : Array (Option Value)} {ocM_Realm_len kVM_Realm_len dcM_Realm_len pmM_Realm_len cdM_Realm_len ctM_Realm_len : Value}
    (yma_Realm_len : PySem.W.findIn K (.ref C_Realm) "__len__" = some (some (.ref fM_Realm_len))) (ymi_Realm_len : PySem.W.isFn K (.ref fM_Realm_len) = true) (yml_Realm_len : K.lookup fM_Realm_len = some ⟨ocM_Realm_len, odM_Realm_len, .func (PySem.W.fnOf "__len__" "Realm.__len__" (defArgs s_Realm_len) (defBody s_Realm_len) (defScope s_Realm_len) .none kVM_Realm_len dcM_Realm_len pmM_Realm_len anM_Realm_len cdM_Realm_len ctM_Realm_len), slM_Realm_len⟩) (ymc_Realm_len : PySem.W.codeIn K cdM_Realm_len "Realm.__len__" = true) (ymk_Realm_len : PySem.W.keepIn K (.ref fM_Realm_len) = true)
    {fM_Realm_eq : Addr} {odM_Realm_eq anM_Realm_eq : Option Addr} {slM_Realm_eq : Array (Option Value)} {ocM_Realm_eq kVM_Realm_eq dcM_Realm_eq pmM_Realm_eq cdM_Realm_eq ctM_Realm_eq : Value}
    (yma_Realm_eq : PySem.W.findIn K (.ref C_Realm) "__eq__" = some (some (.ref fM_Realm_eq))) (ymi_Realm_eq : PySem.W.isFn K (.ref fM_Realm_eq) = true) (yml_Realm_eq : K.lookup fM_Realm_eq = some ⟨ocM_Realm_eq, odM_Realm_eq, .func (PySem.W.fnOf "__eq__" "Realm.__eq__" (defArgs s_Realm_eq) (defBody s_Realm_eq) (defScope s_Realm_eq) .none kVM_Realm_eq dcM_Realm_eq pmM_Realm_eq anM_Realm_eq cdM_Realm_eq ctM_Realm_eq), slM_Realm_eq⟩) (ymc_Realm_eq : PySem.W.codeIn K cdM_Realm_eq "Realm.__eq__" = true) (ymk_Realm_eq : PySem.W.keepIn K (.ref fM_Realm_eq) = true)
    {fM_Realm_is_later : Addr} {odM_Realm_is_later anM_Realm_is_later : Option Addr} {slM_Realm_is_later : Array (Option Value)} {ocM_Realm_is_later kVM_Realm_is_later dcM_Realm_is_later pmM_Realm_is_later cdM_Realm_is_later ctM_Realm_is_later : Value}
    (yma_Realm_is_later : PySem.W.findIn K (.ref C_Realm) "is_later" = some (some (.ref fM_Realm_is_later))) (ymi_Realm_is_later : PySem.W.isFn K (.ref fM_Realm_is_later) = true) (yml_Realm_is_later : K.lookup fM_Realm_is_later = some ⟨ocM_Realm_is_later, odM_Realm_is_later, .func (PySem.W.fnOf "is_later" "Realm.is_later" (defArgs s_Realm_is_later) (defBody s_Realm_is_later) (defScope s_Realm_is_later) .none kVM_Realm_is_later dcM_Realm_is_later pmM_Realm_is_later anM_Realm_is_later cdM_Realm_is_later ctM_Realm_is_later), slM_Realm_is_later⟩) (ymc_Realm_is_later : PySem.W.codeIn K cdM_Realm_is_later "Realm.is_later" = true) (ymk_Realm_is_later : PySem.W.keepIn K (.ref fM_Realm_is_later) = true)
    {fM_Realm_rules : Addr} {odM_Realm_rules anM_Realm_rules : Option Addr} {slM_Realm_rules : Array (Option Value)} {ocM_Realm_rules kVM_Realm_rules dcM_Realm_rules pmM_Realm_rules cdM_Realm_rules ctM_Realm_rules : Value}
    (yma_Realm_rules : PySem.W.findIn K (.ref C_Realm) "rules" = some (some (.ref fM_Realm_rules))) (ymi_Realm_rules : PySem.W.isFn K (.ref fM_Realm_rules) = true) (yml_Realm_rules : K.lookup fM_Realm_rules = some ⟨ocM_Realm_rules, odM_Realm_rules, .func (PySem.W.fnOf "rules" "Realm.rules" (defArgs s_Realm_rules) (defBody s_Realm_rules) (defScope s_Realm_rules) .none kVM_Realm_rules dcM_Realm_rules pmM_Realm_rules anM_Realm_rules cdM_Realm_rules ctM_Realm_rules), slM_Realm_rules⟩) (ymc_Realm_rules : PySem.W.codeIn K cdM_Realm_rules "Realm.rules" = true) (ymk_Realm_rules : PySem.W.keepIn K (.ref fM_Realm_rules) = true)
    {fM_Realm_land_on : Addr} {odM_Realm_land_on anM_Realm_land_on : Option Addr} {slM_Realm_land_on : Array (Option Value)} {ocM_Realm_land_on kVM_Realm_land_on dcM_Realm_land_on pmM_Realm_land_on cdM_Realm_land_on ctM_Realm_land_on : Value}
    (yma_Realm_land_on : PySem.W.findIn K (.ref C_Realm) "land_on" = some (some (.ref fM_Realm_land_on))) (ymi_Realm_land_on : PySem.W.isFn K (.ref fM_Realm_land_on) = true) (yml_Realm_land_on : K.lookup fM_Realm_land_on = some ⟨ocM_Realm_land_on, odM_Realm_land_on, .func (PySem.W.fnOf "land_on" "Realm.land_on" (defArgs s_Realm_land_on) (defBody s_Realm_land_on) (defScope s_Realm_land_on) .none kVM_Realm_land_on dcM_Realm_land_on pmM_Realm_land_on anM_Realm_land_on cdM_Realm_land_on ctM_Realm_land_on), slM_Realm_land_on⟩) (ymc_Realm_land_on : PySem.W.codeIn K cdM_Realm_land_on "Realm.land_on" = true) (ymk_Realm_land_on : PySem.W.keepIn K (.ref fM_Realm_land_on) = true)
    (yoc_Realm : PySem.W.findIn K (.ref C_Realm) "__class__" = some (some (.builtin "object.__class__")))
    (yom_Realm : PySem.W.mroIn K C_Realm (.type "object") = some true)
    (yoi_Realm : PySem.W.kitOne K (.ref C_Realm) (.ref C_Realm) = some true)
    (yol_Realm : PySem.W.kitOne K (.type "list") (.ref C_Realm) = some false)
    (yon_Realm : PySem.W.notFirst K C_Realm (.type "list") = true)
    {C_YearError : Addr} (yE_YearError : PySem.W.nsIn K mainGlobals "YearError" = some (some (.ref C_YearError)))
    {C_NoLand : Addr} (yE_NoLand : PySem.W.nsIn K mainGlobals "NoLand" = some (some (.ref C_NoLand)))
    {C_NoYear : Addr} (yE_NoYear : PySem.W.nsIn K mainGlobals "NoYear" = some (some (.ref C_NoYear)))
    {C_NoDay : Addr} (yE_NoDay : PySem.W.nsIn K mainGlobals "NoDay" = some (some (.ref C_NoDay)))
    {C_NoPlace : Addr} (yE_NoPlace : PySem.W.nsIn K mainGlobals "NoPlace" = some (some (.ref C_NoPlace)))
    {C_NoWeek : Addr} (yE_NoWeek : PySem.W.nsIn K mainGlobals "NoWeek" = some (some (.ref C_NoWeek)))
    {C_NoName : Addr} (yE_NoName : PySem.W.nsIn K mainGlobals "NoName" = some (some (.ref C_NoName)))
    {C_NoSeen : Addr} (yE_NoSeen : PySem.W.nsIn K mainGlobals "NoSeen" = some (some (.ref C_NoSeen)))
    {C_NoNumber : Addr} (yE_NoNumber : PySem.W.nsIn K mainGlobals "NoNumber" = some (some (.ref C_NoNumber)))
    {C_NothingLeft : Addr} (yE_NothingLeft : PySem.W.nsIn K mainGlobals "NothingLeft" = some (some (.ref C_NothingLeft)))
    (ysp : PySem.W.specialIn K (.builtin "object.__class__") "__get__" = some (some (.builtin "getset_descriptor.__get__")))
    (ytk : PySem.W.takesIn K (.builtin "object.__class__") = some true)
    (yx_NoLand : PySem.W.excIn K C_NoLand [.type "ValueError", .type "Exception", .type "BaseException", .type "object"] "ValueError.__new__" = true)
    (yk_NoLand : PySem.W.keepIn K (.ref C_NoLand) = true)
    (ysb_NoLand : PySem.W.subIn K (.ref C_NoLand) (.type "BaseException") = some true)
    (ytp_NoLand : PySem.W.typeIn K (.ref C_NoLand) = some (.type "type"))
    (yga_NoLand : PySem.W.findIn K (.ref C_NoLand) "__getattribute__" = some (some (.builtin "BaseException.__getattribute__")))
    (ygt_NoLand : PySem.W.findIn K (.ref C_NoLand) "__getattr__" = some none)
    (yhd_NoLand : PySem.W.hasDictIn K C_NoLand = true)
    (yca_NoLand : PySem.W.findIn K (.ref C_NoLand) "__class__" = some (some (.builtin "object.__class__")))
    (ymr_NoLand : PySem.W.mroIn K C_NoLand (.type "object") = some true)
    (yem_NoLand : PySem.W.exmOne K (.ref C_NoLand) (.ref C_YearError) = some true)
    (yki_NoLand_NoLand : PySem.W.kitOne K (.ref C_NoLand) (.ref C_NoLand) = some true)
    (yki_NoLand_NoYear : PySem.W.kitOne K (.ref C_NoLand) (.ref C_NoYear) = some false)
    (yki_NoLand_NoDay : PySem.W.kitOne K (.ref C_NoLand) (.ref C_NoDay) = some false)
    (yki_NoLand_NoPlace : PySem.W.kitOne K (.ref C_NoLand) (.ref C_NoPlace) = some false)
    (yki_NoLand_NoWeek : PySem.W.kitOne K (.ref C_NoLand) (.ref C_NoWeek) = some false)
    (yki_NoLand_NoName : PySem.W.kitOne K (.ref C_NoLand) (.ref C_NoName) = some false)
    (yki_NoLand_NoSeen : PySem.W.kitOne K (.ref C_NoLand) (.ref C_NoSeen) = some false)
    (yki_NoLand_NoNumber : PySem.W.kitOne K (.ref C_NoLand) (.ref C_NoNumber) = some false)
    (yki_NoLand_NothingLeft : PySem.W.kitOne K (.ref C_NoLand) (.ref C_NothingLeft) = some false)
    (yki_NoLand_V : PySem.W.kitOne K (.ref C_NoLand) (.type "ValueError") = some true)
    (yx_NoYear : PySem.W.excIn K C_NoYear [.type "ValueError", .type "Exception", .type "BaseException", .type "object"] "ValueError.__new__" = true)
    (yk_NoYear : PySem.W.keepIn K (.ref C_NoYear) = true)
    (ysb_NoYear : PySem.W.subIn K (.ref C_NoYear) (.type "BaseException") = some true)
    (ytp_NoYear : PySem.W.typeIn K (.ref C_NoYear) = some (.type "type"))
    (yga_NoYear : PySem.W.findIn K (.ref C_NoYear) "__getattribute__" = some (some (.builtin "BaseException.__getattribute__")))
    (ygt_NoYear : PySem.W.findIn K (.ref C_NoYear) "__getattr__" = some none)
    (yhd_NoYear : PySem.W.hasDictIn K C_NoYear = true)
    (yca_NoYear : PySem.W.findIn K (.ref C_NoYear) "__class__" = some (some (.builtin "object.__class__")))
    (ymr_NoYear : PySem.W.mroIn K C_NoYear (.type "object") = some true)
    (yem_NoYear : PySem.W.exmOne K (.ref C_NoYear) (.ref C_YearError) = some true)
    (yki_NoYear_NoLand : PySem.W.kitOne K (.ref C_NoYear) (.ref C_NoLand) = some false)
    (yki_NoYear_NoYear : PySem.W.kitOne K (.ref C_NoYear) (.ref C_NoYear) = some true)
    (yki_NoYear_NoDay : PySem.W.kitOne K (.ref C_NoYear) (.ref C_NoDay) = some false)
    (yki_NoYear_NoPlace : PySem.W.kitOne K (.ref C_NoYear) (.ref C_NoPlace) = some false)
    (yki_NoYear_NoWeek : PySem.W.kitOne K (.ref C_NoYear) (.ref C_NoWeek) = some false)
    (yki_NoYear_NoName : PySem.W.kitOne K (.ref C_NoYear) (.ref C_NoName) = some false)
    (yki_NoYear_NoSeen : PySem.W.kitOne K (.ref C_NoYear) (.ref C_NoSeen) = some false)
    (yki_NoYear_NoNumber : PySem.W.kitOne K (.ref C_NoYear) (.ref C_NoNumber) = some false)
    (yki_NoYear_NothingLeft : PySem.W.kitOne K (.ref C_NoYear) (.ref C_NothingLeft) = some false)
    (yki_NoYear_V : PySem.W.kitOne K (.ref C_NoYear) (.type "ValueError") = some true)
    (yx_NoDay : PySem.W.excIn K C_NoDay [.type "ValueError", .type "Exception", .type "BaseException", .type "object"] "ValueError.__new__" = true)
    (yk_NoDay : PySem.W.keepIn K (.ref C_NoDay) = true)
    (ysb_NoDay : PySem.W.subIn K (.ref C_NoDay) (.type "BaseException") = some true)
    (ytp_NoDay : PySem.W.typeIn K (.ref C_NoDay) = some (.type "type"))
    (yga_NoDay : PySem.W.findIn K (.ref C_NoDay) "__getattribute__" = some (some (.builtin "BaseException.__getattribute__")))
    (ygt_NoDay : PySem.W.findIn K (.ref C_NoDay) "__getattr__" = some none)
    (yhd_NoDay : PySem.W.hasDictIn K C_NoDay = true)
    (yca_NoDay : PySem.W.findIn K (.ref C_NoDay) "__class__" = some (some (.builtin "object.__class__")))
    (ymr_NoDay : PySem.W.mroIn K C_NoDay (.type "object") = some true)
    (yem_NoDay : PySem.W.exmOne K (.ref C_NoDay) (.ref C_YearError) = some true)
    (yki_NoDay_NoLand : PySem.W.kitOne K (.ref C_NoDay) (.ref C_NoLand) = some false)
    (yki_NoDay_NoYear : PySem.W.kitOne K (.ref C_NoDay) (.ref C_NoYear) = some false)
    (yki_NoDay_NoDay : PySem.W.kitOne K (.ref C_NoDay) (.ref C_NoDay) = some true)
    (yki_NoDay_NoPlace : PySem.W.kitOne K (.ref C_NoDay) (.ref C_NoPlace) = some false)
    (yki_NoDay_NoWeek : PySem.W.kitOne K (.ref C_NoDay) (.ref C_NoWeek) = some false)
    (yki_NoDay_NoName : PySem.W.kitOne K (.ref C_NoDay) (.ref C_NoName) = some false)
    (yki_NoDay_NoSeen : PySem.W.kitOne K (.ref C_NoDay) (.ref C_NoSeen) = some false)
    (yki_NoDay_NoNumber : PySem.W.kitOne K (.ref C_NoDay) (.ref C_NoNumber) = some false)
    (yki_NoDay_NothingLeft : PySem.W.kitOne K (.ref C_NoDay) (.ref C_NothingLeft) = some false)
    (yki_NoDay_V : PySem.W.kitOne K (.ref C_NoDay) (.type "ValueError") = some true)
    (yx_NoPlace : PySem.W.excIn K C_NoPlace [.type "ValueError", .type "Exception", .type "BaseException", .type "object"] "ValueError.__new__" = true)
    (yk_NoPlace : PySem.W.keepIn K (.ref C_NoPlace) = true)
    (ysb_NoPlace : PySem.W.subIn K (.ref C_NoPlace) (.type "BaseException") = some true)
    (ytp_NoPlace : PySem.W.typeIn K (.ref C_NoPlace) = some (.type "type"))
    (yga_NoPlace : PySem.W.findIn K (.ref C_NoPlace) "__getattribute__" = some (some (.builtin "BaseException.__getattribute__")))
    (ygt_NoPlace : PySem.W.findIn K (.ref C_NoPlace) "__getattr__" = some none)
    (yhd_NoPlace : PySem.W.hasDictIn K C_NoPlace = true)
    (yca_NoPlace : PySem.W.findIn K (.ref C_NoPlace) "__class__" = some (some (.builtin "object.__class__")))
    (ymr_NoPlace : PySem.W.mroIn K C_NoPlace (.type "object") = some true)
    (yem_NoPlace : PySem.W.exmOne K (.ref C_NoPlace) (.ref C_YearError) = some true)
    (yki_NoPlace_NoLand : PySem.W.kitOne K (.ref C_NoPlace) (.ref C_NoLand) = some false)
    (yki_NoPlace_NoYear : PySem.W.kitOne K (.ref C_NoPlace) (.ref C_NoYear) = some false)
    (yki_NoPlace_NoDay : PySem.W.kitOne K (.ref C_NoPlace) (.ref C_NoDay) = some false)
    (yki_NoPlace_NoPlace : PySem.W.kitOne K (.ref C_NoPlace) (.ref C_NoPlace) = some true)
    (yki_NoPlace_NoWeek : PySem.W.kitOne K (.ref C_NoPlace) (.ref C_NoWeek) = some false)
    (yki_NoPlace_NoName : PySem.W.kitOne K (.ref C_NoPlace) (.ref C_NoName) = some false)
    (yki_NoPlace_NoSeen : PySem.W.kitOne K (.ref C_NoPlace) (.ref C_NoSeen) = some false)
    (yki_NoPlace_NoNumber : PySem.W.kitOne K (.ref C_NoPlace) (.ref C_NoNumber) = some false)
    (yki_NoPlace_NothingLeft : PySem.W.kitOne K (.ref C_NoPlace) (.ref C_NothingLeft) = some false)
    (yki_NoPlace_V : PySem.W.kitOne K (.ref C_NoPlace) (.type "ValueError") = some true)
    (yx_NothingLeft : PySem.W.excIn K C_NothingLeft [.type "ValueError", .type "Exception", .type "BaseException", .type "object"] "ValueError.__new__" = true)
    (yk_NothingLeft : PySem.W.keepIn K (.ref C_NothingLeft) = true)
    (ysb_NothingLeft : PySem.W.subIn K (.ref C_NothingLeft) (.type "BaseException") = some true)
    (ytp_NothingLeft : PySem.W.typeIn K (.ref C_NothingLeft) = some (.type "type"))
    (yga_NothingLeft : PySem.W.findIn K (.ref C_NothingLeft) "__getattribute__" = some (some (.builtin "BaseException.__getattribute__")))
    (ygt_NothingLeft : PySem.W.findIn K (.ref C_NothingLeft) "__getattr__" = some none)
    (yhd_NothingLeft : PySem.W.hasDictIn K C_NothingLeft = true)
    (yca_NothingLeft : PySem.W.findIn K (.ref C_NothingLeft) "__class__" = some (some (.builtin "object.__class__")))
    (ymr_NothingLeft : PySem.W.mroIn K C_NothingLeft (.type "object") = some true)
    (yem_NothingLeft : PySem.W.exmOne K (.ref C_NothingLeft) (.ref C_YearError) = some true)
    (yki_NothingLeft_NoLand : PySem.W.kitOne K (.ref C_NothingLeft) (.ref C_NoLand) = some false)
    (yki_NothingLeft_NoYear : PySem.W.kitOne K (.ref C_NothingLeft) (.ref C_NoYear) = some false)
    (yki_NothingLeft_NoDay : PySem.W.kitOne K (.ref C_NothingLeft) (.ref C_NoDay) = some false)
    (yki_NothingLeft_NoPlace : PySem.W.kitOne K (.ref C_NothingLeft) (.ref C_NoPlace) = some false)
    (yki_NothingLeft_NoWeek : PySem.W.kitOne K (.ref C_NothingLeft) (.ref C_NoWeek) = some false)
    (yki_NothingLeft_NoName : PySem.W.kitOne K (.ref C_NothingLeft) (.ref C_NoName) = some false)
    (yki_NothingLeft_NoSeen : PySem.W.kitOne K (.ref C_NothingLeft) (.ref C_NoSeen) = some false)
    (yki_NothingLeft_NoNumber : PySem.W.kitOne K (.ref C_NothingLeft) (.ref C_NoNumber) = some false)
    (yki_NothingLeft_NothingLeft : PySem.W.kitOne K (.ref C_NothingLeft) (.ref C_NothingLeft) = some true)
    (yki_NothingLeft_V : PySem.W.kitOne K (.ref C_NothingLeft) (.type "ValueError") = some true)
    {cL27 PT27 : Addr} (ycl27 : cd27 = .ref cL27) (ych27 : PySem.W.codeHdIn K cL27 PT27 = true) (ynl27 : K.lookup PT27 = none) (ytab27 : h.get? PT27 = some (PySem.W.tabObj #[]))
    {cL29 PT29 : Addr} (ycl29 : cd29 = .ref cL29) (ych29 : PySem.W.codeHdIn K cL29 PT29 = true) (ynl29 : K.lookup PT29 = none) (ytab29 : h.get? PT29 = some (PySem.W.tabObj #[]))
    (ynd : [PT27, PT29].Nodup)
    : LamX.LawAtS l w K CX0 9 63 "script" mg fa h := by
  have e := hfa.symm.trans (PySem.W.mg_of X G ya29)
  cases e
  have F0 := fun_mk (st := s_is_whole) yl0 yc0 yk0
  have b0 := F0.binds (ps := ["thing"]) fun _ _ _ _ _ _ us hl => match us, hl with | [_], _ => rfl
  have F1 := fun_mk (st := s_is_between) yl1 yc1 yk1
  have b1 := F1.binds (ps := ["thing", "least", "most"]) fun _ _ _ _ _ _ us hl => match us, hl with | [_, _, _], _ => rfl
  have F2 := fun_mk (st := s_is_land) yl2 yc2 yk2
  have b2 := F2.binds (ps := ["thing"]) fun _ _ _ _ _ _ us hl => match us, hl with | [_], _ => rfl
  have F3 := fun_mk (st := s_need_land) yl3 yc3 yk3
  have b3 := F3.binds (ps := ["thing"]) fun _ _ _ _ _ _ us hl => match us, hl with | [_], _ => rfl
  have F4 := fun_mk (st := s_need_year) yl4 yc4 yk4
  have b4 := F4.binds (ps := ["thing"]) fun _ _ _ _ _ _ us hl => match us, hl with | [_], _ => rfl
  have F5 := fun_mk (st := s_need_day) yl5 yc5 yk5
  have b5 := F5.binds (ps := ["thing"]) fun _ _ _ _ _ _ us hl => match us, hl with | [_], _ => rfl
  have F6 := fun_mk (st := s_step_of) yl6 yc6 yk6
  have b6 := F6.binds (ps := ["land"]) fun _ _ _ _ _ _ us hl => match us, hl with | [_], _ => rfl
  have F7 := fun_mk (st := s_first_day) yl7 yc7 yk7
  have b7 := F7.binds (ps := ["land", "year"]) fun _ _ _ _ _ _ us hl => match us, hl with | [_, _], _ => rfl
  have F8 := fun_mk (st := s_date_of) yl8 yc8 yk8
  have b8 := F8.binds (ps := ["land", "day"]) fun _ _ _ _ _ _ us hl => match us, hl with | [_, _], _ => rfl
  have F9 := fun_mk (st := s_need_realm_place) yl9 yc9 yk9
  have b9 := F9.binds (ps := ["thing"]) fun _ _ _ _ _ _ us hl => match us, hl with | [_], _ => rfl
  have F10 := fun_mk (st := s__law_deck) yl10 yc10 yk10
  have b10 := F10.binds (ps := ["cell", "turn"]) fun _ _ _ _ _ _ us hl => match us, hl with | [_, _], _ => rfl
  have F11 := fun_mk (st := s__law_pick) yl11 yc11 yk11
  have b11 := F11.binds (ps := ["deck", "size"]) fun _ _ _ _ _ _ us hl => match us, hl with | [_, _], _ => rfl
  have F12 := fun_mk (st := s__law_whole) yl12 yc12 yk12
  have b12 := F12.binds (ps := ["thing"]) fun _ _ _ _ _ _ us hl => match us, hl with | [_], _ => rfl
  have F13 := fun_mk (st := s__law_one) yl13 yc13 yk13
  have b13 := F13.binds (ps := ["deck", "some"]) fun _ _ _ _ _ _ us hl => match us, hl with | [_, _], _ => rfl
  have F14 := fun_mk (st := s__law_kin) yl14 yc14 yk14
  have b14 := F14.binds (ps := ["e"]) fun _ _ _ _ _ _ us hl => match us, hl with | [_], _ => rfl
  have F15 := fun_mk (st := s__law_try) yl15 yc15 yk15
  have b15 := F15.binds (ps := ["door"]) fun _ _ _ _ _ _ us hl => match us, hl with | [_], _ => rfl
  have F16 := fun_mk (st := s__law_sort) yl16 yc16 yk16
  have b16 := F16.binds (ps := ["thing"]) fun _ _ _ _ _ _ us hl => match us, hl with | [_], _ => rfl
  have F17 := fun_mk (st := s__law_same) yl17 yc17 yk17
  have b17 := F17.binds (ps := ["told", "due"]) fun _ _ _ _ _ _ us hl => match us, hl with | [_, _], _ => rfl
  have F18 := fun_mk (st := s__law_land) yl18 yc18 yk18
  have b18 := F18.binds (ps := ["deck", "long_so", "bottoms", "shifts"]) fun _ _ _ _ _ _ us hl => match us, hl with | [_, _, _, _], _ => rfl
  have F19 := fun_mk (st := s__law_any) yl19 yc19 yk19
  have b19 := F19.binds (ps := ["deck"]) fun _ _ _ _ _ _ us hl => match us, hl with | [_], _ => rfl
  have F20 := fun_mk (st := s__law_begin) yl20 yc20 yk20
  have b20 := F20.binds (ps := ["land", "year"]) fun _ _ _ _ _ _ us hl => match us, hl with | [_, _], _ => rfl
  have F21 := fun_mk (st := s__law_length) yl21 yc21 yk21
  have b21 := F21.binds (ps := ["land", "year"]) fun _ _ _ _ _ _ us hl => match us, hl with | [_, _], _ => rfl
  have F22 := fun_mk (st := s__law_far) yl22 yc22 yk22
  have b22 := F22.binds (ps := ["deck"]) fun _ _ _ _ _ _ us hl => match us, hl with | [_], _ => rfl
  have F23 := fun_mk (st := s__law_step) yl23 yc23 yk23
  have b23 := F23.binds (ps := ["land"]) fun _ _ _ _ _ _ us hl => match us, hl with | [_], _ => rfl
  have F24 := fun_mk (st := s__law_of) yl24 yc24 yk24
  have b24 := F24.binds (ps := ["rows", "day"]) fun _ _ _ _ _ _ us hl => match us, hl with | [_, _], _ => rfl
  have F25 := fun_mk (st := s__law_dated) yl25 yc25 yk25
  have b25 := F25.binds (ps := ["land", "day"]) fun _ _ _ _ _ _ us hl => match us, hl with | [_, _], _ => rfl
  have F26 := fun_mk (st := s__law_days_right) yl26 yc26 yk26
  have b26 := F26.binds (ps := ["deck", "realm", "rows"]) fun _ _ _ _ _ _ us hl => match us, hl with | [_, _, _], _ => rfl
  have F27 := fun_mk (st := s__law_do) yl27 yc27 yk27
  have b27 := F27.binds (ps := ["realm", "deed"]) fun _ _ _ _ _ _ us hl => match us, hl with | [_, _], _ => rfl
  have F28 := fun_mk (st := s__law_due) yl28 yc28 yk28
  have b28 := F28.binds (ps := ["rows", "deed"]) fun _ _ _ _ _ _ us hl => match us, hl with | [_, _], _ => rfl
  have FL := fun_mk (st := s_law) yl29 yc29 yk29
  have FM_Realm_init := fun_mk (st := s_Realm_init) yml_Realm_init ymc_Realm_init ymk_Realm_init
  have bM_Realm_init := FM_Realm_init.binds (ps := ["self", "land"]) fun _ _ _ _ _ _ us hl => match us, hl with | [_, _], _ => rfl
  have FM_Realm_change := fun_mk (st := s_Realm_change) yml_Realm_change ymc_Realm_change ymk_Realm_change
  have bM_Realm_change := FM_Realm_change.binds (ps := ["self", "day", "land"]) fun _ _ _ _ _ _ us hl => match us, hl with | [_, _, _], _ => rfl
  have FM_Realm_back := fun_mk (st := s_Realm_back) yml_Realm_back ymc_Realm_back ymk_Realm_back
  have bM_Realm_back := FM_Realm_back.binds (ps := ["self"]) fun _ _ _ _ _ _ us hl => match us, hl with | [_], _ => rfl
  have FM_Realm_date := fun_mk (st := s_Realm_date) yml_Realm_date ymc_Realm_date ymk_Realm_date
  have bM_Realm_date := FM_Realm_date.binds (ps := ["self", "day"]) fun _ _ _ _ _ _ us hl => match us, hl with | [_, _], _ => rfl
  have FM_Realm_days_of := fun_mk (st := s_Realm_days_of) yml_Realm_days_of ymc_Realm_days_of ymk_Realm_days_of
  have bM_Realm_days_of := FM_Realm_days_of.binds (ps := ["self", "year", "place"]) fun _ _ _ _ _ _ us hl => match us, hl with | [_, _, _], _ => rfl
  have FM_Realm_lands := fun_mk (st := s_Realm_lands) yml_Realm_lands ymc_Realm_lands ymk_Realm_lands
  have bM_Realm_lands := FM_Realm_lands.binds (ps := ["self"]) fun _ _ _ _ _ _ us hl => match us, hl with | [_], _ => rfl
  have FM_Realm_len := fun_mk (st := s_Realm_len) yml_Realm_len ymc_Realm_len ymk_Realm_len
  have bM_Realm_len := FM_Realm_len.binds (ps := ["self"]) fun _ _ _ _ _ _ us hl => match us, hl with | [_], _ => rfl
  have FM_Realm_eq := fun_mk (st := s_Realm_eq) yml_Realm_eq ymc_Realm_eq ymk_Realm_eq
  have bM_Realm_eq := FM_Realm_eq.binds (ps := ["self", "other"]) fun _ _ _ _ _ _ us hl => match us, hl with | [_, _], _ => rfl
  have FM_Realm_is_later := fun_mk (st := s_Realm_is_later) yml_Realm_is_later ymc_Realm_is_later ymk_Realm_is_later
  have bM_Realm_is_later := FM_Realm_is_later.binds (ps := ["self", "day"]) fun _ _ _ _ _ _ us hl => match us, hl with | [_, _], _ => rfl
  have FM_Realm_rules := fun_mk (st := s_Realm_rules) yml_Realm_rules ymc_Realm_rules ymk_Realm_rules
  have bM_Realm_rules := FM_Realm_rules.binds (ps := ["self", "at", "day"]) fun _ _ _ _ _ _ us hl => match us, hl with | [_, _, _], _ => rfl
  have FM_Realm_land_on := fun_mk (st := s_Realm_land_on) yml_Realm_land_on ymc_Realm_land_on ymk_Realm_land_on
  have bM_Realm_land_on := FM_Realm_land_on.binds (ps := ["self", "day"]) fun _ _ _ _ _ _ us hl => match us, hl with | [_, _], _ => rfl
  let T : Txt K mg := { is_whole := ⟨_, _, F0, b0, PySem.W.mg_of X G ya0⟩, is_between := ⟨_, _, F1, b1, PySem.W.mg_of X G ya1⟩, is_land := ⟨_, _, F2, b2, PySem.W.mg_of X G ya2⟩, need_land := ⟨_, _, F3, b3, PySem.W.mg_of X G ya3⟩, need_year := ⟨_, _, F4, b4, PySem.W.mg_of X G ya4⟩, need_day := ⟨_, _, F5, b5, PySem.W.mg_of X G ya5⟩, step_of := ⟨_, _, F6, b6, PySem.W.mg_of X G ya6⟩, first_day := ⟨_, _, F7, b7, PySem.W.mg_of X G ya7⟩, date_of := ⟨_, _, F8, b8, PySem.W.mg_of X G ya8⟩, need_realm_place := ⟨_, _, F9, b9, PySem.W.mg_of X G ya9⟩, _law_deck := ⟨_, _, F10, b10, PySem.W.mg_of X G ya10⟩, _law_pick := ⟨_, _, F11, b11, PySem.W.mg_of X G ya11⟩, _law_whole := ⟨_, _, F12, b12, PySem.W.mg_of X G ya12⟩, _law_one := ⟨_, _, F13, b13, PySem.W.mg_of X G ya13⟩, _law_kin := ⟨_, _, F14, b14, PySem.W.mg_of X G ya14⟩, _law_try := ⟨_, _, F15, b15, PySem.W.mg_of X G ya15⟩, _law_sort := ⟨_, _, F16, b16, PySem.W.mg_of X G ya16⟩, _law_same := ⟨_, _, F17, b17, PySem.W.mg_of X G ya17⟩, _law_land := ⟨_, _, F18, b18, PySem.W.mg_of X G ya18⟩, _law_any := ⟨_, _, F19, b19, PySem.W.mg_of X G ya19⟩, _law_begin := ⟨_, _, F20, b20, PySem.W.mg_of X G ya20⟩, _law_length := ⟨_, _, F21, b21, PySem.W.mg_of X G ya21⟩, _law_far := ⟨_, _, F22, b22, PySem.W.mg_of X G ya22⟩, _law_step := ⟨_, _, F23, b23, PySem.W.mg_of X G ya23⟩, _law_of := ⟨_, _, F24, b24, PySem.W.mg_of X G ya24⟩, _law_dated := ⟨_, _, F25, b25, PySem.W.mg_of X G ya25⟩, _law_days_right := ⟨_, _, F26, b26, PySem.W.mg_of X G ya26⟩, _law_do := ⟨_, _, F27, b27, PySem.W.mg_of X G ya27⟩, _law_due := ⟨_, _, F28, b28, PySem.W.mg_of X G ya28⟩, t_MOST_DAYS := _, c_MOST_DAYS := PySem.W.mg_of X G ycst0, t_MOST_BOTTOM := _, c_MOST_BOTTOM := PySem.W.mg_of X G ycst1, t_MOST_SHIFT := _, c_MOST_SHIFT := PySem.W.mg_of X G ycst2, t_FARTHEST := _, c_FARTHEST := PySem.W.mg_of X G ycst3, isinstance := PySem.W.mg_none_of X G yz0, b_int := PySem.W.mg_none_of X G yz1, b_bool := PySem.W.mg_none_of X G yz2, tuple := PySem.W.mg_none_of X G yz3, len := PySem.W.mg_none_of X G yz4, ValueError := PySem.W.mg_none_of X G yz5, zip := PySem.W.mg_none_of X G yz6, str := PySem.W.mg_none_of X G yz7, b_list := PySem.W.mg_none_of X G yz8, enumerate := PySem.W.mg_none_of X G yz9, sorted := PySem.W.mg_none_of X G yz10, set := PySem.W.mg_none_of X G yz11, abs := PySem.W.mg_none_of X G yz12, range := PySem.W.mg_none_of X G yz13, C_Realm := C_Realm, cl_Realm := ⟨ypg_Realm, yhd_Realm, ypo_Realm, ysa_Realm⟩, g_Realm := PySem.W.mg_of X G yC_Realm, n_Realm_pairs := ynf_Realm_pairs, Realm_init := ⟨_, _, FM_Realm_init, bM_Realm_init, yma_Realm_init, ymi_Realm_init, ymk_Realm_init⟩, mk_Realm := ⟨ymk_Realm, yma_Realm_init, ymi_Realm_init, ykc_Realm⟩, Realm_change := ⟨_, _, FM_Realm_change, bM_Realm_change, yma_Realm_change, ymi_Realm_change, ymk_Realm_change⟩, Realm_back := ⟨_, _, FM_Realm_back, bM_Realm_back, yma_Realm_back, ymi_Realm_back, ymk_Realm_back⟩, Realm_date := ⟨_, _, FM_Realm_date, bM_Realm_date, yma_Realm_date, ymi_Realm_date, ymk_Realm_date⟩, Realm_days_of := ⟨_, _, FM_Realm_days_of, bM_Realm_days_of, yma_Realm_days_of, ymi_Realm_days_of, ymk_Realm_days_of⟩, Realm_lands := ⟨_, _, FM_Realm_lands, bM_Realm_lands, yma_Realm_lands, ymi_Realm_lands, ymk_Realm_lands⟩, Realm_len := ⟨_, _, FM_Realm_len, bM_Realm_len, yma_Realm_len, ymi_Realm_len, ymk_Realm_len⟩, Realm_eq := ⟨_, _, FM_Realm_eq, bM_Realm_eq, yma_Realm_eq, ymi_Realm_eq, ymk_Realm_eq⟩, Realm_is_later := ⟨_, _, FM_Realm_is_later, bM_Realm_is_later, yma_Realm_is_later, ymi_Realm_is_later, ymk_Realm_is_later⟩, Realm_rules := ⟨_, _, FM_Realm_rules, bM_Realm_rules, yma_Realm_rules, ymi_Realm_rules, ymk_Realm_rules⟩, Realm_land_on := ⟨_, _, FM_Realm_land_on, bM_Realm_land_on, yma_Realm_land_on, ymi_Realm_land_on, ymk_Realm_land_on⟩, oc_Realm := yoc_Realm, om_Realm := yom_Realm, oi_Realm := yoi_Realm, ol_Realm := yol_Realm, on_Realm := yon_Realm, osp := ysp, otk := ytk, C_YearError := C_YearError, g_YearError := PySem.W.mg_of X G yE_YearError, C_NoLand := C_NoLand, g_NoLand := PySem.W.mg_of X G yE_NoLand, C_NoYear := C_NoYear, g_NoYear := PySem.W.mg_of X G yE_NoYear, C_NoDay := C_NoDay, g_NoDay := PySem.W.mg_of X G yE_NoDay, C_NoPlace := C_NoPlace, g_NoPlace := PySem.W.mg_of X G yE_NoPlace, C_NoWeek := C_NoWeek, g_NoWeek := PySem.W.mg_of X G yE_NoWeek, C_NoName := C_NoName, g_NoName := PySem.W.mg_of X G yE_NoName, C_NoSeen := C_NoSeen, g_NoSeen := PySem.W.mg_of X G yE_NoSeen, C_NoNumber := C_NoNumber, g_NoNumber := PySem.W.mg_of X G yE_NoNumber, C_NothingLeft := C_NothingLeft, g_NothingLeft := PySem.W.mg_of X G yE_NothingLeft, err_NoLand := ⟨yx_NoLand, yk_NoLand, ysb_NoLand, ytp_NoLand, ⟨yga_NoLand, ygt_NoLand, ysb_NoLand, yhd_NoLand, yca_NoLand, ysp, ytk, ymr_NoLand⟩, yem_NoLand⟩, ki_NoLand_NoLand := yki_NoLand_NoLand, ki_NoLand_NoYear := yki_NoLand_NoYear, ki_NoLand_NoDay := yki_NoLand_NoDay, ki_NoLand_NoPlace := yki_NoLand_NoPlace, ki_NoLand_NoWeek := yki_NoLand_NoWeek, ki_NoLand_NoName := yki_NoLand_NoName, ki_NoLand_NoSeen := yki_NoLand_NoSeen, ki_NoLand_NoNumber := yki_NoLand_NoNumber, ki_NoLand_NothingLeft := yki_NoLand_NothingLeft, ki_NoLand_V := yki_NoLand_V, err_NoYear := ⟨yx_NoYear, yk_NoYear, ysb_NoYear, ytp_NoYear, ⟨yga_NoYear, ygt_NoYear, ysb_NoYear, yhd_NoYear, yca_NoYear, ysp, ytk, ymr_NoYear⟩, yem_NoYear⟩, ki_NoYear_NoLand := yki_NoYear_NoLand, ki_NoYear_NoYear := yki_NoYear_NoYear, ki_NoYear_NoDay := yki_NoYear_NoDay, ki_NoYear_NoPlace := yki_NoYear_NoPlace, ki_NoYear_NoWeek := yki_NoYear_NoWeek, ki_NoYear_NoName := yki_NoYear_NoName, ki_NoYear_NoSeen := yki_NoYear_NoSeen, ki_NoYear_NoNumber := yki_NoYear_NoNumber, ki_NoYear_NothingLeft := yki_NoYear_NothingLeft, ki_NoYear_V := yki_NoYear_V, err_NoDay := ⟨yx_NoDay, yk_NoDay, ysb_NoDay, ytp_NoDay, ⟨yga_NoDay, ygt_NoDay, ysb_NoDay, yhd_NoDay, yca_NoDay, ysp, ytk, ymr_NoDay⟩, yem_NoDay⟩, ki_NoDay_NoLand := yki_NoDay_NoLand, ki_NoDay_NoYear := yki_NoDay_NoYear, ki_NoDay_NoDay := yki_NoDay_NoDay, ki_NoDay_NoPlace := yki_NoDay_NoPlace, ki_NoDay_NoWeek := yki_NoDay_NoWeek, ki_NoDay_NoName := yki_NoDay_NoName, ki_NoDay_NoSeen := yki_NoDay_NoSeen, ki_NoDay_NoNumber := yki_NoDay_NoNumber, ki_NoDay_NothingLeft := yki_NoDay_NothingLeft, ki_NoDay_V := yki_NoDay_V, err_NoPlace := ⟨yx_NoPlace, yk_NoPlace, ysb_NoPlace, ytp_NoPlace, ⟨yga_NoPlace, ygt_NoPlace, ysb_NoPlace, yhd_NoPlace, yca_NoPlace, ysp, ytk, ymr_NoPlace⟩, yem_NoPlace⟩, ki_NoPlace_NoLand := yki_NoPlace_NoLand, ki_NoPlace_NoYear := yki_NoPlace_NoYear, ki_NoPlace_NoDay := yki_NoPlace_NoDay, ki_NoPlace_NoPlace := yki_NoPlace_NoPlace, ki_NoPlace_NoWeek := yki_NoPlace_NoWeek, ki_NoPlace_NoName := yki_NoPlace_NoName, ki_NoPlace_NoSeen := yki_NoPlace_NoSeen, ki_NoPlace_NoNumber := yki_NoPlace_NoNumber, ki_NoPlace_NothingLeft := yki_NoPlace_NothingLeft, ki_NoPlace_V := yki_NoPlace_V, err_NothingLeft := ⟨yx_NothingLeft, yk_NothingLeft, ysb_NothingLeft, ytp_NothingLeft, ⟨yga_NothingLeft, ygt_NothingLeft, ysb_NothingLeft, yhd_NothingLeft, yca_NothingLeft, ysp, ytk, ymr_NothingLeft⟩, yem_NothingLeft⟩, ki_NothingLeft_NoLand := yki_NothingLeft_NoLand, ki_NothingLeft_NoYear := yki_NothingLeft_NoYear, ki_NothingLeft_NoDay := yki_NothingLeft_NoDay, ki_NothingLeft_NoPlace := yki_NothingLeft_NoPlace, ki_NothingLeft_NoWeek := yki_NothingLeft_NoWeek, ki_NothingLeft_NoName := yki_NothingLeft_NoName, ki_NothingLeft_NoSeen := yki_NothingLeft_NoSeen, ki_NothingLeft_NoNumber := yki_NothingLeft_NoNumber, ki_NothingLeft_NothingLeft := yki_NothingLeft_NothingLeft, ki_NothingLeft_V := yki_NothingLeft_V }
  subst ycl27
  subst ycl29
  have every : ∀ {R : Addr × Addr → Prop}, R (cL27, PT27) → R (cL29, PT29) → ∀ p ∈ [(cL27, PT27), (cL29, PT29)], R p := fun r27 r29 p hp => by
    simp only [List.mem_cons, List.not_mem_nil, or_false] at hp
    rcases hp with rfl | rfl
    · exact r27
    · exact r29
  let cs : List (Addr × Str) := [(PT27, ("_law_do" : Str) ++ ".<locals>." ++ "<lambda>"), (PT29, ("law" : Str) ++ ".<locals>." ++ "<lambda>")]
  have tabs : ∀ H : Hp, (∀ p ∈ [(cL27, PT27), (cL29, PT29)], H p.2 = some (.tbl #[])) → LamX.Tabs cs H := fun H ht p hp => by
    rcases List.mem_cons.mp hp with rfl | hp; exact LamX.TabS.nil (ht (cL27, PT27) (List.mem_cons_self ..))
    rcases List.mem_cons.mp hp with rfl | hp; exact LamX.TabS.nil (ht (cL29, PT29) (List.mem_cons_of_mem _ (List.mem_cons_self ..)))
    cases hp
  exact ⟨PySem.W.fnOf "law" "law" (defArgs s_law) (defBody s_law) (defScope s_law) .none kV29 dc29 pm29 an29 (.ref cL29) ct29, [(cL27, PT27), (cL29, PT29)], spLawC K cs, every ytab27 ytab29, every ynl27 ynl29, every (PySem.W.codeHd_of_K X ych27) (PySem.W.codeHd_of_K X ych29), fun s v => .of_eq rfl, fun H a ns hl _ ht hS => ⟨a, ns, rfl, hS, hl, tabs H ht, fun _ => rfl⟩, fun base _ _ tb => ok_law T (cs := cs) ⟨cL27, PT27, ⟨_, _, _, _, _, _, _, _, rfl, yl27, yc27⟩, tb (cL27, PT27) (List.mem_cons_self ..), (List.mem_cons_self ..), one_of (cs := cs) ynd (List.mem_cons_self ..)⟩ ⟨cL29, PT29, ⟨_, _, _, _, _, _, _, _, rfl, yl29, yc29⟩, tb (cL29, PT29) (List.mem_cons_of_mem _ (List.mem_cons_self ..)), (List.mem_cons_of_mem _ (List.mem_cons_self ..)), one_of (cs := cs) ynd (List.mem_cons_of_mem _ (List.mem_cons_self ..))⟩⟩
end LY
open PySem PySem.W PyProof.Rows
set_option maxHeartbeats 0 in
theorem PySem.Challenge.cw_longyears_k11_whole_a_realm_changes_its_holds : PySem.Challenge.rw_longyears_k11_whole_a_realm_changes_its.Holds := by
  w_on; o_law; k_head; (case hw => w_witness2)
  k_fill
  refine LamX.walk_ofTs (l := PySem.Challenge.rw_longyears_k11_whole_a_realm_changes_its) (n := 63) (k := 9) (x := "script") (CX := fun _ => L2.CX0) rfl (by decide) rfl ⟨rfl, by decide, by decide⟩ (fun w h Y => PySem.W.km_in_of Y) ?F (fun _ _ _ _ _ h => h)
  case F =>
    intro w mg fa h Y KX G hmg
    have tab := km_tabs_of Y
    refine' LY.all_mk KX G hmg ?ya0 ?yl0 ?yc0 ?yk0 ?ya1 ?yl1 ?yc1 ?yk1 ?ya2 ?yl2 ?yc2 ?yk2 ?ya3 ?yl3 ?yc3 ?yk3 ?ya4 ?yl4 ?yc4 ?yk4 ?ya5 ?yl5 ?yc5 ?yk5 ?ya6 ?yl6 ?yc6 ?yk6 ?ya7 ?yl7 ?yc7 ?yk7 ?ya8 ?yl8 ?yc8 ?yk8 ?ya9 ?yl9 ?yc9 ?yk9 ?ya10 ?yl10 ?yc10 ?yk10 ?ya11 ?yl11 ?yc11 ?yk11 ?ya12 ?yl12 ?yc12 ?yk12 ?ya13 ?yl13 ?yc13 ?yk13 ?ya14 ?yl14 ?yc14 ?yk14 ?ya15 ?yl15 ?yc15 ?yk15 ?ya16 ?yl16 ?yc16 ?yk16 ?ya17 ?yl17 ?yc17 ?yk17 ?ya18 ?yl18 ?yc18 ?yk18 ?ya19 ?yl19 ?yc19 ?yk19 ?ya20 ?yl20 ?yc20 ?yk20 ?ya21 ?yl21 ?yc21 ?yk21 ?ya22 ?yl22 ?yc22 ?yk22 ?ya23 ?yl23 ?yc23 ?yk23 ?ya24 ?yl24 ?yc24 ?yk24 ?ya25 ?yl25 ?yc25 ?yk25 ?ya26 ?yl26 ?yc26 ?yk26 ?ya27 ?yl27 ?yc27 ?yk27 ?ya28 ?yl28 ?yc28 ?yk28 ?ya29 ?yl29 ?yc29 ?yk29 ?ycst0 ?ycst1 ?ycst2 ?ycst3 ?yz0 ?yz1 ?yz2 ?yz3 ?yz4 ?yz5 ?yz6 ?yz7 ?yz8 ?yz9 ?yz10 ?yz11 ?yz12 ?yz13 ?yC_Realm ?ypg_Realm ?yhd_Realm ?ypo_Realm ?ysa_Realm ?ymk_Realm ?ykc_Realm ?ynf_Realm_pairs ?yma_Realm_init ?ymi_Realm_init ?yml_Realm_init ?ymc_Realm_init ?ymk_Realm_init ?yma_Realm_change ?ymi_Realm_change ?yml_Realm_change ?ymc_Realm_change ?ymk_Realm_change ?yma_Realm_back ?ymi_Realm_back ?yml_Realm_back ?ymc_Realm_back ?ymk_Realm_back ?yma_Realm_date ?ymi_Realm_date ?yml_Realm_date ?ymc_Realm_date ?ymk_Realm_date ?yma_Realm_days_of ?ymi_Realm_days_of ?yml_Realm_days_of ?ymc_Realm_days_of ?ymk_Realm_days_of ?yma_Realm_lands ?ymi_Realm_lands ?yml_Realm_lands ?ymc_Realm_lands ?ymk_Realm_lands ?yma_Realm_len ?ymi_Realm_len ?yml_Realm_len ?ymc_Realm_len ?ymk_Realm_len ?yma_Realm_eq ?ymi_Realm_eq ?yml_Realm_eq ?ymc_Realm_eq ?ymk_Realm_eq ?yma_Realm_is_later ?ymi_Realm_is_later ?yml_Realm_is_later ?ymc_Realm_is_later ?ymk_Realm_is_later ?yma_Realm_rules ?ymi_Realm_rules ?yml_Realm_rules ?ymc_Realm_rules ?ymk_Realm_rules ?yma_Realm_land_on ?ymi_Realm_land_on ?yml_Realm_land_on ?ymc_Realm_land_on ?ymk_Realm_land_on ?yoc_Realm ?yom_Realm ?yoi_Realm ?yol_Realm ?yon_Realm ?yE_YearError ?yE_NoLand ?yE_NoYear ?yE_NoDay ?yE_NoPlace ?yE_NoWeek ?yE_NoName ?yE_NoSeen ?yE_NoNumber ?yE_NothingLeft ?ysp ?ytk ?yx_NoLand ?yk_NoLand ?ysb_NoLand ?ytp_NoLand ?yga_NoLand ?ygt_NoLand ?yhd_NoLand ?yca_NoLand ?ymr_NoLand ?yem_NoLand ?yki_NoLand_NoLand ?yki_NoLand_NoYear ?yki_NoLand_NoDay ?yki_NoLand_NoPlace ?yki_NoLand_NoWeek ?yki_NoLand_NoName ?yki_NoLand_NoSeen ?yki_NoLand_NoNumber ?yki_NoLand_NothingLeft ?yki_NoLand_V ?yx_NoYear ?yk_NoYear ?ysb_NoYear ?ytp_NoYear ?yga_NoYear ?ygt_NoYear ?yhd_NoYear ?yca_NoYear ?ymr_NoYear ?yem_NoYear ?yki_NoYear_NoLand ?yki_NoYear_NoYear ?yki_NoYear_NoDay ?yki_NoYear_NoPlace ?yki_NoYear_NoWeek ?yki_NoYear_NoName ?yki_NoYear_NoSeen ?yki_NoYear_NoNumber ?yki_NoYear_NothingLeft ?yki_NoYear_V ?yx_NoDay ?yk_NoDay ?ysb_NoDay ?ytp_NoDay ?yga_NoDay ?ygt_NoDay ?yhd_NoDay ?yca_NoDay ?ymr_NoDay ?yem_NoDay ?yki_NoDay_NoLand ?yki_NoDay_NoYear ?yki_NoDay_NoDay ?yki_NoDay_NoPlace ?yki_NoDay_NoWeek ?yki_NoDay_NoName ?yki_NoDay_NoSeen ?yki_NoDay_NoNumber ?yki_NoDay_NothingLeft ?yki_NoDay_V ?yx_NoPlace ?yk_NoPlace ?ysb_NoPlace ?ytp_NoPlace ?yga_NoPlace ?ygt_NoPlace ?yhd_NoPlace ?yca_NoPlace ?ymr_NoPlace ?yem_NoPlace ?yki_NoPlace_NoLand ?yki_NoPlace_NoYear ?yki_NoPlace_NoDay ?yki_NoPlace_NoPlace ?yki_NoPlace_NoWeek ?yki_NoPlace_NoName ?yki_NoPlace_NoSeen ?yki_NoPlace_NoNumber ?yki_NoPlace_NothingLeft ?yki_NoPlace_V ?yx_NothingLeft ?yk_NothingLeft ?ysb_NothingLeft ?ytp_NothingLeft ?yga_NothingLeft ?ygt_NothingLeft ?yhd_NothingLeft ?yca_NothingLeft ?ymr_NothingLeft ?yem_NothingLeft ?yki_NothingLeft_NoLand ?yki_NothingLeft_NoYear ?yki_NothingLeft_NoDay ?yki_NothingLeft_NoPlace ?yki_NothingLeft_NoWeek ?yki_NothingLeft_NoName ?yki_NothingLeft_NoSeen ?yki_NothingLeft_NoNumber ?yki_NothingLeft_NothingLeft ?yki_NothingLeft_V ?ycl27 ?ych27 ?ynl27 (tab _ (List.mem_cons_self ..)) ?ycl29 ?ych29 ?ynl29 (tab _ (List.mem_cons_of_mem _ (List.mem_cons_self ..))) ?ynd
    (case ya0 => k_is)
    (case yl0 => k_is)
    (case yc0 => k_is)
    (case yk0 => k_is)
    (case ya1 => k_is)
    (case yl1 => k_is)
    (case yc1 => k_is)
    (case yk1 => k_is)
    (case ya2 => k_is)
    (case yl2 => k_is)
    (case yc2 => k_is)
    (case yk2 => k_is)
    (case ya3 => k_is)
    (case yl3 => k_is)
    (case yc3 => k_is)
    (case yk3 => k_is)
    (case ya4 => k_is)
    (case yl4 => k_is)
    (case yc4 => k_is)
    (case yk4 => k_is)
    (case ya5 => k_is)
    (case yl5 => k_is)
    (case yc5 => k_is)
    (case yk5 => k_is)
    (case ya6 => k_is)
    (case yl6 => k_is)
    (case yc6 => k_is)
    (case yk6 => k_is)
    (case ya7 => k_is)
    (case yl7 => k_is)
    (case yc7 => k_is)
    (case yk7 => k_is)
    (case ya8 => k_is)
    (case yl8 => k_is)
    (case yc8 => k_is)
    (case yk8 => k_is)
    (case ya9 => k_is)
    (case yl9 => k_is)
    (case yc9 => k_is)
    (case yk9 => k_is)
    (case ya10 => k_is)
    (case yl10 => k_is)
    (case yc10 => k_is)
    (case yk10 => k_is)
    (case ya11 => k_is)
    (case yl11 => k_is)
    (case yc11 => k_is)
    (case yk11 => k_is)
    (case ya12 => k_is)
    (case yl12 => k_is)
    (case yc12 => k_is)
    (case yk12 => k_is)
    (case ya13 => k_is)
    (case yl13 => k_is)
    (case yc13 => k_is)
    (case yk13 => k_is)
    (case ya14 => k_is)
    (case yl14 => k_is)
    (case yc14 => k_is)
    (case yk14 => k_is)
    (case ya15 => k_is)
    (case yl15 => k_is)
    (case yc15 => k_is)
    (case yk15 => k_is)
    (case ya16 => k_is)
    (case yl16 => k_is)
    (case yc16 => k_is)
    (case yk16 => k_is)
    (case ya17 => k_is)
    (case yl17 => k_is)
    (case yc17 => k_is)
    (case yk17 => k_is)
    (case ya18 => k_is)
    (case yl18 => k_is)
    (case yc18 => k_is)
    (case yk18 => k_is)
    (case ya19 => k_is)
    (case yl19 => k_is)
    (case yc19 => k_is)
    (case yk19 => k_is)
    (case ya20 => k_is)
    (case yl20 => k_is)
    (case yc20 => k_is)
    (case yk20 => k_is)
    (case ya21 => k_is)
    (case yl21 => k_is)
    (case yc21 => k_is)
    (case yk21 => k_is)
    (case ya22 => k_is)
    (case yl22 => k_is)
    (case yc22 => k_is)
    (case yk22 => k_is)
    (case ya23 => k_is)
    (case yl23 => k_is)
    (case yc23 => k_is)
    (case yk23 => k_is)
    (case ya24 => k_is)
    (case yl24 => k_is)
    (case yc24 => k_is)
    (case yk24 => k_is)
    (case ya25 => k_is)
    (case yl25 => k_is)
    (case yc25 => k_is)
    (case yk25 => k_is)
    (case ya26 => k_is)
    (case yl26 => k_is)
    (case yc26 => k_is)
    (case yk26 => k_is)
    (case ya27 => k_is)
    (case yl27 => k_is)
    (case yc27 => k_is)
    (case yk27 => k_is)
    (case ya28 => k_is)
    (case yl28 => k_is)
    (case yc28 => k_is)
    (case yk28 => k_is)
    (case ya29 => k_is)
    (case yl29 => k_is)
    (case yc29 => k_is)
    (case yk29 => k_is)
    (case ycst0 => k_is)
    (case ycst1 => k_is)
    (case ycst2 => k_is)
    (case ycst3 => k_is)
    (case yz0 => k_is)
    (case yz1 => k_is)
    (case yz2 => k_is)
    (case yz3 => k_is)
    (case yz4 => k_is)
    (case yz5 => k_is)
    (case yz6 => k_is)
    (case yz7 => k_is)
    (case yz8 => k_is)
    (case yz9 => k_is)
    (case yz10 => k_is)
    (case yz11 => k_is)
    (case yz12 => k_is)
    (case yz13 => k_is)
    (case yC_Realm => k_is)
    (case ypg_Realm => k_is)
    (case yhd_Realm => k_is)
    (case ypo_Realm => k_is)
    (case ysa_Realm => k_is)
    (case ymk_Realm => k_is)
    (case ykc_Realm => k_is)
    (case ynf_Realm_pairs => k_is)
    (case yma_Realm_init => k_is)
    (case ymi_Realm_init => k_is)
    (case yml_Realm_init => k_is)
    (case ymc_Realm_init => k_is)
    (case ymk_Realm_init => k_is)
    (case yma_Realm_change => k_is)
    (case ymi_Realm_change => k_is)
    (case yml_Realm_change => k_is)
    (case ymc_Realm_change => k_is)
    (case ymk_Realm_change => k_is)
    (case yma_Realm_back => k_is)
    (case ymi_Realm_back => k_is)
    (case yml_Realm_back => k_is)
    (case ymc_Realm_back => k_is)
    (case ymk_Realm_back => k_is)
    (case yma_Realm_date => k_is)
    (case ymi_Realm_date => k_is)
    (case yml_Realm_date => k_is)
    (case ymc_Realm_date => k_is)
    (case ymk_Realm_date => k_is)
    (case yma_Realm_days_of => k_is)
    (case ymi_Realm_days_of => k_is)
    (case yml_Realm_days_of => k_is)
    (case ymc_Realm_days_of => k_is)
    (case ymk_Realm_days_of => k_is)
    (case yma_Realm_lands => k_is)
    (case ymi_Realm_lands => k_is)
    (case yml_Realm_lands => k_is)
    (case ymc_Realm_lands => k_is)
    (case ymk_Realm_lands => k_is)
    (case yma_Realm_len => k_is)
    (case ymi_Realm_len => k_is)
    (case yml_Realm_len => k_is)
    (case ymc_Realm_len => k_is)
    (case ymk_Realm_len => k_is)
    (case yma_Realm_eq => k_is)
    (case ymi_Realm_eq => k_is)
    (case yml_Realm_eq => k_is)
    (case ymc_Realm_eq => k_is)
    (case ymk_Realm_eq => k_is)
    (case yma_Realm_is_later => k_is)
    (case ymi_Realm_is_later => k_is)
    (case yml_Realm_is_later => k_is)
    (case ymc_Realm_is_later => k_is)
    (case ymk_Realm_is_later => k_is)
    (case yma_Realm_rules => k_is)
    (case ymi_Realm_rules => k_is)
    (case yml_Realm_rules => k_is)
    (case ymc_Realm_rules => k_is)
    (case ymk_Realm_rules => k_is)
    (case yma_Realm_land_on => k_is)
    (case ymi_Realm_land_on => k_is)
    (case yml_Realm_land_on => k_is)
    (case ymc_Realm_land_on => k_is)
    (case ymk_Realm_land_on => k_is)
    (case yoc_Realm => k_is)
    (case yom_Realm => k_is)
    (case yoi_Realm => first | rfl | decide +kernel | kernel_rfl)
    (case yol_Realm => first | rfl | decide +kernel | kernel_rfl)
    (case yon_Realm => first | rfl | decide +kernel | kernel_rfl)
    (case yE_YearError => k_is)
    (case yE_NoLand => k_is)
    (case yE_NoYear => k_is)
    (case yE_NoDay => k_is)
    (case yE_NoPlace => k_is)
    (case yE_NoWeek => k_is)
    (case yE_NoName => k_is)
    (case yE_NoSeen => k_is)
    (case yE_NoNumber => k_is)
    (case yE_NothingLeft => k_is)
    (case ysp => k_is)
    (case ytk => k_is)
    (case yx_NoLand => k_exc)
    (case yk_NoLand => k_is)
    (case ysb_NoLand => k_is)
    (case ytp_NoLand => k_is)
    (case yga_NoLand => k_is)
    (case ygt_NoLand => k_is)
    (case yhd_NoLand => k_is)
    (case yca_NoLand => k_is)
    (case ymr_NoLand => k_is)
    (case yem_NoLand => first | rfl | decide +kernel | kernel_rfl)
    (case yki_NoLand_NoLand => first | rfl | decide +kernel | kernel_rfl)
    (case yki_NoLand_NoYear => first | rfl | decide +kernel | kernel_rfl)
    (case yki_NoLand_NoDay => first | rfl | decide +kernel | kernel_rfl)
    (case yki_NoLand_NoPlace => first | rfl | decide +kernel | kernel_rfl)
    (case yki_NoLand_NoWeek => first | rfl | decide +kernel | kernel_rfl)
    (case yki_NoLand_NoName => first | rfl | decide +kernel | kernel_rfl)
    (case yki_NoLand_NoSeen => first | rfl | decide +kernel | kernel_rfl)
    (case yki_NoLand_NoNumber => first | rfl | decide +kernel | kernel_rfl)
    (case yki_NoLand_NothingLeft => first | rfl | decide +kernel | kernel_rfl)
    (case yki_NoLand_V => first | rfl | decide +kernel | kernel_rfl)
    (case yx_NoYear => k_exc)
    (case yk_NoYear => k_is)
    (case ysb_NoYear => k_is)
    (case ytp_NoYear => k_is)
    (case yga_NoYear => k_is)
    (case ygt_NoYear => k_is)
    (case yhd_NoYear => k_is)
    (case yca_NoYear => k_is)
    (case ymr_NoYear => k_is)
    (case yem_NoYear => first | rfl | decide +kernel | kernel_rfl)
    (case yki_NoYear_NoLand => first | rfl | decide +kernel | kernel_rfl)
    (case yki_NoYear_NoYear => first | rfl | decide +kernel | kernel_rfl)
    (case yki_NoYear_NoDay => first | rfl | decide +kernel | kernel_rfl)
    (case yki_NoYear_NoPlace => first | rfl | decide +kernel | kernel_rfl)
    (case yki_NoYear_NoWeek => first | rfl | decide +kernel | kernel_rfl)
    (case yki_NoYear_NoName => first | rfl | decide +kernel | kernel_rfl)
    (case yki_NoYear_NoSeen => first | rfl | decide +kernel | kernel_rfl)
    (case yki_NoYear_NoNumber => first | rfl | decide +kernel | kernel_rfl)
    (case yki_NoYear_NothingLeft => first | rfl | decide +kernel | kernel_rfl)
    (case yki_NoYear_V => first | rfl | decide +kernel | kernel_rfl)
    (case yx_NoDay => k_exc)
    (case yk_NoDay => k_is)
    (case ysb_NoDay => k_is)
    (case ytp_NoDay => k_is)
    (case yga_NoDay => k_is)
    (case ygt_NoDay => k_is)
    (case yhd_NoDay => k_is)
    (case yca_NoDay => k_is)
    (case ymr_NoDay => k_is)
    (case yem_NoDay => first | rfl | decide +kernel | kernel_rfl)
    (case yki_NoDay_NoLand => first | rfl | decide +kernel | kernel_rfl)
    (case yki_NoDay_NoYear => first | rfl | decide +kernel | kernel_rfl)
    (case yki_NoDay_NoDay => first | rfl | decide +kernel | kernel_rfl)
    (case yki_NoDay_NoPlace => first | rfl | decide +kernel | kernel_rfl)
    (case yki_NoDay_NoWeek => first | rfl | decide +kernel | kernel_rfl)
    (case yki_NoDay_NoName => first | rfl | decide +kernel | kernel_rfl)
    (case yki_NoDay_NoSeen => first | rfl | decide +kernel | kernel_rfl)
    (case yki_NoDay_NoNumber => first | rfl | decide +kernel | kernel_rfl)
    (case yki_NoDay_NothingLeft => first | rfl | decide +kernel | kernel_rfl)
    (case yki_NoDay_V => first | rfl | decide +kernel | kernel_rfl)
    (case yx_NoPlace => k_exc)
    (case yk_NoPlace => k_is)
    (case ysb_NoPlace => k_is)
    (case ytp_NoPlace => k_is)
    (case yga_NoPlace => k_is)
    (case ygt_NoPlace => k_is)
    (case yhd_NoPlace => k_is)
    (case yca_NoPlace => k_is)
    (case ymr_NoPlace => k_is)
    (case yem_NoPlace => first | rfl | decide +kernel | kernel_rfl)
    (case yki_NoPlace_NoLand => first | rfl | decide +kernel | kernel_rfl)
    (case yki_NoPlace_NoYear => first | rfl | decide +kernel | kernel_rfl)
    (case yki_NoPlace_NoDay => first | rfl | decide +kernel | kernel_rfl)
    (case yki_NoPlace_NoPlace => first | rfl | decide +kernel | kernel_rfl)
    (case yki_NoPlace_NoWeek => first | rfl | decide +kernel | kernel_rfl)
    (case yki_NoPlace_NoName => first | rfl | decide +kernel | kernel_rfl)
    (case yki_NoPlace_NoSeen => first | rfl | decide +kernel | kernel_rfl)
    (case yki_NoPlace_NoNumber => first | rfl | decide +kernel | kernel_rfl)
    (case yki_NoPlace_NothingLeft => first | rfl | decide +kernel | kernel_rfl)
    (case yki_NoPlace_V => first | rfl | decide +kernel | kernel_rfl)
    (case yx_NothingLeft => k_exc)
    (case yk_NothingLeft => k_is)
    (case ysb_NothingLeft => k_is)
    (case ytp_NothingLeft => k_is)
    (case yga_NothingLeft => k_is)
    (case ygt_NothingLeft => k_is)
    (case yhd_NothingLeft => k_is)
    (case yca_NothingLeft => k_is)
    (case ymr_NothingLeft => k_is)
    (case yem_NothingLeft => first | rfl | decide +kernel | kernel_rfl)
    (case yki_NothingLeft_NoLand => first | rfl | decide +kernel | kernel_rfl)
    (case yki_NothingLeft_NoYear => first | rfl | decide +kernel | kernel_rfl)
    (case yki_NothingLeft_NoDay => first | rfl | decide +kernel | kernel_rfl)
    (case yki_NothingLeft_NoPlace => first | rfl | decide +kernel | kernel_rfl)
    (case yki_NothingLeft_NoWeek => first | rfl | decide +kernel | kernel_rfl)
    (case yki_NothingLeft_NoName => first | rfl | decide +kernel | kernel_rfl)
    (case yki_NothingLeft_NoSeen => first | rfl | decide +kernel | kernel_rfl)
    (case yki_NothingLeft_NoNumber => first | rfl | decide +kernel | kernel_rfl)
    (case yki_NothingLeft_NothingLeft => first | rfl | decide +kernel | kernel_rfl)
    (case yki_NothingLeft_V => first | rfl | decide +kernel | kernel_rfl)
    (case ycl27 => rfl)
    (case ych27 => first | rfl | decide +kernel | kernel_rfl)
    (case ynl27 => first | rfl | decide +kernel | kernel_rfl)
    (case ycl29 => rfl)
    (case ych29 => first | rfl | decide +kernel | kernel_rfl)
    (case ynl29 => first | rfl | decide +kernel | kernel_rfl)
    (case ynd => first | decide | decide +kernel)
