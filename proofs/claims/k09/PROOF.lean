import PyProof.Rows.All
import Wide.All
import OpenK.AllK
import Wide.FinOn
import HandS.ForMost
import HandS.IsInst
import HandS.Wide
import HandS.Evl
import HandS.TupAny
import HandS.Style
import HandS.Walk
import HandS.WideBits
import HandS.Conv
import HandS.SortKw
import KE.DataMinMax
import HandS.Comp
import HandS.SetFor
import HandS.SortInts
import HandS.Strs
import KE.GoesMore
import PyProof.LongRange
import HandS.Lambda
import HandS.EndTab
import HandS.HotCalls
import HandS.ExcIs
import HandS.ExcOwn
import HandS.Zip
import HandS.ExcCtx
import KE.GoesZip
import KE.GoesComp
import KE.GoesEnum
import KE.GoesNew
import HandS.TupSets
import HandS.Deep
import HandS.TupMul
import PySem.Challenge.RW_longyears_k09_whole_lands_told_back
set_option Elab.async false
set_option linter.all false
set_option maxRecDepth 100000
set_option maxHeartbeats 4200000
namespace LY
open PySem PySem.Spec PyProof.Rows L2 Evl

/-! ### own bridges: whatever the library walks, as something that a loop of the hand layer walks -/
/-- n values f 0, f 1, .., the heap left alone -/
def ItF (n : Nat) (f : Nat → V) : It where
  go i _ := i < n
  yld i H x H' := H' = H ∧ x = f i
  stop i _ := i = n
theorem walk_itF {n : Nat} {f : Nat → V} : Walk (ItF n f) n (fun _ => True) (YFn f) :=
  { goes := fun _ _ h _ => h, stops := fun _ _ => rfl, yields := fun _ _ _ _ _ _ y => y }
/-- one record that the walk turns, which keeps no tuple of its own -/
def Lone (St : Nat → Heap → Prop) (it : Addr) : Prop := ∀ i h, St i h → ∃ (o : Obj) (c : String) (vs : Array Value), h.get? it = some o ∧ o.cls = .type c ∧ o.data = .fields vs ∧
  ["enumerate", "zip", "dict_itemiterator", "dict_reverseitemiterator", "odict_iterator", "itertools.zip_longest", "itertools.pairwise"].contains c = false
theorem turn_lone {P : Program} {w : World} {K : PySem.W.Frag} {tg : Expr} {it : Addr} {n : Nat} {f : Nat → V} {Pv : Nat → Value → Prop} {St : Nat → Heap → Prop}
    (W : ∀ A : Around, A.handled = none → Walks P w A it [it] [it] n Pv St) (hv : ∀ i v, Pv i v → RelV (f i) v) (lone : Lone St it)
    (self : ∀ (A : Around) i (s : Shared) Q E, St i s.heap → Q (.ref it) s → wpAny (model P w) A (pyIter (.ref it)) Q E s) : Turn P w K tg (ItF n f) [it] it St := by
  have one : ∀ {b : Addr}, b ∈ [it] → b = it := fun hb => List.mem_singleton.mp hb
  refine { mem := List.mem_singleton.mpr rfl, obj := ?o, keep := ?k, item := ?i, done := ?d, self := ?s }
  case o =>
    rintro i h st b hb
    obtain ⟨o, c, vs, g1, _, g3, _⟩ := lone i h st
    exact ⟨o, one hb ▸ g1, fun v z => by rw [g3] at z; exact Data.noConfusion z⟩
  case k =>
    intro i h h' st kp
    exact (W { callerA with handled := none } rfl).frame i h h' st kp
  case i =>
    rintro X rfl rfl rfl calm i pins s σ H E I fp st lt
    have a := fp it (List.mem_singleton.mpr rfl)
    refine (W X.A (I.ok.hd calm)).item i s _ _ lt st fun v h2 tk pv st2 kp => ⟨v, rfl, ?_⟩
    obtain ⟨o, c, vs, g1, g2, g3, g4⟩ := lone _ _ st2
    exact go_of (s := { s with heap := h2, toks := tk }) g1 g2 g3 g4 ⟨f i, H, I.turned (fun b u hb e => kp b u (fun z => hb (one z)) e) a.1 a.2.1 a.2.2.2.1 a.2.2.2.2.1 a.2.2.2.2.2, hv i v pv, ⟨rfl, rfl⟩, st2, fun b hb => (fp b hb).1⟩
  case d =>
    rintro X rfl rfl rfl calm i pins s σ H E I fp st rfl
    have a := fp it (List.mem_singleton.mpr rfl)
    exact (W X.A (I.ok.hd calm)).done s _ _ st fun h2 tk kp => ⟨rfl, I.turned (fun b u hb e => kp b u (fun z => hb (one z)) e) a.1 a.2.1 a.2.2.2.1 a.2.2.2.2.1 a.2.2.2.2.2⟩
  case s => exact self
section
variable {X : Cx} {tg : Expr}
/-- range(a, b), whatever the size: the small iterator or the long one -/
def iSpan (ta : TA) : TI := fun σ H R => ta σ H fun vs H1 => ∃ a b : Int, vs = [.int a, .int b] ∧ R (ItF (b - a).toNat fun i => .int (a + i)) H1
theorem span_count (a b : Int) : ((b - a).toNat : Int) = Builtin.Range.rangeSize a b 1 := by
  rw [rangeSize_one]
  split
  · omega
  · omega
theorem span_start {pins : List (Addr × Obj)} {σ : L2.St} {H : Hp} {s : Shared} {R : It → Hp → Prop} {E : Value → Shared → Prop} {a b : Int} {t u v : Tok} {tk : Nat} (I : Inv X pins σ H s) (q : R (ItF (b - a).toNat fun i => .int (a + i)) H) :
    wpAny (model X.prog X.w) X.A (pyIter (.ref s.heap.objs.size)) (PIE X pins σ tg R) E { s with heap := s.heap.push { cls := .type "range", data := .fields #[.int a t, .int b u, .int 1 v] }, toks := tk } := by
  generalize hr : ({ cls := .type "range", data := .fields #[.int a t, .int b u, .int 1 v] } : Obj) = rg
  have J : Inv X pins σ H { s with heap := s.heap.push rg, toks := tk } := I.kept fun _ _ => Heap.get?_push_of_some _
  have rng : IsRange (s.heap.push rg) s.heap.objs.size a b 1 t u v := by
    subst hr
    exact IsRange.new ..
  have at0 : a + ((0 : Nat) : Int) * 1 = a := by omega
  have left : ((b - a).toNat : Int) - ((0 : Nat) : Int) = Builtin.Range.rangeSize a b 1 := by
    have := span_count a b
    omega
  have val : ∀ (i : Nat) (x : Value), (∃ t, x = .int (a + i * 1) t) → RelV (.int (a + i)) x := fun i x ⟨t, e⟩ => ⟨t, by rw [e, Int.mul_one]⟩
  have mine : ∀ c ∈ [(s.heap.push rg).objs.size], FpOk X pins H c := fun c hc => by
    rw [List.mem_singleton.mp hc]
    exact J.fpOk (Nat.le_refl _) (J.hok.fresh (Nat.le_refl _))
  cases sm : Builtin.Range.small a b 1
  · refine wpAny_pyIter_longrange (s := { s with heap := s.heap.push rg, toks := tk }) rng sm ⟨_, [_], _, _, H, rfl, J.kept (t' := tk) fun _ _ => Heap.get?_push_of_some _, turn_lone (fun A hA => Walks.longrange hA _ a 1 _) val (fun i h st => ⟨_, "longrange_iterator", _, st, rfl, rfl, rfl⟩) (fun A i s' Q E' st h => wpAny_pyIter_longiter st h), ?_, mine, q⟩
    show IsLongIter _ _ _ _ _
    rw [at0, left]
    apply Heap.get?_push_size
    rfl
  · refine wpAny_pyIter_range (s := { s with heap := s.heap.push rg, toks := tk }) rng sm ⟨_, [_], _, _, H, rfl, J.kept (t' := tk) fun _ _ => Heap.get?_push_of_some _, turn_lone (fun A hA => Walks.range hA _ a 1 _) val (fun i h st => ⟨_, "range_iterator", _, st, rfl, rfl, rfl⟩) (fun A i s' Q E' st h => wpAny_pyIter_rangeiter st h), ?_, mine, q⟩
    show IsRangeIter _ _ _ _ _
    rw [at0, left]
    apply Heap.get?_push_size
    rfl
theorem pi_span {a b : Expr} {ta : TA} {p pos : Pos} (gl : Gl X "range") (no : X.mg "range" = none) (args : PA X [a, b] ta) (two : starEach [a, b] X.env = [(false, eval a X.env), (false, eval b X.env)] := by rfl) (last : starEach [b] X.env = [(false, eval b X.env)] := by rfl) :
    PI X tg (.Call (.Name "range" p) [a, b] [] pos) (iSpan ta) := by
  constructor
  intro pins s σ H R I h
  have run := args.run pos pins s σ H _ I h
  refine Call_ (ld_blt I gl no boot_range (PyProof.Rows.callWith_type1 (thn run fun us s1 got => ?_) (by rw [two, last]) (by rw [last]; rfl)))
  obtain ⟨vs, H1, I1, rel, x, y, rfl, q⟩ := got
  obtain ⟨u1, u2, rfl, ⟨t1, rfl⟩, ⟨t2, rfl⟩⟩ := vals2 rel
  exact call_range_2 (span_start I1 q)
end

/-! ### enumerate of a tracked tuple, by the library's WalksT -/
/-- pairs (i, the i-th of xs), each new -/
def ItP (xs : List V) (t : Addr) : It where
  go i H := i < xs.length ∧ H t = some (.tup xs)
  yld i H v H' := ∃ p x, v = .ref p ∧ H p = none ∧ H' = upd H p (.tup [.int (i : Nat), x]) ∧ xs[i]? = some x
  stop i H := i = xs.length ∧ H t = some (.tup xs)
theorem walk_itP {xs : List V} {t : Addr} : Walk (ItP xs t) xs.length (fun H => H t = some (.tup xs)) (YPair (fun i => some (.int (i : Nat))) (fun i => xs[i]?)) :=
  { goes := fun _ _ h k => ⟨h, k⟩, stops := fun _ k => ⟨rfl, k⟩, yields := fun i _ _ _ _ _ ⟨p, x, h1, h2, h3, h4⟩ => ⟨p, .int (i : Nat), x, h1, h2, h3, rfl, h4⟩ }
theorem turn_pairs {P : Program} {w : World} {K : PySem.W.Frag} {elts : List Expr} {kk : Nat} {tpos : Pos} {xs : List V} {t e it : Addr} (ne : e ≠ it) :
    Turn P w K (.Tuple elts kk tpos) (ItP xs t) [e, it] e (fun i h => (∃ old, IsEnum h e it i old) ∧ h.IsTupleIter it t i) := by
  have me : e ∈ [e, it] := List.mem_cons_self ..
  have mi : it ∈ [e, it] := List.mem_cons_of_mem _ (List.mem_singleton.mpr rfl)
  refine { mem := me, obj := ?o, keep := ?k, item := ?i, done := ?d, self := ?s }
  case o =>
    rintro i h ⟨⟨old, he⟩, o, ho, hc, hd⟩ b hb
    refine (List.mem_cons.mp hb).elim (fun z => ?_) (fun z => ?_)
    · exact ⟨_, z ▸ he, fun v y => Data.noConfusion y⟩
    · exact ⟨o, List.mem_singleton.mp z ▸ ho, fun v y => by rw [hd] at y; exact Data.noConfusion y⟩
  case k => exact fun i h h' st kp => ⟨st.1.imp fun old he => kp e me _ he, st.2.at fun o g => kp it mi o g⟩
  case i =>
    rintro X rfl rfl rfl calm i pins s σ H E I fp ⟨en, ti⟩ ⟨lt, ht⟩
    obtain ⟨its, rel, tup, _⟩ := I.tuple (st_of ht)
    have te : t ≠ e := ne_of_none ht (fp e me).1
    have tt : t ≠ it := ne_of_none ht (fp it mi).1
    have size : its.toArray.size = xs.length := by rw [List.size_toArray, rel.length]
    have D := Draws.tuple (prog := X.prog) (w := X.w) (A := X.A.in1) (show X.A.in1.handled = none from I.ok.hd calm) it t tt its.toArray
    have W := WalksT.enumerateD D e ne (by simp [ne, Ne.symm te]) (by simp)
    obtain ⟨u, hu, ru⟩ := rel.get (List.getElem?_eq_getElem lt)
    refine W.item i s _ _ (by omega) ⟨en, ti, tup⟩ fun p vals h2 tk pv big isT mid kp => ⟨_, rfl, W.go elts kk tpos i p _ _ _ mid fun h3 st3 kp3 => ?_⟩
    obtain ⟨tok, y, hy, rfl⟩ := pv
    have same : y = u := Option.some.inj (hy.symm.trans (by simpa using hu))
    subst same
    have pf := W.apart i p h2 mid
    have isT3 : IsTup h3 p #[.int i tok, y] := isT.at fun o g => kp3 p o pf g
    have fresh : H p = none := I.hok.fresh big
    have J : Inv X pins σ (upd H p (.tup [.int (i : Nat), xs[i]])) { s with heap := h3, toks := tk } :=
      I.turnedNew (ch := [e, it]) (fun b o hb g => kp3 b o hb (kp b o hb g)) fp big ⟨by show 2 ≤ sizeLine; decide, [.int i tok, y], .cons ⟨tok, rfl⟩ (.cons ru .nil), isT3⟩
    refine ⟨.ref p, _, J, rfl, ⟨p, xs[i], rfl, fresh, rfl, List.getElem?_eq_getElem lt⟩, ⟨st3.1, st3.2.1⟩, fun b hb => ?_⟩
    have bp : b ≠ p := fun z => pf (z ▸ hb)
    rw [upd_ne bp]
    exact (fp b hb).1
  case d =>
    rintro X rfl rfl rfl calm i pins s σ H E I fp ⟨⟨old, he⟩, ti⟩ ⟨rfl, ht⟩
    obtain ⟨its, rel, tup, _⟩ := I.tuple (st_of ht)
    have size : xs.length = its.toArray.size := by rw [List.size_toArray, rel.length]
    rw [size] at he ti
    have tt : t ≠ it := ne_of_none ht (fp it mi).1
    have f := fp it mi
    exact wpAny_pyNext_enum_endD (Draws.tuple (show X.A.in1.handled = none from I.ok.hd calm) it t tt its.toArray) he ⟨ti, tup⟩ fun h2 kp => ⟨rfl, I.turned (t' := s.toks) kp f.1 f.2.1 f.2.2.2.1 f.2.2.2.2.1 f.2.2.2.2.2⟩
  case s => exact fun A i s Q E st h => st.1.elim fun _ he => wpAny_pyIter_enum he h

/-! ### enumerate(v) begun: over whatever the library says how iter(v) begins -/
def enumOf (it : Addr) : Obj := { cls := .type "enumerate", data := .fields #[.none, .bool false, .ref it, rawInt 0, .none, .none] }
theorem enum_made {v : Value} {o : Obj} {Hv : Heap → Prop} (B : Begins v o Hv) :
    Meets (Builtin.«enumerate.__new__» ⟨[.type "enumerate", v], []⟩) (fun _ R s => Hv s.heap ∧ R (.ok (.ret (.ref (s.heap.push o).objs.size))) { s with heap := (s.heap.push o).push (enumOf s.heap.objs.size) }) := by
  refine .of_wp fun prog w A R s hyp => ?_
  have sub := sub_enumerate
  rcases s with ⟨hp, gn, dr, tk, os⟩
  rcases hyp with ⟨hv, goal⟩
  have begun := fun (A' : Around) (E : Value → Shared → Prop) (Q : Value → Shared → Prop) => B.iter prog w A' E ⟨hp, gn, dr, tk, os⟩ Q hv
  wp_walk
  refine wpAny_stack_any fun _ => ?_
  refine wpAny_pure ?_
  split
  case _ c _ _ _ _ _ =>
    generalize (c == Value.type "enumerate") = same
    cases same
    all_goals wp_walk using begun
    all_goals exact ⟨_, rfl, goal⟩
  case _ =>
    wp_walk using begun
    exact ⟨_, rfl, goal⟩
theorem enum_call {prog : Program} {w : World} {A : Around} {E : Value → Shared → Prop} {s : Shared} {v : Value} {o : Obj} {Hv : Heap → Prop} {Q : Value → Shared → Prop} (B : Begins v o Hv) (hv : Hv s.heap)
    (q : IsEnum ((s.heap.push o).push (enumOf s.heap.objs.size)) (s.heap.objs.size + 1) s.heap.objs.size 0 .none → Q (.ref (s.heap.objs.size + 1)) { s with heap := (s.heap.push o).push (enumOf s.heap.objs.size) }) :
    wpAny (model prog w) A (call (.type "enumerate") [v]) Q E s := by
  have next : (s.heap.push o).objs.size = s.heap.objs.size + 1 := Heap.size_push ..
  have en : IsEnum ((s.heap.push o).push (enumOf s.heap.objs.size)) (s.heap.objs.size + 1) s.heap.objs.size 0 .none := next ▸ Heap.get?_push_size (s.heap.push o) rfl
  refine callType_new F.called_enumerate (by decide) (F.typeCall_enumerate_1 v) (F.newCall_enumerate_1 v) (fun x => F.args_object_init_2 x v) F.entry_enumerate_new (enum_made B) ⟨hv, ?_⟩
  rw [next]
  exact ⟨⟨_, en, rfl⟩, q en⟩
/-- enumerate of a list that is read, or of a tracked tuple -/
def iEnumS (K : PySem.W.Frag) (ta : TA) : TI := fun σ H R => ta σ H fun vs H1 => ∃ t xs, vs = [.ref t] ∧ ((SqL K H1 t xs ∧ R (Ite K t) H1) ∨ (H1 t = some (.tup xs) ∧ R (ItP xs t) H1))
theorem pi_enumS {X : Cx} {e : Expr} {ta : TA} {p pos tpos : Pos} {elts : List Expr} {kk : Nat} (gl : Gl X "enumerate") (no : X.mg "enumerate" = none) (arg : PA X [e] ta) (one : starEach [e] X.env = [(false, eval e X.env)] := by rfl) :
    PI X (.Tuple elts kk tpos) (.Call (.Name "enumerate" p) [e] [] pos) (iEnumS X.K ta) := by
  constructor
  intro pins s σ H R I h
  have run := arg.run pos pins s σ H _ I h
  refine Call_ (ld_blt I gl no boot_enumerate (PyProof.Rows.callWith_type1 (thn run fun us s1 got => ?_) one rfl))
  obtain ⟨vs, H1, I1, rel, t, xs, rfl, q⟩ := got
  obtain ⟨u, rfl, ru⟩ := vals1 rel
  obtain rfl : u = .ref t := ru
  have mine : ∀ c ∈ [s1.heap.objs.size + 1, s1.heap.objs.size], FpOk X pins H1 c := fun c hc => by
    have le : s1.heap.objs.size ≤ c := by
      simp only [List.mem_cons, List.not_mem_nil, or_false] at hc
      omega
    exact I1.fpOk le (I1.hok.fresh le)
  have grow : ∀ (a b : Obj) (c : Addr) (o : Obj), s1.heap.get? c = some o → ((s1.heap.push a).push b).get? c = some o := fun a b c o g => Heap.get?_push_of_some b (Heap.get?_push_of_some a g)
  have first : ∀ a b : Obj, a.isFreed = false → ((s1.heap.push a).push b).get? s1.heap.objs.size = some a := fun a b fr => Heap.get?_push_of_some b (Heap.get?_push_size _ fr)
  rcases q with ⟨hl, q⟩ | ⟨ht, q⟩
  · obtain ⟨its, _, pl, _⟩ := I1.list hl
    refine enum_call (begins_list t its.toArray) pl.isList fun en => wpAny_pyIter_enum en ⟨_, _, _, _, H1, rfl, I1.kept (t' := s1.toks) (grow _ _), turn_enum t _ _, ⟨⟨_, en⟩, ⟨_, first _ _ rfl, rfl, rfl⟩, Nat.succ_ne_self _⟩, mine, q⟩
  · obtain ⟨its, _, tu, _⟩ := I1.tuple (st_of ht)
    exact enum_call (begins_tuple t its.toArray) tu fun en => wpAny_pyIter_enum en ⟨_, _, _, _, H1, rfl, I1.kept (t' := s1.toks) (grow _ _), turn_pairs (Nat.succ_ne_self _), ⟨⟨_, en⟩, _, first _ _ rfl, rfl, rfl⟩, mine, q⟩

/-! ### xs + ys of lists that are read -/
section
variable {X : Cx}
def rCatL (K : PySem.W.Frag) : R2 := fun x y H Q => ∃ l b xs zs, x = .ref l ∧ y = .ref b ∧ SqL K H l xs ∧ SqL K H b zs ∧ xs.length + zs.length ≤ sizeLine ∧ ∀ p, H p = none → Q (.ref p) (upd H p (.lst (xs ++ zs)))
theorem op_catL : OpR X (binaryOp .Add) (rCatL X.K) := by
  rintro pins s σ H _ _ v u Q I rx ry ⟨l, b, xs, zs, rfl, rfl, ha, hb, hz, q⟩
  cases rx
  cases ry
  obtain ⟨i1, r1, p1, _⟩ := I.list ha
  obtain ⟨i2, r2, p2, _⟩ := I.list hb
  have g1 := r1.length
  have g2 := r2.length
  obtain ⟨⟨c1, dd1, dt1, s1⟩, o1, k1, m1, e1⟩ := p1.isList
  obtain ⟨⟨c2, dd2, dt2, s2⟩, o2, k2, m2, e2⟩ := p2.isList
  simp only at k1 e1 k2 e2
  subst k1 e1 k2 e2
  have ea : i1.toArray ++ i2.toArray = (i1 ++ i2).toArray := by simp
  refine concat_meets ⟨_, o1, rfl⟩ ⟨_, o2, rfl⟩ noFill_list_add seq_list_add PySem.F.slot_list_add PySem.F.entry_list_add (PySem.F.args_list_add_2 _ _)
    (list_addW l b i1.toArray i2.toArray m1 m2 dd1 dd2 s1 s2 (by rw [List.size_toArray, List.size_toArray]; omega)) ⟨o1, o2, ?_⟩
  rw [ea]
  exact ⟨.ref _, _, I.lnew (t' := s.toks) (r1.append r2) (by rw [List.length_append]; omega), rfl, q _ I.fresh⟩
end

/-! ### a truth and a number; a truth's text; a tuple from behind -/
section
variable {X : Cx}
theorem op_either {f : Value → Value → Sem Value} {r r' : R2} (h : OpR X f r) (h' : OpR X f r') : OpR X f (fun x y H Q => r x y H Q ∨ r' x y H Q) :=
  fun pins s σ H x y v u Q I rx ry q => q.elim (h pins s σ H x y v u Q I rx ry) (h' pins s σ H x y v u Q I rx ry)
/-- a truth, then a number -/
def rTN (g : Int → Int → Int) : R2 := fun x y H Q => ∃ (b : Bool) (j : Int), x = .bl b ∧ y = .int j ∧ Q (.int (g (if b = true then 1 else 0) j)) H
theorem op_addB : OpR X (binaryOp .Add) (rTN fun i j => i + j) := by
  rintro pins s σ H _ _ v u Q I rx ry ⟨b, j, rfl, rfl, q⟩
  obtain rfl : v = .bool b := rx
  obtain ⟨t, rfl⟩ : ∃ t, u = .int j t := ry
  exact PySem.IntBool.add_bool_int ⟨.int _, H, I.tok _, ⟨_, rfl⟩, q⟩
theorem op_subB : OpR X (binaryOp .Sub) (rTN fun i j => i - j) := by
  rintro pins s σ H _ _ v u Q I rx ry ⟨b, j, rfl, rfl, q⟩
  obtain rfl : v = .bool b := rx
  obtain ⟨t, rfl⟩ : ∃ t, u = .int j t := ry
  exact PySem.IntBool.sub_bool_int ⟨.int _, H, I.tok _, ⟨_, rfl⟩, q⟩
theorem op_addU : OpR X (binaryOp .Add) (fun x y H Q => rI0 (fun i j => .int (i + j)) x y H Q ∨ rTN (fun i j => i + j) x y H Q) := op_either op_add op_addB
theorem op_subU : OpR X (binaryOp .Sub) (fun x y H Q => rI0 (fun i j => .int (i - j)) x y H Q ∨ rTN (fun i j => i - j) x y H Q) := op_either op_sub op_subB
def rCatU (K : PySem.W.Frag) : R2 := fun x y H Q => rCatL K x y H Q ∨ rCatA K x y H Q
theorem op_catU : OpR X (binaryOp .Add) (rCatU X.K) := op_either op_catL op_catA
theorem sl_U : SlR X (fun x lo hi H Q => rSlL X.K x lo hi H Q ∨ rSlA X.K x lo hi H Q) := SlR.or sl_list sl_tupA
/-- every text of Lean's is a text of Python's -/
theorem strOk_of (s : String) : PyData.strOk (Str.ofString s) = true := by
  rw [Str.ofString_eq_toList]
  refine Array.all_eq_true'.mpr fun x hx => ?_
  obtain ⟨c, _, rfl⟩ : ∃ c, c ∈ s.toList ∧ Char.toNat c = x := by simpa using hx
  exact decide_eq_true (c.valid.elim (fun low => Nat.lt_trans low (by decide)) And.right)
def truthText (b : Bool) : Str := if b then "True" else "False"
theorem truth_text {P : Program} {w : World} {A : Around} {E : Value → Shared → Prop} {s : Shared} {b : Bool} {Q : Value → Shared → Prop} (q : Q (.str (truthText b) s.toks) { s with toks := s.toks + 1 }) : wpAny (model P w) A (call (.type "str") [.bool b]) Q E s := by
  have made : Meets (Builtin.«str.__new__» ⟨[.type "str", .bool b], []⟩) (fun _ R s => R (.ok (.ret (.str (truthText b) s.toks))) { s with toks := s.toks + 1 }) :=
    meets_str_new fun _ _ _ _ s r => wpAny_strOf_gives rfl (PySem.typeIs_bool s b) F.slot_bool_str F.slot_bool_repr F.entry_bool_repr (F.args_bool_repr_1 _) (gives_bool_repr b) r (hsz := by cases b <;> decide)
  exact callType_new F.called_str (by decide) (F.typeCall_str_1 _) (F.newCall_str_1 _) (fun x => F.args_object_init_2 x _) F.entry_str_new made ⟨typeIs_str _ _ _, q⟩
/-- str of a number or of a truth: some text -/
def rStrU : List V → Hp → VK → Prop := fun xs H Q => ((∃ i : Int, xs = [.int i] ∧ i.natAbs.log2 < 1920) ∨ ∃ b, xs = [.bl b]) ∧ ∀ x : Str, PyData.strOk x = true → Q (.str x) H
theorem call_strU : CallR X (.type "str") rStrU := by
  rintro pins s σ H xs us Q I r ⟨⟨i, e, hz⟩ | ⟨b, rfl⟩, q⟩
  · exact call_str_int pins s σ H xs us Q I r ⟨i, e, hz, q _ (strOk_of _)⟩
  · obtain ⟨_, rfl, rfl⟩ := vals1 r
    exact truth_text ⟨.str (truthText b), H, I.tok _, ⟨_, rfl⟩, q _ (by cases b <;> exact strOk_of _)⟩
end
/-- what the model's slices say of [::-1] -/
theorem back_bounds (n : Nat) : Builtin.Slice.sliceAdjust none none (-1) n = ((n : Int) - 1, -1) ∧ Builtin.Slice.slicePlaces ((n : Int) - 1) (-1) (-1) = n := by
  refine ⟨by simp [Builtin.Slice.sliceAdjust], ?_⟩
  simp [Builtin.Slice.slicePlaces]
  omega
theorem back_items (its : Array Value) : ((List.range its.size).filterMap fun k : Nat => its[(((its.size : Int) - 1) + (k : Int) * (-1)).toNat]?) = its.toList.reverse := by
  have there : ∀ k : Nat, its[(((its.size : Int) - 1) + (k : Int) * (-1)).toNat]? = its[its.size - 1 - k]? := fun k => by
    rw [show (((its.size : Int) - 1) + (k : Int) * (-1)).toNat = its.size - 1 - k by omega]
  have back := congrArg (List.filterMap (its[·]?)) (PySem.W.krv_range its.size)
  rw [List.filterMap_map, List.filterMap_reverse, PySem.W.krv_all] at back
  rw [← back]
  exact congrArg (List.filterMap · _) (funext there)
section
variable {s : Shared} {P : Program} {w : World} {A : Around} {E : Value → Shared → Prop}
/-- the slice object of [::-1], taken of n items -/
theorem back_applied {sl : Addr} {tk : Tok} {n : Nat} {Q : Int × Int × Nat → Shared → Prop} (hs : s.heap.IsSliceOf sl .none .none (.int (-1) tk)) (q : Q ((n : Int) - 1, -1, n) s) :
    wpAny (model P w) A (Builtin.Slice.sliceApplied (.ref sl) (pure (n : Int))) Q E s := by
  obtain ⟨o, ho, _, hd⟩ := hs
  have none0 : IsPart Value.none none := .none
  have part : ∀ {i : Nat} {v : Value} {Q' : Value → Shared → Prop}, (#[Value.none, .none, .int (-1) tk] : Array Value)[i]? = some v → Q' v s → wpAny (model P w) A (field (.ref sl) i) Q' E s := fun hi h => wpAny_field ho hd hi h
  simp only [Builtin.Slice.sliceApplied, Builtin.Slice.sliceFields]
  refine wpAny_bind (wpAny_bind (part rfl (wpAny_bind (part rfl (wpAny_bind (part rfl (wpAny_pure ?_)))))))
  refine wpAny_bind (HT.slicePart_ (o := some (-1)) (.int (-1) tk) ?_)
  refine wpAny_bind (HT.slicePart_ none0 (wpAny_bind (HT.slicePart_ none0 (wpAny_bind (wpAny_pure ?_)))))
  have e := back_bounds n
  simp only [Option.getD, e.1, e.2]
  exact wpAny_pure q
/-- t[::-1] asked of the tuple's own __getitem__ -/
theorem back_got {t sl : Addr} {tk : Tok} {its : Array Value} {Q : Value → Shared → Prop} (ht : IsTup s.heap t its) (hs : s.heap.IsSliceOf sl .none .none (.int (-1) tk)) (hz : its.size ≤ sizeLine)
    (q : Q (.ref s.heap.objs.size) { s with heap := s.heap.push { cls := .type "tuple", data := .seq its.toList.reverse.toArray } }) : wpAny (model P w) A (getItem (.ref t) (.ref sl)) Q E s := by
  have slice : s.TypeIs (.ref sl) "slice" := hs.elim fun o h => ⟨o, h.1, h.2.1⟩
  have room : sizeOk (.seq its.toList.reverse.toArray) := by
    simpa [sizeOk] using hz
  have own : wpAny (model P w) A.in1 (Builtin.«tuple.__getitem__» ⟨[.ref t, .ref sl], []⟩) (fun fin s' => ∃ v, fin = .done (.ret v) ∧ Q v s') E s := by
    refine wpAny_bind (m := Builtin.Tuple.tupleItemsOf (.ref t)) (tupleItemsOf_ ht (wpAny_bind (wpAny_typeOf slice ?_)))
    rw [if_pos (by decide)]
    refine wpAny_bind (back_applied hs ?_)
    show wpAny _ _ (if ((its.size : Int) - 1 == 0 && (-1 : Int) == 1 && its.size == its.size) = true then _ else _) _ _ s
    rw [if_neg (by simp)]
    refine wpAny_bind (m := Builtin.Tuple.tupleExact _) ?_
    rw [back_items]
    refine wpAny_newObj_type ?_ room
    exact wpAny_pure ⟨_, rfl, q⟩
  have asked : wpAny (model P w) A (callSpecial? (.ref t) "__getitem__" [.ref sl]) (fun r s' => ∃ v, r = some v ∧ Q v s') E s :=
    wpAny_callSpecial?_slot ht.typeIs PyProof.Rows.slot_tuple_getitem (wpAny_call_entry PyProof.Rows.slot_tuple_getitem ht.typeIs entry_tuple_getitem (wpAny_mono own (fun f s' ⟨v, e, h⟩ => ⟨v, e, v, rfl, h⟩) fun _ _ h => h) (args_tuple_getitem _ _))
  simp only [getItem]
  refine wpAny_holding (wpAny_bind (wpAny_sequenceKey (hT := ht.typeIs) (by decide) ?_))
  refine wpAny_bind (wpAny_mono asked (fun r s' h => ?_) fun _ _ h => h)
  obtain ⟨v, rfl, h⟩ := h
  exact wpAny_pure h
end
section
variable {X : Cx}
/-- t[::-1], t a tuple -/
def tBack (K : PySem.W.Frag) (te : TE) : TE := fun σ H Q => te σ H fun x H1 => ∃ a xs, x = .ref a ∧ SqT K H1 a xs ∧ ∀ p, H1 p = none → Q (.ref p) (upd H1 p (.tup xs.reverse))
theorem pe_back {e : Expr} {te : TE} {k : Nat} {p1 p2 p3 pos : Pos} (he : PE X e te) : PE X (.Subscript e (.Slice none none (some (.UnaryOp .USub (.Constant (.int 1) k p1) p2)) p3) pos) (tBack X.K te) := by
  constructor
  intro pins s σ H Q I h
  have minus : PE X (.UnaryOp .USub (.Constant (.int 1) k p1) p2) (tUn (rU fun i => .int (-i)) (tC (.int 1))) := pe_un un_neg pe_int
  refine Subscript_ (thn (he.run pins s σ H _ I h) fun v s1 got => ?_)
  obtain ⟨_, H1, I1, rv, a, xs, rfl, hx, q⟩ := got
  obtain rfl : v = .ref a := rv
  refine wpAny_Slice (thn (po_none.run pins s1 σ H1 (fun o H' => o = none ∧ H' = H1) I1 ⟨rfl, rfl⟩) fun v2 s2 g2 => ?_)
  obtain ⟨_, H2, I2, n2, rfl, e2⟩ := g2
  rw [e2] at I2
  refine thn (po_none.run pins s2 σ H1 (fun o H' => o = none ∧ H' = H1) I2 ⟨rfl, rfl⟩) fun v3 s3 g3 => ?_
  obtain ⟨_, H3, I3, n3, rfl, e3⟩ := g3
  rw [e3] at I3
  refine thn ((po_some minus).run pins s3 σ H1 (fun o H' => o = some (-1) ∧ H' = H1) I3 ⟨1, rfl, -1, rfl, rfl, rfl⟩) fun v4 s4 g4 => ?_
  obtain ⟨_, H4, I4, n4, rfl, e4⟩ := g4
  rw [e4] at I4
  cases n2
  cases n3
  cases n4 with
  | int _ tk =>
    generalize hsl : ({ cls := .type "slice", data := .fields #[Value.none, .none, .int (-1) tk] } : Obj) = so
    have J : Inv X pins σ H1 { s4 with heap := s4.heap.push so } := I4.kept (t' := s4.toks) fun _ _ => Heap.get?_push_of_some _
    have sl : (s4.heap.push so).IsSliceOf s4.heap.objs.size .none .none (.int (-1) tk) := hsl ▸ Heap.IsSliceOf.new ..
    obtain ⟨its, rel, tup, z⟩ := J.tuple hx
    have sz := rel.length
    refine tail_any (s := { s4 with heap := s4.heap.push so }) (ops := [.ref a, .ref s4.heap.objs.size]) tup.typeIs PyProof.Rows.slot_tuple_getitem.lookup (back_got tup sl (by rw [List.size_toArray]; omega) ?_) (by with_unfolding_all rfl)
    refine ⟨.ref _, _, J.laid (t' := s4.toks) (o := .tup xs.reverse) (fun _ _ => Heap.get?_push_of_some _) (Nat.le_refl _) ⟨?_, its.reverse, rel.reverse, IsTup.new _ _⟩, rfl, q _ J.fresh⟩
    rw [List.length_reverse]
    exact z
end

/-- a new set, nothing in it -/
def bareSet (w : World) : Obj := { cls := .type "set", dict := none, data := .set #[] 0 (.fresh 0 0 (!w.params.followText "set-order")) }
section
variable {P : Program} {w : World} {A : Around} {E : Value → Shared → Prop}
theorem set_filled {S l : Addr} {its : Array Value} {ns : List Int} {s : Shared} {R : Result → Shared → Prop} (calm : A.handled = none) (hS : s.heap.get? S = some (bareSet w)) (hl : s.heap.IsList l its) (nums : IntsAre its.toList ns) (room : ns.length + 1 < scanBound)
    (q : ∀ h' tk' (c : Nat), SetR w h' S (fun j => decide (j ∈ ns)) c → (∀ b o, b ≠ S → s.heap.get? b = some o → h'.get? b = some o) → R (.ok (.ret .none)) { s with heap := h', toks := tk' }) :
    wpAny (model P w) A.in1 (Builtin.«set.__init__» ⟨[.ref S, .ref l], []⟩) (fun fin s' => match fin with | .done f => R (.ok f) s' | .again c' => c'.quiet = true ∧ codeAny (model P w) A c' R s') (fun e s' => R (.error e) s') s := by
  rcases s with ⟨hp, gn, dr, tk, os⟩
  have apartL : l ≠ S := fun z => by
    obtain ⟨o, ho, oc, _⟩ := hl
    rw [z, hS] at ho
    cases ho
    exact absurd oc (by show ¬ Value.type "set" = Value.type "list"; decide)
  have no1 := F.sub_list_set
  have no2 := F.sub_list_frozenset
  have no3 : (Value.type "list" == Value.type "dict") = false := by decide
  have is := hl
  obtain ⟨⟨c0, d0, t0, sl0⟩, ho, oc, n0, od⟩ := hl
  simp only at oc od
  subst oc od
  have fresh : bareSet w = { cls := .type "set", dict := none, data := .set #[] 0 (.fresh 0 0 (!w.params.followText "set-order")) } := rfl
  rw [fresh] at hS
  have begun := fun (A' : Around) (E' : Value → Shared → Prop) (Q' : Value → Shared → Prop) => wpAny_pyIter_list (prog := P) (w := w) (A := A') (E := E') (Q := Q') is
  wp_walk using begun
  have newI : S ≠ hp.objs.size := Nat.ne_of_lt (Heap.lt_size hS)
  have newL : l ≠ hp.objs.size := Nat.ne_of_lt (Heap.lt_size ho)
  have many : its.size = ns.length := Array.length_toList.symm.trans nums.length
  refine set_update_ints (Walks.list (A := A.in1.in1) (by simpa using calm) hp.objs.size l newL its).toS S (fun z => ?_) ns many room (fun i v hv => ?_) its.size 0 _ rfl (Nat.zero_le _) ⟨⟨_, Heap.get?_push_size _ rfl, rfl, rfl⟩, is.push _⟩ ⟨0, Nat.le_refl 0, setR_new_at (Heap.get?_push_of_some _ hS)⟩ (fun s' c mv _ made => ?_)
  · simp only [List.mem_cons, List.not_mem_nil, or_false] at z
    rcases z with z | z
    · exact newI z
    · exact apartL z.symm
  · obtain ⟨t, e⟩ := nums.int_at i v (by rw [Array.getElem?_toList]; exact hv)
    have lt : i < ns.length := many ▸ (Array.getElem?_eq_some_iff.mp hv).1
    exact ⟨ns[i], t, List.getElem?_eq_getElem lt, by rw [e]; simp [List.getD, lt]⟩
  · have kept : ∀ b o, b ≠ S → hp.get? b = some o → s'.heap.get? b = some o := fun b o nb g => mv.heap b o (fun z => by
      simp only [List.mem_cons, List.not_mem_nil, or_false] at z
      exact z.elim nb (Nat.ne_of_lt (Heap.lt_size g))) (Heap.get?_push_of_some _ g)
    have end_ := q s'.heap s'.toks c made kept
    rw [show ({ heap := s'.heap, gens := gn, drawn := dr, toks := s'.toks, os := os } : Shared) = s' by rcases s' with ⟨a1, a2, a3, a4, a5⟩; have g := mv.gens; have d := mv.drawn; have o := mv.os; simp only at g d o; rw [g, d, o]] at end_
    exact wpAny_pure (wpAny_pure end_)
theorem set_called {l : Addr} {its : Array Value} {ns : List Int} {s : Shared} {Z : Value → Shared → Prop} (calm : A.handled = none) (hl : s.heap.IsList l its) (nums : IntsAre its.toList ns) (room : ns.length + 1 < scanBound)
    (q : ∀ h' tk' (c : Nat), SetR w h' s.heap.objs.size (fun j => decide (j ∈ ns)) c → (∀ b o, s.heap.get? b = some o → h'.get? b = some o) → Z (.ref s.heap.objs.size) { s with heap := h', toks := tk' }) :
    wpAny (model P w) A (call (.type "set") [.ref l]) Z E s := by
  have ft := F.called_set
  have f1 := ft.notType
  have f2 := ft.canCreate
  have f3 := ft.made
  have f4 := ft.sub
  have f5 := F.typeCall_set_1 (.ref l)
  obtain ⟨c, tl, f6⟩ := ft.mro
  have made := code_set_led1 (P := P) (w := w) (A := A.in1) (E := E) (s := s) (.ref l) (Q₁ := fun obj s₁ => obj = .ref s.heap.objs.size ∧ s₁ = { s with heap := s.heap.push (bareSet w) }) ⟨rfl, rfl⟩
  apply wpAny_call
  apply codeAny_of_tree
  show wpAny _ _ (callAny (.type "set") ⟨[.ref l], []⟩) _ _ _
  apply wpAny_pure
  refine ⟨Code.quiet_builtin _ (by decide +kernel), ?_⟩
  apply codeAny_builtin F.entry_type_call
  rw [Around.under_plain (weight_type_call_type _ _ _) rfl]
  wp_walk
  refine codeAny_mono made fun got s₁ z => ?_
  rcases got with e | fl
  · exact z
  · cases fl with
    | ret obj =>
      obtain ⟨rfl, rfl⟩ := z
      have at_ : (s.heap.push (bareSet w)).get? s.heap.objs.size = some (bareSet w) := Heap.get?_push_size _ rfl
      have ty : Shared.TypeIs { s with heap := s.heap.push (bareSet w) } (.ref s.heap.objs.size) "set" := ⟨_, at_, rfl⟩
      have g1 := ft.init.lookup
      have g2 := ft.init.bind (.ref s.heap.objs.size)
      have grown : ∀ b o, s.heap.get? b = some o → (s.heap.push (bareSet w)).get? b = some o := fun b o g => Heap.get?_push_of_some _ g
      have filled := set_filled (P := P) (w := w) (A := A.in1) (S := s.heap.objs.size) (l := l) (its := its) (ns := ns) (s := { s with heap := s.heap.push (bareSet w) }) (R := wants (fun r s₂ => r = .none ∧ Z (.ref s.heap.objs.size) s₂) E) (by simpa using calm) at_ (hl.push _) nums room fun h' tk' c made kept => ⟨rfl, q h' tk' c made fun b o g => kept b o (Nat.ne_of_lt (Heap.lt_size g)) (grown b o g)⟩
      have done := codeAny_call_builtin ft.init.plain F.entry_set_init (check_set_init_1 ty filled)
      show wpAny _ _ _ _ _ _
      wp_walk
      refine codeAny_mono done fun got2 s₂ z2 => ?_
      rcases got2 with e | fl2
      · exact z2
      · cases fl2 with
        | ret r =>
          obtain ⟨rfl, goal⟩ := z2
          show wpAny _ _ _ _ _ _
          wp_walk
          exact goal
        | _ => exact z2.elim
    | _ => exact z.elim
end
section
variable {X : Cx}
/-- set(xs), xs a list of numbers that is only read: a set of just these, with as many members as there are unlike ones -/
def rSetL (K : PySem.W.Frag) (w : World) : List V → Hp → VK → Prop := fun vs H Q => ∃ (a : Addr) (ns : List Int), vs = [.ref a] ∧ SqL K H a (ns.map V.int) ∧ ns.length + 1 < scanBound ∧
  ∀ (p : Addr) (ks : List Int), ks.Nodup → (∀ k, k ∈ ks ↔ k ∈ ns) → H p = none → Q (.ref p) (upd H p (SetO w p (fun j => decide (j ∈ ns)) ks.length))
theorem cr_setL (calm : X.calm = true) : CallR X (.type "set") (rSetL X.K X.w) := by
  rintro pins s σ H vs us Q I r ⟨a, ns, rfl, hq, room, q⟩
  obtain ⟨its, rel, pl, _⟩ := I.list hq
  rw [Vals.ref1 r]
  refine set_called (its := its.toArray) (ns := ns) (I.ok.hd calm) pl.isList (by simpa using intsAre_of rel) room fun h' tk' c made kept => ?_
  obtain ⟨o, es, ep, t, ho, hx, hd, good, nd, mem, hb, hf, hn, _⟩ := id made
  have count : c = (es.toList.map keyOf).length := by rw [List.length_map, Array.length_toList, hn]
  have free := I.hok.fresh (Nat.le_refl s.heap.objs.size)
  refine ⟨.ref _, upd H s.heap.objs.size (SetO X.w s.heap.objs.size (fun j => decide (j ∈ ns)) c), I.laid (t' := tk') kept (Nat.le_refl _) (setO_new made), rfl, ?_⟩
  rw [count]
  exact q _ (es.toList.map keyOf) nd (fun k => by rw [← mem k]; exact decide_eq_true_iff) free
end

/-! ### lists and tuples of numbers compared -/
theorem dps_ints {K : PySem.W.Frag} {H : Hp} : ∀ ns : List Int, DpAll K H (ns.map V.int) (ns.map PyData.int)
  | [] => .nil
  | n :: ns => .cons (.int n) (dps_ints ns)
theorem lays_ints : ∀ ns : List Int, PyData.canLayAll0 (ns.map PyData.int) = true
  | [] => rfl
  | n :: ns => by
    have h := lays_ints ns
    simp only [List.map_cons, PyData.canLayAll0, PyData.canLay0, h, Bool.and_true, Bool.true_and]
theorem deep_ints : ∀ ns : List Int, PyData.depthAll (ns.map PyData.int) ≤ 1
  | [] => by decide
  | n :: ns => by
    have h := deep_ints ns
    simp only [List.map_cons, PyData.depth, PyData.depthAll]
    omega
theorem shaped_lst (ns : List Int) : SeqAt.shaped (.list (ns.map PyData.int)) = true := by
  have h1 := lays_ints ns
  have h2 := deep_ints ns
  unfold SeqAt.shaped
  rw [PyData.canLay0, PyData.depth, h1, Bool.true_and]
  exact decide_eq_true (show _ ≤ 64 by omega)
theorem shaped_tup (ns : List Int) : SeqAt.shaped (.tuple (ns.map PyData.int)) = true := by
  have h1 := lays_ints ns
  have h2 := deep_ints ns
  unfold SeqAt.shaped
  rw [PyData.canLay0, PyData.depth, h1, Bool.true_and]
  exact decide_eq_true (show _ ≤ 64 by omega)
theorem eqv_ints : ∀ ns ms : List Int, PyData.eqvAll (ns.map PyData.int) (ms.map PyData.int) = decide (ns = ms)
  | [], [] => rfl
  | [], m :: ms => rfl
  | n :: ns, [] => rfl
  | n :: ns, m :: ms => by
    have h := eqv_ints ns ms
    simp only [List.map_cons, PyData.eqvAll, PyData.eqv, h]
    by_cases e : n = m <;> by_cases e' : ns = ms <;> simp [e, e']
section
variable {K : PySem.W.Frag} {H : Hp} {Q : VK} {a b : Addr} {ns ms : List Int}
theorem eq_lsts (ha : SqL K H a (ns.map V.int)) (hb : SqL K H b (ms.map V.int)) (q : Q (.bl (decide (ns = ms))) H) : rEqD K (.ref a) (.ref b) H Q :=
  ⟨_, _, .lst ha (dps_ints ns), .lst hb (dps_ints ms), shaped_lst ns, shaped_lst ms, by rw [PyData.eqv, eqv_ints]; exact q⟩
theorem ne_lsts (ha : SqL K H a (ns.map V.int)) (hb : SqL K H b (ms.map V.int)) (q : Q (.bl (!decide (ns = ms))) H) : rNeD K (.ref a) (.ref b) H Q :=
  ⟨_, _, .lst ha (dps_ints ns), .lst hb (dps_ints ms), shaped_lst ns, shaped_lst ms, by rw [PyData.eqv, eqv_ints]; exact q⟩
theorem eq_tups (ha : SqT K H a (ns.map V.int)) (hb : SqT K H b (ms.map V.int)) (q : Q (.bl (decide (ns = ms))) H) : rEqD K (.ref a) (.ref b) H Q :=
  ⟨_, _, .tup ha (dps_ints ns), .tup hb (dps_ints ms), shaped_tup ns, shaped_tup ms, by rw [PyData.eqv, eqv_ints]; exact q⟩
theorem ne_tups (ha : SqT K H a (ns.map V.int)) (hb : SqT K H b (ms.map V.int)) (q : Q (.bl (!decide (ns = ms))) H) : rNeD K (.ref a) (.ref b) H Q :=
  ⟨_, _, .tup ha (dps_ints ns), .tup hb (dps_ints ms), shaped_tup ns, shaped_tup ms, by rw [PyData.eqv, eqv_ints]; exact q⟩
end
/-- a comprehension over a list of numbers, with a test -/
theorem given_list (xs : List Int) (p : Int → Bool) (g : Int → Int) : given xs.length (fun i => p (xs[i]?.getD 0)) (fun i => V.int (g (xs[i]?.getD 0))) = ((xs.filter p).map g).map V.int := by
  unfold given
  induction xs with
  | nil => rfl
  | cons x xs ih =>
    have h0 : (x :: xs)[(0 : Nat)]?.getD 0 = x := rfl
    have hs : ∀ i : Nat, (x :: xs)[i + 1]?.getD 0 = xs[i]?.getD 0 := fun i => by rw [List.getElem?_cons_succ]
    rw [List.length_cons, List.range_succ_eq_map, List.filter_cons, List.filter_map, List.filter_cons, h0]
    have e1 : ((fun i => p ((x :: xs)[i]?.getD 0)) ∘ Nat.succ) = fun i : Nat => p (xs[i]?.getD 0) := funext fun i => congrArg p (hs i)
    have e2 : ((fun i => V.int (g ((x :: xs)[i]?.getD 0))) ∘ Nat.succ) = fun i : Nat => V.int (g (xs[i]?.getD 0)) := funext fun i => congrArg (fun z => V.int (g z)) (hs i)
    rw [e1]
    by_cases h : p x = true
    · rw [if_pos h, if_pos h]
      simp only [List.map_cons, List.map_map, e2, h0]
      rw [ih, List.map_map]
    · rw [if_neg h, if_neg h, List.map_map, e2, ih]
theorem given_pick (xs : List Int) (p : Int → Bool) : given xs.length (fun i => p (xs[i]?.getD 0)) (fun i => V.int (xs[i]?.getD 0)) = (xs.filter p).map V.int := by
  have h := given_list xs p fun z => z
  rw [List.map_id'] at h
  exact h

section
variable {X : Cx}
theorem op_isT : OpR X (compareOp .Is) (fun x y H Q => ∃ a b, x = .bl a ∧ y = .bl b ∧ Q (.bl (a == b)) H) := by
  rintro pins s σ H x y v u Q I rx ry ⟨a, b, rfl, rfl, q⟩
  cases rx
  cases ry
  exact is_bool ⟨.bl _, H, I, rfl, q⟩
theorem op_isntT : OpR X (compareOp .IsNot) (fun x y H Q => ∃ a b, x = .bl a ∧ y = .bl b ∧ Q (.bl (a != b)) H) := by
  rintro pins s σ H x y v u Q I rx ry ⟨a, b, rfl, rfl, q⟩
  cases rx
  cases ry
  exact isnot_bool ⟨.bl _, H, I, rfl, q⟩
end

/-! ### min(xs, default=None) of a list of numbers -/
section
variable {X : Cx}
def rMinD (K : PySem.W.Frag) : List V → List V → Hp → VK → Prop := fun vs zs H Q => ∃ (a : Addr) (ns : List Int), vs = [.ref a] ∧ zs = [.non] ∧ SqL K H a (ns.map V.int) ∧ (ns = [] → Q .non H) ∧ ∀ m, m ∈ ns → (∀ y, y ∈ ns → m ≤ y) → Q (.int m) H
theorem cr_minD (calm : X.calm = true) : CallRK X (.builtin "min") [Str.ofString "default"] (rMinD X.K) := by
  rintro pins s σ H vs zs us ws Q I r rz ⟨a, ns, rfl, rfl, hq, q0, q1⟩
  obtain ⟨its, rel, pl, _⟩ := I.list hq
  obtain rfl := Vals.ref1 r
  obtain ⟨w1, ew, e1⟩ := vals1 rz
  subst ew
  replace e1 : w1 = Value.none := e1
  subst e1
  have nums : IntsAre its ns := intsAre_of rel
  have many : its.toArray.size = ns.length := by simpa using nums.length
  have newL : a ≠ s.heap.objs.size := Nat.ne_of_lt pl.lt
  have calm' : X.A.in1.handled = none := by simpa using I.ok.hd calm
  refine call_min_walkD (wpAny_pyIter_list pl.isList ?_)
  have kept : ∀ {s' : Shared}, Moved [s.heap.objs.size] (fun x y => y = x) { s with heap := s.heap.push { cls := .type "list_iterator", data := .fields #[.ref a, .int 0 0] } } s' → ∀ b o, s.heap.get? b = some o → s'.heap.get? b = some o := fun mv b o g =>
    mv.heap b o (fun z => Nat.ne_of_lt (Heap.lt_size g) (List.mem_singleton.mp z)) (Heap.get?_push_of_some _ g)
  have after : ∀ {s' : Shared}, Moved [s.heap.objs.size] (fun x y => y = x) { s with heap := s.heap.push { cls := .type "list_iterator", data := .fields #[.ref a, .int 0 0] } } s' → Inv X pins σ H s' := fun {s'} mv => by
    have J := I.kept (t' := s'.toks) (kept mv)
    rcases s' with ⟨h1, g1, d1, t1, o1⟩
    have eg := mv.gens
    have ed := mv.drawn
    have eo := mv.os
    simp only at eg ed eo
    subst eg ed eo
    exact J
  refine ⟨s.heap.objs.size, _, _, _, _, _, _, s.heap, fun i j => decide (ns.getD i 0 < ns.getD j 0), rfl, (Walks.list calm' s.heap.objs.size a newL its.toArray).toS, ⟨⟨_, Heap.get?_push_size _ rfl, rfl, rfl⟩, pl.isList.push _⟩, ?_, ?_, fun b o g => Heap.get?_push_of_some _ g, fun none_ s' mv => ?_, fun pos => ⟨?_, fun v s' hv mv => ?_⟩⟩
  · intro b hb
    rw [Heap.size_push]
    simp only [List.not_mem_nil, List.mem_cons, or_false] at hb
    rcases hb with rfl | rfl
    · exact Nat.lt_succ_self _
    · exact Nat.lt_succ_of_lt pl.lt
  · intro b o g z
    exact Nat.ne_of_lt (Heap.lt_size g) (List.mem_singleton.mp z)
  · refine ⟨.non, H, after mv, rfl, q0 ?_⟩
    rw [many] at none_
    exact List.eq_nil_of_length_eq_zero none_
  · intro i j vi vj s1 Q1 E1 _ hi hj q
    obtain ⟨t, rfl⟩ := nums.int_at i vi (by rw [← List.getElem?_toArray]; exact hi)
    obtain ⟨t', rfl⟩ := nums.int_at j vj (by rw [← List.getElem?_toArray]; exact hj)
    show wpAny _ _ (compareOp .Lt _ _) _ _ _
    exact lt_int q
  · obtain ⟨h1, h2⟩ := argBest_lt (fun i => ns.getD i 0) (its.toArray.size - 1)
    obtain ⟨t, rfl⟩ := nums.int_at _ v (by rw [← List.getElem?_toArray]; exact hv)
    rw [many] at pos h1 h2
    refine ⟨.int _, H, after mv, ⟨t, rfl⟩, ?_⟩
    rw [many]
    refine q1 _ (PySem.getD_mem (by omega)) fun y hy => ?_
    obtain ⟨j, hj, rfl⟩ := mem_getD hy
    exact h2 j (by omega)
end

/-! ### where a list's iterator ends while an error is handled -/
section
variable {prog : Program} {w : World} {B : Around} {hot : Addr}
/-- the new error that tells the end bears the handled one; nothing that stood is written -/
theorem tells_end {β : Type} {t : Shared} {G : β → Shared → Prop} {Z : Value → Shared → Prop} (h : HotX.HotAt B hot t.heap)
    (z : ∀ g n, (∀ c u, t.heap.get? c = some u → g.get? c = some u) → (∃ u, g.get? n = some u ∧ u.cls = .type "StopIteration") → Z (.ref n) { t with heap := g }) :
    wpAny (model prog w) B (Builtin.SmallTypes.stopIteration : Sem β) G Z t := by
  have two : ∀ {x y : Obj} {c : Addr} {u : Obj}, t.heap.get? c = some u → ((t.heap.push x).push y).get? c = some u ∧ c ≠ (t.heap.push x).objs.size := fun {x y c u} e =>
    ⟨Heap.get?_push_of_some _ (Heap.get?_push_of_some _ e), Nat.ne_of_lt (Heap.lt_size (Heap.get?_push_of_some x e))⟩
  obtain ⟨yes, u, fs, e, d, c⟩ := h
  show wpAny _ _ (newExc (.type "StopIteration") [] >>= fun v => raiseNew v) _ _ _
  refine wpAny_bind ?_
  unfold newExc newTuple
  have plain : firstArgMember (.type "StopIteration") [] = pure Value.none := rfl
  rw [plain]
  refine wpAny_bind (wpAny_newObj_type (wpAny_bind (wpAny_pure (wpAny_newObj_type ?_))))
  exact HotX.raiseNew_hot ⟨yes, u, fs, (two e).1, d, c⟩ (two (y := u) e).2 (Heap.get?_push_size _ rfl) rfl (by rw [Array.size_append]; exact Nat.lt_of_lt_of_le (show 2 < 6 by decide) (Nat.le_add_right 6 _)) (z _ _ (fun b o g => (Heap.get?_update_other _ _ (Ne.symm (two (y := u) g).2)).trans (two g).1) ⟨_, Heap.get?_update_self _ (Heap.get?_push_size _ rfl) rfl, rfl⟩)
/-- drawn from by zip: the same list, the handled error's object stands by -/
theorem draws_by {it l : Addr} (il : l ≠ it) (ih : hot ≠ it) (yes : B.in1.handled = some (.ref hot)) (items : Array Value) :
    Draws prog w B it [it, l, hot] items.size (fun i v => items[i]? = some v) (fun i h => h.IsListIter it l i ∧ h.IsList l items ∧ HotX.HotAt B.in1 hot h) := by
  constructor
  case live => exact fun _ _ st => st.1.imp fun _ e => e.1
  case frame => exact fun _ _ _ ⟨a, b, _, u, fs, e, r⟩ k => ⟨a.at fun o => k it (by simp) o, b.at fun o => k l (by simp) o, yes, u, fs, k hot (by simp) u e, r⟩
  case item => exact fun i s Q E lt ⟨a, b, _, u, fs, e, r⟩ q => wpAny_nextOf_list_item a b (x := items[i]) (getElem?_pos items i lt) fun g a' sb => q _ g s.toks (getElem?_pos items i lt) ⟨a', b.extBut sb.extBut il, yes, u, fs, sb.extBut _ _ ih e, r⟩ sb
  case done =>
    rintro s Q E ⟨a, ⟨ol, el, _, k, dl⟩, _, u, fs, e, r⟩ out
    obtain ⟨o, eo, co, fo⟩ := id a
    have past : items[items.size]? = none := getElem?_neg items items.size (Nat.lt_irrefl _)
    have ends : ∀ {G : Fin → Shared → Prop}, wpAny (model prog w) B.in1 (Builtin.«list_iterator.__next__» ⟨[.ref it], []⟩) G E s := fun {G} => by
      have off : (Value.ref l == Value.none) = false := rfl
      refine wpAny_bind (m := field _ 0) (wpAny_field eo fo (x := .ref l) rfl ?_)
      simp only [off, Bool.false_eq_true, if_false]
      refine wpAny_bind (m := field _ 1) (wpAny_field eo fo (x := .int (items.size : Nat) 0) rfl (wpAny_bind (m := seqItems? _) (wpAny_seqItems el dl ?_)))
      simp only [Int.toNat_natCast, past]
      refine wpAny_bind (wpAny_rule (wpAny_bind (wpAny_setField eo fo (Nat.zero_lt_succ _) (tells_end ⟨yes, u, fs, ?_, r⟩ fun g n k h => out g n (fun c v nc ec => k c v ?_) h))))
      · exact (Heap.get?_update_other _ _ (Ne.symm ih)).trans e
      · exact (Heap.get?_update_other _ _ (Ne.symm nc)).trans ec
    exact wpAny_bind (wpAny_callSpecial?_slot (name := Str.ofString "__next__") a.typeIs slot_listiter_next (wpAny_call_entry slot_listiter_next a.typeIs entry_listiter_next ends (args_listiter_next _)))
end

/-! ### comprehensions of any number of fors, calm or while an error is handled -/
section
variable {X Y : Cx} {pins : List (Addr × Obj)} {σ : L2.St} {H : Hp} {s : Shared} {tg : Expr} {J : It} {fp : List Addr} {it : Addr} {tn : Nat → Heap → Prop}
/-- the block of a comprehension; what the def has pinned stays pinned in it -/
abbrev blkP (X : Cx) (s : Shared) (H : Hp) (scope : Scope) (cenv : Env) (fp : List Addr) : Cx := { X.blk s H scope cenv fp with pn := X.pn }
/-- an iterator whose turns the library tells for this context -/
def Goer (X : Cx) (tg : Expr) (J : It) (fp : List Addr) (it : Addr) (tn : Nat → Heap → Prop) : Prop :=
  (X.calm = true ∧ Turn X.prog X.w X.K tg J fp it tn) ∨ (L2H.HotC X ∧ L2H.TurnH X.prog X.w X.K tg J fp it tn)
theorem Goer.self (g : Goer X tg J fp it tn) {A : Around} {i : Nat} {Q : Value → Shared → Prop} {E : Value → Shared → Prop} (st : tn i s.heap) (h : Q (.ref it) s) : wpAny (model X.prog X.w) A (pyIter (.ref it)) Q E s :=
  g.elim (fun t => t.2.self A i s Q E st h) fun t => t.2.self A i s Q E st h
theorem Goer.obj (g : Goer X tg J fp it tn) {i : Nat} {h : Heap} (st : tn i h) : ∀ b ∈ fp, ∃ o, h.get? b = some o ∧ ∀ v, o.data ≠ .cell v := g.elim (fun t => t.2.obj i h st) fun t => t.2.obj i h st
theorem Goer.keep (g : Goer X tg J fp it tn) {i : Nat} {h h' : Heap} (st : tn i h) (k : ∀ b ∈ fp, ∀ o, h.get? b = some o → h'.get? b = some o) : tn i h' := g.elim (fun t => t.2.keep i h h' st k) fun t => t.2.keep i h h' st k
/-- an item of turn i has come as u -/
def Came (X : Cx) (pins : List (Addr × Obj)) (σ : L2.St) (J : It) (fp : List Addr) (tn : Nat → Heap → Prop) (i : Nat) (H : Hp) (u : Value) (s : Shared) : Prop :=
  ∃ x H1, J.yld i H x H1 ∧ RelV x u ∧ (Inv X pins σ H1 s ∧ tn (i + 1) s.heap) ∧ ∀ b ∈ fp, H1 b = none
theorem Goer.next (g : Goer X tg J fp it tn) {i : Nat} {Q : Option Value → Shared → Prop} {E : Value → Shared → Prop} (I : Inv X pins σ H s) (f : ∀ b ∈ fp, FpOk X pins H b) (st : tn i s.heap)
    (h : (J.stop i H ∧ ∀ s1, Inv X pins σ H s1 → Q none s1) ∨ (J.go i H ∧ ∀ u s1, wpAny (model X.prog X.w) X.A (letOwnedTupleGo tg (.ref it) u) (fun _ s2 => Came X pins σ J fp tn i H u s2) E s1 → Q (some u) s1)) :
    wpAny (model X.prog X.w) X.A (pyNext (.ref it)) Q E s := by
  have made : ∀ u s2, (∃ x H', Inv X pins σ H' s2 ∧ RelV x u ∧ J.yld i H x H' ∧ tn (i + 1) s2.heap ∧ ∀ b ∈ fp, H' b = none) → Came X pins σ J fp tn i H u s2 := fun u s2 ⟨x, H1, a, b, c, d, e⟩ => ⟨x, H1, c, b, ⟨a, d⟩, e⟩
  rcases h with ⟨no, q⟩ | ⟨yes, q⟩ <;> rcases g with ⟨c, t⟩ | ⟨c, t⟩
  · exact thn (t.done X rfl rfl rfl c i pins s σ H E I f st no) fun r s1 z => z.1 ▸ q s1 z.2
  · exact thn (t.done X rfl rfl rfl c i pins s σ H E I f st no) fun r s1 z => z.1 ▸ q s1 z.2
  · exact thn (t.item X rfl rfl rfl c i pins s σ H E I f st yes) fun r s1 ⟨u, e, k⟩ => e ▸ q u s1 (thn k fun _ s2 z => made u s2 z)
  · exact thn (t.item X rfl rfl rfl c i pins s σ H E I f st yes) fun r s1 ⟨u, e, k⟩ => e ▸ q u s1 (thn k fun _ s2 z => made u s2 z)
/-- what stands behind an in: an iterator comes -/
def Begun (X : Cx) (pins : List (Addr × Obj)) (σ : L2.St) (tg : Expr) (R : It → Hp → Prop) (u : Value) (s : Shared) : Prop :=
  ∃ it J fp tn H1, u = .ref it ∧ Goer X tg J fp it tn ∧ R J H1 ∧ Inv X pins σ H1 s ∧ tn 0 s.heap ∧ ∀ b ∈ fp, FpOk X pins H1 b
def Brings (X : Cx) (tg iter : Expr) (wi : TI) : Prop := ∀ (pins : List (Addr × Obj)) (s : Shared) (σ : L2.St) (H : Hp) (R : It → Hp → Prop), Inv X pins σ H s → wi σ H R →
  wpAny (model X.prog X.w) X.A (eval iter X.env) (fun v s1 => wpAny (model X.prog X.w) X.A (pyIter v) (Begun X pins σ tg R) X.xe s1) X.xe s
theorem brings_calm {iter : Expr} {wi : TI} (c : X.calm = true) (h : PI X tg iter wi) : Brings X tg iter wi := fun pins s σ H R I q =>
  thn (h.run pins s σ H R I q) fun _ _ z => thn z fun _ _ ⟨it, fp, tn, J, H1, e, I1, t, st, f, r⟩ => ⟨it, J, fp, tn, H1, e, .inl ⟨c, t⟩, r, I1, st, f⟩
theorem brings_hot {iter : Expr} {wi : TI} (c : L2H.HotC X) (h : L2H.PIH X tg iter wi) : Brings X tg iter wi := fun pins s σ H R I q =>
  thn (h.run pins s σ H R I q) fun _ _ z => thn z fun _ _ ⟨it, fp, tn, J, H1, e, I1, t, st, f, r⟩ => ⟨it, J, fp, tn, H1, e, .inr ⟨c, t⟩, r, I1, st, f⟩
end
section
variable {prog : Program} {w : World} {A : Around} {E : Value → Shared → Prop} {s : Shared} {elt : Expr} {gens : List Comprehension} {scope : Scope} {pos : Pos} {k : Nat} {it : Value} {D : Addr} {env : Env}
/-- what is done at depth k: the next for is begun, or the item is appended; Z afterwards -/
def Into (prog : Program) (w : World) (A : Around) (E : Value → Shared → Prop) (elt : Expr) (gens : List Comprehension) (scope : Scope) (pos : Pos) (k : Nat) (D : Addr) (env : Env) (Z : Shared → Prop) (s : Shared) : Prop :=
  (gens[k]?).elim (wpAny (model prog w) A (eval elt env) (fun v s1 => wpAny (model prog w) A (call (.builtin "list.append") [.ref D, v]) (fun _ => Z) E s1) E s)
    fun g => wpAny (model prog w) A (eval g.iter env) (fun v s1 => wpAny (model prog w) A (pyIter v) (fun u => codeAny (model prog w) A (.compStart (.ListComp elt gens scope pos) k u (.ref D) env) fun r s3 => (∃ f, r = .ok f) ∧ Z s3) E s1) E s
theorem comp_turn {g : Comprehension} {Q : Fin → Shared → Prop} (hg : gens[k]? = some g) (h0 : g.is_async = 0) (h1 : ∀ g', gens[k + 1]? = some g' → g'.is_async = 0 ∧ ∀ x, foldedSetIterable g'.iter env x = pure x)
    (h : wpAny (model prog w) A (pyNext it) (fun r s1 => (r = none → Q (.done .next) s1) ∧ ∀ v, r = some v → wpAny (model prog w) A (letOwnedTupleGo g.target it v) (fun _ s2 => wpAny (model prog w) A (assign g.target env v) (fun _ s3 =>
      wpAny (model prog w) A (forIn g.ifs true fun c r => if r = true then do let ok ← isTrue c env (eval c env); pure (ForInStep.yield ok) else pure (ForInStep.yield r)) (fun ok s4 =>
        if ok = true then Into prog w A (fun _ _ => False) elt gens scope pos (k + 1) D env (Q (.again (.compLoop (.ListComp elt gens scope pos) k it (.ref D) env))) s4 else Q (.again (.compLoop (.ListComp elt gens scope pos) k it (.ref D) env)) s4) E s3) E s2) E s1) E s) :
    wpAny (model prog w) A (compTurn (.ListComp elt gens scope pos) k it (.ref D) env) Q E s := by
  unfold compTurn
  simp only [hg, h0]
  simp only [if_false, bne_self_eq_false, Bool.false_eq_true]
  refine wpAny_bind (wpAny_standAt (wpAny_bind (thn h fun r s1 ⟨no, yes⟩ => ?_)))
  cases r with
  | none => exact wpAny_pure (no rfl)
  | some v =>
    refine wpAny_bind (thn (yes v rfl) fun _ s2 z2 => wpAny_bind (thn z2 fun _ s3 z3 => wpAny_bind (thn z3 fun ok s4 z4 => ?_)))
    cases ok with
    | false => exact wpAny_pure z4
    | true =>
      unfold Into at z4
      simp only [if_true] at z4 ⊢
      cases eg : gens[k + 1]? with
      | none =>
        rw [eg] at z4
        exact wpAny_bind (wpAny_bind (thnF z4 fun v s5 z5 => wpAny_bind (thnF z5 fun _ s6 z6 => wpAny_pure (wpAny_pure z6))))
      | some g1 =>
        obtain ⟨a0, fs⟩ := h1 g1 eg
        rw [eg] at z4
        simp only [a0, bne_self_eq_false, Bool.false_eq_true, if_false]
        refine wpAny_bind (thnF z4 fun v s5 z5 => wpAny_bind (wpAny_standAt (wpAny_bind (wpAny_of_eq (fs v) (wpAny_bind (wpAny_holding (thnF z5 fun u s6 z6 => ?_)))))))
        refine wpAny_bind (wpAny_runOwn (codeAny_mono z6 fun r s7 ⟨⟨f, e⟩, z7⟩ => ?_))
        subst e
        exact wpAny_pure z7
theorem comp_start {R : Result → Shared → Prop} {g : Comprehension} (hg : gens[k]? = some g) (h0 : g.is_async = 0) (same : codeAny (model prog w) A (.compLoop (.ListComp elt gens scope pos) k it (.ref D) env) R s)
    (more : wpAny (model prog w) A (pyIter it) (fun u s1 => codeAny (model prog w) A (.compLoop (.ListComp elt gens scope pos) k u (.ref D) env) R s1) (fun _ _ => False) s) :
    codeAny (model prog w) A (.compStart (.ListComp elt gens scope pos) k it (.ref D) env) R s := by
  have at_ : (clausesOf (.ListComp elt gens scope pos))[k]? = some g := hg
  have tree : wpAny (model prog w) A (compStart (.ListComp elt gens scope pos) k it (.ref D) env) (fun f s' => match f with | .done f => R (.ok f) s' | .again c => c.quiet = true ∧ codeAny (model prog w) A c R s') (fun _ _ => False) s := by
    unfold compStart
    simp only [at_, Option.elim_some, h0, bne_self_eq_false, Bool.false_eq_true, if_false]
    refine wpAny_bind ?_
    refine wpAny_askSetting ?_
    refine wpAny_ite ?_
    split
    · exact wpAny_pure ⟨rfl, same⟩
    · exact wpAny_bind (wpAny_rule (wpAny_bind (wpAny_standAt (wpAny_bind (thnF more fun u s1 z => wpAny_pure ⟨rfl, z⟩)))))
  refine codeAny_of_tree ?_
  exact wpAny_onRaise (thnF tree fun f s' z => z)
end
/-! #### how it is read -/
abbrev TR := Addr → L2.St → Hp → (Hp → Prop) → Prop
/-- the item is appended to the new list -/
def rEnd (te : TE) : TR := fun D σ H Q => te σ H fun y H1 => ∃ had, H1 D = some (.lst had) ∧ had.length < sizeLine ∧ Q (upd H1 D (.lst (had ++ [y])))
/-- one turn with the item x: N behind it -/
def rTurn (g : TG) (tt : TT) (r : TR) (vs : List Nat) (D : Addr) (σ : L2.St) (x : V) (H : Hp) (N : Hp → Prop) : Prop := g x σ H fun σ3 H3 => wipe σ3 vs = wipe σ vs ∧ tt σ3 H3 fun b H4 => cond b (r D σ3 H4 N) (N H4)
/-- the turns of one for: a condition W on (turn, how many at most are left, heap) -/
def rTurns (J : It) (g : TG) (tt : TT) (r : TR) (vs : List Nat) : TR := fun D σ H Q => ∃ W : Nat → Nat → Hp → Prop, (∃ m, W 0 m H) ∧ ∀ i m H1, W i m H1 → (J.stop i H1 ∧ Q H1) ∨
  (J.go i H1 ∧ ∃ N : Hp → Prop, (∀ H2, N H2 → ∃ m', m' < m ∧ W (i + 1) m' H2) ∧ ∀ x H2, J.yld i H1 x H2 → rTurn g tt r vs D σ x H2 N)
def rFor (wi : TI) (g : TG) (tt : TT) (r : TR) (vs : List Nat) : TR := fun D σ H Q => wi σ H fun J H1 => rTurns J g tt r vs D (wipe σ vs) H1 Q
/-- what is done from depth k on is read by r; the slots vs are forgotten behind it -/
def Rest (Y : Cx) (elt : Expr) (gens : List Comprehension) (scope : Scope) (pos : Pos) (k : Nat) (vs : List Nat) (r : TR) : Prop := ∀ (D : Addr) (pins : List (Addr × Obj)) (s : Shared) (σ : L2.St) (H : Hp) (Q : Hp → Prop), Inv Y pins σ H s → r D σ H Q →
  Into Y.prog Y.w Y.A (fun _ _ => False) elt gens scope pos k D Y.env (fun s' => ∃ H', Inv Y pins (wipe σ vs) H' s' ∧ Q H') s
section
variable {Y : Cx} {elt tg iter : Expr} {ifs : List Expr} {gens : List Comprehension} {scope : Scope} {pos : Pos} {k : Nat} {vs vs1 : List Nat} {g : TG} {tt : TT} {te : TE} {r : TR} {wi : TI}
theorem rest_end (hx : Y.xe = fun _ _ => False) (hk : gens[k]? = none) (he : PE Y elt te) : Rest Y elt gens scope pos k [] (rEnd te) := fun D pins s σ H Q I h => by
  unfold Into
  rw [hk]
  refine thn (hx ▸ he.run pins s σ H _ I h) fun v s1 ⟨y, H1, I1, rv, had, hD, hz, q⟩ => ?_
  exact app_ok I1 hD hz rv fun s2 I2 => ⟨_, I2, q⟩
theorem wipe_sub {σ σ1 : L2.St} (e : wipe σ1 vs = wipe σ vs) (hv : ∀ i ∈ vs1, i ∈ vs) : ∀ (i : Nat) v, (wipe σ vs)[i]? = some (some v) → (wipe σ1 vs1)[i]? = some (some v) := fun i v h => by
  obtain ⟨a, b⟩ := wipe_some (e ▸ h)
  rw [wipe_out fun z => b (hv i z)]
  exact a
theorem wipe_in {σ : L2.St} {i : Nat} : ∀ {vs : List Nat}, i ∈ vs → (wipe σ vs)[i]? = if i < σ.length then some none else none
  | v :: vs, h => by
    unfold wipe
    rw [List.getElem?_set, wipe_length]
    by_cases e : v = i
    · rw [if_pos e, e]
    · rw [if_neg e]; exact wipe_in ((List.mem_cons.mp h).resolve_left fun z => e z.symm)
theorem wipe_idem {σ : L2.St} : wipe (wipe σ vs) vs = wipe σ vs := List.ext_getElem? fun i => by
  by_cases h : i ∈ vs
  · rw [wipe_in h, wipe_in h, wipe_length]
  · exact wipe_out h
theorem Into.mono {prog : Program} {w : World} {A : Around} {E : Value → Shared → Prop} {D : Addr} {env : Env} {Z Z' : Shared → Prop} {s : Shared} (h : Into prog w A E elt gens scope pos k D env Z s) (z : ∀ s, Z s → Z' s) : Into prog w A E elt gens scope pos k D env Z' s := by
  unfold Into at h ⊢
  cases e : gens[k]? with
  | none => rw [e] at h; exact thn h fun _ _ a => thn a fun _ s b => z s b
  | some g => rw [e] at h; exact thn h fun _ _ a => thn a fun _ _ b => codeAny_mono b fun _ s c => ⟨c.1, z s c.2⟩
/-- the turns of a for at depth k -/
theorem loop_at {J : It} {fp : List Addr} {it D : Addr} {tn : Nat → Heap → Prop} {pins : List (Addr × Obj)} {s : Shared} {σ : L2.St} {H : Hp} {Q : Hp → Prop} (hx : Y.xe = fun _ _ => False) (hk : gens[k]? = some ⟨tg, iter, ifs, 0⟩)
    (h1 : ∀ g', gens[k + 1]? = some g' → g'.is_async = 0 ∧ ∀ x, foldedSetIterable g'.iter Y.env x = pure x) (G : Goer Y tg J fp it tn) (hg : PG Y tg g) (ht : PTs Y ifs tt) (hr : Rest Y elt gens scope pos (k + 1) vs1 r) (hv : ∀ i ∈ vs1, i ∈ vs)
    (I : Inv Y pins σ H s) (st : tn 0 s.heap) (f : ∀ b ∈ fp, FpOk Y pins H b) (h : rTurns J g tt r vs D σ H Q) (hw : wipe σ vs = σ) :
    codeAny (model Y.prog Y.w) Y.A (.compLoop (.ListComp elt gens scope pos) k (.ref it) (.ref D) Y.env) (fun r s' => (∃ fl, r = .ok fl) ∧ ∃ H', Inv Y pins σ H' s' ∧ Q H') s := by
  obtain ⟨W, ⟨m0, w0⟩, step⟩ := h
  refine codeAny_loop rfl (fun m s' => ∃ i H1, W i m H1 ∧ Inv Y pins σ H1 s' ∧ tn i s'.heap ∧ ∀ b ∈ fp, FpOk Y pins H1 b) ?_ m0 ⟨0, H, w0, I, st, f⟩
  rintro m s1 ⟨i, H1, w1, I1, st1, f1⟩
  refine wpAny_onRaise (E := fun e s' => _) (wpAny_mono (E := fun _ _ => False) ?_ (fun _ _ z => z) fun _ _ z => z.elim)
  refine comp_turn hk rfl h1 ?_
  rcases step i m H1 w1 with ⟨no, q⟩ | ⟨yes, N, fewer, q⟩
  · exact G.next I1 f1 st1 (.inl ⟨no, fun s2 I2 => ⟨fun _ => ⟨⟨_, rfl⟩, H1, I2, q⟩, fun v e => (by cases e)⟩⟩)
  · refine G.next I1 f1 st1 (.inr ⟨yes, fun u s2 z => ⟨fun e => (by cases e), fun v e => ?_⟩⟩)
    cases e
    refine thn z fun _ s3 ⟨x, H3, y3, rv, ⟨I3, st3⟩, n3⟩ => ?_
    have f3 : ∀ b ∈ fp, FpOk Y pins H3 b := fun b hb => ⟨n3 b hb, (f1 b hb).2⟩
    have P3 := I3.pinned f3 (G.obj st3)
    have back : ∀ {H5 : Hp} {σ5 : L2.St} {s5 : Shared}, Inv Y (pins ++ pinsAt fp s3.heap) σ5 H5 s5 → (∀ (j : Nat) v, σ[j]? = some (some v) → σ5[j]? = some (some v)) → N H5 → ∃ m', m' < m ∧ ∃ i H1, W i m' H1 ∧ Inv Y pins σ H1 s5 ∧ tn i s5.heap ∧ ∀ b ∈ fp, FpOk Y pins H1 b := fun {H5 σ5 s5} I5 le n5 => by
      obtain ⟨m', lt, w5⟩ := fewer H5 n5
      have at5 : ∀ b ∈ fp, ∀ o, s3.heap.get? b = some o → s5.heap.get? b = some o ∧ H5 b = none := fun b hb o e => by
        have p := I5.pin (b, o) (List.mem_append_right _ (List.mem_append_right _ (mem_pinsAt hb e)))
        exact ⟨p.1, p.2.1⟩
      refine ⟨m', lt, i + 1, H5, w5, (I5.unpinned).weak (I.len.trans I5.len.symm) le, G.keep st3 fun b hb o e => (at5 b hb o e).1, fun b hb => ⟨?_, (f1 b hb).2⟩⟩
      obtain ⟨o, e, _⟩ := G.obj st3 b hb
      exact (at5 b hb o e).2
    refine thnF (hx ▸ hg.run _ s3 σ H3 x u _ P3 rv (q x H3 y3)) fun _ s4 ⟨σ4, H4, P4, same, t4⟩ => thnF (hx ▸ ht.run _ s4 σ4 H4 _ P4 t4) fun ok s5 ⟨H5, P5, q5⟩ => ?_
    have le0 : ∀ (j : Nat) v, σ[j]? = some (some v) → σ4[j]? = some (some v) := fun j v e => (wipe_sub (vs1 := []) same (fun _ z => by cases z)) j v (hw.symm ▸ e)
    cases ok with
    | false => exact ⟨rfl, back P5 le0 q5⟩
    | true =>
      have le1 : ∀ (j : Nat) v, σ[j]? = some (some v) → (wipe σ4 vs1)[j]? = some (some v) := fun j v e => wipe_sub same hv j v (hw.symm ▸ e)
      exact (hr D _ s5 σ4 H5 _ P5 q5).mono fun s6 ⟨H6, P6, q6⟩ => ⟨rfl, back P6 le1 q6⟩
theorem rest_for (hx : Y.xe = fun _ _ => False) (hk : gens[k]? = some ⟨tg, iter, ifs, 0⟩) (h1 : ∀ g', gens[k + 1]? = some g' → g'.is_async = 0 ∧ ∀ x, foldedSetIterable g'.iter Y.env x = pure x)
    (hi : Brings Y tg iter wi) (hg : PG Y tg g) (ht : PTs Y ifs tt) (hr : Rest Y elt gens scope pos (k + 1) vs1 r) (hv : ∀ i ∈ vs1, i ∈ vs) : Rest Y elt gens scope pos k vs (rFor wi g tt r vs) := fun D pins s σ H Q I h => by
  unfold Into
  rw [hk]
  refine thn (hx ▸ hi pins s σ H _ I h) fun v s1 z => thn z fun u s2 ⟨it, J, fp, tn, H1, e, G, q, I2, st, f⟩ => ?_
  subst e
  have I3 : Inv Y pins (wipe σ vs) H1 s2 := I2.weak (wipe_length σ vs) fun i v e => (wipe_some e).1
  have go := loop_at (iter := iter) hx hk h1 G hg ht hr hv I3 st f q wipe_idem
  exact comp_start hk rfl go (G.self st go)
/-- the whole: an iterator, a new list, the turns -/
def tDeep (wi : TI) (g : TG) (tt : TT) (r : TR) (vs : List Nat) : TE := fun σ H Q => wi σ H fun J H1 => ∀ D, H1 D = none → rTurns J g tt r vs D (wipe σ vs) (upd H1 D (.lst [])) (Q (.ref D))
/-- the block begins; the pins are told in it too -/
theorem blk_begins {X : Cx} {pins : List (Addr × Obj)} {σ : L2.St} {H : Hp} {s : Shared} {own : List (Str × Nat)} {fp : List Addr} (I : Inv X pins σ H s) (ok : BlkOk X.N X.env.scope scope own) (hN : X.N.Nodup) (hf : ∀ b ∈ fp, FpOk X pins H b ∧ b < s.heap.objs.size) :
    Inv (blkP X s H scope (compEnvC scope (cellsFrom (s.heap.objs.size + 1) scope.names (cloFrom X.env.cells scope.names [])) s.heap.objs.size X.env) fp) [] (wipe σ (own.map (·.2))) H { s with heap := pushCells (s.heap.push { cls := .type "dict", data := .dict #[] }) scope.names } := by
  have B := block_start I ok hN hf
  refine { B with ok := { B.ok with }, pin := fun p hp => ?_ }
  have hp' : p ∈ X.pn := by simpa using hp
  obtain ⟨a, b, c, d, e⟩ := I.pin p (List.mem_append_left _ hp')
  have lt := Heap.lt_size a
  refine ⟨?_, b, Nat.ne_of_lt lt, fun z => ?_, e⟩
  · exact pushCells_keeps _ _ _ _ (Heap.get?_push_of_some _ a)
  · exact (List.mem_cons.mp (I.stkSub _ z)).elim c d
theorem pe_deep {X : Cx} {own : List (Str × Nat)} {rest : List Comprehension} (hN : X.N.Nodup) (hi : Brings X tg iter wi) (ok : BlkOk X.N X.env.scope scope own)
    (hg : ∀ (s : Shared) (H : Hp) (C : Addr) (cl : List (Str × Addr)) (fp : List Addr), PG (blkP X s H scope (compEnvC scope cl C X.env) fp) tg g)
    (ht : ∀ (s : Shared) (H : Hp) (C : Addr) (cl : List (Str × Addr)) (fp : List Addr), PTs (blkP X s H scope (compEnvC scope cl C X.env) fp) ifs tt)
    (hr : ∀ (s : Shared) (H : Hp) (C : Addr) (cl : List (Str × Addr)) (fp : List Addr), Rest (blkP X s H scope (compEnvC scope cl C X.env) fp) elt (⟨tg, iter, ifs, 0⟩ :: rest) scope pos 1 vs1 r)
    (hv : ∀ i ∈ vs1, i ∈ own.map (·.2)) (h1 : ∀ g', rest[0]? = some g' → g'.is_async = 0 ∧ ∀ env x, foldedSetIterable g'.iter env x = pure x) (hs : ∀ x, foldedSetIterable iter X.env x = pure x := by intro _; rfl) :
    PE X (.ListComp elt (⟨tg, iter, ifs, 0⟩ :: rest) scope pos) (tDeep wi g tt r (own.map (·.2))) := by
  refine ⟨fun pins s σ H Q I h => ?_⟩
  have caught : ∀ y ∈ scope.names, y.2 = .free → ∃ c, X.env.cells.lookup y.1 = some c := fun y hy e => I.ok.has _ (ok.free y hy e)
  rw [eval_ListComp]
  refine wpAny_comprehension_free rfl hs (closure_ok caught) ok.kind (fun y hy e => (ok.uniq y hy).trans (congrArg some e)) (thn (hi pins s σ H _ I h) fun v s1 z => thn z fun u s2 ⟨it, J, fp, tn, H1, e, G, q, I2, st, f⟩ => ?_)
  subst e
  have I3 := I2.lnew (ys := []) (its := []) (t' := s2.toks) .nil (Nat.zero_le _)
  refine wpAny_newObj_type (newEnv_comp ?_) (Nat.zero_le _)
  have old : ∀ b ∈ fp, b < s2.heap.objs.size := fun b hb => let ⟨_, e, _⟩ := G.obj st b hb; Heap.lt_size e
  have f3 : ∀ b ∈ fp, FpOk X pins (upd H1 s2.heap.objs.size (.lst [])) b := fun b hb => ⟨(upd_ne (Nat.ne_of_lt (old b hb))).trans (f b hb).1, (f b hb).2⟩
  have B := blk_begins I3 ok hN fun b hb => ⟨f3 b hb, by rw [Heap.size_push]; exact Nat.lt_succ_of_lt (old b hb)⟩
  have fresh := q s2.heap.objs.size I2.fresh
  generalize hs3 : ({ s2 with heap := s2.heap.push { cls := .type "list", data := .seq ([] : List Value).toArray } } : Shared) = s3 at I3 B
  have st3 : tn 0 (pushCells (s3.heap.push { cls := .type "dict", data := .dict #[] }) scope.names) := G.keep st fun b _ o e => pushCells_keeps _ _ _ _ (Heap.get?_push_of_some _ (by rw [← hs3]; exact Heap.get?_push_of_some _ e))
  have G' : Goer (blkP X s3 (upd H1 s2.heap.objs.size (.lst [])) scope (compEnvC scope (cellsFrom (s3.heap.objs.size + 1) scope.names (cloFrom X.env.cells scope.names [])) s3.heap.objs.size X.env) fp) tg J fp it tn := G
  have f4 : ∀ b ∈ fp, FpOk (blkP X s3 (upd H1 s2.heap.objs.size (.lst [])) scope (compEnvC scope (cellsFrom (s3.heap.objs.size + 1) scope.names (cloFrom X.env.cells scope.names [])) s3.heap.objs.size X.env) fp) [] (upd H1 s2.heap.objs.size (.lst [])) b := fun b hb => by
    obtain ⟨a0, a1, a2, a3, a4, a5⟩ := f3 b hb
    refine ⟨a0, (B.ok.exf b hb).1, B.ok.exfs b hb, .inl hb, (B.ok.exf b hb).2, fun p hp => ?_⟩
    exact a5 p (List.mem_append_left _ (by simpa using hp))
  have go := loop_at (elt := elt) (gens := ⟨tg, iter, ifs, 0⟩ :: rest) (pos := pos) (k := 0) (iter := iter) (D := s2.heap.objs.size) rfl rfl (fun g' e => ⟨(h1 g' e).1, (h1 g' e).2 _⟩) G' (hg _ _ _ _ _) (ht _ _ _ _ _) (hr _ _ _ _ _) hv B st3 f4 fresh wipe_idem
  have ended := comp_start rfl rfl go (G'.self st3 go)
  refine codeAny_mono ended fun res s5 ⟨⟨fl, e⟩, H5, I5, q5⟩ => ?_
  subst e
  obtain ⟨m, hm, _⟩ := I5.loc
  refine ⟨m, hm, fun h' sb => ⟨.ref s2.heap.objs.size, H5, ?_, rfl, q5⟩⟩
  obtain ⟨z0, z1, z2, z3, z4, z5⟩ := I3.fpOk (Nat.le_refl _) I5.free
  have I6 : Inv X pins σ H5 s5 := I3.call' I5.os I5.base I5.hok I5.bare fun b hb => ⟨(f3 b hb).2.2.2.1, (f3 b hb).2.1, (f3 b hb).2.2.2.2.1, (f3 b hb).2.2.2.2.2⟩
  exact I6.turned (t' := s5.toks) (fun b o hb e => (sb.2 b hb).trans e) z0 z1 z3 z4 z5
end

/-! ### a tuple unpacked while an error is handled -/
section
variable {prog : Program} {w : World} {A : Around} {E : Value → Shared → Prop} {s : Shared} {hot : Addr}
/-- a rising iterator that is through tells its end by a new error -/
theorem rising_through {it l : Addr} {o ol : Obj} {i : Nat} {items : Array Value} {n : Nat} {G : PySem.Fin → Shared → Prop} {Z : Value → Shared → Prop} (ho : HotX.HotAt A hot s.heap) (ih : hot ≠ it) (eo : s.heap.get? it = some o) (fo : o.data = .fields #[.ref l, .int i 0])
    (el : s.heap.get? l = some ol) (fl : ol.data = .seq items n) (past : items[i]? = none)
    (z : ∀ g a, (∀ c v, c ≠ it → s.heap.get? c = some v → g.get? c = some v) → (∃ v, g.get? a = some v ∧ v.cls = .type "StopIteration") → Z (.ref a) { s with heap := g }) :
    wpAny (model prog w) A (Builtin.«tuple_iterator.__next__» ⟨[.ref it], []⟩) G Z s := by
  obtain ⟨yes, u, fs, e, r⟩ := ho
  have off : (Value.ref l == Value.none) = false := rfl
  refine wpAny_bind (m := field _ 0) (wpAny_field eo fo (x := .ref l) rfl ?_)
  simp only [off, Bool.false_eq_true, if_false]
  refine wpAny_bind (m := field _ 1) (wpAny_field eo fo (x := .int i 0) rfl (wpAny_bind (m := seqItems? _) (wpAny_seqItems el fl ?_)))
  simp only [Int.toNat_natCast, past]
  refine wpAny_bind (wpAny_rule (wpAny_bind (wpAny_setField eo fo (Nat.zero_lt_succ _) (tells_end ⟨yes, u, fs, (Heap.get?_update_other _ _ (Ne.symm ih)).trans e, r⟩ fun g a k h => z g a (fun c v nc ec => k c v ?_) h))))
  exact (Heap.get?_update_other _ _ (Ne.symm nc)).trans ec
/-- the end of a tuple's iterator -/
theorem next_tuple_through {it t : Addr} {i : Nat} {items : Array Value} {Q : Option Value → Shared → Prop} (ho : HotX.HotAt A hot s.heap) (ih : hot ≠ it) (a : s.heap.IsTupleIter it t i) (b : s.heap.IsTuple t items) (past : items[i]? = none)
    (q : ∀ g, (∀ c v, c ≠ it → s.heap.get? c = some v → g.get? c = some v) → Q none { s with heap := g }) : wpAny (model prog w) A (pyNext (.ref it)) Q E s := by
  obtain ⟨o, eo, co, fo⟩ := id a
  obtain ⟨ol, el, _, n, fl⟩ := b
  have ho1 : HotX.HotAt A.in1 hot s.heap := ho
  refine wpAny_bind (wpAny_attempt (wpAny_callSpecial?_slot (name := Str.ofString "__next__") a.typeIs F.slot_tuple_iterator_next (wpAny_call_entry F.slot_tuple_iterator_next a.typeIs F.entry_tuple_iterator_next
    (rising_through ho1 ih eo fo el fl past fun g x k ⟨v, ev, cv⟩ => ?_) (F.args_tuple_iterator_next_1 _))))
  exact wpAny_bind (wpAny_isInstance (T := "StopIteration") (U := "StopIteration") (b := true) ⟨v, ev, cv⟩ isSubtype_stop (wpAny_pure (q g k)))
/-- all that a tuple holds is handed out; only an iterator is new -/
theorem unpacked {t : Addr} {items : Array Value} {Q : List Value → Shared → Prop} (ho : HotX.HotAt A hot s.heap) (b : s.heap.IsTuple t items)
    (q : ∀ g, (∀ c v, s.heap.get? c = some v → g.get? c = some v) → Q items.toList { s with heap := g }) : wpAny (model prog w) A (unpackItems (.ref t) items.size none) Q E s := by
  have young : ∀ {c : Addr} {v : Obj}, s.heap.get? c = some v → c ≠ s.heap.objs.size := fun e => Nat.ne_of_lt (Heap.lt_size e)
  have bt : t ≠ s.heap.objs.size := let ⟨_, e, _⟩ := b; young e
  obtain ⟨yes, u, fs, eu, r⟩ := id ho
  -- behind the draws
  have last : ∀ g : Heap, g.IsTupleIter s.heap.objs.size t items.size → (∀ c v, s.heap.get? c = some v → g.get? c = some v) →
      wpAny (model prog w) A (pyNext (.ref s.heap.objs.size)) (fun x s' => x = none ∧ Q items.toList s') E { s with heap := g } := fun g it k =>
    next_tuple_through (s := { s with heap := g }) ⟨yes, u, fs, k _ _ eu, r⟩ (young eu) it (let ⟨o, e, z⟩ := b; ⟨o, k _ _ e, z⟩) (Array.getElem?_eq_none (Nat.le_refl _)) fun g' k' => ⟨rfl, q g' fun c v e => k' c v (young e) (k c v e)⟩
  have all : wpAny (model prog w) A (draw (.ref s.heap.objs.size) items.size) (fun vs s' => vs = items.toList ∧ wpAny (model prog w) A (pyNext (.ref s.heap.objs.size)) (fun x s' => x = none ∧ Q items.toList s') E s') E { s with heap := s.heap.push { cls := .type "tuple_iterator", data := .fields #[.ref t, .int 0 0] } } :=
    wpAny_draw_tuple bt items.size 0 _ _ ⟨_, Heap.get?_push_size _ rfl, rfl, rfl⟩ (b.push _) (Nat.le_of_eq (Nat.zero_add _)) fun g it k => ⟨List.take_of_length_le (Nat.le_of_eq Array.length_toList), last g (Nat.zero_add items.size ▸ it) fun c v e => k.extBut c v (young e) (Heap.get?_push_of_some _ e)⟩
  refine wpAny_bind (m := notIterableAtAll _) (wpAny_bind (m := specialOf _ _) (wpAny_specialOf b.typeIs F.slot_tuple_iter.lookup (wpAny_pure ?_)))
  refine wpAny_bind (m := holding _ _) (wpAny_holding (wpAny_pyIter_tuple b (wpAny_bind (m := holding _ _) (wpAny_holding (thn all fun vs s1 ⟨e, z⟩ => ?_)))))
  subst e
  have full : ¬ items.toList.length < items.size := by simp
  simp only [full, if_false]
  exact wpAny_bind (m := holding _ _) (wpAny_holding (thn z fun x s2 ⟨e, z2⟩ => by subst e; exact wpAny_pure z2))
/-- stored to names, each its own -/
theorem unpacked_to {elts : List Expr} {k : Nat} {pos : Pos} {env : Env} {t : Addr} {items : Array Value} {Q : Unit → Shared → Prop} (ho : HotX.HotAt A hot s.heap) (b : s.heap.IsTuple t items) (hn : (assignEach elts env).length = items.size) (hst : (assignEach elts env).findIdx? (·.1) = none)
    (q : ∀ g, (∀ c v, s.heap.get? c = some v → g.get? c = some v) → wpAny (model prog w) A (assignInOrder ((assignEach elts env).map (·.2)) items.toList) Q E { s with heap := g }) : wpAny (model prog w) A (assign (.Tuple elts k pos) env (.ref t)) Q E s :=
  wpAny_bind (m := standAt pos) (wpAny_standAt (wpAny_bind (m := holding _ _) (wpAny_holding (hn ▸ hst ▸ unpacked ho b q))))
/-- a, b, .. = a tuple, there -/
theorem pg_tupH {X : Cx} {es : List Expr} {k n : Nat} {t : TGs} {pos : Pos} (hc : L2H.HotC X) (each : PGs X es t) (hn : (assignEach es X.env).length = n := by rfl) (hst : (assignEach es X.env).findIdx? (·.1) = none := by rfl) : PG X (.Tuple es k pos) (gTup X.K n t) where
  run := by
    rintro pins s σ H _ u Q I rel ⟨at_, xs, rfl, tup, many, go⟩
    obtain rfl : u = .ref at_ := rel
    obtain ⟨_, hot⟩ := hc.at I
    have ⟨us, same, isT, _⟩ := I.tuple tup
    have size : us.toArray.size = xs.length := by simp [same.length]
    exact unpacked_to hot isT (by rw [hn, size, many]) hst fun g k => each.run pins _ σ H xs us Q (I.kept (t' := s.toks) k) same go
end

/-! ### zip of two lists while an error is handled -/
/-- as the library's, but that the end is told at the shorter one's length -/
def ItzH (K : PySem.W.Frag) (a b : Addr) : It := { Itz K a b with stop := fun i H => ∃ xs ys : List V, SqL K H a xs ∧ SqL K H b ys ∧ i = min xs.length ys.length }
/-- what the objects of such a zip are at turn i -/
def ZipAt (a b z TI TO i1 i2 : Addr) (i : Nat) (h : Heap) : Prop := IsZip h z TI TO .none ∧ IsTupOf2 h TI (.ref i1) (.ref i2) ∧ (∃ x y, IsTupOf2 h TO x y) ∧ h.IsListIter i1 a i ∧ h.IsListIter i2 b i
section
variable {a b z TI TO i1 i2 : Addr}
theorem ZipAt.obj {i : Nat} {h : Heap} (st : ZipAt a b z TI TO i1 i2 i h) : ∀ c ∈ [z, TI, TO, i1, i2], ∃ o, h.get? c = some o ∧ ∀ v, o.data ≠ .cell v := fun c hc => by
  obtain ⟨z1, z2, ⟨x, y, z3⟩, ⟨o4, z4, _, d4⟩, o5, z5, _, d5⟩ := st
  simp only [List.mem_cons, List.not_mem_nil, or_false] at hc
  rcases hc with rfl | rfl | rfl | rfl | rfl
  · exact ⟨_, z1, fun v e => by cases e⟩
  · exact ⟨_, z2, fun v e => by cases e⟩
  · exact ⟨_, z3, fun v e => by cases e⟩
  · exact ⟨_, z4, fun v e => by rw [d4] at e; cases e⟩
  · exact ⟨_, z5, fun v e => by rw [d5] at e; cases e⟩
theorem ZipAt.keep {i : Nat} {h h' : Heap} (st : ZipAt a b z TI TO i1 i2 i h) (k : ∀ c ∈ [z, TI, TO, i1, i2], ∀ o, h.get? c = some o → h'.get? c = some o) : ZipAt a b z TI TO i1 i2 i h' := by
  obtain ⟨z1, z2, ⟨x, y, z3⟩, ⟨o4, z4, r4⟩, o5, z5, r5⟩ := st
  exact ⟨k z (by simp) _ z1, k TI (by simp) _ z2, ⟨x, y, k TO (by simp) _ z3⟩, ⟨o4, k i1 (by simp) _ z4, r4⟩, o5, k i2 (by simp) _ z5, r5⟩
/-- the walk of such a zip, the handled error's object kept by -/
theorem zip_goes {X : Cx} {pins : List (Addr × Obj)} {σ : L2.St} {H : Hp} {s : Shared} {elts : List Expr} {kk : Nat} {tpos : Pos} (S : ZipSep2 z TI TO i1 i2 [i1, a] [i2, b]) (c : L2H.HotC X) (I : Inv X pins σ H s) (f : ∀ c ∈ [z, TI, TO, i1, i2], FpOk X pins H c)
    {j : Nat} (st : ZipAt a b z TI TO i1 i2 j s.heap) {xs ys : List V} (ha : SqL X.K H a xs) (hb : SqL X.K H b ys) : ∃ (us vs : List Value) (hot : Addr) (St : Nat → Heap → Prop), Vals xs us ∧ Vals ys vs ∧ (∀ i h, St i h → ZipAt a b z TI TO i1 i2 i h) ∧ St j s.heap ∧
      GoesN X.prog X.w X.A (.Tuple elts kk tpos) z (z :: TI :: TO :: ([i1, a, hot] ++ [i2, b, hot])) [z, TO, i1, i2] (min us.length vs.length) (fun i h0 v h => ∃ T x y, v = .ref T ∧ h0.objs.size ≤ T ∧ us[i]? = some x ∧ vs[i]? = some y ∧ h.IsTuple T #[x, y]) St := by
  obtain ⟨us, ru, pu, _⟩ := I.list ha
  obtain ⟨vs, rv, pv, _⟩ := I.list hb
  obtain ⟨p, ⟨yes, w1, e1, c1⟩, hp⟩ := id c
  have off : ∀ d ∈ [z, TI, TO, i1, i2], p.1 ≠ d := fun d hd => (f d hd).2.2.2.2.2 p (List.mem_append_left _ hp)
  have hotAt : HotX.HotAt X.A p.1 s.heap := ⟨yes, p.2, w1, (I.pin p (List.mem_append_left _ hp)).1, e1, c1⟩
  have o1 := off z (by simp); have o3 := off TO (by simp); have o4 := off i1 (by simp); have o5 := off i2 (by simp)
  obtain ⟨z1, z2, z3, ⟨q1, g1, k1, d1⟩, q2, g2, k2, d2⟩ := id st
  have n1 : a ≠ i1 := fun e => by
    obtain ⟨o, _, g, _, _, k⟩ := pu
    rw [e, g1] at g; cases g
    rw [d1] at k; cases k
  have n2 : b ≠ i2 := fun e => by
    obtain ⟨o, _, g, _, _, k⟩ := pv
    rw [e, g2] at g; cases g
    rw [d2] at k; cases k
  have wide : ∀ {c d : Addr} {m : Addr}, c ∉ [d, m] → p.1 ≠ c → c ∉ [d, m, p.1] := fun {c d m} h1 h2 h => by
    simp only [List.mem_cons, List.not_mem_nil, or_false, not_or] at h1 h
    rcases h with h | h | h
    · exact h1.1 h
    · exact h1.2 h
    · exact h2 h.symm
  have S' : ZipSep2 z TI TO i1 i2 [i1, a, p.1] [i2, b, p.1] := { S with mem1 := List.mem_cons_self .., mem2 := List.mem_cons_self .., zf1 := wide S.zf1 o1, Tf1 := wide S.Tf1 o3, zf2 := wide S.zf2 o1, Tf2 := wide S.Tf2 o3, sep1_2 := wide S.sep1_2 o4, sep2_1 := wide S.sep2_1 o5 }
  have W := (GoesN.zip2 (prog := X.prog) (w := X.w) (elts := elts) (x1 := kk) (pos := tpos) S' (draws_by (B := X.A.in1) n1 o4 yes us.toArray) (draws_by (B := X.A.in1) n2 o5 yes vs.toArray)).mono (Y' := fun i h0 v h => ∃ T x y, v = .ref T ∧ h0.objs.size ≤ T ∧ us[i]? = some x ∧ vs[i]? = some y ∧ h.IsTuple T #[x, y]) fun i h0 v h _ ⟨T, x, y, e, n, hx, hy, ht⟩ => ⟨T, x, y, e, n, by simpa using hx, by simpa using hy, ht⟩
  exact ⟨us, vs, p.1, _, ru, rv, fun i h ⟨y1, y2, y3, ⟨y4, _⟩, y5, _⟩ => ⟨y1, y2, y3, y4, y5⟩, ⟨z1, z2, z3, ⟨⟨q1, g1, k1, d1⟩, pu.isList, hotAt⟩, ⟨q2, g2, k2, d2⟩, pv.isList, hotAt⟩, W⟩
theorem vals_at {xs : List V} {us : List Value} (r : Vals xs us) {i : Nat} {u : Value} (e : us[i]? = some u) : ∃ x, xs[i]? = some x ∧ RelV x u := by
  induction r generalizing i with
  | nil => cases e
  | cons h t ih => cases i with
    | zero => cases e; exact ⟨_, rfl, h⟩
    | succ i => exact ih e
theorem zip_turnsH {P : Program} {w : World} {K : PySem.W.Frag} {elts : List Expr} {kk : Nat} {tpos : Pos} (S : ZipSep2 z TI TO i1 i2 [i1, a] [i2, b]) : L2H.TurnH P w K (.Tuple elts kk tpos) (ItzH K a b) [z, TI, TO, i1, i2] z (ZipAt a b z TI TO i1 i2) := by
  have sub : ∀ c ∈ [z, TO, i1, i2], c ∈ [z, TI, TO, i1, i2] := fun c hc => (List.mem_cons.mp hc).elim (fun e => e ▸ List.mem_cons_self ..) fun h => List.mem_cons_of_mem _ (List.mem_cons_of_mem _ h)
  constructor
  case mem => simp
  case obj => exact fun i h st => st.obj
  case keep => exact fun i h h' st k => st.keep k
  case self => exact fun A i s Q E st q => wpAny_pyIter_zip st.1 q
  case done =>
    rintro X rfl rfl rfl c i pins s σ H E I f st ⟨xs, ys, ha, hb, rfl⟩
    obtain ⟨us, vs, hot, St, ru, rv, _, st', W⟩ := zip_goes (elts := elts) (kk := kk) (tpos := tpos) S c I f st ha hb
    rw [ru.length, rv.length] at st'
    refine W.stops s _ E st' fun h' tk k _ => ?_
    exact I.turnedL k fun c hc => f c (sub c hc)
  case item =>
    rintro X rfl rfl rfl c i pins s σ H E I f st ⟨xs, ys, x, y, ha, hb, ex, ey⟩
    obtain ⟨us, vs, hot, St, ru, rv, back, st', W⟩ := zip_goes (elts := elts) (kk := kk) (tpos := tpos) S c I f st ha hb
    have lt : i < min us.length vs.length := by
      have l1 := (List.getElem?_eq_some_iff.mp ex).1
      have l2 := (List.getElem?_eq_some_iff.mp ey).1
      rw [ru.length] at l1; rw [rv.length] at l2; omega
    refine W.goes i s (fun v s2 => ∃ x H', Inv X pins σ H' s2 ∧ RelV x v ∧ (ItzH X.K a b).yld i H x H' ∧ ZipAt a b z TI TO i1 i2 (i + 1) s2.heap ∧ ∀ b ∈ [z, TI, TO, i1, i2], H' b = none) E lt st' ?_
    rintro v h' tk ⟨T, u1, u2, rfl, hT, e1, e2, tu⟩ stn k _
    obtain ⟨x1, f1, r1⟩ := vals_at ru e1
    obtain ⟨x2, f2, r2⟩ := vals_at rv e2
    have fresh : H T = none := I.hok.fresh hT
    refine ⟨.ref T, upd H T (.tup [x1, x2]), I.turnedNew k (fun c hc => f c (sub c hc)) hT ⟨by show 2 ≤ sizeLine; decide, [u1, u2], .cons r1 (.cons r2 .nil), tu⟩, rfl, ⟨T, x1, x2, rfl, fresh, rfl, fun zs hz => I.list_inj ha hz ▸ f1, fun zs hz => I.list_inj hb hz ▸ f2⟩, back _ _ stn, fun c hc => ?_⟩
    obtain ⟨o, eo, _⟩ := st.obj c hc
    exact (upd_ne (Nat.ne_of_lt (Nat.lt_of_lt_of_le (Heap.lt_size eo) hT))).trans (f c hc).1
end
/-- zip(a, b) there -/
def iZipH (K : PySem.W.Frag) (ta : TA) : TI := fun σ H R => ta σ H fun vs H1 => ∃ a b xs ys, vs = [.ref a, .ref b] ∧ SqL K H1 a xs ∧ SqL K H1 b ys ∧ R (ItzH K a b) H1
theorem pi_zipH {X : Cx} {e e2 : Expr} {ta : TA} {p pos tpos : Pos} {elts : List Expr} {kk : Nat} (gl : Gl X "zip") (no : X.mg "zip" = none) (args : PA X [e, e2] ta) (two : starEach [e, e2] X.env = (false, eval e X.env) :: starEach [e2] X.env := by rfl) (last : (backTo pos (starEach [e2] X.env)).any (·.1) = false := by rfl) :
    L2H.PIH X (.Tuple elts kk tpos) (.Call (.Name "zip" p) [e, e2] [] pos) (iZipH X.K ta) := by
  constructor
  intro pins s σ H R I h
  have run := args.run pos pins s σ H _ I h
  refine Call_ (ld_blt I gl no boot_zip (PyProof.Rows.callWith_type1 (thn run fun us s1 got => ?_) two last))
  obtain ⟨vs, H1, I1, rel, a, b, xs, ys, rfl, ha, hb, q⟩ := got
  obtain ⟨u1, u2, rfl, r1, r2⟩ : ∃ u1 u2, us = [u1, u2] ∧ RelV (.ref a) u1 ∧ RelV (.ref b) u2 := by
    rcases rel with _ | ⟨x1, _ | ⟨x2, _ | _⟩⟩
    exact ⟨_, _, rfl, x1, x2⟩
  cases r1; cases r2
  obtain ⟨is, _, pa, _⟩ := I1.list ha
  obtain ⟨js, _, pb, _⟩ := I1.list hb
  have la : a < s1.heap.objs.size := let ⟨_, _, e, _⟩ := pa; Heap.lt_size e
  have lb : b < s1.heap.objs.size := let ⟨_, _, e, _⟩ := pb; Heap.lt_size e
  refine zip_begins2 (begins_list a is.toArray) (begins_list b js.toArray) pa.isList pb.isList fun g g1 g2 g3 g4 g5 _ k => wpAny_pyIter_zip g1 ?_
  refine ⟨_, _, _, _, H1, rfl, I1.kept (t' := s1.toks) k, zip_turnsH (zip_sep2 (N := s1.heap.objs.size) (fp1 := [a]) (fp2 := [b]) (fun c hc => List.mem_singleton.mp hc ▸ la) fun c hc => List.mem_singleton.mp hc ▸ lb), ⟨g1, g2, ⟨_, _, g3⟩, ⟨_, g4, rfl, rfl⟩, _, g5, rfl, rfl⟩, fun c hc => ?_, q⟩
  have le : s1.heap.objs.size ≤ c := by
    simp only [List.mem_cons, List.not_mem_nil, or_false] at hc
    rcases hc with e | e | e | e | e <;> (rw [e]; first | exact Nat.le_add_right _ _ | exact Nat.le_refl _)
  exact I1.fpOk le (I1.hok.fresh le)

/-! ### a lambda called in the def that got it: that its errors bear no context stays known -/
section
variable {X : Cx} {pins : List (Addr × Obj)} {σ : L2.St} {H HZ : Hp} {s sZ : Shared} {scope : Scope} {params : Arguments} {body : Expr} {f c : Addr} {pm ctv : Value}
/-- the body's context -/
def lamN (X : Cx) (A : Around) (outer : List Env) (s : Shared) (H : Hp) (E : XK) (scope : Scope) (f c : Addr) : Cx :=
  { LamX.lamCx X A outer s H E scope f c with
    xe := fun e t => wpAny (model X.prog X.w) (A.deeper (LamX.lamEnv X scope s.heap.objs.size f c)) (leaving (LamX.lamEnv X scope s.heap.objs.size f c) e) (fun _ t' => L2N.CX X.prog X.w outer H s E e t') (fun _ _ => False) t }
theorem lamN_takes {A : Around} {outer : List Env} {E : XK} : L2N.Takes (lamN X A outer s H E scope f c) (fun cls d _ H' => E cls d H') := L2N.takes_of rfl rfl rfl rfl
/-- the lambda at f, as its maker X left it in s -/
structure LamAt (X : Cx) (s : Shared) (H : Hp) (params : Arguments) (body : Expr) (scope : Scope) (f c : Addr) : Prop where
  obj : ∃ pm ctv, s.heap.get? f = some (PySem.W.kla_obj "<lambda>" (X.env.qual ++ "<lambda>") params body scope (cloFrom X.env.cells scope.names []) pm c ctv)
  out : H f = none
  nofr : f ∉ frs X.stack
  code : H c = some (LamX.CodeO c (X.env.qual ++ "<lambda>"))
/-- run where the frames are outer -/
theorem lam_runs {A : Around} {outer : List Env} {E : XK} {Q : VK} {tb : TE} (I : Inv X pins σ H s) (L : LamX.LamS X.env.scope scope) (at_ : LamAt X s H params body scope f c)
    (none_ : ∀ (q : Str) (cl : List (Str × Addr)) (pm cv ctv : Value), bindArgs (PySem.W.kla_fn "<lambda>" q params body scope cl pm cv ctv) ⟨[], []⟩ = pure [])
    (e0 : Env0 X.prog X.w X.K X.mg X.base A outer sZ HZ) (calm : A.handled = none) (room : A.depth < recursionLimit) (un : Un (frs X.stack) [] H HZ s.heap sZ.heap) (code : HZ c = some (LamX.CodeO c (X.env.qual ++ "<lambda>")))
    (runs : PE (lamN X A outer sZ HZ E scope f c) body tb) (h : tb σ HZ Q) : codeAny (model X.prog X.w) A (.call (.ref f) ⟨[], []⟩) (CR (L2N.CX X.prog X.w) outer X.prog X.w HZ sZ Q E) sZ := by
  obtain ⟨pm, ctv, made⟩ := at_.obj
  have now := un.keep f _ made at_.out at_.nofr List.not_mem_nil
  obtain ⟨⟨oc, vs, tk, g1, g2, g3⟩, _⟩ := e0.hok c _ code
  refine PySem.W.kla_callFunE room now rfl L.co L.gen rfl ⟨c, oc, vs, tk, rfl, g1, g2, g3⟩ (wpAny_of_eq (none_ _ _ _ _ _) ?_)
  refine wpAny_newFunctionEnv (fun x hx => (L.own x hx).2) (fun x hx => by cases hx) (fun g names same => ?_) L.kind
  have kept : ∀ b o, sZ.heap.get? b = some o → g.get? b = some o := fun b o e => (same.2 b (Nat.ne_of_lt (Heap.lt_size e))).trans (Heap.get?_push_of_some _ e)
  have J := LamX.lam_start2 (E := E) (f := f) (c' := c) (tk := sZ.toks + ([] : List (Str × Value)).length) I L e0 calm un names kept
  refine ⟨J.nolimit, PySem.W.kla_codeExpr ?_⟩
  have J' : Inv (lamN X A outer sZ HZ E scope f c) [] σ HZ { sZ with heap := g, toks := sZ.toks + ([] : List (Str × Value)).length } := { J with ok := { J.ok with } }
  refine wpAny_mono (runs.run [] _ σ HZ Q J' h) (fun u t ⟨v, H', I', r, q⟩ => ?_) fun e t z => wpAny_mono z (fun _ _ x => x) fun _ _ x => x.elim
  exact ⟨v, H', I'.os, I'.bare, I'.base, I'.hok, r, q⟩
/-- a(), where a holds the lambda: Z is the context of the def that got it, entered at s -/
theorem pe_door {Z : Cx} {W : WX} {tb : XK → TE} {i : Nat} {a : Str} {p1 p2 : Pos} (I : Inv X pins σ H s) (L : LamX.LamS X.env.scope scope) (at_ : LamAt X s H params body scope f c)
    (none_ : ∀ (q : Str) (cl : List (Str × Addr)) (pm cv ctv : Value), bindArgs (PySem.W.kla_fn "<lambda>" q params body scope cl pm cv ctv) ⟨[], []⟩ = pure [])
    (same : Z.prog = X.prog ∧ Z.w = X.w ∧ Z.K = X.K ∧ Z.mg = X.mg ∧ Z.base = X.base) (ent : Z.s_0 = s ∧ Z.H_0 = H ∧ Z.outer = X.stack ∧ Z.ex = []) (calm : Z.calm = true) (room : Z.A.depth < recursionLimit)
    (tk : L2N.Takes Z W) (runs : ∀ (sZ : Shared) (HZ : Hp) (E : XK), PE (lamN X Z.A Z.stack sZ HZ E scope f c) body (tb E))
    (hN : Z.N[i]? = some a) (hv : Vis Z.env.scope a) (hd : (a == ("__debug__" : Str)) = false := by decide) (hcd : (a == ("__classdict__" : Str)) = false := by decide) :
    PE Z (.Call (.Name a p1) [] [] p2) (fun σZ HZ Q => σZ[i]? = some (some (.ref f)) ∧ HZ c = some (LamX.CodeO c (X.env.qual ++ "<lambda>")) ∧ tb (fun cls d H' => W cls d σZ H') σ HZ Q) := by
  obtain ⟨zp, zw, zk, zm, zb⟩ := same
  obtain ⟨zs, zh, zo, zx⟩ := ent
  refine ⟨fun pinsZ sZ σZ HZ Q IZ ⟨slot, code, h⟩ => wpAny_Call_Name_kw ?_⟩
  refine thn ((pe_var (pos := p1) hN hv hd hcd).run pinsZ sZ σZ HZ (fun v H1 => v = .ref f ∧ H1 = HZ) IZ ⟨_, slot, rfl, rfl⟩) fun u s1 ⟨v, H1, I1, r1, ev, eh⟩ => ?_
  subst ev eh
  cases r1
  have un : Un (frs X.stack) [] H H1 s.heap s1.heap := by
    have b := I1.base
    rw [zs, zh, zx] at b
    show Un (frs X.stack) [] H H1 s.heap s1.heap
    rw [← zo]
    exact b
  have e0 := I1.env0
  rw [zp, zw, zk, zm, zb] at e0
  obtain ⟨pm, ctv, made⟩ := at_.obj
  refine PySem.W.callWith_F0 ⟨_, _, _, _, un.keep f _ made at_.out at_.nofr List.not_mem_nil⟩ (wpAny_call ?_)
  have go := lam_runs (E := fun cls d H' => W cls d σZ H') I L at_ none_ e0 (I1.ok.hd calm) room un code (runs s1 H1 _) h
  rw [zp, zw]
  refine codeAny_mono go fun r t e => ?_
  match r, e with
  | .ok (.ret u), e => exact I1.after (by rw [zp, zw]; exact e)
  | .error x, e => exact tk x t (L2N.XE.of_call I1 (fun _ _ _ z => z) (by rw [zp, zw]; exact e))
end

/-! ### a def called with the handled error itself -/
section
variable {Y : Cx} {p : Addr × Obj} {k i : Nat} {x a e : Str} {st : Stmt} {f : Addr} {fd : FuncData} {N : List Str} {R : Hp → VK → Prop}
theorem pe_told {q q1 pos : Pos} (F : Fun Y.K x x st f fd) (S : FnScope N [a] (defScope st)) (b : Binds Y.K fd [a] []) (hot : L2H.Hot1 Y.A p) (mem : p ∈ Y.pn) (room : L2H.RoomH (k + 1) Y.A) (hg : Gl Y x) (hm : Y.mg x = some (.ref f))
    (hN : Y.N[i]? = some e) (hv : Vis Y.env.scope e)
    (runs : ∀ (cdv : Value) (A : Around) (outer : List Env) (s : Shared) (H : Hp) (Q : VK), L2H.Hot1 A p → L2H.RoomH k (A.deeper (envOfC x (defScope st) s.heap.objs.size f cdv)) → R H Q →
      ∃ t, PSs (L2H.cxH CX0 Y.prog Y.w Y.K Y.mg Y.base N x (defScope st) f cdv A outer s H E0 p) (defBody st) t ∧ t { nx := fun _ H' => Q .non H', rt := Q } (L2.start N [.ref p.1]) H)
    (hdx : (x == ("__debug__" : Str)) = false := by decide) (hde : (e == ("__debug__" : Str)) = false := by decide) (hce : (e == ("__classdict__" : Str)) = false := by decide) :
    PE Y (.Call (.Name x q) [.Name e q1] [] pos) (fun σ H Q => σ[i]? = some (some (.ref p.1)) ∧ R H Q) := by
  obtain ⟨oc, od, kV, doc, pm, an, cdv, ct, osl, rfl, there, code⟩ := F.ex
  refine ⟨fun pins s σ H Q I ⟨slot, h⟩ => wpAny_Call_Name_kw (ld_glob I hg hm ?_ hdx)⟩
  have arg := (pe_var (pos := q1) hN hv hde hce).run pins s σ H (fun v H1 => v = .ref p.1 ∧ H1 = H) I ⟨_, slot, rfl, rfl⟩
  refine PySem.W.callWith_K (h₀ := Y.base) I.ok.mod.kin F.kp (args_cons (thn arg fun u s1 ⟨v, H1, I1, r1, ev, eh⟩ => args_nil ⟨I1.kIn, ?_⟩))
  subst ev eh
  cases r1
  obtain ⟨g1, g2, g3, g4, g5⟩ := I1.pin p (List.mem_append_left _ mem)
  have pin : L2H.PinOk Y.stack H1 s1 p := ⟨g1, g2, fun z => (List.mem_cons.mp (I1.stkSub _ z)).elim g3 g4, g5⟩
  have bound := b s1 [.ref p.1] I1.kIn rfl
  have kinds : (([a].zip ([Value.ref p.1] ++ [])).all fun y => (defScope st).names.lookup y.1 == some .local || (defScope st).names.lookup y.1 == some .cell) = true := by
    rcases S.par a (List.mem_cons_self ..) with z | z <;> simp [z]
  refine wpAny_call (codeAny_mono (R := fun r t => ∃ u, r = .ok (.ret u) ∧ CE Y.stack Y.prog Y.w H1 s1 Q u t) ?_ fun r t ⟨u, er, c⟩ => er ▸ I1.after c)
  refine Att.call_fn I1.kIn I1.nolimit there code room.depth bound kinds (fun s2 entered => ?_) S.co S.gen S.kind
  obtain ⟨t, walk, rd⟩ := runs cdv Y.A Y.stack s1 H1 Q hot (room.deeper _) h
  have J := L2H.inv_startH (CX := CX0) (E := E0) S pin I1.env0 (vs := [.ref p.1]) rfl (.cons rfl .nil) entered
  refine wpAny_mono (walk.run [] s2 _ H1 _ J rd) (fun fl s3 z => ?_) fun e s3 z => wpAny_mono z (fun _ _ no => (no : False).elim) fun _ _ no => (no : False).elim
  cases fl with
  | next => obtain ⟨σ', H', I', z⟩ := z; exact ⟨_, rfl, .non, H', I'.os, I'.bare, I'.base, I'.hok, rfl, z⟩
  | brk => obtain ⟨_, _, _, z⟩ := z; exact z.elim
  | cont => obtain ⟨_, _, _, z⟩ := z; exact z.elim
  | ret u => obtain ⟨v, σ', H', I', r, z⟩ := z; exact ⟨_, rfl, v, H', I'.os, I'.bare, I'.base, I'.hok, r, z⟩
end

/-! ### sorted of tuples of numbers, as many as there are -/
/-- by the first that differ -/
def lexI : List Int → List Int → Bool
  | [], [] => false
  | [], _ :: _ => true
  | _ :: _, [] => false
  | x :: xs, y :: ys => if x = y then lexI xs ys else decide (x < y)
theorem lexI_same {x : Int} {xs ys : List Int} : lexI (x :: xs) (x :: ys) = lexI xs ys := if_pos rfl
theorem lexI_differ {x y : Int} {xs ys : List Int} (h : x ≠ y) : lexI (x :: xs) (y :: ys) = decide (x < y) := if_neg h
/-- x before y by the order; told by the first place that differs -/
theorem lexI_cases (xs ys : List Int) : (lexI xs ys = true ∧ lexI ys xs = false) ∨ (lexI xs ys = false ∧ lexI ys xs = true) ∨ (lexI xs ys = false ∧ lexI ys xs = false ∧ xs = ys) := by
  induction xs generalizing ys with
  | nil => cases ys with
    | nil => exact .inr (.inr ⟨rfl, rfl, rfl⟩)
    | cons y ys => exact .inl ⟨rfl, rfl⟩
  | cons x xs ih => cases ys with
    | nil => exact .inr (.inl ⟨rfl, rfl⟩)
    | cons y ys =>
      rcases Int.lt_trichotomy x y with lt | e | gt
      · rw [lexI_differ (show x ≠ y by omega), lexI_differ (show y ≠ x by omega)]
        exact .inl ⟨decide_eq_true lt, decide_eq_false (show ¬ y < x by omega)⟩
      · subst e
        rw [lexI_same, lexI_same]
        rcases ih ys with h | h | ⟨h, h', e⟩
        · exact .inl h
        · exact .inr (.inl h)
        · exact .inr (.inr ⟨h, h', by rw [e]⟩)
      · rw [lexI_differ (show x ≠ y by omega), lexI_differ (show y ≠ x by omega)]
        exact .inr (.inl ⟨decide_eq_false (show ¬ x < y by omega), decide_eq_true gt⟩)
theorem lexI_asym {xs ys : List Int} (h : lexI xs ys = true) : lexI ys xs = false := by
  rcases lexI_cases xs ys with z | z | z
  · exact z.2
  · rw [h] at z; cases z.1
  · exact z.2.1
theorem lexI_eq {xs ys : List Int} (h : lexI xs ys = false) (h' : lexI ys xs = false) : xs = ys := by
  rcases lexI_cases xs ys with z | z | z
  · rw [h] at z; cases z.1
  · rw [h'] at z; cases z.2
  · exact z.2.2
theorem lexI_trans {xs ys zs : List Int} (h : lexI xs ys = true) (h' : lexI ys zs = true) : lexI xs zs = true := by
  induction xs generalizing ys zs with
  | nil => cases zs with
    | nil => cases ys with
      | nil => exact h
      | cons y ys => exact h'
    | cons z zs => rfl
  | cons x xs ih =>
    cases ys with
    | nil => exact Bool.noConfusion h
    | cons y ys => cases zs with
      | nil => exact Bool.noConfusion h'
      | cons z zs =>
        by_cases a : x = y <;> by_cases b : y = z
        · subst a b
          rw [lexI_same] at h h' ⊢
          exact ih h h'
        · subst a
          rw [lexI_differ b] at h' ⊢
          exact h'
        · subst b
          rw [lexI_differ a] at h ⊢
          exact h
        · rw [lexI_differ a] at h
          rw [lexI_differ b] at h'
          have lt1 := of_decide_eq_true h
          have lt2 := of_decide_eq_true h'
          rw [lexI_differ (show x ≠ z by omega)]
          exact decide_eq_true (show x < z by omega)
theorem lexI_neg {xs ys zs : List Int} (h : lexI ys xs = false) (h' : lexI zs ys = false) : lexI zs xs = false := by
  rcases lexI_cases xs ys with a | a | a
  · rcases lexI_cases ys zs with b | b | b
    · exact lexI_asym (lexI_trans a.1 b.1)
    · rw [h'] at b; cases b.2
    · exact b.2.2 ▸ a.2
  · rw [h] at a; cases a.2
  · exact a.2.2 ▸ h'
/-- as the tuples of numbers stand in a heap -/
def ltIn (h : Heap) (v u : Value) : Bool := lexI (TS.intsOf h v) (TS.intsOf h u)
theorem swo_in (h : Heap) : SrtO.Swo (ltIn h) := ⟨fun _ _ => lexI_asym, fun _ _ _ => lexI_neg⟩
section
variable {prog : Program} {w : World} {A : Around} {s : Shared} {d : Nat}
theorem lex_goes {b : Bool} {Q : Bool → Shared → Prop} {xs : List Value} {ns : List Int} (hx : IntsAre xs ns) : ∀ {ys : List Value} {ms : List Int} (i : Nat), IntsAre ys ms → ns.length = ms.length → Q (lexI ns ms) s → PySem.W.KatLex prog w A b false Q (xs.zip ys) i s := by
  induction hx with
  | nil =>
    intro ys ms i hy hl q
    cases hy with
    | nil => exact q
    | cons => cases hl
  | cons n t _ more =>
    intro ys ms i hy hl q
    cases hy with
    | nil => cases hl
    | cons m u hy =>
      refine PySem.W.kat_cons (wpAny_eqBool_int (PySem.W.kat_go (fun same => PySem.W.kat_yes (more (i + 1) hy (Nat.succ.inj hl) ?_)) fun differ => PySem.W.kat_no (TS.oneLt_ints _ ?_)))
      · obtain rfl : n = m := by simpa using same
        rwa [lexI_same] at q
      · have ne : n ≠ m := by simpa using differ
        rwa [lexI_differ ne] at q
/-- tuples of d numbers -/
def AllT (h : Heap) (d : Nat) (vs : List Value) : Prop := ∀ v ∈ vs, ∃ ns, TS.TupInts h v ns ∧ ns.length = d
theorem tups_cmp {h : Heap} {b : Bool} {vs : List Value} (now : AllT s.heap d vs) (same : ∀ v ∈ vs, ∀ ns, TS.TupInts s.heap v ns → TS.intsOf h v = ns) : SrtO.Cmp prog w A s (tuples' b) (fun p => p.1 ∈ vs) (SrtO.lt2 (ltIn h)) := by
  rintro ⟨v, v'⟩ ⟨u, u'⟩ hv hu
  obtain ⟨ns, tn, ln⟩ := now v hv
  obtain ⟨ms, tm, lm⟩ := now u hu
  have value : SrtO.lt2 (ltIn h) (v, v') (u, u') = lexI ns ms := by
    show lexI (TS.intsOf h v) (TS.intsOf h u) = _
    rw [same v hv ns tn, same u hu ms tm]
  rw [value]
  obtain ⟨a, xs, rfl, ⟨o1, at1, _, _, in1⟩, ix⟩ := tn
  obtain ⟨c, ys, rfl, ⟨o2, at2, _, _, in2⟩, iy⟩ := tm
  refine PySem.W.kat_lt at1 in1 at2 in2 ?_
  have zx : xs.size = d := by rw [← Array.length_toList, ix.length, ln]
  have zy : ys.size = d := by rw [← Array.length_toList, iy.length, lm]
  rw [zx, zy, decide_eq_false (Nat.lt_irrefl d)]
  exact lex_goes ix 0 iy (ln.trans lm.symm) ⟨rfl, rfl⟩
/-- a tuple of numbers has a first one -/
theorem head_tup {h : Heap} {v : Value} {ns : List Int} (t : TS.TupInts h v ns) (hd : 1 ≤ ns.length) : ∃ (a : Addr) (o : Obj) (xs : Array Value) (n : Nat) (i : Int) (tk : Tok), v = .ref a ∧ h.get? a = some o ∧ o.cls = .type "tuple" ∧ o.data = .seq xs n ∧ xs[0]? = some (.int i tk) := by
  obtain ⟨a, xs, rfl, ⟨o, ho, hc, n, hdt⟩, i⟩ := t
  obtain ⟨l, rfl⟩ : ∃ l : List Value, xs = l.toArray := ⟨xs.toList, rfl⟩
  cases i with
  | nil => cases hd
  | cons m tk i => exact ⟨a, o, _, n, m, tk, rfl, ho, hc, hdt, rfl⟩
theorem int_looks {M : Model} {h : Heap} (n : Int) (t : Tok) : PySem.W.Looks M h (typeOf (Value.int n t)) (.type "int") := .of_pure rfl
theorem heads_in {h : Heap} (hd : 1 ≤ d) {vs : List Value} (all : AllT h d vs) : ∃ fs, PySem.W.KatTups h vs fs ∧ fs.length = vs.length ∧ ∀ {M : Model}, ∀ f ∈ fs, PySem.W.Looks M h (typeOf f) (.type "int") := by
  induction vs with
  | nil => exact ⟨[], True.intro, rfl, fun _ z => by cases z⟩
  | cons v vs ih =>
    obtain ⟨fs, rest, len, look⟩ := ih fun u hu => all u (List.mem_cons_of_mem _ hu)
    obtain ⟨ns, tn, ln⟩ := all v (List.mem_cons_self ..)
    obtain ⟨a, o, xs, n, i, tk, ev, g1, g2, g3, g4⟩ := head_tup tn (by omega)
    refine ⟨.int i tk :: fs, ⟨⟨a, o, xs, n, ev, g1, g2, g3, g4⟩, rest⟩, congrArg Nat.succ len, fun f hf => ?_⟩
    rcases List.mem_cons.mp hf with same | among
    · exact same ▸ int_looks i tk
    · exact look f among
theorem tups_sortable {a : Addr} {vs : List Value} {h : Heap} (hd : 1 ≤ d) (pos : 0 < vs.length) (now : AllT s.heap d vs) (same : ∀ v ∈ vs, ∀ ns, TS.TupInts s.heap v ns → TS.intsOf h v = ns) (lst : ∀ o, s.heap.get? a = some o → o.cls ≠ .type "tuple") : SrtO.SortableO prog w A s a vs (ltIn h) := by
  intro h' keep
  have keeps : ∀ b o, s.heap.get? b = some o → o.cls = .type "tuple" → h'.get? b = some o := fun b o e c => keep b o (fun z => lst o (z ▸ e) c) e
  have now' : AllT h' d vs := fun v hv => let ⟨ns, t, l⟩ := now v hv; ⟨ns, t.keeps keeps, l⟩
  obtain ⟨fs, tups, len, look⟩ := heads_in hd now'
  refine ⟨tuples' (Value.type "int" != Value.type "tuple"), fun Q E q => PySem.W.kat_kind (s := { s with heap := h' }) tups (len ▸ pos) look rfl q, tups_cmp (s := { s with heap := h' }) now' fun v hv ns t => ?_⟩
  obtain ⟨ms, t', _⟩ := now v hv
  have e := (t'.keeps keeps).ints.symm.trans t.ints
  rw [← e]
  exact same v hv ms t'
end
def rSortL (K : PySem.W.Frag) (d : Nat) : List V → Hp → VK → Prop := fun vs H Q => ∃ (a : Addr) (xs : List V), vs = [V.ref a] ∧ SqL K H a xs ∧ (∀ x ∈ xs, ∃ ns, TupI K H x ns ∧ ns.length = d) ∧
  ∀ (ys : List V) (p : Addr), ys.Perm xs → ys.Pairwise (fun x y => ∀ n m, TupI K H x n → TupI K H y m → lexI m n = false) → H p = none → Q (.ref p) (upd H p (.lst ys))
theorem cr_sortL {X : Cx} {d : Nat} (hd : 1 ≤ d) : CallR X (.builtin "sorted") (rSortL X.K d) := fun pins s σ H vs us Q I r q => by
  obtain ⟨a, xs, rfl, hl, tups, q⟩ := q
  obtain ⟨u, rfl, e⟩ := vals1 r
  cases e
  obtain ⟨its, vals, plain, small⟩ := I.list hl
  obtain ⟨exs, refs⟩ := bkV_refs vals fun x hx => let ⟨_, ⟨t, e, _⟩, _⟩ := tups x hx; ⟨t, e⟩
  have len : xs.length = its.length := vals.length
  have raw : ∀ {v : Value} {ns : List Int}, TupI X.K H (bkV v) ns → TS.TupInts s.heap v ns := fun {v ns} ⟨t, e, h⟩ => bkV_ref e ▸ tupI_raw I h
  have now : AllT s.heap d its := fun v hv => by
    obtain ⟨ns, t, l⟩ := tups (bkV v) (exs ▸ List.mem_map_of_mem hv)
    exact ⟨ns, raw t, l⟩
  refine SrtO.sorted_ord (swo_in s.heap) plain.isList (by omega) (fun two h1 b hb old => ?_) fun out srt stb => ?_
  · have up : ∀ c o, s.heap.get? c = some o → o.cls = .type "tuple" → h1.get? c = some o := fun c o e _ => (old c o e).2
    refine tups_sortable hd (by omega) (fun v hv => let ⟨ns, t, l⟩ := now v hv; ⟨ns, t.keeps up, l⟩) (fun v hv ns t => ?_) fun o ho => ?_
    · obtain ⟨ms, t', _⟩ := now v hv
      rw [t'.ints]
      exact (t'.keeps up).ints.symm.trans t.ints
    · rw [hb] at ho
      cases ho
      exact fun z => absurd z (by show ¬ (Value.type "list" = Value.type "tuple"); decide)
  · have back : ∀ v ∈ out, ∃ c, v = Value.ref c := fun v hv => refs v (stb.perm.mem_iff.mp hv)
    obtain ⟨n, there⟩ := sortedAll_at s.heap its out.toArray
    have perm : (out.map bkV).Perm xs := exs ▸ stb.perm.map bkV
    have z : (out.map bkV).length ≤ sizeLine := by rw [perm.length_eq]; exact small
    refine ⟨.ref _, upd H (s.heap.objs.size + 1) (.lst (out.map bkV)), I.laid (t' := s.toks) (fun c o e => sortedAll_old e) (Nat.le_succ _) ⟨z, out, n, bkV_vals back, there⟩, rfl, q _ _ perm ?_ (I.hok.fresh (Nat.le_succ _))⟩
    refine List.pairwise_map.mpr (srt.imp fun {x y} no n m tn tm => ?_)
    rw [← (raw tn).ints, ← (raw tm).ints]
    exact no

/-- a walk within a walk: the body is told where it goes on -/
theorem walk_in {J : It} {n : Nat} {G : Hp → Prop} {Y : Nat → Hp → V → Hp → Prop} (w : Walk J n G Y) {body : V → Hp → (Hp → Prop) → Prop} {Nx : Hp → Prop} {H0 : Hp} (Pv : Nat → Hp → Prop) (h0 : Pv 0 H0) (hG : ∀ i H, i ≤ n → Pv i H → G H)
    (hs : ∀ i x H H', i < n → Pv i H → Y i H x H' → body x H' (Pv (i + 1))) (hd : ∀ H, Pv n H → Nx H) :
    ∃ W : Nat → Nat → Hp → Prop, (∃ m, W 0 m H0) ∧ ∀ i m H, W i m H → (J.stop i H ∧ Nx H) ∨ (J.go i H ∧ ∃ N : Hp → Prop, (∀ H', N H' → ∃ m', m' < m ∧ W (i + 1) m' H') ∧ ∀ x H', J.yld i H x H' → body x H' N) := by
  refine ⟨fun i m H => i + m = n ∧ Pv i H, ⟨n, Nat.zero_add n, h0⟩, fun i m H ⟨im, p⟩ => ?_⟩
  have g := hG i H (by omega) p
  cases m with
  | zero =>
    obtain rfl : i = n := by omega
    exact .inl ⟨w.stops H g, hd H p⟩
  | succ m => exact .inr ⟨w.goes i H (by omega) g, Pv (i + 1), fun H' p' => ⟨m, Nat.lt_succ_self m, by omega, p'⟩, fun x H' y => hs i x H H' (by omega) p (w.yields i H x H' (by omega) g y)⟩

/-! ### the text -/
def topS (i : Nat) : Stmt := PySem.Challenge.pw_longyears_k09_whole_lands_told_back.main.body.getD i (.Pass ⟨0, 0, 0, 0⟩)
abbrev s_is_whole : Stmt := topS 12
abbrev s_is_between : Stmt := topS 13
abbrev s_common_measure : Stmt := topS 14
abbrev s_step_of : Stmt := topS 17
abbrev s_is_seen_year : Stmt := topS 24
abbrev s_is_seen : Stmt := topS 25
abbrev s_need_seen : Stmt := topS 26
abbrev s_need_most : Stmt := topS 27
abbrev s_possible_days : Stmt := topS 28
abbrev s_possible_shifts : Stmt := topS 29
abbrev s_lands_of : Stmt := topS 30
abbrev s__law_deck : Stmt := topS 32
abbrev s__law_pick : Stmt := topS 33
abbrev s__law_one : Stmt := topS 34
abbrev s__law_kin : Stmt := topS 35
abbrev s__law_try : Stmt := topS 36
abbrev s__law_sort : Stmt := topS 37
abbrev s__law_same : Stmt := topS 38
abbrev s__law_land : Stmt := topS 39
abbrev s__law_begin : Stmt := topS 40
abbrev s__law_measure : Stmt := topS 41
abbrev s__law_all : Stmt := topS 42
abbrev s_law : Stmt := topS 43
theorem sc_is_whole : FnScope ["thing"] ["thing"] (defScope s_is_whole) := ⟨rfl, rfl, rfl, by decide +kernel, rfl, by decide +kernel, by decide +kernel⟩
theorem sc_is_between : FnScope ["thing", "least", "most"] ["thing", "least", "most"] (defScope s_is_between) := ⟨rfl, rfl, rfl, by decide +kernel, rfl, by decide +kernel, by decide +kernel⟩
theorem sc_common_measure : FnScope ["one", "other"] ["one", "other"] (defScope s_common_measure) := ⟨rfl, rfl, rfl, by decide +kernel, rfl, by decide +kernel, by decide +kernel⟩
theorem sc_step_of : FnScope ["land", "days", "top", "bottom", "shift"] ["land"] (defScope s_step_of) := ⟨rfl, rfl, rfl, by decide +kernel, rfl, by decide +kernel, by decide +kernel⟩
theorem sc_is_seen_year : FnScope ["thing", "year", "day"] ["thing"] (defScope s_is_seen_year) := ⟨rfl, rfl, rfl, by decide +kernel, rfl, by decide +kernel, by decide +kernel⟩
theorem sc_is_seen : FnScope ["thing", "pair", "later"] ["thing"] (defScope s_is_seen) := ⟨rfl, rfl, rfl, by decide +kernel, rfl, by decide +kernel, by decide +kernel⟩
theorem sc_need_seen : FnScope ["thing"] ["thing"] (defScope s_need_seen) := ⟨rfl, rfl, rfl, by decide +kernel, rfl, by decide +kernel, by decide +kernel⟩
theorem sc_need_most : FnScope ["thing"] ["thing"] (defScope s_need_most) := ⟨rfl, rfl, rfl, by decide +kernel, rfl, by decide +kernel, by decide +kernel⟩
theorem sc_possible_days : FnScope ["seen", "year", "day", "last_year", "last_day", "most", "number"] ["seen"] (defScope s_possible_days) := ⟨rfl, rfl, rfl, by decide +kernel, rfl, by decide +kernel, by decide +kernel⟩
theorem sc_possible_shifts : FnScope ["seen", "days", "top", "bottom", "step", "leasts", "year", "day"] ["seen", "days", "top", "bottom"] (defScope s_possible_shifts) := ⟨rfl, rfl, rfl, by decide +kernel, rfl, by decide +kernel, by decide +kernel⟩
theorem sc_lands_of : FnScope ["seen", "most", "days", "bottom", "top", "shift"] ["seen", "most"] (defScope s_lands_of) := ⟨rfl, rfl, rfl, by decide +kernel, rfl, by decide +kernel, by decide +kernel⟩
theorem sc__law_deck : FnScope ["cell", "turn"] ["cell", "turn"] (defScope s__law_deck) := ⟨rfl, rfl, rfl, by decide +kernel, rfl, by decide +kernel, by decide +kernel⟩
theorem sc__law_pick : FnScope ["deck", "size", "found", "number"] ["deck", "size"] (defScope s__law_pick) := ⟨rfl, rfl, rfl, by decide +kernel, rfl, by decide +kernel, by decide +kernel⟩
theorem sc__law_one : FnScope ["deck", "some"] ["deck", "some"] (defScope s__law_one) := ⟨rfl, rfl, rfl, by decide +kernel, rfl, by decide +kernel, by decide +kernel⟩
theorem sc__law_kin : FnScope ["e", "kinds_met", "names", "name", "good"] ["e"] (defScope s__law_kin) := ⟨rfl, rfl, rfl, by decide +kernel, rfl, by decide +kernel, by decide +kernel⟩
theorem sc__law_try : FnScope ["door", "found", "e"] ["door"] (defScope s__law_try) := ⟨rfl, rfl, rfl, by decide +kernel, rfl, by decide +kernel, by decide +kernel⟩
theorem sc__law_sort : FnScope ["thing"] ["thing"] (defScope s__law_sort) := ⟨rfl, rfl, rfl, by decide +kernel, rfl, by decide +kernel, by decide +kernel⟩
theorem sc__law_same : FnScope ["told", "due", "k", "part"] ["told", "due"] (defScope s__law_same) := ⟨rfl, rfl, rfl, by decide +kernel, rfl, by decide +kernel, by decide +kernel⟩
theorem sc__law_land : FnScope ["deck", "long_so", "bottoms", "shifts", "bottom", "shift"] ["deck", "long_so", "bottoms", "shifts"] (defScope s__law_land) := ⟨rfl, rfl, rfl, by decide +kernel, rfl, by decide +kernel, by decide +kernel⟩
theorem sc__law_begin : FnScope ["land", "year"] ["land", "year"] (defScope s__law_begin) := ⟨rfl, rfl, rfl, by decide +kernel, rfl, by decide +kernel, by decide +kernel⟩
theorem sc__law_measure : FnScope ["one", "other"] ["one", "other"] (defScope s__law_measure) := ⟨rfl, rfl, rfl, by decide +kernel, rfl, by decide +kernel, by decide +kernel⟩
theorem sc__law_all : FnScope ["seen", "most", "found", "year", "day", "later", "then", "days_so_", "bottom", "top", "step", "away", "fits", "low", "shift", "land", "wrong", "row"] ["seen", "most"] (defScope s__law_all) := ⟨rfl, rfl, rfl, by decide +kernel, rfl, by decide +kernel, by decide +kernel⟩
theorem sc_law : FnScope ["script", "cell", "deck", "land", "far", "years", "year", "at", "day", "bent", "most", "rows", "common", "least", "odds", "odd", "seen", "part", "k"] ["script"] (defScope s_law) := ⟨rfl, rfl, rfl, by decide +kernel, rfl, by decide +kernel, by decide +kernel⟩
structure ErrAt (K : PySem.W.Frag) (C CY : Addr) : Prop where
  ex : PySem.W.excIn K C [.type "ValueError", .type "Exception", .type "BaseException", .type "object"] "ValueError.__new__" = true
  kp : PySem.W.keepIn K (Value.ref C) = true
  sb : PySem.W.subIn K (.ref C) (.type "BaseException") = some true
  tp : PySem.W.typeIn K (.ref C) = some (.type "type")
  is : L2.ExcC K C
  em : PySem.W.exmOne K (.ref C) (.ref CY) = some true
structure DefAt (K : PySem.W.Frag) (mg : Str → Option Value) (x : Str) (st : Stmt) (ps : List Str) where
  f : Addr
  fd : FuncData
  F : Fun K x x st f fd
  b : Binds K fd ps []
  g : mg x = some (.ref f)
structure MethAt (K : PySem.W.Frag) (C : Addr) (m q : Str) (st : Stmt) (ps : List Str) where
  f : Addr
  fd : FuncData
  F : Fun K m q st f fd
  b : Binds K fd ps []
  m : Meth K C m f
structure Txt (K : PySem.W.Frag) (mg : Str → Option Value) where
  C_YearError : Addr
  g_YearError : mg "YearError" = some (.ref C_YearError)
  C_NoLand : Addr
  g_NoLand : mg "NoLand" = some (.ref C_NoLand)
  C_NoYear : Addr
  g_NoYear : mg "NoYear" = some (.ref C_NoYear)
  C_NoDay : Addr
  g_NoDay : mg "NoDay" = some (.ref C_NoDay)
  C_NoPlace : Addr
  g_NoPlace : mg "NoPlace" = some (.ref C_NoPlace)
  C_NoWeek : Addr
  g_NoWeek : mg "NoWeek" = some (.ref C_NoWeek)
  C_NoName : Addr
  g_NoName : mg "NoName" = some (.ref C_NoName)
  C_NoSeen : Addr
  g_NoSeen : mg "NoSeen" = some (.ref C_NoSeen)
  C_NoNumber : Addr
  g_NoNumber : mg "NoNumber" = some (.ref C_NoNumber)
  C_NothingLeft : Addr
  g_NothingLeft : mg "NothingLeft" = some (.ref C_NothingLeft)
  err_NoSeen : ErrAt K C_NoSeen C_YearError
  ki_NoSeen_NoLand : PySem.W.kitOne K (.ref C_NoSeen) (.ref C_NoLand) = some false
  ki_NoSeen_NoYear : PySem.W.kitOne K (.ref C_NoSeen) (.ref C_NoYear) = some false
  ki_NoSeen_NoDay : PySem.W.kitOne K (.ref C_NoSeen) (.ref C_NoDay) = some false
  ki_NoSeen_NoPlace : PySem.W.kitOne K (.ref C_NoSeen) (.ref C_NoPlace) = some false
  ki_NoSeen_NoWeek : PySem.W.kitOne K (.ref C_NoSeen) (.ref C_NoWeek) = some false
  ki_NoSeen_NoName : PySem.W.kitOne K (.ref C_NoSeen) (.ref C_NoName) = some false
  ki_NoSeen_NoSeen : PySem.W.kitOne K (.ref C_NoSeen) (.ref C_NoSeen) = some true
  ki_NoSeen_NoNumber : PySem.W.kitOne K (.ref C_NoSeen) (.ref C_NoNumber) = some false
  ki_NoSeen_NothingLeft : PySem.W.kitOne K (.ref C_NoSeen) (.ref C_NothingLeft) = some false
  ki_NoSeen_V : PySem.W.kitOne K (.ref C_NoSeen) (.type "ValueError") = some true
  err_NoNumber : ErrAt K C_NoNumber C_YearError
  ki_NoNumber_NoLand : PySem.W.kitOne K (.ref C_NoNumber) (.ref C_NoLand) = some false
  ki_NoNumber_NoYear : PySem.W.kitOne K (.ref C_NoNumber) (.ref C_NoYear) = some false
  ki_NoNumber_NoDay : PySem.W.kitOne K (.ref C_NoNumber) (.ref C_NoDay) = some false
  ki_NoNumber_NoPlace : PySem.W.kitOne K (.ref C_NoNumber) (.ref C_NoPlace) = some false
  ki_NoNumber_NoWeek : PySem.W.kitOne K (.ref C_NoNumber) (.ref C_NoWeek) = some false
  ki_NoNumber_NoName : PySem.W.kitOne K (.ref C_NoNumber) (.ref C_NoName) = some false
  ki_NoNumber_NoSeen : PySem.W.kitOne K (.ref C_NoNumber) (.ref C_NoSeen) = some false
  ki_NoNumber_NoNumber : PySem.W.kitOne K (.ref C_NoNumber) (.ref C_NoNumber) = some true
  ki_NoNumber_NothingLeft : PySem.W.kitOne K (.ref C_NoNumber) (.ref C_NothingLeft) = some false
  ki_NoNumber_V : PySem.W.kitOne K (.ref C_NoNumber) (.type "ValueError") = some true
  is_whole : DefAt K mg "is_whole" s_is_whole ["thing"]
  is_between : DefAt K mg "is_between" s_is_between ["thing", "least", "most"]
  common_measure : DefAt K mg "common_measure" s_common_measure ["one", "other"]
  step_of : DefAt K mg "step_of" s_step_of ["land"]
  is_seen_year : DefAt K mg "is_seen_year" s_is_seen_year ["thing"]
  is_seen : DefAt K mg "is_seen" s_is_seen ["thing"]
  need_seen : DefAt K mg "need_seen" s_need_seen ["thing"]
  need_most : DefAt K mg "need_most" s_need_most ["thing"]
  possible_days : DefAt K mg "possible_days" s_possible_days ["seen"]
  possible_shifts : DefAt K mg "possible_shifts" s_possible_shifts ["seen", "days", "top", "bottom"]
  lands_of : DefAt K mg "lands_of" s_lands_of ["seen", "most"]
  _law_deck : DefAt K mg "_law_deck" s__law_deck ["cell", "turn"]
  _law_pick : DefAt K mg "_law_pick" s__law_pick ["deck", "size"]
  _law_one : DefAt K mg "_law_one" s__law_one ["deck", "some"]
  _law_kin : DefAt K mg "_law_kin" s__law_kin ["e"]
  _law_try : DefAt K mg "_law_try" s__law_try ["door"]
  _law_sort : DefAt K mg "_law_sort" s__law_sort ["thing"]
  _law_same : DefAt K mg "_law_same" s__law_same ["told", "due"]
  _law_land : DefAt K mg "_law_land" s__law_land ["deck", "long_so", "bottoms", "shifts"]
  _law_begin : DefAt K mg "_law_begin" s__law_begin ["land", "year"]
  _law_measure : DefAt K mg "_law_measure" s__law_measure ["one", "other"]
  _law_all : DefAt K mg "_law_all" s__law_all ["seen", "most"]
  t_MOST_DAYS : Tok
  c_MOST_DAYS : mg "MOST_DAYS" = some (.int 400 t_MOST_DAYS)
  t_FEWEST_SEEN : Tok
  c_FEWEST_SEEN : mg "FEWEST_SEEN" = some (.int 2 t_FEWEST_SEEN)
  t_MOST_SEEN : Tok
  c_MOST_SEEN : mg "MOST_SEEN" = some (.int 6 t_MOST_SEEN)
  t_FARTHEST_SEEN_YEAR : Tok
  c_FARTHEST_SEEN_YEAR : mg "FARTHEST_SEEN_YEAR" = some (.int 10000 t_FARTHEST_SEEN_YEAR)
  t_FARTHEST_SEEN_DAY : Tok
  c_FARTHEST_SEEN_DAY : mg "FARTHEST_SEEN_DAY" = some (.int 1000000 t_FARTHEST_SEEN_DAY)
  t_MOST_TOLD_BOTTOM : Tok
  c_MOST_TOLD_BOTTOM : mg "MOST_TOLD_BOTTOM" = some (.int 12 t_MOST_TOLD_BOTTOM)
  isinstance : mg "isinstance" = none
  b_int : mg "int" = none
  b_bool : mg "bool" = none
  tuple : mg "tuple" = none
  len : mg "len" = none
  all : mg "all" = none
  zip : mg "zip" = none
  b_list : mg "list" = none
  range : mg "range" = none
  max : mg "max" = none
  min : mg "min" = none
  sorted : mg "sorted" = none
  ValueError : mg "ValueError" = none
  str : mg "str" = none
  enumerate : mg "enumerate" = none
  abs : mg "abs" = none
  set : mg "set" = none

/-! ### the handled error told by its kinds -/
theorem mark_same {A : Around} {v : Value} (h : A.handled = some v) : A.mark (some v) = A := by
  obtain ⟨a, b, c, d, e⟩ := A
  cases h
  rfl
/-- ten answers, ten names: those that are true, one behind the other -/
def kinNames : List Str := ["NoLand", "NoYear", "NoDay", "NoPlace", "NoWeek", "NoName", "NoSeen", "NoNumber", "NothingLeft", "+"]
def kinPick (bs : List Bool) (n : Nat) : List Str := ((List.range n).filter fun i => bs.getD i false).map fun i => kinNames.getD i ""
def kinWord (bs : List Bool) : Str := PySem.Txt.join "" (kinPick bs 10)
theorem pick_next {bs : List Bool} {n : Nat} : kinPick bs (n + 1) = kinPick bs n ++ (if bs.getD n false = true then [kinNames.getD n ""] else []) := by
  unfold kinPick
  rw [List.range_succ, List.filter_append, List.map_append]
  congr 1
  rw [List.filter_cons]
  split <;> rfl
theorem pick_len {bs : List Bool} : ∀ n, (kinPick bs n).length ≤ n
  | 0 => Nat.le_refl 0
  | n + 1 => by
    have h := pick_len (bs := bs) n
    rw [pick_next, List.length_append]
    split
    · show _ + 1 ≤ _
      omega
    · show _ + 0 ≤ _
      omega
theorem name_len (i : Nat) : (kinNames.getD i "").length ≤ 11 := by
  match i with
  | 0 | 1 | 2 | 3 | 4 | 5 | 6 | 7 | 8 | 9 => decide +kernel
  | n + 10 => exact Nat.zero_le _
theorem pick_sum {bs : List Bool} : ∀ n, ((kinPick bs n).map (·.length)).sum ≤ 11 * n
  | 0 => Nat.le_refl 0
  | n + 1 => by
    have h := pick_sum (bs := bs) n
    have l := name_len n
    rw [pick_next, List.map_append, List.sum_append]
    split
    · simp only [List.map_cons, List.map_nil, List.sum_cons, List.sum_nil]
      omega
    · simp only [List.map_nil, List.sum_nil]
      omega
theorem walk_zipThere {K : PySem.W.Frag} {a b : Addr} {xs ys : List V} {n : Nat} (hx : xs.length = n) (hy : ys.length = n) : Walk (ItzH K a b) n (fun H => SqL K H a xs ∧ SqL K H b ys) (YPair (fun i => xs[i]?) (fun i => ys[i]?)) where
  goes := fun i H hi both => ⟨_, _, xs[i]'(by omega), ys[i]'(by omega), both.1, both.2, List.getElem?_eq_getElem _, List.getElem?_eq_getElem _⟩
  stops := fun H both => ⟨_, _, both.1, both.2, by omega⟩
  yields := fun i H v H' _ both ⟨t, x, y, ev, nt, eh, fx, fy⟩ => ⟨t, x, y, ev, nt, eh, fx _ both.1, fy _ both.2⟩
section
variable {P : Program} {w : World} {K : PySem.W.Frag} {mg : Str → Option Value} {base : Heap}
theorem kin_walk {Hs : Hp} {D l6 l5 : Addr} {bs : List Bool} {e : V} {Nx : Hp → Prop} (hD : Hs D = none) (q1 : SqL K Hs l6 (kinNames.map V.str)) (q2 : SqL K Hs l5 (bs.map V.bl)) (lb : bs.length = 10) (done : ∀ H', Ex Hs H' → H' D = some (.lst ((kinPick bs 10).map V.str)) → Nx H') :
    rTurns (ItzH K l6 l5) (gTup K 2 (gCons (gName 3) (gCons (gName 4) gNil))) (tB (tVar 4)) (rEnd (tVar 3)) [3, 4] D [some e, some (.ref l5), some (.ref l6), none, none] (upd Hs D (.lst [])) Nx := by
  refine walk_in (walk_zipThere (K := K) (a := l6) (b := l5) (xs := kinNames.map V.str) (ys := bs.map V.bl) (n := 10) rfl (by rw [List.length_map]; exact lb)) (body := fun x H' N => rTurn _ _ _ _ D _ x H' N) (fun i H' => Ex Hs H' ∧ H' D = some (.lst ((kinPick bs i).map V.str))) ⟨Ex.new hD, upd_same⟩ (fun i H' _ c => ⟨ex_l c.1 q1, ex_l c.1 q2⟩) ?_ fun H' c => done H' c.1 c.2
  rintro i v H1 H2 hi ⟨ex, at_⟩ ⟨t, x, y, rfl, nt, rfl, ex1, ey1⟩
  have ex1 : (kinNames.map V.str)[i]? = some x := ex1
  have ey1 : (bs.map V.bl)[i]? = some y := ey1
  rw [List.getElem?_map] at ex1 ey1
  obtain ⟨nm, en, rfl⟩ := Option.map_eq_some_iff.mp ex1
  obtain ⟨b, eb, rfl⟩ := Option.map_eq_some_iff.mp ey1
  have gb : bs.getD i false = b := by rw [List.getD_eq_getElem?_getD, eb]; rfl
  have gn : kinNames.getD i "" = nm := by rw [List.getD_eq_getElem?_getD, en]; rfl
  have et : Ex H1 (upd H1 t (.tup [.str nm, .bl b])) := Ex.new nt
  refine ⟨t, _, rfl, st_of upd_same, rfl, _, _, rfl, _, _, rfl, rfl, rfl, _, rfl, _, rfl, ?_⟩
  rw [pick_next, gb, gn]
  cases b with
  | true =>
    have len := pick_len (bs := bs) i
    refine ⟨_, rfl, _, et _ _ at_, ?_, Ex.mut (ex.trans et) hD, ?_⟩
    · rw [List.length_map]
      exact Nat.lt_of_lt_of_le (show _ < 11 by omega) (by decide)
    · rw [if_pos rfl, List.map_append]
      exact upd_same
  | false =>
    refine ⟨ex.trans et, ?_⟩
    rw [if_neg (fun z => by cases z), List.append_nil]
    exact et _ _ at_
/-- what isinstance answers of an error of the class D -/
structure Kin (T : Txt K mg) (D : Addr) (b0 b1 b2 b3 b4 b5 b6 b7 b8 b9 : Bool) : Prop where
  is : L2.ExcC K D
  k0 : PySem.W.kitOne K (.ref D) (.ref T.C_NoLand) = some b0
  k1 : PySem.W.kitOne K (.ref D) (.ref T.C_NoYear) = some b1
  k2 : PySem.W.kitOne K (.ref D) (.ref T.C_NoDay) = some b2
  k3 : PySem.W.kitOne K (.ref D) (.ref T.C_NoPlace) = some b3
  k4 : PySem.W.kitOne K (.ref D) (.ref T.C_NoWeek) = some b4
  k5 : PySem.W.kitOne K (.ref D) (.ref T.C_NoName) = some b5
  k6 : PySem.W.kitOne K (.ref D) (.ref T.C_NoSeen) = some b6
  k7 : PySem.W.kitOne K (.ref D) (.ref T.C_NoNumber) = some b7
  k8 : PySem.W.kitOne K (.ref D) (.ref T.C_NothingLeft) = some b8
  k9 : PySem.W.kitOne K (.ref D) (.type "ValueError") = some b9
theorem is_hot {N : List Str} {qual : Str} {scope : Scope} {f : Addr} {cd : Value} {A : Around} {outer : List Env} {s : Shared} {H : Hp} {E : XK} {D : Addr} {p : Addr × Obj} (C : L2.ExcC K D) (hot : L2H.Hot1 A p) (z : L2.Zc (.ref D) none p.2) :
    CallR (L2H.cxH CX0 P w K mg base N qual scope f cd A outer s H E p).nox (.builtin "isinstance") (rIsE K D p.1) := by
  have same : (L2H.cxH CX0 P w K mg base N qual scope f cd A outer s H E p).nox = (cxOf CX0 P w K mg base N qual scope f cd A outer s H E).suite p.1 [p] := by
    have m : (A.deeper (envOfC qual scope s.heap.objs.size f cd)).mark (some (.ref p.1)) = A.deeper (envOfC qual scope s.heap.objs.size f cd) := mark_same hot.1
    show Cx.mk _ _ _ _ _ _ _ _ _ _ _ _ _ _ _ _ _ = Cx.mk _ _ _ _ _ _ _ _ _ _ _ _ _ _ _ _ _
    congr 1
    exact m.symm
  rw [same]
  obtain ⟨_, vs, d, _⟩ := hot
  exact call_isE (X := cxOf CX0 P w K mg base N qual scope f cd A outer s H E) C z ⟨vs, d⟩
theorem kin_runs (T : Txt K mg) {D : Addr} {b0 b1 b2 b3 b4 b5 b6 b7 b8 b9 : Bool} (C : Kin T D b0 b1 b2 b3 b4 b5 b6 b7 b8 b9) {cdv : Value} {A : Around} {outer : List Env} {s : Shared} {H : Hp} {Q : VK} {p : Addr × Obj} (hot : L2H.Hot1 A p) (z : L2.Zc (.ref D) none p.2)
    (q : RetV (.str (kinWord [b0, b1, b2, b3, b4, b5, b6, b7, b8, b9])) H Q) :
    ∃ t, PSs (L2H.cxH CX0 P w K mg base ["e", "kinds_met", "names", "name", "good"] "_law_kin" (defScope s__law_kin) T._law_kin.f cdv A outer s H E0 p) (defBody s__law_kin) t ∧ t { nx := fun _ H' => Q .non H', rt := Q } (L2.start ["e", "kinds_met", "names", "name", "good"] [.ref p.1]) H := by
  have isE := is_hot (P := P) (w := w) (mg := mg) (base := base) (N := ["e", "kinds_met", "names", "name", "good"]) (qual := "_law_kin") (scope := defScope s__law_kin) (f := T._law_kin.f) (cd := cdv) (outer := outer) (s := s) (H := H) (E := E0) C.is hot z
  have hc : L2H.HotC (L2H.cxH CX0 P w K mg base ["e", "kinds_met", "names", "name", "good"] "_law_kin" (defScope s__law_kin) T._law_kin.f cdv A outer s H E0 p).nox := ⟨p, hot, List.mem_cons_self ..⟩
  refine ⟨_, PSs.nox (pss_cons (ps_set (i := 1) sc__law_kin.nd rfl (Or.inl rfl) (pe_lst (pa_cons (pe_callB isE (by rfl) T.isinstance (by decide +kernel) (pa_cons (pv 0) (pa_cons (pe_glob (v := .ref T.C_NoLand) rfl T.g_NoLand rfl) pa_nil))) (pa_cons (pe_callB isE (by rfl) T.isinstance (by decide +kernel) (pa_cons (pv 0) (pa_cons (pe_glob (v := .ref T.C_NoYear) rfl T.g_NoYear rfl) pa_nil))) (pa_cons (pe_callB isE (by rfl) T.isinstance (by decide +kernel) (pa_cons (pv 0) (pa_cons (pe_glob (v := .ref T.C_NoDay) rfl T.g_NoDay rfl) pa_nil))) (pa_cons (pe_callB isE (by rfl) T.isinstance (by decide +kernel) (pa_cons (pv 0) (pa_cons (pe_glob (v := .ref T.C_NoPlace) rfl T.g_NoPlace rfl) pa_nil))) pa_nil))))))
      (pss_cons (ps_set (i := 1) sc__law_kin.nd rfl (Or.inl rfl) (pe_op op_cat (pv 1) (pe_lst (pa_cons (pe_callB isE (by rfl) T.isinstance (by decide +kernel) (pa_cons (pv 0) (pa_cons (pe_glob (v := .ref T.C_NoWeek) rfl T.g_NoWeek rfl) pa_nil))) (pa_cons (pe_callB isE (by rfl) T.isinstance (by decide +kernel) (pa_cons (pv 0) (pa_cons (pe_glob (v := .ref T.C_NoName) rfl T.g_NoName rfl) pa_nil))) (pa_cons (pe_callB isE (by rfl) T.isinstance (by decide +kernel) (pa_cons (pv 0) (pa_cons (pe_glob (v := .ref T.C_NoSeen) rfl T.g_NoSeen rfl) pa_nil))) pa_nil))))))
      (pss_cons (ps_set (i := 1) sc__law_kin.nd rfl (Or.inl rfl) (pe_op op_cat (pv 1) (pe_lst (pa_cons (pe_callB isE (by rfl) T.isinstance (by decide +kernel) (pa_cons (pv 0) (pa_cons (pe_glob (v := .ref T.C_NoNumber) rfl T.g_NoNumber rfl) pa_nil))) (pa_cons (pe_callB isE (by rfl) T.isinstance (by decide +kernel) (pa_cons (pv 0) (pa_cons (pe_glob (v := .ref T.C_NothingLeft) rfl T.g_NothingLeft rfl) pa_nil))) (pa_cons (pe_callB isE (by rfl) T.isinstance (by decide +kernel) (pa_cons (pv 0) (pa_cons (pe_bltn (v := .ty "ValueError") (by rfl) T.ValueError (by decide +kernel) rfl) pa_nil))) pa_nil))))))
      (pss_cons (ps_set (i := 2) sc__law_kin.nd rfl (Or.inl rfl) (pe_lst (pa_cons pe_str (pa_cons pe_str (pa_cons pe_str (pa_cons pe_str (pa_cons pe_str (pa_cons pe_str (pa_cons pe_str (pa_cons pe_str (pa_cons pe_str (pa_cons pe_str pa_nil))))))))))))
      (pss_one (ps_ret (pe_bm PySem.F.plainAttrs_str PySem.F.slot_str_join PySem.F.type_str_join mt_join pe_str (pa_cons (pe_deep (own := [("name", 3), ("good", 4)]) (g := gTup K 2 (gCons (gName 3) (gCons (gName 4) gNil))) (vs1 := []) sc__law_kin.nd (brings_hot ⟨p, hot, List.mem_cons_self ..⟩ (pi_zipH (by rfl) T.zip (pa_cons (pv 2) (pa_cons (pv 1) pa_nil)))) (blkOk_by (own := [("name", 3), ("good", 4)]) (N := ["e", "kinds_met", "names", "name", "good"]) (sc := defScope s__law_kin) (by decide +kernel)) (fun _ _ _ _ _ => (pg_tupH (show L2H.HotC _ from ⟨p, hot, List.mem_cons_self ..⟩) (pgs_cons (pg_name (i := 3) sc__law_kin.nd rfl (Or.inl rfl)) (pgs_cons (pg_name (i := 4) sc__law_kin.nd rfl (Or.inl rfl)) pgs_nil)))) (fun _ _ _ _ _ => (pts_one (pt_val (pv 4)))) (fun _ _ _ _ _ => (rest_end rfl rfl (pv 3))) (by decide) (fun _ e => by cases e)) pa_nil)))))))), ?_⟩
  refine ⟨_, rfl, _, _, _, rfl, fun _ e => e, C.k0, _, rfl, _, _, _, rfl, fun _ e => e, C.k1, _, rfl, _, _, _, rfl, fun _ e => e, C.k2, _, rfl, _, _, _, rfl, fun _ e => e, C.k3, by show 4 ≤ sizeLine; decide, fun l1 n1 => ?_⟩
  have h1 : upd H l1 (.lst ([b0, b1, b2, b3].map V.bl)) l1 = some (.lst ([b0, b1, b2, b3].map V.bl)) := upd_same
  have e1 : Ex H (upd H l1 (.lst ([b0, b1, b2, b3].map V.bl))) := Ex.new n1
  refine ⟨_, rfl, _, rfl, _, _, _, rfl, fun _ e => e, C.k4, _, rfl, _, _, _, rfl, fun _ e => e, C.k5, _, rfl, _, _, _, rfl, fun _ e => e, C.k6, by show 3 ≤ sizeLine; decide, fun l2 n2 => ?_⟩
  refine ⟨l1, l2, _, _, rfl, rfl, Ex.new n2 _ _ h1, upd_same, by show 4 + 3 ≤ sizeLine; decide, fun l3 n3 => ?_⟩
  have e2 := e1.trans (Ex.new n2 (o := .lst ([b4, b5, b6].map V.bl)))
  have e3 := e2.trans (Ex.new n3 (o := .lst ([b0, b1, b2, b3, b4, b5, b6].map V.bl)))
  refine ⟨_, rfl, _, rfl, _, _, _, rfl, fun _ e => e, C.k7, _, rfl, _, _, _, rfl, fun _ e => e, C.k8, _, rfl, _, _, _, rfl, fun _ e => e, C.k9, by show 3 ≤ sizeLine; decide, fun l4 n4 => ?_⟩
  refine ⟨l3, l4, _, _, rfl, rfl, Ex.new n4 _ _ upd_same, upd_same, by show 7 + 3 ≤ sizeLine; decide, fun l5 n5 => ?_⟩
  have e4 := e3.trans (Ex.new n4 (o := .lst ([b7, b8, b9].map V.bl)))
  have e5 := e4.trans (Ex.new n5 (o := .lst ([b0, b1, b2, b3, b4, b5, b6, b7, b8, b9].map V.bl)))
  refine ⟨by show 10 ≤ sizeLine; decide, fun l6 n6 => ?_⟩
  have e6 := e5.trans (Ex.new n6 (o := .lst (kinNames.map V.str)))
  refine ⟨rfl, _, rfl, _, rfl, l6, l5, kinNames.map V.str, [b0, b1, b2, b3, b4, b5, b6, b7, b8, b9].map V.bl, rfl, sq_of upd_same, sq_of (Ex.new n6 _ _ upd_same), fun D hD => ?_⟩
  refine kin_walk (bs := [b0, b1, b2, b3, b4, b5, b6, b7, b8, b9]) hD (sq_of upd_same) (sq_of (Ex.new n6 _ _ upd_same)) rfl fun H' ex at_ => ?_
  have size := pick_sum (bs := [b0, b1, b2, b3, b4, b5, b6, b7, b8, b9]) 10
  refine ⟨"", D, _, rfl, rfl, .inl (sq_of at_), ?_, q H' (e6.trans ex)⟩
  show _ + _ * 0 ≤ _
  omega
end

/-! ### a lambda handed to the def that tries it -/
theorem takes_none {X : Cx} : L2N.Takes X (fun _ _ _ _ => False) := fun _ _ ⟨_, _, _, _, _, _, _, _, _, _, _, _, _, _, _, _, no⟩ => no.elim
section
variable {K : PySem.W.Frag} {mg : Str → Option Value}
/-- what is made of an error of the lambda: its kinds, told -/
def Caught (T : Txt K mg) (Q : VK) : XK := fun cls d H => ∃ D b0 b1 b2 b3 b4 b5 b6 b7 b8 b9, cls = .ref D ∧ d = none ∧ PySem.W.exmOne K (.ref D) (.ref T.C_YearError) = some true ∧ Kin T D b0 b1 b2 b3 b4 b5 b6 b7 b8 b9 ∧ RetV (.str (kinWord [b0, b1, b2, b3, b4, b5, b6, b7, b8, b9])) H Q
/-- what is made of what it gives: a pair -/
def Given (Q : VK) : VK := fun v H => ∀ t, H t = none → Q (.ref t) (upd H t (.tup [.str "told", v]))
theorem try_runs {X : Cx} {n : Nat} (T : Txt X.K X.mg) {pins : List (Addr × Obj)} {σ : L2.St} {H : Hp} {s : Shared} {params : Arguments} {body : Expr} {scope : Scope} {f c : Addr} {tb : XK → TE} {cdv : Value} {Q : VK} (I : Inv X pins σ H s) (L : LamX.LamS X.env.scope scope) (at_ : LamAt X s H params body scope f c)
    (none_ : ∀ (q : Str) (cl : List (Str × Addr)) (pm cv ctv : Value), bindArgs (PySem.W.kla_fn "<lambda>" q params body scope cl pm cv ctv) ⟨[], []⟩ = pure [])
    (runs : ∀ (A : Around) (outer : List Env) (sZ : Shared) (HZ : Hp) (E : XK), Room n (A.deeper (LamX.lamEnv X scope sZ.heap.objs.size f c)) → PE (lamN X A outer sZ HZ E scope f c) body (tb E))
    (hr : Room (n + 1) (X.A.deeper (envOfC "_law_try" (defScope s__law_try) s.heap.objs.size T._law_try.f cdv))) (h : ∀ (E : XK) (Q' : VK), (∀ cls d H', Caught T Q cls d H' → E cls d H') → (∀ v H', Given Q v H' → Q' v H') → tb E σ H Q') :
    ∃ t, PSs (cxOf CX0 X.prog X.w X.K X.mg X.base ["door", "found", "e"] "_law_try" (defScope s__law_try) T._law_try.f cdv X.A X.stack s H E0) (defBody s__law_try) t ∧ t { nx := fun _ H' => Q .non H', rt := Q } (L2.start ["door", "found", "e"] [.ref f]) H := by
  refine ⟨_, PSs.nox (pss_cons (ps_set (i := 1) sc__law_try.nd rfl (Or.inl rfl) pe_non) (pss_cons (L2N.ps_try_as (i := 2) rfl rfl sc__law_try.nd rfl rfl ⟨rfl, by decide, .inl T.g_YearError⟩ takes_none
    (fun W pn xe tk _ => pss_one (ps_set (i := 1) sc__law_try.nd rfl (Or.inl rfl) (pe_tup (pa_cons pe_str (pa_cons (pe_door I L at_ none_ ⟨rfl, rfl, rfl, rfl, rfl⟩ ⟨rfl, rfl, rfl, rfl⟩ rfl ?room tk (fun sZ HZ E => runs _ _ sZ HZ E (hr.deeper _)) (i := 0) rfl (.inl rfl)) pa_nil)))))
    (fun a oe cls d pn zn fl => pss_one (ps_set (i := 1) sc__law_try.nd rfl (Or.inl rfl) (show PE _ _ (fun σ H Q => σ[2]? = some (some (V.ref a)) ∧ Caught T Q cls d H) from pe_told (Y := (cxOf CX0 X.prog X.w X.K X.mg X.base ["door", "found", "e"] "_law_try" (defScope s__law_try) T._law_try.f cdv X.A X.stack s H E0).nox.suite a ((a, oe) :: pn)) (e := "e") (p := (a, oe)) (k := 0) (i := 2) (R := fun H Q => Caught T Q cls d H) T._law_kin.F sc__law_kin T._law_kin.b ?hot (List.mem_cons_self ..) ?roomH rfl T._law_kin.g rfl (.inl rfl) ?kin)))) (pss_one (ps_ret (pv 1))))), ?rd⟩
  case room => exact (L2H.roomH_of hr).depth
  case hot =>
    obtain ⟨vs, ev⟩ := fl
    exact ⟨rfl, vs, ev, zn.2.2 vs ev⟩
  case roomH =>
    have r := (L2H.roomH_of hr).mono (show 0 + 1 ≤ n + 1 by omega)
    exact ⟨r.dp, r.un⟩
  case kin =>
    rintro cd A outer s' H' Q' hot _ ⟨D, b0, b1, b2, b3, b4, b5, b6, b7, b8, b9, rfl, rfl, _, kin, q⟩
    exact kin_runs T kin hot zn.zc q
  case rd =>
    refine ⟨rfl, at_.code, h _ _ (fun cls d H' ⟨D, b0, b1, b2, b3, b4, b5, b6, b7, b8, b9, e1, e2, em, kin, q⟩ => ?_) fun v H' g => ⟨by show 2 ≤ sizeLine; decide, fun t nt => ⟨_, rfl, g t nt⟩⟩⟩
    subst e1 e2
    exact ⟨true, em, fun _ a na => ⟨rfl, D, b0, b1, b2, b3, b4, b5, b6, b7, b8, b9, rfl, rfl, em, kin, fun H1 x1 => ⟨_, rfl, q H1 x1⟩⟩, fun z => by cases z⟩
theorem pe_try {X : Cx} {n : Nat} (T : Txt X.K X.mg) {params : Arguments} {body : Expr} {scope : Scope} {c P : Addr} {tb : XK → TE} {q lpos pos : Pos} (hg : Gl X "_law_try") (TB : LamX.TabB X.base X.mg c P) (hcode : X.env.code = .ref c) (hr : Room (n + 2) X.A) (L : LamX.LamS X.env.scope scope)
    (hdef : defaultsOf params X.env = ([], [])) (none_ : ∀ (q : Str) (cl : List (Str × Addr)) (pm cv ctv : Value), bindArgs (PySem.W.kla_fn "<lambda>" q params body scope cl pm cv ctv) ⟨[], []⟩ = pure [])
    (runs : ∀ (f c' : Addr) (A : Around) (outer : List Env) (sZ : Shared) (HZ : Hp) (E : XK), Room n (A.deeper (LamX.lamEnv X scope sZ.heap.objs.size f c')) → PE (lamN X A outer sZ HZ E scope f c') body (tb E)) :
    PE X (.Call (.Name "_law_try" q) [.Lambda params body scope lpos] [] pos) (fun σ H Q => LamX.TabS H P (X.env.qual ++ "<lambda>") ∧ ∀ H1, LamX.ExtN H H1 → LamX.TabS H1 P (X.env.qual ++ "<lambda>") → ∀ (E : XK) (Q' : VK), (∀ cls d H', Caught T Q cls d H' → E cls d H') → (∀ v H', Given Q v H' → Q' v H') → tb E σ H1 Q') := by
  refine ⟨fun pins s σ H Q I ⟨tab, h⟩ => wpAny_Call_Name_kw (ld_glob I hg T._law_try.g ?_)⟩
  have all : ∀ {H' : Hp}, LamX.TabS H' P (X.env.qual ++ "<lambda>") → LamX.Tabs [(P, X.env.qual ++ "<lambda>")] H' := fun t p hp => by
    cases List.mem_singleton.mp hp
    exact t
  refine PySem.W.callWith_K (h₀ := X.base) I.ok.mod.kin T._law_try.F.kp (args_cons (LamX.lam_make2 I TB hcode (List.mem_cons_self ..) (fun p hp _ => by cases List.mem_singleton.mp hp; rfl) (all tab) hdef (L.has I.ok) fun f c' pm ctv H1 s1 I1 ext tabs made out nofr code => args_nil ⟨I1.kIn, ?_⟩))
  obtain ⟨oc, od, kV, doc, pm', an, cdv, ct, osl, e, lk, cd⟩ := T._law_try.F.ex
  have bound := T._law_try.b s1 [.ref f] I1.kIn rfl
  rw [e] at bound lk
  refine wpAny_call (codeAny_mono (LamX.run_ofS (CX := CX0) (E := E0) (Q := Q) lk cd sc__law_try hr I1.env0 bound (vs := [.ref f]) (.cons rfl .nil) rfl fun hr1 => try_runs T I1 L ⟨⟨pm, ctv, made⟩, out, nofr, code⟩ none_ (runs f c') hr1 (h H1 ext (tabs _ (List.mem_cons_self ..)))) fun r t z => ?_)
  match r, z with
  | .ok (.ret u), z => exact I1.after z
  | .error x, z => exact (z : False).elim
end

/-! ### things: plain data by kinds -/
inductive Kd where
  | non | bl | int | str | lst | tup
def Kd.nm : Kd → String
  | .non => "NoneType" | .bl => "bool" | .int => "int" | .str => "str" | .lst => "list" | .tup => "tuple"
inductive Dat (H : Hp) : V → Kd → Prop where
  | non : Dat H .non .non
  | bl (b : Bool) : Dat H (.bl b) .bl
  | int (i : Int) : Dat H (.int i) .int
  | str (x : Str) : Dat H (.str x) .str
  | lst {a : Addr} {xs : List V} (h : H a = some (.lst xs)) : Dat H (.ref a) .lst
  | tup {a : Addr} {xs : List V} (h : H a = some (.tup xs)) : Dat H (.ref a) .tup
theorem Dat.ty {K : PySem.W.Frag} {H : Hp} {x : V} {t : Kd} (d : Dat H x t) : TyX K H x (.type t.nm) := by
  cases d with
  | non => exact .base .non
  | bl b => exact .base (.bl b)
  | int i => exact .base (.int i)
  | str x => exact .base (.str x)
  | lst h => exact .base (.lst h)
  | tup h => exact .base (.tup h)
theorem Dat.ex {H H' : Hp} {x : V} {t : Kd} (e : Ex H H') (d : Dat H x t) : Dat H' x t := by
  cases d with
  | non => exact .non
  | bl b => exact .bl b
  | int i => exact .int i
  | str x => exact .str x
  | lst h => exact .lst (e _ _ h)
  | tup h => exact .tup (e _ _ h)
/-- isinstance among these kinds -/
def Kd.isa : Kd → Kd → Bool
  | .non, .non => true | .bl, .bl => true | .bl, .int => true | .int, .int => true | .str, .str => true | .lst, .lst => true | .tup, .tup => true
  | _, _ => false
theorem kit_kd {K : PySem.W.Frag} (a b : Kd) (hb : b.nm ≠ "NoneType") : PySem.W.kitOne K (.type a.nm) (.type b.nm) = some (a.isa b) := by
  cases b
  case non => exact absurd rfl hb
  all_goals cases a <;> exact kit_ty (by decide +kernel)
def wholeV : V → Bool
  | .int _ => true
  | _ => false
def btw (x : V) (lo hi : Int) : Bool := match x with
  | .int i => decide (lo ≤ i) && decide (i ≤ hi)
  | _ => false
section
variable {P : Program} {w : World} {K : PySem.W.Frag} {mg : Str → Option Value} {base : Heap}
def spWhole : Sp := fun vs H Q _ => ∃ x t, vs = [x] ∧ Dat H x t ∧ RetV (.bl (wholeV x)) H Q
theorem ok_is_whole (T : Txt K mg) {k : Nat} : FnOk P w K mg base CX0 (k + 1) T.is_whole.f T.is_whole.fd ["thing"] spWhole := by
  refine T.is_whole.F.ok sc_is_whole (fun vs H Q E h => ?_) (fun cdv A outer s H vs Q E hr h => ?_)
  · obtain ⟨x, t, rfl, _⟩ := h
    rfl
  · obtain ⟨x, t, rfl, d, q⟩ := h
    have q0 := q H (Ex.refl H)
    refine ⟨_, (pss_one (ps_ret (pe_and (pe_callB call_isi (by rfl) T.isinstance (by decide +kernel) (pa_cons (pv 0) (pa_cons (pe_bltn (v := .ty "int") (by rfl) T.b_int (by decide +kernel) rfl) pa_nil))) (pe_one (pe_not (pe_callB call_isi (by rfl) T.isinstance (by decide +kernel) (pa_cons (pv 0) (pa_cons (pe_bltn (v := .ty "bool") (by rfl) T.b_bool (by decide +kernel) rfl) pa_nil)))))))), ?_⟩
    refine ⟨_, rfl, _, _, _, _, _, rfl, .ty _, d.ty, kit_kd t .int (by decide), _, rfl, ?_⟩
    cases d
    case non => exact iteF q0
    case str => exact iteF q0
    case lst => exact iteF q0
    case tup => exact iteF q0
    case bl b => exact iteT ⟨_, rfl, _, _, _, _, _, rfl, .ty _, Dat.ty (.bl b), kit_kd .bl .bl (by decide), _, rfl, q0⟩
    case int i => exact iteT ⟨_, rfl, _, _, _, _, _, rfl, .ty _, Dat.ty (.int i), kit_kd .int .bl (by decide), _, rfl, q0⟩
def spBetween : Sp := fun vs H Q _ => ∃ x t lo hi, vs = [x, .int lo, .int hi] ∧ Dat H x t ∧ RetV (.bl (btw x lo hi)) H Q
theorem ok_is_between (T : Txt K mg) : FnOk P w K mg base CX0 2 T.is_between.f T.is_between.fd ["thing", "least", "most"] spBetween := by
  have G_is_whole : FnOk P w K mg base CX0 1 T.is_whole.f T.is_whole.fd ["thing"] spWhole := ok_is_whole T
  refine T.is_between.F.ok sc_is_between (fun vs H Q E h => ?_) (fun cdv A outer s H vs Q E hr h => ?_)
  · obtain ⟨x, t, lo, hi, rfl, _⟩ := h
    rfl
  · obtain ⟨x, t, lo, hi, rfl, d, q⟩ := h
    refine ⟨_, (pss_one (ps_ret (pe_and (pe_call G_is_whole (hr.mono (by omega)) (by rfl) T.is_whole.g T.is_whole.F.kp T.is_whole.b .nil pass0 (pa_cons (pv 0) pa_nil)) (pe_one (pe_chain op_le op_le (pv 1) (pv 0) (pv 2)))))), ?_⟩
    refine ⟨_, rfl, x, t, rfl, d, fun H1 e1 => ⟨_, rfl, ?_⟩⟩
    have q1 := q H1 e1
    cases x with
    | int i =>
      refine iteT ⟨_, rfl, _, rfl, _, _, rfl, rfl, _, rfl, ?_⟩
      by_cases h1 : lo ≤ i
      · rw [if_pos (decide_eq_true h1)]
        refine ⟨_, rfl, _, _, rfl, rfl, ?_⟩
        have e : btw (.int i) lo hi = decide (i ≤ hi) := by
          show (decide (lo ≤ i) && decide (i ≤ hi)) = _
          rw [decide_eq_true h1, Bool.true_and]
        rw [e] at q1
        exact q1
      · rw [if_neg (by rw [decide_eq_false h1]; decide)]
        have e : btw (.int i) lo hi = false := by
          show (decide (lo ≤ i) && decide (i ≤ hi)) = _
          rw [decide_eq_false h1, Bool.false_and]
        rw [e] at q1
        exact q1
    | _ => exact iteF q1
end

/-! ### is_land -/
def topB (t b : V) : Bool := match b with
  | .int b' => btw t 0 (b' - 1)
  | _ => false
def landL : List V → Bool
  | [d, t, b, s] => btw d 1 400 && (btw b 1 60 && (topB t b && btw s (-1000000) 1000000))
  | _ => false
def landB (H : Hp) (x : V) : Bool := match x with
  | .ref a => match H a with
    | some (.tup xs) => landL xs
    | _ => false
  | _ => false
theorem landB_tup {H : Hp} {a : Addr} {xs : List V} (h : H a = some (.tup xs)) : landB H (.ref a) = landL xs := by
  show (match H a with | some (.tup xs) => landL xs | _ => false) = _
  rw [h]
theorem landB_lst {H : Hp} {a : Addr} {xs : List V} (h : H a = some (.lst xs)) : landB H (.ref a) = false := by
  show (match H a with | some (.tup xs) => landL xs | _ => false) = _
  rw [h]
/-- all parts of a tuple are plain data -/
def Parts (H : Hp) (x : V) : Prop := ∀ a xs, x = .ref a → H a = some (.tup xs) → ∀ y ∈ xs, ∃ u, Dat H y u
theorem landL_len {xs : List V} (h : xs.length ≠ 4) : landL xs = false := by
  match xs, h with
  | [], _ => rfl
  | [_], _ => rfl
  | [_, _], _ => rfl
  | [_, _, _], _ => rfl
  | [_, _, _, _], h => exact absurd rfl h
  | _ :: _ :: _ :: _ :: _ :: _, _ => rfl
section
variable {P : Program} {w : World} {K : PySem.W.Frag} {mg : Str → Option Value} {base : Heap}
def spIsLand : Sp := fun vs H Q _ => ∃ x t, vs = [x] ∧ Dat H x t ∧ Parts H x ∧ RetV (.bl (landB H x)) H Q
end

/-! ### a land at a value -/
def Land (H : Hp) (v : V) (D T B S : Int) : Prop := ∃ a, v = .ref a ∧ H a = some (.tup [.int D, .int T, .int B, .int S]) ∧ (1 ≤ D ∧ D ≤ 400) ∧ (0 ≤ T ∧ T < B) ∧ (1 ≤ B ∧ B ≤ 60) ∧ (-1000000 ≤ S ∧ S ≤ 1000000)
theorem Land.ex {H H' : Hp} {v : V} {D T B S : Int} (e : Ex H H') (h : Land H v D T B S) : Land H' v D T B S := by
  obtain ⟨a, rfl, ha, r⟩ := h
  exact ⟨a, rfl, e _ _ ha, r⟩
theorem btw_yes {i lo hi : Int} (h : lo ≤ i ∧ i ≤ hi) : btw (.int i) lo hi = true := by
  show (decide (lo ≤ i) && decide (i ≤ hi)) = true
  rw [decide_eq_true h.1, decide_eq_true h.2]
  rfl
theorem btw_iff {i lo hi : Int} : btw (.int i) lo hi = true ↔ (lo ≤ i ∧ i ≤ hi) := by
  show (decide (lo ≤ i) && decide (i ≤ hi)) = true ↔ _
  rw [Bool.and_eq_true, decide_eq_true_iff, decide_eq_true_iff]
theorem Land.is {H : Hp} {v : V} {D T B S : Int} (h : Land H v D T B S) : landB H v = true := by
  obtain ⟨a, rfl, ha, r1, r2, r3, r4⟩ := h
  rw [landB_tup ha]
  show (btw (.int D) 1 400 && (btw (.int B) 1 60 && (btw (.int T) 0 (B - 1) && btw (.int S) (-1000000) 1000000))) = true
  rw [btw_yes r1, btw_yes r3, btw_yes ⟨r2.1, by omega⟩, btw_yes r4]
  rfl
theorem Land.parts {H : Hp} {v : V} {D T B S : Int} (h : Land H v D T B S) : Parts H v ∧ Dat H v .tup := by
  obtain ⟨a, rfl, ha, _⟩ := h
  refine ⟨fun b xs e hb y hy => ?_, .tup ha⟩
  cases e
  rw [ha] at hb
  cases hb
  simp only [List.mem_cons, List.not_mem_nil, or_false] at hy
  rcases hy with rfl | rfl | rfl | rfl <;> exact ⟨_, .int _⟩
/-- the day on which a year begins; how many days of these are added -/
def fst (D T B S y : Int) : Int := ((D * B + T) * y + S) / B
def add (T B S y : Int) : Int := (T * y + S) / B
def yr (D T B S n : Int) : Int := ((n + 1) * B - S - 1) / (D * B + T)
theorem cm_l {i j : Int} (h : -1000000000 ≤ i ∧ i ≤ 1000000000) : CMul i j := .inl ⟨by omega, by omega⟩
theorem cm_r {i j : Int} (h : -1000000000 ≤ j ∧ j ≤ 1000000000) : CMul i j := .inr ⟨by omega, by omega⟩
theorem step_bd {D T B : Int} (r1 : 1 ≤ D ∧ D ≤ 400) (r2 : 0 ≤ T ∧ T < B) (r3 : 1 ≤ B ∧ B ≤ 60) : 1 ≤ D * B + T ∧ D * B + T ≤ 24060 := by
  have h1 : D * B ≤ 400 * B := Int.mul_le_mul_of_nonneg_right r1.2 (by omega)
  have h2 : 1 * B ≤ D * B := Int.mul_le_mul_of_nonneg_right r1.1 (by omega)
  omega

section
variable {P : Program} {w : World} {K : PySem.W.Frag} {mg : Str → Option Value} {base : Heap}
def spNeedLand : Sp := fun vs H Q _ => ∃ v D T B S, vs = [v] ∧ Land H v D T B S ∧ RetV .non H Q
def spNum : Sp := fun vs H Q _ => ∃ i : Int, vs = [.int i] ∧ (-1000000000000000000000000000000 ≤ i ∧ i ≤ 1000000000000000000000000000000) ∧ RetV .non H Q
def spStep : Sp := fun vs H Q _ => ∃ v D T B S, vs = [v] ∧ Land H v D T B S ∧ RetV (.int (D * B + T)) H Q
theorem ok_step_of (T : Txt K mg) : FnOk P w K mg base CX0 1 T.step_of.f T.step_of.fd ["land"] spStep := by
  refine T.step_of.F.ok sc_step_of (fun vs H Q E h => ?_) (fun cdv A outer s H vs Q E hr h => ?_)
  · obtain ⟨x, _, _, _, _, rfl, _⟩ := h
    rfl
  · obtain ⟨x, D, T', B, S, rfl, ⟨a, rfl, ha, r1, r2, r3, r4⟩, q⟩ := h
    refine ⟨_, (pss_cons (ps_asg (pv 0) (pg_tup rfl (pgs_cons (pg_name (i := 1) sc_step_of.nd rfl (Or.inl rfl)) (pgs_cons (pg_name (i := 2) sc_step_of.nd rfl (Or.inl rfl)) (pgs_cons (pg_name (i := 3) sc_step_of.nd rfl (Or.inl rfl)) (pgs_cons (pg_name (i := 4) sc_step_of.nd rfl (Or.inl rfl)) pgs_nil))))))
      (pss_one (ps_ret (pe_op op_add (pe_op op_mul (pv 1) (pv 3)) (pv 2))))), ?_⟩
    refine ⟨_, rfl, a, _, rfl, st_of ha, rfl, _, _, rfl, _, _, rfl, _, _, rfl, _, _, rfl, rfl, ?_⟩
    exact ⟨_, rfl, _, rfl, _, _, rfl, rfl, cm_l (by omega), _, rfl, _, _, rfl, rfl, q H (Ex.refl H)⟩
def spFirst : Sp := fun vs H Q _ => ∃ v D T B S y, vs = [v, .int y] ∧ Land H v D T B S ∧ RetV (.int (fst D T B S y)) H Q
end

/-! ### the deck -/
def Dk (n : Nat) (H : Hp) (d : Addr) : Prop := ∃ x y z : Int, H d = some (.lst [.int x, .int y, .int z]) ∧ (0 ≤ y ∧ y < 2147483579) ∧ (0 ≤ z ∧ z ≤ (n : Int))
/-- all but the deck stands as it stood -/
def ExD (d : Addr) (H H' : Hp) : Prop := ∀ a o, a ≠ d → H a = some o → H' a = some o
theorem ExD.refl {d : Addr} {H : Hp} : ExD d H H := fun _ _ _ h => h
theorem ExD.trans {d : Addr} {H H1 H2 : Hp} (a : ExD d H H1) (b : ExD d H1 H2) : ExD d H H2 := fun x o n h => b x o n (a x o n h)
theorem ExD.of {d : Addr} {H H' : Hp} (e : Ex H H') : ExD d H H' := fun a o _ h => e a o h
theorem ExD.upd {d : Addr} {H : Hp} {o : HO} : ExD d H (upd H d o) := fun a u n h => by
  rw [upd_ne n]
  exact h
theorem Dk.ex {n : Nat} {H H' : Hp} {d : Addr} (e : Ex H H') (h : Dk n H d) : Dk n H' d := by
  obtain ⟨x, y, z, hd, r⟩ := h
  exact ⟨x, y, z, e _ _ hd, r⟩
theorem Dk.ne_tup {n : Nat} {H : Hp} {d a : Addr} {xs : List V} (h : Dk n H d) (ha : H a = some (.tup xs)) : a ≠ d := by
  obtain ⟨x, y, z, hd, r⟩ := h
  exact ne_of ha hd (fun z => by cases z)
theorem ExD.tup {n : Nat} {H H' : Hp} {d a : Addr} {xs : List V} (e : ExD d H H') (h : Dk n H d) (ha : H a = some (.tup xs)) : H' a = some (.tup xs) := e _ _ (h.ne_tup ha) ha
theorem ExD.land {n : Nat} {H H' : Hp} {d : Addr} {v : V} {D T B S : Int} (e : ExD d H H') (h : Dk n H d) (hl : Land H v D T B S) : Land H' v D T B S := by
  obtain ⟨a, rfl, ha, r⟩ := hl
  exact ⟨a, rfl, e.tup h ha, r⟩
/-- new addresses are new -/
theorem ExD.fresh {n : Nat} {d : Addr} {H H' : Hp} {p : Addr} (e : ExD d H H') (hd : Dk n H' d) (h : H' p = none) : H p = none := by
  cases q : H p with
  | none => rfl
  | some o =>
    by_cases hp : p = d
    · obtain ⟨x, y, z, h1, _⟩ := hd
      rw [hp, h1] at h
      cases h
    · rw [e _ _ hp q] at h
      cases h
section
variable {P : Program} {w : World} {K : PySem.W.Frag} {mg : Str → Option Value} {base : Heap}
def spDeck : Sp := fun vs H Q _ => ∃ (c : Int) (n : Nat), vs = [.int c, .int n] ∧ ∀ p H2, H p = none → Ex H H2 → Dk n H2 p → Q (.ref p) H2
theorem ok__law_deck (T : Txt K mg) : FnOk P w K mg base CX0 1 T._law_deck.f T._law_deck.fd ["cell", "turn"] spDeck := by
  refine T._law_deck.F.ok sc__law_deck (fun vs H Q E h => ?_) (fun cdv A outer s H vs Q E hr h => ?_)
  · obtain ⟨c, n, rfl, _⟩ := h
    rfl
  · obtain ⟨c, n, rfl, q⟩ := h
    have hm := Int.emod_nonneg c (show (2147483579 : Int) ≠ 0 by decide)
    have hm2 := Int.emod_lt_of_pos c (show (0 : Int) < 2147483579 by decide)
    refine ⟨_, (pss_cons (ps_if (pt_cmpR op_ge (pv 0) (pe_op op_pow pe_int pe_int) (nomark _))
        (pss_one (ps_ret (pe_lst (pa_cons (pe_op op_sub (pv 0) (pe_op op_pow pe_int pe_int)) (pa_cons (pe_op op_mod (pv 0) pe_int) (pa_cons (pv 1) pa_nil))))))
        pss_nil)
      (pss_one (ps_ret (pe_lst (pa_cons pe_int (pa_cons (pe_op op_mod (pv 0) pe_int) (pa_cons (pv 1) pa_nil))))))), ?_⟩
    refine ⟨_, rfl, _, _, rfl, rfl, ⟨by decide, by decide, by decide⟩, _, _, rfl, rfl, _, rfl, ite2 (fun e => ?_) (fun e => ?_)⟩
    · refine ⟨_, rfl, _, _, rfl, rfl, ⟨by decide, by decide, by decide⟩, _, _, rfl, rfl, _, rfl, _, _, rfl, rfl, by show (0 : Int) < 2147483579; decide, _, rfl, by show 3 ≤ sizeLine; decide, fun p hp => ?_⟩
      exact q p _ hp (Ex.new hp) ⟨_, _, _, upd_same, ⟨hm, hm2⟩, by omega, by omega⟩
    · refine ⟨_, rfl, _, _, rfl, rfl, by show (0 : Int) < 2147483579; decide, _, rfl, by show 3 ≤ sizeLine; decide, fun p hp => ?_⟩
      exact q p _ hp (Ex.new hp) ⟨_, _, _, upd_same, ⟨hm, hm2⟩, by omega, by omega⟩
def spPick : Sp := fun vs H Q _ => ∃ (d : Addr) (m : Int) (n : Nat), vs = [.ref d, .int m] ∧ Dk n H d ∧ n < 1000000 ∧ (0 < m ∧ m.natAbs < 2 ^ 100) ∧ ∀ r H', 0 ≤ r → r < m → ExD d H H' → Dk (n + 1) H' d → Q (.int r) H'
theorem ok__law_pick (T : Txt K mg) : FnOk P w K mg base CX0 1 T._law_pick.f T._law_pick.fd ["deck", "size"] spPick := by
  refine T._law_pick.F.ok sc__law_pick (fun vs H Q E h => ?_) (fun cdv A outer s H vs Q E hr h => ?_)
  · obtain ⟨d, m, n, rfl, _⟩ := h
    rfl
  · obtain ⟨d, m, n, rfl, ⟨x, y, z, hd, hy, hz⟩, hn, hm, q⟩ := h
    refine ⟨_, (pss_cons (ps_if (pt_cmpR op_gt (pe_ix ix_list (pv 0) pe_int (fun _ _ => rfl)) pe_int (nomark _))
        (pss_cons (ps_set (i := 2) sc__law_pick.nd rfl (Or.inl rfl) (pe_op op_mod (pe_ix ix_list (pv 0) pe_int (fun _ _ => rfl)) (pv 1)))
      (pss_cons (ps_asg (pe_op op_fdivW (pe_ix ix_list (pv 0) pe_int (fun _ _ => rfl)) (pv 1)) (pg_sub (pv 0) pe_int set_list))
      (pss_one (ps_ret (pv 2)))))
        pss_nil)
      (pss_cons (ps_asg (pe_op op_add (pe_ix ix_list (pv 0) pe_int (fun _ _ => rfl)) pe_int) (pg_sub (pv 0) pe_int set_list))
      (pss_cons (ps_set (i := 3) sc__law_pick.nd rfl (Or.inl rfl) (pe_op op_mod (pe_op op_pow (pe_op op_add (pe_ix ix_list (pv 0) pe_int (fun _ _ => rfl)) (pe_op op_mul pe_int (pe_ix ix_list (pv 0) pe_int (fun _ _ => rfl)))) pe_int) pe_int))
      (pss_cons (ps_set (i := 2) sc__law_pick.nd rfl (Or.inl rfl) (pe_op op_fdiv (pe_op op_mod (pe_op op_pow (pe_op op_add (pv 3) (pe_op op_mul pe_int (pe_ix ix_list (pv 0) pe_int (fun _ _ => rfl)))) pe_int) pe_int) pe_int))
      (pss_one (ps_ret (pe_op op_mod (pv 2) (pv 1)))))))), ?_⟩
    refine ⟨.ref d, rfl, d, _, 0, _, rfl, rfl, sq_of hd, rfl, _, _, rfl, rfl, _, rfl, ite2 (fun e => ?_) (fun e => ?_)⟩
    · refine ⟨.ref d, rfl, d, _, 0, _, rfl, rfl, sq_of hd, rfl, _, rfl, _, _, rfl, rfl, hm.1, ?_⟩
      refine ⟨.ref d, rfl, d, _, 0, _, rfl, rfl, sq_of hd, rfl, _, rfl, _, _, rfl, rfl, wide_div hm.1 hm.2 (by decide) (by decide), ?_⟩
      refine ⟨.ref d, rfl, d, _, _, _, rfl, rfl, hd, rfl, ?_⟩
      refine ⟨_, rfl, ?_⟩
      exact q _ _ (Int.emod_nonneg x (by omega)) (Int.emod_lt_of_pos x hm.1) ExD.upd ⟨_, _, _, upd_same, hy, by omega, by omega⟩
    · refine ⟨.ref d, rfl, d, _, 2, _, rfl, rfl, sq_of hd, rfl, _, _, rfl, rfl, ?_⟩
      refine ⟨.ref d, rfl, d, _, _, _, rfl, rfl, hd, rfl, ?_⟩
      have hd2 : upd H d (.lst ([V.int x, V.int y, V.int z].set 2 (.int (z + 1)))) d = some (.lst [.int x, .int y, .int (z + 1)]) := upd_same
      have hE : ExD d H (upd H d (.lst ([V.int x, V.int y, V.int z].set 2 (.int (z + 1))))) := ExD.upd
      revert hd2 hE
      show ∀ _ _, tSeq _ _ _ _ (upd H d (.lst ([V.int x, V.int y, V.int z].set 2 (.int (z + 1)))))
      generalize upd H d (.lst ([V.int x, V.int y, V.int z].set 2 (.int (z + 1)))) = H2
      intro hd2 hE
      refine ⟨.ref d, rfl, d, _, 1, _, rfl, rfl, sq_of hd2, rfl, .ref d, rfl, d, _, 2, _, rfl, rfl, sq_of hd2, rfl, _, _, rfl, rfl, cm_l (by omega), _, _, rfl, rfl, _, _, rfl, rfl, ⟨by decide, by decide, by omega⟩, _, _, rfl, rfl, by show (0 : Int) < 2147483647; decide, ?_⟩
      have g1 := Int.emod_nonneg ((y + 15485867 * (z + 1)) ^ (5 : Int).toNat) (show (2147483647 : Int) ≠ 0 by decide)
      have g2 := Int.emod_lt_of_pos ((y + 15485867 * (z + 1)) ^ (5 : Int).toNat) (show (0 : Int) < 2147483647 by decide)
      revert g1 g2
      generalize ((y + 15485867 * (z + 1)) ^ (5 : Int).toNat) % 2147483647 = N
      intro g1 g2
      refine ⟨_, rfl, .ref d, rfl, d, _, 2, _, rfl, rfl, sq_of hd2, rfl, _, _, rfl, rfl, cm_l (by omega), _, _, rfl, rfl, _, _, rfl, rfl, ⟨by decide, by decide, by omega⟩, _, _, rfl, rfl, by show (0 : Int) < 2147483629; decide, _, _, rfl, rfl, ⟨by decide, by decide⟩, ?_⟩
      refine ⟨_, rfl, _, rfl, _, _, rfl, rfl, hm.1, ?_⟩
      exact q _ _ (Int.emod_nonneg _ (by omega)) (Int.emod_lt_of_pos _ hm.1) hE ⟨_, _, _, hd2, hy, by omega, by omega⟩
def spOne : Sp := fun vs H Q _ => ∃ (d b : Addr) (xs : List V) (n : Nat), vs = [.ref d, .ref b] ∧ Dk n H d ∧ n < 1000000 ∧ H b = some (.lst xs) ∧ b ≠ d ∧ (0 < xs.length ∧ xs.length ≤ 1000) ∧
  ∀ v H', v ∈ xs → ExD d H H' → Dk (n + 1) H' d → Q v H'
theorem ok__law_one (T : Txt K mg) : FnOk P w K mg base CX0 2 T._law_one.f T._law_one.fd ["deck", "some"] spOne := by
  have G__law_pick : FnOk P w K mg base CX0 1 T._law_pick.f T._law_pick.fd ["deck", "size"] spPick := ok__law_pick T
  refine T._law_one.F.ok sc__law_one (fun vs H Q E h => ?_) (fun cdv A outer s H vs Q E hr h => ?_)
  · obtain ⟨d, m, xs, n, rfl, _⟩ := h
    rfl
  · obtain ⟨d, b, xs, n, rfl, hk, hn, hb, ne, hl, q⟩ := h
    refine ⟨_, (pss_one (ps_ret (pe_ix ix_list (pv 1) (pe_call G__law_pick (hr.mono (by omega)) (by rfl) T._law_pick.g T._law_pick.F.kp T._law_pick.b .nil pass0 (pa_cons (pv 0) (pa_cons (pe_callB call_len_seq (by rfl) T.len (by decide +kernel) (pa_cons (pv 1) pa_nil)) pa_nil))) (fun _ _ => rfl)))), ?_⟩
    refine ⟨_, rfl, _, rfl, _, rfl, b, xs, rfl, .inl (sq_of hb), d, _, n, rfl, hk, hn, ⟨by omega, by omega⟩, fun r H1 h0 h1 e1 k1 => ?_⟩
    have hr : r.toNat < xs.length := by omega
    refine ⟨b, xs, r, xs[r.toNat], rfl, rfl, sq_of (e1 _ _ ne hb), ?_, q _ _ (List.getElem_mem hr) e1 k1⟩
    exact at_of (j := r.toNat) (by omega) (List.getElem?_eq_getElem hr)
end

/-! ### drawn lands, far numbers -/
section
variable {P : Program} {w : World} {K : PySem.W.Frag} {mg : Str → Option Value} {base : Heap}
def spDraw : Sp := fun vs H Q _ => ∃ (d : Addr) (L M N : Int) (n : Nat), vs = [.ref d, .int L, .int M, .int N] ∧ Dk n H d ∧ n < 900000 ∧ (1 ≤ L ∧ L ≤ 400) ∧ (1 ≤ M ∧ M ≤ 60) ∧ (0 ≤ N ∧ N ≤ 1000000) ∧
  ∀ v H' D T B S, Land H' v D T B S → D ≤ L → B ≤ M → -N ≤ S → S ≤ N → ExD d H H' → Dk (n + 4) H' d → Q v H'
theorem ok__law_land (T : Txt K mg) : FnOk P w K mg base CX0 2 T._law_land.f T._law_land.fd ["deck", "long_so", "bottoms", "shifts"] spDraw := by
  have G__law_pick : FnOk P w K mg base CX0 1 T._law_pick.f T._law_pick.fd ["deck", "size"] spPick := ok__law_pick T
  refine T._law_land.F.ok sc__law_land (fun vs H Q E h => ?_) (fun cdv A outer s H vs Q E hr h => ?_)
  · obtain ⟨d, L, M, N, n, rfl, _⟩ := h
    rfl
  · obtain ⟨d, L, M, N, n, rfl, hk, hn, hL, hM, hN, q⟩ := h
    refine ⟨_, (pss_cons (ps_set (i := 4) sc__law_land.nd rfl (Or.inl rfl) (pe_op op_add pe_int (pe_call G__law_pick (hr.mono (by omega)) (by rfl) T._law_pick.g T._law_pick.F.kp T._law_pick.b .nil pass0 (pa_cons (pv 0) (pa_cons (pv 2) pa_nil)))))
      (pss_cons (ps_set (i := 5) sc__law_land.nd rfl (Or.inl rfl) (pe_op op_sub (pe_call G__law_pick (hr.mono (by omega)) (by rfl) T._law_pick.g T._law_pick.F.kp T._law_pick.b .nil pass0 (pa_cons (pv 0) (pa_cons (pe_op op_add (pe_op op_mul pe_int (pv 3)) pe_int) pa_nil))) (pv 3)))
      (pss_one (ps_ret (pe_tup (pa_cons (pe_op op_add pe_int (pe_call G__law_pick (hr.mono (by omega)) (by rfl) T._law_pick.g T._law_pick.F.kp T._law_pick.b .nil pass0 (pa_cons (pv 0) (pa_cons (pv 1) pa_nil)))) (pa_cons (pe_call G__law_pick (hr.mono (by omega)) (by rfl) T._law_pick.g T._law_pick.F.kp T._law_pick.b .nil pass0 (pa_cons (pv 0) (pa_cons (pv 4) pa_nil))) (pa_cons (pv 4) (pa_cons (pv 5) pa_nil))))))))), ?_⟩
    refine ⟨_, rfl, _, rfl, d, M, n, rfl, hk, by omega, ⟨by omega, by omega⟩, fun b H1 b0 b1 e1 k1 => ⟨_, _, rfl, rfl, ?_⟩⟩
    refine ⟨_, rfl, _, rfl, _, _, rfl, rfl, cm_l (by omega), _, _, rfl, rfl, d, _, n + 1, rfl, k1, by omega, ⟨by omega, by omega⟩, fun sh H2 s0 s1 e2 k2 => ⟨_, rfl, _, _, rfl, rfl, ?_⟩⟩
    refine ⟨_, rfl, _, rfl, d, L, n + 2, rfl, k2, by omega, ⟨by omega, by omega⟩, fun dd H3 d0 d1 e3 k3 => ⟨_, _, rfl, rfl, ?_⟩⟩
    refine ⟨_, rfl, _, rfl, d, 1 + b, n + 3, rfl, k3, by omega, ⟨by omega, by omega⟩, fun tt H4 t0 t1 e4 k4 => ?_⟩
    refine ⟨_, rfl, _, rfl, by show 4 ≤ sizeLine; decide, fun p hp => ?_⟩
    exact q _ _ (1 + dd) tt (1 + b) (sh - N) ⟨p, rfl, upd_same, ⟨by omega, by omega⟩, ⟨by omega, by omega⟩, ⟨by omega, by omega⟩, ⟨by omega, by omega⟩⟩ (by omega) (by omega) (by omega) (by omega)
      (((e1.trans e2).trans (e3.trans e4)).trans (ExD.of (Ex.new hp))) (k4.ex (Ex.new hp))
def spAny : Sp := fun vs H Q _ => ∃ (d : Addr) (n : Nat), vs = [.ref d] ∧ Dk n H d ∧ n < 800000 ∧ ∀ v H' D T B S, Land H' v D T B S → ExD d H H' → Dk (n + 5) H' d → Q v H'
/-! ### begins by the law's own words -/
def beg (D T B S y : Int) : Int := D * y + (T * y + S) / B
theorem beg_fst {D T B S y : Int} (hB : 1 ≤ B) : beg D T B S y = fst D T B S y := by
  unfold beg fst
  have e : (D * B + T) * y + S = (T * y + S) + B * (D * y) := by
    rw [Int.add_mul, Int.mul_right_comm, Int.mul_comm (D * y) B]
    omega
  rw [e, Int.add_mul_ediv_left _ _ (by omega)]
  omega
def spBeg : Sp := fun vs H Q _ => ∃ v D T B S y, vs = [v, .int y] ∧ Land H v D T B S ∧ RetV (.int (fst D T B S y)) H Q
theorem ok__law_begin (T : Txt K mg) : FnOk P w K mg base CX0 1 T._law_begin.f T._law_begin.fd ["land", "year"] spBeg := by
  refine T._law_begin.F.ok sc__law_begin (fun vs H Q E h => ?_) (fun cdv A outer s H vs Q E hr h => ?_)
  · obtain ⟨x, _, _, _, _, _, rfl, _⟩ := h
    rfl
  · obtain ⟨x, D, T', B, S, y, rfl, ⟨a, rfl, ha, r1, r2, r3, r4⟩, q⟩ := h
    have q0 := q H (Ex.refl H)
    rw [← beg_fst r3.1] at q0
    refine ⟨_, (pss_one (ps_ret (pe_op op_add (pe_op op_mul (pe_ix ix_tup (pv 0) pe_int (fun _ _ => rfl)) (pv 1)) (pe_op op_fdiv (pe_op op_add (pe_op op_mul (pe_ix ix_tup (pv 0) pe_int (fun _ _ => rfl)) (pv 1)) (pe_ix ix_tup (pv 0) pe_int (fun _ _ => rfl))) (pe_ix ix_tup (pv 0) pe_int (fun _ _ => rfl)))))), ?_⟩
    refine ⟨_, rfl, a, _, 0, _, rfl, rfl, st_of ha, rfl, _, rfl, _, _, rfl, rfl, cm_l (by omega), ?_⟩
    refine ⟨_, rfl, a, _, 1, _, rfl, rfl, st_of ha, rfl, _, rfl, _, _, rfl, rfl, cm_l (by omega), ?_⟩
    refine ⟨_, rfl, a, _, 3, _, rfl, rfl, st_of ha, rfl, _, _, rfl, rfl, ?_⟩
    exact ⟨_, rfl, a, _, 2, _, rfl, rfl, st_of ha, rfl, _, _, rfl, rfl, ⟨by omega, by omega⟩, _, _, rfl, rfl, q0⟩

end

/-! ### sameness -/
def Kd.sort : Kd → Int
  | .bl => 1 | .int => 2 | .str => 3 | .lst => 4 | .tup => 5 | .non => 6
section
variable {P : Program} {w : World} {K : PySem.W.Frag} {mg : Str → Option Value} {base : Heap}
def spSort : Sp := fun vs H Q _ => ∃ x t, vs = [x] ∧ Dat H x t ∧ RetV (.int t.sort) H Q
theorem ok__law_sort (T : Txt K mg) : FnOk P w K mg base CX0 1 T._law_sort.f T._law_sort.fd ["thing"] spSort := by
  refine T._law_sort.F.ok sc__law_sort (fun vs H Q E h => ?_) (fun cdv A outer s H vs Q E hr h => ?_)
  · obtain ⟨x, t, rfl, _⟩ := h
    rfl
  · obtain ⟨x, t, rfl, d, q⟩ := h
    have q0 := q H (Ex.refl H)
    refine ⟨_, (pss_cons (ps_if (pt_val (pe_callB call_isi (by rfl) T.isinstance (by decide +kernel) (pa_cons (pv 0) (pa_cons (pe_bltn (v := .ty "bool") (by rfl) T.b_bool (by decide +kernel) rfl) pa_nil))))
        (pss_one (ps_ret pe_int))
        pss_nil)
      (pss_cons (ps_if (pt_val (pe_callB call_isi (by rfl) T.isinstance (by decide +kernel) (pa_cons (pv 0) (pa_cons (pe_bltn (v := .ty "int") (by rfl) T.b_int (by decide +kernel) rfl) pa_nil))))
        (pss_one (ps_ret pe_int))
        pss_nil)
      (pss_cons (ps_if (pt_val (pe_callB call_isi (by rfl) T.isinstance (by decide +kernel) (pa_cons (pv 0) (pa_cons (pe_bltn (v := .ty "str") (by rfl) T.str (by decide +kernel) rfl) pa_nil))))
        (pss_one (ps_ret pe_int))
        pss_nil)
      (pss_cons (ps_if (pt_val (pe_callB call_isi (by rfl) T.isinstance (by decide +kernel) (pa_cons (pv 0) (pa_cons (pe_bltn (v := .ty "list") (by rfl) T.b_list (by decide +kernel) rfl) pa_nil))))
        (pss_one (ps_ret pe_int))
        pss_nil)
      (pss_one (ps_ret (pe_ifExp (pt_val (pe_callB call_isi (by rfl) T.isinstance (by decide +kernel) (pa_cons (pv 0) (pa_cons (pe_bltn (v := .ty "tuple") (by rfl) T.tuple (by decide +kernel) rfl) pa_nil)))) pe_int pe_int))))))), ?_⟩
    refine ⟨_, rfl, _, _, _, _, _, rfl, .ty _, d.ty, kit_kd t .bl (by decide), _, rfl, ?_⟩
    cases t
    case bl => exact iteT q0
    all_goals refine iteF ⟨_, rfl, _, _, _, _, _, rfl, .ty _, d.ty, kit_kd _ .int (by decide), _, rfl, ?_⟩
    case int => exact iteT q0
    all_goals refine iteF ⟨_, rfl, _, _, _, _, _, rfl, .ty _, d.ty, kit_kd _ .str (by decide), _, rfl, ?_⟩
    case str => exact iteT q0
    all_goals refine iteF ⟨_, rfl, _, _, _, _, _, rfl, .ty _, d.ty, kit_kd _ .lst (by decide), _, rfl, ?_⟩
    case lst => exact iteT q0
    all_goals refine iteF ⟨_, rfl, _, _, _, _, _, rfl, .ty _, d.ty, kit_kd _ .tup (by decide), _, rfl, ?_⟩
    case tup => exact iteT q0
    case non => exact iteF q0
end
/-- x and y are the same data, to the depth n -/
inductive Sm (H : Hp) : Nat → V → V → Prop where
  | non {n : Nat} : Sm H n .non .non
  | bl {n : Nat} (b : Bool) : Sm H n (.bl b) (.bl b)
  | int {n : Nat} (i : Int) : Sm H n (.int i) (.int i)
  | str {n : Nat} (x : Str) : Sm H n (.str x) (.str x)
  | lst {n : Nat} {a b : Addr} {xs ys : List V} (ha : H a = some (.lst xs)) (hb : H b = some (.lst ys)) (hl : xs.length = ys.length) (hz : xs.length ≤ 1000) (h : ∀ (i : Nat) (x y : V), xs[i]? = some x → ys[i]? = some y → Sm H n x y) : Sm H (n + 1) (.ref a) (.ref b)
  | tup {n : Nat} {a b : Addr} {xs ys : List V} (ha : H a = some (.tup xs)) (hb : H b = some (.tup ys)) (hl : xs.length = ys.length) (hz : xs.length ≤ 1000) (h : ∀ (i : Nat) (x y : V), xs[i]? = some x → ys[i]? = some y → Sm H n x y) : Sm H (n + 1) (.ref a) (.ref b)
theorem Sm.ex {H H' : Hp} {n : Nat} {x y : V} (e : Ex H H') (h : Sm H n x y) : Sm H' n x y := by
  induction h with
  | non => exact .non
  | bl b => exact .bl b
  | int i => exact .int i
  | str x => exact .str x
  | lst ha hb hl hz _ ih => exact .lst (e _ _ ha) (e _ _ hb) hl hz ih
  | tup ha hb hl hz _ ih => exact .tup (e _ _ ha) (e _ _ hb) hl hz ih
theorem Sm.kd {H : Hp} {n : Nat} {x y : V} (h : Sm H n x y) : ∃ t, Dat H x t ∧ Dat H y t := by
  cases h with
  | non => exact ⟨_, .non, .non⟩
  | bl b => exact ⟨_, .bl b, .bl b⟩
  | int i => exact ⟨_, .int i, .int i⟩
  | str x => exact ⟨_, .str x, .str x⟩
  | lst ha hb _ _ _ => exact ⟨_, .lst ha, .lst hb⟩
  | tup ha hb _ _ _ => exact ⟨_, .tup ha, .tup hb⟩
def spSame : Nat → Sp
  | 0 => fun _ _ _ _ => False
  | n + 1 => fun vs H Q _ => ∃ x y, vs = [x, y] ∧ Sm H n x y ∧ RetV (.bl true) H Q
section
variable {P : Program} {w : World} {K : PySem.W.Frag} {mg : Str → Option Value} {base : Heap}
theorem ok__law_same (T : Txt K mg) (n : Nat) : FnOk P w K mg base CX0 (n + 1) T._law_same.f T._law_same.fd ["told", "due"] (spSame n) := by
  induction n with
  | zero => exact ⟨fun _ _ _ _ h => h.elim, fun _ _ _ _ _ _ _ _ _ _ _ _ _ h => h.elim⟩
  | succ n G__law_same =>
    have G__law_sort : FnOk P w K mg base CX0 1 T._law_sort.f T._law_sort.fd ["thing"] spSort := ok__law_sort T
    refine T._law_same.F.ok sc__law_same (fun vs H Q E h => ?_) (fun cdv A outer s H vs Q E hr h => ?_)
    · obtain ⟨x, y, rfl, _⟩ := h
      rfl
    · obtain ⟨x, y, rfl, hS, q⟩ := h
      refine ⟨_, (pss_cons (ps_if (pt_cmpR op_ne (pe_call G__law_sort (hr.mono (by omega)) (by rfl) T._law_sort.g T._law_sort.F.kp T._law_sort.b .nil pass0 (pa_cons (pv 0) pa_nil)) (pe_call G__law_sort (hr.mono (by omega)) (by rfl) T._law_sort.g T._law_sort.F.kp T._law_sort.b .nil pass0 (pa_cons (pv 1) pa_nil)) (nomark _))
        (pss_one (ps_ret pe_bl))
        pss_nil)
      (pss_cons (ps_if (PW.pt (pw_and (pt_cmpR op_gt (pe_call G__law_sort (hr.mono (by omega)) (by rfl) T._law_sort.g T._law_sort.F.kp T._law_sort.b .nil pass0 (pa_cons (pv 0) pa_nil)) pe_int (nomark _)) (pw_and1 (pt_cmpR op_lt (pe_call G__law_sort (hr.mono (by omega)) (by rfl) T._law_sort.g T._law_sort.F.kp T._law_sort.b .nil pass0 (pa_cons (pv 0) pa_nil)) pe_int (nomark _)))))
        (pss_cons (ps_if (pt_cmpR op_ne (pe_callB call_len_seq (by rfl) T.len (by decide +kernel) (pa_cons (pv 0) pa_nil)) (pe_callB call_len_seq (by rfl) T.len (by decide +kernel) (pa_cons (pv 1) pa_nil)) (nomark _))
        (pss_one (ps_ret pe_bl))
        pss_nil)
      (pss_one (ps_ret (pe_cmpR (op_eqD hr.units) (pe_lc (own := [("k", 2), ("part", 3)]) (g := gTup K 2 (gCons (gName 2) (gCons (gName 3) gNil))) (by rfl) sc__law_same.nd (pi_enumS rfl T.enumerate (pa_cons (pv 0) pa_nil)) (blkOk_by (own := [("k", 2), ("part", 3)]) (N := ["told", "due", "k", "part"]) (sc := defScope s__law_same) (by decide +kernel)) (fun _ _ _ _ _ => (pg_tup rfl (pgs_cons (pg_name (i := 2) sc__law_same.nd rfl (Or.inl rfl)) (pgs_cons (pg_name (i := 3) sc__law_same.nd rfl (Or.inl rfl)) pgs_nil)))) (fun _ _ _ _ _ => (pts_one (pt_not (pt_val (pe_call G__law_same (hr.mono (by omega)) (by rfl) T._law_same.g T._law_same.F.kp T._law_same.b .nil pass0 (pa_cons (pv 3) (pa_cons (pe_ix (show IxR _ (rIx K) from ix_seq) (pv 1) (pv 2) (fun _ _ => rfl)) pa_nil))))))) (fun _ _ _ _ _ => (pv 2))) (pe_lst pa_nil) (nomark _)))))
        pss_nil)
      (pss_one (ps_ret (pe_cmpR op_eq (pv 0) (pv 1) (nomark _)))))), ?_⟩
      obtain ⟨t, dx, dy⟩ := hS.kd
      refine ⟨_, rfl, _, t, rfl, dx, fun H1 e1 => ⟨_, rfl, _, t, rfl, dy.ex e1, fun H2 e2 => ⟨rfl, _, rfl, iteNS rfl ?_⟩⟩⟩
      have e12 := e1.trans e2
      refine ⟨_, rfl, _, t, rfl, dx.ex e12, fun H3 e3 => ⟨_, _, rfl, rfl, _, rfl, ?_⟩⟩
      have e13 := e12.trans e3
      have hS3 := hS.ex e13
      have dx3 := dx.ex e13
      have q3 : ∀ H4, Ex H3 H4 → Q (.bl true) H4 := fun H4 e4 => q H4 (e13.trans e4)
      clear hS dx dy q e12 e13
      cases hS3 with
      | non =>
        cases dx3
        refine iteT ⟨_, rfl, _, _, rfl, .non, fun H4 e4 => ⟨_, _, rfl, rfl, _, rfl, iteF ⟨_, rfl, _, rfl, rfl, q3 H4 e4⟩⟩⟩
      | bl b =>
        cases dx3
        refine iteF (iteF ⟨_, rfl, _, rfl, rfl, ?_⟩)
        rw [decide_eq_true rfl]
        exact q3 H3 (Ex.refl H3)
      | int i =>
        cases dx3
        refine iteF (iteF ⟨_, rfl, _, rfl, rfl, ?_⟩)
        rw [decide_eq_true rfl]
        exact q3 H3 (Ex.refl H3)
      | str x =>
        cases dx3
        refine iteF (iteF ⟨_, rfl, _, rfl, rfl, ?_⟩)
        rw [decide_eq_true rfl]
        exact q3 H3 (Ex.refl H3)
      | @lst m a b xs ys ha hb hl hz hh =>
        have et : t = .lst := by
          cases dx3 with
          | lst _ => rfl
          | tup h => rw [ha] at h; cases h
        subst et
        refine iteT ⟨_, rfl, _, _, rfl, dx3, fun H4 e4 => ⟨_, _, rfl, rfl, _, rfl, iteT ?_⟩⟩
        have ha4 := e4 _ _ ha
        have hb4 := e4 _ _ hb
        refine ⟨_, rfl, a, xs, rfl, .inl (sq_of ha4), _, rfl, b, ys, rfl, .inl (sq_of hb4), rfl, _, rfl, iteNS (by rw [hl]) ?_⟩
        refine ⟨_, rfl, a, xs, rfl, .inl ⟨sq_of ha4, fun D hD => ?_⟩⟩
        refine lc_it walk_enum (fun i H' => Ex H4 H' ∧ H' D = some (.lst [])) ⟨Ex.new hD, upd_same⟩ (fun i H' _ p => sq_of (p.1 _ _ ha4)) (fun i v H' H'' hi p y => ?_) (fun H' p => ?_)
        · obtain ⟨Tp, x1, x2, rfl, nT, rfl, h1, h2⟩ := y
          cases h1
          have x4 := p.1.trans (Ex.new (o := .tup [.int (i : Int), x2]) nT)
          have hi2 : i < ys.length := by omega
          refine ⟨Tp, _, rfl, st_of upd_same, rfl, _, _, rfl, _, _, rfl, rfl, rfl, ?_⟩
          refine ⟨_, rfl, _, rfl, _, rfl, .inl ⟨b, ys, i, ys[i], rfl, rfl, sq_of (x4 _ _ hb4), at_of (j := i) rfl (List.getElem?_eq_getElem hi2), ?_⟩⟩
          have hD2 := Ex.new (o := .tup [.int (i : Int), x2]) nT _ _ p.2
          refine ⟨x2, ys[i], rfl, (hh i x2 ys[i] h2 (List.getElem?_eq_getElem hi2)).ex (e4.trans x4), fun H5 e5 => ⟨_, rfl, iteF ⟨x4.trans e5, e5 _ _ hD2⟩⟩⟩
        · refine ⟨by show 0 ≤ sizeLine; decide, fun p' hp' => ?_⟩
          have e6 := p.1.trans (Ex.new (o := .lst []) hp')
          exact ⟨.list [], .list [], .lst (sq_of (Ex.new (o := .lst []) hp' _ _ p.2)) .nil, .lst (sq_of upd_same) .nil, rfl, rfl, q3 _ (e4.trans e6)⟩
      | @tup m a b xs ys ha hb hl hz hh =>
        have et : t = .tup := by
          cases dx3 with
          | tup _ => rfl
          | lst h => rw [ha] at h; cases h
        subst et
        refine iteT ⟨_, rfl, _, _, rfl, dx3, fun H4 e4 => ⟨_, _, rfl, rfl, _, rfl, iteT ?_⟩⟩
        have ha4 := e4 _ _ ha
        have hb4 := e4 _ _ hb
        refine ⟨_, rfl, a, xs, rfl, .inr (st_of ha4), _, rfl, b, ys, rfl, .inr (st_of hb4), rfl, _, rfl, iteNS (by rw [hl]) ?_⟩
        refine ⟨_, rfl, a, xs, rfl, .inr ⟨ha4, fun D hD => ?_⟩⟩
        refine lc_it walk_itP (fun i H' => Ex H4 H' ∧ H' D = some (.lst [])) ⟨Ex.new hD, upd_same⟩ (fun i H' _ p => p.1 _ _ ha4) (fun i v H' H'' hi p y => ?_) (fun H' p => ?_)
        · obtain ⟨Tp, x1, x2, rfl, nT, rfl, h1, h2⟩ := y
          cases h1
          have x4 := p.1.trans (Ex.new (o := .tup [.int (i : Int), x2]) nT)
          have hi2 : i < ys.length := by omega
          refine ⟨Tp, _, rfl, st_of upd_same, rfl, _, _, rfl, _, _, rfl, rfl, rfl, ?_⟩
          refine ⟨_, rfl, _, rfl, _, rfl, .inr (.inl ⟨b, ys, i, ys[i], rfl, rfl, st_of (x4 _ _ hb4), at_of (j := i) rfl (List.getElem?_eq_getElem hi2), ?_⟩)⟩
          have hD2 := Ex.new (o := .tup [.int (i : Int), x2]) nT _ _ p.2
          refine ⟨x2, ys[i], rfl, (hh i x2 ys[i] h2 (List.getElem?_eq_getElem hi2)).ex (e4.trans x4), fun H5 e5 => ⟨_, rfl, iteF ⟨x4.trans e5, e5 _ _ hD2⟩⟩⟩
        · refine ⟨by show 0 ≤ sizeLine; decide, fun p' hp' => ?_⟩
          have e6 := p.1.trans (Ex.new (o := .lst []) hp')
          exact ⟨.list [], .list [], .lst (sq_of (Ex.new (o := .lst []) hp' _ _ p.2)) .nil, .lst (sq_of upd_same) .nil, rfl, rfl, q3 _ (e4.trans e6)⟩
end

/-! ### the mathematics of one land -/
theorem mul_bd {x b K L : Int} (hx : -K ≤ x ∧ x ≤ K) (hb : 0 ≤ b ∧ b ≤ L) (hK : 0 ≤ K) : -(K * L) ≤ x * b ∧ x * b ≤ K * L := by
  have h1 : x * b ≤ K * b := Int.mul_le_mul_of_nonneg_right hx.2 hb.1
  have h2 : -K * b ≤ x * b := Int.mul_le_mul_of_nonneg_right hx.1 hb.1
  have h3 : K * b ≤ K * L := Int.mul_le_mul_of_nonneg_left hb.2 hK
  rw [Int.neg_mul] at h2
  omega
theorem div_bd {a s M : Int} (hs : 1 ≤ s) (ha : -M ≤ a ∧ a ≤ M) (hM : 0 ≤ M) : -M ≤ a / s ∧ a / s ≤ M := by
  have h1 : M * 1 ≤ M * s := Int.mul_le_mul_of_nonneg_left hs hM
  constructor
  · rw [Int.le_ediv_iff_mul_le (by omega), Int.neg_mul]
    omega
  · have h2 : a / s < M + 1 := by
      rw [Int.ediv_lt_iff_lt_mul (by omega), Int.add_mul]
      omega
    omega
theorem add_step {T B S y : Int} (hT : 0 ≤ T ∧ T < B) : add T B S y ≤ add T B S (y + 1) ∧ add T B S (y + 1) ≤ add T B S y + 1 := by
  have hB : 0 < B := by omega
  unfold add
  rw [Int.mul_add, Int.mul_one]
  have e := Int.mul_ediv_add_emod (T * y + S) B
  have r0 := Int.emod_nonneg (T * y + S) (show B ≠ 0 by omega)
  have r1 := Int.emod_lt_of_pos (T * y + S) hB
  constructor
  · rw [Int.le_ediv_iff_mul_le hB, Int.mul_comm]
    omega
  · have h : (T * y + T + S) / B < (T * y + S) / B + 1 + 1 := by
      rw [Int.ediv_lt_iff_lt_mul hB, Int.add_mul, Int.add_mul, Int.mul_comm _ B, Int.one_mul]
      omega
    omega
theorem fst_beg {D T B S y : Int} (hB : 1 ≤ B) : fst D T B S y = D * y + add T B S y := by
  unfold fst add
  have e : (D * B + T) * y + S = (T * y + S) + B * (D * y) := by
    rw [Int.add_mul, Int.mul_right_comm, Int.mul_comm (D * y) B]
    omega
  rw [e, Int.add_mul_ediv_left _ _ (by omega)]
  omega
theorem fst_succ {D T B S y : Int} (hB : 1 ≤ B) : fst D T B S (y + 1) - fst D T B S y = D + (add T B S (y + 1) - add T B S y) := by
  rw [fst_beg hB, fst_beg hB, Int.mul_add, Int.mul_one]
  omega
theorem fst_le {D T B S y n : Int} (hB : 1 ≤ B) (hs : 1 ≤ D * B + T) : fst D T B S y ≤ n ↔ y ≤ yr D T B S n := by
  unfold yr fst
  rw [Int.le_ediv_iff_mul_le (by omega), ← Int.lt_add_one_iff, Int.ediv_lt_iff_lt_mul (by omega), Int.mul_comm y]
  omega
theorem yr_spec {D T B S n : Int} (hB : 1 ≤ B) (hs : 1 ≤ D * B + T) : fst D T B S (yr D T B S n) ≤ n ∧ n < fst D T B S (yr D T B S n + 1) := by
  constructor
  · exact (fst_le hB hs).mpr (Int.le_refl _)
  · have h := mt (fst_le (D := D) (T := T) (B := B) (S := S) (y := yr D T B S n + 1) (n := n) hB hs).mp (by omega)
    omega
theorem yr_eq {D T B S n y : Int} (hB : 1 ≤ B) (hs : 1 ≤ D * B + T) (h1 : fst D T B S y ≤ n) (h2 : n < fst D T B S (y + 1)) : yr D T B S n = y := by
  have a1 := (fst_le hB hs).mp h1
  have a2 := mt (fst_le (D := D) (T := T) (B := B) (S := S) (y := y + 1) (n := n) hB hs).mpr (by omega)
  omega
theorem yr_bd {D T B S n : Int} (r1 : 1 ≤ D ∧ D ≤ 400) (r2 : 0 ≤ T ∧ T < B) (r3 : 1 ≤ B ∧ B ≤ 60) (r4 : -1000000 ≤ S ∧ S ≤ 1000000) {M : Int} (hM : 0 ≤ M) (hn : -M ≤ n ∧ n ≤ M) :
    -((M + 1) * 60 + 1000001) ≤ yr D T B S n ∧ yr D T B S n ≤ (M + 1) * 60 + 1000001 := by
  have hs := step_bd r1 r2 r3
  have h := mul_bd (x := n + 1) (b := B) (K := M + 1) (L := 60) (by omega) (by omega) (by omega)
  unfold yr
  exact div_bd hs.1 (by omega) (by omega)
theorem fst_bd {D T B S y : Int} (r1 : 1 ≤ D ∧ D ≤ 400) (r2 : 0 ≤ T ∧ T < B) (r3 : 1 ≤ B ∧ B ≤ 60) (r4 : -1000000 ≤ S ∧ S ≤ 1000000) {M : Int} (hM : 0 ≤ M) (hn : -M ≤ y ∧ y ≤ M) :
    -(M * 401 + 1000000) ≤ fst D T B S y ∧ fst D T B S y ≤ M * 401 + 1000000 := by
  have hd : D * B ≤ 400 * B := Int.mul_le_mul_of_nonneg_right r1.2 (by omega)
  have hd0 : 0 ≤ D * B := Int.mul_nonneg (by omega) (by omega)
  have h := mul_bd (x := y) (b := D * B + T) (K := M) (L := 401 * B) hn (by omega) hM
  rw [Int.mul_comm y] at h
  have e : M * (401 * B) = (M * 401) * B := by rw [Int.mul_assoc]
  rw [e] at h
  unfold fst
  have hB : 0 < B := by omega
  generalize (D * B + T) * y = Z at h ⊢
  constructor
  · rw [Int.le_ediv_iff_mul_le hB, Int.neg_mul, Int.add_mul]
    omega
  · have g : (Z + S) / B < M * 401 + 1000000 + 1 := by
      rw [Int.ediv_lt_iff_lt_mul hB, Int.add_mul, Int.add_mul]
      omega
    omega
theorem fst_round {D T B S y : Int} (hB : 1 ≤ B) : fst D T B S (y + B) = fst D T B S y + (D * B + T) := by
  unfold fst
  have e : (D * B + T) * (y + B) + S = ((D * B + T) * y + S) + (D * B + T) * B := by
    rw [Int.mul_add]
    omega
  rw [e]
  exact Int.add_mul_ediv_right _ _ (by omega)
/-- how many of the n years from y on are long -/
def longs (T B S y : Int) (n : Nat) : Nat := ((List.range n).filter fun (i : Nat) => decide (add T B S (y + (i : Int) + 1) > add T B S (y + (i : Int)))).length
theorem longs_eq {T B S y : Int} (hT : 0 ≤ T ∧ T < B) (n : Nat) : (longs T B S y n : Int) = add T B S (y + n) - add T B S y := by
  induction n with
  | zero =>
    have e : y + ((0 : Nat) : Int) = y := by omega
    rw [e]
    show ((0 : Nat) : Int) = _
    omega
  | succ n ih =>
    have hst := add_step (S := S) (y := y + (n : Int)) hT
    unfold longs at ih ⊢
    rw [List.range_succ, List.filter_append, List.length_append, List.filter_cons]
    have e : y + ((n + 1 : Nat) : Int) = y + (n : Int) + 1 := by omega
    rw [e]
    by_cases h : add T B S (y + (n : Int) + 1) > add T B S (y + (n : Int))
    · rw [if_pos (decide_eq_true h)]
      show ((_ + ([n].length) : Nat) : Int) = _
      have : [n].length = 1 := rfl
      omega
    · rw [if_neg (by rw [decide_eq_false h]; decide)]
      show ((_ + ([] : List Nat).length : Nat) : Int) = _
      have : ([] : List Nat).length = 0 := rfl
      omega
theorem add_bds {T B S y m : Int} (hT : 0 ≤ T ∧ T < B) : m * T / B ≤ add T B S (y + m) - add T B S y ∧ add T B S (y + m) - add T B S y ≤ (m * T + B - 1) / B := by
  have hB : 0 < B := by omega
  unfold add
  rw [Int.mul_add, Int.mul_comm T m]
  have e := Int.mul_ediv_add_emod (T * y + S) B
  have r0 := Int.emod_nonneg (T * y + S) (show B ≠ 0 by omega)
  have r1 := Int.emod_lt_of_pos (T * y + S) hB
  have e2 := Int.mul_ediv_add_emod (m * T) B
  have q0 := Int.emod_nonneg (m * T) (show B ≠ 0 by omega)
  have q1 := Int.emod_lt_of_pos (m * T) hB
  have e3 := Int.mul_ediv_add_emod (T * y + m * T + S) B
  have u0 := Int.emod_nonneg (T * y + m * T + S) (show B ≠ 0 by omega)
  have u1 := Int.emod_lt_of_pos (T * y + m * T + S) hB
  constructor
  · have h : m * T / B + (T * y + S) / B ≤ (T * y + m * T + S) / B := by
      rw [Int.le_ediv_iff_mul_le hB, Int.add_mul, Int.mul_comm _ B, Int.mul_comm _ B]
      omega
    omega
  · rw [Int.le_ediv_iff_mul_le hB, Int.sub_mul, Int.mul_comm _ B, Int.mul_comm _ B]
    omega
theorem add_round {T B S : Int} (hB : 1 ≤ B) : add T B S (0 + B) - add T B S 0 = T := by
  unfold add
  rw [Int.zero_add, Int.mul_zero, Int.add_comm (T * B), Int.add_mul_ediv_right _ _ (by omega), Int.zero_add]
  omega
theorem yr_fst {D T B S y : Int} (r1 : 1 ≤ D) (r2 : 0 ≤ T ∧ T < B) (hs : 1 ≤ D * B + T) : yr D T B S (fst D T B S y) = y := by
  have h := fst_succ (D := D) (T := T) (B := B) (S := S) (y := y) (by omega)
  have a := add_step (S := S) (y := y) r2
  exact yr_eq (by omega) hs (Int.le_refl _) (by omega)
theorem yr_fst1 {D T B S y : Int} (r1 : 1 ≤ D) (r2 : 0 ≤ T ∧ T < B) (hs : 1 ≤ D * B + T) : yr D T B S (fst D T B S y - 1) = y - 1 := by
  have h := fst_succ (D := D) (T := T) (B := B) (S := S) (y := y - 1) (by omega)
  have a := add_step (S := S) (y := y - 1) r2
  rw [Int.sub_add_cancel] at h a
  exact yr_eq (by omega) hs (by omega) (by rw [Int.sub_add_cancel]; omega)

/-! ### rows of numbers that have a thing -/
def cnt (f : Int → Bool) (a : Int) (n : Nat) : Nat := ((List.range n).filter fun (i : Nat) => f (a + i)).length
theorem cnt_succ {f : Int → Bool} {a : Int} (n : Nat) : cnt f a (n + 1) = cnt f a n + (if f (a + n) = true then 1 else 0) := by
  unfold cnt
  rw [List.range_succ, List.filter_append, List.length_append]
  congr 1
  cases h : f (a + (n : Int)) <;> simp [h]
theorem cnt_add {f : Int → Bool} {a : Int} (m n : Nat) : cnt f a (m + n) = cnt f a m + cnt f (a + m) n := by
  induction n with
  | zero => simp [cnt]
  | succ n ih =>
    rw [show m + (n + 1) = m + n + 1 by omega, cnt_succ, cnt_succ, ih, show a + ((m + n : Nat) : Int) = a + (m : Int) + (n : Int) by omega]
    omega
theorem cnt_shift {f : Int → Bool} {c : Int} (per : ∀ y, f (y + c) = f y) (a : Int) (n : Nat) : cnt f (a + c) n = cnt f a n := by
  unfold cnt
  congr 2
  funext i
  rw [show a + c + (i : Int) = a + (i : Int) + c by omega, per]
theorem cnt_rounds {f : Int → Bool} {c : Nat} (per : ∀ y, f (y + c) = f y) (a : Int) (k r : Nat) : cnt f a (k * c + r) = k * cnt f a c + cnt f a r := by
  induction k with
  | zero => simp
  | succ k ih =>
    rw [show (k + 1) * c + r = c + (k * c + r) by rw [Nat.succ_mul]; omega, cnt_add, cnt_shift per, ih, Nat.succ_mul]
    omega
def yrs (f : Int → Bool) (a : Int) (n : Nat) : List Int := ((List.range n).filter fun (i : Nat) => f (a + i)).map fun (i : Nat) => a + (i : Int)
theorem yrs_mem {f : Int → Bool} {a : Int} {n : Nat} {y : Int} : y ∈ yrs f a n ↔ a ≤ y ∧ y < a + n ∧ f y = true := by
  unfold yrs
  simp only [List.mem_map, List.mem_filter, List.mem_range]
  constructor
  · rintro ⟨i, ⟨hi, hf⟩, rfl⟩
    exact ⟨by omega, by omega, hf⟩
  · rintro ⟨h1, h2, h3⟩
    refine ⟨(y - a).toNat, ⟨by omega, ?_⟩, by omega⟩
    rw [show a + ((y - a).toNat : Int) = y by omega]
    exact h3
theorem yrs_up (f : Int → Bool) (a : Int) (n : Nat) : (yrs f a n).Pairwise (· < ·) := by
  unfold yrs
  rw [List.pairwise_map]
  refine List.Pairwise.imp ?_ ((List.pairwise_lt_range (n := n)).filter _)
  intro i j h
  omega
theorem up_at {xs : List Int} (h : xs.Pairwise (· < ·)) {i j : Nat} {y z : Int} (hi : xs[i]? = some y) (hj : xs[j]? = some z) : i < j → y < z := by
  intro ij
  obtain ⟨i1, rfl⟩ := List.getElem?_eq_some_iff.mp hi
  obtain ⟨j1, rfl⟩ := List.getElem?_eq_some_iff.mp hj
  exact List.pairwise_iff_getElem.mp h i j i1 j1 ij
/-- two rising rows with the same members are the same -/
theorem up_same {xs ys : List Int} (h : xs.Pairwise (· < ·)) (h' : ys.Pairwise (· < ·)) (m : ∀ k, k ∈ xs ↔ k ∈ ys) : xs = ys := by
  induction xs generalizing ys with
  | nil =>
    cases ys with
    | nil => rfl
    | cons y ys => exact absurd ((m y).mpr List.mem_cons_self) List.not_mem_nil
  | cons x xs ih =>
    cases ys with
    | nil => exact absurd ((m x).mp List.mem_cons_self) List.not_mem_nil
    | cons y ys =>
      rw [List.pairwise_cons] at h h'
      have exy : x = y := by
        rcases List.mem_cons.mp ((m x).mp List.mem_cons_self) with e | e
        · exact e
        · rcases List.mem_cons.mp ((m y).mpr List.mem_cons_self) with e' | e'
          · exact e'.symm
          · have := h'.1 x e
            have := h.1 y e'
            omega
      subst exy
      congr 1
      refine ih h.2 h'.2 fun k => ⟨fun hk => ?_, fun hk => ?_⟩
      · rcases List.mem_cons.mp ((m k).mp (List.mem_cons_of_mem _ hk)) with e | e
        · have := h.1 k hk
          omega
        · exact e
      · rcases List.mem_cons.mp ((m k).mpr (List.mem_cons_of_mem _ hk)) with e | e
        · have := h'.1 k hk
          omega
        · exact e

theorem per_many {f : Int → Bool} {c : Nat} (per : ∀ y, f (y + c) = f y) (y t : Int) : f (y + t * c) = f y := by
  have up : ∀ (n : Nat) (y : Int), f (y + n * c) = f y := by
    intro n
    induction n with
    | zero => intro y; simp
    | succ n ih =>
      intro y
      rw [show y + ((n + 1 : Nat) : Int) * c = (y + n * c) + c by rw [Int.natCast_add, Int.add_mul]; omega, per, ih]
  by_cases h : 0 ≤ t
  · have := up t.toNat y
    rwa [show ((t.toNat : Nat) : Int) = t by omega] at this
  · have := up (-t).toNat (y + t * c)
    rw [show (((-t).toNat : Nat) : Int) = -t by omega, Int.neg_mul, show y + t * (c : Int) + -(t * (c : Int)) = y by omega] at this
    exact this.symm
theorem yrs_none {f : Int → Bool} {a : Int} {n : Nat} (h : yrs f a n = []) (k : Nat) (hk : k < n) : f (a + k) = false := by
  cases e : f (a + k) with
  | false => rfl
  | true =>
    have m : a + (k : Int) ∈ yrs f a n := yrs_mem.mpr ⟨by omega, by omega, e⟩
    rw [h] at m
    cases m
theorem yrs_first {f : Int → Bool} {a : Int} {n : Nat} {y : Int} {r : List Int} (h : yrs f a n = y :: r) : ∃ k : Nat, k < n ∧ y = a + k ∧ f (a + k) = true ∧ ∀ j : Nat, j < k → f (a + j) = false := by
  have m := yrs_mem.mp (show y ∈ yrs f a n by rw [h]; exact List.mem_cons_self)
  have up := yrs_up f a n
  rw [h, List.pairwise_cons] at up
  refine ⟨(y - a).toNat, by omega, by omega, ?_, fun j hj => ?_⟩
  · rw [show a + ((y - a).toNat : Int) = y by omega]
    exact m.2.2
  · cases e : f (a + j) with
    | false => rfl
    | true =>
      have mj : a + (j : Int) ∈ yrs f a n := yrs_mem.mpr ⟨by omega, by omega, e⟩
      rw [h] at mj
      rcases List.mem_cons.mp mj with z | z
      · omega
      · have := up.1 _ z
        omega
theorem yrs_later {f : Int → Bool} {a : Int} {n m : Nat} (hm : m ≤ n) : (yrs f a n).filter (fun y => decide (y ≥ a + m)) = yrs f (a + m) (n - m) := by
  refine up_same ((yrs_up f a n).filter _) (yrs_up f (a + m) (n - m)) fun k => ?_
  rw [List.mem_filter, yrs_mem, yrs_mem]
  simp only [decide_eq_true_eq]
  constructor
  · rintro ⟨⟨h1, h2, h3⟩, h4⟩
    exact ⟨by omega, by omega, h3⟩
  · rintro ⟨h1, h2, h3⟩
    exact ⟨⟨by omega, by omega, h3⟩, by omega⟩
/-- none from a + m on in this turn: the first of the next turn is the first -/
theorem yrs_over {f : Int → Bool} {c : Nat} (per : ∀ y, f (y + c) = f y) {a : Int} {m : Nat} {y : Int} {r : List Int} (hm : m ≤ c) (h : yrs f a c = y :: r) (no : yrs f (a + m) (c - m) = []) :
    ∃ k : Nat, k < c ∧ y + c = a + m + k ∧ f (a + m + k) = true ∧ ∀ j : Nat, j < k → f (a + m + j) = false := by
  obtain ⟨k, kc, rfl, hk, before⟩ := yrs_first h
  have km : k < m := by
    rcases Nat.lt_or_ge k m with l | g
    · exact l
    · have := yrs_none no (k - m) (by omega)
      rw [show a + (m : Int) + ((k - m : Nat) : Int) = a + k by omega, hk] at this
      cases this
  refine ⟨k + c - m, by omega, by omega, ?_, fun j hj => ?_⟩
  · rw [show a + (m : Int) + ((k + c - m : Nat) : Int) = a + k + c by omega, per]
    exact hk
  · rcases Nat.lt_or_ge (m + j) c with l | g
    · exact yrs_none no j (by omega)
    · have := before (m + j - c) (by omega)
      rw [← per, show a + ((m + j - c : Nat) : Int) + c = a + m + j by omega] at this
      exact this
theorem yrs_cnt (f : Int → Bool) (a : Int) (n : Nat) : (yrs f a n).length = cnt f a n := by
  unfold yrs cnt
  rw [List.length_map]

/-- the first of a row, None where there is none -/
def hd : List Int → V
  | [] => .non
  | y :: _ => .int y
theorem hd_first {f : Int → Bool} {a : Int} {n k : Nat} (kn : k < n) (hk : f (a + k) = true) (before : ∀ j : Nat, j < k → f (a + j) = false) : hd (yrs f a n) = .int (a + k) := by
  cases h : yrs f a n with
  | nil =>
    have := yrs_none h k kn
    rw [hk] at this
    cases this
  | cons y r =>
    obtain ⟨k', kn', rfl, hk', before'⟩ := yrs_first h
    rcases Nat.lt_trichotomy k k' with l | e | l
    · rw [before' k l] at hk
      cases hk
    · rw [e]
      rfl
    · rw [before k' l] at hk'
      cases hk'
theorem hd_none {f : Int → Bool} {a : Int} {n : Nat} (no : ∀ k : Nat, k < n → f (a + k) = false) : hd (yrs f a n) = .non := by
  cases h : yrs f a n with
  | nil => rfl
  | cons y r =>
    obtain ⟨k, kn, _, hk, _⟩ := yrs_first h
    rw [no k kn] at hk
    cases hk
/-- where a row from a later year on is empty, the first one of the whole row a turn later -/
def hdOr (zs xs : List Int) (c : Int) : V := match zs, xs with
  | z :: _, _ => .int z
  | [], y :: _ => .int (y + c)
  | [], [] => .non
theorem hd_turn {f : Int → Bool} {c : Nat} (per : ∀ y, f (y + c) = f y) {a : Int} {m : Nat} (hm : m ≤ c) : hd (yrs f (a + m) c) = hdOr (yrs f (a + m) (c - m)) (yrs f a c) c := by
  cases hz : yrs f (a + m) (c - m) with
  | cons z r =>
    obtain ⟨k, kc, rfl, hk, before⟩ := yrs_first hz
    exact hd_first (by omega) hk before
  | nil =>
    cases hx : yrs f a c with
    | cons y r =>
      obtain ⟨k, kc, e, hk, before⟩ := yrs_over per hm hx hz
      rw [hd_first kc hk before, ← e]
      rfl
    | nil =>
      refine hd_none fun k kc => ?_
      by_cases l : m + k < c
      · have := yrs_none hx (m + k) l
        rwa [show a + ((m + k : Nat) : Int) = a + m + k by omega] at this
      · have := yrs_none hx (m + k - c) (by omega)
        rw [← per, show a + ((m + k - c : Nat) : Int) + c = a + m + k by omega] at this
        exact this
theorem sm_hd {H : Hp} {n : Nat} (xs : List Int) : Sm H n (hd xs) (hd xs) := by
  cases xs with
  | nil => exact .non
  | cons x xs => exact .int x
theorem sm_ints {H : Hp} {n : Nat} {a b : Addr} {ns : List Int} (ha : H a = some (.tup (ns.map V.int))) (hb : H b = some (.tup (ns.map V.int))) (hz : ns.length ≤ 1000) : Sm H (n + 1) (.ref a) (.ref b) :=
  .tup ha hb rfl (by rw [List.length_map]; exact hz) fun i x y hx hy => by
    rw [hx] at hy
    cases hy
    rw [List.getElem?_map] at hx
    cases hz : ns[i]? with
    | none => rw [hz] at hx; cases hx
    | some z => rw [hz] at hx; cases hx; exact .int z

theorem few {xs ys : List Int} (nd : xs.Nodup) (sub : ∀ x ∈ xs, x ∈ ys) : xs.length ≤ ys.length := by
  induction xs generalizing ys with
  | nil => exact Nat.zero_le _
  | cons x xs ih =>
    rw [List.nodup_cons] at nd
    have mx := sub x List.mem_cons_self
    have h := ih (ys := ys.erase x) nd.2 fun y hy => (List.mem_erase_of_ne (fun (e : y = x) => nd.1 (e ▸ hy))).mpr (sub y (List.mem_cons_of_mem _ hy))
    rw [List.length_erase_of_mem mx] at h
    have := List.length_pos_of_mem mx
    rw [List.length_cons]
    omega
theorem ex_put {H H' : Hp} {l : Addr} {o : HO} (e : Ex H H') (n : H l = none) : Ex H (upd H' l o) := fun a u h => by
  have ne : a ≠ l := fun z => by
    rw [z, n] at h
    cases h
  rw [upd_ne ne]
  exact e a u h
theorem inV_int (k : Int) : ∀ xs : List Int, inV (.int k) (xs.map V.int) = decide (k ∈ xs) := fun xs => by
  induction xs with
  | nil => rfl
  | cons x xs ih =>
    unfold inV at ih ⊢
    rw [List.map_cons, List.any_cons, ih]
    by_cases e : x = k
    · subst e
      simp [eqV]
    · have e' : ¬ k = x := fun z => e z.symm
      simp [eqV, e, e']
theorem flat_ints (xs : List Int) : (xs.map V.int).all flatV = true := by
  rw [List.all_map, List.all_eq_true]
  intro x _
  rfl
theorem cut_tail (xs : List V) : cutV xs (some 1) none = xs.drop 1 := by
  unfold cutV HT.sIx
  cases xs with
  | nil => rfl
  | cons x xs => simp
theorem cut_head (xs : List V) : cutV xs none (some 1) = xs.take 1 := by
  unfold cutV HT.sIx
  cases xs with
  | nil => rfl
  | cons x xs => simp
theorem given_all (n : Nat) (v : Nat → V) : given n (fun _ => true) v = (List.range n).map v := by
  unfold given
  rw [List.filter_eq_self.mpr fun _ _ => rfl]
theorem range_ints (xs : List Int) (g : Int → Int) : ((List.range xs.length).map fun i => V.int (g (xs[i]?.getD 0))) = (xs.map g).map V.int := by
  refine List.ext_getElem? fun i => ?_
  simp only [List.getElem?_map]
  by_cases h : i < xs.length
  · rw [List.getElem?_range h]
    show some (V.int (g (xs[i]?.getD 0))) = _
    rw [List.getElem?_eq_getElem h]
    rfl
  · rw [List.getElem?_eq_none (by rw [List.length_range]; omega), List.getElem?_eq_none (by omega)] <;> rfl
theorem given_ints (n : Nat) (p : Nat → Bool) (g : Nat → Int) : given n p (fun j => V.int (g j)) = (((List.range n).filter p).map g).map V.int := by
  unfold given
  rw [List.map_map]
  rfl
theorem none_any (n : Nat) (p : Nat → Bool) (g : Nat → Int) : decide (((List.range n).filter p).map g = []) = !((List.range n).any p) := by
  rw [Bool.eq_iff_iff, decide_eq_true_iff, List.map_eq_nil_iff, List.filter_eq_nil_iff]
  simp
theorem inV_any (k : Int) (n : Nat) (g : Nat → Int) : inV (.int k) (((List.range n).map g).map V.int) = (List.range n).any fun j => decide (g j = k) := by
  rw [inV_int, Bool.eq_iff_iff, decide_eq_true_iff, List.any_eq_true, List.mem_map]
  constructor
  · rintro ⟨j, hj, e⟩
    exact ⟨j, hj, decide_eq_true e⟩
  · rintro ⟨j, hj, e⟩
    exact ⟨j, hj, of_decide_eq_true e⟩
theorem ite_else {b : Bool} {X Y : Prop} (h : b = true → Y → X) (y : Y) : if b = true then X else Y := by
  cases b with
  | false => exact y
  | true => exact h rfl y
theorem if_join {b : Bool} {X : Prop} {N : Hp → Prop} {H : Hp} (h : b = true → (∀ H', Ex H H' → N H') → X) (n : ∀ H', Ex H H' → N H') : if b = true then X else N H := by
  cases b with
  | false => exact n H (Ex.refl H)
  | true => exact h rfl n
theorem iteD {c A B : Prop} [Decidable c] (hc : c) (h : A) : if decide c = true then A else B := by
  rw [decide_eq_true hc]
  exact iteT h
theorem iteND {c A B : Prop} [Decidable c] (hc : ¬ c) (h : B) : if decide c = true then A else B := by
  rw [decide_eq_false hc]
  exact iteF h
theorem at_map {n : Nat} {g : Nat → V} {i : Int} (h0 : 0 ≤ i) (h1 : i.toNat < n) : atI ((List.range n).map g) i = some (g i.toNat) := by
  unfold atI ixN
  rw [List.length_map, List.length_range, if_pos h0, if_pos (by omega)]
  show ((List.range n).map g)[i.toNat]? = _
  rw [List.getElem?_map, List.getElem?_range h1]
  rfl
section
variable {K : PySem.W.Frag} {H : Hp} {Q : VK} {σ : L2.St} {a b : Addr} {i j k : Nat} {xs zs : List Int}
theorem ix_first {x : Int} {xs : List Int} (ha : SqL K H a ((x :: xs).map V.int)) (q : Q (.int x) H) : rIxL K (.ref a) (.int 0) H Q := ⟨a, _, 0, _, rfl, rfl, ha, by unfold atI ixN; simp, q⟩
theorem if_hd (hσ : σ[i]? = some (some (.ref a))) (ha : SqL K H a (xs.map V.int)) (q : Q (hd xs) H) : if (!decide (xs = [])) = true then tOp (rIxL K) (tVar i) (tC (.int 0)) σ H Q else tC .non σ H Q := by
  cases xs with
  | nil => exact iteF q
  | cons x xs => exact iteT ⟨_, hσ, ix_first ha q⟩
theorem if_hdOr {c : Int} (hσ : σ[i]? = some (some (.ref a))) (hj : σ[j]? = some (some (.int c))) (ha : SqL K H a (xs.map V.int)) (e : zs = []) (q : Q (hdOr zs xs c) H) : if (!decide (xs = [])) = true then tOp (rI0 fun i j => .int (i + j)) (tOp (rIxL K) (tVar i) (tC (.int 0))) (tVar j) σ H Q else tC .non σ H Q := by
  subst e
  cases xs with
  | nil => exact iteF q
  | cons x xs => exact iteT ⟨_, hσ, ix_first (Q := fun x H1 => tVar j σ H1 fun y H2 => rI0 (fun i j => .int (i + j)) x y H2 Q) ha ⟨_, hj, _, _, rfl, rfl, q⟩⟩
theorem if_later {c : Int} (hi : σ[i]? = some (some (.ref a))) (hj : σ[j]? = some (some (.ref b))) (hk : σ[k]? = some (some (.int c))) (ha : H a = some (.lst (zs.map V.int))) (hb : H b = some (.lst (xs.map V.int))) (q : ∀ H', Ex H H' → Q (hdOr zs xs c) H') :
    tIf (tTest (tOp (rNeD K) (tVar i) (tLst tNil))) (tOp (rIxL K) (tVar i) (tC (.int 0))) (tIf (tTest (tOp (rNeD K) (tVar j) (tLst tNil))) (tOp (rI0 fun i j => .int (i + j)) (tOp (rIxL K) (tVar j) (tC (.int 0))) (tVar k)) (tC .non)) σ H Q := by
  refine ⟨_, hi, by decide, fun p np => ?_⟩
  have x := Ex.new (o := .lst []) np
  refine ne_lsts (ns := zs) (ms := []) (sq_of (x _ _ ha)) (sq_of upd_same) ⟨_, rfl, ?_⟩
  cases zs with
  | cons z zs => exact iteT ⟨_, hi, ix_first (sq_of (x _ _ ha)) (q _ x)⟩
  | nil =>
    refine iteF ⟨_, hj, by decide, fun p' np' => ?_⟩
    have x' := Ex.new (o := .lst []) np'
    have xx := x.trans x'
    exact ne_lsts (ns := xs) (ms := []) (sq_of (xx _ _ hb)) (sq_of upd_same) ⟨_, rfl, if_hdOr hj hk (sq_of (xx _ _ hb)) rfl (q _ xx)⟩
end

theorem cut_mem {xs : List V} {lo hi : Option Int} {x : V} (h : x ∈ cutV xs lo hi) : x ∈ xs := by
  unfold cutV at h
  exact List.mem_of_mem_drop (List.mem_of_mem_take h)
theorem cells_int {ns : List Int} {lo hi : Option Int} {i : Nat} {x : V} (h : (cutV (V.int 0 :: ns.map V.int) lo hi)[i]? = some x) : ∃ c : Int, x = .int c := by
  have hm := cut_mem (List.mem_of_getElem? h)
  rcases List.mem_cons.mp hm with rfl | there
  · exact ⟨0, rfl⟩
  · obtain ⟨c, _, rfl⟩ := List.mem_map.mp there
    exact ⟨c, rfl⟩

/-! ### what stands through a cell's turn -/
structure Cv (p : Addr) (cells : List V) (v : V) (D T B S : Int) (d : Addr) (n : Nat) (H : Hp) : Prop where
  hp : H p = some (.lst cells)
  ne : p ≠ d
  land : Land H v D T B S
  dk : Dk n H d
section
variable {p d : Addr} {cells : List V} {v : V} {D T B S : Int} {n m : Nat} {H H' : Hp}
theorem Cv.ex (c : Cv p cells v D T B S d n H) (e : Ex H H') : Cv p cells v D T B S d n H' := ⟨e _ _ c.hp, c.ne, c.land.ex e, c.dk.ex e⟩
theorem Cv.exd (c : Cv p cells v D T B S d n H) (e : ExD d H H') (k : Dk m H' d) : Cv p cells v D T B S d m H' := ⟨e _ _ c.ne c.hp, c.ne, e.land c.dk c.land, k⟩
end
def spLaw (K : PySem.W.Frag) : Sp := fun vs H Q _ => ∃ (a : Addr) (ns : List Int), vs = [.ref a] ∧ SqL K H a (ns.map V.int) ∧ ns.length ≤ 63 ∧ ∀ H', Q (.bl true) H'

/-! ### small facts of heaps and places -/
theorem tup_ne_lst {H : Hp} {a l : Addr} {xs zs : List V} (h : H a = some (.tup xs)) (hl : H l = some (.lst zs)) : a ≠ l := fun e => by rw [e, hl] at h; cases h
theorem last_at {rs : List V} {r : V} (h : rs.getLast? = some r) : atI rs (-1) = some r := by
  have e : rs[rs.length - 1]? = some r := (List.getLast?_eq_getElem? ..).symm.trans h
  have pos : 0 < rs.length := by
    have := (List.getElem?_eq_some_iff.mp e).1
    omega
  unfold atI ixN
  rw [if_neg (by decide), if_pos (by omega)]
  have n : (-1 + (rs.length : Int)).toNat = rs.length - 1 := by omega
  show rs[(-1 + (rs.length : Int)).toNat]? = some r
  rw [n, e]
theorem at_nat {α : Type} {xs : List α} {i : Nat} {x : α} (h : xs[i]? = some x) : atI xs (i : Int) = some x := by
  have lt := (List.getElem?_eq_some_iff.mp h).1
  unfold atI ixN
  rw [if_pos (Int.natCast_nonneg i), if_pos (by omega)]
  exact h
theorem cut_one {rs : List V} : cutV rs (some 1) none = rs.drop 1 := by
  unfold cutV
  have a : HT.sIx rs.length 0 (some 1) = min 1 rs.length := by unfold HT.sIx; simp
  have b : HT.sIx rs.length rs.length none = rs.length := rfl
  rw [a, b]
  cases rs with
  | nil => rfl
  | cons r rs => simp
theorem given_bls (n : Nat) (g : Nat → Bool) : given n (fun _ => true) (fun i => V.bl (g i)) = ((List.range n).map g).map V.bl := by
  rw [given_all, List.map_map]
  rfl

theorem gcd_pos {a b : Nat} (h : 0 < a) : 0 < Nat.gcd a b := Nat.gcd_pos_of_pos_left b h
section
variable {P : Program} {w : World} {K : PySem.W.Frag} {mg : Str → Option Value} {base : Heap}
def spGcd : Sp := fun vs H Q _ => ∃ a b : Nat, vs = [.int a, .int b] ∧ RetV (.int (Nat.gcd a b)) H Q
theorem ok_common_measure (T : Txt K mg) : FnOk P w K mg base CX0 1 T.common_measure.f T.common_measure.fd ["one", "other"] spGcd := by
  refine T.common_measure.F.ok sc_common_measure (fun vs H Q E h => ?_) (fun cdv A outer s H vs Q E hr h => ?_)
  · obtain ⟨_, _, rfl, _⟩ := h
    rfl
  · obtain ⟨a, b, rfl, q⟩ := h
    refine ⟨_, (pss_cons (ps_while PassesOwn.never (pt_cmpR op_ne (pv 1) pe_int (nomark _))
        (pss_one (ps_par (i := 0) (j := 1) (by rfl) sc_common_measure.nd rfl rfl (by decide) rfl rfl (pa_cons (pv 1) (pa_cons (pe_op op_mod (pv 0) (pv 1)) pa_nil)) (by rfl))))
      (pss_one (ps_ret (pv 0)))), ?_⟩
    refine q_while (fun m σ H' => ∃ c : Nat, σ = [some (.int c), some (.int (m : Nat))] ∧ Nat.gcd c m = Nat.gcd a b ∧ Ex H H') b ⟨a, rfl, rfl, Ex.refl H⟩ ?_
    rintro m σ H1 ⟨c, rfl, hg, e1⟩
    by_cases hm : m = 0
    · subst hm
      refine ⟨false, fun H2 e2 Q2 q2 => ⟨_, rfl, rfl, _, rfl, q2 H2 (Ex.refl H2)⟩, fun z => Bool.noConfusion z, fun _ H2 e2 => ?_⟩
      rw [Nat.gcd_zero_right] at hg
      have z := q H2 (e1.trans e2)
      rw [← hg] at z
      exact ⟨_, rfl, z⟩
    · have hne : decide (V.int ((m : Nat) : Int) = V.int 0) = false := decide_eq_false fun z => hm (by have := V.int.inj z; omega)
      refine ⟨true, fun H2 e2 Q2 q2 => ⟨_, rfl, rfl, _, rfl, ?_⟩, fun _ H2 e2 => ?_, fun z => Bool.noConfusion z⟩
      · rw [hne]
        exact q2 H2 (Ex.refl H2)
      · have next : Nat.gcd m (c % m) = Nat.gcd a b := by
          rw [← hg, Nat.gcd_comm c m, Nat.gcd_rec m c, Nat.gcd_comm]
        refine ⟨fun σ' H' => σ' = [some (.int (m : Nat)), some (.int ((c % m : Nat) : Int))] ∧ Ex H H', fun σ' H' ⟨es, ex⟩ => ⟨c % m, Nat.mod_lt c (by omega), m, es, next, ex⟩, ?_⟩
        refine ⟨_, rfl, _, rfl, _, rfl, _, _, rfl, rfl, by show (0 : Int) < m; omega, _, _, rfl, ?_, e1.trans e2⟩
        rw [Int.natCast_emod]
        rfl
def spPlace : Sp := fun vs H Q _ => ∃ v D T B S i, vs = [v, .int i] ∧ Land H v D T B S ∧ (0 ≤ i ∧ i < D) ∧ RetV .non H Q
end

/-! ### sorted of a list of at most one item -/
def rSort1 (K : PySem.W.Frag) : List V → Hp → VK → Prop := fun vs H Q => ∃ a xs, vs = [V.ref a] ∧ SqL K H a xs ∧ xs.length < 2 ∧ ∀ p, H p = none → Q (.ref p) (upd H p (.lst xs))
theorem perm_short {α : Type} {xs ys : List α} (p : ys.Perm xs) (h : xs.length < 2) : ys = xs := by
  match xs, h with
  | [], _ => exact p.eq_nil
  | [x], _ => exact List.perm_singleton.mp p
theorem cr_sort1 {X : Cx} : CallR X (.builtin "sorted") (rSort1 X.K) := fun pins s σ H vs us Q I r q => by
  obtain ⟨a, xs, rfl, hl, short, q⟩ := q
  obtain ⟨u, rfl, e⟩ := vals1 r
  cases e
  obtain ⟨its, vals, plain, small⟩ := I.list hl
  have len : xs.length = its.length := vals.length
  have swo : SrtO.Swo (fun _ _ : Value => false) := ⟨fun _ _ z => Bool.noConfusion z, fun _ _ _ _ _ => rfl⟩
  refine SrtO.sorted_ord swo plain.isList (by omega) (fun z => absurd z (by omega)) fun out _ st => ?_
  obtain rfl := perm_short st.perm (show its.length < 2 by omega)
  obtain ⟨n, there⟩ := sortedAll_at s.heap out out.toArray
  exact ⟨.ref _, upd H (s.heap.objs.size + 1) (.lst xs), I.laid (t' := s.toks) (fun b o e => sortedAll_old e) (Nat.le_succ _) ⟨small, out, n, vals, there⟩, rfl, q _ (I.hok.fresh (Nat.le_succ _))⟩
/-! ### seen years -/
def PairAt (H : Hp) (r : V) (p : Int × Int) : Prop := ∃ a, r = .ref a ∧ H a = some (.tup [.int p.1, .int p.2])
theorem PairAt.ex {H H' : Hp} {r : V} {p : Int × Int} (h : PairAt H r p) (e : Ex H H') : PairAt H' r p := let ⟨a, er, ha⟩ := h; ⟨a, er, e _ _ ha⟩
structure SeenOk (ps : List (Int × Int)) : Prop where
  few : 2 ≤ ps.length ∧ ps.length ≤ 6
  bd : ∀ p ∈ ps, (-10000 ≤ p.1 ∧ p.1 ≤ 10000) ∧ (-1000000 ≤ p.2 ∧ p.2 ≤ 1000000)
  up : ps.Pairwise fun p q => p.1 < q.1
structure Seen (H : Hp) (a : Addr) (rs : List V) (ps : List (Int × Int)) : Prop where
  at_ : H a = some (.tup rs)
  len : rs.length = ps.length
  each : ∀ (i : Nat) r, rs[i]? = some r → ∃ p, ps[i]? = some p ∧ PairAt H r p
  ok : SeenOk ps
theorem Seen.ex {H H' : Hp} {a : Addr} {rs : List V} {ps : List (Int × Int)} (h : Seen H a rs ps) (e : Ex H H') : Seen H' a rs ps :=
  ⟨e _ _ h.at_, h.len, fun i r z => let ⟨p, e1, e2⟩ := h.each i r z; ⟨p, e1, e2.ex e⟩, h.ok⟩
theorem Seen.row {H : Hp} {a : Addr} {rs : List V} {ps : List (Int × Int)} (h : Seen H a rs ps) {i : Nat} {p : Int × Int} (e : ps[i]? = some p) : ∃ r, rs[i]? = some r ∧ PairAt H r p := by
  have lt := (List.getElem?_eq_some_iff.mp e).1
  have e1 : rs[i]? = some (rs[i]'(by have := h.len; omega)) := List.getElem?_eq_getElem _
  obtain ⟨p', e2, e3⟩ := h.each i _ e1
  rw [e] at e2
  cases e2
  exact ⟨_, e1, e3⟩
theorem SeenOk.next {ps : List (Int × Int)} (h : SeenOk ps) {i j : Nat} {p q : Int × Int} (ij : i < j) (e : ps[i]? = some p) (e' : ps[j]? = some q) : p.1 < q.1 := by
  obtain ⟨l1, rfl⟩ := List.getElem?_eq_some_iff.mp e
  obtain ⟨l2, rfl⟩ := List.getElem?_eq_some_iff.mp e'
  exact List.pairwise_iff_getElem.mp h.up i j l1 l2 ij
/-- two tuples walked side by side -/
theorem walk_zipU {K : PySem.W.Frag} {a b : Addr} {xs ys : List V} {n : Nat} (hn : n = min xs.length ys.length) : Walk (RZ.ItzT K a b) n (fun H => SqT K H a xs ∧ SqT K H b ys) (YPair (fun i => xs[i]?) (fun i => ys[i]?)) where
  goes := fun i H hi both => by
    have lx : i < xs.length := by omega
    have ly : i < ys.length := by omega
    exact ⟨_, _, xs[i], ys[i], both.1, both.2, List.getElem?_eq_getElem lx, List.getElem?_eq_getElem ly⟩
  stops := fun H both => ⟨_, _, both.1, both.2, by omega⟩
  yields := fun i H v H' _ both ⟨t, x, y, ev, nt, eh, hx, hy⟩ => ⟨t, x, y, ev, nt, eh, hx _ both.1, hy _ both.2⟩
section
variable {P : Program} {w : World} {K : PySem.W.Frag} {mg : Str → Option Value} {base : Heap}
def spSeenY : Sp := fun vs H Q _ => ∃ r p, vs = [r] ∧ PairAt H r p ∧ ((-10000 ≤ p.1 ∧ p.1 ≤ 10000) ∧ (-1000000 ≤ p.2 ∧ p.2 ≤ 1000000)) ∧ RetV (.bl true) H Q
theorem ok_is_seen_year (T : Txt K mg) : FnOk P w K mg base CX0 3 T.is_seen_year.f T.is_seen_year.fd ["thing"] spSeenY := by
  have G_is_between : FnOk P w K mg base CX0 2 T.is_between.f T.is_between.fd ["thing", "least", "most"] spBetween := ok_is_between T
  refine T.is_seen_year.F.ok sc_is_seen_year (fun vs H Q E h => ?_) (fun cdv A outer s H vs Q E hr h => ?_)
  · obtain ⟨_, _, rfl, _⟩ := h
    rfl
  · obtain ⟨r, ⟨y, d⟩, rfl, ⟨a, rfl, h⟩, ⟨hy, hd⟩, q⟩ := h
    refine ⟨_, (pss_cons (ps_if (PW.pt (pw_or (pt_not (pt_val (pe_callB call_isi (by rfl) T.isinstance (by decide +kernel) (pa_cons (pv 0) (pa_cons (pe_bltn (v := .ty "tuple") (by rfl) T.tuple (by decide +kernel) rfl) pa_nil))))) (pw_or1 (pt_cmpR op_ne (pe_callB call_len_seq (by rfl) T.len (by decide +kernel) (pa_cons (pv 0) pa_nil)) pe_int (nomark _)))))
        (pss_one (ps_ret pe_bl))
        pss_nil)
      (pss_cons (ps_asg (pv 0) (pg_tup rfl (pgs_cons (pg_name (i := 1) sc_is_seen_year.nd rfl (Or.inl rfl)) (pgs_cons (pg_name (i := 2) sc_is_seen_year.nd rfl (Or.inl rfl)) pgs_nil))))
      (pss_one (ps_ret (pe_and (pe_call G_is_between (hr.mono (by omega)) (by rfl) T.is_between.g T.is_between.F.kp T.is_between.b .nil pass0 (pa_cons (pv 1) (pa_cons (pe_un un_neg (pe_glob (v := .int 10000) rfl T.c_FARTHEST_SEEN_YEAR ⟨_, rfl⟩)) (pa_cons (pe_glob (v := .int 10000) rfl T.c_FARTHEST_SEEN_YEAR ⟨_, rfl⟩) pa_nil)))) (pe_one (pe_call G_is_between (hr.mono (by omega)) (by rfl) T.is_between.g T.is_between.F.kp T.is_between.b .nil pass0 (pa_cons (pv 2) (pa_cons (pe_un un_neg (pe_glob (v := .int 1000000) rfl T.c_FARTHEST_SEEN_DAY ⟨_, rfl⟩)) (pa_cons (pe_glob (v := .int 1000000) rfl T.c_FARTHEST_SEEN_DAY ⟨_, rfl⟩) pa_nil)))))))))), ?_⟩
    refine ⟨_, rfl, _, _, _, _, _, rfl, .ty _, (Dat.tup h).ty, kit_kd .tup .tup (by decide), _, rfl, iteF ?_⟩
    refine ⟨_, rfl, a, _, rfl, .inr (st_of h), rfl, _, rfl, iteF ?_⟩
    refine ⟨.ref a, rfl, a, _, rfl, st_of h, rfl, _, _, rfl, _, _, rfl, rfl, ?_⟩
    refine ⟨_, rfl, 10000, rfl, .int y, _, -10000, 10000, rfl, .int y, fun H1 e1 => ⟨_, rfl, ?_⟩⟩
    rw [btw_yes hy]
    refine iteT ⟨_, rfl, 1000000, rfl, .int d, _, -1000000, 1000000, rfl, .int d, fun H2 e2 => ?_⟩
    rw [btw_yes hd]
    exact q H2 (e1.trans e2)
def spSeen : Sp := fun vs H Q _ => ∃ a rs ps, vs = [.ref a] ∧ Seen H a rs ps ∧ RetV (.bl true) H Q
theorem ok_is_seen (T : Txt K mg) : FnOk P w K mg base CX0 4 T.is_seen.f T.is_seen.fd ["thing"] spSeen := by
  have G_is_seen_year : FnOk P w K mg base CX0 3 T.is_seen_year.f T.is_seen_year.fd ["thing"] spSeenY := ok_is_seen_year T
  refine T.is_seen.F.ok sc_is_seen (fun vs H Q E h => ?_) (fun cdv A outer s H vs Q E hr h => ?_)
  · obtain ⟨_, _, _, rfl, _⟩ := h
    rfl
  · obtain ⟨a, rs, ps, rfl, h, q⟩ := h
    refine ⟨_, (pss_cons (ps_if (PW.pt (pw_or (pt_not (pt_val (pe_callB call_isi (by rfl) T.isinstance (by decide +kernel) (pa_cons (pv 0) (pa_cons (pe_bltn (v := .ty "tuple") (by rfl) T.tuple (by decide +kernel) rfl) pa_nil))))) (pw_or1 (pt_not (pt_chain op_le op_le (pe_glob (v := .int 2) rfl T.c_FEWEST_SEEN ⟨_, rfl⟩) (pe_callB call_len_seq (by rfl) T.len (by decide +kernel) (pa_cons (pv 0) pa_nil)) (pe_glob (v := .int 6) rfl T.c_MOST_SEEN ⟨_, rfl⟩))))))
        (pss_one (ps_ret pe_bl))
        pss_nil)
      (pss_cons (ps_if (pt_not (pt_val (pe_callB (cr_all rfl) (by rfl) T.all (by decide +kernel) (pa_cons (pe_lc (own := [("pair", 1)]) (g := gName 1) (by rfl) sc_is_seen.nd (pi_tup (pv 0)) (blkOk_by (own := [("pair", 1)]) (N := ["thing", "pair", "later"]) (sc := defScope s_is_seen) (by decide +kernel)) (fun _ _ _ _ _ => (pg_name (i := 1) sc_is_seen.nd rfl (Or.inl rfl))) (fun _ _ _ _ _ => pts_nil) (fun _ _ _ _ _ => (pe_call G_is_seen_year (hr.mono (by omega)) (by rfl) T.is_seen_year.g T.is_seen_year.F.kp T.is_seen_year.b .nil pass0 (pa_cons (pv 1) pa_nil)))) pa_nil))))
        (pss_one (ps_ret pe_bl))
        pss_nil)
      (pss_one (ps_ret (pe_callB (cr_all rfl) (by rfl) T.all (by decide +kernel) (pa_cons (pe_lc (own := [("pair", 1), ("later", 2)]) (g := gTup K 2 (gCons (gName 1) (gCons (gName 2) gNil))) (by rfl) sc_is_seen.nd (RZ.pi_zipA (by rfl) T.zip (pa_cons (pv 0) (pa_cons (pe_slice sl_tup (pv 0) (po_some pe_int) po_none) pa_nil))) (blkOk_by (own := [("pair", 1), ("later", 2)]) (N := ["thing", "pair", "later"]) (sc := defScope s_is_seen) (by decide +kernel)) (fun _ _ _ _ _ => (pg_tup rfl (pgs_cons (pg_name (i := 1) sc_is_seen.nd rfl (Or.inl rfl)) (pgs_cons (pg_name (i := 2) sc_is_seen.nd rfl (Or.inl rfl)) pgs_nil)))) (fun _ _ _ _ _ => pts_nil) (fun _ _ _ _ _ => (pe_cmpR op_lt (pe_ix (show IxR _ (rIxT K) from ix_tup) (pv 1) pe_int (fun _ _ => rfl)) (pe_ix (show IxR _ (rIxT K) from ix_tup) (pv 2) pe_int (fun _ _ => rfl)) (nomark _)))) pa_nil)))))), ?_⟩
    have few := h.ok.few
    have len := h.len
    refine ⟨_, rfl, _, _, _, _, _, rfl, .ty _, (Dat.tup h.at_).ty, kit_kd .tup .tup (by decide), _, rfl, iteF ?_⟩
    refine ⟨_, rfl, a, rs, rfl, .inr (st_of h.at_), _, _, rfl, rfl, _, rfl, ?_⟩
    rw [if_pos (decide_eq_true (show (2 : Int) ≤ ((rs.length : Nat) : Int) by omega))]
    refine ⟨_, _, rfl, rfl, _, rfl, ?_⟩
    rw [decide_eq_true (show ((rs.length : Nat) : Int) ≤ 6 by omega)]
    refine iteF ⟨_, rfl, a, rfl, ⟨_, st_of h.at_⟩, fun D1 hD1 => ?_⟩
    refine lc_tup (xs := rs) (Cw H (fun _ => true) (fun _ => .bl true) D1) ⟨hD1, Ex.new hD1, upd_same⟩ (fun _ H' _ c => st_of (c.2.1 _ _ h.at_)) (fun i x H' hi c => ?_) (fun H1 c => ?_)
    · obtain ⟨p, ep, hp⟩ := h.each _ _ hi
      have lt := (List.getElem?_eq_some_iff.mp hi).1
      exact ⟨rfl, cw_turn c (by omega) (fun Ha ea Qa qa => qa Ha (Ex.refl Ha)) fun _ Ha ea Qa qa => ⟨_, rfl, x, p, rfl, hp.ex ea, h.ok.bd p (List.mem_of_getElem? ep), qa⟩⟩
    obtain ⟨_, e1, h1⟩ := c
    rw [given_bls] at h1
    refine ⟨D1, _, rfl, sq_of h1, ?_⟩
    rw [show ((List.range rs.length).map fun _ => true).all id = true by simp]
    refine ⟨_, rfl, iteF ?_⟩
    refine ⟨_, rfl, _, rfl, 1, rfl, a, rs, rfl, st_of (e1 _ _ h.at_), ?_, fun p2 n2 => ?_⟩
    · have at1 : HT.sIx rs.length 0 (some 1) = min 1 rs.length := by unfold HT.sIx; simp
      rw [at1]
      omega
    rw [cut_one]
    have e2 : Ex H (upd H1 p2 (.tup (rs.drop 1))) := e1.trans (Ex.new n2)
    refine ⟨a, p2, rs, rs.drop 1, rfl, .inr ⟨st_of (e2 _ _ h.at_), st_of upd_same, fun D2 hD2 => ?_⟩⟩
    refine lc_it (walk_zipU (xs := rs) (ys := rs.drop 1) (n := rs.length - 1) (by rw [List.length_drop]; omega)) (Cw (upd H1 p2 (.tup (rs.drop 1))) (fun _ => true) (fun _ => .bl true) D2) ⟨hD2, Ex.new hD2, upd_same⟩ (fun i H' _ c => ⟨st_of (c.2.1 _ _ (e2 _ _ h.at_)), st_of (c.2.1 _ _ upd_same)⟩) ?_ ?_
    · rintro i v H3 H4 hi c ⟨t, x, y, rfl, nt, rfl, ex, ey⟩
      have ey : rs[i + 1]? = some y := by rw [← ey]; show _ = (rs.drop 1)[i]?; rw [List.getElem?_drop, Nat.add_comm]
      obtain ⟨p, ep, hp⟩ := h.each _ _ ex
      obtain ⟨p', ep', hp'⟩ := h.each _ _ ey
      have lt := h.ok.next (Nat.lt_succ_self i) ep ep'
      have c4 : Cw (upd H1 p2 (.tup (rs.drop 1))) (fun _ => true) (fun _ => .bl true) D2 i (upd H3 t (.tup [x, y])) := ⟨c.1, c.2.1.trans (Ex.new nt), Ex.new nt _ _ c.2.2⟩
      refine ⟨t, _, rfl, st_of upd_same, rfl, _, _, rfl, _, _, rfl, rfl, rfl, cw_turn c4 (by omega) (fun Ha ea Qa qa => qa Ha (Ex.refl Ha)) fun _ Ha ea Qa qa => ?_⟩
      obtain ⟨b, rfl, hb⟩ := hp.ex (e2.trans ea)
      obtain ⟨b', rfl, hb'⟩ := hp'.ex (e2.trans ea)
      refine ⟨_, rfl, b, _, 0, _, rfl, rfl, st_of hb, rfl, _, rfl, b', _, 0, _, rfl, rfl, st_of hb', rfl, _, _, rfl, rfl, ?_⟩
      show Qa (V.bl (decide (p.1 < p'.1))) Ha
      rw [decide_eq_true lt]
      exact qa Ha (Ex.refl Ha)
    · rintro H3 ⟨_, e3, h3⟩
      rw [given_bls] at h3
      refine ⟨D2, _, rfl, sq_of h3, ?_⟩
      rw [show ((List.range (rs.length - 1)).map fun _ => true).all id = true by simp]
      exact q H3 (e2.trans e3)
def spNeedSeen : Sp := fun vs H Q _ => ∃ a rs ps, vs = [.ref a] ∧ Seen H a rs ps ∧ RetV .non H Q
theorem ok_need_seen (T : Txt K mg) : FnOk P w K mg base CX0 5 T.need_seen.f T.need_seen.fd ["thing"] spNeedSeen := by
  have G_is_seen : FnOk P w K mg base CX0 4 T.is_seen.f T.is_seen.fd ["thing"] spSeen := ok_is_seen T
  refine T.need_seen.F.ok sc_need_seen (fun vs H Q E h => ?_) (fun cdv A outer s H vs Q E hr h => ?_)
  · obtain ⟨_, _, _, rfl, _⟩ := h
    rfl
  · obtain ⟨a, rs, ps, rfl, h, q⟩ := h
    refine ⟨_, (pss_one (ps_if (pt_not (pt_val (pe_call G_is_seen (hr.mono (by omega)) (by rfl) T.is_seen.g T.is_seen.F.kp T.is_seen.b .nil pass0 (pa_cons (pv 0) pa_nil))))
        (pss_one ps_never)
        pss_nil)), ?_⟩
    exact ⟨_, rfl, a, rs, ps, rfl, h, fun H1 e1 => ⟨_, rfl, iteF (q H1 e1)⟩⟩
def spMost : Sp := fun vs H Q _ => ∃ m : Int, vs = [.int m] ∧ (1 ≤ m ∧ m ≤ 12) ∧ RetV .non H Q
theorem ok_need_most (T : Txt K mg) : FnOk P w K mg base CX0 3 T.need_most.f T.need_most.fd ["thing"] spMost := by
  have G_is_between : FnOk P w K mg base CX0 2 T.is_between.f T.is_between.fd ["thing", "least", "most"] spBetween := ok_is_between T
  refine T.need_most.F.ok sc_need_most (fun vs H Q E h => ?_) (fun cdv A outer s H vs Q E hr h => ?_)
  · obtain ⟨_, rfl, _⟩ := h
    rfl
  · obtain ⟨m, rfl, hm, q⟩ := h
    refine ⟨_, (pss_one (ps_if (pt_not (pt_val (pe_call G_is_between (hr.mono (by omega)) (by rfl) T.is_between.g T.is_between.F.kp T.is_between.b .nil pass0 (pa_cons (pv 0) (pa_cons pe_int (pa_cons (pe_glob (v := .int 12) rfl T.c_MOST_TOLD_BOTTOM ⟨_, rfl⟩) pa_nil))))))
        (pss_one ps_never)
        pss_nil)), ?_⟩
    refine ⟨_, rfl, _, _, _, _, rfl, .int m, fun H1 e1 => ⟨_, rfl, ?_⟩⟩
    rw [btw_yes hm]
    exact iteF (q H1 e1)
end

/-! ### days and shifts that a land may have -/
def mostD (p q : Int × Int) : Int := (q.2 - p.2) / (q.1 - p.1)
def possD (p q : Int × Int) : List Int := [mostD p q - 1, mostD p q].filter fun n => decide (1 ≤ n) && decide (n ≤ 400)
/-- the least shift with which a year begins on its day -/
def leastS (D T B : Int) (p : Int × Int) : Int := p.2 * B - (D * B + T) * p.1
def mxL : List Int → Int
  | [] => 0
  | [x] => x
  | x :: y :: r => max x (mxL (y :: r))
def mnL : List Int → Int
  | [] => 0
  | [x] => x
  | x :: y :: r => min x (mnL (y :: r))
theorem mxL_mem : ∀ {L : List Int}, L ≠ [] → mxL L ∈ L ∧ ∀ y ∈ L, y ≤ mxL L
  | [x], _ => ⟨List.mem_cons_self, fun y h => by rcases List.mem_cons.mp h with rfl | h; exact Int.le_refl _; cases h⟩
  | x :: z :: r, _ => by
    obtain ⟨a, b⟩ := mxL_mem (L := z :: r) (by simp)
    have e : mxL (x :: z :: r) = max x (mxL (z :: r)) := rfl
    constructor
    · rw [e]
      by_cases le : x ≤ mxL (z :: r)
      · rw [show max x (mxL (z :: r)) = mxL (z :: r) by omega]
        exact List.mem_cons_of_mem _ a
      · rw [show max x (mxL (z :: r)) = x by omega]
        exact List.mem_cons_self
    · intro y h
      rw [e]
      rcases List.mem_cons.mp h with same | among
      · omega
      · have := b y among
        omega
theorem mnL_mem : ∀ {L : List Int}, L ≠ [] → mnL L ∈ L ∧ ∀ y ∈ L, mnL L ≤ y
  | [x], _ => ⟨List.mem_cons_self, fun y h => by rcases List.mem_cons.mp h with rfl | h; exact Int.le_refl _; cases h⟩
  | x :: z :: r, _ => by
    obtain ⟨a, b⟩ := mnL_mem (L := z :: r) (by simp)
    have e : mnL (x :: z :: r) = min x (mnL (z :: r)) := rfl
    constructor
    · rw [e]
      by_cases le : x ≤ mnL (z :: r)
      · rw [show min x (mnL (z :: r)) = x by omega]
        exact List.mem_cons_self
      · rw [show min x (mnL (z :: r)) = mnL (z :: r) by omega]
        exact List.mem_cons_of_mem _ a
    · intro y h
      rw [e]
      rcases List.mem_cons.mp h with same | among
      · omega
      · have := b y among
        omega
theorem mx_is {L : List Int} {m : Int} (h : m ∈ L) (le : ∀ y ∈ L, y ≤ m) : m = mxL L := by
  obtain ⟨a, b⟩ := mxL_mem (L := L) (fun z => by rw [z] at h; cases h)
  have := le _ a
  have := b _ h
  omega
theorem mn_is {L : List Int} {m : Int} (h : m ∈ L) (le : ∀ y ∈ L, m ≤ y) : m = mnL L := by
  obtain ⟨a, b⟩ := mnL_mem (L := L) (fun z => by rw [z] at h; cases h)
  have := le _ a
  have := b _ h
  omega
def lowS (ps : List (Int × Int)) (D T B : Int) : Int := mxL (ps.map (leastS D T B))
def endS (ps : List (Int × Int)) (D T B : Int) : Int := mnL (ps.map (leastS D T B)) + B
theorem least_bd {D T B : Int} {p : Int × Int} (r1 : 1 ≤ D ∧ D ≤ 400) (r2 : 0 ≤ T ∧ T < B) (r3 : 1 ≤ B ∧ B ≤ 60) (hp : (-10000 ≤ p.1 ∧ p.1 ≤ 10000) ∧ (-1000000 ≤ p.2 ∧ p.2 ≤ 1000000)) : -400000000 ≤ leastS D T B p ∧ leastS D T B p ≤ 400000000 := by
  have s := step_bd r1 r2 r3
  have m1 := mul_bd (x := p.2) (b := B) (K := 1000000) (L := 60) ⟨by omega, by omega⟩ ⟨by omega, by omega⟩ (by decide)
  have m2 := mul_bd (x := p.1) (b := D * B + T) (K := 10000) (L := 24060) ⟨by omega, by omega⟩ ⟨by omega, by omega⟩ (by decide)
  unfold leastS
  rw [Int.mul_comm (D * B + T)]
  omega
theorem range_map {α β : Type} (ps : List α) (d : α) (f : α → β) : (List.range ps.length).map (fun i => f (ps[i]?.getD d)) = ps.map f := by
  have len : ((List.range ps.length).map fun i => f (ps[i]?.getD d)).length = (ps.map f).length := by simp
  refine List.ext_getElem len fun i _ far => ?_
  have lt : i < ps.length := by simpa using far
  simp [lt]
section
variable {P : Program} {w : World} {K : PySem.W.Frag} {mg : Str → Option Value} {base : Heap}
def spPossD : Sp := fun vs H Q _ => ∃ a rs ps p q, vs = [.ref a] ∧ Seen H a rs ps ∧ ps[0]? = some p ∧ ps[ps.length - 1]? = some q ∧ ∀ l H', H l = none → Ex H H' → H' l = some (.lst ((possD p q).map V.int)) → Q (.ref l) H'
theorem ok_possible_days (T : Txt K mg) : FnOk P w K mg base CX0 1 T.possible_days.f T.possible_days.fd ["seen"] spPossD := by
  refine T.possible_days.F.ok sc_possible_days (fun vs H Q E h => ?_) (fun cdv A outer s H vs Q E hr h => ?_)
  · obtain ⟨_, _, _, _, _, rfl, _⟩ := h
    rfl
  · obtain ⟨a, rs, ps, p, p', rfl, h, ep, ep', q⟩ := h
    refine ⟨_, (pss_cons (ps_asg (pe_ix ix_tup (pv 0) pe_int (fun _ _ => rfl)) (pg_tup rfl (pgs_cons (pg_name (i := 1) sc_possible_days.nd rfl (Or.inl rfl)) (pgs_cons (pg_name (i := 2) sc_possible_days.nd rfl (Or.inl rfl)) pgs_nil))))
      (pss_cons (ps_asg (pe_ix ix_tup (pv 0) (pe_un un_neg pe_int) (fun _ _ => rfl)) (pg_tup rfl (pgs_cons (pg_name (i := 3) sc_possible_days.nd rfl (Or.inl rfl)) (pgs_cons (pg_name (i := 4) sc_possible_days.nd rfl (Or.inl rfl)) pgs_nil))))
      (pss_cons (ps_set (i := 5) sc_possible_days.nd rfl (Or.inl rfl) (pe_op op_fdiv (pe_op op_sub (pv 4) (pv 2)) (pe_op op_sub (pv 3) (pv 1))))
      (pss_one (ps_ret (pe_lc (own := [("number", 6)]) (g := gName 6) (by rfl) sc_possible_days.nd (pi_tup (pe_tup (pa_cons (pe_op op_sub (pv 5) pe_int) (pa_cons (pv 5) pa_nil)))) (blkOk_by (own := [("number", 6)]) (N := ["seen", "year", "day", "last_year", "last_day", "most", "number"]) (sc := defScope s_possible_days) (by decide +kernel)) (fun _ _ _ _ _ => (pg_name (i := 6) sc_possible_days.nd rfl (Or.inl rfl))) (fun _ _ _ _ _ => (pts_one (pt_chain op_le op_le pe_int (pv 6) (pe_glob (v := .int 400) rfl T.c_MOST_DAYS ⟨_, rfl⟩)))) (fun _ _ _ _ _ => (pv 6)))))))), ?_⟩
    have few := h.ok.few
    have len := h.len
    have lt : p.1 < p'.1 := h.ok.next (by omega) ep ep'
    have bp := h.ok.bd p (List.mem_of_getElem? ep)
    have bp' := h.ok.bd p' (List.mem_of_getElem? ep')
    obtain ⟨r, er, b, rfl, hb⟩ := h.row ep
    obtain ⟨r', er', b', rfl, hb'⟩ := h.row ep'
    refine ⟨_, rfl, a, rs, 0, _, rfl, rfl, st_of h.at_, at_nat er, b, _, rfl, st_of hb, rfl, _, _, rfl, _, _, rfl, rfl, ?_⟩
    refine ⟨_, rfl, 1, rfl, a, rs, -1, _, rfl, rfl, st_of h.at_, last_at (by rw [List.getLast?_eq_getElem?, len]; exact er'), b', _, rfl, st_of hb', rfl, _, _, rfl, _, _, rfl, rfl, ?_⟩
    refine ⟨_, rfl, _, rfl, _, _, rfl, rfl, _, rfl, _, rfl, _, _, rfl, rfl, _, _, rfl, rfl, ⟨by omega, by omega⟩, ?_⟩
    refine ⟨_, rfl, _, _, rfl, rfl, _, rfl, by show 2 ≤ sizeLine; decide, fun t nt => ⟨t, rfl, ⟨_, st_of upd_same⟩, fun D1 hD1 => ?_⟩⟩
    have et : Ex H (upd H t (.tup ([mostD p p' - 1, mostD p p'].map V.int))) := Ex.new nt
    refine lc_tup (xs := [mostD p p' - 1, mostD p p'].map V.int) (Cw (upd H t (.tup ([mostD p p' - 1, mostD p p'].map V.int))) (fun i => (fun n : Int => decide (1 ≤ n) && decide (n ≤ 400)) ([mostD p p' - 1, mostD p p'][i]?.getD 0)) (fun i => .int ([mostD p p' - 1, mostD p p'][i]?.getD 0)) D1) ⟨hD1, Ex.new hD1, upd_same⟩ (fun _ H' _ c => st_of (c.2.1 _ _ upd_same)) (fun i x H' hi c => ?_) (fun H3 c => ?_)
    · rw [List.getElem?_map] at hi
      cases en : [mostD p p' - 1, mostD p p'][i]? with
      | none => rw [en] at hi; cases hi
      | some n =>
        rw [en] at hi
        cases hi
        have i2 : i < 2 := (List.getElem?_eq_some_iff.mp en).1
        refine ⟨rfl, cw_turn c (by omega) (fun Ha ea Qa qa => ?_) fun _ Ha ea Qa qa => ⟨_, rfl, ?_⟩⟩
        · refine ⟨_, rfl, _, _, rfl, rfl, _, rfl, ?_⟩
          rw [en] at qa
          have qa := qa Ha (Ex.refl Ha)
          by_cases l1 : 1 ≤ n
          · rw [if_pos (decide_eq_true l1)]
            refine ⟨_, _, rfl, rfl, _, rfl, ?_⟩
            have z : Qa (decide (1 ≤ n) && decide (n ≤ 400)) Ha := qa
            rw [decide_eq_true l1, Bool.true_and] at z
            exact z
          · rw [if_neg (by rw [decide_eq_false l1]; decide)]
            have z : Qa (decide (1 ≤ n) && decide (n ≤ 400)) Ha := qa
            rw [decide_eq_false l1, Bool.false_and] at z
            exact ⟨_, rfl, z⟩
        · rw [en] at qa
          exact qa Ha (Ex.refl Ha)
    · obtain ⟨_, e3, h3⟩ := c
      rw [List.length_map, given_pick [mostD p p' - 1, mostD p p'] fun n : Int => decide (1 ≤ n) && decide (n ≤ 400)] at h3
      exact q D1 H3 (fresh_back et hD1) (et.trans e3) h3
def spShifts : Sp := fun vs H Q _ => ∃ a rs ps, ∃ D T B : Int, vs = [.ref a, .int D, .int T, .int B] ∧ Seen H a rs ps ∧ (1 ≤ D ∧ D ≤ 400) ∧ (0 ≤ T ∧ T < B) ∧ (1 ≤ B ∧ B ≤ 60) ∧ ∀ l H', H l = none → Ex H H' → H' l = some (.lst (rgV (lowS ps D T B) (endS ps D T B))) → Q (.ref l) H'
theorem ok_possible_shifts (T : Txt K mg) : FnOk P w K mg base CX0 2 T.possible_shifts.f T.possible_shifts.fd ["seen", "days", "top", "bottom"] spShifts := by
  have G_step_of : FnOk P w K mg base CX0 1 T.step_of.f T.step_of.fd ["land"] spStep := ok_step_of T
  refine T.possible_shifts.F.ok sc_possible_shifts (fun vs H Q E h => ?_) (fun cdv A outer s H vs Q E hr h => ?_)
  · obtain ⟨_, _, _, _, _, _, rfl, _⟩ := h
    rfl
  · obtain ⟨a, rs, ps, D, T1, B, rfl, h, r1, r2, r3, q⟩ := h
    refine ⟨_, (pss_cons (ps_set (i := 4) sc_possible_shifts.nd rfl (Or.inr rfl) (pe_call G_step_of (hr.mono (by omega)) (by rfl) T.step_of.g T.step_of.F.kp T.step_of.b .nil pass0 (pa_cons (pe_tup (pa_cons (pv 1) (pa_cons (pv 2) (pa_cons (pv 3) (pa_cons pe_int pa_nil))))) pa_nil)))
      (pss_cons (ps_setLc (i := 5) (own := [("year", 6), ("day", 7)]) (g := gTup K 2 (gCons (gName 6) (gCons (gName 7) gNil))) (by rfl) sc_possible_shifts.nd rfl rfl (sw_true rfl rfl rfl (by decide +kernel)) (pi_tup (pv 0)) (blkOk_by (own := [("year", 6), ("day", 7)]) (N := ["seen", "days", "top", "bottom", "step", "leasts", "year", "day"]) (sc := defScope s_possible_shifts) (by decide +kernel)) (fun _ _ _ _ _ => (pg_tup rfl (pgs_cons (pg_name (i := 6) sc_possible_shifts.nd rfl (Or.inl rfl)) (pgs_cons (pg_name (i := 7) sc_possible_shifts.nd rfl (Or.inl rfl)) pgs_nil)))) (fun _ _ _ _ _ => pts_nil) (fun _ _ _ _ _ => (pe_op op_sub (pe_op op_mul (pv 7) (pv 3)) (pe_op op_mul (pv 4) (pv 6)))))
      (pss_one (ps_ret (pe_listRg rfl (by rfl) T.b_list (prg_2 (by rfl) T.range (pe_callB (cr_max rfl) (by rfl) T.max (by decide +kernel) (pa_cons (pv 5) pa_nil)) (pe_op op_add (pe_callB (cr_min rfl) (by rfl) T.min (by decide +kernel) (pa_cons (pv 5) pa_nil)) (pv 3)))))))), ?_⟩
    have few := h.ok.few
    have len := h.len
    have sb := step_bd r1 r2 r3
    refine ⟨_, rfl, _, rfl, _, rfl, by show 4 ≤ sizeLine; decide, fun t nt => ?_⟩
    have et : Ex H (upd H t (.tup [.int D, .int T1, .int B, .int 0])) := Ex.new nt
    refine ⟨_, D, T1, B, 0, rfl, ⟨t, rfl, upd_same, r1, r2, r3, by decide, by decide⟩, fun H1 e1 => ?_⟩
    have e01 := et.trans e1
    have h1 := h.ex e01
    refine ⟨_, rfl, a, rfl, ⟨_, st_of h1.at_⟩, fun D1 hD1 => ?_⟩
    refine lc_tup (xs := rs) (Cw H1 (fun _ => true) (fun i => .int (leastS D T1 B (ps[i]?.getD (0, 0)))) D1) ⟨hD1, Ex.new hD1, upd_same⟩ (fun _ H' _ c => st_of (c.2.1 _ _ h1.at_)) (fun i x H' hi c => ?_) (fun H2 c => ?_)
    · obtain ⟨p, ep, hp⟩ := h1.each _ _ hi
      have lt := (List.getElem?_eq_some_iff.mp hi).1
      have bp := h.ok.bd p (List.mem_of_getElem? ep)
      obtain ⟨b, rfl, hb⟩ := hp
      refine ⟨b, _, rfl, st_of (c.2.1 _ _ hb), rfl, _, _, rfl, _, _, rfl, rfl, rfl, cw_turn c (by omega) (fun Ha ea Qa qa => qa Ha (Ex.refl Ha)) fun _ Ha ea Qa qa => ?_⟩
      rw [ep] at qa
      exact ⟨_, rfl, _, rfl, _, _, rfl, rfl, cm_l (by omega), _, rfl, _, rfl, _, _, rfl, rfl, cm_l (by omega), _, _, rfl, rfl, qa Ha (Ex.refl Ha)⟩
    obtain ⟨_, e2, h2⟩ := c
    rw [len, given_ints (p := fun _ => true) (g := fun i => leastS D T1 B (ps[i]?.getD (0, 0))), List.filter_eq_self.mpr fun _ _ => rfl, range_map ps (0, 0) (leastS D T1 B)] at h2
    have pos : 0 < (ps.map (leastS D T1 B)).length := by rw [List.length_map]; omega
    have all : ∀ y ∈ ps.map (leastS D T1 B), -400000000 ≤ y ∧ y ≤ 400000000 := fun y hy => by
      obtain ⟨p, hp, rfl⟩ := List.mem_map.mp hy
      exact least_bd r1 r2 r3 (h.ok.bd p hp)
    refine ⟨_, rfl, D1, _, rfl, sq_of h2, pos, fun m hm hle => ⟨_, rfl, D1, _, rfl, sq_of h2, pos, fun m' hm' hle' => ⟨_, rfl, _, _, rfl, rfl, _, _, rfl, rfl, ?_⟩⟩⟩
    have b1 := all m hm
    have b2 := all m' hm'
    rw [show m = lowS ps D T1 B from mx_is hm hle, show m' + B = endS ps D T1 B from congrArg (· + B) (mn_is hm' hle')]
    have c1 : -400000000 ≤ lowS ps D T1 B ∧ lowS ps D T1 B ≤ 400000000 := by unfold lowS; rw [← mx_is hm hle]; exact b1
    have c2 : -400000000 ≤ endS ps D T1 B ∧ endS ps D T1 B ≤ 400000060 := by unfold endS; rw [← mn_is hm' hle']; omega
    refine ⟨⟨by omega, by omega, by omega, by omega, ?_⟩, fun l nl => ?_⟩
    · have le := hle' m hm
      have := mx_is hm hle
      have := mn_is hm' hle'
      unfold lowS endS
      omega
    have e02 := e01.trans e2
    exact q l _ (fresh_back e02 nl) (e02.trans (Ex.new nl)) upd_same
end

/-! ### lands told back -/
inductive TupsAt (H : Hp) : List V → List (List Int) → Prop
  | nil : TupsAt H [] []
  | cons {a ns rs L} : H a = some (.tup (ns.map V.int)) → TupsAt H rs L → TupsAt H (.ref a :: rs) (ns :: L)
section
variable {H H' H0 : Hp} {rs : List V} {L : List (List Int)} {D : Addr}
theorem TupsAt.len (h : TupsAt H rs L) : rs.length = L.length := by
  induction h with
  | nil => rfl
  | cons _ _ ih => simp [ih]
theorem TupsAt.but {zs : List V} (h : TupsAt H rs L) (hD : H D = some (.lst zs)) (k : ExD D H H') : TupsAt H' rs L := by
  induction h with
  | nil => exact .nil
  | cons a _ ih => exact .cons (k _ _ (tup_ne_lst a hD) a) ih
theorem TupsAt.snoc (h : TupsAt H rs L) {a : Addr} {ns : List Int} (x : H a = some (.tup (ns.map V.int))) : TupsAt H (rs ++ [.ref a]) (L ++ [ns]) := by
  induction h with
  | nil => exact .cons x .nil
  | cons a _ ih => exact .cons a ih
/-- in the list at D stand the tuples L; all else is as it was -/
structure Acc (H0 : Hp) (D : Addr) (L : List (List Int)) (H : Hp) : Prop where
  ex : ExD D H0 H
  at_ : ∃ rs, H D = some (.lst rs) ∧ TupsAt H rs L
theorem Acc.more {L : List (List Int)} {zs : List V} (h : H D = some (.lst zs)) (a : Acc H0 D L H) (e : Ex H H') : Acc H0 D L H' := by
  obtain ⟨rs, hr, ht⟩ := a.at_
  exact ⟨a.ex.trans (ExD.of e), rs, e _ _ hr, ht.but hr (ExD.of e)⟩
theorem Acc.mono (a : Acc H0 D L H) (e : Ex H H') : Acc H0 D L H' := let ⟨_, hr, _⟩ := a.at_; Acc.more hr a e
theorem Acc.on {H1 : Hp} (k : ExD D H0 H1) (a : Acc H1 D L H) : Acc H0 D L H := ⟨k.trans a.ex, a.at_⟩
theorem Acc.base (a : Acc H0 D L H) : Acc H D L H := ⟨ExD.refl, a.at_⟩
theorem Acc.push {t : Addr} {ns : List Int} (a : Acc H0 D L H) (nt : H t = none) : ∃ had, upd H t (.tup (ns.map V.int)) D = some (.lst had) ∧ had.length = L.length ∧ Acc H0 D (L ++ [ns]) (upd (upd H t (.tup (ns.map V.int))) D (.lst (had ++ [.ref t]))) := by
  obtain ⟨rs, hr, ht⟩ := a.at_
  have e : Ex H (upd H t (.tup (ns.map V.int))) := Ex.new nt
  have tD : t ≠ D := fun z => by rw [z, hr] at nt; cases nt
  refine ⟨rs, e _ _ hr, ht.len, ?_, rs ++ [.ref t], upd_same, ?_⟩
  · exact (a.ex.trans (ExD.of e)).trans ExD.upd
  · exact TupsAt.snoc ((ht.but hr (ExD.of e)).but (e _ _ hr) ExD.upd) ((upd_ne tD).trans upd_same)
end
/-- a walk whose turn i adds the tuples B i -/
theorem turns_flat {J : It} {n : Nat} {G : Hp → Prop} {Y : Nat → Hp → V → Hp → Prop} (w : Walk J n G Y) {g : TG} {tt : TT} {r : TR} {vs : List Nat} {D : Addr} {σ : L2.St} {H0 H : Hp} {Q : Hp → Prop} (B : Nat → List (List Int)) (pre : List (List Int))
    (small : pre.length + ((List.range n).flatMap B).length < 40000) (h0 : Acc H0 D pre H) (hG : ∀ H', ExD D H0 H' → G H')
    (hs : ∀ i x H1 H2, i < n → (pre ++ (List.range i).flatMap B).length + (B i).length < 40000 → Acc H0 D (pre ++ (List.range i).flatMap B) H1 → Y i H1 x H2 → rTurn g tt r vs D σ x H2 (Acc H0 D (pre ++ (List.range i).flatMap B ++ B i)))
    (hd : ∀ H', Acc H0 D (pre ++ (List.range n).flatMap B) H' → Q H') : rTurns J g tt r vs D σ H Q := by
  refine walk_in w (body := fun x H' N => rTurn g tt r vs D σ x H' N) (fun i H' => Acc H0 D (pre ++ (List.range i).flatMap B) H') (by simpa using h0) (fun i H' _ a => hG H' a.ex) (fun i x H1 H2 hi a y => ?_) hd
  have step : pre ++ (List.range (i + 1)).flatMap B = pre ++ (List.range i).flatMap B ++ B i := by
    rw [List.range_succ, List.flatMap_append, List.append_assoc]
    simp
  rw [step]
  refine hs i x H1 H2 hi ?_ a y
  have le : ((List.range (i + 1)).flatMap B).length ≤ ((List.range n).flatMap B).length := by
    obtain ⟨k, rfl⟩ : ∃ k, n = i + 1 + k := ⟨n - (i + 1), by omega⟩
    rw [show List.range (i + 1 + k) = _ from List.range_add, List.flatMap_append, List.length_append]
    omega
  rw [← List.length_append, ← step, List.length_append]
  omega
def landsS (ps : List (Int × Int)) (D T B : Int) : List (List Int) := (List.range (endS ps D T B - lowS ps D T B).toNat).flatMap fun k : Nat => [[D, T, B, lowS ps D T B + (k : Int)]]
def landsT (ps : List (Int × Int)) (D : Int) (b t : Nat) : List (List Int) := if Nat.gcd t b = 1 then landsS ps D t b else []
def landsB (ps : List (Int × Int)) (D : Int) (b : Nat) : List (List Int) := (List.range (1 + b)).flatMap (landsT ps D (1 + b))
def landsD (ps : List (Int × Int)) (m : Nat) (D : Int) : List (List Int) := (List.range m).flatMap (landsB ps D)
def landsAll (ps : List (Int × Int)) (p q : Int × Int) (m : Nat) : List (List Int) := (List.range (possD p q).length).flatMap fun i => landsD ps m ((possD p q)[i]?.getD 0)
section
variable {P : Program} {w : World} {K : PySem.W.Frag} {mg : Str → Option Value} {base : Heap}
def spLandsOf : Sp := fun vs H Q _ => ∃ a rs ps p q, ∃ m : Nat, vs = [.ref a, .int m] ∧ Seen H a rs ps ∧ ps[0]? = some p ∧ ps[ps.length - 1]? = some q ∧ (1 ≤ m ∧ m ≤ 12) ∧ (landsAll ps p q m).length < 2 ∧
  ∀ l rs' H', H l = none → Ex H H' → H' l = some (.lst rs') → TupsAt H' rs' (landsAll ps p q m) → Q (.ref l) H'
theorem ok_lands_of (T : Txt K mg) : FnOk P w K mg base CX0 6 T.lands_of.f T.lands_of.fd ["seen", "most"] spLandsOf := by
  have G_need_seen : FnOk P w K mg base CX0 5 T.need_seen.f T.need_seen.fd ["thing"] spNeedSeen := ok_need_seen T
  have G_need_most : FnOk P w K mg base CX0 3 T.need_most.f T.need_most.fd ["thing"] spMost := ok_need_most T
  have G_possible_days : FnOk P w K mg base CX0 1 T.possible_days.f T.possible_days.fd ["seen"] spPossD := ok_possible_days T
  have G_possible_shifts : FnOk P w K mg base CX0 2 T.possible_shifts.f T.possible_shifts.fd ["seen", "days", "top", "bottom"] spShifts := ok_possible_shifts T
  have G_common_measure : FnOk P w K mg base CX0 1 T.common_measure.f T.common_measure.fd ["one", "other"] spGcd := ok_common_measure T
  refine T.lands_of.F.ok sc_lands_of (fun vs H Q E h => ?_) (fun cdv A outer s H vs Q E hr h => ?_)
  · obtain ⟨_, _, _, _, _, _, rfl, _⟩ := h
    rfl
  · obtain ⟨a, rs, ps, p, p', m, rfl, h, ep, ep', hm, short, q⟩ := h
    refine ⟨_, (pss_cons (ps_expr (pe_call G_need_seen (hr.mono (by omega)) (by rfl) T.need_seen.g T.need_seen.F.kp T.need_seen.b .nil pass0 (pa_cons (pv 0) pa_nil)))
      (pss_cons (ps_expr (pe_call G_need_most (hr.mono (by omega)) (by rfl) T.need_most.g T.need_most.F.kp T.need_most.b .nil pass0 (pa_cons (pv 1) pa_nil)))
      (pss_one (ps_ret (pe_callB cr_sort1 (by rfl) T.sorted (by decide +kernel) (pa_cons (pe_deep (own := [("days", 2), ("bottom", 3), ("top", 4), ("shift", 5)]) (g := gName 2) sc_lands_of.nd (brings_calm rfl (pi_list (pe_call G_possible_days (hr.mono (by omega)) (by rfl) T.possible_days.g T.possible_days.F.kp T.possible_days.b .nil pass0 (pa_cons (pv 0) pa_nil)))) (blkOk_by (own := [("days", 2), ("bottom", 3), ("top", 4), ("shift", 5)]) (N := ["seen", "most", "days", "bottom", "top", "shift"]) (sc := defScope s_lands_of) (by decide +kernel)) (fun _ _ _ _ _ => (pg_name (i := 2) sc_lands_of.nd rfl (Or.inl rfl))) (fun _ _ _ _ _ => pts_nil) (fun _ _ _ _ _ => (rest_for (vs := [3, 4, 5]) (g := gName 3) rfl rfl (fun _ e => by obtain rfl := Option.some.inj e; exact ⟨rfl, fun _ => rfl⟩) (brings_calm rfl (pi_range2 rfl T.range (pa_cons pe_int (pa_cons (pe_op op_add (pv 1) pe_int) pa_nil)))) (pg_name (i := 3) sc_lands_of.nd rfl (Or.inl rfl)) pts_nil (rest_for (vs := [4, 5]) (g := gName 4) rfl rfl (fun _ e => by obtain rfl := Option.some.inj e; exact ⟨rfl, fun _ => rfl⟩) (brings_calm rfl (pi_range1 rfl T.range (pa_cons (pv 3) pa_nil))) (pg_name (i := 4) sc_lands_of.nd rfl (Or.inl rfl)) (pts_one (pt_cmpR op_eq (pe_call G_common_measure (hr.mono (by omega)) (by rfl) T.common_measure.g T.common_measure.F.kp T.common_measure.b .nil pass0 (pa_cons (pv 4) (pa_cons (pv 3) pa_nil))) pe_int (nomark _))) (rest_for (vs := [5]) (g := gName 5) rfl rfl (fun _ e => by cases e) (brings_calm rfl (show PI _ _ _ (iList K _) from (pi_list (pe_call G_possible_shifts (hr.mono (by omega)) (by rfl) T.possible_shifts.g T.possible_shifts.F.kp T.possible_shifts.b .nil pass0 (pa_cons (pv 0) (pa_cons (pv 2) (pa_cons (pv 4) (pa_cons (pv 3) pa_nil)))))))) (pg_name (i := 5) sc_lands_of.nd rfl (Or.inl rfl)) pts_nil (rest_end rfl rfl (pe_tup (pa_cons (pv 2) (pa_cons (pv 4) (pa_cons (pv 3) (pa_cons (pv 5) pa_nil)))))) (by decide)) (by decide)) (by decide))) (by decide) (fun _ e => by obtain rfl := Option.some.inj e; exact ⟨rfl, fun _ _ => rfl⟩)) pa_nil)))))), ?_⟩
    refine ⟨_, rfl, a, rs, ps, rfl, h, fun H1 e1 => ⟨_, rfl, m, rfl, ⟨by omega, by omega⟩, fun H2 e2 => ?_⟩⟩
    have e12 := e1.trans e2
    have h2 := h.ex e12
    refine ⟨_, rfl, a, rs, ps, p, p', rfl, h2, ep, ep', fun l H3 nl e3 hl => ⟨l, rfl, ⟨_, sq_of hl⟩, fun D hD => ?_⟩⟩
    have h3 := h2.ex e3
    have lD : l ≠ D := fun z => by rw [z, hD] at hl; cases hl
    have aD : a ≠ D := fun z => by rw [← z, h3.at_] at hD; cases hD
    have seen : ∀ {H'}, ExD D H3 H' → Seen H' a rs ps := fun {H'} k => ⟨k _ _ aD h3.at_, h3.len, fun i r z => by
      obtain ⟨p, e1, b, e2, e3⟩ := h3.each i r z
      exact ⟨p, e1, b, e2, k _ _ (fun z => by rw [z, hD] at e3; cases e3) e3⟩, h3.ok⟩
    have wl := walk_list (K := K) (a := l) (xs := (possD p p').map V.int)
    rw [List.length_map] at wl
    have small : (landsAll ps p p' m).length < 40000 := by omega
    refine turns_flat (H0 := H3) (σ := [some (.ref a), some (.int m), none, none, none, none]) wl (fun i => landsD ps m ((possD p p')[i]?.getD 0)) [] (by rw [List.length_nil, Nat.zero_add]; exact small) ⟨ExD.upd, [], upd_same, .nil⟩ (fun H' k => sq_of (k _ _ lD hl)) ?_ ?_
    · rintro i x Ha Hb hi sm acc ⟨rfl, ex⟩
      rw [List.getElem?_map] at ex
      cases en : (possD p p')[i]? with
      | none => rw [en] at ex; cases ex
      | some d =>
        rw [en] at ex
        cases ex
        have hd : 1 ≤ d ∧ d ≤ 400 := by
          have := List.mem_of_getElem? en
          unfold possD at this
          have := (List.mem_filter.mp this).2
          simpa using this
        rw [en] at sm
        show rTurn _ _ _ _ _ _ _ _ (Acc H3 D ([] ++ (List.range i).flatMap _ ++ landsD ps m d))
        generalize ([] ++ (List.range i).flatMap fun i => landsD ps m ((possD p p')[i]?.getD 0)) = pre1 at acc sm ⊢
        replace sm : pre1.length + (landsD ps m d).length < 40000 := sm
        refine ⟨rfl, _, rfl, _, _, rfl, rfl, 1, (m : Int) + 1, rfl, ⟨by omega, by omega, by omega, by omega⟩, ?_⟩
        show rTurns (Itr 1 ((m : Int) + 1 - 1).toNat) _ _ _ _ _ _ _ _
        rw [show ((m : Int) + 1 - 1).toNat = m by omega]
        refine turns_flat (H0 := H3) (σ := [some (.ref a), some (.int m), some (.int d), none, none, none]) (walk_range (lo := 1) (n := m)) (landsB ps d) pre1 sm acc (fun _ _ => True.intro) ?_ fun H' z => z
        rintro b x Hc Hd hb sm2 acc2 ⟨rfl, rfl⟩
        show rTurn _ _ _ _ _ _ (V.int (1 + (b : Int))) _ _
        rw [show (1 : Int) + (b : Int) = ((1 + b : Nat) : Int) by omega]
        generalize pre1 ++ (List.range b).flatMap (landsB ps d) = pre2 at acc2 sm2 ⊢
        refine ⟨rfl, _, rfl, ((1 + b : Nat) : Int), rfl, by omega, by omega, ?_⟩
        show rTurns (Itr 0 ((1 + b : Nat) : Int).toNat) _ _ _ _ _ _ _ _
        rw [Int.toNat_natCast]
        refine turns_flat (H0 := H3) (σ := [some (.ref a), some (.int m), some (.int d), some (.int ((1 + b : Nat) : Int)), none, none]) (walk_range (lo := 0) (n := 1 + b)) (landsT ps d (1 + b)) pre2 sm2 acc2 (fun _ _ => True.intro) ?_ fun H' z => z
        rintro t x He Hf ht sm3 acc3 ⟨rfl, rfl⟩
        show rTurn _ _ _ _ _ _ (V.int (0 + (t : Int))) _ _
        rw [show (0 : Int) + (t : Int) = (t : Int) by omega]
        generalize pre2 ++ (List.range t).flatMap (landsT ps d (1 + b)) = pre3 at acc3 sm3 ⊢
        refine ⟨rfl, _, rfl, _, rfl, t, 1 + b, rfl, fun H5 e5 => ⟨rfl, _, rfl, ?_⟩⟩
        have acc5 := acc3.mono e5
        unfold landsT at sm3 ⊢
        by_cases g : Nat.gcd t (1 + b) = 1
        · rw [if_pos g] at sm3 ⊢
          rw [show decide (V.int ((Nat.gcd t (1 + b) : Nat) : Int) = V.int 1) = true from decide_eq_true (by rw [g]; rfl)]
          refine ⟨_, rfl, _, rfl, _, rfl, _, rfl, a, rs, ps, d, t, ((1 + b : Nat) : Int), rfl, seen acc5.ex, hd, ⟨by omega, by omega⟩, ⟨by omega, by omega⟩, fun l4 H6 n4 e6 h6 => ⟨l4, rfl, ⟨_, sq_of h6⟩, ?_⟩⟩
          have wl4 := walk_list (K := K) (a := l4) (xs := rgV (lowS ps d t (1 + b : Nat)) (endS ps d t (1 + b : Nat)))
          rw [rgV_length] at wl4
          have acc6 := acc5.mono e6
          have l4D : l4 ≠ D := fun z => by
            obtain ⟨_, z1, _⟩ := acc5.at_
            rw [z, z1] at n4
            cases n4
          refine turns_flat (H0 := H6) (σ := [some (.ref a), some (.int m), some (.int d), some (.int ((1 + b : Nat) : Int)), some (.int (t : Int)), none]) wl4 (fun k : Nat => [[d, (t : Int), ((1 + b : Nat) : Int), lowS ps d t (1 + b : Nat) + (k : Int)]]) pre3 sm3 acc6.base (fun H' k => sq_of (k _ _ l4D h6)) ?_ fun H' z => z.on acc6.ex
          rintro k x Hg Hh hk sm4 acc7 ⟨rfl, ex⟩
          generalize (pre3 ++ (List.range k).flatMap fun k : Nat => [[d, (t : Int), ((1 + b : Nat) : Int), lowS ps d t (1 + b : Nat) + (k : Int)]]) = pre4 at acc7 sm4 ⊢
          unfold rgV at ex
          rw [List.getElem?_map, List.getElem?_range hk] at ex
          cases ex
          refine ⟨rfl, _, rfl, _, rfl, _, rfl, _, rfl, by show 4 ≤ sizeLine; decide, fun tp nt => ?_⟩
          obtain ⟨had, a1, a2, a3⟩ := acc7.push nt (ns := [d, (t : Int), ((1 + b : Nat) : Int), lowS ps d t (1 + b : Nat) + (k : Int)])
          exact ⟨had, a1, by rw [a2]; exact Nat.lt_of_lt_of_le (show pre4.length < 40000 by omega) (by decide), a3⟩
        · rw [if_neg g] at sm3 ⊢
          rw [decide_eq_false (fun z => g (by have := V.int.inj z; omega) : ¬ V.int ((Nat.gcd t (1 + b) : Nat) : Int) = V.int 1)]
          rw [List.append_nil]
          exact acc5
    · intro H4 acc
      have acc : Acc H3 D (landsAll ps p p' m) H4 := acc
      obtain ⟨rs', hr', ht'⟩ := acc.at_
      have e34 : Ex H3 H4 := fun b o e => acc.ex b o (fun z => by rw [z, hD] at e; cases e) e
      have e04 := (e12.trans e3).trans e34
      refine ⟨D, rs', rfl, sq_of hr', by rw [ht'.len]; exact short, fun l5 n5 => ?_⟩
      refine q l5 rs' _ (fresh_back e04 n5) (e04.trans (Ex.new n5)) upd_same (ht'.but hr' (ExD.of (Ex.new n5)))
end

/-! ### lands told back, as many as there are -/
def intV : V → Int
  | .int i => i
  | _ => 0
/-- the numbers of a tuple -/
def numsAt (H : Hp) : V → List Int
  | .ref a => match H a with
    | some (.tup xs) => xs.map intV
    | _ => []
  | _ => []
theorem nums_map (ns : List Int) : (ns.map V.int).map intV = ns := by
  rw [List.map_map]
  exact List.map_id' ns
section
variable {H : Hp} {rs ys : List V} {L : List (List Int)}
theorem TupsAt.read (h : TupsAt H rs L) : L = rs.map (numsAt H) ∧ ∀ r ∈ rs, ∃ a, r = .ref a ∧ H a = some (.tup ((numsAt H r).map V.int)) := by
  induction h with
  | nil => exact ⟨rfl, fun _ z => by cases z⟩
  | @cons a ns rs L e _ ih =>
    have z : numsAt H (.ref a) = ns := by
      unfold numsAt
      simp only [e]
      exact nums_map ns
    refine ⟨by rw [List.map_cons, z, ih.1], fun r hr => ?_⟩
    rcases List.mem_cons.mp hr with same | among
    · subst same
      exact ⟨a, rfl, by rw [z]; exact e⟩
    · exact ih.2 r among
theorem tups_of : ∀ ys : List V, (∀ r ∈ ys, ∃ a, r = .ref a ∧ H a = some (.tup ((numsAt H r).map V.int))) → TupsAt H ys (ys.map (numsAt H))
  | [], _ => .nil
  | y :: ys, h => by
    obtain ⟨a, e, ha⟩ := h y (List.mem_cons_self ..)
    have rest := tups_of ys fun r hr => h r (List.mem_cons_of_mem _ hr)
    subst e
    exact .cons ha rest
end
theorem TupsAt.ex {H H' : Hp} {rs : List V} {L : List (List Int)} (h : TupsAt H rs L) (e : Ex H H') : TupsAt H' rs L := by
  induction h with
  | nil => exact .nil
  | cons a _ ih => exact .cons (e _ _ a) ih
/-- each of the lands has four parts -/
theorem lands_four {ps : List (Int × Int)} {p q : Int × Int} {m : Nat} {x : List Int} (h : x ∈ landsAll ps p q m) : x.length = 4 := by
  unfold landsAll landsD landsB landsT landsS at h
  obtain ⟨_, _, h⟩ := List.mem_flatMap.mp h
  obtain ⟨_, _, h⟩ := List.mem_flatMap.mp h
  obtain ⟨_, _, h⟩ := List.mem_flatMap.mp h
  split at h
  · obtain ⟨_, _, h⟩ := List.mem_flatMap.mp h
    cases List.mem_singleton.mp h
    rfl
  · cases h
section
variable {P : Program} {w : World} {K : PySem.W.Frag} {mg : Str → Option Value} {base : Heap}
def spLandsAll : Sp := fun vs H Q _ => ∃ a rs ps p q, ∃ m : Nat, vs = [.ref a, .int m] ∧ Seen H a rs ps ∧ ps[0]? = some p ∧ ps[ps.length - 1]? = some q ∧ (1 ≤ m ∧ m ≤ 12) ∧ (landsAll ps p q m).length < 40000 ∧
  ∀ l rs' L H', H l = none → Ex H H' → H' l = some (.lst rs') → TupsAt H' rs' L → L.Perm (landsAll ps p q m) → L.Pairwise (fun x y => lexI y x = false) → Q (.ref l) H'
theorem all_lands_of (T : Txt K mg) : FnOk P w K mg base CX0 6 T.lands_of.f T.lands_of.fd ["seen", "most"] spLandsAll := by
  have G_need_seen : FnOk P w K mg base CX0 5 T.need_seen.f T.need_seen.fd ["thing"] spNeedSeen := ok_need_seen T
  have G_need_most : FnOk P w K mg base CX0 3 T.need_most.f T.need_most.fd ["thing"] spMost := ok_need_most T
  have G_possible_days : FnOk P w K mg base CX0 1 T.possible_days.f T.possible_days.fd ["seen"] spPossD := ok_possible_days T
  have G_possible_shifts : FnOk P w K mg base CX0 2 T.possible_shifts.f T.possible_shifts.fd ["seen", "days", "top", "bottom"] spShifts := ok_possible_shifts T
  have G_common_measure : FnOk P w K mg base CX0 1 T.common_measure.f T.common_measure.fd ["one", "other"] spGcd := ok_common_measure T
  refine T.lands_of.F.ok sc_lands_of (fun vs H Q E h => ?_) (fun cdv A outer s H vs Q E hr h => ?_)
  · obtain ⟨_, _, _, _, _, _, rfl, _⟩ := h
    rfl
  · obtain ⟨a, rs, ps, p, p', m, rfl, h, ep, ep', hm, small, q⟩ := h
    refine ⟨_, (pss_cons (ps_expr (pe_call G_need_seen (hr.mono (by omega)) (by rfl) T.need_seen.g T.need_seen.F.kp T.need_seen.b .nil pass0 (pa_cons (pv 0) pa_nil)))
      (pss_cons (ps_expr (pe_call G_need_most (hr.mono (by omega)) (by rfl) T.need_most.g T.need_most.F.kp T.need_most.b .nil pass0 (pa_cons (pv 1) pa_nil)))
      (pss_one (ps_ret (pe_callB (cr_sortL (d := 4) (by decide)) (by rfl) T.sorted (by decide +kernel) (pa_cons (pe_deep (own := [("days", 2), ("bottom", 3), ("top", 4), ("shift", 5)]) (g := gName 2) sc_lands_of.nd (brings_calm rfl (pi_list (pe_call G_possible_days (hr.mono (by omega)) (by rfl) T.possible_days.g T.possible_days.F.kp T.possible_days.b .nil pass0 (pa_cons (pv 0) pa_nil)))) (blkOk_by (own := [("days", 2), ("bottom", 3), ("top", 4), ("shift", 5)]) (N := ["seen", "most", "days", "bottom", "top", "shift"]) (sc := defScope s_lands_of) (by decide +kernel)) (fun _ _ _ _ _ => (pg_name (i := 2) sc_lands_of.nd rfl (Or.inl rfl))) (fun _ _ _ _ _ => pts_nil) (fun _ _ _ _ _ => (rest_for (vs := [3, 4, 5]) (g := gName 3) rfl rfl (fun _ e => by obtain rfl := Option.some.inj e; exact ⟨rfl, fun _ => rfl⟩) (brings_calm rfl (pi_range2 rfl T.range (pa_cons pe_int (pa_cons (pe_op op_add (pv 1) pe_int) pa_nil)))) (pg_name (i := 3) sc_lands_of.nd rfl (Or.inl rfl)) pts_nil (rest_for (vs := [4, 5]) (g := gName 4) rfl rfl (fun _ e => by obtain rfl := Option.some.inj e; exact ⟨rfl, fun _ => rfl⟩) (brings_calm rfl (pi_range1 rfl T.range (pa_cons (pv 3) pa_nil))) (pg_name (i := 4) sc_lands_of.nd rfl (Or.inl rfl)) (pts_one (pt_cmpR op_eq (pe_call G_common_measure (hr.mono (by omega)) (by rfl) T.common_measure.g T.common_measure.F.kp T.common_measure.b .nil pass0 (pa_cons (pv 4) (pa_cons (pv 3) pa_nil))) pe_int (nomark _))) (rest_for (vs := [5]) (g := gName 5) rfl rfl (fun _ e => by cases e) (brings_calm rfl (show PI _ _ _ (iList K _) from (pi_list (pe_call G_possible_shifts (hr.mono (by omega)) (by rfl) T.possible_shifts.g T.possible_shifts.F.kp T.possible_shifts.b .nil pass0 (pa_cons (pv 0) (pa_cons (pv 2) (pa_cons (pv 4) (pa_cons (pv 3) pa_nil)))))))) (pg_name (i := 5) sc_lands_of.nd rfl (Or.inl rfl)) pts_nil (rest_end rfl rfl (pe_tup (pa_cons (pv 2) (pa_cons (pv 4) (pa_cons (pv 3) (pa_cons (pv 5) pa_nil)))))) (by decide)) (by decide)) (by decide))) (by decide) (fun _ e => by obtain rfl := Option.some.inj e; exact ⟨rfl, fun _ _ => rfl⟩)) pa_nil)))))), ?_⟩
    refine ⟨_, rfl, a, rs, ps, rfl, h, fun H1 e1 => ⟨_, rfl, m, rfl, ⟨by omega, by omega⟩, fun H2 e2 => ?_⟩⟩
    have e12 := e1.trans e2
    have h2 := h.ex e12
    refine ⟨_, rfl, a, rs, ps, p, p', rfl, h2, ep, ep', fun l H3 nl e3 hl => ⟨l, rfl, ⟨_, sq_of hl⟩, fun D hD => ?_⟩⟩
    have h3 := h2.ex e3
    have lD : l ≠ D := fun z => by rw [z, hD] at hl; cases hl
    have aD : a ≠ D := fun z => by rw [← z, h3.at_] at hD; cases hD
    have seen : ∀ {H'}, ExD D H3 H' → Seen H' a rs ps := fun {H'} k => ⟨k _ _ aD h3.at_, h3.len, fun i r z => by
      obtain ⟨p, e1, b, e2, e3⟩ := h3.each i r z
      exact ⟨p, e1, b, e2, k _ _ (fun z => by rw [z, hD] at e3; cases e3) e3⟩, h3.ok⟩
    have wl := walk_list (K := K) (a := l) (xs := (possD p p').map V.int)
    rw [List.length_map] at wl
    refine turns_flat (H0 := H3) (σ := [some (.ref a), some (.int m), none, none, none, none]) wl (fun i => landsD ps m ((possD p p')[i]?.getD 0)) [] (by rw [List.length_nil, Nat.zero_add]; exact small) ⟨ExD.upd, [], upd_same, .nil⟩ (fun H' k => sq_of (k _ _ lD hl)) ?_ ?_
    · rintro i x Ha Hb hi sm acc ⟨rfl, ex⟩
      rw [List.getElem?_map] at ex
      cases en : (possD p p')[i]? with
      | none => rw [en] at ex; cases ex
      | some d =>
        rw [en] at ex
        cases ex
        have hd : 1 ≤ d ∧ d ≤ 400 := by
          have := List.mem_of_getElem? en
          unfold possD at this
          have := (List.mem_filter.mp this).2
          simpa using this
        rw [en] at sm
        show rTurn _ _ _ _ _ _ _ _ (Acc H3 D ([] ++ (List.range i).flatMap _ ++ landsD ps m d))
        generalize ([] ++ (List.range i).flatMap fun i => landsD ps m ((possD p p')[i]?.getD 0)) = pre1 at acc sm ⊢
        replace sm : pre1.length + (landsD ps m d).length < 40000 := sm
        refine ⟨rfl, _, rfl, _, _, rfl, rfl, 1, (m : Int) + 1, rfl, ⟨by omega, by omega, by omega, by omega⟩, ?_⟩
        show rTurns (Itr 1 ((m : Int) + 1 - 1).toNat) _ _ _ _ _ _ _ _
        rw [show ((m : Int) + 1 - 1).toNat = m by omega]
        refine turns_flat (H0 := H3) (σ := [some (.ref a), some (.int m), some (.int d), none, none, none]) (walk_range (lo := 1) (n := m)) (landsB ps d) pre1 sm acc (fun _ _ => True.intro) ?_ fun H' z => z
        rintro b x Hc Hd hb sm2 acc2 ⟨rfl, rfl⟩
        show rTurn _ _ _ _ _ _ (V.int (1 + (b : Int))) _ _
        rw [show (1 : Int) + (b : Int) = ((1 + b : Nat) : Int) by omega]
        generalize pre1 ++ (List.range b).flatMap (landsB ps d) = pre2 at acc2 sm2 ⊢
        refine ⟨rfl, _, rfl, ((1 + b : Nat) : Int), rfl, by omega, by omega, ?_⟩
        show rTurns (Itr 0 ((1 + b : Nat) : Int).toNat) _ _ _ _ _ _ _ _
        rw [Int.toNat_natCast]
        refine turns_flat (H0 := H3) (σ := [some (.ref a), some (.int m), some (.int d), some (.int ((1 + b : Nat) : Int)), none, none]) (walk_range (lo := 0) (n := 1 + b)) (landsT ps d (1 + b)) pre2 sm2 acc2 (fun _ _ => True.intro) ?_ fun H' z => z
        rintro t x He Hf ht sm3 acc3 ⟨rfl, rfl⟩
        show rTurn _ _ _ _ _ _ (V.int (0 + (t : Int))) _ _
        rw [show (0 : Int) + (t : Int) = (t : Int) by omega]
        generalize pre2 ++ (List.range t).flatMap (landsT ps d (1 + b)) = pre3 at acc3 sm3 ⊢
        refine ⟨rfl, _, rfl, _, rfl, t, 1 + b, rfl, fun H5 e5 => ⟨rfl, _, rfl, ?_⟩⟩
        have acc5 := acc3.mono e5
        unfold landsT at sm3 ⊢
        by_cases g : Nat.gcd t (1 + b) = 1
        · rw [if_pos g] at sm3 ⊢
          rw [show decide (V.int ((Nat.gcd t (1 + b) : Nat) : Int) = V.int 1) = true from decide_eq_true (by rw [g]; rfl)]
          refine ⟨_, rfl, _, rfl, _, rfl, _, rfl, a, rs, ps, d, t, ((1 + b : Nat) : Int), rfl, seen acc5.ex, hd, ⟨by omega, by omega⟩, ⟨by omega, by omega⟩, fun l4 H6 n4 e6 h6 => ⟨l4, rfl, ⟨_, sq_of h6⟩, ?_⟩⟩
          have wl4 := walk_list (K := K) (a := l4) (xs := rgV (lowS ps d t (1 + b : Nat)) (endS ps d t (1 + b : Nat)))
          rw [rgV_length] at wl4
          have acc6 := acc5.mono e6
          have l4D : l4 ≠ D := fun z => by
            obtain ⟨_, z1, _⟩ := acc5.at_
            rw [z, z1] at n4
            cases n4
          refine turns_flat (H0 := H6) (σ := [some (.ref a), some (.int m), some (.int d), some (.int ((1 + b : Nat) : Int)), some (.int (t : Int)), none]) wl4 (fun k : Nat => [[d, (t : Int), ((1 + b : Nat) : Int), lowS ps d t (1 + b : Nat) + (k : Int)]]) pre3 sm3 acc6.base (fun H' k => sq_of (k _ _ l4D h6)) ?_ fun H' z => z.on acc6.ex
          rintro k x Hg Hh hk sm4 acc7 ⟨rfl, ex⟩
          generalize (pre3 ++ (List.range k).flatMap fun k : Nat => [[d, (t : Int), ((1 + b : Nat) : Int), lowS ps d t (1 + b : Nat) + (k : Int)]]) = pre4 at acc7 sm4 ⊢
          unfold rgV at ex
          rw [List.getElem?_map, List.getElem?_range hk] at ex
          cases ex
          refine ⟨rfl, _, rfl, _, rfl, _, rfl, _, rfl, by show 4 ≤ sizeLine; decide, fun tp nt => ?_⟩
          obtain ⟨had, a1, a2, a3⟩ := acc7.push nt (ns := [d, (t : Int), ((1 + b : Nat) : Int), lowS ps d t (1 + b : Nat) + (k : Int)])
          exact ⟨had, a1, by rw [a2]; exact Nat.lt_of_lt_of_le (show pre4.length < 40000 by omega) (by decide), a3⟩
        · rw [if_neg g] at sm3 ⊢
          rw [decide_eq_false (fun z => g (by have := V.int.inj z; omega) : ¬ V.int ((Nat.gcd t (1 + b) : Nat) : Int) = V.int 1)]
          rw [List.append_nil]
          exact acc5
    · intro H4 acc
      have acc : Acc H3 D (landsAll ps p p' m) H4 := acc
      obtain ⟨rs', hr', ht'⟩ := acc.at_
      have e34 : Ex H3 H4 := fun b o e => acc.ex b o (fun z => by rw [z, hD] at e; cases e) e
      have e04 := (e12.trans e3).trans e34
      obtain ⟨eL, each⟩ := ht'.read
      refine ⟨D, rs', rfl, sq_of hr', fun x hx => ?_, fun ys l5 perm up n5 => ?_⟩
      · obtain ⟨b, rfl, hb⟩ := each x hx
        refine ⟨_, ⟨b, rfl, st_of hb⟩, lands_four (ps := ps) (p := p) (q := p') (m := m) ?_⟩
        rw [eL]
        exact List.mem_map_of_mem hx
      have each' : ∀ r ∈ ys, ∃ a, r = .ref a ∧ H4 a = some (.tup ((numsAt H4 r).map V.int)) := fun r hr => each r (perm.mem_iff.mp hr)
      refine q l5 ys (ys.map (numsAt H4)) _ (fresh_back e04 n5) (e04.trans (Ex.new n5)) upd_same ?_ (eL ▸ perm.map _) ?_
      · exact TupsAt.ex (tups_of ys each') (Ex.new n5)
      · refine List.pairwise_map.mpr (List.Pairwise.imp_of_mem (fun {x y} hx hy h => ?_) up)
        obtain ⟨b, e1, h1⟩ := each' x hx
        obtain ⟨c, e2, h2⟩ := each' y hy
        exact h _ _ ⟨b, e1, st_of h1⟩ ⟨c, e2, st_of h2⟩
end

/-! ### the lands that begin told years on told days -/
/-- a row is met: the year begins on its day -/
def meets (D T B S : Int) (p : Int × Int) : Prop := fst D T B S p.1 = p.2
theorem meets_iff {D T B S : Int} {p : Int × Int} (hB : 1 ≤ B) : meets D T B S p ↔ leastS D T B p ≤ S ∧ S < leastS D T B p + B := by
  unfold meets fst leastS
  have d := Int.mul_ediv_add_emod ((D * B + T) * p.1 + S) B
  have m0 := Int.emod_nonneg ((D * B + T) * p.1 + S) (show B ≠ 0 by omega)
  have m1 := Int.emod_lt_of_pos ((D * B + T) * p.1 + S) (show 0 < B by omega)
  constructor
  · intro e
    rw [e, Int.mul_comm B] at d
    omega
  · intro ⟨a, b⟩
    generalize ((D * B + T) * p.1 + S) / B = q at d
    have lo : q * B < (p.2 + 1) * B := by rw [Int.add_mul, Int.one_mul, Int.mul_comm q]; omega
    have hi : p.2 * B < (q + 1) * B := by rw [Int.add_mul, Int.one_mul, Int.mul_comm q]; omega
    have := Int.lt_of_mul_lt_mul_right lo (by omega)
    have := Int.lt_of_mul_lt_mul_right hi (by omega)
    omega
theorem span_iff {ps : List (Int × Int)} {D T B S : Int} (hB : 1 ≤ B) (ne : ps ≠ []) : (lowS ps D T B ≤ S ∧ S < endS ps D T B) ↔ ∀ p ∈ ps, meets D T B S p := by
  have ne' : ps.map (leastS D T B) ≠ [] := fun z => ne (List.map_eq_nil_iff.mp z)
  obtain ⟨a1, a2⟩ := mxL_mem ne'
  obtain ⟨b1, b2⟩ := mnL_mem ne'
  unfold lowS endS
  constructor
  · intro ⟨lo, hi⟩ p hp
    have m := List.mem_map_of_mem (f := leastS D T B) hp
    have x := a2 _ m
    have y := b2 _ m
    exact (meets_iff hB).mpr ⟨by omega, by omega⟩
  · intro all
    obtain ⟨p, hp, ep⟩ := List.mem_map.mp a1
    obtain ⟨q, hq, eq⟩ := List.mem_map.mp b1
    have x := (meets_iff hB).mp (all p hp)
    have y := (meets_iff hB).mp (all q hq)
    omega
/-- what lies between two met rows -/
theorem between {D T B S : Int} {p q : Int × Int} (r2 : 0 ≤ T ∧ T < B) (hp : meets D T B S p) (hq : meets D T B S q) (lt : p.1 < q.1) : D * (q.1 - p.1) ≤ q.2 - p.2 ∧ q.2 - p.2 ≤ (D + 1) * (q.1 - p.1) ∧ -B < (q.2 - p.2) * B - (D * B + T) * (q.1 - p.1) ∧ (q.2 - p.2) * B - (D * B + T) * (q.1 - p.1) < B := by
  have hB : 1 ≤ B := by omega
  obtain ⟨a, b⟩ := (meets_iff hB).mp hp
  obtain ⟨c, d⟩ := (meets_iff hB).mp hq
  unfold leastS at a b c d
  have e : (q.2 - p.2) * B - (D * B + T) * (q.1 - p.1) = (q.2 * B - (D * B + T) * q.1) - (p.2 * B - (D * B + T) * p.1) := by
    rw [Int.sub_mul, Int.mul_sub]
    omega
  have near : -B < (q.2 - p.2) * B - (D * B + T) * (q.1 - p.1) ∧ (q.2 - p.2) * B - (D * B + T) * (q.1 - p.1) < B := by omega
  obtain ⟨n, hn⟩ : ∃ n, q.1 - p.1 = n := ⟨_, rfl⟩
  obtain ⟨k, hk⟩ : ∃ k, q.2 - p.2 = k := ⟨_, rfl⟩
  rw [hn, hk] at near ⊢
  have n1 : 1 ≤ n := by omega
  have split : (D * B + T) * n = D * n * B + T * n := by rw [Int.add_mul, Int.mul_right_comm]
  have t0 : 0 * n ≤ T * n := Int.mul_le_mul_of_nonneg_right r2.1 (by omega)
  have t1 : T * n ≤ (B - 1) * n := Int.mul_le_mul_of_nonneg_right (by omega) (by omega)
  rw [Int.sub_mul, Int.one_mul, Int.mul_comm B n] at t1
  rw [split] at near
  have lo : (D * n) * B < (k + 1) * B := by rw [Int.add_mul k, Int.one_mul]; omega
  have hi : k * B < ((D + 1) * n + 1) * B := by rw [Int.add_mul, Int.add_mul, Int.one_mul, Int.one_mul, Int.add_mul]; omega
  have := Int.lt_of_mul_lt_mul_right lo (by omega)
  have := Int.lt_of_mul_lt_mul_right hi (by omega)
  rw [split]
  exact ⟨by omega, by omega, near⟩
theorem poss_of {D : Int} {p q : Int × Int} (lt : p.1 < q.1) (a : D * (q.1 - p.1) ≤ q.2 - p.2) (b : q.2 - p.2 ≤ (D + 1) * (q.1 - p.1)) (r1 : 1 ≤ D ∧ D ≤ 400) : D ∈ possD p q := by
  unfold possD mostD
  obtain ⟨n, hn⟩ : ∃ n, q.1 - p.1 = n := ⟨_, rfl⟩
  rw [hn] at a b ⊢
  have n1 : 0 < n := by omega
  have lo : D ≤ (q.2 - p.2) / n := (Int.le_ediv_iff_mul_le n1).mpr a
  have hi : (q.2 - p.2) / n < D + 2 := (Int.ediv_lt_iff_lt_mul n1).mpr (by rw [show D + 2 = (D + 1) + 1 by omega, Int.add_mul (D + 1)]; omega)
  refine List.mem_filter.mpr ⟨?_, by rw [decide_eq_true r1.1, decide_eq_true r1.2]; rfl⟩
  simp only [List.mem_cons, List.not_mem_nil, or_false]
  omega
/-- a land is told back: in lowest terms, bottom no more than m, all rows met -/
def Back (ps : List (Int × Int)) (m : Nat) (x : List Int) : Prop := ∃ (D S : Int) (b t : Nat), x = [D, (t : Int), (b : Int), S] ∧ (1 ≤ D ∧ D ≤ 59) ∧ (1 ≤ b ∧ b ≤ m) ∧ t < b ∧ Nat.gcd t b = 1 ∧ ∀ p ∈ ps, meets D t b S p
theorem lands_back {ps : List (Int × Int)} {p q : Int × Int} {m : Nat} (ne : ps ≠ []) (hp : p ∈ ps) (hq : q ∈ ps) (lt : p.1 < q.1) (slope : q.2 - p.2 < 60 * (q.1 - p.1)) (x : List Int) : x ∈ landsAll ps p q m ↔ Back ps m x := by
  unfold landsAll landsD landsB
  constructor
  · intro h
    obtain ⟨i, hi, h⟩ := List.mem_flatMap.mp h
    obtain ⟨b, hb, h⟩ := List.mem_flatMap.mp h
    obtain ⟨t, ht, h⟩ := List.mem_flatMap.mp h
    rw [List.mem_range] at hi hb ht
    unfold landsT at h
    by_cases g : Nat.gcd t (1 + b) = 1
    · rw [if_pos g] at h
      unfold landsS at h
      obtain ⟨k, hk, h⟩ := List.mem_flatMap.mp h
      rw [List.mem_range] at hk
      have hd : (possD p q)[i]?.getD 0 ∈ possD p q := by rw [List.getElem?_eq_getElem hi]; exact List.getElem_mem hi
      generalize (possD p q)[i]?.getD 0 = D at hd h hk
      obtain ⟨hd1, hd2⟩ := List.mem_filter.mp hd
      simp only [Bool.and_eq_true, decide_eq_true_eq] at hd2
      have all := (span_iff (ps := ps) (D := D) (T := t) (B := ((1 + b : Nat) : Int)) (S := lowS ps D t (1 + b : Nat) + k) (by omega) ne).mp ⟨by omega, by omega⟩
      obtain ⟨w1, _, _, _⟩ := between ⟨by omega, by omega⟩ (all p hp) (all q hq) lt
      have d59 : D ≤ 59 := by
        by_cases z : D ≤ 59
        · exact z
        · have := Int.mul_le_mul_of_nonneg_right (show 60 ≤ D by omega) (show 0 ≤ q.1 - p.1 by omega)
          omega
      exact ⟨D, _, 1 + b, t, List.mem_singleton.mp h, ⟨hd2.1, d59⟩, ⟨by omega, by omega⟩, ht, g, all⟩
    · rw [if_neg g] at h
      cases h
  · rintro ⟨D, S, b, t, rfl, hD, hb, ht, g, all⟩
    obtain ⟨w1, w2, _, _⟩ := between (T := (t : Int)) (B := (b : Int)) ⟨by omega, by omega⟩ (all p hp) (all q hq) lt
    have hd := poss_of lt w1 w2 ⟨hD.1, by omega⟩
    obtain ⟨i, hi, ei⟩ := List.getElem_of_mem hd
    obtain ⟨lo, hi2⟩ := (span_iff (ps := ps) (D := D) (T := t) (B := (b : Int)) (S := S) (by omega) ne).mpr all
    refine List.mem_flatMap.mpr ⟨i, List.mem_range.mpr hi, ?_⟩
    rw [List.getElem?_eq_getElem hi, ei]
    refine List.mem_flatMap.mpr ⟨b - 1, List.mem_range.mpr (by omega), List.mem_flatMap.mpr ⟨t, List.mem_range.mpr (by omega), ?_⟩⟩
    rw [show 1 + (b - 1) = b by omega]
    unfold landsT
    rw [if_pos g]
    refine List.mem_flatMap.mpr ⟨(S - lowS ps D t b).toNat, List.mem_range.mpr (by show _ < (endS ps D t b - lowS ps D t b).toNat; omega), ?_⟩
    show [D, (t : Int), (b : Int), S] ∈ [[D, (t : Int), (b : Int), lowS ps D t b + ((S - lowS ps D t b).toNat : Int)]]
    rw [show lowS ps D t b + ((S - lowS ps D t b).toNat : Int) = S by omega]
    exact List.mem_singleton.mpr rfl
/-! ### none twice -/
theorem one_nd' (x : Int) : [x].Nodup := List.pairwise_singleton _ _
theorem flat_once {n : Nat} {f : Nat → List (List Int)} (key : List Int → Int) (c : Nat → Int) (inj : ∀ i j, i < n → j < n → c i = c j → i = j) (told : ∀ i, i < n → ∀ x ∈ f i, key x = c i) (each : ∀ i, i < n → (f i).Nodup) : ((List.range n).flatMap f).Nodup := by
  induction n with
  | zero => exact List.nodup_nil
  | succ n ih =>
    rw [List.range_succ, List.flatMap_append]
    refine List.nodup_append.mpr ⟨ih (fun i j hi hj => inj i j (by omega) (by omega)) (fun i hi => told i (by omega)) fun i hi => each i (by omega), ?_, ?_⟩
    · rw [show [n].flatMap f = f n by simp]
      exact each n (by omega)
    · intro x hx y hy e
      subst e
      rw [show [n].flatMap f = f n by simp] at hy
      obtain ⟨i, hi, hx⟩ := List.mem_flatMap.mp hx
      have lt := List.mem_range.mp hi
      have := inj i n (by omega) (by omega) ((told i (by omega) x hx).symm.trans (told n (by omega) x hy))
      omega
theorem one_once (x : List Int) : [x].Nodup := List.pairwise_singleton _ _
theorem landsS_key {ps : List (Int × Int)} {D T B : Int} {x : List Int} (h : x ∈ landsS ps D T B) : x.getD 0 0 = D ∧ x.getD 1 0 = T ∧ x.getD 2 0 = B := by
  unfold landsS at h
  obtain ⟨k, _, h⟩ := List.mem_flatMap.mp h
  cases List.mem_singleton.mp h
  exact ⟨rfl, rfl, rfl⟩
theorem landsT_key {ps : List (Int × Int)} {D : Int} {b t : Nat} {x : List Int} (h : x ∈ landsT ps D b t) : x.getD 0 0 = D ∧ x.getD 1 0 = t ∧ x.getD 2 0 = b := by
  unfold landsT at h
  split at h
  · exact landsS_key h
  · cases h
theorem lands_once {ps : List (Int × Int)} {p q : Int × Int} {m : Nat} : (landsAll ps p q m).Nodup := by
  have pn : (possD p q).Nodup := List.Pairwise.filter _ (by
    refine List.nodup_cons.mpr ⟨fun z => ?_, one_nd' _⟩
    have := List.mem_singleton.mp z
    omega)
  unfold landsAll
  refine flat_once (fun x => x.getD 0 0) (fun i => (possD p q)[i]?.getD 0) (fun i j hi hj e => ?_) (fun i hi x hx => ?_) fun i hi => ?_
  · rw [List.getElem?_eq_getElem hi, List.getElem?_eq_getElem hj] at e
    exact (List.getElem_inj pn).mp e
  · unfold landsD landsB at hx
    obtain ⟨_, _, hx⟩ := List.mem_flatMap.mp hx
    obtain ⟨_, _, hx⟩ := List.mem_flatMap.mp hx
    exact (landsT_key hx).1
  · generalize (possD p q)[i]?.getD 0 = D
    unfold landsD
    refine flat_once (fun x => x.getD 2 0) (fun b => ((1 + b : Nat) : Int)) (fun i j _ _ e => by omega) (fun b _ x hx => ?_) fun b _ => ?_
    · unfold landsB at hx
      obtain ⟨_, _, hx⟩ := List.mem_flatMap.mp hx
      exact (landsT_key hx).2.2
    · unfold landsB
      refine flat_once (fun x => x.getD 1 0) (fun t => (t : Int)) (fun i j _ _ e => by omega) (fun t _ x hx => (landsT_key hx).2.1) fun t _ => ?_
      unfold landsT
      split
      · unfold landsS
        exact flat_once (fun x => x.getD 3 0) (fun k => lowS ps D t (1 + b : Nat) + (k : Int)) (fun i j _ _ e => by omega) (fun k _ x hx => by cases List.mem_singleton.mp hx; rfl) fun k _ => one_once _
      · exact List.nodup_nil
/-! ### the law's own list -/
def metB (ps : List (Int × Int)) (D T B S : Int) : Bool := ps.all fun p => decide (fst D T B S p.1 = p.2)
theorem metB_iff {ps : List (Int × Int)} {D T B S : Int} : metB ps D T B S = true ↔ ∀ p ∈ ps, meets D T B S p := by
  unfold metB meets
  rw [List.all_eq_true]
  exact ⟨fun h p hp => of_decide_eq_true (h p hp), fun h p hp => decide_eq_true (h p hp)⟩
def awayL (p q : Int × Int) (D T B : Int) : Int := (q.2 - p.2) * B - (D * B + T) * (q.1 - p.1)
def fitsN (p q : Int × Int) (D : Int) (b t : Nat) : Nat := if (awayL p q D t b).natAbs < 2 * b then b else 0
def ownS (ps : List (Int × Int)) (p q : Int × Int) (D : Int) (b t : Nat) (k : Nat) : List (List Int) := if metB ps D t b (leastS D t b p + k) = true ∧ Nat.gcd b t = 1 then [[D, (t : Int), (b : Int), leastS D t b p + (k : Int)]] else []
def ownT (ps : List (Int × Int)) (p q : Int × Int) (D : Int) (b t : Nat) : List (List Int) := (List.range (fitsN p q D b t)).flatMap (ownS ps p q D b t)
def ownB (ps : List (Int × Int)) (p q : Int × Int) (D : Int) (b : Nat) : List (List Int) := (List.range (1 + b)).flatMap (ownT ps p q D (1 + b))
def ownD (ps : List (Int × Int)) (p q : Int × Int) (m : Nat) (i : Nat) : List (List Int) := (List.range m).flatMap (ownB ps p q ((1 + i : Nat) : Int))
def ownAll (ps : List (Int × Int)) (p q : Int × Int) (m : Nat) : List (List Int) := (List.range 59).flatMap (ownD ps p q m)
theorem ownS_key {ps : List (Int × Int)} {p q : Int × Int} {D : Int} {b t k : Nat} {x : List Int} (h : x ∈ ownS ps p q D b t k) : x = [D, (t : Int), (b : Int), leastS D t b p + (k : Int)] ∧ metB ps D t b (leastS D t b p + k) = true ∧ Nat.gcd b t = 1 := by
  unfold ownS at h
  split at h
  · exact ⟨List.mem_singleton.mp h, by assumption⟩
  · cases h
theorem own_back {ps : List (Int × Int)} {p q : Int × Int} {m : Nat} (hp : p ∈ ps) (hq : q ∈ ps) (lt : p.1 < q.1) (x : List Int) : x ∈ ownAll ps p q m ↔ Back ps m x := by
  unfold ownAll ownD ownB ownT
  constructor
  · intro h
    obtain ⟨i, hi, h⟩ := List.mem_flatMap.mp h
    obtain ⟨b, hb, h⟩ := List.mem_flatMap.mp h
    obtain ⟨t, ht, h⟩ := List.mem_flatMap.mp h
    obtain ⟨k, hk, h⟩ := List.mem_flatMap.mp h
    rw [List.mem_range] at hi hb ht
    obtain ⟨e, met, g⟩ := ownS_key h
    exact ⟨_, _, 1 + b, t, e, ⟨by omega, by omega⟩, ⟨by omega, by omega⟩, ht, Nat.gcd_comm _ _ ▸ g, metB_iff.mp met⟩
  · rintro ⟨D, S, b, t, rfl, hD, hb, ht, g, all⟩
    obtain ⟨_, _, w3, w4⟩ := between (T := (t : Int)) (B := (b : Int)) ⟨by omega, by omega⟩ (all p hp) (all q hq) lt
    obtain ⟨lo, hi⟩ := (meets_iff (by omega)).mp (all p hp)
    refine List.mem_flatMap.mpr ⟨D.toNat - 1, List.mem_range.mpr (by omega), List.mem_flatMap.mpr ⟨b - 1, List.mem_range.mpr (by omega), List.mem_flatMap.mpr ⟨t, List.mem_range.mpr (by omega), ?_⟩⟩⟩
    rw [show 1 + (b - 1) = b by omega, show ((1 + (D.toNat - 1) : Nat) : Int) = D by omega]
    have fits : fitsN p q D b t = b := if_pos (by unfold awayL; omega)
    rw [fits]
    refine List.mem_flatMap.mpr ⟨(S - leastS D t b p).toNat, List.mem_range.mpr (by omega), ?_⟩
    have e : leastS D t b p + ((S - leastS D t b p).toNat : Int) = S := by omega
    unfold ownS
    rw [e, if_pos ⟨metB_iff.mpr all, Nat.gcd_comm _ _ ▸ g⟩]
    exact List.mem_singleton.mpr rfl
theorem own_once {ps : List (Int × Int)} {p q : Int × Int} {m : Nat} : (ownAll ps p q m).Nodup := by
  have keyT : ∀ {D : Int} {b t : Nat} {x : List Int}, x ∈ ownT ps p q D b t → x.getD 0 0 = D ∧ x.getD 1 0 = t ∧ x.getD 2 0 = b := fun h => by
    unfold ownT at h
    obtain ⟨k, _, h⟩ := List.mem_flatMap.mp h
    obtain ⟨rfl, _⟩ := ownS_key h
    exact ⟨rfl, rfl, rfl⟩
  unfold ownAll
  refine flat_once (fun x => x.getD 0 0) (fun i => ((1 + i : Nat) : Int)) (fun i j _ _ e => by omega) (fun i _ x hx => ?_) fun i _ => ?_
  · unfold ownD ownB at hx
    obtain ⟨_, _, hx⟩ := List.mem_flatMap.mp hx
    obtain ⟨_, _, hx⟩ := List.mem_flatMap.mp hx
    exact (keyT hx).1
  · unfold ownD
    generalize ((1 + i : Nat) : Int) = D
    refine flat_once (fun x => x.getD 2 0) (fun b => ((1 + b : Nat) : Int)) (fun i j _ _ e => by omega) (fun b _ x hx => ?_) fun b _ => ?_
    · unfold ownB at hx
      obtain ⟨_, _, hx⟩ := List.mem_flatMap.mp hx
      exact (keyT hx).2.2
    · unfold ownB
      refine flat_once (fun x => x.getD 1 0) (fun t => (t : Int)) (fun i j _ _ e => by omega) (fun t _ x hx => (keyT hx).2.1) fun t _ => ?_
      unfold ownT
      refine flat_once (fun x => x.getD 3 0) (fun k => leastS D t (1 + b : Nat) p + (k : Int)) (fun i j _ _ e => by omega) (fun k _ x hx => by rw [(ownS_key hx).1]; rfl) fun k _ => ?_
      unfold ownS
      split
      · exact one_once _
      · exact List.nodup_nil
/-- both lists, sorted, are one -/
theorem sorted_same {A B L M : List (List Int)} (hA : A.Nodup) (hB : B.Nodup) (same : ∀ x, x ∈ A ↔ x ∈ B) (pL : L.Perm A) (pM : M.Perm B) (uL : L.Pairwise fun x y => lexI y x = false) (uM : M.Pairwise fun x y => lexI y x = false) : L = M :=
  List.Perm.eq_of_pairwise (fun x y _ _ h h' => lexI_eq h' h) uL uM (pL.trans (((List.perm_ext_iff_of_nodup hA hB).mpr same).trans pM.symm))

section
variable {P : Program} {w : World} {K : PySem.W.Frag} {mg : Str → Option Value} {base : Heap}
theorem ok__law_measure (T : Txt K mg) : FnOk P w K mg base CX0 1 T._law_measure.f T._law_measure.fd ["one", "other"] spGcd := by
  refine T._law_measure.F.ok sc__law_measure (fun vs H Q E h => ?_) (fun cdv A outer s H vs Q E hr h => ?_)
  · obtain ⟨_, _, rfl, _⟩ := h
    rfl
  · obtain ⟨a, b, rfl, q⟩ := h
    refine ⟨_, (pss_cons (ps_while PassesOwn.never (pt_cmpR op_gt (pv 1) pe_int (nomark _))
        (pss_one (ps_par (i := 0) (j := 1) (by rfl) sc__law_measure.nd rfl rfl (by decide) rfl rfl (pa_cons (pv 1) (pa_cons (pe_op op_mod (pv 0) (pv 1)) pa_nil)) (by rfl))))
      (pss_one (ps_ret (pv 0)))), ?_⟩
    refine q_while (fun m σ H' => ∃ c : Nat, σ = [some (.int c), some (.int (m : Nat))] ∧ Nat.gcd c m = Nat.gcd a b ∧ Ex H H') b ⟨a, rfl, rfl, Ex.refl H⟩ ?_
    rintro m σ H1 ⟨c, rfl, hg, e1⟩
    by_cases hm : m = 0
    · subst hm
      refine ⟨false, fun H2 e2 Q2 q2 => ⟨_, rfl, _, _, rfl, rfl, _, rfl, q2 H2 (Ex.refl H2)⟩, fun z => Bool.noConfusion z, fun _ H2 e2 => ?_⟩
      rw [Nat.gcd_zero_right] at hg
      have z := q H2 (e1.trans e2)
      rw [← hg] at z
      exact ⟨_, rfl, z⟩
    · have above : decide (((m : Nat) : Int) > 0) = true := decide_eq_true (by omega)
      refine ⟨true, fun H2 e2 Q2 q2 => ⟨_, rfl, _, _, rfl, rfl, _, rfl, ?_⟩, fun _ H2 e2 => ?_, fun z => Bool.noConfusion z⟩
      · rw [above]
        exact q2 H2 (Ex.refl H2)
      · have next : Nat.gcd m (c % m) = Nat.gcd a b := by
          rw [← hg, Nat.gcd_comm c m, Nat.gcd_rec m c, Nat.gcd_comm]
        refine ⟨fun σ' H' => σ' = [some (.int (m : Nat)), some (.int ((c % m : Nat) : Int))] ∧ Ex H H', fun σ' H' ⟨es, ex⟩ => ⟨c % m, Nat.mod_lt c (by omega), m, es, next, ex⟩, ?_⟩
        refine ⟨_, rfl, _, rfl, _, rfl, _, _, rfl, rfl, by show (0 : Int) < m; omega, _, _, rfl, ?_, e1.trans e2⟩
        rw [Int.natCast_emod]
        rfl
end

section
variable {P : Program} {w : World} {K : PySem.W.Frag} {mg : Str → Option Value} {base : Heap}
theorem flat_more {f : Nat → List (List Int)} {i : Nat} : (List.range (i + 1)).flatMap f = (List.range i).flatMap f ++ f i := by
  rw [List.range_succ, List.flatMap_append]
  simp
theorem flat_part {f : Nat → List (List Int)} {i n N : Nat} (hi : i < n) (h : ((List.range n).flatMap f).length < N) : ((List.range i).flatMap f).length + (f i).length < N := by
  obtain ⟨k, rfl⟩ : ∃ k, n = i + 1 + k := ⟨n - (i + 1), by omega⟩
  rw [show List.range (i + 1 + k) = _ from List.range_add, List.flatMap_append, List.length_append, flat_more, List.length_append] at h
  omega
/-- a tuple that stands is put to the list -/
theorem Acc.put {H0 H : Hp} {D t : Addr} {L : List (List Int)} {ns : List Int} {had : List V} (a : Acc H0 D L H) (ht : H t = some (.tup (ns.map V.int))) (hD : H D = some (.lst had)) : Acc H0 D (L ++ [ns]) (upd H D (.lst (had ++ [.ref t]))) := by
  obtain ⟨rs, hr, at_⟩ := a.at_
  rw [hD] at hr
  cases hr
  exact ⟨a.ex.trans ExD.upd, had ++ [.ref t], upd_same, (at_.but hD ExD.upd).snoc ((upd_ne (tup_ne_lst ht hD)).trans ht)⟩
theorem dps_pairs {K : PySem.W.Frag} {H : Hp} : ∀ zs : List V, (∀ z ∈ zs, ∃ p, PairAt H z p) → ∃ ds, DpAll K H zs ds ∧ ds.length = zs.length ∧ PyData.canLayAll0 ds = true ∧ PyData.depthAll ds ≤ 3
  | [], _ => ⟨[], .nil, rfl, rfl, by decide⟩
  | z :: zs, h => by
    obtain ⟨ds, d1, d2, d3, d4⟩ := dps_pairs zs fun y hy => h y (List.mem_cons_of_mem _ hy)
    obtain ⟨p, a, rfl, ha⟩ := h z (List.mem_cons_self ..)
    have l := lays_ints [p.1, p.2]
    have dp := deep_ints [p.1, p.2]
    refine ⟨.tuple ([p.1, p.2].map PyData.int) :: ds, .cons (.tup (st_of ha) (dps_ints [p.1, p.2])) d1, congrArg Nat.succ d2, ?_, ?_⟩
    · rw [PyData.canLayAll0, PyData.canLay0, l, d3]
      rfl
    · rw [PyData.depthAll, PyData.depth]
      omega
/-- whether a list of pairs is empty -/
theorem eq_none {K : PySem.W.Frag} {H : Hp} {Q : VK} {a b : Addr} {zs : List V} (ha : SqL K H a zs) (hb : SqL K H b []) (pairs : ∀ z ∈ zs, ∃ p, PairAt H z p) (q : Q (.bl (decide (zs = []))) H) : rEqD K (.ref a) (.ref b) H Q := by
  obtain ⟨ds, d1, d2, d3, d4⟩ := dps_pairs (K := K) zs pairs
  refine ⟨.list ds, .list [], .lst ha d1, .lst hb .nil, ?_, by decide +kernel, ?_⟩
  · unfold SeqAt.shaped
    rw [PyData.canLay0, PyData.depth, d3, Bool.true_and]
    exact decide_eq_true (show _ ≤ 64 by omega)
  · cases zs with
    | nil =>
      cases ds with
      | nil => exact q
      | cons => cases d2
    | cons z zs =>
      cases ds with
      | nil => cases d2
      | cons d ds => exact q
theorem own_four {ps : List (Int × Int)} {p q : Int × Int} {m : Nat} {x : List Int} (h : x ∈ ownAll ps p q m) : x.length = 4 := by
  unfold ownAll ownD ownB ownT at h
  obtain ⟨_, _, h⟩ := List.mem_flatMap.mp h
  obtain ⟨_, _, h⟩ := List.mem_flatMap.mp h
  obtain ⟨_, _, h⟩ := List.mem_flatMap.mp h
  obtain ⟨_, _, h⟩ := List.mem_flatMap.mp h
  rw [(ownS_key h).1]
  rfl
theorem wrong_none {ps : List (Int × Int)} {D T B S : Int} {n : Nat} {v : Nat → V} (hn : n = ps.length) : decide (given n (fun i => !decide (fst D T B S (ps[i]?.getD (0, 0)).1 = (ps[i]?.getD (0, 0)).2)) v = []) = metB ps D T B S := by
  subst hn
  unfold given
  cases e : metB ps D T B S with
  | true =>
    refine decide_eq_true (List.map_eq_nil_iff.mpr (List.filter_eq_nil_iff.mpr fun i hi => ?_))
    have lt := List.mem_range.mp hi
    rw [List.getElem?_eq_getElem lt]
    have := metB_iff.mp e _ (List.getElem_mem lt)
    rw [show fst D T B S (Option.getD (some ps[i]) (0, 0)).1 = (Option.getD (some ps[i]) (0, 0)).2 from this]
    simp
  | false =>
    refine decide_eq_false fun z => ?_
    have none_ := List.filter_eq_nil_iff.mp (List.map_eq_nil_iff.mp z)
    have : metB ps D T B S = true := metB_iff.mpr fun p hp => by
      obtain ⟨i, lt, rfl⟩ := List.getElem_of_mem hp
      have w := none_ i (List.mem_range.mpr lt)
      rw [List.getElem?_eq_getElem lt] at w
      show fst D T B S ps[i].1 = ps[i].2
      simpa using w
    rw [e] at this
    cases this
/-- seen years that are near -/
def NearS (ps : List (Int × Int)) : Prop := ∀ p ∈ ps, (-1000 ≤ p.1 ∧ p.1 ≤ 1000) ∧ (-42001 ≤ p.2 ∧ p.2 ≤ 42001)
def spOwn : Sp := fun vs H Q _ => ∃ a rs ps p q, ∃ m : Nat, vs = [.ref a, .int m] ∧ Seen H a rs ps ∧ NearS ps ∧ ps[0]? = some p ∧ ps[ps.length - 1]? = some q ∧ (1 ≤ m ∧ m ≤ 8) ∧ (ownAll ps p q m).length < 40000 ∧
  ∀ l rs' L H', H l = none → Ex H H' → H' l = some (.lst rs') → TupsAt H' rs' L → L.Perm (ownAll ps p q m) → L.Pairwise (fun x y => lexI y x = false) → Q (.ref l) H'
theorem ok__law_all (T : Txt K mg) : FnOk P w K mg base CX0 2 T._law_all.f T._law_all.fd ["seen", "most"] spOwn := by
  have G__law_begin : FnOk P w K mg base CX0 1 T._law_begin.f T._law_begin.fd ["land", "year"] spBeg := ok__law_begin T
  have G__law_measure : FnOk P w K mg base CX0 1 T._law_measure.f T._law_measure.fd ["one", "other"] spGcd := ok__law_measure T
  refine T._law_all.F.ok sc__law_all (fun vs H Q E h => ?_) (fun cdv A outer s H vs Q E hr h => ?_)
  · obtain ⟨_, _, _, _, _, _, rfl, _⟩ := h
    rfl
  · obtain ⟨a, rs, ps, p, p', m, rfl, h, near, ep, ep', hm, small, q⟩ := h
    refine ⟨_, (pss_cons (ps_set (i := 2) sc__law_all.nd rfl (Or.inl rfl) (pe_lst pa_nil))
      (pss_cons (ps_asg (pe_tup (pa_cons (pe_ix ix_tup (pv 0) pe_int (fun _ _ => rfl)) (pa_cons (pe_ix ix_tup (pv 0) (pe_un un_neg pe_int) (fun _ _ => rfl)) pa_nil))) (pg_tup rfl (pgs_cons (pg_tup rfl (pgs_cons (pg_name (i := 3) sc__law_all.nd rfl (Or.inl rfl)) (pgs_cons (pg_name (i := 4) sc__law_all.nd rfl (Or.inl rfl)) pgs_nil))) (pgs_cons (pg_tup rfl (pgs_cons (pg_name (i := 5) sc__law_all.nd rfl (Or.inl rfl)) (pgs_cons (pg_name (i := 6) sc__law_all.nd rfl (Or.inl rfl)) pgs_nil))) pgs_nil))))
      (pss_cons (ps_for PassesOwn.never rfl (pi_range2 rfl T.range (pa_cons pe_int (pa_cons pe_int pa_nil))) (pg_name (i := 7) sc__law_all.nd rfl (Or.inl rfl))
        (pss_one (ps_for PassesOwn.never rfl (pi_range2 rfl T.range (pa_cons pe_int (pa_cons (pe_op op_add (pv 1) pe_int) pa_nil))) (pg_name (i := 8) sc__law_all.nd rfl (Or.inl rfl))
        (pss_one (ps_for PassesOwn.never rfl (pi_range1 rfl T.range (pa_cons (pv 8) pa_nil)) (pg_name (i := 9) sc__law_all.nd rfl (Or.inl rfl))
        (pss_cons (ps_set (i := 10) sc__law_all.nd rfl (Or.inl rfl) (pe_op op_add (pe_op op_mul (pv 7) (pv 8)) (pv 9)))
      (pss_cons (ps_set (i := 11) sc__law_all.nd rfl (Or.inl rfl) (pe_op op_sub (pe_op op_mul (pe_op op_sub (pv 6) (pv 4)) (pv 8)) (pe_op op_mul (pv 10) (pe_op op_sub (pv 5) (pv 3)))))
      (pss_cons (ps_set (i := 12) sc__law_all.nd rfl (Or.inl rfl) (pe_cmpR op_lt (pe_callB call_abs (by rfl) T.abs (by decide +kernel) (pa_cons (pv 11) pa_nil)) (pe_op op_mul pe_int (pv 8)) (nomark _)))
      (pss_cons (ps_set (i := 13) sc__law_all.nd rfl (Or.inl rfl) (pe_op op_sub (pe_op op_mul (pv 4) (pv 8)) (pe_op op_mul (pv 10) (pv 3))))
      (pss_one (ps_for PassesOwn.never rfl (pi_range2 rfl T.range (pa_cons (pv 13) (pa_cons (pe_op op_add (pv 13) (pe_op op_mul (pv 8) (pe_callTy call_int1 (by rfl) T.b_int (by decide +kernel) (pa_cons (pv 12) pa_nil)))) pa_nil))) (pg_name (i := 14) sc__law_all.nd rfl (Or.inl rfl))
        (pss_cons (ps_set (i := 15) sc__law_all.nd rfl (Or.inr rfl) (pe_tup (pa_cons (pv 7) (pa_cons (pv 9) (pa_cons (pv 8) (pa_cons (pv 14) pa_nil))))))
      (pss_cons (ps_setLc (i := 16) (own := [("row", 17)]) (g := gName 17) (by rfl) sc__law_all.nd rfl rfl (sw_true rfl rfl rfl (by decide +kernel)) (pi_tup (pv 0)) (blkOk_by (own := [("row", 17)]) (N := ["seen", "most", "found", "year", "day", "later", "then", "days_so_", "bottom", "top", "step", "away", "fits", "low", "shift", "land", "wrong", "row"]) (sc := defScope s__law_all) (by decide +kernel)) (fun _ _ _ _ _ => (pg_name (i := 17) sc__law_all.nd rfl (Or.inl rfl))) (fun _ _ _ _ _ => (pts_one (pt_cmpR op_ne (pe_call G__law_begin (hr.mono (by omega)) (by rfl) T._law_begin.g T._law_begin.F.kp T._law_begin.b .nil pass0 (pa_cons (pv 15) (pa_cons (pe_ix (show IxR _ (rIxT K) from ix_tup) (pv 17) pe_int (fun _ _ => rfl)) pa_nil))) (pe_ix (show IxR _ (rIxT K) from ix_tup) (pv 17) pe_int (fun _ _ => rfl)) (nomark _)))) (fun _ _ _ _ _ => (pv 17)))
      (pss_one (ps_if (PW.pt (pw_and (pt_cmpR (op_eqD hr.units) (pv 16) (pe_lst pa_nil) (nomark _)) (pw_and1 (pt_cmpR op_eq (pe_call G__law_measure (hr.mono (by omega)) (by rfl) T._law_measure.g T._law_measure.F.kp T._law_measure.b .nil pass0 (pa_cons (pv 8) (pa_cons (pv 9) pa_nil))) pe_int (nomark _)))))
        (pss_one (ps_expr (pe_bm PySem.F.plainAttrs_list PySem.F.slot_list_append PySem.F.type_list_append mt_append (pv 2) (pa_cons (pv 15) pa_nil))))
        pss_nil)))))))))))))))
      (pss_one (ps_ret (pe_callB (cr_sortL (d := 4) (by decide)) (by rfl) T.sorted (by decide +kernel) (pa_cons (pv 2) pa_nil))))))), ?_⟩
    have few := h.ok.few
    have len := h.len
    have lt : p.1 < p'.1 := h.ok.next (by omega) ep ep'
    have np := near p (List.mem_of_getElem? ep)
    have np' := near p' (List.mem_of_getElem? ep')
    refine ⟨Nat.zero_le _, fun fl nf => ?_⟩
    have h0 := h.ex (Ex.new nf (o := .lst []))
    obtain ⟨r, er, b0, rfl, hb0⟩ := h0.row ep
    obtain ⟨r', er', b1, rfl, hb1⟩ := h0.row ep'
    refine ⟨_, rfl, a, rs, 0, _, rfl, rfl, st_of h0.at_, at_nat er, _, rfl, 1, rfl, a, rs, -1, _, rfl, rfl, st_of h0.at_, last_at (by rw [List.getLast?_eq_getElem?, len]; exact er'), by show 2 ≤ sizeLine; decide, fun t1 n1 => ?_⟩
    have x1 := Ex.new n1 (o := .tup [.ref b0, .ref b1])
    have h1 := h0.ex x1
    have hf1 : upd (upd H fl (.lst [])) t1 (.tup [.ref b0, .ref b1]) fl = some (.lst []) := x1 _ _ upd_same
    have ex1 : Ex H (upd (upd H fl (.lst [])) t1 (.tup [.ref b0, .ref b1])) := (Ex.new nf).trans x1
    refine ⟨t1, _, rfl, st_of upd_same, rfl, _, _, rfl, ⟨b0, _, rfl, st_of (x1 _ _ hb0), rfl, _, _, rfl, _, _, rfl, rfl, _, _, rfl, ⟨b1, _, rfl, st_of (x1 _ _ hb1), rfl, _, _, rfl, _, _, rfl, rfl, rfl, ?_⟩⟩⟩
    generalize upd (upd H fl (.lst [])) t1 (.tup [.ref b0, .ref b1]) = H1 at h1 hf1 ex1 ⊢
    have af : a ≠ fl := tup_ne_lst h1.at_ hf1
    have seen : ∀ {H'}, ExD fl H1 H' → Seen H' a rs ps := fun {H'} k => ⟨k _ _ af h1.at_, h1.len, fun i r z => by
      obtain ⟨p, e1, b, e2, e3⟩ := h1.each i r z
      exact ⟨p, e1, b, e2, k _ _ (tup_ne_lst e3 hf1) e3⟩, h1.ok⟩
    clear x1 h0 hb0 hb1 er er' h n1
    refine ⟨1, 60, rfl, ⟨by decide, by decide, by decide, by decide⟩, for_range (lo := 1) (n := 59) (fun i σ H' => (∃ z7 z8 z9 z10 z11 z12 z13 z14 z15 z16 z17, σ = [some (.ref a), some (.int m), some (.ref fl), some (.int p.1), some (.int p.2), some (.int p'.1), some (.int p'.2), z7, z8, z9, z10, z11, z12, z13, z14, z15, z16, z17]) ∧ Acc H1 fl ((List.range i).flatMap (ownD ps p p' m)) H') ⟨⟨_, _, _, _, _, _, _, _, _, _, _, rfl⟩, ExD.refl, [], hf1, .nil⟩ ?_ ?_⟩
    · rintro i σ H2 hi ⟨⟨z7, z8, z9, z10, z11, z12, z13, z14, z15, z16, z17, rfl⟩, acc⟩
      have total : ((List.range i).flatMap (ownD ps p p' m)).length + (ownD ps p p' m i).length < 40000 := flat_part (f := ownD ps p p' m) (by exact hi) small
      rw [flat_more]
      generalize (List.range i).flatMap (ownD ps p p' m) = pre1 at acc total ⊢
      show gName 7 (V.int (1 + (i : Int))) _ _ _
      rw [show (1 : Int) + (i : Int) = ((1 + i : Nat) : Int) by omega]
      unfold ownD at total ⊢
      obtain ⟨D, hD⟩ : ∃ D : Int, ((1 + i : Nat) : Int) = D := ⟨_, rfl⟩
      have r1 : 1 ≤ D ∧ D ≤ 59 := by omega
      rw [hD] at total ⊢
      refine ⟨_, rfl, _, _, rfl, rfl, 1, (m : Int) + 1, rfl, ⟨by omega, by omega, by omega, by omega⟩, ?_⟩
      rw [show ((m : Int) + 1 - 1).toNat = m by omega]
      refine for_range (lo := 1) (n := m) (fun b σ H' => (∃ z8 z9 z10 z11 z12 z13 z14 z15 z16 z17, σ = [some (.ref a), some (.int m), some (.ref fl), some (.int p.1), some (.int p.2), some (.int p'.1), some (.int p'.2), some (.int D), z8, z9, z10, z11, z12, z13, z14, z15, z16, z17]) ∧ Acc H1 fl (pre1 ++ (List.range b).flatMap (ownB ps p p' D)) H') ⟨⟨_, _, _, _, _, _, _, _, _, _, rfl⟩, by simpa using acc⟩ ?_ fun σ H' ⟨⟨_, _, _, _, _, _, _, _, _, _, e⟩, c⟩ => ⟨⟨_, _, _, _, _, _, _, _, _, _, _, e⟩, c⟩
      clear acc
      rintro b σ H3 hb ⟨⟨z8, z9, z10, z11, z12, z13, z14, z15, z16, z17, rfl⟩, acc⟩
      have total : (pre1 ++ (List.range b).flatMap (ownB ps p p' D)).length + (ownB ps p p' D b).length < 40000 := by
        have := flat_part (f := ownB ps p p' D) (N := 40000 - pre1.length) hb (by omega)
        rw [List.length_append]
        omega
      rw [flat_more, ← List.append_assoc]
      generalize pre1 ++ (List.range b).flatMap (ownB ps p p' D) = pre2 at acc total ⊢
      show gName 8 (V.int (1 + (b : Int))) _ _ _
      rw [show (1 : Int) + (b : Int) = ((1 + b : Nat) : Int) by omega]
      unfold ownB at total ⊢
      obtain ⟨B, hB⟩ : ∃ B : Nat, 1 + b = B := ⟨_, rfl⟩
      have r3 : 1 ≤ B ∧ B ≤ 8 := by omega
      rw [hB] at total ⊢
      refine ⟨_, rfl, (B : Int), rfl, by omega, by omega, ?_⟩
      rw [Int.toNat_natCast]
      refine for_range (lo := 0) (n := B) (fun t σ H' => (∃ z9 z10 z11 z12 z13 z14 z15 z16 z17, σ = [some (.ref a), some (.int m), some (.ref fl), some (.int p.1), some (.int p.2), some (.int p'.1), some (.int p'.2), some (.int D), some (.int B), z9, z10, z11, z12, z13, z14, z15, z16, z17]) ∧ Acc H1 fl (pre2 ++ (List.range t).flatMap (ownT ps p p' D B)) H') ⟨⟨_, _, _, _, _, _, _, _, _, rfl⟩, by simpa using acc⟩ ?_ fun σ H' ⟨⟨_, _, _, _, _, _, _, _, _, e⟩, c⟩ => ⟨⟨_, _, _, _, _, _, _, _, _, _, e⟩, c⟩
      clear acc
      rintro t σ H4 ht ⟨⟨z9, z10, z11, z12, z13, z14, z15, z16, z17, rfl⟩, acc⟩
      have total : (pre2 ++ (List.range t).flatMap (ownT ps p p' D B)).length + (ownT ps p p' D B t).length < 40000 := by
        have := flat_part (f := ownT ps p p' D B) (N := 40000 - pre2.length) ht (by omega)
        rw [List.length_append]
        omega
      rw [flat_more, ← List.append_assoc]
      generalize pre2 ++ (List.range t).flatMap (ownT ps p p' D B) = pre3 at acc total ⊢
      show gName 9 (V.int (0 + (t : Int))) _ _ _
      rw [show (0 : Int) + (t : Int) = (t : Int) by omega]
      have sb := step_bd (D := D) (T := t) (B := B) ⟨by omega, by omega⟩ ⟨by omega, by omega⟩ ⟨by omega, by omega⟩
      have step_ : D * B + t ≤ 479 := by
        have := Int.mul_le_mul (show D ≤ 59 by omega) (show (B : Int) ≤ 8 by omega) (by omega) (by decide)
        omega
      refine ⟨_, rfl, _, rfl, _, _, rfl, rfl, cm_l (by omega), _, rfl, _, _, rfl, rfl, ?_⟩
      refine ⟨_, rfl, _, rfl, _, _, rfl, rfl, _, rfl, _, _, rfl, rfl, cm_l (by omega), _, rfl, _, rfl, _, rfl, _, _, rfl, rfl, _, _, rfl, rfl, cm_l (by omega), _, _, rfl, rfl, ?_⟩
      refine ⟨_, rfl, _, rfl, _, rfl, _, _, rfl, rfl, cm_l (by omega), _, _, rfl, rfl, ?_⟩
      refine ⟨_, rfl, _, rfl, _, _, rfl, rfl, cm_l (by omega), _, rfl, _, rfl, _, _, rfl, rfl, cm_l (by omega), _, _, rfl, rfl, ?_⟩
      have lb := mul_bd (x := p.2) (b := B) (K := 42001) (L := 8) ⟨by omega, by omega⟩ ⟨by omega, by omega⟩ (by decide)
      have lc := mul_bd (x := p.1) (b := D * B + t) (K := 1000) (L := 479) ⟨by omega, by omega⟩ ⟨by omega, by omega⟩ (by decide)
      have low : -815008 ≤ leastS D t B p ∧ leastS D t B p ≤ 815008 := by
        unfold leastS
        rw [Int.mul_comm (D * B + t)]
        omega
      obtain ⟨fb, hfb⟩ : ∃ fb : Bool, decide ((if awayL p p' D t B < 0 then -awayL p p' D t B else awayL p p' D t B) < 2 * (B : Int)) = fb := ⟨_, rfl⟩
      have fitn : (leastS D t B p + (B : Int) * (if fb = true then 1 else 0) - leastS D t B p).toNat = fitsN p p' D B t := by
        unfold fitsN
        by_cases z : (awayL p p' D t B).natAbs < 2 * B
        · have e : fb = true := by rw [← hfb]; exact decide_eq_true (by split <;> omega)
          rw [if_pos z, if_pos e]
          omega
        · have e : fb = false := by rw [← hfb]; exact decide_eq_false (by split <;> omega)
          rw [if_neg z, e, if_neg (by decide)]
          omega
      have fle : fitsN p p' D B t ≤ 8 := by
        unfold fitsN
        split <;> omega
      refine ⟨_, rfl, _, rfl, _, rfl, _, rfl, .inr ⟨_, rfl, _, _, rfl, rfl, cm_l (by omega), _, _, rfl, rfl, leastS D t B p, leastS D t B p + (B : Int) * (if decide ((if awayL p p' D t B < 0 then -awayL p p' D t B else awayL p p' D t B) < 2 * (B : Int)) = true then 1 else 0), rfl, ?_, ?_⟩⟩
      · rw [hfb]
        cases fb <;> simp <;> omega
      rw [hfb, fitn]
      unfold ownT at total ⊢
      refine for_range (lo := leastS D t B p) (n := fitsN p p' D B t) (fun k σ H' => (∃ z10 z11 z12 z13 z14 z15 z16 z17, σ = [some (.ref a), some (.int m), some (.ref fl), some (.int p.1), some (.int p.2), some (.int p'.1), some (.int p'.2), some (.int D), some (.int B), some (.int t), z10, z11, z12, z13, z14, z15, z16, z17]) ∧ Acc H1 fl (pre3 ++ (List.range k).flatMap (ownS ps p p' D B t)) H') ⟨⟨_, _, _, _, _, _, _, _, rfl⟩, by simpa using acc⟩ ?_ fun σ H' ⟨⟨_, _, _, _, _, _, _, _, e⟩, c⟩ => ⟨⟨_, _, _, _, _, _, _, _, _, e⟩, c⟩
      clear acc
      rintro k σ H5 hk ⟨⟨z10, z11, z12, z13, z14, z15, z16, z17, rfl⟩, acc⟩
      have total : (pre3 ++ (List.range k).flatMap (ownS ps p p' D B t)).length + (ownS ps p p' D B t k).length < 40000 := by
        have := flat_part (f := ownS ps p p' D B t) (N := 40000 - pre3.length) hk (by omega)
        rw [List.length_append]
        omega
      rw [flat_more, ← List.append_assoc]
      generalize pre3 ++ (List.range k).flatMap (ownS ps p p' D B t) = pre4 at acc total ⊢
      obtain ⟨S, hS⟩ : ∃ S : Int, leastS D t B p + (k : Int) = S := ⟨_, rfl⟩
      show gName 14 (V.int (leastS D t B p + (k : Int))) _ _ _
      unfold ownS at total ⊢
      rw [hS] at total ⊢
      refine ⟨_, rfl, _, rfl, _, rfl, _, rfl, by show 4 ≤ sizeLine; decide, fun la nla => ?_⟩
      have hla : upd H5 la (.tup [.int D, .int t, .int B, .int S]) la = some (.tup [.int D, .int t, .int B, .int S]) := upd_same
      have acc6 := acc.mono (Ex.new nla (o := .tup [.int D, .int t, .int B, .int S]))
      generalize upd H5 la (.tup [.int D, .int t, .int B, .int S]) = H6 at hla acc6 ⊢
      have L6 : Land H6 (.ref la) D t B S := ⟨la, rfl, hla, ⟨by omega, by omega⟩, ⟨by omega, by omega⟩, ⟨by omega, by omega⟩, ⟨by omega, by omega⟩⟩
      have s6 := seen acc6.ex
      refine ⟨_, rfl, a, rfl, ⟨_, st_of s6.at_⟩, fun D2 hD2 => ?_⟩
      refine lc_tup (xs := rs) (Cw H6 (fun i => !decide (fst D t B S (ps[i]?.getD (0, 0)).1 = (ps[i]?.getD (0, 0)).2)) (fun i => rs[i]?.getD .non) D2) ⟨hD2, Ex.new hD2, upd_same⟩ (fun _ H' _ c => st_of (c.2.1 _ _ s6.at_)) (fun i x H' hi c => ?_) (fun H7 c => ?_)
      · obtain ⟨pr, epr, hpr⟩ := s6.each _ _ hi
        have lti := (List.getElem?_eq_some_iff.mp hi).1
        refine ⟨rfl, cw_turn c (by omega) (fun Ha ea Qa qa => ?_) fun _ Ha ea Qa qa => ?_⟩
        · rw [epr] at qa
          obtain ⟨bb, rfl, hbb⟩ := hpr
          exact ⟨_, rfl, _, rfl, bb, _, 0, _, rfl, rfl, st_of (ea _ _ hbb), rfl, .ref la, D, t, B, S, _, rfl, L6.ex ea, fun Hb eb => ⟨_, rfl, bb, _, 1, _, rfl, rfl, st_of (eb _ _ (ea _ _ hbb)), rfl, rfl, _, rfl, by
            have z := qa Hb eb
            rw [show (decide (V.int (fst D t B S pr.1) = V.int pr.2)) = decide (fst D t B S pr.1 = pr.2) by simp]
            exact z⟩⟩
        · rw [hi] at qa
          exact ⟨_, rfl, qa Ha (Ex.refl Ha)⟩
      obtain ⟨_, e7, h7⟩ := c
      have acc7 := acc6.mono e7
      have pairs : ∀ z ∈ given rs.length (fun i => !decide (fst D t B S (ps[i]?.getD (0, 0)).1 = (ps[i]?.getD (0, 0)).2)) (fun i => rs[i]?.getD .non), ∃ p, PairAt H6 z p := fun z hz => by
        unfold given at hz
        obtain ⟨i, hi, rfl⟩ := List.mem_map.mp hz
        have lti := List.mem_range.mp (List.mem_filter.mp hi).1
        obtain ⟨pr, _, hpr⟩ := s6.each i _ (List.getElem?_eq_getElem lti)
        rw [List.getElem?_eq_getElem lti]
        exact ⟨pr, hpr⟩
      refine ⟨_, rfl, Nat.zero_le _, fun p8 n8 => ?_⟩
      have x8 := Ex.new n8 (o := .lst [])
      have acc8 := acc7.mono x8
      refine eq_none (sq_of (x8 _ _ h7)) (sq_of upd_same) (fun z hz => let ⟨pr, hpr⟩ := pairs z hz; ⟨pr, hpr.ex (e7.trans x8)⟩) ⟨_, rfl, ?_⟩
      rw [wrong_none len]
      have hla8 := x8 _ _ (e7 _ _ hla)
      generalize upd H7 p8 (.lst []) = H8 at acc8 hla8 ⊢
      cases met : metB ps D t B S with
      | false =>
        refine iteF (iteF ⟨⟨_, _, _, _, _, _, _, _, rfl⟩, ?_⟩)
        rw [if_neg (fun z => by cases z.1), List.append_nil]
        exact acc8
      | true =>
        refine iteT ⟨_, rfl, _, rfl, B, t, rfl, fun H9 e9 => ⟨rfl, _, rfl, ?_⟩⟩
        have acc9 := acc8.mono e9
        by_cases g : Nat.gcd B t = 1
        · rw [show decide (V.int ((Nat.gcd B t : Nat) : Int) = V.int 1) = true from decide_eq_true (by rw [g]; rfl)]
          obtain ⟨had, hf9, at9⟩ := acc9.at_
          have lh := at9.len
          refine iteT ⟨_, rfl, .inl ⟨rfl, _, sq_of hf9⟩, _, rfl, fl, _, _, rfl, rfl, hf9, Nat.lt_of_lt_of_le (show had.length < 40000 by omega) (by decide), ⟨_, _, _, _, _, _, _, _, rfl⟩, ?_⟩
          rw [if_pos ⟨rfl, g⟩]
          exact acc9.put (ns := [D, (t : Int), (B : Int), S]) (e9 _ _ hla8) hf9
        · rw [decide_eq_false (fun z => g (by have := V.int.inj z; omega) : ¬ V.int ((Nat.gcd B t : Nat) : Int) = V.int 1)]
          refine iteF ⟨⟨_, _, _, _, _, _, _, _, rfl⟩, ?_⟩
          rw [if_neg (fun z => g z.2), List.append_nil]
          exact acc9
    · rintro σ H4 ⟨⟨z7, z8, z9, z10, z11, z12, z13, z14, z15, z16, z17, rfl⟩, acc⟩
      have acc : Acc H1 fl (ownAll ps p p' m) H4 := acc
      obtain ⟨rs', hr', ht'⟩ := acc.at_
      have e04 : Ex H H4 := fun b o e => acc.ex b o (fun z => by rw [z, nf] at e; cases e) (ex1 b o e)
      obtain ⟨eL, each⟩ := ht'.read
      refine ⟨_, rfl, fl, rs', rfl, sq_of hr', fun x hx => ?_, fun ys l5 perm up n5 => ?_⟩
      · obtain ⟨b, rfl, hb⟩ := each x hx
        refine ⟨_, ⟨b, rfl, st_of hb⟩, own_four (ps := ps) (p := p) (q := p') (m := m) ?_⟩
        rw [eL]
        exact List.mem_map_of_mem hx
      have each' : ∀ r ∈ ys, ∃ a, r = .ref a ∧ H4 a = some (.tup ((numsAt H4 r).map V.int)) := fun r hr => each r (perm.mem_iff.mp hr)
      refine q l5 ys (ys.map (numsAt H4)) _ (fresh_back e04 n5) (e04.trans (Ex.new n5)) upd_same ?_ (eL ▸ perm.map _) ?_
      · exact TupsAt.ex (tups_of ys each') (Ex.new n5)
      · refine List.pairwise_map.mpr (List.Pairwise.imp_of_mem (fun {x y} hx hy h => ?_) up)
        obtain ⟨b, e1, h1⟩ := each' x hx
        obtain ⟨c, e2, h2⟩ := each' y hy
        exact h _ _ ⟨b, e1, st_of h1⟩ ⟨c, e2, st_of h2⟩
end

section
variable {P : Program} {w : World} {K : PySem.W.Frag} {mg : Str → Option Value} {base : Heap}
theorem fun_okN {x qual : Str} {st : Stmt} {f : Addr} {fd : FuncData} {N ps : List Str} {k : Nat} {sp : Sp} (F : Fun K x qual st f fd) (S : FnScope N ps (defScope st)) (len : ∀ vs H Q E, sp vs H Q E → vs.length = ps.length)
    (body : ∀ (cdv : Value) (A : Around) (outer : List Env) (s : Shared) (H : Hp) (vs : List V) (Q : VK) (E : XK), Room k (A.deeper (envOfC qual (defScope st) s.heap.objs.size f cdv)) → sp vs H Q E →
      ∃ t, PSs (cxOf (L2N.CX P w) P w K mg base N qual (defScope st) f cdv A outer s H E) (defBody st) t ∧ t { nx := fun _ H' => Q .non H', rt := Q } (L2.start N vs) H) : FnOk P w K mg base (L2N.CX P w) (k + 1) f fd ps sp := by
  obtain ⟨_, _, _, _, _, _, cdv, _, _, made, lk, cd⟩ := F.ex
  subst made
  exact ⟨len, fun A outer s H args us vs Q E hr e0 hb r h => LamX.run_ofS lk cd S hr e0 hb r (len _ _ _ _ h) fun hr1 => body cdv A outer s H vs Q E hr1 h⟩
end

/-! ### seen years refused -/
/-- the pair's parts, whatever they are -/
def PairV (H : Hp) (r : V) (p : V × V) : Prop := ∃ a k k', r = .ref a ∧ H a = some (.tup [p.1, p.2]) ∧ Dat H p.1 k ∧ Dat H p.2 k'
theorem PairV.ex {H H' : Hp} {r : V} {p : V × V} (h : PairV H r p) (e : Ex H H') : PairV H' r p := let ⟨a, k, k', e1, e2, e3, e4⟩ := h; ⟨a, k, k', e1, e _ _ e2, e3.ex e, e4.ex e⟩
def yearB (p : V × V) : Bool := btw p.1 (-10000) 10000 && btw p.2 (-1000000) 1000000
/-- what is no tuple of seen years -/
inductive Unseen (H : Hp) : V → Prop
  | kind {v : V} {k : Kd} : Dat H v k → k ≠ .tup → Unseen H v
  | many {a : Addr} {rs : List V} : H a = some (.tup rs) → (rs.length < 2 ∨ 6 < rs.length) → Unseen H (.ref a)
  | odd {a : Addr} {rs : List V} {ps : List (V × V)} : H a = some (.tup rs) → rs.length = ps.length → (∀ (i : Nat) r, rs[i]? = some r → ∃ p, ps[i]? = some p ∧ PairV H r p) → (∃ p ∈ ps, yearB p = false) → Unseen H (.ref a)
  | down {a : Addr} {rs : List V} {ps : List (Int × Int)} : H a = some (.tup rs) → rs.length = ps.length → (∀ (i : Nat) r, rs[i]? = some r → ∃ p, ps[i]? = some p ∧ PairAt H r p) → (∀ p ∈ ps, (-10000 ≤ p.1 ∧ p.1 ≤ 10000) ∧ (-1000000 ≤ p.2 ∧ p.2 ≤ 1000000)) → (∃ (i : Nat) (p q : Int × Int), ps[i]? = some p ∧ ps[i + 1]? = some q ∧ ¬ p.1 < q.1) → Unseen H (.ref a)
theorem Unseen.ex {H H' : Hp} {v : V} (h : Unseen H v) (e : Ex H H') : Unseen H' v := by
  cases h with
  | kind d n => exact .kind (d.ex e) n
  | many h n => exact .many (e _ _ h) n
  | odd h l each n => exact .odd (e _ _ h) l (fun i r z => let ⟨p, e1, e2⟩ := each i r z; ⟨p, e1, e2.ex e⟩) n
  | down h l each b n => exact .down (e _ _ h) l (fun i r z => let ⟨p, e1, e2⟩ := each i r z; ⟨p, e1, e2.ex e⟩) b n
section
variable {P : Program} {w : World} {K : PySem.W.Frag} {mg : Str → Option Value} {base : Heap}
def spYearV : Sp := fun vs H Q _ => ∃ r p, vs = [r] ∧ PairV H r p ∧ RetV (.bl (yearB p)) H Q
theorem any_is_seen_year (T : Txt K mg) : FnOk P w K mg base CX0 3 T.is_seen_year.f T.is_seen_year.fd ["thing"] spYearV := by
  have G_is_between : FnOk P w K mg base CX0 2 T.is_between.f T.is_between.fd ["thing", "least", "most"] spBetween := ok_is_between T
  refine T.is_seen_year.F.ok sc_is_seen_year (fun vs H Q E h => ?_) (fun cdv A outer s H vs Q E hr h => ?_)
  · obtain ⟨_, _, rfl, _⟩ := h
    rfl
  · obtain ⟨r, ⟨y, d⟩, rfl, ⟨a, k, k', rfl, h, hy, hd⟩, q⟩ := h
    refine ⟨_, (pss_cons (ps_if (PW.pt (pw_or (pt_not (pt_val (pe_callB call_isi (by rfl) T.isinstance (by decide +kernel) (pa_cons (pv 0) (pa_cons (pe_bltn (v := .ty "tuple") (by rfl) T.tuple (by decide +kernel) rfl) pa_nil))))) (pw_or1 (pt_cmpR op_ne (pe_callB call_len_seq (by rfl) T.len (by decide +kernel) (pa_cons (pv 0) pa_nil)) pe_int (nomark _)))))
        (pss_one (ps_ret pe_bl))
        pss_nil)
      (pss_cons (ps_asg (pv 0) (pg_tup rfl (pgs_cons (pg_name (i := 1) sc_is_seen_year.nd rfl (Or.inl rfl)) (pgs_cons (pg_name (i := 2) sc_is_seen_year.nd rfl (Or.inl rfl)) pgs_nil))))
      (pss_one (ps_ret (pe_and (pe_call G_is_between (hr.mono (by omega)) (by rfl) T.is_between.g T.is_between.F.kp T.is_between.b .nil pass0 (pa_cons (pv 1) (pa_cons (pe_un un_neg (pe_glob (v := .int 10000) rfl T.c_FARTHEST_SEEN_YEAR ⟨_, rfl⟩)) (pa_cons (pe_glob (v := .int 10000) rfl T.c_FARTHEST_SEEN_YEAR ⟨_, rfl⟩) pa_nil)))) (pe_one (pe_call G_is_between (hr.mono (by omega)) (by rfl) T.is_between.g T.is_between.F.kp T.is_between.b .nil pass0 (pa_cons (pv 2) (pa_cons (pe_un un_neg (pe_glob (v := .int 1000000) rfl T.c_FARTHEST_SEEN_DAY ⟨_, rfl⟩)) (pa_cons (pe_glob (v := .int 1000000) rfl T.c_FARTHEST_SEEN_DAY ⟨_, rfl⟩) pa_nil)))))))))), ?_⟩
    refine ⟨_, rfl, _, _, _, _, _, rfl, .ty _, (Dat.tup h).ty, kit_kd .tup .tup (by decide), _, rfl, iteF ?_⟩
    refine ⟨_, rfl, a, _, rfl, .inr (st_of h), rfl, _, rfl, iteF ?_⟩
    refine ⟨.ref a, rfl, a, _, rfl, st_of h, rfl, _, _, rfl, _, _, rfl, rfl, ?_⟩
    refine ⟨_, rfl, 10000, rfl, y, _, -10000, 10000, rfl, hy, fun H1 e1 => ⟨_, rfl, ?_⟩⟩
    unfold yearB at q
    cases b : btw y (-10000) 10000 with
    | false =>
      have z := q H1 e1
      rw [b, Bool.false_and] at z
      exact iteF z
    | true =>
      refine iteT ⟨_, rfl, 1000000, rfl, d, _, -1000000, 1000000, rfl, hd.ex e1, fun H2 e2 => ?_⟩
      have z := q H2 (e1.trans e2)
      rw [b, Bool.true_and] at z
      exact z
def spSeenNo : Sp := fun vs H Q _ => ∃ v, vs = [v] ∧ Unseen H v ∧ RetV (.bl false) H Q
theorem no_is_seen (T : Txt K mg) : FnOk P w K mg base CX0 4 T.is_seen.f T.is_seen.fd ["thing"] spSeenNo := by
  have G_is_seen_year : FnOk P w K mg base CX0 3 T.is_seen_year.f T.is_seen_year.fd ["thing"] spYearV := any_is_seen_year T
  refine T.is_seen.F.ok sc_is_seen (fun vs H Q E h => ?_) (fun cdv A outer s H vs Q E hr h => ?_)
  · obtain ⟨_, rfl, _⟩ := h
    rfl
  · obtain ⟨v, rfl, un, q⟩ := h
    have q0 := q H (Ex.refl H)
    refine ⟨_, (pss_cons (ps_if (PW.pt (pw_or (pt_not (pt_val (pe_callB call_isi (by rfl) T.isinstance (by decide +kernel) (pa_cons (pv 0) (pa_cons (pe_bltn (v := .ty "tuple") (by rfl) T.tuple (by decide +kernel) rfl) pa_nil))))) (pw_or1 (pt_not (pt_chain op_le op_le (pe_glob (v := .int 2) rfl T.c_FEWEST_SEEN ⟨_, rfl⟩) (pe_callB call_len_seq (by rfl) T.len (by decide +kernel) (pa_cons (pv 0) pa_nil)) (pe_glob (v := .int 6) rfl T.c_MOST_SEEN ⟨_, rfl⟩))))))
        (pss_one (ps_ret pe_bl))
        pss_nil)
      (pss_cons (ps_if (pt_not (pt_val (pe_callB (cr_all rfl) (by rfl) T.all (by decide +kernel) (pa_cons (pe_lc (own := [("pair", 1)]) (g := gName 1) (by rfl) sc_is_seen.nd (pi_tup (pv 0)) (blkOk_by (own := [("pair", 1)]) (N := ["thing", "pair", "later"]) (sc := defScope s_is_seen) (by decide +kernel)) (fun _ _ _ _ _ => (pg_name (i := 1) sc_is_seen.nd rfl (Or.inl rfl))) (fun _ _ _ _ _ => pts_nil) (fun _ _ _ _ _ => (pe_call G_is_seen_year (hr.mono (by omega)) (by rfl) T.is_seen_year.g T.is_seen_year.F.kp T.is_seen_year.b .nil pass0 (pa_cons (pv 1) pa_nil)))) pa_nil))))
        (pss_one (ps_ret pe_bl))
        pss_nil)
      (pss_one (ps_ret (pe_callB (cr_all rfl) (by rfl) T.all (by decide +kernel) (pa_cons (pe_lc (own := [("pair", 1), ("later", 2)]) (g := gTup K 2 (gCons (gName 1) (gCons (gName 2) gNil))) (by rfl) sc_is_seen.nd (RZ.pi_zipA (by rfl) T.zip (pa_cons (pv 0) (pa_cons (pe_slice sl_tup (pv 0) (po_some pe_int) po_none) pa_nil))) (blkOk_by (own := [("pair", 1), ("later", 2)]) (N := ["thing", "pair", "later"]) (sc := defScope s_is_seen) (by decide +kernel)) (fun _ _ _ _ _ => (pg_tup rfl (pgs_cons (pg_name (i := 1) sc_is_seen.nd rfl (Or.inl rfl)) (pgs_cons (pg_name (i := 2) sc_is_seen.nd rfl (Or.inl rfl)) pgs_nil)))) (fun _ _ _ _ _ => pts_nil) (fun _ _ _ _ _ => (pe_cmpR op_lt (pe_ix (show IxR _ (rIxT K) from ix_tup) (pv 1) pe_int (fun _ _ => rfl)) (pe_ix (show IxR _ (rIxT K) from ix_tup) (pv 2) pe_int (fun _ _ => rfl)) (nomark _)))) pa_nil)))))), ?_⟩
    have parts : (∃ k, Dat H v k ∧ k ≠ .tup) ∨ ∃ a rs, v = .ref a ∧ H a = some (.tup rs) ∧ ((rs.length < 2 ∨ 6 < rs.length) ∨ ∃ (ps : List (V × V)), rs.length = ps.length ∧ (∀ (i : Nat) r, rs[i]? = some r → ∃ p, ps[i]? = some p ∧ PairV H r p) ∧
        ((∃ p ∈ ps, yearB p = false) ∨ ((∀ p ∈ ps, yearB p = true) ∧ ∃ (zs : List (Int × Int)), ps = zs.map (fun z => (V.int z.1, V.int z.2)) ∧ ∃ (i : Nat) (p q : Int × Int), zs[i]? = some p ∧ zs[i + 1]? = some q ∧ ¬ p.1 < q.1))) := by
      cases un with
      | kind d n => exact .inl ⟨_, d, n⟩
      | @many a rs h n => exact .inr ⟨a, rs, rfl, h, .inl n⟩
      | @odd a rs ps h l each n => exact .inr ⟨a, rs, rfl, h, .inr ⟨ps, l, each, .inl n⟩⟩
      | @down a rs ps h l each b n =>
        refine .inr ⟨a, rs, rfl, h, .inr ⟨ps.map (fun z => (V.int z.1, V.int z.2)), by rw [List.length_map]; exact l, fun i r e => ?_, .inr ⟨fun p hp => ?_, ps, rfl, n⟩⟩⟩
        · obtain ⟨p, e1, c, e2, e3⟩ := each i r e
          exact ⟨(.int p.1, .int p.2), by rw [List.getElem?_map, e1]; rfl, c, _, _, e2, e3, .int _, .int _⟩
        · obtain ⟨z, hz, rfl⟩ := List.mem_map.mp hp
          unfold yearB
          rw [btw_yes (b z hz).1, btw_yes (b z hz).2]
          rfl
    rcases parts with ⟨k, d, n⟩ | ⟨a, rs, rfl, h, rest⟩
    · refine ⟨_, rfl, _, _, _, _, _, rfl, .ty _, d.ty, kit_kd _ .tup (by decide), _, rfl, ?_⟩
      rw [show Kd.isa k .tup = false by cases k <;> first | rfl | exact absurd rfl n]
      exact iteT (iteT q0)
    refine ⟨_, rfl, _, _, _, _, _, rfl, .ty _, (Dat.tup h).ty, kit_kd .tup .tup (by decide), _, rfl, iteF ?_⟩
    refine ⟨_, rfl, a, rs, rfl, .inr (st_of h), _, _, rfl, rfl, _, rfl, ?_⟩
    by_cases l2 : (2 : Int) ≤ ((rs.length : Nat) : Int)
    case neg =>
      rw [if_neg (by rw [decide_eq_false l2]; decide)]
      exact ⟨_, rfl, iteT q0⟩
    rw [if_pos (decide_eq_true l2)]
    refine ⟨_, _, rfl, rfl, _, rfl, ?_⟩
    by_cases l6 : ((rs.length : Nat) : Int) ≤ 6
    case neg =>
      rw [decide_eq_false l6]
      exact iteT q0
    rw [decide_eq_true l6]
    rcases rest with n | ⟨ps, l, each, rest⟩
    · omega
    refine iteF ⟨_, rfl, a, rfl, ⟨_, st_of h⟩, fun D1 hD1 => ?_⟩
    refine lc_tup (xs := rs) (Cw H (fun _ => true) (fun i => .bl (yearB (ps[i]?.getD (.non, .non)))) D1) ⟨hD1, Ex.new hD1, upd_same⟩ (fun _ H' _ c => st_of (c.2.1 _ _ h)) (fun i x H' hi c => ?_) (fun H1 c => ?_)
    · obtain ⟨p, ep, hp⟩ := each _ _ hi
      have lt := (List.getElem?_eq_some_iff.mp hi).1
      refine ⟨rfl, cw_turn c (by omega) (fun Ha ea Qa qa => qa Ha (Ex.refl Ha)) fun _ Ha ea Qa qa => ⟨_, rfl, x, p, rfl, hp.ex ea, fun Hb eb => ?_⟩⟩
      rw [ep] at qa
      exact qa Hb eb
    obtain ⟨_, e1, h1⟩ := c
    rw [given_bls] at h1
    refine ⟨D1, _, rfl, sq_of h1, ?_⟩
    rw [l, range_map ps (V.non, V.non) yearB]
    rcases rest with ⟨p, hp, no⟩ | ⟨yes, zs, rfl, i, p, q', e, e', no⟩
    · rw [show (ps.map yearB).all id = false from List.all_eq_false.mpr ⟨_, List.mem_map_of_mem hp, by rw [no]; decide⟩]
      exact ⟨_, rfl, iteT (q H1 e1)⟩
    · rw [show ((zs.map fun z => (V.int z.1, V.int z.2)).map yearB).all id = true from List.all_eq_true.mpr fun b hb => by
        obtain ⟨p, hp, rfl⟩ := List.mem_map.mp hb
        exact yes p hp]
      refine ⟨_, rfl, iteF ?_⟩
      refine ⟨_, rfl, _, rfl, 1, rfl, a, rs, rfl, st_of (e1 _ _ h), ?_, fun p2 n2 => ?_⟩
      · have at1 : HT.sIx rs.length 0 (some 1) = min 1 rs.length := by unfold HT.sIx; simp
        rw [at1]
        omega
      rw [cut_one]
      have e2 : Ex H (upd H1 p2 (.tup (rs.drop 1))) := e1.trans (Ex.new n2)
      rw [List.length_map] at l
      refine ⟨a, p2, rs, rs.drop 1, rfl, .inr ⟨st_of (e2 _ _ h), st_of upd_same, fun D2 hD2 => ?_⟩⟩
      refine lc_it (walk_zipU (xs := rs) (ys := rs.drop 1) (n := rs.length - 1) (by rw [List.length_drop]; omega)) (Cw (upd H1 p2 (.tup (rs.drop 1))) (fun _ => true) (fun i => .bl (decide ((zs[i]?.getD (0, 0)).1 < (zs[i + 1]?.getD (0, 0)).1))) D2) ⟨hD2, Ex.new hD2, upd_same⟩ (fun i H' _ c => ⟨st_of (c.2.1 _ _ (e2 _ _ h)), st_of (c.2.1 _ _ upd_same)⟩) ?_ ?_
      · rintro j v H3 H4 hj c ⟨t, x, y, rfl, nt, rfl, ex, ey⟩
        have ey : rs[j + 1]? = some y := by rw [← ey]; show _ = (rs.drop 1)[j]?; rw [List.getElem?_drop, Nat.add_comm]
        obtain ⟨u, eu, b, _, _, rfl, hb, _⟩ := each _ _ ex
        obtain ⟨u', eu', b', _, _, rfl, hb', _⟩ := each _ _ ey
        rw [List.getElem?_map] at eu eu'
        obtain ⟨z, ez, rfl⟩ := Option.map_eq_some_iff.mp eu
        obtain ⟨z', ez', rfl⟩ := Option.map_eq_some_iff.mp eu'
        have c4 : Cw (upd H1 p2 (.tup (rs.drop 1))) (fun _ => true) (fun i => .bl (decide ((zs[i]?.getD (0, 0)).1 < (zs[i + 1]?.getD (0, 0)).1))) D2 j (upd H3 t (.tup [.ref b, .ref b'])) := ⟨c.1, c.2.1.trans (Ex.new nt), Ex.new nt _ _ c.2.2⟩
        refine ⟨t, _, rfl, st_of upd_same, rfl, _, _, rfl, _, _, rfl, rfl, rfl, cw_turn c4 (by omega) (fun Ha ea Qa qa => qa Ha (Ex.refl Ha)) fun _ Ha ea Qa qa => ?_⟩
        rw [ez, ez'] at qa
        exact ⟨_, rfl, b, _, 0, _, rfl, rfl, st_of (ea _ _ (e2 _ _ hb)), rfl, _, rfl, b', _, 0, _, rfl, rfl, st_of (ea _ _ (e2 _ _ hb')), rfl, _, _, rfl, rfl, qa Ha (Ex.refl Ha)⟩
      · rintro H3 ⟨_, e3, h3⟩
        rw [given_bls] at h3
        refine ⟨D2, _, rfl, sq_of h3, ?_⟩
        have i1 := (List.getElem?_eq_some_iff.mp e').1
        rw [show ((List.range (rs.length - 1)).map fun i => decide ((zs[i]?.getD (0, 0)).1 < (zs[i + 1]?.getD (0, 0)).1)).all id = false from List.all_eq_false.mpr ⟨_, List.mem_map_of_mem (List.mem_range.mpr (show i < rs.length - 1 by omega)), by
          rw [e, e']
          show ¬ decide (p.1 < q'.1) = true
          rw [decide_eq_false no]
          decide⟩]
        exact q H3 (e2.trans e3)
def spNeedSeenNo (C : Addr) : Sp := fun vs H _ E => ∃ v, vs = [v] ∧ Unseen H v ∧ ∀ H', Ex H H' → E (.ref C) none H'
theorem no_need_seen (T : Txt K mg) : FnOk P w K mg base (L2N.CX P w) 5 T.need_seen.f T.need_seen.fd ["thing"] (spNeedSeenNo T.C_NoSeen) := by
  have G_is_seen : FnOk P w K mg base CX0 4 T.is_seen.f T.is_seen.fd ["thing"] spSeenNo := no_is_seen T
  refine fun_okN T.need_seen.F sc_need_seen (fun vs H Q E h => ?_) (fun cdv A outer s H vs Q E hr h => ?_)
  · obtain ⟨_, rfl, _⟩ := h
    rfl
  · obtain ⟨v, rfl, h, q⟩ := h
    refine ⟨_, (pss_one (ps_if (pt_not (pt_val (pe_call G_is_seen (hr.mono (by omega)) (by rfl) T.is_seen.g T.is_seen.F.kp T.is_seen.b .nil pass0 (pa_cons (pv 0) pa_nil))))
        (pss_one (L2N.ps_raise rfl (L2N.takes_of rfl rfl rfl rfl) (L2N.pmk_own PySem.F.excBase_ValueError T.err_NoSeen.ex T.g_NoSeen T.err_NoSeen.kp (raises_own T.err_NoSeen.sb T.err_NoSeen.tp) rfl)))
        pss_nil)), ?_⟩
    exact ⟨_, rfl, v, rfl, h, fun H1 e1 => ⟨_, rfl, iteT (q H1 e1)⟩⟩
def spMostNo (C : Addr) : Sp := fun vs H _ E => ∃ v k, vs = [v] ∧ Dat H v k ∧ btw v 1 12 = false ∧ ∀ H', Ex H H' → E (.ref C) none H'
theorem no_need_most (T : Txt K mg) : FnOk P w K mg base (L2N.CX P w) 3 T.need_most.f T.need_most.fd ["thing"] (spMostNo T.C_NoNumber) := by
  have G_is_between : FnOk P w K mg base CX0 2 T.is_between.f T.is_between.fd ["thing", "least", "most"] spBetween := ok_is_between T
  refine fun_okN T.need_most.F sc_need_most (fun vs H Q E h => ?_) (fun cdv A outer s H vs Q E hr h => ?_)
  · obtain ⟨_, _, rfl, _⟩ := h
    rfl
  · obtain ⟨v, k, rfl, d, no, q⟩ := h
    refine ⟨_, (pss_one (ps_if (pt_not (pt_val (pe_call G_is_between (hr.mono (by omega)) (by rfl) T.is_between.g T.is_between.F.kp T.is_between.b .nil pass0 (pa_cons (pv 0) (pa_cons pe_int (pa_cons (pe_glob (v := .int 12) rfl T.c_MOST_TOLD_BOTTOM ⟨_, rfl⟩) pa_nil))))))
        (pss_one (L2N.ps_raise rfl (L2N.takes_of rfl rfl rfl rfl) (L2N.pmk_own PySem.F.excBase_ValueError T.err_NoNumber.ex T.g_NoNumber T.err_NoNumber.kp (raises_own T.err_NoNumber.sb T.err_NoNumber.tp) rfl)))
        pss_nil)), ?_⟩
    refine ⟨_, rfl, _, _, _, _, rfl, d, fun H1 e1 => ⟨_, rfl, ?_⟩⟩
    rw [no]
    exact iteT (q H1 e1)
/-- both refusals of lands_of -/
def spLandsNo (CS CN : Addr) : Sp := fun vs H _ E => ∃ v k x, vs = [v, x] ∧ ((Unseen H v ∧ ∀ H', Ex H H' → E (.ref CS) none H') ∨ (∃ a rs ps, v = .ref a ∧ Seen H a rs ps ∧ Dat H x k ∧ btw x 1 12 = false ∧ ∀ H', Ex H H' → E (.ref CN) none H'))
/-- need_seen, whatever it is asked -/
def spNeedSeenB (C : Addr) : Sp := fun vs H Q E => spNeedSeenNo C vs H Q E ∨ spNeedSeen vs H Q E
theorem both_need_seen (T : Txt K mg) : FnOk P w K mg base (L2N.CX P w) 5 T.need_seen.f T.need_seen.fd ["thing"] (spNeedSeenB T.C_NoSeen) := by
  have N := no_need_seen (P := P) (w := w) (base := base) T
  have G_is_seen : FnOk P w K mg base CX0 4 T.is_seen.f T.is_seen.fd ["thing"] spSeen := ok_is_seen T
  have Y : FnOk P w K mg base (L2N.CX P w) 5 T.need_seen.f T.need_seen.fd ["thing"] spNeedSeen := by
    refine fun_okN T.need_seen.F sc_need_seen (fun vs H Q E h => ?_) (fun cdv A outer s H vs Q E hr h => ?_)
    · obtain ⟨_, _, _, rfl, _⟩ := h
      rfl
    · obtain ⟨a, rs, ps, rfl, h, q⟩ := h
      refine ⟨_, (pss_one (ps_if (pt_not (pt_val (pe_call G_is_seen (hr.mono (by omega)) (by rfl) T.is_seen.g T.is_seen.F.kp T.is_seen.b .nil pass0 (pa_cons (pv 0) pa_nil))))
        (pss_one (L2N.ps_raise rfl (L2N.takes_of rfl rfl rfl rfl) (L2N.pmk_own PySem.F.excBase_ValueError T.err_NoSeen.ex T.g_NoSeen T.err_NoSeen.kp (raises_own T.err_NoSeen.sb T.err_NoSeen.tp) rfl)))
        pss_nil)), ?_⟩
      exact ⟨_, rfl, a, rs, ps, rfl, h, fun H1 e1 => ⟨_, rfl, iteF (q H1 e1)⟩⟩
  exact ⟨fun vs H Q E h => h.elim (N.len _ _ _ _) (Y.len _ _ _ _), fun A outer s H args us vs Q E hr e0 hb r h => h.elim (N.run A outer s H args us vs Q E hr e0 hb r) (Y.run A outer s H args us vs Q E hr e0 hb r)⟩
theorem no_lands_of (T : Txt K mg) : FnOk P w K mg base (L2N.CX P w) 6 T.lands_of.f T.lands_of.fd ["seen", "most"] (spLandsNo T.C_NoSeen T.C_NoNumber) := by
  have G_need_seen : FnOk P w K mg base (L2N.CX P w) 5 T.need_seen.f T.need_seen.fd ["thing"] (spNeedSeenB T.C_NoSeen) := both_need_seen T
  have G_need_most : FnOk P w K mg base (L2N.CX P w) 3 T.need_most.f T.need_most.fd ["thing"] (spMostNo T.C_NoNumber) := no_need_most T
  have G_possible_days : FnOk P w K mg base CX0 1 T.possible_days.f T.possible_days.fd ["seen"] spPossD := ok_possible_days T
  have G_possible_shifts : FnOk P w K mg base CX0 2 T.possible_shifts.f T.possible_shifts.fd ["seen", "days", "top", "bottom"] spShifts := ok_possible_shifts T
  have G_common_measure : FnOk P w K mg base CX0 1 T.common_measure.f T.common_measure.fd ["one", "other"] spGcd := ok_common_measure T
  refine fun_okN T.lands_of.F sc_lands_of (fun vs H Q E h => ?_) (fun cdv A outer s H vs Q E hr h => ?_)
  · obtain ⟨_, _, _, rfl, _⟩ := h
    rfl
  · obtain ⟨v, k, x, rfl, h⟩ := h
    refine ⟨_, (pss_cons (ps_expr (pe_callS G_need_seen (hr.mono (by omega)) (by rfl) T.need_seen.g T.need_seen.F.kp T.need_seen.b (fun σ => L2N.passAt (L2N.takes_of rfl rfl rfl rfl) σ) (pa_cons (pv 0) pa_nil)))
      (pss_cons (ps_expr (pe_callS G_need_most (hr.mono (by omega)) (by rfl) T.need_most.g T.need_most.F.kp T.need_most.b (fun σ => L2N.passAt (L2N.takes_of rfl rfl rfl rfl) σ) (pa_cons (pv 1) pa_nil)))
      (pss_one (ps_ret (pe_callB (cr_sortL (d := 4) (by decide)) (by rfl) T.sorted (by decide +kernel) (pa_cons (pe_deep (own := [("days", 2), ("bottom", 3), ("top", 4), ("shift", 5)]) (g := gName 2) sc_lands_of.nd (brings_calm rfl (pi_list (pe_call G_possible_days (hr.mono (by omega)) (by rfl) T.possible_days.g T.possible_days.F.kp T.possible_days.b .nil pass0 (pa_cons (pv 0) pa_nil)))) (blkOk_by (own := [("days", 2), ("bottom", 3), ("top", 4), ("shift", 5)]) (N := ["seen", "most", "days", "bottom", "top", "shift"]) (sc := defScope s_lands_of) (by decide +kernel)) (fun _ _ _ _ _ => (pg_name (i := 2) sc_lands_of.nd rfl (Or.inl rfl))) (fun _ _ _ _ _ => pts_nil) (fun _ _ _ _ _ => (rest_for (vs := [3, 4, 5]) (g := gName 3) rfl rfl (fun _ e => by obtain rfl := Option.some.inj e; exact ⟨rfl, fun _ => rfl⟩) (brings_calm rfl (pi_range2 rfl T.range (pa_cons pe_int (pa_cons (pe_op op_add (pv 1) pe_int) pa_nil)))) (pg_name (i := 3) sc_lands_of.nd rfl (Or.inl rfl)) pts_nil (rest_for (vs := [4, 5]) (g := gName 4) rfl rfl (fun _ e => by obtain rfl := Option.some.inj e; exact ⟨rfl, fun _ => rfl⟩) (brings_calm rfl (pi_range1 rfl T.range (pa_cons (pv 3) pa_nil))) (pg_name (i := 4) sc_lands_of.nd rfl (Or.inl rfl)) (pts_one (pt_cmpR op_eq (pe_call G_common_measure (hr.mono (by omega)) (by rfl) T.common_measure.g T.common_measure.F.kp T.common_measure.b .nil pass0 (pa_cons (pv 4) (pa_cons (pv 3) pa_nil))) pe_int (nomark _))) (rest_for (vs := [5]) (g := gName 5) rfl rfl (fun _ e => by cases e) (brings_calm rfl (show PI _ _ _ (iList K _) from (pi_list (pe_call G_possible_shifts (hr.mono (by omega)) (by rfl) T.possible_shifts.g T.possible_shifts.F.kp T.possible_shifts.b .nil pass0 (pa_cons (pv 0) (pa_cons (pv 2) (pa_cons (pv 4) (pa_cons (pv 3) pa_nil)))))))) (pg_name (i := 5) sc_lands_of.nd rfl (Or.inl rfl)) pts_nil (rest_end rfl rfl (pe_tup (pa_cons (pv 2) (pa_cons (pv 4) (pa_cons (pv 3) (pa_cons (pv 5) pa_nil)))))) (by decide)) (by decide)) (by decide))) (by decide) (fun _ e => by obtain rfl := Option.some.inj e; exact ⟨rfl, fun _ _ => rfl⟩)) pa_nil)))))), ?_⟩
    rcases h with ⟨un, q⟩ | ⟨a, rs, ps, rfl, seen, d, no, q⟩
    · exact ⟨_, rfl, .inl ⟨v, rfl, un, q⟩⟩
    · exact ⟨_, rfl, .inr ⟨a, rs, ps, rfl, seen, fun H1 e1 => ⟨_, rfl, x, k, rfl, d.ex e1, no, fun H2 e2 => q H2 (e1.trans e2)⟩⟩⟩
end

/-! ### how many lands at most -/
theorem flat_len {f : Nat → List (List Int)} {c : Nat} : ∀ n : Nat, (∀ i, i < n → (f i).length ≤ c) → ((List.range n).flatMap f).length ≤ n * c
  | 0, _ => by simp
  | n + 1, h => by
    have a := flat_len n fun i hi => h i (by omega)
    have b := h n (by omega)
    rw [flat_more, List.length_append, Nat.succ_mul]
    omega
theorem lands_len {ps : List (Int × Int)} {p q : Int × Int} {m : Nat} (hm : m ≤ 12) (ne : ps ≠ []) : (landsAll ps p q m).length < 40000 := by
  have each : ∀ D : Int, (landsD ps m D).length ≤ 12 * (12 * 12) := fun D => by
    have l1 := flat_len (f := landsB ps D) (c := 12 * 12) m fun b hb => by
      have l2 := flat_len (f := landsT ps D (1 + b)) (c := 12) (1 + b) fun t _ => by
        unfold landsT
        split
        · have l3 := flat_len (f := fun k : Nat => [[D, (t : Int), ((1 + b : Nat) : Int), lowS ps D t (1 + b : Nat) + (k : Int)]]) (c := 1) (endS ps D t (1 + b : Nat) - lowS ps D t (1 + b : Nat)).toNat fun _ _ => Nat.le_refl 1
          have ne' : ps.map (leastS D t (1 + b : Nat)) ≠ [] := fun z => ne (List.map_eq_nil_iff.mp z)
          have x := (mxL_mem ne').2 _ (mnL_mem ne').1
          have le : (endS ps D t (1 + b : Nat) - lowS ps D t (1 + b : Nat)).toNat ≤ 12 := by
            unfold endS lowS
            omega
          exact Nat.le_trans l3 (by omega)
        · exact Nat.zero_le _
      exact Nat.le_trans l2 (Nat.mul_le_mul_right 12 (by omega))
    exact Nat.le_trans l1 (Nat.mul_le_mul_right _ hm)
  have two : (possD p q).length ≤ 2 := Nat.le_trans (List.length_filter_le _ _) (Nat.le_refl 2)
  have l0 := flat_len (f := fun i => landsD ps m ((possD p q)[i]?.getD 0)) (c := 12 * (12 * 12)) (possD p q).length fun i _ => each _
  have := Nat.mul_le_mul_right (12 * (12 * 12)) two
  unfold landsAll
  omega
theorem own_len {ps : List (Int × Int)} {p q : Int × Int} {m : Nat} (hm : m ≤ 8) : (ownAll ps p q m).length < 40000 := by
  have l0 := flat_len (f := ownD ps p q m) (c := 8 * (8 * 8)) 59 fun i _ => by
    have l1 := flat_len (f := ownB ps p q ((1 + i : Nat) : Int)) (c := 8 * 8) m fun b hb => by
      have l2 := flat_len (f := ownT ps p q ((1 + i : Nat) : Int) (1 + b)) (c := 8) (1 + b) fun t _ => by
        have l3 := flat_len (f := ownS ps p q ((1 + i : Nat) : Int) (1 + b) t) (c := 1) (fitsN p q ((1 + i : Nat) : Int) (1 + b) t) fun k _ => by
          unfold ownS
          split <;> simp
        have le : fitsN p q ((1 + i : Nat) : Int) (1 + b) t ≤ 8 := by
          unfold fitsN
          split <;> omega
        exact Nat.le_trans l3 (by omega)
      exact Nat.le_trans l2 (Nat.mul_le_mul_right 8 (by omega))
    exact Nat.le_trans l1 (Nat.mul_le_mul_right _ hm)
  unfold ownAll
  omega
/-! ### the land itself in lowest terms -/
theorem least_same {D T B S g y : Int} (hg : 0 < g) (hB : 0 < B) : fst D T B (S / g) y = fst D (T * g) (B * g) S y := by
  unfold fst
  rw [show (D * (B * g) + T * g) * y + S = S + g * ((D * B + T) * y) by rw [← Int.mul_assoc, ← Int.add_mul, Int.mul_right_comm, Int.mul_comm g]; omega]
  rw [Int.mul_comm B g, Int.mul_comm g B, Int.mul_comm B g, ← Int.ediv_ediv_of_nonneg (show 0 ≤ g by omega), Int.add_mul_ediv_left _ _ (by omega)]
  congr 1
  omega
theorem land_back {ps : List (Int × Int)} {m : Nat} {D S : Int} {T B : Nat} (hB : 1 ≤ B) (hT : T < B) (hD : 1 ≤ D ∧ D ≤ 59) (hm : B / Nat.gcd B T ≤ m) (all : ∀ p ∈ ps, meets D T B S p) : Back ps m [D, ((T / Nat.gcd B T : Nat) : Int), ((B / Nat.gcd B T : Nat) : Int), S / ((Nat.gcd B T : Nat) : Int)] := by
  have g0 : 0 < Nat.gcd B T := Nat.gcd_pos_of_pos_left T (by omega)
  have e1 : B / Nat.gcd B T * Nat.gcd B T = B := Nat.div_mul_cancel (Nat.gcd_dvd_left B T)
  have e2 : T / Nat.gcd B T * Nat.gcd B T = T := Nat.div_mul_cancel (Nat.gcd_dvd_right B T)
  have b1 : 1 ≤ B / Nat.gcd B T := Nat.div_pos (Nat.gcd_le_left T (by omega)) g0
  refine ⟨D, _, _, _, rfl, hD, ⟨b1, hm⟩, ?_, ?_, fun p hp => ?_⟩
  · exact Nat.lt_of_mul_lt_mul_right (a := Nat.gcd B T) (by rw [e1, e2]; exact hT)
  · rw [Nat.gcd_div (Nat.gcd_dvd_right B T) (Nat.gcd_dvd_left B T), Nat.gcd_comm T B, Nat.div_self g0]
  · unfold meets
    rw [least_same (by omega) (by omega), ← Int.natCast_mul, ← Int.natCast_mul, e1, e2]
    exact all p hp
/-- a near year begins on a near day -/
theorem fst_near {D T B S y : Int} (r1 : 1 ≤ D ∧ D ≤ 40) (r2 : 0 ≤ T ∧ T < B) (r3 : 1 ≤ B ∧ B ≤ 60) (hS : -50 ≤ S ∧ S ≤ 50) (hy : -1000 ≤ y ∧ y ≤ 1000) : -42000 ≤ fst D T B S y ∧ fst D T B S y ≤ 42000 := by
  rw [← beg_fst r3.1]
  unfold beg
  have a := mul_bd (x := y) (b := D) (K := 1000) (L := 40) ⟨by omega, by omega⟩ ⟨by omega, by omega⟩ (by decide)
  rw [Int.mul_comm y D] at a
  have d := Int.mul_ediv_add_emod (T * y + S) B
  have m0 := Int.emod_nonneg (T * y + S) (show B ≠ 0 by omega)
  have m1 := Int.emod_lt_of_pos (T * y + S) (show 0 < B by omega)
  have t := mul_bd (x := y) (b := T) (K := 1000) (L := B) ⟨by omega, by omega⟩ ⟨by omega, by omega⟩ (by decide)
  rw [Int.mul_comm y T] at t
  have lo : -1052 ≤ (T * y + S) / B := (Int.le_ediv_iff_mul_le (by omega)).mpr (by omega)
  have hi : (T * y + S) / B < 1052 := (Int.ediv_lt_iff_lt_mul (by omega)).mpr (by omega)
  omega
/-! ### what stays where only tables are written -/
section
variable {H H' : Hp}
theorem Dat.extN {v : V} {k : Kd} (d : Dat H v k) (e : LamX.ExtN H H') : Dat H' v k := by
  cases d with
  | non => exact .non
  | bl b => exact .bl b
  | int i => exact .int i
  | str x => exact .str x
  | lst h => exact .lst (e _ _ h fun _ z => by cases z)
  | tup h => exact .tup (e _ _ h fun _ z => by cases z)
theorem PairAt.extN {r : V} {p : Int × Int} (h : PairAt H r p) (e : LamX.ExtN H H') : PairAt H' r p := let ⟨a, er, ha⟩ := h; ⟨a, er, e _ _ ha (fun _ z => by cases z)⟩
theorem PairV.extN {r : V} {p : V × V} (h : PairV H r p) (e : LamX.ExtN H H') : PairV H' r p := let ⟨a, k, k', e1, e2, e3, e4⟩ := h; ⟨a, k, k', e1, e _ _ e2 (fun _ z => by cases z), e3.extN e, e4.extN e⟩
theorem Seen.extN {a : Addr} {rs : List V} {ps : List (Int × Int)} (h : Seen H a rs ps) (e : LamX.ExtN H H') : Seen H' a rs ps := ⟨e _ _ h.at_ (fun _ z => by cases z), h.len, fun i r z => let ⟨p, e1, e2⟩ := h.each i r z; ⟨p, e1, e2.extN e⟩, h.ok⟩
theorem Unseen.extN {v : V} (h : Unseen H v) (e : LamX.ExtN H H') : Unseen H' v := by
  cases h with
  | kind d n => exact .kind (d.extN e) n
  | many h n => exact .many (e _ _ h fun _ z => by cases z) n
  | odd h l each n => exact .odd (e _ _ h fun _ z => by cases z) l (fun i r z => let ⟨p, e1, e2⟩ := each i r z; ⟨p, e1, e2.extN e⟩) n
  | down h l each b n => exact .down (e _ _ h fun _ z => by cases z) l (fun i r z => let ⟨p, e1, e2⟩ := each i r z; ⟨p, e1, e2.extN e⟩) b n
end

/-! ### tuples cut and put together -/
theorem TupsAt.at {H : Hp} {rs : List V} {L : List (List Int)} (all : TupsAt H rs L) {i : Nat} {r : V} (e : rs[i]? = some r) : ∃ ns a, L[i]? = some ns ∧ r = .ref a ∧ H a = some (.tup (ns.map V.int)) := by
  induction all generalizing i with
  | nil => cases e
  | cons x _ ih => cases i with
    | zero => cases e; exact ⟨_, _, rfl, rfl, x⟩
    | succ i => exact ih e
section
variable {K : PySem.W.Frag} {H : Hp} {Q : VK} {a b : Addr} {xs ys : List V}
theorem catA_to (ha : H a = some (.tup xs)) (hb : H b = some (.tup ys)) (small : xs.length + ys.length ≤ sizeLine) (q : ∀ p H', Ex H H' → H' p = some (.tup (xs ++ ys)) → Q (.ref p) H') : rCatA K (.ref a) (.ref b) H Q :=
  ⟨a, b, xs, ys, rfl, rfl, st_of ha, st_of hb, small, fun e => q b H (Ex.refl H) (by rw [e]; exact hb), fun _ e => q a H (Ex.refl H) (by rw [e, List.append_nil]; exact ha), fun _ _ p np => q p _ (Ex.new np) upd_same⟩
theorem slA_to {lo hi : Option Int} (ha : H a = some (.tup xs)) (q : ∀ p H', Ex H H' → H' p = some (.tup (cutV xs lo hi)) → Q (.ref p) H') : rSlA K (.ref a) lo hi H Q :=
  ⟨a, xs, rfl, st_of ha, fun ⟨e1, e2⟩ => q a H (Ex.refl H) (by unfold cutV; rw [e1, e2, List.drop_zero, Nat.sub_zero, List.take_length]; exact ha), fun _ p np => q p _ (Ex.new np) upd_same⟩
theorem slA_ex {lo hi : Option Int} (ha : H a = some (.tup xs)) (q : ∀ p H', Ex H H' → H' p = some (.tup (cutV xs lo hi)) → Q (.ref p) H') : ∃ a' xs', V.ref a = .ref a' ∧ SqT K H a' xs' ∧ (HT.sIx xs'.length 0 lo = 0 ∧ HT.sIx xs'.length xs'.length hi = xs'.length → Q (.ref a') H) ∧ (¬ (HT.sIx xs'.length 0 lo = 0 ∧ HT.sIx xs'.length xs'.length hi = xs'.length) → ∀ p, H p = none → Q (.ref p) (upd H p (.tup (cutV xs' lo hi)))) := slA_to (K := K) ha q
theorem cut_from {n : Nat} : cutV xs (some (n : Int)) none = xs.drop n := by
  unfold cutV
  have a : HT.sIx xs.length 0 (some (n : Int)) = min n xs.length := by
    unfold HT.sIx
    simp
    omega
  have b : HT.sIx xs.length xs.length none = xs.length := rfl
  rw [a, b]
  by_cases h : n ≤ xs.length
  · rw [Nat.min_eq_left h, List.take_of_length_le (by rw [List.length_drop]; omega)]
  · rw [Nat.min_eq_right (by omega), List.drop_of_length_le (show xs.length ≤ n by omega), Nat.sub_self, List.take_zero]
end
section
variable {H : Hp} {a c : Addr} {rs : List V} {ps : List (Int × Int)}
theorem Seen.take {k : Nat} (h : Seen H a rs ps) (hc : H c = some (.tup (rs.take k))) (h2 : 2 ≤ k) : Seen H c (rs.take k) (ps.take k) := by
  have few := h.ok.few
  refine ⟨hc, by rw [List.length_take, List.length_take, h.len], fun i r e => ?_, ⟨by rw [List.length_take]; omega, fun p hp => h.ok.bd p (List.mem_of_mem_take hp), h.ok.up.sublist (List.take_sublist k ps)⟩⟩
  have lt := (List.getElem?_eq_some_iff.mp e).1
  rw [List.length_take] at lt
  rw [List.getElem?_take_of_lt (by omega)] at e
  obtain ⟨p, ep, hp⟩ := h.each i r e
  exact ⟨p, by rw [List.getElem?_take_of_lt (by omega)]; exact ep, hp⟩
theorem Seen.bend {n : Nat} {p : Int × Int} {d : Int} {t : Addr} (h : Seen H a rs ps) (ep : ps[n]? = some p) (ht : H t = some (.tup [.int p.1, .int d])) (hd : -1000000 ≤ d ∧ d ≤ 1000000) (hc : H c = some (.tup (rs.set n (.ref t)))) : Seen H c (rs.set n (.ref t)) (ps.set n (p.1, d)) := by
  obtain ⟨lt, e⟩ := List.getElem?_eq_some_iff.mp ep
  have fsts : (ps.set n (p.1, d)).map (·.1) = ps.map (·.1) := by
    rw [List.map_set]
    refine List.ext_getElem? fun i => ?_
    by_cases z : n = i
    · subst z
      rw [List.getElem?_set_self (by rw [List.length_map]; exact lt), List.getElem?_map, ep]
      rfl
    · rw [List.getElem?_set_ne z]
  refine ⟨hc, by rw [List.length_set, List.length_set, h.len], fun i r er => ?_, ⟨by rw [List.length_set]; exact h.ok.few, fun q hq => ?_, ?_⟩⟩
  · by_cases z : n = i
    · subst z
      rw [List.getElem?_set_self (by have := h.len; omega)] at er
      cases er
      exact ⟨(p.1, d), List.getElem?_set_self lt, t, rfl, ht⟩
    · rw [List.getElem?_set_ne z] at er
      obtain ⟨q, eq, hq⟩ := h.each i r er
      exact ⟨q, (List.getElem?_set_ne z).trans eq, hq⟩
  · rcases List.mem_or_eq_of_mem_set hq with z | z
    · exact h.ok.bd q z
    · subst z
      exact ⟨(h.ok.bd p (List.mem_of_getElem? ep)).1, hd⟩
  · have up : (ps.map (·.1)).Pairwise (· < ·) := List.pairwise_map.mpr h.ok.up
    rw [← fsts] at up
    exact List.pairwise_map.mp up
end
/-- what is asked of rows: near ones, not too steep -/
structure Ask (H : Hp) (v : V) : Prop where
  ex : ∃ a rs ps p q, v = .ref a ∧ Seen H a rs ps ∧ NearS ps ∧ ps[0]? = some p ∧ ps[ps.length - 1]? = some q ∧ q.2 - p.2 < 60 * (q.1 - p.1)
theorem Ask.mono {H H' : Hp} {v : V} (h : Ask H v) (e : Ex H H') : Ask H' v := let ⟨a, rs, ps, p, q, ev, s, r⟩ := h.ex; ⟨a, rs, ps, p, q, ev, s.ex e, r⟩
theorem ask_of {H : Hp} {a : Addr} {rs : List V} {ps : List (Int × Int)} {D T B S : Int} (h : Seen H a rs ps) (r1 : 1 ≤ D ∧ D ≤ 40) (r2 : 0 ≤ T ∧ T < B) (near : NearS ps) (off : ∀ p ∈ ps, fst D T B S p.1 - 1 ≤ p.2 ∧ p.2 ≤ fst D T B S p.1 + 1) : Ask H (.ref a) := by
  have few := h.ok.few
  obtain ⟨p, ep⟩ : ∃ p, ps[0]? = some p := ⟨_, List.getElem?_eq_getElem (show 0 < ps.length by omega)⟩
  obtain ⟨q, eq⟩ : ∃ q, ps[ps.length - 1]? = some q := ⟨_, List.getElem?_eq_getElem (show ps.length - 1 < ps.length by omega)⟩
  have lt := h.ok.next (show 0 < ps.length - 1 by omega) ep eq
  have op := off p (List.mem_of_getElem? ep)
  have oq := off q (List.mem_of_getElem? eq)
  obtain ⟨_, w, _, _⟩ := between (D := D) (T := T) (B := B) (S := S) (p := (p.1, fst D T B S p.1)) (q := (q.1, fst D T B S q.1)) r2 rfl rfl lt
  refine ⟨a, rs, ps, p, q, rfl, h, near, ep, eq, ?_⟩
  have : (D + 1) * (q.1 - p.1) ≤ 41 * (q.1 - p.1) := Int.mul_le_mul_of_nonneg_right (by omega) (by omega)
  have w : fst D T B S q.1 - fst D T B S p.1 ≤ (D + 1) * (q.1 - p.1) := w
  omega
theorem sm_tups {H : Hp} {l l' : Addr} {rs rs' : List V} {L : List (List Int)} {n : Nat} (h : H l = some (.lst rs)) (h' : H l' = some (.lst rs')) (t : TupsAt H rs L) (t' : TupsAt H rs' L) (small : L.length ≤ 1000) (four : ∀ x ∈ L, x.length = 4) : Sm H (n + 2) (.ref l) (.ref l') := by
  refine .lst h h' (by rw [t.len, t'.len]) (by rw [t.len]; exact small) fun i x y ex ey => ?_
  obtain ⟨ns, a, e1, rfl, ha⟩ := t.at ex
  obtain ⟨ms, b, e2, rfl, hb⟩ := t'.at ey
  rw [e1] at e2
  cases e2
  exact sm_ints ha hb (by rw [four ns (List.mem_of_getElem? e1)]; decide)
theorem lands_few {ps : List (Int × Int)} {p q : Int × Int} {m : Nat} (hm : m ≤ 8) (ne : ps ≠ []) : (landsAll ps p q m).length ≤ 1000 := by
  have topL : ∀ (D : Int) (b t : Nat), b ≤ 8 → (landsT ps D b t).length ≤ 8 := fun D b t hb => by
    unfold landsT
    split
    · have l3 := flat_len (f := fun k : Nat => [[D, (t : Int), (b : Int), lowS ps D t b + (k : Int)]]) (c := 1) (endS ps D t b - lowS ps D t b).toNat fun _ _ => Nat.le_refl 1
      have ne' : ps.map (leastS D t b) ≠ [] := fun z => ne (List.map_eq_nil_iff.mp z)
      have x := (mxL_mem ne').2 _ (mnL_mem ne').1
      have le : (endS ps D t b - lowS ps D t b).toNat ≤ 8 := by
        unfold endS lowS
        omega
      exact Nat.le_trans l3 (by omega)
    · exact Nat.zero_le _
  have botL : ∀ (D : Int) (b : Nat), b < 8 → (landsB ps D b).length ≤ 56 := fun D b hb => by
    unfold landsB
    cases b with
    | zero => exact Nat.le_trans (flat_len (c := 8) 1 fun t _ => topL D 1 t (by decide)) (by decide)
    | succ b =>
      rw [show 1 + (b + 1) = (b + 1) + 1 by omega, List.range_succ_eq_map, List.flatMap_cons, List.flatMap_map]
      have z : landsT ps D (b + 1 + 1) 0 = [] := if_neg (by rw [Nat.gcd_zero_left]; omega)
      rw [z, List.nil_append]
      have l := flat_len (f := fun t => landsT ps D (b + 1 + 1) (Nat.succ t)) (c := 8) (b + 1) fun t _ => topL D _ _ (by omega)
      have l' : ((List.range (b + 1)).flatMap fun t => landsT ps D (b + 1 + 1) (Nat.succ t)).length ≤ 56 := Nat.le_trans l (by omega)
      exact l'
  have dayL : ∀ D : Int, (landsD ps m D).length ≤ 448 := fun D => Nat.le_trans (flat_len (f := landsB ps D) (c := 56) m fun b hb => botL D b (by omega)) (by omega)
  have two : (possD p q).length ≤ 2 := Nat.le_trans (List.length_filter_le _ _) (Nat.le_refl 2)
  have l0 := flat_len (f := fun i => landsD ps m ((possD p q)[i]?.getD 0)) (c := 448) (possD p q).length fun i _ => dayL _
  unfold landsAll
  have := Nat.mul_le_mul_right 448 two
  omega
section
variable {H H' : Hp} {d : Addr} {n : Nat}
theorem Seen.exd {a : Addr} {rs : List V} {ps : List (Int × Int)} (sn : Seen H a rs ps) (k : Dk n H d) (e : ExD d H H') : Seen H' a rs ps := ⟨e.tup k sn.at_, sn.len, fun i r z => let ⟨p, e1, b, e2, e3⟩ := sn.each i r z; ⟨p, e1, b, e2, e.tup k e3⟩, sn.ok⟩
theorem Ask.exd {v : V} (h : Ask H v) (k : Dk n H d) (e : ExD d H H') : Ask H' v := let ⟨a, rs, ps, p, q, ev, s, r⟩ := h.ex; ⟨a, rs, ps, p, q, ev, s.exd k e, r⟩
end
theorem dps_tups {K : PySem.W.Frag} {H : Hp} {rs : List V} {L : List (List Int)} (h : TupsAt H rs L) : DpAll K H rs (L.map fun x => PyData.tuple (x.map PyData.int)) ∧ PyData.canLayAll0 (L.map fun x => PyData.tuple (x.map PyData.int)) = true ∧ PyData.depthAll (L.map fun x => PyData.tuple (x.map PyData.int)) ≤ 3 := by
  induction h with
  | nil => exact ⟨.nil, rfl, by decide⟩
  | @cons a ns rs L ha _ ih =>
    obtain ⟨i1, i2, i3⟩ := ih
    have l := lays_ints ns
    have dp := deep_ints ns
    refine ⟨.cons (.tup (st_of ha) (dps_ints ns)) i1, ?_, ?_⟩
    · rw [List.map_cons, PyData.canLayAll0, PyData.canLay0, l, i2]
      rfl
    · rw [List.map_cons, PyData.depthAll, PyData.depth]
      omega
theorem notin_no {K : PySem.W.Frag} {H : Hp} {Q : VK} {t l : Addr} {ns : List Int} {rs : List V} {L : List (List Int)} (ht : H t = some (.tup (ns.map V.int))) (hl : H l = some (.lst rs)) (at_ : TupsAt H rs L) (mem : ns ∈ L) (q : Q (.bl false) H) : rNotInD K (.ref t) (.ref l) H Q := by
  obtain ⟨d1, d2, d3⟩ := dps_tups (K := K) at_
  refine ⟨.tuple (ns.map PyData.int), _, .tup (st_of ht) (dps_ints ns), .lst (sq_of hl) d1, shaped_tup ns, ?_, ?_⟩
  · unfold SeqAt.shaped
    rw [PyData.canLay0, PyData.depth, d2, Bool.true_and]
    exact decide_eq_true (show _ ≤ 64 by omega)
  · have yes : ((L.map fun x => PyData.tuple (x.map PyData.int)).any fun z => PyData.eqv z (.tuple (ns.map PyData.int))) = true := List.any_eq_true.mpr ⟨_, List.mem_map_of_mem mem, by rw [PyData.eqv, eqv_ints]; exact decide_eq_true rfl⟩
    rw [yes]
    exact q
section
variable {H : Hp} {a c t : Addr} {rs : List V} {ps : List (Int × Int)}
theorem unseen_back (h : Seen H a rs ps) (hc : H c = some (.tup rs.reverse)) : Unseen H (.ref c) := by
  have few := h.ok.few
  have len := h.len
  refine .down (ps := ps.reverse) hc (by rw [List.length_reverse, List.length_reverse, len]) (fun i r e => ?_) (fun p hp => h.ok.bd p (List.mem_reverse.mp hp)) ?_
  · have lt := (List.getElem?_eq_some_iff.mp e).1
    rw [List.length_reverse] at lt
    rw [List.getElem?_reverse lt] at e
    obtain ⟨p, ep, hp⟩ := h.each _ r e
    refine ⟨p, ?_, hp⟩
    rw [List.getElem?_reverse (by omega), ← len]
    exact ep
  · obtain ⟨p, ep⟩ : ∃ p, ps[ps.length - 1]? = some p := ⟨_, List.getElem?_eq_getElem (show ps.length - 1 < ps.length by omega)⟩
    obtain ⟨q, eq⟩ : ∃ q, ps[ps.length - 2]? = some q := ⟨_, List.getElem?_eq_getElem (show ps.length - 2 < ps.length by omega)⟩
    have lt := h.ok.next (show ps.length - 2 < ps.length - 1 by omega) eq ep
    refine ⟨0, p, q, ?_, ?_, by omega⟩
    · rw [List.getElem?_reverse (by omega)]
      exact ep
    · rw [List.getElem?_reverse (by omega), show ps.length - 1 - (0 + 1) = ps.length - 2 by omega]
      exact eq
theorem unseen_more (h : Seen H a rs ps) (ht : H t = some (.tup [.int 20000, .int 5])) (hc : H c = some (.tup (rs ++ [.ref t]))) : Unseen H (.ref c) := by
  have len := h.len
  refine .odd (ps := ps.map (fun z => (V.int z.1, V.int z.2)) ++ [(.int 20000, .int 5)]) hc (by rw [List.length_append, List.length_append, List.length_map, len]; rfl) (fun i r e => ?_) ⟨(.int 20000, .int 5), by simp, by decide⟩
  by_cases z : i < rs.length
  · rw [List.getElem?_append_left z] at e
    obtain ⟨p, ep, b, e1, e2⟩ := h.each i r e
    refine ⟨(.int p.1, .int p.2), ?_, b, _, _, e1, e2, .int _, .int _⟩
    rw [List.getElem?_append_left (by rw [List.length_map]; omega), List.getElem?_map, ep]
    rfl
  · rw [List.getElem?_append_right (by omega)] at e
    have lt := (List.getElem?_eq_some_iff.mp e).1
    have z0 : i - rs.length = 0 := by
      have : i - rs.length < 1 := lt
      omega
    rw [z0] at e
    cases e
    refine ⟨(.int 20000, .int 5), ?_, t, _, _, rfl, ht, .int _, .int _⟩
    rw [List.getElem?_append_right (by rw [List.length_map]; omega), List.length_map, ← len, z0]
    rfl
end
theorem eq_same {K : PySem.W.Frag} {H : Hp} {Q : VK} {x y : V} (d : PyData) (hx : Dp K H x d) (hy : Dp K H y d) (sh : SeqAt.shaped d = true) (ev : PyData.eqv d d = true) (q : Q (.bl true) H) : rEqD K x y H Q := ⟨d, d, hx, hy, sh, sh, by rw [ev]; exact q⟩

theorem TabS_but {H H' : Hp} {P x : Addr} {q : Str} {zs : List V} (t : LamX.TabS H P q) (hx : H x = some (.lst zs)) (e : ExD x H H') : LamX.TabS H' P q := by
  obtain ⟨ps, hP, ok, all⟩ := t
  refine ⟨ps, e _ _ (fun z => by rw [z, hx] at hP; cases hP) hP, ok, fun pos cv h => ?_⟩
  obtain ⟨c, e1, e2⟩ := all pos cv h
  exact ⟨c, e1, e _ _ (fun z => by rw [z, hx] at e2; cases e2) e2⟩
theorem Dk.ne_fresh {n : Nat} {H : Hp} {d p : Addr} (h : Dk n H d) (hp : H p = none) : p ≠ d := fun z => by
  obtain ⟨_, _, _, hd, _⟩ := h
  rw [z, hd] at hp
  cases hp
/-- the cells and the table -/
structure Stood (p P : Addr) (cells : List V) (q : Str) (H : Hp) : Prop where
  hp : H p = some (.lst cells)
  tab : LamX.TabS H P q
theorem Stood.ex {p P : Addr} {cells : List V} {q : Str} {H H' : Hp} (h : Stood p P cells q H) (e : Ex H H') : Stood p P cells q H' := ⟨e _ _ h.hp, h.tab.ext e⟩
theorem Stood.exd {p P d : Addr} {cells : List V} {q : Str} {H H' : Hp} {n : Nat} (h : Stood p P cells q H) (pd : p ≠ d) (k : Dk n H d) (e : ExD d H H') : Stood p P cells q H' := by
  obtain ⟨_, _, _, hd, _⟩ := k
  exact ⟨e _ _ pd h.hp, TabS_but h.tab hd e⟩
section
variable {P : Program} {w : World} {K : PySem.W.Frag} {mg : Str → Option Value} {base : Heap}
theorem units65 {k : Nat} {A : Around} (hr : Room k A) : A.units + 65 < cLine := by
  have := (L2H.roomH_of hr).un
  omega
/-- lists may be written, all else stands -/
def ExL (H H' : Hp) : Prop := ∀ b o, H b = some o → (∀ zs, o ≠ .lst zs) → H' b = some o
theorem ExL.tab {H H' : Hp} {P : Addr} {q : Str} (e : ExL H H') (t : LamX.TabS H P q) : LamX.TabS H' P q := by
  obtain ⟨ps, hP, ok, all⟩ := t
  refine ⟨ps, e _ _ hP (fun _ z => by cases z), ok, fun pos cv h => ?_⟩
  obtain ⟨c, e1, e2⟩ := all pos cv h
  exact ⟨c, e1, e _ _ e2 (fun _ z => by cases z)⟩
theorem ExL.land {H H' : Hp} {v : V} {D T B S : Int} (e : ExL H H') (h : Land H v D T B S) : Land H' v D T B S := let ⟨a, ev, ha, r⟩ := h; ⟨a, ev, e _ _ ha (fun _ z => by cases z), r⟩
theorem cut_to {xs : List V} {n : Nat} : cutV xs none (some (n : Int)) = xs.take n := by
  unfold cutV
  have a : HT.sIx xs.length xs.length (some (n : Int)) = min n xs.length := by
    unfold HT.sIx
    simp
    omega
  have b : HT.sIx xs.length 0 none = 0 := rfl
  rw [a, b, List.drop_zero, Nat.sub_zero]
  by_cases h : n ≤ xs.length
  · rw [Nat.min_eq_left h]
  · rw [Nat.min_eq_right (by omega), List.take_length, List.take_of_length_le (by omega)]
theorem seen_of {H : Hp} {a : Addr} {rs : List V} {ps : List (Int × Int)} (t : TupsAt H rs (ps.map fun p => [p.1, p.2])) (h : H a = some (.tup rs)) (ok : SeenOk ps) : Seen H a rs ps := by
  refine ⟨h, by rw [t.len, List.length_map], fun i r e => ?_, ok⟩
  obtain ⟨ns, b, e1, e2, e3⟩ := t.at e
  rw [List.getElem?_map] at e1
  obtain ⟨p, ep, rfl⟩ := Option.map_eq_some_iff.mp e1
  exact ⟨p, ep, b, e2, e3⟩
theorem no_part {σ : L2.St} {H : Hp} {X : Option Int → Hp → Prop} (h : X none H) : tNoPart σ H X := h
theorem yes_if {σ : L2.St} {H : Hp} {X Y : Hp → Prop} (h : X H) : tYes σ H fun b H3 => if b = true then X H3 else Y H3 := by
  show if true = true then X H else Y H
  rw [if_pos rfl]
  exact h
theorem odd_most {H : Hp} {x : V} (h : x ∈ [V.non, .bl true, .int 0, .int 13, .str "1"]) : ∃ k, Dat H x k ∧ btw x 1 12 = false := by
  simp only [List.mem_cons, List.not_mem_nil, or_false] at h
  rcases h with rfl | rfl | rfl | rfl | rfl
  · exact ⟨_, .non, rfl⟩
  · exact ⟨_, .bl _, rfl⟩
  · exact ⟨_, .int _, rfl⟩
  · exact ⟨_, .int _, rfl⟩
  · exact ⟨_, .str _, rfl⟩
def spLawT (K : PySem.W.Frag) (PT : Addr) : Sp := fun vs H Q _ => ∃ (a : Addr) (ns : List Int), vs = [.ref a] ∧ SqL K H a (ns.map V.int) ∧ ns.length ≤ 63 ∧ H PT = some (.tbl #[]) ∧ ∀ H', Q (.bl true) H'
theorem ok_law (T : Txt K mg) {f c PT : Addr} {oc kV dc pm ct : Value} {od an : Option Addr} {sl : Array (Option Value)} (lk : K.lookup f = some ⟨oc, od, .func (PySem.W.fnOf "law" "law" (defArgs s_law) (defBody s_law) (defScope s_law) .none kV dc pm an (.ref c) ct), sl⟩) (cd : PySem.W.codeIn K (.ref c) "law" = true) (TB : LamX.TabB base mg c PT) :
    FnOk P w K mg base CX0 9 f (PySem.W.fnOf "law" "law" (defArgs s_law) (defBody s_law) (defScope s_law) .none kV dc pm an (.ref c) ct) ["script"] (spLawT K PT) := by
  have G_lands_of : FnOk P w K mg base CX0 6 T.lands_of.f T.lands_of.fd ["seen", "most"] spLandsAll := all_lands_of T
  have N_lands_of : FnOk P w K mg base (L2N.CX P w) 6 T.lands_of.f T.lands_of.fd ["seen", "most"] (spLandsNo T.C_NoSeen T.C_NoNumber) := no_lands_of T
  have G__law_all : FnOk P w K mg base CX0 2 T._law_all.f T._law_all.fd ["seen", "most"] spOwn := ok__law_all T
  have G__law_deck : FnOk P w K mg base CX0 1 T._law_deck.f T._law_deck.fd ["cell", "turn"] spDeck := ok__law_deck T
  have G__law_pick : FnOk P w K mg base CX0 1 T._law_pick.f T._law_pick.fd ["deck", "size"] spPick := ok__law_pick T
  have G__law_one : FnOk P w K mg base CX0 2 T._law_one.f T._law_one.fd ["deck", "some"] spOne := ok__law_one T
  have G__law_land : FnOk P w K mg base CX0 2 T._law_land.f T._law_land.fd ["deck", "long_so", "bottoms", "shifts"] spDraw := ok__law_land T
  have G__law_begin : FnOk P w K mg base CX0 1 T._law_begin.f T._law_begin.fd ["land", "year"] spBeg := ok__law_begin T
  have G__law_measure : FnOk P w K mg base CX0 1 T._law_measure.f T._law_measure.fd ["one", "other"] spGcd := ok__law_measure T
  have G__law_same : FnOk P w K mg base CX0 5 T._law_same.f T._law_same.fd ["told", "due"] (spSame 4) := ok__law_same T 4
  refine ⟨fun vs H Q E h => ?_, fun A outer s H args us vs Q E hr0 e0 hb r h => LamX.run_ofS lk cd sc_law hr0 e0 hb r ?_ fun hr => ?_⟩
  · obtain ⟨a, ns, rfl, _⟩ := h
    rfl
  · obtain ⟨a, ns, rfl, _⟩ := h
    rfl
  · obtain ⟨a, ns, rfl, hS, hlen, hT, q⟩ := h
    refine ⟨_, PSs.nox (pss_cons (ps_for PassesOwn.never rfl (pi_list (pe_slice sl_list (pe_op op_catL (pe_lst (pa_cons pe_int pa_nil)) (pv 0)) po_none (po_some pe_int))) (pg_name (i := 1) sc_law.nd rfl (Or.inl rfl))
        (pss_cons (ps_set (i := 2) sc_law.nd rfl (Or.inr rfl) (pe_call G__law_deck (hr.mono (by omega)) (by rfl) T._law_deck.g T._law_deck.F.kp T._law_deck.b .nil pass0 (pa_cons (pv 1) (pa_cons pe_int pa_nil))))
      (pss_cons (ps_set (i := 3) sc_law.nd rfl (Or.inr rfl) (pe_call G__law_land (hr.mono (by omega)) (by rfl) T._law_land.g T._law_land.F.kp T._law_land.b .nil pass0 (pa_cons (pv 2) (pa_cons pe_int (pa_cons pe_int (pa_cons pe_int pa_nil))))))
      (pss_cons (ps_set (i := 4) sc_law.nd rfl (Or.inr rfl) (pe_call G__law_one (hr.mono (by omega)) (by rfl) T._law_one.g T._law_one.F.kp T._law_one.b .nil pass0 (pa_cons (pv 2) (pa_cons (pe_lst (pa_cons pe_int (pa_cons pe_int (pa_cons pe_int pa_nil)))) pa_nil))))
      (pss_cons (ps_set (i := 5) sc_law.nd rfl (Or.inl rfl) (pe_slice sl_list (pe_callB (cr_sortedSet rfl) (by rfl) T.sorted (by decide +kernel) (pa_cons (pe_callTy (cr_setL rfl) (by rfl) T.set (by decide +kernel) (pa_cons (pe_op op_cat (pe_lc (own := [("k", 18)]) (g := gName 18) (by rfl) sc_law.nd (pi_range1 rfl T.range (pa_cons pe_int pa_nil)) (blkOk_by (own := [("k", 18)]) (N := ["script", "cell", "deck", "land", "far", "years", "year", "at", "day", "bent", "most", "rows", "common", "least", "odds", "odd", "seen", "part", "k"]) (sc := defScope s_law) (by decide +kernel)) (fun _ _ _ _ _ => (pg_name (i := 18) sc_law.nd rfl (Or.inl rfl))) (fun _ _ _ _ _ => pts_nil) (fun _ _ _ _ _ => (pe_op op_sub (pe_call G__law_pick (hr.mono (by omega)) (by rfl) T._law_pick.g T._law_pick.F.kp T._law_pick.b .nil pass0 (pa_cons (pv 2) (pa_cons (pe_op op_mul pe_int (pv 4)) pa_nil))) (pv 4)))) (pe_lst (pa_cons (pe_un un_neg (pv 4)) (pa_cons (pv 4) pa_nil)))) pa_nil)) pa_nil)) po_none (po_some pe_int)))
      (pss_cons (ps_set (i := 16) sc_law.nd rfl (Or.inr rfl) (pe_callTy call_tuple_of (by rfl) T.tuple (by decide +kernel) (pa_cons (pe_lc (own := [("year", 6)]) (g := gName 6) (by rfl) sc_law.nd (pi_list (pv 5)) (blkOk_by (own := [("year", 6)]) (N := ["script", "cell", "deck", "land", "far", "years", "year", "at", "day", "bent", "most", "rows", "common", "least", "odds", "odd", "seen", "part", "k"]) (sc := defScope s_law) (by decide +kernel)) (fun _ _ _ _ _ => (pg_name (i := 6) sc_law.nd rfl (Or.inl rfl))) (fun _ _ _ _ _ => pts_nil) (fun _ _ _ _ _ => (pe_tup (pa_cons (pv 6) (pa_cons (pe_call G__law_begin (hr.mono (by omega)) (by rfl) T._law_begin.g T._law_begin.F.kp T._law_begin.b .nil pass0 (pa_cons (pv 3) (pa_cons (pv 6) pa_nil))) pa_nil))))) pa_nil)))
      (pss_cons (ps_set (i := 7) sc_law.nd rfl (Or.inl rfl) (pe_call G__law_pick (hr.mono (by omega)) (by rfl) T._law_pick.g T._law_pick.F.kp T._law_pick.b .nil pass0 (pa_cons (pv 2) (pa_cons (pe_callB call_len_seq (by rfl) T.len (by decide +kernel) (pa_cons (pv 16) pa_nil)) pa_nil))))
      (pss_cons (ps_asg (pe_ix ix_tup (pv 16) (pv 7) (fun _ _ => rfl)) (pg_tup rfl (pgs_cons (pg_name (i := 6) sc_law.nd rfl (Or.inl rfl)) (pgs_cons (pg_name (i := 8) sc_law.nd rfl (Or.inl rfl)) pgs_nil))))
      (pss_cons (ps_set (i := 9) sc_law.nd rfl (Or.inl rfl) (pe_op op_catA (pe_op op_catA (pe_slice sl_tupA (pv 16) po_none (po_some (pv 7))) (pe_tup (pa_cons (pe_tup (pa_cons (pv 6) (pa_cons (pe_op op_sub (pe_op op_add (pv 8) (pe_call G__law_pick (hr.mono (by omega)) (by rfl) T._law_pick.g T._law_pick.F.kp T._law_pick.b .nil pass0 (pa_cons (pv 2) (pa_cons pe_int pa_nil)))) pe_int) pa_nil))) pa_nil))) (pe_slice sl_tupA (pv 16) (po_some (pe_op op_add (pv 7) pe_int)) po_none)))
      (pss_cons (ps_set (i := 10) sc_law.nd rfl (Or.inl rfl) (pe_op op_add pe_int (pe_call G__law_pick (hr.mono (by omega)) (by rfl) T._law_pick.g T._law_pick.F.kp T._law_pick.b .nil pass0 (pa_cons (pv 2) (pa_cons pe_int pa_nil)))))
      (pss_cons (ps_for PassesOwn.never rfl (pi_list (pe_lst (pa_cons (pv 16) (pa_cons (pv 9) (pa_cons (pe_slice sl_tupA (pv 16) po_none (po_some pe_int)) pa_nil))))) (pg_name (i := 11) sc_law.nd rfl (Or.inl rfl))
        (pss_one (ps_if (pt_not (pt_val (pe_call G__law_same (hr.mono (by omega)) (by rfl) T._law_same.g T._law_same.F.kp T._law_same.b .nil pass0 (pa_cons (pe_call G_lands_of (hr.mono (by omega)) (by rfl) T.lands_of.g T.lands_of.F.kp T.lands_of.b .nil pass0 (pa_cons (pv 11) (pa_cons (pv 10) pa_nil))) (pa_cons (pe_call G__law_all (hr.mono (by omega)) (by rfl) T._law_all.g T._law_all.F.kp T._law_all.b .nil pass0 (pa_cons (pv 11) (pa_cons (pv 10) pa_nil))) pa_nil)))))
        (pss_one (ps_ret pe_bl))
        pss_nil)))
      (pss_cons (ps_set (i := 12) sc_law.nd rfl (Or.inr rfl) (pe_call G__law_measure (hr.mono (by omega)) (by rfl) T._law_measure.g T._law_measure.F.kp T._law_measure.b .nil pass0 (pa_cons (pe_ix ix_tup (pv 3) pe_int (fun _ _ => rfl)) (pa_cons (pe_ix ix_tup (pv 3) pe_int (fun _ _ => rfl)) pa_nil))))
      (pss_cons (ps_set (i := 13) sc_law.nd rfl (Or.inl rfl) (pe_op op_catA (pe_tup (pa_cons (pe_ix ix_tup (pv 3) pe_int (fun _ _ => rfl)) pa_nil)) (pe_callTy call_tuple_of (by rfl) T.tuple (by decide +kernel) (pa_cons (pe_lc (own := [("part", 17)]) (g := gName 17) (by rfl) sc_law.nd (pi_tup (pe_slice sl_tupA (pv 3) (po_some pe_int) po_none)) (blkOk_by (own := [("part", 17)]) (N := ["script", "cell", "deck", "land", "far", "years", "year", "at", "day", "bent", "most", "rows", "common", "least", "odds", "odd", "seen", "part", "k"]) (sc := defScope s_law) (by decide +kernel)) (fun _ _ _ _ _ => (pg_name (i := 17) sc_law.nd rfl (Or.inl rfl))) (fun _ _ _ _ _ => pts_nil) (fun _ _ _ _ _ => (pe_op op_fdiv (pv 17) (pv 12)))) pa_nil))))
      (pss_cut (ps_if (PW.pt (pw_and (pt_cmpR op_le (pe_ix ix_tup (pv 13) pe_int (fun _ _ => rfl)) (pv 10) (nomark _)) (pw_and1 (pt_cmpR (op_notInD (units65 hr)) (pv 13) (pe_call G_lands_of (hr.mono (by omega)) (by rfl) T.lands_of.g T.lands_of.F.kp T.lands_of.b .nil pass0 (pa_cons (pv 16) (pa_cons (pv 10) pa_nil))) (by rfl)))))
        (pss_one (ps_ret pe_bl))
        pss_nil)
      (pss_cons (ps_set (i := 14) sc_law.nd rfl (Or.inl rfl) (pe_lst (pa_cons pe_non (pa_cons (pe_tup pa_nil) (pa_cons (pe_slice sl_tupA (pv 16) po_none (po_some pe_int)) (pa_cons (pe_callTy call_list_of (by rfl) T.b_list (by decide +kernel) (pa_cons (pv 16) pa_nil)) (pa_cons (pe_back (pv 16)) (pa_cons (pe_op op_catA (pv 16) (pe_tup (pa_cons (pe_tup (pa_cons pe_int (pa_cons pe_int pa_nil))) pa_nil))) (pa_cons (pe_tup (pa_cons (pe_tup (pa_cons pe_int (pa_cons pe_int pa_nil))) (pa_cons (pe_tup (pa_cons pe_int (pa_cons pe_bl pa_nil))) pa_nil))) pa_nil)))))))))
      (pss_cons (ps_for PassesOwn.never rfl (pi_list (pe_op op_cat (pv 14) (pe_lst (pa_cons (pe_op op_repT (pv 16) pe_int) pa_nil)))) (pg_name (i := 15) sc_law.nd rfl (Or.inr rfl))
        (pss_one (ps_if (pt_cmpR op_ne (pe_try (n := 6) T (by rfl) TB rfl (hr.mono (by omega)) (show LamX.LamS (defScope s_law) _ from LamX.lamS_by (by decide +kernel)) rfl (fun _ _ _ _ _ => rfl) (fun f c' A outer sZ HZ E hr => (pe_callS N_lands_of (hr.mono (by omega)) (by rfl) T.lands_of.g T.lands_of.F.kp T.lands_of.b (fun σ => L2N.passAt lamN_takes σ) (pa_cons (pv 15) (pa_cons pe_non pa_nil))))) pe_str (nomark _))
        (pss_one (ps_ret pe_bl))
        pss_nil)))
      (pss_one (ps_for PassesOwn.never rfl (pi_list (pe_lst (pa_cons pe_non (pa_cons pe_bl (pa_cons pe_int (pa_cons pe_int (pa_cons pe_str pa_nil))))))) (pg_name (i := 15) sc_law.nd rfl (Or.inr rfl))
        (pss_one (ps_if (pt_cmpR op_ne (pe_try (n := 6) T (by rfl) TB rfl (hr.mono (by omega)) (show LamX.LamS (defScope s_law) _ from LamX.lamS_by (by decide +kernel)) rfl (fun _ _ _ _ _ => rfl) (fun f c' A outer sZ HZ E hr => (pe_callS N_lands_of (hr.mono (by omega)) (by rfl) T.lands_of.g T.lands_of.F.kp T.lands_of.b (fun σ => L2N.passAt lamN_takes σ) (pa_cons (pv 16) (pa_cons (pv 15) pa_nil))))) pe_str (nomark _))
        (pss_one (ps_ret pe_bl))
        pss_nil))))))))))))))))))))
      (pss_one (ps_ret (pe_cmpR (op_eqD hr.units) (pe_call G_lands_of (hr.mono (by omega)) (by rfl) T.lands_of.g T.lands_of.F.kp T.lands_of.b .nil pass0 (pa_cons (pe_tup (pa_cons (pe_tup (pa_cons pe_int (pa_cons pe_int pa_nil))) (pa_cons (pe_tup (pa_cons pe_int (pa_cons pe_int pa_nil))) (pa_cons (pe_tup (pa_cons pe_int (pa_cons pe_int pa_nil))) pa_nil)))) (pa_cons pe_int pa_nil))) (pe_lst (pa_cons (pe_tup (pa_cons pe_int (pa_cons pe_int (pa_cons pe_int (pa_cons pe_int pa_nil))))) pa_nil)) (nomark _))))), ?_⟩
    obtain ⟨qn, hq⟩ : ∃ qn : Str, ("law" : Str) ++ ".<locals>." ++ "<lambda>" = qn := ⟨_, rfl⟩
    have t0 : LamX.TabS H PT qn := LamX.TabS.nil hT
    refine ⟨by show 1 ≤ sizeLine; decide, fun p0 n0 => ?_⟩
    refine ⟨_, rfl, p0, a, _, _, rfl, rfl, sq_of upd_same, ex_l (Ex.new n0) hS, ?_, fun p1 n1 => ?_⟩
    · rw [List.length_map]
      exact sz_of (by show 1 + ns.length ≤ 100000; omega)
    refine ⟨5, rfl, p1, _, rfl, sq_of upd_same, fun p2 n2 => ?_⟩
    refine ⟨p2, rfl, ⟨_, sq_of upd_same⟩, ?_⟩
    have y0 := Ex.new n0 (o := .lst [.int 0])
    have y1 := Ex.new n1 (o := .lst (V.int 0 :: ns.map V.int))
    have y2 := Ex.new n2 (o := .lst (cutV (V.int 0 :: ns.map V.int) none (some 5)))
    refine for_list (xs := cutV (V.int 0 :: ns.map V.int) none (some 5)) (fun i σ H' => (∃ z1 z2 z3 z4 z5 z6 z7 z8 z9 z10 z11 z12 z13 z14 z15 z16 z17 z18, σ = [some (.ref a), z1, z2, z3, z4, z5, z6, z7, z8, z9, z10, z11, z12, z13, z14, z15, z16, z17, z18]) ∧ Stood p2 PT (cutV (V.int 0 :: ns.map V.int) none (some 5)) qn H')
      ⟨⟨_, _, _, _, _, _, _, _, _, _, _, _, _, _, _, _, _, _, rfl⟩, upd_same, t0.ext (y0.trans (y1.trans y2))⟩ (fun i σ H' _ h => sq_of h.2.hp) ?_ ?_
    · clear t0 y0 y1 y2 n0 n1 n2
      rintro i x σ H1 hx ⟨⟨z1, z2, z3, z4, z5, z6, z7, z8, z9, z10, z11, z12, z13, z14, z15, z16, z17, z18, rfl⟩, st1⟩
      obtain ⟨cl, rfl⟩ := cells_int hx
      generalize cutV (V.int 0 :: ns.map V.int) none (some 5) = cells at st1 ⊢
      refine ⟨_, rfl, cl, 9, rfl, fun d H2 nd e2 k2 => ?_⟩
      have pd : p2 ≠ d := ne_of_none st1.hp nd
      refine ⟨_, rfl, d, 40, 6, 50, 9, rfl, k2, by omega, ⟨by decide, by decide⟩, ⟨by decide, by decide⟩, ⟨by decide, by decide⟩, fun v H3 D T' B S L3 bD bB bS1 bS2 e3 k3 => ?_⟩
      have st3 := (st1.ex e2).exd pd k2 e3
      obtain ⟨la, rfl, _, r1, r2, r3, r4⟩ := id L3
      clear e2 k2 e3 nd st1
      refine ⟨_, rfl, by show 3 ≤ sizeLine; decide, fun pl npl => ?_⟩
      have xl := Ex.new (o := .lst [.int 8, .int 40, .int 1000]) npl
      have k4 := k3.ex xl
      refine ⟨d, pl, _, _, rfl, k4, by omega, upd_same, k3.ne_fresh npl, ⟨by show 0 < 3; decide, by show 3 ≤ 1000; decide⟩, fun u H5 hu e5 k5 => ?_⟩
      obtain ⟨fr, rfl, bf⟩ : ∃ fr : Int, u = .int fr ∧ 1 ≤ fr ∧ fr ≤ 1000 := by
        simp only [List.mem_cons, List.not_mem_nil, or_false] at hu
        rcases hu with rfl | rfl | rfl
        · exact ⟨8, rfl, by decide, by decide⟩
        · exact ⟨40, rfl, by decide, by decide⟩
        · exact ⟨1000, rfl, by decide, by decide⟩
      have st5 := (st3.ex xl).exd pd k4 e5
      have L5 := e5.land k4 (L3.ex xl)
      clear st3 L3 k3 k4 xl e5 npl hu
      refine ⟨6, rfl, by decide, by decide, fun D1 hD1 => ?_⟩
      have D1d : D1 ≠ d := k5.ne_fresh hD1
      refine lc_range (lo := 0) (n := 6) (fun i H' => ∃ ms : List Int, H' D1 = some (.lst (ms.map V.int)) ∧ ms.length = i ∧ (∀ n ∈ ms, -fr ≤ n ∧ n ≤ fr) ∧ Dk (14 + i) H' d ∧ ∀ b o, b ≠ d → b ≠ D1 → H5 b = some o → H' b = some o) ⟨[], upd_same, rfl, fun _ z => (by cases z), k5.ex (Ex.new hD1), fun b o _ _ e => Ex.new hD1 _ _ e⟩ ?_ ?_
      · rintro i H' hi ⟨ms, hm, lm, bm, km, keep⟩
        refine ⟨rfl, yes_if ?_⟩
        refine ⟨_, rfl, _, rfl, _, _, rfl, rfl, cm_l (by omega), d, _, _, rfl, km, by omega, ⟨by omega, by omega⟩, fun r H7 q0 q1 e7 k7 => ⟨_, rfl, _, _, rfl, rfl, ms.map V.int, e7 _ _ D1d hm, ?_, ms ++ [r - fr], ?_, ?_, fun n hn => ?_, ?_, fun b o bd bD e => ?_⟩⟩
        · rw [List.length_map]
          exact Nat.lt_of_lt_of_le (show ms.length < 7 by omega) (by decide)
        · rw [List.map_append]
          exact upd_same
        · rw [List.length_append, lm]
          rfl
        · rcases List.mem_append.mp hn with z | z
          · exact bm n z
          · have := List.mem_singleton.mp z
            omega
        · obtain ⟨x1, x2, x3, hk, rk⟩ := k7
          exact ⟨x1, x2, x3, (upd_ne (Ne.symm D1d)).trans hk, rk⟩
        · exact (upd_ne bD).trans (e7 _ _ bd (keep b o bd bD e))
      rintro H6 ⟨ms, hm, lm, bm, k6, keep⟩
      have exl : ExL H5 H6 := fun b o e no => keep b o (fun z => by
          obtain ⟨x1, x2, x3, hk, _⟩ := k5
          rw [z, hk] at e
          cases e
          exact no _ rfl) (fun z => by rw [z, hD1] at e; cases e) e
      have st6 : Stood p2 PT cells qn H6 := ⟨keep _ _ pd (ne_of_none st5.hp hD1) st5.hp, exl.tab st5.tab⟩
      have L6 := exl.land L5
      clear st5 L5 k5 keep exl hD1 D1d
      refine ⟨_, rfl, fr, rfl, _, rfl, by show 2 ≤ sizeLine; decide, fun p7 n7 => ?_⟩
      have x7 := Ex.new n7 (o := .lst ([-fr, fr].map V.int))
      refine ⟨D1, p7, _, _, rfl, rfl, x7 _ _ hm, upd_same, ?_, fun p8 n8 => ?_⟩
      · rw [List.length_map, lm]
        exact Nat.le_trans (show 6 + 2 ≤ 8 by decide) (by decide)
      have x8 := Ex.new n8 (o := .lst (ms.map V.int ++ [.int (-fr), .int fr]))
      refine ⟨p8, ms ++ [-fr, fr], rfl, ?_, ?_, fun p9 ks kn km n9 => ?_⟩
      · refine sq_of ?_
        rw [List.map_append]
        exact upd_same
      · rw [List.length_append, lm]
        exact Nat.lt_of_le_of_lt (show 6 + 2 + 1 ≤ 9 by decide) (by decide)
      have k8 : ks.length ≤ 8 := by
        have := few kn fun k hk => (km k).mp hk
        rw [List.length_append, lm] at this
        exact this
      have x9 := Ex.new n9 (o := SetO w p9 (fun j => decide (j ∈ ms ++ [-fr, fr])) ks.length)
      refine ⟨p9, _, _, rfl, upd_same, by omega, fun ys p10 up mem ly n10 => ?_⟩
      have x10 := Ex.new n10 (o := .lst (ys.map V.int))
      refine ⟨6, rfl, p10, _, rfl, sq_of upd_same, fun p11 n11 => ?_⟩
      rw [show cutV (ys.map V.int) none (some 6) = (ys.take 6).map V.int from (cut_to (n := 6)).trans (List.map_take ..).symm]
      have x11 := Ex.new n11 (o := .lst ((ys.take 6).map V.int))
      have in1 : -fr ∈ ys := (mem _).mpr (decide_eq_true (by simp))
      have in2 : fr ∈ ys := (mem _).mpr (decide_eq_true (by simp))
      have bys : ∀ y ∈ ys, -1000 ≤ y ∧ y ≤ 1000 := fun y hy => by
        have z := of_decide_eq_true ((mem y).mp hy)
        rcases List.mem_append.mp z with z | z
        · have := bm y z
          omega
        · simp only [List.mem_cons, List.not_mem_nil, or_false] at z
          omega
      have two : 2 ≤ ys.length := by
        match ys, in1, in2 with
        | [y], i1, i2 =>
          have := List.mem_singleton.mp i1
          have := List.mem_singleton.mp i2
          omega
        | _ :: _ :: _, _, _ => simp
      have lyy : 2 ≤ (ys.take 6).length ∧ (ys.take 6).length ≤ 6 := by rw [List.length_take]; omega
      have upy : (ys.take 6).Pairwise (· < ·) := up.sublist (List.take_sublist 6 ys)
      have byy : ∀ y ∈ ys.take 6, -1000 ≤ y ∧ y ≤ 1000 := fun y hy => bys y (List.mem_of_mem_take hy)
      generalize ys.take 6 = yy at x11 lyy upy byy ⊢
      obtain ⟨HB, hHB⟩ : ∃ HB : Hp, HB = upd (upd (upd (upd (upd H6 p7 (.lst ([-fr, fr].map V.int))) p8 (.lst (ms.map V.int ++ [.int (-fr), .int fr]))) p9 (SetO w p9 (fun j => decide (j ∈ ms ++ [-fr, fr])) ks.length)) p10 (.lst (ys.map V.int))) p11 (.lst (yy.map V.int)) := ⟨_, rfl⟩
      have f11 : Ex H6 HB := by
        rw [hHB]
        exact (x7.trans x8).trans ((x9.trans x10).trans x11)
      have st11 := st6.ex f11
      have L11 := L6.ex f11
      have k11 := k6.ex f11
      have h11 : HB p11 = some (.lst (yy.map V.int)) := by rw [hHB]; exact upd_same
      clear x7 x8 x9 x10 x11 f11 in1 in2 bys two st6 L6 k6 mem up
      refine ⟨_, rfl, p11, rfl, ⟨_, sq_of upd_same⟩, fun D2 hD2 => ?_⟩
      have hD2 : HB D2 = none := by rw [hHB]; exact hD2
      refine lc_list (xs := yy.map V.int) (fun i H' => Ex HB H' ∧ ∃ rs, H' D2 = some (.lst rs) ∧ TupsAt H' rs ((yy.map fun y => [y, fst D T' B S y]).take i)) ⟨by have := Ex.new hD2 (o := .lst []); rw [hHB] at this ⊢; exact this, [], upd_same, .nil⟩ (fun _ H' _ c => sq_of (c.1 _ _ h11)) ?_ ?_
      · rintro i v H' hi ⟨ex, rs, hrs, ht⟩
        rw [List.getElem?_map] at hi
        obtain ⟨y, ey, rfl⟩ := Option.map_eq_some_iff.mp hi
        have i6 := (List.getElem?_eq_some_iff.mp ey).1
        refine ⟨rfl, yes_if ?_⟩
        refine ⟨_, rfl, _, rfl, _, rfl, .ref la, D, T', B, S, y, rfl, L11.ex ex, fun Ha ea => ⟨by show 2 ≤ sizeLine; decide, fun t nt => ?_⟩⟩
        have et := Ex.new nt (o := .tup ([y, fst D T' B S y].map V.int))
        have len := ht.len
        have le := List.length_take_le i (yy.map fun y => [y, fst D T' B S y])
        refine ⟨rs, et _ _ (ea _ _ hrs), Nat.lt_of_lt_of_le (show rs.length < 7 by omega) (by decide), Ex.mut ((ex.trans ea).trans et) hD2, rs ++ [.ref t], upd_same, ?_⟩
        have next : (yy.map fun y => [y, fst D T' B S y]).take (i + 1) = (yy.map fun y => [y, fst D T' B S y]).take i ++ [[y, fst D T' B S y]] := by
          rw [List.take_add_one, List.getElem?_map, ey]
          rfl
        rw [next]
        have aD : Ha D2 = some (.lst rs) := ea _ _ hrs
        have tD : t ≠ D2 := fun z => by rw [z, aD] at nt; cases nt
        exact TupsAt.snoc ((((ht.but hrs (ExD.of ea)).but aD (ExD.of et)).but (et _ _ aD) ExD.upd)) ((upd_ne tD).trans upd_same)
      rintro H12 ⟨e12, rs, hrs, ht⟩
      rw [List.length_map, List.take_of_length_le (by rw [List.length_map]; omega)] at ht
      obtain ⟨ps, hps⟩ : ∃ ps : List (Int × Int), yy.map (fun y => (y, fst D T' B S y)) = ps := ⟨_, rfl⟩
      have ht : TupsAt H12 rs (ps.map fun p => [p.1, p.2]) := by
        rw [← hps, List.map_map]
        exact ht
      have nearP : ∀ p ∈ ps, (-1000 ≤ p.1 ∧ p.1 ≤ 1000) ∧ (-42000 ≤ p.2 ∧ p.2 ≤ 42000) ∧ meets D T' B S p := fun p hp => by
        rw [← hps] at hp
        obtain ⟨y, hy, rfl⟩ := List.mem_map.mp hp
        exact ⟨byy y hy, fst_near ⟨r1.1, bD⟩ r2 r3 ⟨bS1, bS2⟩ (byy y hy), rfl⟩
      have okP : SeenOk ps := ⟨by rw [← hps, List.length_map]; exact lyy, fun p hp => ⟨by have := (nearP p hp).1; omega, by have := (nearP p hp).2.1; omega⟩, by rw [← hps]; exact List.pairwise_map.mpr (upy.imp fun h => h)⟩
      refine ⟨D2, rs, rfl, .inl ⟨sq_of hrs, fun sa nsa => ?_⟩⟩
      have xs13 := Ex.new nsa (o := .tup rs)
      have seen13 : Seen (upd H12 sa (.tup rs)) sa rs ps := seen_of (ht.ex xs13) upd_same okP
      have f13 := e12.trans xs13
      have st13 := st11.ex f13
      have L13 := L11.ex f13
      have k13 := k11.ex f13
      clear st11 L11 k11 f13 xs13 e12 hrs ht h11 hHB hD2
      generalize upd H12 sa (.tup rs) = H13 at seen13 st13 L13 k13 ⊢
      have few := okP.few
      have lrs := seen13.len
      refine ⟨_, rfl, _, rfl, sa, rs, rfl, .inr (st_of seen13.at_), d, _, _, rfl, k13, by omega, ⟨by omega, by omega⟩, fun at0 H14 a0 a1 e14 k14 => ?_⟩
      obtain ⟨n, rfl⟩ : ∃ n : Nat, at0 = n := ⟨at0.toNat, by omega⟩
      have ln : n < ps.length := by omega
      have st14 := st13.exd pd k13 e14
      have L14 := e14.land k13 L13
      have seen_d : ∀ {H H' : Hp} {m : Nat}, ExD d H H' → Dk m H d → Seen H sa rs ps → Seen H' sa rs ps := fun e k sn => ⟨e.tup k sn.at_, sn.len, fun i r z => let ⟨p, e1, b, e2, e3⟩ := sn.each i r z; ⟨p, e1, b, e2, e.tup k e3⟩, sn.ok⟩
      have seen14 := seen_d e14 k13 seen13
      clear st13 L13 k13 e14 seen13
      obtain ⟨pn, epn⟩ : ∃ p, ps[n]? = some p := ⟨_, List.getElem?_eq_getElem ln⟩
      obtain ⟨rn, ern, bn, rfl, hbn⟩ := seen14.row epn
      have nearN := nearP pn (List.mem_of_getElem? epn)
      refine ⟨_, rfl, _, rfl, sa, rs, n, _, rfl, rfl, st_of seen14.at_, at_nat ern, bn, _, rfl, st_of hbn, rfl, _, _, rfl, _, _, rfl, rfl, ?_⟩
      refine ⟨_, rfl, _, rfl, (n : Int), rfl, slA_to seen14.at_ fun p15 H15 e15 h15 => ?_⟩
      rw [cut_to] at h15
      have k15 := k14.ex e15
      refine ⟨_, rfl, _, rfl, _, rfl, d, 3, _, rfl, k15, by omega, ⟨by decide, by decide⟩, fun ev H16 v0 v1 e16 k16 => ⟨_, _, rfl, rfl, _, _, rfl, rfl, by show 2 ≤ sizeLine; decide, fun tb ntb => ⟨by show 1 ≤ sizeLine; decide, fun tc ntc => ?_⟩⟩⟩
      have x16 := (Ex.new ntb (o := .tup [.int pn.1, .int (pn.2 + ev - 1)])).trans (Ex.new ntc (o := .tup [.ref tb]))
      have htb : upd (upd H16 tb (.tup [.int pn.1, .int (pn.2 + ev - 1)])) tc (.tup [.ref tb]) tb = some (.tup [.int pn.1, .int (pn.2 + ev - 1)]) := Ex.new ntc _ _ upd_same
      have h16 := x16 _ _ (e16.tup k15 h15)
      have st16 := ((st14.ex e15).exd pd k15 e16).ex x16
      have L16 := (e16.land k15 (L14.ex e15)).ex x16
      have seen16 := (seen_d e16 k15 (seen14.ex e15)).ex x16
      have k17 := k16.ex x16
      refine catA_to h16 upd_same ?_ fun p17 H17 e17 h17 => ?_
      · rw [List.length_take]
        exact Nat.le_trans (show _ ≤ 7 by show min n rs.length + 1 ≤ 7; omega) (by decide)
      refine ⟨_, rfl, _, rfl, _, _, rfl, rfl, (n : Int) + 1, rfl, ?_⟩
      refine no_part ?_
      refine slA_to (e17 _ _ seen16.at_) fun p18 H18 e18 h18 => ?_
      rw [show (n : Int) + 1 = ((n + 1 : Nat) : Int) by omega, cut_from] at h18
      refine catA_to (e18 _ _ h17) h18 ?_ fun ba H19 e19 h19 => ?_
      · rw [List.length_append, List.length_take, List.length_drop]
        exact Nat.le_trans (show _ ≤ 13 by show min n rs.length + 1 + (rs.length - (n + 1)) ≤ 13; omega) (by decide)
      have lnr : n < rs.length := by omega
      have h19 : H19 ba = some (.tup (rs.set n (.ref tb))) := by
        rw [h19, List.set_eq_take_append_cons_drop, if_pos lnr, List.append_assoc]
        rfl
      have f19 := e17.trans (e18.trans e19)
      have st19 := st16.ex f19
      have L19 := L16.ex f19
      have seen19 := seen16.ex f19
      have bent19 := seen19.bend epn (f19 _ _ htb) (show -1000000 ≤ pn.2 + ev - 1 ∧ pn.2 + ev - 1 ≤ 1000000 by omega) h19
      have k19 := k17.ex f19
      have nearS : NearS ps := fun p hp => ⟨(nearP p hp).1, by have := (nearP p hp).2.1; omega⟩
      have nearB : NearS (ps.set n (pn.1, pn.2 + ev - 1)) := fun p hp => by
        rcases List.mem_or_eq_of_mem_set hp with z | z
        · exact nearS p z
        · subst z
          exact ⟨nearN.1, by show -42001 ≤ pn.2 + ev - 1 ∧ pn.2 + ev - 1 ≤ 42001; omega⟩
      have offS : ∀ p ∈ ps, fst D T' B S p.1 - 1 ≤ p.2 ∧ p.2 ≤ fst D T' B S p.1 + 1 := fun p hp => by
        have e : fst D T' B S p.1 = p.2 := (nearP p hp).2.2
        omega
      have offB : ∀ p ∈ ps.set n (pn.1, pn.2 + ev - 1), fst D T' B S p.1 - 1 ≤ p.2 ∧ p.2 ≤ fst D T' B S p.1 + 1 := fun p hp => by
        rcases List.mem_or_eq_of_mem_set hp with z | z
        · exact offS p z
        · subst z
          have e : fst D T' B S pn.1 = pn.2 := nearN.2.2
          show fst D T' B S pn.1 - 1 ≤ pn.2 + ev - 1 ∧ pn.2 + ev - 1 ≤ fst D T' B S pn.1 + 1
          omega
      have ask1 := ask_of seen19 ⟨r1.1, bD⟩ r2 nearS offS
      have ask2 := ask_of bent19 ⟨r1.1, bD⟩ r2 nearB offB
      clear st14 L14 seen14 st16 L16 seen16 e15 e16 e17 e18 e19 f19 h15 h16 h17 h18 h19 x16 htb k14 k15 k16 k17 bent19 ntb ntc
      refine ⟨_, rfl, d, 8, _, rfl, k19, by omega, ⟨by decide, by decide⟩, fun m0 H20 m1 m2 e20 k20 => ⟨_, _, rfl, rfl, ?_⟩⟩
      obtain ⟨mm, hmm⟩ : ∃ mm : Nat, 1 + m0 = (mm : Int) := ⟨(1 + m0).toNat, by omega⟩
      have bm8 : 1 ≤ mm ∧ mm ≤ 8 := by omega
      show gName 10 (V.int (1 + m0)) _ _ _
      rw [hmm]
      have st20 := st19.exd pd k19 e20
      have L20 := e20.land k19 L19
      have seen20 := seen19.exd k19 e20
      have ask1' := ask1.exd k19 e20
      have ask2' := ask2.exd k19 e20
      clear st19 L19 seen19 ask1 ask2 k19 e20 k20 hmm m1 m2 seen_d
      refine ⟨_, rfl, _, rfl, _, rfl, 2, rfl, slA_to seen20.at_ fun p21 H21 e21 h21 => ?_⟩
      rw [show cutV rs none (some 2) = rs.take 2 from cut_to (n := 2)] at h21
      have seen21 := seen20.ex e21
      have ask3 := ask_of (seen21.take h21 (Nat.le_refl 2)) ⟨r1.1, bD⟩ r2 (fun p hp => nearS p (List.mem_of_mem_take hp)) fun p hp => offS p (List.mem_of_mem_take hp)
      refine ⟨by show 3 ≤ sizeLine; decide, fun pl nl => ⟨pl, rfl, ⟨_, sq_of upd_same⟩, ?_⟩⟩
      have x22 := Ex.new nl (o := .lst [.ref sa, .ref ba, .ref p21])
      have f22 := e21.trans x22
      have st22 := st20.ex f22
      have L22 := L20.ex f22
      have seen22 := seen20.ex f22
      have asks : ∀ x ∈ [V.ref sa, .ref ba, .ref p21], Ask (upd H21 pl (.lst [.ref sa, .ref ba, .ref p21])) x := fun x hx => by
        simp only [List.not_mem_nil, List.mem_cons, or_false] at hx
        rcases hx with rfl | rfl | rfl
        · exact ask1'.mono f22
        · exact ask2'.mono f22
        · exact ask3.mono x22
      have hpl : upd H21 pl (.lst [.ref sa, .ref ba, .ref p21]) pl = some (.lst [.ref sa, .ref ba, .ref p21]) := upd_same
      generalize upd H21 pl (.lst [.ref sa, .ref ba, .ref p21]) = H22 at st22 L22 seen22 asks hpl ⊢
      clear st20 L20 seen20 ask1' ask2' ask3 e21 h21 seen21 x22 f22 nl
      refine for_list (xs := [V.ref sa, .ref ba, .ref p21]) (fun i σ H' => (∃ z11 z12 z13 z14 z15 z17 z18, σ = [some (.ref a), some (.int cl), some (.ref d), some (.ref la), some (.int fr), some (.ref p11), some (.int pn.1), some (.int n), some (.int pn.2), some (.ref ba), some (.int mm), z11, z12, z13, z14, z15, some (.ref sa), z17, z18]) ∧ Ex H22 H') ⟨⟨_, _, _, _, _, _, _, rfl⟩, Ex.refl _⟩ (fun i σ H' _ h => sq_of (h.2 _ _ hpl)) ?_ ?_
      · rintro i x σ H23 hx ⟨⟨z11, z12, z13, z14, z15, z17, z18, rfl⟩, e23⟩
        obtain ⟨a', rs', ps', p, q', rfl, sn, nr, ep, eq, slope⟩ := (asks x (List.mem_of_getElem? hx)).ex
        have ne : ps' ≠ [] := fun z => by rw [z] at ep; cases ep
        have few' := sn.ok.few
        have lt' := sn.ok.next (show 0 < ps'.length - 1 by omega) ep eq
        refine ⟨_, rfl, _, rfl, a', rs', ps', p, q', mm, rfl, sn.ex e23, ep, eq, ⟨by omega, by omega⟩, lands_len (by omega) ne, fun l1 rs1 L1 Ha na ea h1 t1 pm1 up1 => ?_⟩
        refine ⟨_, rfl, _, rfl, a', rs', ps', p, q', mm, rfl, sn.ex (e23.trans ea), nr, ep, eq, ⟨by omega, by omega⟩, own_len (by omega), fun l2 rs2 L2 Hb nb eb h2 t2 pm2 up2 => ?_⟩
        obtain rfl : L1 = L2 := sorted_same lands_once own_once (fun x => (lands_back ne (List.mem_of_getElem? ep) (List.mem_of_getElem? eq) lt' slope x).trans (own_back (List.mem_of_getElem? ep) (List.mem_of_getElem? eq) lt' x).symm) pm1 pm2 up1 up2
        refine ⟨_, _, rfl, sm_tups (eb _ _ h1) h2 (t1.ex eb) t2 (by rw [pm1.length_eq]; exact lands_few (by omega) ne) fun x hx => lands_four (pm1.mem_iff.mp hx), fun Hc ec => ⟨_, rfl, iteF ⟨⟨_, _, _, _, _, _, _, rfl⟩, e23.trans (ea.trans (eb.trans ec))⟩⟩⟩
      rintro σ H23 ⟨⟨z11, z12, z13, z14, z15, z17, z18, rfl⟩, e23⟩
      have st23 := st22.ex e23
      have L23 := L22.ex e23
      have seen23 := seen22.ex e23
      clear st22 L22 seen22 asks hpl e23
      obtain ⟨Bn, hBn⟩ : ∃ n : Nat, B = (n : Int) := ⟨B.toNat, by omega⟩
      obtain ⟨Tn, hTn⟩ : ∃ n : Nat, T' = (n : Int) := ⟨T'.toNat, by omega⟩
      subst hBn hTn
      obtain ⟨lb, elb, hla, _⟩ := id L23
      cases elb
      have g1 : 1 ≤ Nat.gcd Bn Tn := Nat.gcd_pos_of_pos_left Tn (by omega)
      have g2 : Nat.gcd Bn Tn ≤ Bn := Nat.gcd_le_left Tn (by omega)
      refine ⟨_, rfl, la, _, 2, _, rfl, rfl, st_of hla, rfl, _, rfl, la, _, 1, _, rfl, rfl, st_of hla, rfl, Bn, Tn, rfl, fun H24 e24 => ?_⟩
      have hla24 := e24 _ _ hla
      refine ⟨_, rfl, la, _, 0, _, rfl, rfl, st_of hla24, rfl, by show 1 ≤ sizeLine; decide, fun t25 n25 => ?_⟩
      have x25 := Ex.new n25 (o := .tup [.int D])
      refine ⟨_, rfl, 1, rfl, no_part ?_⟩
      refine slA_to (x25 _ _ hla24) fun p26 H26 e26 h26 => ?_
      rw [cut_one] at h26
      have h26 : H26 p26 = some (.tup (([(Tn : Int), (Bn : Int), S] : List Int).map V.int)) := h26
      refine ⟨p26, rfl, ⟨_, st_of h26⟩, fun D3 hD3 => ?_⟩
      refine lc_tup (xs := ([(Tn : Int), (Bn : Int), S] : List Int).map V.int) (Cw H26 (fun _ => true) (fun i => .int ((([(Tn : Int), (Bn : Int), S] : List Int)[i]?.getD 0) / ((Nat.gcd Bn Tn : Nat) : Int))) D3) ⟨hD3, Ex.new hD3, upd_same⟩ (fun _ H' _ c => st_of (c.2.1 _ _ h26)) (fun i x H' hi c => ?_) (fun H27 c => ?_)
      · rw [List.getElem?_map] at hi
        obtain ⟨y, ey, rfl⟩ := Option.map_eq_some_iff.mp hi
        have i3 : i < 3 := (List.getElem?_eq_some_iff.mp ey).1
        refine ⟨rfl, cw_turn c (by omega) (fun Ha ea Qa qa => qa Ha (Ex.refl Ha)) fun _ Ha ea Qa qa => ?_⟩
        rw [ey] at qa
        exact ⟨_, rfl, _, rfl, _, _, rfl, rfl, ⟨by omega, by omega⟩, qa Ha (Ex.refl Ha)⟩
      obtain ⟨_, e27, h27⟩ := c
      rw [given_ints (p := fun _ => true) (g := fun i => (([(Tn : Int), (Bn : Int), S] : List Int)[i]?.getD 0) / ((Nat.gcd Bn Tn : Nat) : Int)), List.filter_eq_self.mpr fun _ _ => rfl, List.length_map, range_map ([(Tn : Int), (Bn : Int), S] : List Int) 0 fun y => y / ((Nat.gcd Bn Tn : Nat) : Int)] at h27
      refine ⟨D3, _, rfl, .inl ⟨sq_of h27, fun t28 n28 => ?_⟩⟩
      have x28 := Ex.new n28 (o := .tup ((([(Tn : Int), (Bn : Int), S] : List Int).map fun y => y / ((Nat.gcd Bn Tn : Nat) : Int)).map V.int))
      have f28 := (e26.trans e27).trans x28
      refine catA_to (f28 _ _ upd_same) upd_same (by show 1 + 3 ≤ sizeLine; decide) fun lp H29 e29 h29 => ?_
      have h29 : H29 lp = some (.tup (([D, ((Tn / Nat.gcd Bn Tn : Nat) : Int), ((Bn / Nat.gcd Bn Tn : Nat) : Int), S / ((Nat.gcd Bn Tn : Nat) : Int)] : List Int).map V.int)) := by
        rw [h29, Int.natCast_ediv, Int.natCast_ediv]
        rfl
      have f29 := e24.trans (x25.trans (f28.trans e29))
      have st29 := st23.ex f29
      have seen29 := seen23.ex f29
      clear st23 L23 seen23 hla hla24 e24 x25 e26 e27 x28 f28 e29 f29 h26 h27 hD3 n25 n28
      refine ⟨fun σ H' => (∃ z11 z12 z13 z14 z15 z17 z18, σ = [some (.ref a), some (.int cl), some (.ref d), some (.ref la), some (.int fr), some (.ref p11), some (.int pn.1), some (.int n), some (.int pn.2), some (.ref ba), some (.int mm), z11, z12, z13, z14, z15, some (.ref sa), z17, z18]) ∧ Stood p2 PT cells qn H' ∧ Seen H' sa rs ps, ?_, ?_⟩
      · refine ⟨_, rfl, lp, _, 2, _, rfl, rfl, st_of h29, rfl, _, rfl, _, _, rfl, rfl, _, rfl, ?_⟩
        by_cases le : ((Bn / Nat.gcd Bn Tn : Nat) : Int) ≤ (mm : Int)
        · rw [decide_eq_true le]
          obtain ⟨p, ep⟩ : ∃ p, ps[0]? = some p := ⟨_, List.getElem?_eq_getElem (show 0 < ps.length by omega)⟩
          obtain ⟨q', eq⟩ : ∃ q, ps[ps.length - 1]? = some q := ⟨_, List.getElem?_eq_getElem (show ps.length - 1 < ps.length by omega)⟩
          have lt' := okP.next (show 0 < ps.length - 1 by omega) ep eq
          have ne : ps ≠ [] := fun z => by rw [z] at ep; cases ep
          refine iteT ⟨_, rfl, _, rfl, _, rfl, sa, rs, ps, p, q', mm, rfl, seen29, ep, eq, ⟨by omega, by omega⟩, lands_len (by omega) ne, fun l1 rs1 L1 Ha na ea h1 t1 pm1 up1 => ?_⟩
          have slope : q'.2 - p.2 < 60 * (q'.1 - p.1) := by
            obtain ⟨_, w, _, _⟩ := between (D := D) (S := S) r2 (nearP p (List.mem_of_getElem? ep)).2.2 (nearP q' (List.mem_of_getElem? eq)).2.2 lt'
            have := Int.mul_le_mul_of_nonneg_right (show D + 1 ≤ 41 by omega) (show 0 ≤ q'.1 - p.1 by omega)
            omega
          refine notin_no (ea _ _ h29) h1 t1 (pm1.mem_iff.mpr ((lands_back ne (List.mem_of_getElem? ep) (List.mem_of_getElem? eq) lt' slope _).mpr (land_back (by omega) (by omega) ⟨r1.1, by omega⟩ (by omega) fun p hp => (nearP p hp).2.2))) ⟨_, rfl, iteF ⟨⟨_, _, _, _, _, _, _, rfl⟩, st29.ex ea, seen29.ex ea⟩⟩
        · rw [decide_eq_false le]
          exact iteF (iteF ⟨⟨_, _, _, _, _, _, _, rfl⟩, st29, seen29⟩)
      clear st29 seen29 h29
      rintro σ H30 ⟨⟨z11, z12, z13, z14, z15, z17, z18, rfl⟩, st30, seen30⟩
      have ne : rs ≠ [] := fun z => by
        rw [z] at lrs
        have : 0 = ps.length := lrs
        omega
      refine ⟨Nat.zero_le _, fun q1 n1 => ?_⟩
      have x1 := Ex.new n1 (o := .tup [])
      have s1 := seen30.ex x1
      refine ⟨_, rfl, 1, rfl, slA_to s1.at_ fun q2 H32 e2 h2 => ?_⟩
      rw [show (1 : Int) = ((1 : Nat) : Int) from rfl, cut_to] at h2
      have s2 := s1.ex e2
      refine ⟨_, rfl, sa, rs, rfl, .inr (st_of s2.at_), fun q3 n3 => ?_⟩
      have x3 := Ex.new n3 (o := .lst rs)
      have s3 := s2.ex x3
      refine ⟨_, rfl, sa, rs, rfl, st_of s3.at_, fun q4 n4 => ?_⟩
      have x4 := Ex.new n4 (o := .tup rs.reverse)
      have s4 := s3.ex x4
      have u4 := unseen_back s4 upd_same
      refine ⟨_, rfl, by show 2 ≤ sizeLine; decide, fun q5 n5 => ⟨by show 1 ≤ sizeLine; decide, fun q6 n6 => ?_⟩⟩
      have x5 := Ex.new n5 (o := .tup [.int 20000, .int 5])
      have x6 := Ex.new n6 (o := .tup [.ref q5])
      have s6 := s4.ex (x5.trans x6)
      refine catA_to s6.at_ upd_same ?_ fun q7 H37 e7 h7 => ?_
      · exact Nat.le_trans (show rs.length + 1 ≤ 7 by omega) (by decide)
      have u7 := unseen_more (s6.ex e7) (e7 _ _ (x6 _ _ upd_same)) h7
      refine ⟨by show 2 ≤ sizeLine; decide, fun q8 n8 => ⟨by show 2 ≤ sizeLine; decide, fun q9 n9 => ⟨by show 2 ≤ sizeLine; decide, fun q10 n10 => ⟨by show 7 ≤ sizeLine; decide, fun od nod => ?_⟩⟩⟩⟩
      have x8 := Ex.new n8 (o := .tup [.int 0, .int 1])
      have x9 := Ex.new n9 (o := .tup [.int 1, .bl true])
      have x10 := Ex.new n10 (o := .tup [.ref q8, .ref q9])
      have xo := Ex.new nod (o := .lst [.non, .ref q1, .ref q2, .ref q3, .ref q4, .ref q7, .ref q10])
      have f0 := x8.trans (x9.trans (x10.trans xo))
      have f7 := e7.trans f0
      have f6 := (x5.trans x6).trans f7
      have f4 := x4.trans f6
      have f3 := x3.trans f4
      have f2 := e2.trans f3
      have f1 := x1.trans f2
      have u1 : Unseen _ (.ref q1) := .many (f2 _ _ upd_same) (.inl (by decide))
      have u2 : Unseen _ (.ref q2) := .many (f3 _ _ h2) (.inl (by rw [List.length_take]; omega))
      have u3 : Unseen _ (.ref q3) := .kind (.lst (f4 _ _ upd_same)) fun z => by cases z
      have u4 := u4.ex f6
      have u7 := u7.ex f0
      have u10 : Unseen _ (.ref q10) := .odd (ps := [(.int 0, .int 1), (.int 1, .bl true)]) (xo _ _ upd_same) rfl (fun i r e => match i, e with
        | 0, e => by cases e; exact ⟨_, rfl, q8, _, _, rfl, (x9.trans (x10.trans xo)) _ _ upd_same, .int _, .int _⟩
        | 1, e => by cases e; exact ⟨_, rfl, q9, _, _, rfl, (x10.trans xo) _ _ upd_same, .int _, .bl _⟩) ⟨(.int 1, .bl true), by simp, by decide⟩
      have st38 := st30.ex f1
      have seen38 := seen30.ex f1
      obtain ⟨H38, h38⟩ : ∃ H' : Hp, H' = upd (upd (upd (upd H37 q8 (.tup [.int 0, .int 1])) q9 (.tup [.int 1, .bl true])) q10 (.tup [.ref q8, .ref q9])) od (.lst [.non, .ref q1, .ref q2, .ref q3, .ref q4, .ref q7, .ref q10]) := ⟨_, rfl⟩
      have hod : H38 od = some (.lst [.non, .ref q1, .ref q2, .ref q3, .ref q4, .ref q7, .ref q10]) := by rw [h38]; exact upd_same
      rw [← h38] at u1 u2 u3 u4 u7 u10 st38 seen38
      show tSeq _ _ _ _ (upd (upd (upd (upd H37 q8 (.tup [.int 0, .int 1])) q9 (.tup [.int 1, .bl true])) q10 (.tup [.ref q8, .ref q9])) od (.lst [.non, .ref q1, .ref q2, .ref q3, .ref q4, .ref q7, .ref q10]))
      rw [← h38]
      clear h38 f0 f1 f2 f3 f4 f6 f7 x1 x3 x4 x5 x6 x8 x9 x10 xo e2 e7 h2 h7 s1 s2 s3 s4 s6 st30 seen30 n1 n3 n4 n5 n6 n8 n9 n10 nod
      refine ⟨_, rfl, _, rfl, sa, 4, rs, rfl, rfl, st_of seen38.at_, ne, by decide, by decide, by omega, fun q11 n11 => ⟨by show 1 ≤ sizeLine; decide, fun q12 n12 => ?_⟩⟩
      have x11 := Ex.new n11 (o := .tup (List.replicate 4 rs).flatten)
      have x12 := Ex.new n12 (o := .lst [.ref q11])
      have f12 := x11.trans x12
      refine ⟨od, q12, _, _, rfl, rfl, f12 _ _ hod, upd_same, by show 7 + 1 ≤ sizeLine; decide, fun q13 n13 => ?_⟩
      have x13 := Ex.new n13 (o := .lst [.non, .ref q1, .ref q2, .ref q3, .ref q4, .ref q7, .ref q10, .ref q11])
      have f13 := f12.trans x13
      have u11 : Unseen _ (.ref q11) := .many ((x12.trans x13) _ _ upd_same) (.inr (by
        show 6 < (rs ++ (rs ++ (rs ++ (rs ++ [])))).length
        simp only [List.length_append, List.length_nil]
        omega))
      refine ⟨q13, rfl, ⟨_, sq_of upd_same⟩, ?_⟩
      refine for_list (xs := [.non, .ref q1, .ref q2, .ref q3, .ref q4, .ref q7, .ref q10, .ref q11]) (fun i σ H' => (∃ z11 z12 z13 z14 z15 z17 z18, σ = [some (.ref a), some (.int cl), some (.ref d), some (.ref la), some (.int fr), some (.ref p11), some (.int pn.1), some (.int n), some (.int pn.2), some (.ref ba), some (.int mm), z11, z12, z13, z14, z15, some (.ref sa), z17, z18]) ∧ Stood p2 PT cells qn H' ∧ Seen H' sa rs ps ∧ (∀ x ∈ [V.non, .ref q1, .ref q2, .ref q3, .ref q4, .ref q7, .ref q10, .ref q11], Unseen H' x) ∧ H' q13 = some (.lst [.non, .ref q1, .ref q2, .ref q3, .ref q4, .ref q7, .ref q10, .ref q11]))
        ⟨⟨_, _, _, _, _, _, _, rfl⟩, st38.ex f13, seen38.ex f13, fun x hx => ?_, upd_same⟩ (fun i σ H' _ h => sq_of h.2.2.2.2) ?_ ?_
      · simp only [List.mem_cons, List.not_mem_nil, or_false] at hx
        rcases hx with rfl | rfl | rfl | rfl | rfl | rfl | rfl | rfl
        · exact .kind .non fun z => by cases z
        · exact u1.ex f13
        · exact u2.ex f13
        · exact u3.ex f13
        · exact u4.ex f13
        · exact u7.ex f13
        · exact u10.ex f13
        · exact u11
      · clear u1 u2 u3 u4 u7 u10 u11 st38 seen38 hod x11 x12 x13 f12 f13 n11 n12 n13
        rintro i x σ H40 hx ⟨⟨z11, z12, z13, z14, z15, z17, z18, rfl⟩, st40, seen40, un40, hl40⟩
        refine ⟨hq ▸ st40.tab, fun H41 ext tab E1 Q1 caught given => ?_⟩
        refine ⟨_, rfl, _, .non, _, rfl, .inl ⟨(un40 x (List.mem_of_getElem? hx)).extN ext, fun H42 e42 => caught _ _ _ ⟨T.C_NoSeen, false, false, false, false, false, false, true, false, false, true, rfl, rfl, T.err_NoSeen.em, ⟨T.err_NoSeen.is, T.ki_NoSeen_NoLand, T.ki_NoSeen_NoYear, T.ki_NoSeen_NoDay, T.ki_NoSeen_NoPlace, T.ki_NoSeen_NoWeek, T.ki_NoSeen_NoName, T.ki_NoSeen_NoSeen, T.ki_NoSeen_NoNumber, T.ki_NoSeen_NothingLeft, T.ki_NoSeen_V⟩, fun H43 e43 => ?_⟩⟩⟩
        rw [show kinWord [false, false, false, false, false, false, true, false, false, true] = "NoSeen+" by decide +kernel]
        refine ⟨rfl, _, rfl, ?_⟩
        rw [decide_eq_true (rfl : V.str "NoSeen+" = V.str "NoSeen+")]
        have f43 := e42.trans e43
        exact iteF ⟨⟨_, _, _, _, _, _, _, rfl⟩, ⟨f43 _ _ (ext _ _ st40.hp fun ps z => by cases z), (hq ▸ tab : LamX.TabS H41 PT qn).ext f43⟩, (seen40.extN ext).ex f43, fun y hy => ((un40 y hy).extN ext).ex f43, f43 _ _ (ext _ _ hl40 fun ps z => by cases z)⟩
      clear u1 u2 u3 u4 u7 u10 u11 st38 seen38 hod x11 x12 x13 f12 f13 n11 n12 n13
      rintro σ H44 ⟨⟨z11, z12, z13, z14, z15, z17, z18, rfl⟩, st44, seen44, _, _⟩
      refine ⟨by show 5 ≤ sizeLine; decide, fun q14 n14 => ⟨q14, rfl, ⟨_, sq_of upd_same⟩, ?_⟩⟩
      have x14 := Ex.new n14 (o := .lst [.non, .bl true, .int 0, .int 13, .str "1"])
      refine for_list (xs := [.non, .bl true, .int 0, .int 13, .str "1"]) (fun i σ H' => (∃ z11 z12 z13 z14 z15 z17 z18, σ = [some (.ref a), some (.int cl), some (.ref d), some (.ref la), some (.int fr), some (.ref p11), some (.int pn.1), some (.int n), some (.int pn.2), some (.ref ba), some (.int mm), z11, z12, z13, z14, z15, some (.ref sa), z17, z18]) ∧ Stood p2 PT cells qn H' ∧ Seen H' sa rs ps ∧ H' q14 = some (.lst [.non, .bl true, .int 0, .int 13, .str "1"]))
        ⟨⟨_, _, _, _, _, _, _, rfl⟩, st44.ex x14, seen44.ex x14, upd_same⟩ (fun i σ H' _ h => sq_of h.2.2.2) ?_ ?_
      · clear st44 seen44 x14 n14
        rintro i x σ H40 hx ⟨⟨z11, z12, z13, z14, z15, z17, z18, rfl⟩, st40, seen40, hl40⟩
        refine ⟨hq ▸ st40.tab, fun H41 ext tab E1 Q1 caught given => ?_⟩
        obtain ⟨k, dk, nk⟩ := odd_most (H := H41) (List.mem_of_getElem? hx)
        refine ⟨_, rfl, _, rfl, _, k, _, rfl, .inr ⟨sa, rs, ps, rfl, seen40.extN ext, dk, nk, fun H42 e42 => caught _ _ _ ⟨T.C_NoNumber, false, false, false, false, false, false, false, true, false, true, rfl, rfl, T.err_NoNumber.em, ⟨T.err_NoNumber.is, T.ki_NoNumber_NoLand, T.ki_NoNumber_NoYear, T.ki_NoNumber_NoDay, T.ki_NoNumber_NoPlace, T.ki_NoNumber_NoWeek, T.ki_NoNumber_NoName, T.ki_NoNumber_NoSeen, T.ki_NoNumber_NoNumber, T.ki_NoNumber_NothingLeft, T.ki_NoNumber_V⟩, fun H43 e43 => ?_⟩⟩⟩
        rw [show kinWord [false, false, false, false, false, false, false, true, false, true] = "NoNumber+" by decide +kernel]
        refine ⟨rfl, _, rfl, ?_⟩
        rw [decide_eq_true (rfl : V.str "NoNumber+" = V.str "NoNumber+")]
        have f43 := e42.trans e43
        exact iteF ⟨⟨_, _, _, _, _, _, _, rfl⟩, ⟨f43 _ _ (ext _ _ st40.hp fun ps z => by cases z), (hq ▸ tab : LamX.TabS H41 PT qn).ext f43⟩, (seen40.extN ext).ex f43, f43 _ _ (ext _ _ hl40 fun ps z => by cases z)⟩
      · rintro σ H45 ⟨⟨z11, z12, z13, z14, z15, z17, z18, rfl⟩, st45, _⟩
        exact ⟨⟨_, _, _, _, _, _, _, _, _, _, _, _, _, _, _, _, _, _, rfl⟩, st45⟩
    · rintro σ H4 ⟨⟨z1, z2, z3, z4, z5, z6, z7, z8, z9, z10, z11, z12, z13, z14, z15, z16, z17, z18, rfl⟩, _⟩
      refine ⟨by show 2 ≤ sizeLine; decide, fun w1 m1 => ⟨by show 2 ≤ sizeLine; decide, fun w2 m2 => ⟨by show 2 ≤ sizeLine; decide, fun w3 m3 => ⟨by show 3 ≤ sizeLine; decide, fun w4 m4 => ?_⟩⟩⟩⟩
      have y2 := Ex.new m2 (o := .tup [.int 1, .int 7])
      have y3 := Ex.new m3 (o := .tup [.int 2, .int 15])
      have y4 := Ex.new m4 (o := .tup [.ref w1, .ref w2, .ref w3])
      have sn : Seen _ w4 [.ref w1, .ref w2, .ref w3] [(0, 0), (1, 7), (2, 15)] := seen_of (.cons ((y2.trans (y3.trans y4)) _ _ upd_same) (.cons ((y3.trans y4) _ _ upd_same) (.cons (y4 _ _ upd_same) .nil))) upd_same ⟨by decide, by decide, by decide⟩
      have told : landsAll [(0, 0), (1, 7), (2, 15)] (0, 0) (2, 15) 2 = [[7, 1, 2, 0]] := by decide +kernel
      refine ⟨w4, _, _, (0, 0), (2, 15), 2, rfl, sn, rfl, rfl, ⟨by decide, by decide⟩, by rw [told]; decide, fun l rs' L H' nl e hl t pm up => ?_⟩
      rw [told] at pm
      cases List.perm_singleton.mp pm
      cases t with
      | @cons b _ rs' _ hb t =>
        cases t
        refine ⟨by show 4 ≤ sizeLine; decide, fun w5 m5 => ⟨by show 1 ≤ sizeLine; decide, fun w6 m6 => ?_⟩⟩
        have y5 := Ex.new m5 (o := .tup [.int 7, .int 1, .int 2, .int 0])
        have y6 := Ex.new m6 (o := .lst [.ref w5])
        exact eq_same (.list [.tuple (([7, 1, 2, 0] : List Int).map PyData.int)]) (.lst (sq_of ((y5.trans y6) _ _ hl)) (.cons (.tup (st_of ((y5.trans y6) _ _ hb)) (dps_ints [7, 1, 2, 0])) .nil)) (.lst (sq_of upd_same) (.cons (.tup (st_of (y6 _ _ upd_same)) (dps_ints [7, 1, 2, 0])) .nil)) (by decide +kernel) (by decide +kernel) (q _)
end

theorem all_mk {l : PySem.W.OpenLaw} {w : World} {K : PySem.W.Frag} {h : Heap} {mg : Str → Option Value} {fa : Addr} (X : K.In h) (G : h.Ns mainGlobals mg) (hfa : mg "law" = some (.ref fa))
    {f0 : Addr} {od0 an0 : Option Addr} {sl0 : Array (Option Value)} {oc0 kV0 dc0 pm0 cd0 ct0 : Value}
    (ya0 : PySem.W.nsIn K mainGlobals "is_whole" = some (some (.ref f0))) (yl0 : K.lookup f0 = some ⟨oc0, od0, .func (PySem.W.fnOf "is_whole" "is_whole" (defArgs s_is_whole) (defBody s_is_whole) (defScope s_is_whole) .none kV0 dc0 pm0 an0 cd0 ct0), sl0⟩) (yc0 : PySem.W.codeIn K cd0 "is_whole" = true) (yk0 : PySem.W.keepIn K (.ref f0) = true)
    {f1 : Addr} {od1 an1 : Option Addr} {sl1 : Array (Option Value)} {oc1 kV1 dc1 pm1 cd1 ct1 : Value}
    (ya1 : PySem.W.nsIn K mainGlobals "is_between" = some (some (.ref f1))) (yl1 : K.lookup f1 = some ⟨oc1, od1, .func (PySem.W.fnOf "is_between" "is_between" (defArgs s_is_between) (defBody s_is_between) (defScope s_is_between) .none kV1 dc1 pm1 an1 cd1 ct1), sl1⟩) (yc1 : PySem.W.codeIn K cd1 "is_between" = true) (yk1 : PySem.W.keepIn K (.ref f1) = true)
    {f2 : Addr} {od2 an2 : Option Addr} {sl2 : Array (Option Value)} {oc2 kV2 dc2 pm2 cd2 ct2 : Value}
    (ya2 : PySem.W.nsIn K mainGlobals "common_measure" = some (some (.ref f2))) (yl2 : K.lookup f2 = some ⟨oc2, od2, .func (PySem.W.fnOf "common_measure" "common_measure" (defArgs s_common_measure) (defBody s_common_measure) (defScope s_common_measure) .none kV2 dc2 pm2 an2 cd2 ct2), sl2⟩) (yc2 : PySem.W.codeIn K cd2 "common_measure" = true) (yk2 : PySem.W.keepIn K (.ref f2) = true)
    {f3 : Addr} {od3 an3 : Option Addr} {sl3 : Array (Option Value)} {oc3 kV3 dc3 pm3 cd3 ct3 : Value}
    (ya3 : PySem.W.nsIn K mainGlobals "step_of" = some (some (.ref f3))) (yl3 : K.lookup f3 = some ⟨oc3, od3, .func (PySem.W.fnOf "step_of" "step_of" (defArgs s_step_of) (defBody s_step_of) (defScope s_step_of) .none kV3 dc3 pm3 an3 cd3 ct3), sl3⟩) (yc3 : PySem.W.codeIn K cd3 "step_of" = true) (yk3 : PySem.W.keepIn K (.ref f3) = true)
    {f4 : Addr} {od4 an4 : Option Addr} {sl4 : Array (Option Value)} {oc4 kV4 dc4 pm4 cd4 ct4 : Value}
    (ya4 : PySem.W.nsIn K mainGlobals "is_seen_year" = some (some (.ref f4))) (yl4 : K.lookup f4 = some ⟨oc4, od4, .func (PySem.W.fnOf "is_seen_year" "is_seen_year" (defArgs s_is_seen_year) (defBody s_is_seen_year) (defScope s_is_seen_year) .none kV4 dc4 pm4 an4 cd4 ct4), sl4⟩) (yc4 : PySem.W.codeIn K cd4 "is_seen_year" = true) (yk4 : PySem.W.keepIn K (.ref f4) = true)
    {f5 : Addr} {od5 an5 : Option Addr} {sl5 : Array (Option Value)} {oc5 kV5 dc5 pm5 cd5 ct5 : Value}
    (ya5 : PySem.W.nsIn K mainGlobals "is_seen" = some (some (.ref f5))) (yl5 : K.lookup f5 = some ⟨oc5, od5, .func (PySem.W.fnOf "is_seen" "is_seen" (defArgs s_is_seen) (defBody s_is_seen) (defScope s_is_seen) .none kV5 dc5 pm5 an5 cd5 ct5), sl5⟩) (yc5 : PySem.W.codeIn K cd5 "is_seen" = true) (yk5 : PySem.W.keepIn K (.ref f5) = true)
    {f6 : Addr} {od6 an6 : Option Addr} {sl6 : Array (Option Value)} {oc6 kV6 dc6 pm6 cd6 ct6 : Value}
    (ya6 : PySem.W.nsIn K mainGlobals "need_seen" = some (some (.ref f6))) (yl6 : K.lookup f6 = some ⟨oc6, od6, .func (PySem.W.fnOf "need_seen" "need_seen" (defArgs s_need_seen) (defBody s_need_seen) (defScope s_need_seen) .none kV6 dc6 pm6 an6 cd6 ct6), sl6⟩) (yc6 : PySem.W.codeIn K cd6 "need_seen" = true) (yk6 : PySem.W.keepIn K (.ref f6) = true)
    {f7 : Addr} {od7 an7 : Option Addr} {sl7 : Array (Option Value)} {oc7 kV7 dc7 pm7 cd7 ct7 : Value}
    (ya7 : PySem.W.nsIn K mainGlobals "need_most" = some (some (.ref f7))) (yl7 : K.lookup f7 = some ⟨oc7, od7, .func (PySem.W.fnOf "need_most" "need_most" (defArgs s_need_most) (defBody s_need_most) (defScope s_need_most) .none kV7 dc7 pm7 an7 cd7 ct7), sl7⟩) (yc7 : PySem.W.codeIn K cd7 "need_most" = true) (yk7 : PySem.W.keepIn K (.ref f7) = true)
    {f8 : Addr} {od8 an8 : Option Addr} {sl8 : Array (Option Value)} {oc8 kV8 dc8 pm8 cd8 ct8 : Value}
    (ya8 : PySem.W.nsIn K mainGlobals "possible_days" = some (some (.ref f8))) (yl8 : K.lookup f8 = some ⟨oc8, od8, .func (PySem.W.fnOf "possible_days" "possible_days" (defArgs s_possible_days) (defBody s_possible_days) (defScope s_possible_days) .none kV8 dc8 pm8 an8 cd8 ct8), sl8⟩) (yc8 : PySem.W.codeIn K cd8 "possible_days" = true) (yk8 : PySem.W.keepIn K (.ref f8) = true)
    {f9 : Addr} {od9 an9 : Option Addr} {sl9 : Array (Option Value)} {oc9 kV9 dc9 pm9 cd9 ct9 : Value}
    (ya9 : PySem.W.nsIn K mainGlobals "possible_shifts" = some (some (.ref f9))) (yl9 : K.lookup f9 = some ⟨oc9, od9, .func (PySem.W.fnOf "possible_shifts" "possible_shifts" (defArgs s_possible_shifts) (defBody s_possible_shifts) (defScope s_possible_shifts) .none kV9 dc9 pm9 an9 cd9 ct9), sl9⟩) (yc9 : PySem.W.codeIn K cd9 "possible_shifts" = true) (yk9 : PySem.W.keepIn K (.ref f9) = true)
    {f10 : Addr} {od10 an10 : Option Addr} {sl10 : Array (Option Value)} {oc10 kV10 dc10 pm10 cd10 ct10 : Value}
    (ya10 : PySem.W.nsIn K mainGlobals "lands_of" = some (some (.ref f10))) (yl10 : K.lookup f10 = some ⟨oc10, od10, .func (PySem.W.fnOf "lands_of" "lands_of" (defArgs s_lands_of) (defBody s_lands_of) (defScope s_lands_of) .none kV10 dc10 pm10 an10 cd10 ct10), sl10⟩) (yc10 : PySem.W.codeIn K cd10 "lands_of" = true) (yk10 : PySem.W.keepIn K (.ref f10) = true)
    {f11 : Addr} {od11 an11 : Option Addr} {sl11 : Array (Option Value)} {oc11 kV11 dc11 pm11 cd11 ct11 : Value}
    (ya11 : PySem.W.nsIn K mainGlobals "_law_deck" = some (some (.ref f11))) (yl11 : K.lookup f11 = some ⟨oc11, od11, .func (PySem.W.fnOf "_law_deck" "_law_deck" (defArgs s__law_deck) (defBody s__law_deck) (defScope s__law_deck) .none kV11 dc11 pm11 an11 cd11 ct11), sl11⟩) (yc11 : PySem.W.codeIn K cd11 "_law_deck" = true) (yk11 : PySem.W.keepIn K (.ref f11) = true)
    {f12 : Addr} {od12 an12 : Option Addr} {sl12 : Array (Option Value)} {oc12 kV12 dc12 pm12 cd12 ct12 : Value}
    (ya12 : PySem.W.nsIn K mainGlobals "_law_pick" = some (some (.ref f12))) (yl12 : K.lookup f12 = some ⟨oc12, od12, .func (PySem.W.fnOf "_law_pick" "_law_pick" (defArgs s__law_pick) (defBody s__law_pick) (defScope s__law_pick) .none kV12 dc12 pm12 an12 cd12 ct12), sl12⟩) (yc12 : PySem.W.codeIn K cd12 "_law_pick" = true) (yk12 : PySem.W.keepIn K (.ref f12) = true)
    {f13 : Addr} {od13 an13 : Option Addr} {sl13 : Array (Option Value)} {oc13 kV13 dc13 pm13 cd13 ct13 : Value}
    (ya13 : PySem.W.nsIn K mainGlobals "_law_one" = some (some (.ref f13))) (yl13 : K.lookup f13 = some ⟨oc13, od13, .func (PySem.W.fnOf "_law_one" "_law_one" (defArgs s__law_one) (defBody s__law_one) (defScope s__law_one) .none kV13 dc13 pm13 an13 cd13 ct13), sl13⟩) (yc13 : PySem.W.codeIn K cd13 "_law_one" = true) (yk13 : PySem.W.keepIn K (.ref f13) = true)
    {f14 : Addr} {od14 an14 : Option Addr} {sl14 : Array (Option Value)} {oc14 kV14 dc14 pm14 cd14 ct14 : Value}
    (ya14 : PySem.W.nsIn K mainGlobals "_law_kin" = some (some (.ref f14))) (yl14 : K.lookup f14 = some ⟨oc14, od14, .func (PySem.W.fnOf "_law_kin" "_law_kin" (defArgs s__law_kin) (defBody s__law_kin) (defScope s__law_kin) .none kV14 dc14 pm14 an14 cd14 ct14), sl14⟩) (yc14 : PySem.W.codeIn K cd14 "_law_kin" = true) (yk14 : PySem.W.keepIn K (.ref f14) = true)
    {f15 : Addr} {od15 an15 : Option Addr} {sl15 : Array (Option Value)} {oc15 kV15 dc15 pm15 cd15 ct15 : Value}
    (ya15 : PySem.W.nsIn K mainGlobals "_law_try" = some (some (.ref f15))) (yl15 : K.lookup f15 = some ⟨oc15, od15, .func (PySem.W.fnOf "_law_try" "_law_try" (defArgs s__law_try) (defBody s__law_try) (defScope s__law_try) .none kV15 dc15 pm15 an15 cd15 ct15), sl15⟩) (yc15 : PySem.W.codeIn K cd15 "_law_try" = true) (yk15 : PySem.W.keepIn K (.ref f15) = true)
    {f16 : Addr} {od16 an16 : Option Addr} {sl16 : Array (Option Value)} {oc16 kV16 dc16 pm16 cd16 ct16 : Value}
    (ya16 : PySem.W.nsIn K mainGlobals "_law_sort" = some (some (.ref f16))) (yl16 : K.lookup f16 = some ⟨oc16, od16, .func (PySem.W.fnOf "_law_sort" "_law_sort" (defArgs s__law_sort) (defBody s__law_sort) (defScope s__law_sort) .none kV16 dc16 pm16 an16 cd16 ct16), sl16⟩) (yc16 : PySem.W.codeIn K cd16 "_law_sort" = true) (yk16 : PySem.W.keepIn K (.ref f16) = true)
    {f17 : Addr} {od17 an17 : Option Addr} {sl17 : Array (Option Value)} {oc17 kV17 dc17 pm17 cd17 ct17 : Value}
    (ya17 : PySem.W.nsIn K mainGlobals "_law_same" = some (some (.ref f17))) (yl17 : K.lookup f17 = some ⟨oc17, od17, .func (PySem.W.fnOf "_law_same" "_law_same" (defArgs s__law_same) (defBody s__law_same) (defScope s__law_same) .none kV17 dc17 pm17 an17 cd17 ct17), sl17⟩) (yc17 : PySem.W.codeIn K cd17 "_law_same" = true) (yk17 : PySem.W.keepIn K (.ref f17) = true)
    {f18 : Addr} {od18 an18 : Option Addr} {sl18 : Array (Option Value)} {oc18 kV18 dc18 pm18 cd18 ct18 : Value}
    (ya18 : PySem.W.nsIn K mainGlobals "_law_land" = some (some (.ref f18))) (yl18 : K.lookup f18 = some ⟨oc18, od18, .func (PySem.W.fnOf "_law_land" "_law_land" (defArgs s__law_land) (defBody s__law_land) (defScope s__law_land) .none kV18 dc18 pm18 an18 cd18 ct18), sl18⟩) (yc18 : PySem.W.codeIn K cd18 "_law_land" = true) (yk18 : PySem.W.keepIn K (.ref f18) = true)
    {f19 : Addr} {od19 an19 : Option Addr} {sl19 : Array (Option Value)} {oc19 kV19 dc19 pm19 cd19 ct19 : Value}
    (ya19 : PySem.W.nsIn K mainGlobals "_law_begin" = some (some (.ref f19))) (yl19 : K.lookup f19 = some ⟨oc19, od19, .func (PySem.W.fnOf "_law_begin" "_law_begin" (defArgs s__law_begin) (defBody s__law_begin) (defScope s__law_begin) .none kV19 dc19 pm19 an19 cd19 ct19), sl19⟩) (yc19 : PySem.W.codeIn K cd19 "_law_begin" = true) (yk19 : PySem.W.keepIn K (.ref f19) = true)
    {f20 : Addr} {od20 an20 : Option Addr} {sl20 : Array (Option Value)} {oc20 kV20 dc20 pm20 cd20 ct20 : Value}
    (ya20 : PySem.W.nsIn K mainGlobals "_law_measure" = some (some (.ref f20))) (yl20 : K.lookup f20 = some ⟨oc20, od20, .func (PySem.W.fnOf "_law_measure" "_law_measure" (defArgs s__law_measure) (defBody s__law_measure) (defScope s__law_measure) .none kV20 dc20 pm20 an20 cd20 ct20), sl20⟩) (yc20 : PySem.W.codeIn K cd20 "_law_measure" = true) (yk20 : PySem.W.keepIn K (.ref f20) = true)
    {f21 : Addr} {od21 an21 : Option Addr} {sl21 : Array (Option Value)} {oc21 kV21 dc21 pm21 cd21 ct21 : Value}
    (ya21 : PySem.W.nsIn K mainGlobals "_law_all" = some (some (.ref f21))) (yl21 : K.lookup f21 = some ⟨oc21, od21, .func (PySem.W.fnOf "_law_all" "_law_all" (defArgs s__law_all) (defBody s__law_all) (defScope s__law_all) .none kV21 dc21 pm21 an21 cd21 ct21), sl21⟩) (yc21 : PySem.W.codeIn K cd21 "_law_all" = true) (yk21 : PySem.W.keepIn K (.ref f21) = true)
    {f22 : Addr} {od22 an22 : Option Addr} {sl22 : Array (Option Value)} {oc22 kV22 dc22 pm22 cd22 ct22 : Value}
    (ya22 : PySem.W.nsIn K mainGlobals "law" = some (some (.ref f22))) (yl22 : K.lookup f22 = some ⟨oc22, od22, .func (PySem.W.fnOf "law" "law" (defArgs s_law) (defBody s_law) (defScope s_law) .none kV22 dc22 pm22 an22 cd22 ct22), sl22⟩) (yc22 : PySem.W.codeIn K cd22 "law" = true) (yk22 : PySem.W.keepIn K (.ref f22) = true)
    {tk0 : Tok} (ycst0 : PySem.W.nsIn K mainGlobals "MOST_DAYS" = some (some (.int 400 tk0)))
    {tk1 : Tok} (ycst1 : PySem.W.nsIn K mainGlobals "FEWEST_SEEN" = some (some (.int 2 tk1)))
    {tk2 : Tok} (ycst2 : PySem.W.nsIn K mainGlobals "MOST_SEEN" = some (some (.int 6 tk2)))
    {tk3 : Tok} (ycst3 : PySem.W.nsIn K mainGlobals "FARTHEST_SEEN_YEAR" = some (some (.int 10000 tk3)))
    {tk4 : Tok} (ycst4 : PySem.W.nsIn K mainGlobals "FARTHEST_SEEN_DAY" = some (some (.int 1000000 tk4)))
    {tk5 : Tok} (ycst5 : PySem.W.nsIn K mainGlobals "MOST_TOLD_BOTTOM" = some (some (.int 12 tk5)))
    (yz0 : PySem.W.nsIn K mainGlobals "isinstance" = some none)
    (yz1 : PySem.W.nsIn K mainGlobals "int" = some none)
    (yz2 : PySem.W.nsIn K mainGlobals "bool" = some none)
    (yz3 : PySem.W.nsIn K mainGlobals "tuple" = some none)
    (yz4 : PySem.W.nsIn K mainGlobals "len" = some none)
    (yz5 : PySem.W.nsIn K mainGlobals "all" = some none)
    (yz6 : PySem.W.nsIn K mainGlobals "zip" = some none)
    (yz7 : PySem.W.nsIn K mainGlobals "list" = some none)
    (yz8 : PySem.W.nsIn K mainGlobals "range" = some none)
    (yz9 : PySem.W.nsIn K mainGlobals "max" = some none)
    (yz10 : PySem.W.nsIn K mainGlobals "min" = some none)
    (yz11 : PySem.W.nsIn K mainGlobals "sorted" = some none)
    (yz12 : PySem.W.nsIn K mainGlobals "ValueError" = some none)
    (yz13 : PySem.W.nsIn K mainGlobals "str" = some none)
    (yz14 : PySem.W.nsIn K mainGlobals "enumerate" = some none)
    (yz15 : PySem.W.nsIn K mainGlobals "abs" = some none)
    (yz16 : PySem.W.nsIn K mainGlobals "set" = some none)
    {C_YearError : Addr} (yE_YearError : PySem.W.nsIn K mainGlobals "YearError" = some (some (.ref C_YearError)))
    {C_NoLand : Addr} (yE_NoLand : PySem.W.nsIn K mainGlobals "NoLand" = some (some (.ref C_NoLand)))
    {C_NoYear : Addr} (yE_NoYear : PySem.W.nsIn K mainGlobals "NoYear" = some (some (.ref C_NoYear)))
    {C_NoDay : Addr} (yE_NoDay : PySem.W.nsIn K mainGlobals "NoDay" = some (some (.ref C_NoDay)))
    {C_NoPlace : Addr} (yE_NoPlace : PySem.W.nsIn K mainGlobals "NoPlace" = some (some (.ref C_NoPlace)))
    {C_NoWeek : Addr} (yE_NoWeek : PySem.W.nsIn K mainGlobals "NoWeek" = some (some (.ref C_NoWeek)))
    {C_NoName : Addr} (yE_NoName : PySem.W.nsIn K mainGlobals "NoName" = some (some (.ref C_NoName)))
    {C_NoSeen : Addr} (yE_NoSeen : PySem.W.nsIn K mainGlobals "NoSeen" = some (some (.ref C_NoSeen)))
    {C_NoNumber : Addr} (yE_NoNumber : PySem.W.nsIn K mainGlobals "NoNumber" = some (some (.ref C_NoNumber)))
    {C_NothingLeft : Addr} (yE_NothingLeft : PySem.W.nsIn K mainGlobals "NothingLeft" = some (some (.ref C_NothingLeft)))
    (ysp : PySem.W.specialIn K (.builtin "object.__class__") "__get__" = some (some (.builtin "getset_descriptor.__get__")))
    (ytk : PySem.W.takesIn K (.builtin "object.__class__") = some true)
    (yx_NoSeen : PySem.W.excIn K C_NoSeen [.type "ValueError", .type "Exception", .type "BaseException", .type "object"] "ValueError.__new__" = true)
    (yk_NoSeen : PySem.W.keepIn K (.ref C_NoSeen) = true)
    (ysb_NoSeen : PySem.W.subIn K (.ref C_NoSeen) (.type "BaseException") = some true)
    (ytp_NoSeen : PySem.W.typeIn K (.ref C_NoSeen) = some (.type "type"))
    (yga_NoSeen : PySem.W.findIn K (.ref C_NoSeen) "__getattribute__" = some (some (.builtin "BaseException.__getattribute__")))
    (ygt_NoSeen : PySem.W.findIn K (.ref C_NoSeen) "__getattr__" = some none)
    (yhd_NoSeen : PySem.W.hasDictIn K C_NoSeen = true)
    (yca_NoSeen : PySem.W.findIn K (.ref C_NoSeen) "__class__" = some (some (.builtin "object.__class__")))
    (ymr_NoSeen : PySem.W.mroIn K C_NoSeen (.type "object") = some true)
    (yem_NoSeen : PySem.W.exmOne K (.ref C_NoSeen) (.ref C_YearError) = some true)
    (yki_NoSeen_NoLand : PySem.W.kitOne K (.ref C_NoSeen) (.ref C_NoLand) = some false)
    (yki_NoSeen_NoYear : PySem.W.kitOne K (.ref C_NoSeen) (.ref C_NoYear) = some false)
    (yki_NoSeen_NoDay : PySem.W.kitOne K (.ref C_NoSeen) (.ref C_NoDay) = some false)
    (yki_NoSeen_NoPlace : PySem.W.kitOne K (.ref C_NoSeen) (.ref C_NoPlace) = some false)
    (yki_NoSeen_NoWeek : PySem.W.kitOne K (.ref C_NoSeen) (.ref C_NoWeek) = some false)
    (yki_NoSeen_NoName : PySem.W.kitOne K (.ref C_NoSeen) (.ref C_NoName) = some false)
    (yki_NoSeen_NoSeen : PySem.W.kitOne K (.ref C_NoSeen) (.ref C_NoSeen) = some true)
    (yki_NoSeen_NoNumber : PySem.W.kitOne K (.ref C_NoSeen) (.ref C_NoNumber) = some false)
    (yki_NoSeen_NothingLeft : PySem.W.kitOne K (.ref C_NoSeen) (.ref C_NothingLeft) = some false)
    (yki_NoSeen_V : PySem.W.kitOne K (.ref C_NoSeen) (.type "ValueError") = some true)
    (yx_NoNumber : PySem.W.excIn K C_NoNumber [.type "ValueError", .type "Exception", .type "BaseException", .type "object"] "ValueError.__new__" = true)
    (yk_NoNumber : PySem.W.keepIn K (.ref C_NoNumber) = true)
    (ysb_NoNumber : PySem.W.subIn K (.ref C_NoNumber) (.type "BaseException") = some true)
    (ytp_NoNumber : PySem.W.typeIn K (.ref C_NoNumber) = some (.type "type"))
    (yga_NoNumber : PySem.W.findIn K (.ref C_NoNumber) "__getattribute__" = some (some (.builtin "BaseException.__getattribute__")))
    (ygt_NoNumber : PySem.W.findIn K (.ref C_NoNumber) "__getattr__" = some none)
    (yhd_NoNumber : PySem.W.hasDictIn K C_NoNumber = true)
    (yca_NoNumber : PySem.W.findIn K (.ref C_NoNumber) "__class__" = some (some (.builtin "object.__class__")))
    (ymr_NoNumber : PySem.W.mroIn K C_NoNumber (.type "object") = some true)
    (yem_NoNumber : PySem.W.exmOne K (.ref C_NoNumber) (.ref C_YearError) = some true)
    (yki_NoNumber_NoLand : PySem.W.kitOne K (.ref C_NoNumber) (.ref C_NoLand) = some false)
    (yki_NoNumber_NoYear : PySem.W.kitOne K (.ref C_NoNumber) (.ref C_NoYear) = some false)
    (yki_NoNumber_NoDay : PySem.W.kitOne K (.ref C_NoNumber) (.ref C_NoDay) = some false)
    (yki_NoNumber_NoPlace : PySem.W.kitOne K (.ref C_NoNumber) (.ref C_NoPlace) = some false)
    (yki_NoNumber_NoWeek : PySem.W.kitOne K (.ref C_NoNumber) (.ref C_NoWeek) = some false)
    (yki_NoNumber_NoName : PySem.W.kitOne K (.ref C_NoNumber) (.ref C_NoName) = some false)
    (yki_NoNumber_NoSeen : PySem.W.kitOne K (.ref C_NoNumber) (.ref C_NoSeen) = some false)
    (yki_NoNumber_NoNumber : PySem.W.kitOne K (.ref C_NoNumber) (.ref C_NoNumber) = some true)
    (yki_NoNumber_NothingLeft : PySem.W.kitOne K (.ref C_NoNumber) (.ref C_NothingLeft) = some false)
    (yki_NoNumber_V : PySem.W.kitOne K (.ref C_NoNumber) (.type "ValueError") = some true)
    {cL PT : Addr} (ycl : cd22 = .ref cL) (ych : PySem.W.codeHdIn K cL PT = true) (ynl : K.lookup PT = none) (ytab : h.get? PT = some (PySem.W.tabObj #[]))
    : LamX.LawAtS l w K CX0 9 63 "script" mg fa h := by
  have e := hfa.symm.trans (PySem.W.mg_of X G ya22)
  cases e
  have F0 := fun_mk (st := s_is_whole) yl0 yc0 yk0
  have b0 := F0.binds (ps := ["thing"]) fun _ _ _ _ _ _ us hl => match us, hl with | [_], _ => rfl
  have F1 := fun_mk (st := s_is_between) yl1 yc1 yk1
  have b1 := F1.binds (ps := ["thing", "least", "most"]) fun _ _ _ _ _ _ us hl => match us, hl with | [_, _, _], _ => rfl
  have F2 := fun_mk (st := s_common_measure) yl2 yc2 yk2
  have b2 := F2.binds (ps := ["one", "other"]) fun _ _ _ _ _ _ us hl => match us, hl with | [_, _], _ => rfl
  have F3 := fun_mk (st := s_step_of) yl3 yc3 yk3
  have b3 := F3.binds (ps := ["land"]) fun _ _ _ _ _ _ us hl => match us, hl with | [_], _ => rfl
  have F4 := fun_mk (st := s_is_seen_year) yl4 yc4 yk4
  have b4 := F4.binds (ps := ["thing"]) fun _ _ _ _ _ _ us hl => match us, hl with | [_], _ => rfl
  have F5 := fun_mk (st := s_is_seen) yl5 yc5 yk5
  have b5 := F5.binds (ps := ["thing"]) fun _ _ _ _ _ _ us hl => match us, hl with | [_], _ => rfl
  have F6 := fun_mk (st := s_need_seen) yl6 yc6 yk6
  have b6 := F6.binds (ps := ["thing"]) fun _ _ _ _ _ _ us hl => match us, hl with | [_], _ => rfl
  have F7 := fun_mk (st := s_need_most) yl7 yc7 yk7
  have b7 := F7.binds (ps := ["thing"]) fun _ _ _ _ _ _ us hl => match us, hl with | [_], _ => rfl
  have F8 := fun_mk (st := s_possible_days) yl8 yc8 yk8
  have b8 := F8.binds (ps := ["seen"]) fun _ _ _ _ _ _ us hl => match us, hl with | [_], _ => rfl
  have F9 := fun_mk (st := s_possible_shifts) yl9 yc9 yk9
  have b9 := F9.binds (ps := ["seen", "days", "top", "bottom"]) fun _ _ _ _ _ _ us hl => match us, hl with | [_, _, _, _], _ => rfl
  have F10 := fun_mk (st := s_lands_of) yl10 yc10 yk10
  have b10 := F10.binds (ps := ["seen", "most"]) fun _ _ _ _ _ _ us hl => match us, hl with | [_, _], _ => rfl
  have F11 := fun_mk (st := s__law_deck) yl11 yc11 yk11
  have b11 := F11.binds (ps := ["cell", "turn"]) fun _ _ _ _ _ _ us hl => match us, hl with | [_, _], _ => rfl
  have F12 := fun_mk (st := s__law_pick) yl12 yc12 yk12
  have b12 := F12.binds (ps := ["deck", "size"]) fun _ _ _ _ _ _ us hl => match us, hl with | [_, _], _ => rfl
  have F13 := fun_mk (st := s__law_one) yl13 yc13 yk13
  have b13 := F13.binds (ps := ["deck", "some"]) fun _ _ _ _ _ _ us hl => match us, hl with | [_, _], _ => rfl
  have F14 := fun_mk (st := s__law_kin) yl14 yc14 yk14
  have b14 := F14.binds (ps := ["e"]) fun _ _ _ _ _ _ us hl => match us, hl with | [_], _ => rfl
  have F15 := fun_mk (st := s__law_try) yl15 yc15 yk15
  have b15 := F15.binds (ps := ["door"]) fun _ _ _ _ _ _ us hl => match us, hl with | [_], _ => rfl
  have F16 := fun_mk (st := s__law_sort) yl16 yc16 yk16
  have b16 := F16.binds (ps := ["thing"]) fun _ _ _ _ _ _ us hl => match us, hl with | [_], _ => rfl
  have F17 := fun_mk (st := s__law_same) yl17 yc17 yk17
  have b17 := F17.binds (ps := ["told", "due"]) fun _ _ _ _ _ _ us hl => match us, hl with | [_, _], _ => rfl
  have F18 := fun_mk (st := s__law_land) yl18 yc18 yk18
  have b18 := F18.binds (ps := ["deck", "long_so", "bottoms", "shifts"]) fun _ _ _ _ _ _ us hl => match us, hl with | [_, _, _, _], _ => rfl
  have F19 := fun_mk (st := s__law_begin) yl19 yc19 yk19
  have b19 := F19.binds (ps := ["land", "year"]) fun _ _ _ _ _ _ us hl => match us, hl with | [_, _], _ => rfl
  have F20 := fun_mk (st := s__law_measure) yl20 yc20 yk20
  have b20 := F20.binds (ps := ["one", "other"]) fun _ _ _ _ _ _ us hl => match us, hl with | [_, _], _ => rfl
  have F21 := fun_mk (st := s__law_all) yl21 yc21 yk21
  have b21 := F21.binds (ps := ["seen", "most"]) fun _ _ _ _ _ _ us hl => match us, hl with | [_, _], _ => rfl
  have FL := fun_mk (st := s_law) yl22 yc22 yk22
  let T : Txt K mg := { is_whole := ⟨_, _, F0, b0, PySem.W.mg_of X G ya0⟩, is_between := ⟨_, _, F1, b1, PySem.W.mg_of X G ya1⟩, common_measure := ⟨_, _, F2, b2, PySem.W.mg_of X G ya2⟩, step_of := ⟨_, _, F3, b3, PySem.W.mg_of X G ya3⟩, is_seen_year := ⟨_, _, F4, b4, PySem.W.mg_of X G ya4⟩, is_seen := ⟨_, _, F5, b5, PySem.W.mg_of X G ya5⟩, need_seen := ⟨_, _, F6, b6, PySem.W.mg_of X G ya6⟩, need_most := ⟨_, _, F7, b7, PySem.W.mg_of X G ya7⟩, possible_days := ⟨_, _, F8, b8, PySem.W.mg_of X G ya8⟩, possible_shifts := ⟨_, _, F9, b9, PySem.W.mg_of X G ya9⟩, lands_of := ⟨_, _, F10, b10, PySem.W.mg_of X G ya10⟩, _law_deck := ⟨_, _, F11, b11, PySem.W.mg_of X G ya11⟩, _law_pick := ⟨_, _, F12, b12, PySem.W.mg_of X G ya12⟩, _law_one := ⟨_, _, F13, b13, PySem.W.mg_of X G ya13⟩, _law_kin := ⟨_, _, F14, b14, PySem.W.mg_of X G ya14⟩, _law_try := ⟨_, _, F15, b15, PySem.W.mg_of X G ya15⟩, _law_sort := ⟨_, _, F16, b16, PySem.W.mg_of X G ya16⟩, _law_same := ⟨_, _, F17, b17, PySem.W.mg_of X G ya17⟩, _law_land := ⟨_, _, F18, b18, PySem.W.mg_of X G ya18⟩, _law_begin := ⟨_, _, F19, b19, PySem.W.mg_of X G ya19⟩, _law_measure := ⟨_, _, F20, b20, PySem.W.mg_of X G ya20⟩, _law_all := ⟨_, _, F21, b21, PySem.W.mg_of X G ya21⟩, t_MOST_DAYS := _, c_MOST_DAYS := PySem.W.mg_of X G ycst0, t_FEWEST_SEEN := _, c_FEWEST_SEEN := PySem.W.mg_of X G ycst1, t_MOST_SEEN := _, c_MOST_SEEN := PySem.W.mg_of X G ycst2, t_FARTHEST_SEEN_YEAR := _, c_FARTHEST_SEEN_YEAR := PySem.W.mg_of X G ycst3, t_FARTHEST_SEEN_DAY := _, c_FARTHEST_SEEN_DAY := PySem.W.mg_of X G ycst4, t_MOST_TOLD_BOTTOM := _, c_MOST_TOLD_BOTTOM := PySem.W.mg_of X G ycst5, isinstance := PySem.W.mg_none_of X G yz0, b_int := PySem.W.mg_none_of X G yz1, b_bool := PySem.W.mg_none_of X G yz2, tuple := PySem.W.mg_none_of X G yz3, len := PySem.W.mg_none_of X G yz4, all := PySem.W.mg_none_of X G yz5, zip := PySem.W.mg_none_of X G yz6, b_list := PySem.W.mg_none_of X G yz7, range := PySem.W.mg_none_of X G yz8, max := PySem.W.mg_none_of X G yz9, min := PySem.W.mg_none_of X G yz10, sorted := PySem.W.mg_none_of X G yz11, ValueError := PySem.W.mg_none_of X G yz12, str := PySem.W.mg_none_of X G yz13, enumerate := PySem.W.mg_none_of X G yz14, abs := PySem.W.mg_none_of X G yz15, set := PySem.W.mg_none_of X G yz16, C_YearError := C_YearError, g_YearError := PySem.W.mg_of X G yE_YearError, C_NoLand := C_NoLand, g_NoLand := PySem.W.mg_of X G yE_NoLand, C_NoYear := C_NoYear, g_NoYear := PySem.W.mg_of X G yE_NoYear, C_NoDay := C_NoDay, g_NoDay := PySem.W.mg_of X G yE_NoDay, C_NoPlace := C_NoPlace, g_NoPlace := PySem.W.mg_of X G yE_NoPlace, C_NoWeek := C_NoWeek, g_NoWeek := PySem.W.mg_of X G yE_NoWeek, C_NoName := C_NoName, g_NoName := PySem.W.mg_of X G yE_NoName, C_NoSeen := C_NoSeen, g_NoSeen := PySem.W.mg_of X G yE_NoSeen, C_NoNumber := C_NoNumber, g_NoNumber := PySem.W.mg_of X G yE_NoNumber, C_NothingLeft := C_NothingLeft, g_NothingLeft := PySem.W.mg_of X G yE_NothingLeft, err_NoSeen := ⟨yx_NoSeen, yk_NoSeen, ysb_NoSeen, ytp_NoSeen, ⟨yga_NoSeen, ygt_NoSeen, ysb_NoSeen, yhd_NoSeen, yca_NoSeen, ysp, ytk, ymr_NoSeen⟩, yem_NoSeen⟩, ki_NoSeen_NoLand := yki_NoSeen_NoLand, ki_NoSeen_NoYear := yki_NoSeen_NoYear, ki_NoSeen_NoDay := yki_NoSeen_NoDay, ki_NoSeen_NoPlace := yki_NoSeen_NoPlace, ki_NoSeen_NoWeek := yki_NoSeen_NoWeek, ki_NoSeen_NoName := yki_NoSeen_NoName, ki_NoSeen_NoSeen := yki_NoSeen_NoSeen, ki_NoSeen_NoNumber := yki_NoSeen_NoNumber, ki_NoSeen_NothingLeft := yki_NoSeen_NothingLeft, ki_NoSeen_V := yki_NoSeen_V, err_NoNumber := ⟨yx_NoNumber, yk_NoNumber, ysb_NoNumber, ytp_NoNumber, ⟨yga_NoNumber, ygt_NoNumber, ysb_NoNumber, yhd_NoNumber, yca_NoNumber, ysp, ytk, ymr_NoNumber⟩, yem_NoNumber⟩, ki_NoNumber_NoLand := yki_NoNumber_NoLand, ki_NoNumber_NoYear := yki_NoNumber_NoYear, ki_NoNumber_NoDay := yki_NoNumber_NoDay, ki_NoNumber_NoPlace := yki_NoNumber_NoPlace, ki_NoNumber_NoWeek := yki_NoNumber_NoWeek, ki_NoNumber_NoName := yki_NoNumber_NoName, ki_NoNumber_NoSeen := yki_NoNumber_NoSeen, ki_NoNumber_NoNumber := yki_NoNumber_NoNumber, ki_NoNumber_NothingLeft := yki_NoNumber_NothingLeft, ki_NoNumber_V := yki_NoNumber_V }
  subst ycl
  have one : ∀ {R : Addr × Addr → Prop}, R (cL, PT) → ∀ p ∈ [(cL, PT)], R p := fun r p hp => by cases List.mem_singleton.mp hp; exact r
  exact ⟨PySem.W.fnOf "law" "law" (defArgs s_law) (defBody s_law) (defScope s_law) .none kV22 dc22 pm22 an22 (.ref cL) ct22, [(cL, PT)], spLawT K PT, one ytab, one ynl, one (PySem.W.codeHd_of_K X ych), fun s v => .of_eq rfl, fun H a ns hl _ ht hS => ⟨a, ns, rfl, hS, hl, ht (cL, PT) (List.mem_cons_self ..), fun _ => rfl⟩, fun base _ _ tb => ok_law T yl22 yc22 (tb (cL, PT) (List.mem_cons_self ..))⟩
end LY
open PySem PySem.W PyProof.Rows
set_option maxHeartbeats 0 in
theorem PySem.Challenge.cw_longyears_k09_whole_lands_told_back_holds : PySem.Challenge.rw_longyears_k09_whole_lands_told_back.Holds := by
  w_on; o_law; k_head; (case hw => w_witness2)
  k_fill
  refine LamX.walk_ofTs (l := PySem.Challenge.rw_longyears_k09_whole_lands_told_back) (n := 63) (k := 9) (x := "script") (CX := fun _ => L2.CX0) rfl (by decide) rfl ⟨rfl, by decide, by decide⟩ (fun w h Y => PySem.W.km_in_of Y) ?F (fun _ _ _ _ _ h => h)
  case F =>
    intro w mg fa h Y KX G hmg
    have tab := km_tabs_of Y _ (List.mem_cons_self ..)
    refine' LY.all_mk KX G hmg ?ya0 ?yl0 ?yc0 ?yk0 ?ya1 ?yl1 ?yc1 ?yk1 ?ya2 ?yl2 ?yc2 ?yk2 ?ya3 ?yl3 ?yc3 ?yk3 ?ya4 ?yl4 ?yc4 ?yk4 ?ya5 ?yl5 ?yc5 ?yk5 ?ya6 ?yl6 ?yc6 ?yk6 ?ya7 ?yl7 ?yc7 ?yk7 ?ya8 ?yl8 ?yc8 ?yk8 ?ya9 ?yl9 ?yc9 ?yk9 ?ya10 ?yl10 ?yc10 ?yk10 ?ya11 ?yl11 ?yc11 ?yk11 ?ya12 ?yl12 ?yc12 ?yk12 ?ya13 ?yl13 ?yc13 ?yk13 ?ya14 ?yl14 ?yc14 ?yk14 ?ya15 ?yl15 ?yc15 ?yk15 ?ya16 ?yl16 ?yc16 ?yk16 ?ya17 ?yl17 ?yc17 ?yk17 ?ya18 ?yl18 ?yc18 ?yk18 ?ya19 ?yl19 ?yc19 ?yk19 ?ya20 ?yl20 ?yc20 ?yk20 ?ya21 ?yl21 ?yc21 ?yk21 ?ya22 ?yl22 ?yc22 ?yk22 ?ycst0 ?ycst1 ?ycst2 ?ycst3 ?ycst4 ?ycst5 ?yz0 ?yz1 ?yz2 ?yz3 ?yz4 ?yz5 ?yz6 ?yz7 ?yz8 ?yz9 ?yz10 ?yz11 ?yz12 ?yz13 ?yz14 ?yz15 ?yz16 ?yE_YearError ?yE_NoLand ?yE_NoYear ?yE_NoDay ?yE_NoPlace ?yE_NoWeek ?yE_NoName ?yE_NoSeen ?yE_NoNumber ?yE_NothingLeft ?ysp ?ytk ?yx_NoSeen ?yk_NoSeen ?ysb_NoSeen ?ytp_NoSeen ?yga_NoSeen ?ygt_NoSeen ?yhd_NoSeen ?yca_NoSeen ?ymr_NoSeen ?yem_NoSeen ?yki_NoSeen_NoLand ?yki_NoSeen_NoYear ?yki_NoSeen_NoDay ?yki_NoSeen_NoPlace ?yki_NoSeen_NoWeek ?yki_NoSeen_NoName ?yki_NoSeen_NoSeen ?yki_NoSeen_NoNumber ?yki_NoSeen_NothingLeft ?yki_NoSeen_V ?yx_NoNumber ?yk_NoNumber ?ysb_NoNumber ?ytp_NoNumber ?yga_NoNumber ?ygt_NoNumber ?yhd_NoNumber ?yca_NoNumber ?ymr_NoNumber ?yem_NoNumber ?yki_NoNumber_NoLand ?yki_NoNumber_NoYear ?yki_NoNumber_NoDay ?yki_NoNumber_NoPlace ?yki_NoNumber_NoWeek ?yki_NoNumber_NoName ?yki_NoNumber_NoSeen ?yki_NoNumber_NoNumber ?yki_NoNumber_NothingLeft ?yki_NoNumber_V ?ycl ?ych ?ynl tab
    (case ya0 => k_is)
    (case yl0 => k_is)
    (case yc0 => k_is)
    (case yk0 => k_is)
    (case ya1 => k_is)
    (case yl1 => k_is)
    (case yc1 => k_is)
    (case yk1 => k_is)
    (case ya2 => k_is)
    (case yl2 => k_is)
    (case yc2 => k_is)
    (case yk2 => k_is)
    (case ya3 => k_is)
    (case yl3 => k_is)
    (case yc3 => k_is)
    (case yk3 => k_is)
    (case ya4 => k_is)
    (case yl4 => k_is)
    (case yc4 => k_is)
    (case yk4 => k_is)
    (case ya5 => k_is)
    (case yl5 => k_is)
    (case yc5 => k_is)
    (case yk5 => k_is)
    (case ya6 => k_is)
    (case yl6 => k_is)
    (case yc6 => k_is)
    (case yk6 => k_is)
    (case ya7 => k_is)
    (case yl7 => k_is)
    (case yc7 => k_is)
    (case yk7 => k_is)
    (case ya8 => k_is)
    (case yl8 => k_is)
    (case yc8 => k_is)
    (case yk8 => k_is)
    (case ya9 => k_is)
    (case yl9 => k_is)
    (case yc9 => k_is)
    (case yk9 => k_is)
    (case ya10 => k_is)
    (case yl10 => k_is)
    (case yc10 => k_is)
    (case yk10 => k_is)
    (case ya11 => k_is)
    (case yl11 => k_is)
    (case yc11 => k_is)
    (case yk11 => k_is)
    (case ya12 => k_is)
    (case yl12 => k_is)
    (case yc12 => k_is)
    (case yk12 => k_is)
    (case ya13 => k_is)
    (case yl13 => k_is)
    (case yc13 => k_is)
    (case yk13 => k_is)
    (case ya14 => k_is)
    (case yl14 => k_is)
    (case yc14 => k_is)
    (case yk14 => k_is)
    (case ya15 => k_is)
    (case yl15 => k_is)
    (case yc15 => k_is)
    (case yk15 => k_is)
    (case ya16 => k_is)
    (case yl16 => k_is)
    (case yc16 => k_is)
    (case yk16 => k_is)
    (case ya17 => k_is)
    (case yl17 => k_is)
    (case yc17 => k_is)
    (case yk17 => k_is)
    (case ya18 => k_is)
    (case yl18 => k_is)
    (case yc18 => k_is)
    (case yk18 => k_is)
    (case ya19 => k_is)
    (case yl19 => k_is)
    (case yc19 => k_is)
    (case yk19 => k_is)
    (case ya20 => k_is)
    (case yl20 => k_is)
    (case yc20 => k_is)
    (case yk20 => k_is)
    (case ya21 => k_is)
    (case yl21 => k_is)
    (case yc21 => k_is)
    (case yk21 => k_is)
    (case ya22 => k_is)
    (case yl22 => k_is)
    (case yc22 => k_is)
    (case yk22 => k_is)
    (case ycst0 => k_is)
    (case ycst1 => k_is)
    (case ycst2 => k_is)
    (case ycst3 => k_is)
    (case ycst4 => k_is)
    (case ycst5 => k_is)
    (case yz0 => k_is)
    (case yz1 => k_is)
    (case yz2 => k_is)
    (case yz3 => k_is)
    (case yz4 => k_is)
    (case yz5 => k_is)
    (case yz6 => k_is)
    (case yz7 => k_is)
    (case yz8 => k_is)
    (case yz9 => k_is)
    (case yz10 => k_is)
    (case yz11 => k_is)
    (case yz12 => k_is)
    (case yz13 => k_is)
    (case yz14 => k_is)
    (case yz15 => k_is)
    (case yz16 => k_is)
    (case yE_YearError => k_is)
    (case yE_NoLand => k_is)
    (case yE_NoYear => k_is)
    (case yE_NoDay => k_is)
    (case yE_NoPlace => k_is)
    (case yE_NoWeek => k_is)
    (case yE_NoName => k_is)
    (case yE_NoSeen => k_is)
    (case yE_NoNumber => k_is)
    (case yE_NothingLeft => k_is)
    (case ysp => k_is)
    (case ytk => k_is)
    (case yx_NoSeen => k_exc)
    (case yk_NoSeen => k_is)
    (case ysb_NoSeen => k_is)
    (case ytp_NoSeen => k_is)
    (case yga_NoSeen => k_is)
    (case ygt_NoSeen => k_is)
    (case yhd_NoSeen => k_is)
    (case yca_NoSeen => k_is)
    (case ymr_NoSeen => k_is)
    (case yem_NoSeen => first | rfl | decide +kernel | kernel_rfl)
    (case yki_NoSeen_NoLand => first | rfl | decide +kernel | kernel_rfl)
    (case yki_NoSeen_NoYear => first | rfl | decide +kernel | kernel_rfl)
    (case yki_NoSeen_NoDay => first | rfl | decide +kernel | kernel_rfl)
    (case yki_NoSeen_NoPlace => first | rfl | decide +kernel | kernel_rfl)
    (case yki_NoSeen_NoWeek => first | rfl | decide +kernel | kernel_rfl)
    (case yki_NoSeen_NoName => first | rfl | decide +kernel | kernel_rfl)
    (case yki_NoSeen_NoSeen => first | rfl | decide +kernel | kernel_rfl)
    (case yki_NoSeen_NoNumber => first | rfl | decide +kernel | kernel_rfl)
    (case yki_NoSeen_NothingLeft => first | rfl | decide +kernel | kernel_rfl)
    (case yki_NoSeen_V => first | rfl | decide +kernel | kernel_rfl)
    (case yx_NoNumber => k_exc)
    (case yk_NoNumber => k_is)
    (case ysb_NoNumber => k_is)
    (case ytp_NoNumber => k_is)
    (case yga_NoNumber => k_is)
    (case ygt_NoNumber => k_is)
    (case yhd_NoNumber => k_is)
    (case yca_NoNumber => k_is)
    (case ymr_NoNumber => k_is)
    (case yem_NoNumber => first | rfl | decide +kernel | kernel_rfl)
    (case yki_NoNumber_NoLand => first | rfl | decide +kernel | kernel_rfl)
    (case yki_NoNumber_NoYear => first | rfl | decide +kernel | kernel_rfl)
    (case yki_NoNumber_NoDay => first | rfl | decide +kernel | kernel_rfl)
    (case yki_NoNumber_NoPlace => first | rfl | decide +kernel | kernel_rfl)
    (case yki_NoNumber_NoWeek => first | rfl | decide +kernel | kernel_rfl)
    (case yki_NoNumber_NoName => first | rfl | decide +kernel | kernel_rfl)
    (case yki_NoNumber_NoSeen => first | rfl | decide +kernel | kernel_rfl)
    (case yki_NoNumber_NoNumber => first | rfl | decide +kernel | kernel_rfl)
    (case yki_NoNumber_NothingLeft => first | rfl | decide +kernel | kernel_rfl)
    (case yki_NoNumber_V => first | rfl | decide +kernel | kernel_rfl)
    (case ycl => rfl)
    (case ych => first | rfl | decide +kernel | kernel_rfl)
    (case ynl => first | rfl | decide +kernel | kernel_rfl)
