import PyProof.Rows.All
import Wide.All
import OpenK.AllK
import Wide.FinOn
import KE.KNestM
import KE.KLam
import HandS.ForMost
import HandS.Style
import HandS.Codes
import PyProof.StrOps2
import HandS.Walk
import KE.GoesEnum
import HandS.SetFor
import HandS.IsInst
import HandS.TupAny
import PyProof.ReprRoads
import PyProof.CallFns
import KE.DataMinKey
import HandS.Lambda
import HandS.FltList
import HandS.Steps
import HandS.SortRule
import HandS.FStrTup
import HandS.Deep
import PyProof.StrLawsRepr
import HandS.EndTab
import PySem.Challenge.RW_lastpairs_k02_whole_ranks
set_option Elab.async false
set_option linter.all false
set_option maxRecDepth 100000
namespace K14
open PySem PySem.Spec PyProof.Rows L2
def topS (i : Nat) : Stmt := PySem.Challenge.pw_lastpairs_k02_whole_ranks.main.body.getD i (.Pass ⟨0, 0, 0, 0⟩)
abbrev sMateError : Stmt := topS 1
abbrev sInvalidWishes : Stmt := topS 2
abbrev sInvalidWishesInit : Stmt := inClass sInvalidWishes 0
abbrev sIsNumber : Stmt := topS 5
abbrev sIsBelow : Stmt := topS 6
abbrev sIsName : Stmt := topS 7
abbrev sIsTupleOf : Stmt := topS 8
abbrev sArePersons : Stmt := topS 9
abbrev sAreUnlike : Stmt := topS 10
abbrev sWishes : Stmt := topS 13
abbrev sWInit : Stmt := inClass sWishes 0
abbrev sWEq : Stmt := inClass sWishes 1
abbrev sAreNames : Stmt := topS 14
abbrev sCheckLists : Stmt := topS 15
abbrev sCheckBoth : Stmt := topS 16
abbrev sRanksOfLists : Stmt := topS 17
abbrev sRanksOfList : Stmt := topS 18
abbrev sIsWished : Stmt := topS 19
abbrev sRankOf : Stmt := topS 20
abbrev sWouldRather : Stmt := topS 21
abbrev sRanksIn : Stmt := topS 22
abbrev sBestOf : Stmt := topS 23
abbrev sWorstOf : Stmt := topS 24
abbrev sPairsIn : Stmt := topS 25
abbrev sHeap : Stmt := topS 27
abbrev sDraw : Stmt := topS 28
abbrev sPick : Stmt := topS 29
abbrev sLMixed : Stmt := topS 30
abbrev sNames2 : Stmt := topS 31
abbrev sLists2 : Stmt := topS 32
abbrev sLRanks : Stmt := topS 33
abbrev sLPersonRight : Stmt := topS 34
abbrev sLaw : Stmt := topS 35
end K14
/-! enumerate of a tuple -/
namespace K14
open PySem PySem.Spec PyProof.Rows L2
abbrev enObj (n : Nat) : Obj := { cls := .type "enumerate", data := .fields #[.none, .bool false, .ref n, rawInt 0, .none, .none] }
set_option maxHeartbeats 1000000 in
theorem enum_make {v : Value} {o : Obj} {H : Heap → Prop} (B : Begins v o H) :
    Meets (Builtin.«enumerate.__new__» ⟨[.type "enumerate", v], []⟩) (fun _ R s => H s.heap ∧ R (.ok (.ret (.ref (s.heap.push o).objs.size))) { s with heap := (s.heap.push o).push (enObj s.heap.objs.size) }) :=
  .of_wp fun prog w A R s h => by
    obtain ⟨hp, gg, dd, tk, os⟩ := s
    obtain ⟨h1, h⟩ := h
    have isSub := sub_enumerate
    have goIt : ∀ {A' : Around} {E Q : Value → Shared → Prop}, Q (.ref hp.objs.size) ⟨hp.push o, gg, dd, tk, os⟩ → wpAny (model prog w) A' (pyIter v) Q E ⟨hp, gg, dd, tk, os⟩ := fun q => B.iter prog w _ _ ⟨hp, gg, dd, tk, os⟩ _ h1 q
    wp_walk using goIt
    refine wpAny_stack_any fun st => wpAny_pure ?_
    split
    · rename_i c _ _ _ _ _
      cases (c == Value.type "enumerate") <;> (wp_walk using goIt; exact ⟨_, rfl, h⟩)
    · wp_walk using goIt
      exact ⟨_, rfl, h⟩
section
variable {prog : Program} {w : World} {A : Around} {E : Value → Shared → Prop} {s : Shared}
theorem enum_call {v : Value} {o : Obj} {H : Heap → Prop} {Q : Value → Shared → Prop} (B : Begins v o H) (h1 : H s.heap)
    (h : ∀ h', IsEnum h' (s.heap.objs.size + 1) s.heap.objs.size 0 .none → h'.get? s.heap.objs.size = some o → (∀ b u, s.heap.get? b = some u → h'.get? b = some u) → Q (.ref (s.heap.objs.size + 1)) { s with heap := h' }) :
    wpAny (model prog w) A (call (.type "enumerate") [v]) Q E s := by
  refine callType_new F.called_enumerate (by decide) (F.typeCall_enumerate_1 _) (F.newCall_enumerate_1 _) (fun ob => F.args_object_init_2 ob _) F.entry_enumerate_new (enum_make B) ⟨h1, ?_⟩
  have sz : (s.heap.push o).objs.size = s.heap.objs.size + 1 := Heap.size_push ..
  show _ ∧ _
  rw [sz]
  have en : IsEnum ((s.heap.push o).push (enObj s.heap.objs.size)) (s.heap.objs.size + 1) s.heap.objs.size 0 .none := by
    have z := Heap.get?_push_size (s.heap.push o) (o := enObj s.heap.objs.size) rfl
    rw [sz] at z
    exact z
  exact ⟨⟨_, en, rfl⟩, h _ en (Heap.get?_push_of_some _ (Heap.get?_push_size _ B.free)) fun b u x => Heap.get?_push_of_some _ (Heap.get?_push_of_some _ x)⟩
end
/-- the tuple at a as it stands, each item in a new pair with its place -/
def IteT (K : PySem.W.Frag) (a : Addr) : It where
  go := fun i H => ∃ (xs : List V) (x : V), SqT K H a xs ∧ xs[i]? = some x
  yld := fun i H v H' => ∃ T x, v = .ref T ∧ H T = none ∧ H' = upd H T (.tup [.int (i : Nat), x]) ∧ ∀ xs, SqT K H a xs → xs[i]? = some x
  stop := fun i H => ∃ xs : List V, SqT K H a xs ∧ xs.length = i
theorem turn_enumT {P : Program} {w : World} {K : PySem.W.Frag} {elts : List Expr} {kk : Nat} {tpos : Pos} (a e it : Addr) (hai : a ≠ it) (hae : a ≠ e) :
    Turn P w K (.Tuple elts kk tpos) (IteT K a) [e, it] e (fun i h => (∃ old, IsEnum h e it ((i : Nat) : Int) old) ∧ h.IsTupleIter it a i ∧ e ≠ it) where
  mem := by simp
  obj := fun i h st b hb => by
    obtain ⟨⟨old, he⟩, ⟨o, ho, hc, hd⟩, _⟩ := st
    rcases (show b = e ∨ b = it by simpa using hb) with z | z <;> subst z
    · exact ⟨_, he, fun v q => nomatch q⟩
    · exact ⟨o, ho, fun v q => (by rw [hd] at q; cases q)⟩
  keep := fun i h h' st k => by
    obtain ⟨⟨old, he⟩, hi, hne⟩ := st
    exact ⟨⟨old, k e (by simp) _ he⟩, hi.at fun o q => k it (by simp) o q, hne⟩
  item := by
    intro X hP hw hK hc i pins s σ H E I hf st hg
    subst hP hw hK
    obtain ⟨⟨old, he⟩, hit, hne⟩ := st
    obtain ⟨xs, x, hq, hx⟩ := hg
    obtain ⟨its, rv, p, _⟩ := I.tuple hq
    obtain ⟨u, hu, ru⟩ := rv.get hx
    have hel : e < s.heap.objs.size := Heap.lt_size he
    have hil : it < s.heap.objs.size := by obtain ⟨_, q, _⟩ := hit; exact Heap.lt_size q
    have hat : a ≠ e ∧ a ≠ it := ⟨hae, hai⟩
    have hiz : i < its.toArray.size := by
      have := (List.getElem?_eq_some_iff.mp hu).1
      simpa using this
    refine wpAny_pyNext_enum_itemC (fp := [it, a]) (Draws.tuple (A := X.A.in1) (by rw [show X.A.in1.handled = X.A.handled from rfl]; exact I.ok.hd hc) it a hai its.toArray) he ⟨hit, p⟩ hiz hne (by simp; exact ⟨hne, Ne.symm hae⟩) fun x' h' tk hP' ho st' hT hsz hk => ?_
    have ex : x' = u := by
      have h1 : its[i]? = some x' := by simpa using hP'
      rw [hu] at h1
      exact (Option.some.inj h1).symm
    subst ex
    refine ⟨_, rfl, wpAny_letOwnedTupleGo_enum (s := { s with heap := h', toks := tk + 1 }) ho fun h2 he2 sb => ?_⟩
    have back : ∀ b, b ≠ e → h2.get? b = h'.get? b := fun b nb => sb.2 b nb
    have nTe : s.heap.objs.size ≠ e := Nat.ne_of_gt hel
    have isT : h2.get? s.heap.objs.size = some { cls := .type "tuple", data := .seq #[.int i tk, x'] } := (back _ nTe).trans hT
    have new : ObjOk X.prog X.w (upd H s.heap.objs.size (.tup [.int (i : Nat), x])) h2 s.heap.objs.size (.tup [.int (i : Nat), x]) :=
      ⟨(by show 2 ≤ sizeLine; decide), [.int i tk, x'], .cons ⟨_, rfl⟩ (.cons ru .nil), ⟨_, isT, rfl, _, rfl⟩⟩
    have kept : ∀ b ob, b ∉ [e, it] → s.heap.get? b = some ob → h2.get? b = some ob := fun b ob hb q => by
      have n1 : b ≠ e := fun z => hb (by rw [z]; simp)
      have n2 : b ≠ it := fun z => hb (by rw [z]; simp)
      exact (back b n1).trans (hk b ob n1 n2 q)
    have I1 : Inv X pins σ (upd H s.heap.objs.size (.tup [.int (i : Nat), x])) { s with heap := h2, toks := tk + 1 } := I.turnedNew (ch := [e, it]) kept hf (Nat.le_refl _) new
    refine ⟨.ref s.heap.objs.size, _, I1, rfl, ⟨_, x, rfl, I.hok.fresh (Nat.le_refl _), rfl, fun ys hy => by rw [I.tuple_inj hy hq]; exact hx⟩, ⟨⟨_, he2⟩, st'.1.at fun o q => (back it (Ne.symm hne)).trans q, hne⟩, fun b hb => ?_⟩
    have lt : b < s.heap.objs.size := by
      rcases (show b = e ∨ b = it by simpa using hb) with z | z <;> subst z
      · exact hel
      · exact hil
    rw [upd_ne (Nat.ne_of_lt lt)]
    exact (hf b hb).1
  done := by
    intro X hP hw hK hc i pins s σ H E I hf st hg
    subst hP hw hK
    obtain ⟨⟨old, he⟩, hit, hne⟩ := st
    obtain ⟨xs, hq, hx⟩ := hg
    obtain ⟨its, rv, p, _⟩ := I.tuple hq
    obtain ⟨f0, f1, f2, f3, f4, f5⟩ := hf it (by simp)
    have hl := rv.length
    have iz : i = its.toArray.size := by simp; omega
    subst iz
    refine wpAny_pyNext_enum_endD (fp := [it, a]) (Draws.tuple (A := X.A.in1) (by rw [show X.A.in1.handled = X.A.handled from rfl]; exact I.ok.hd hc) it a hai its.toArray) he ⟨hit, p⟩ fun h' eb => ⟨rfl, I.turned (t' := s.toks) (fun b o hb q => eb b o hb q) f0 f1 f3 f4 f5⟩
  self := fun A i s Q E st h => by
    obtain ⟨⟨_, he⟩, _⟩ := st
    exact wpAny_pyIter_enum he h
def iEnumT (K : PySem.W.Frag) (ta : TA) : TI := fun σ H R => ta σ H fun vs H1 => ∃ a xs, vs = [.ref a] ∧ SqT K H1 a xs ∧ R (IteT K a) H1
theorem pi_enumT {X : Cx} {e : Expr} {ta : TA} {p pos tpos : Pos} {elts : List Expr} {kk : Nat} (hg : Gl X "enumerate") (hm : X.mg "enumerate" = none) (ha : PA X [e] ta) (hs : starEach [e] X.env = [(false, eval e X.env)] := by rfl) : PI X (.Tuple elts kk tpos) (.Call (.Name "enumerate" p) [e] [] pos) (iEnumT X.K ta) := by
  refine ⟨fun pins s σ H R I h => ?_⟩
  refine Call_ (ld_blt I hg hm boot_enumerate (PyProof.Rows.callWith_type1 (thn (ha.run pos pins s σ H _ I h) fun us s1 ⟨vs, H1, I1, r1, q1⟩ => ?_) hs rfl))
  obtain ⟨a, xs, ex, hq, q⟩ := q1
  subst ex
  cases r1 with
  | cons r rr =>
    cases rr
    cases r
    obtain ⟨its, rv, pt, _⟩ := I1.tuple hq
    have la : a < s1.heap.objs.size := by obtain ⟨_, z, _⟩ := pt; exact Heap.lt_size z
    refine enum_call (begins_tuple a its.toArray) pt fun h' he hit hk => wpAny_pyIter_enum he ?_
    have I2 : Inv X pins σ H1 { s1 with heap := h' } := I1.kept (t' := s1.toks) hk
    refine ⟨s1.heap.objs.size + 1, [s1.heap.objs.size + 1, s1.heap.objs.size], _, _, H1, rfl, I2, turn_enumT a (s1.heap.objs.size + 1) s1.heap.objs.size (Nat.ne_of_lt la) (Nat.ne_of_lt (Nat.lt_succ_of_lt la)), ⟨⟨.none, he⟩, ⟨_, hit, rfl, rfl⟩, Nat.succ_ne_self _⟩, fun b hb => ?_, q⟩
    have le : s1.heap.objs.size ≤ b := by
      rcases (show b = s1.heap.objs.size + 1 ∨ b = s1.heap.objs.size by simpa using hb) with z | z <;> rw [z]
      · exact Nat.le_succ _
      · exact Nat.le_refl _
    exact I1.fpOk le (I1.hok.fresh le)
theorem walk_enumT {K : PySem.W.Frag} {a : Addr} {xs : List V} : Walk (IteT K a) xs.length (fun H => SqT K H a xs) (YPair (fun i => some (.int (i : Nat))) (fun i => xs[i]?)) where
  goes := fun i H hi q => ⟨xs, xs[i], q, List.getElem?_eq_getElem hi⟩
  stops := fun H q => ⟨xs, q, rfl⟩
  yields := fun i H v H' _ q y => by
    obtain ⟨T, x, h1, h2, h3, h4⟩ := y
    exact ⟨T, _, x, h1, h2, h3, rfl, h4 xs q⟩
end K14
/-! len(set(t)) of a tuple of unlike numbers; isinstance of plain values -/
namespace K14
open PySem PySem.Spec PyProof.Rows L2
def tLenSetT (K : PySem.W.Frag) (ta : TE) : TE := fun σ H Q => ta σ H fun x H1 => ∃ (l : Addr) (ns : List Int), x = .ref l ∧ SqT K H1 l (ns.map V.int) ∧ ns.Nodup ∧ ns.length ≤ 1000 ∧ Q (.int (ns.length : Nat)) H1
theorem pe_lenSetT {X : Cx} {a : Expr} {ta : TE} {p p2 q pos : Pos} (hg : Gl X "len") (hm : X.mg "len" = none) (hg2 : Gl X "set") (hm2 : X.mg "set" = none) (ha : PE X a ta) (hc : X.calm = true := by rfl)
    (na : starEach [a] X.env = (false, eval a X.env) :: starEach [] X.env := by rfl) : PE X (.Call (.Name "len" p) [.Call (.Name "set" p2) [a] [] q] [] pos) (tLenSetT X.K ta) := by
  refine ⟨fun pins s σ H Q I h => Call_ (ld_blt I hg hm boot_len (PyProof.Rows.callWith_builtin1 (PyProof.Rows.args_cons (Call_ (ld_blt I hg2 hm2 PyProof.Rows.boot_set ?_)) rfl) rfl rfl))⟩
  refine PyProof.Rows.callWith_type1 (PyProof.Rows.args_cons (thn (ha.run pins s σ H _ I h) fun v s1 ⟨x, H1, I1, r1, q1⟩ => PyProof.Rows.args_nil ?_) na) na rfl
  obtain ⟨l, ns, rfl, hq, nd, le, q1⟩ := q1
  cases r1
  obtain ⟨its, rv, pt, _⟩ := I1.tuple hq
  have his : IntsAre its.toArray.toList ns := ints_of_vals rv
  refine call_set_tupI ns (I1.ok.hd hc) (show s1.heap.IsTuple l its.toArray from pt) his (by unfold scanBound; omega) fun h' tk c R1 hcn k => PyProof.Rows.args_nil ?_
  obtain ⟨o, es, ep, t, ho, hex, hdt, g, nd2, mem, hb, hf, hn, hr, hl2⟩ := R1
  have I2 : Inv X pins σ H1 { s1 with heap := h', toks := tk } := I1.kept fun b o e => k b o e
  have pm : (es.toList.map keyOf).Perm ns := by
    refine (List.perm_ext_iff_of_nodup nd2 nd).mpr fun j => ?_
    rw [← mem j, decide_eq_true_eq]
  have sz : es.size = ns.length := by
    have := pm.length_eq
    rw [List.length_map, Array.length_toList] at this
    exact this
  exact call_len_set ho hex hdt hf (by rw [sz]; omega) ⟨.int ns.length, H1, I2.tok _, ⟨_, by rw [sz]⟩, q1⟩
end K14
namespace K14
open PySem PySem.Spec PyProof.Rows L2
theorem same_upd {H : Hp} {p : Addr} {o : HO} (h : H p = none) : Same H (upd H p o) := fun b x e => by
  rw [upd_ne (ne_of_none e h)]
  exact e

/-! ### the source of draws: a list of a list of great numbers and of a number -/
structure Src (H : Hp) (h l : Addr) : Prop where
  ex : ∃ (cs : List Int) (z : Int), H h = some (.lst [.ref l, .int z]) ∧ H l = some (.lst (cs.map V.int)) ∧ (∀ c ∈ cs, 0 ≤ c) ∧ cs.length ≤ 60 ∧ 0 ≤ z ∧ z < 2147483648
/-- all but the source stands -/
def Bar (h l : Addr) (H H' : Hp) : Prop := ∀ b o, b ≠ h → b ≠ l → H b = some o → H' b = some o
theorem Bar.refl {h l : Addr} {H : Hp} : Bar h l H H := fun _ _ _ _ e => e
theorem Bar.trans {h l : Addr} {H H1 H2 : Hp} (a : Bar h l H H1) (b : Bar h l H1 H2) : Bar h l H H2 := fun c o n1 n2 e => b c o n1 n2 (a c o n1 n2 e)
theorem Bar.same {h l : Addr} {H H' : Hp} (a : Same H H') : Bar h l H H' := fun c o _ _ e => a c o e
theorem Bar.upd_h {h l : Addr} {H : Hp} {o : HO} : Bar h l H (upd H h o) := fun c u n1 _ e => by rw [upd_ne n1]; exact e
theorem Bar.upd_l {h l : Addr} {H : Hp} {o : HO} : Bar h l H (upd H l o) := fun c u _ n2 e => by rw [upd_ne n2]; exact e
theorem src_ne {H : Hp} {h l : Addr} {cs : List Int} {z : Int} (a : H h = some (.lst [.ref l, .int z])) (b : H l = some (.lst (cs.map V.int))) : h ≠ l := by
  intro e
  rw [e, b] at a
  cases cs with
  | nil => cases a
  | cons c r => cases a
theorem Src.same {H H' : Hp} {h l : Addr} (s : Src H h l) (e : Same H H') : Src H' h l := by
  obtain ⟨cs, z, a, b, r⟩ := s.ex
  exact ⟨cs, z, e _ _ a, e _ _ b, r⟩
theorem Src.ne {H : Hp} {h l p : Addr} {o : HO} (s : Src H h l) (e : H p = some o) (n : ∀ xs, o ≠ .lst xs) : p ≠ h ∧ p ≠ l := by
  obtain ⟨cs, z, a, b, r⟩ := s.ex
  exact ⟨fun q => by rw [q, a] at e; cases e; exact n _ rfl, fun q => by rw [q, b] at e; cases e; exact n _ rfl⟩

/-- a while by its invariant and by what stands behind it -/
theorem tw {c : TT} {tb : TS} {D : Ends} {σ : L2.St} {H : Hp} (W : Nat → L2.St → Hp → Prop) (Y : L2.St → Hp → Prop) {m0 : Nat} (h0 : W m0 σ H) (out : ∀ σ H, Y σ H → D.nx σ H)
    (turn : (∀ σ H, Y σ H → D.nx σ H) → ∀ m σ H, W m σ H → c σ H fun b H1 => if b = true then ∃ N : L2.St → Hp → Prop, (∀ σ' H', N σ' H' → ∃ m', m' < m ∧ W m' σ' H') ∧ tb { D with nx := N, ct := N, bk := D.nx } σ H1 else D.nx σ H1) :
    tWhile c tb D σ H := ⟨W, ⟨m0, h0⟩, turn out⟩
theorem list_end {α : Type} (xs : List α) : xs = [] ∨ ∃ ys y, xs = ys ++ [y] := by
  rcases List.eq_nil_or_concat xs with h | ⟨ys, y, h⟩
  · exact .inl h
  · exact .inr ⟨ys, y, by rw [h]; simp⟩
def spDraw : Sp := fun vs H Q _ => ∃ (h l : Addr) (many : Int), vs = [.ref h, .int many] ∧ Src H h l ∧ 0 < many ∧ many < 1073741824 ∧
  ∀ (k : Int) (H' : Hp), 0 ≤ k → k < many → Src H' h l → Bar h l H H' → Q (.int k) H'

theorem dp_ints {K : PySem.W.Frag} {H : Hp} : ∀ cs : List Int, DpAll K H (cs.map V.int) (cs.map PyData.int)
  | [] => .nil
  | c :: r => .cons (.int c) (dp_ints r)
theorem shaped_ints (cs : List Int) : SeqAt.shaped (.list (cs.map PyData.int)) = true := by
  have h1 : ∀ cs : List Int, PyData.canLayAll0 (cs.map PyData.int) = true := by
    intro cs
    induction cs with
    | nil => rfl
    | cons c r ih => simp only [List.map_cons, PyData.canLayAll0, PyData.canLay0, ih, Bool.and_self]
  have h2 : ∀ cs : List Int, PyData.depthAll (cs.map PyData.int) ≤ 1 := by
    intro cs
    induction cs with
    | nil => simp [PyData.depthAll]
    | cons c r ih => simp only [List.map_cons, PyData.depthAll, PyData.depth]; omega
  have h3 := h2 cs
  have h4 : PyData.depth (.list (cs.map PyData.int)) ≤ 64 := by
    simp only [PyData.depth]
    omega
  have h5 : PyData.canLay0 (.list (cs.map PyData.int)) = true := by
    simp only [PyData.canLay0, h1]
  show (PyData.canLay0 (.list (cs.map PyData.int)) && decide (PyData.depth (.list (cs.map PyData.int)) ≤ 64)) = true
  rw [h5, decide_eq_true h4]
  rfl
theorem eqv_nil : ∀ cs : List Int, PyData.eqv (.list (cs.map PyData.int)) (.list []) = cs.isEmpty
  | [] => by decide
  | c :: r => by simp [PyData.eqv, PyData.eqvAll]
theorem scDraw : FnScope ["heap", "many", "rest"] ["heap", "many"] (defScope sDraw) := ⟨rfl, rfl, rfl, by decide +kernel, rfl, by decide +kernel, by decide +kernel⟩
section
variable {P : Program} {w : World} {K : PySem.W.Frag} {mg : Str → Option Value} {base : Heap}
theorem ok_draw {f : Addr} {fd : FuncData} {k : Nat} (F : Fun K "_law_draw" "_law_draw" sDraw f fd) (mi : mg "int" = none) : FnOk P w K mg base CX0 (k + 1) f fd ["heap", "many"] spDraw := by
  refine F.ok scDraw (fun vs H Q E h => ?_) (fun cdv A outer s H vs Q E hr h => ?_)
  · obtain ⟨h, l, many, rfl, _⟩ := h
    rfl
  · obtain ⟨h, l, many, rfl, src, m0, m1, q⟩ := h
    refine ⟨_, pss_cons (ps_while PassesOwn.never (PW.pt (pw_and (pt_cmpR (op_neD hr.units) (pe_ix ix_list (pv 0) pe_int (fun _ _ => rfl)) (pe_lst pa_nil) (nomark _)) (pw_and1 (pt_cmpR op_eq (pe_ix ix_list (pe_ix ix_list (pv 0) pe_int (fun _ _ => rfl)) (pe_un un_neg pe_int) (fun _ _ => rfl)) pe_int (nomark _)))))
        (pss_one (ps_expr (pe_bm0 PySem.F.plainAttrs_list PySem.F.slot_list_pop PySem.F.type_list_pop mt_pop (pe_ix ix_list (pv 0) pe_int (fun _ _ => rfl))))))
      (pss_cons (ps_if (pt_cmpR (op_neD hr.units) (pe_ix ix_list (pv 0) pe_int (fun _ _ => rfl)) (pe_lst pa_nil) (nomark _))
        (pss_cons (ps_set (i := 2) scDraw.nd rfl (.inl rfl) (pe_bm0 PySem.F.plainAttrs_list PySem.F.slot_list_pop PySem.F.type_list_pop mt_pop (pe_ix ix_list (pv 0) pe_int (fun _ _ => rfl))))
        (pss_cons (ps_expr (pe_bm PySem.F.plainAttrs_list PySem.F.slot_list_append PySem.F.type_list_append mt_append (pe_ix ix_list (pv 0) pe_int (fun _ _ => rfl)) (pa_cons (pe_op op_fdivN (pv 2) (pv 1)) pa_nil)))
        (pss_one (ps_ret (pe_op op_mod (pe_callTy call_int1 (by rfl) mi (by decide +kernel) (pa_cons (pv 2) pa_nil)) (pv 1)))))) pss_nil)
      (pss_cons (ps_asg (pe_op op_mod (pe_callTy call_int1 (by rfl) mi (by decide +kernel) (pa_cons (pe_op op_add (pe_op op_mul (pe_ix ix_list (pv 0) pe_int (fun _ _ => rfl)) pe_int) pe_int) pa_nil)) pe_int) (pg_sub (pv 0) pe_int set_list))
      (pss_one (ps_ret (pe_op op_mod (pe_callTy call_int1 (by rfl) mi (by decide +kernel) (pa_cons (pe_op op_fdivN (pe_ix ix_list (pv 0) pe_int (fun _ _ => rfl)) pe_int) pa_nil)) (pv 1)))))), ?_⟩
    obtain ⟨cs0, z0, a0, b0, p0, n0, y0, y1⟩ := src.ex
    refine tw (fun m σ H' => σ = [some (.ref h), some (.int many), none] ∧ ∃ (cs : List Int) (z : Int), H' h = some (.lst [.ref l, .int z]) ∧ H' l = some (.lst (cs.map V.int)) ∧ (∀ c ∈ cs, 0 ≤ c) ∧ cs.length ≤ 60 ∧ 0 ≤ z ∧ z < 2147483648 ∧ Bar h l H H' ∧ m = cs.length)
      (fun σ H' => σ = [some (.ref h), some (.int many), none] ∧ ∃ (cs : List Int) (z : Int), H' h = some (.lst [.ref l, .int z]) ∧ H' l = some (.lst (cs.map V.int)) ∧ (∀ c ∈ cs, 0 ≤ c) ∧ cs.length ≤ 60 ∧ 0 ≤ z ∧ z < 2147483648 ∧ Bar h l H H')
      ⟨rfl, cs0, z0, a0, b0, p0, n0, y0, y1, Bar.refl, rfl⟩ ?_ (fun out => ?_)
    · -- behind the loop
      rintro σ H1 ⟨rfl, cs, z, eh, el, pos, len, z1, z2, bar⟩
      have nhl := src_ne eh el
      refine ⟨_, rfl, h, _, 0, .ref l, rfl, rfl, SqL.of eh, atI_nat (j := 0) rfl, Nat.zero_le _, fun p hp => ?_⟩
      have nph : h ≠ p := ne_of_none eh hp
      have npl : l ≠ p := ne_of_none el hp
      have eh1 : (upd H1 p (.lst [])) h = some (.lst [.ref l, .int z]) := by rw [upd_ne nph]; exact eh
      have el1 : (upd H1 p (.lst [])) l = some (.lst (cs.map V.int)) := by rw [upd_ne npl]; exact el
      have bar1 : Bar h l H (upd H1 p (.lst [])) := bar.trans (.same (same_upd hp))
      refine ⟨.list (cs.map PyData.int), .list [], .lst (SqL.of el1) (dp_ints cs), .lst (SqL.of upd_same) .nil, shaped_ints cs, by decide, _, rfl, ?_⟩
      rw [eqv_nil]
      generalize upd H1 p (.lst []) = H2 at eh1 el1 bar1
      rcases list_end cs with rfl | ⟨ds, c, rfl⟩
      · -- no great number is left
        refine iteF ?_
        refine ⟨_, rfl, h, _, 1, .int z, rfl, rfl, SqL.of eh1, atI_nat (j := 1) rfl, _, _, rfl, rfl, .inl ⟨by omega, by omega⟩, _, _, rfl, rfl, .inl ⟨_, rfl, _, _, rfl, rfl, (show (0 : Int) < 2147483647 by decide), _, rfl, h, _, 1, 1, rfl, rfl, eh1, rfl, ?_⟩⟩
        have w0 : 0 ≤ (z * 48271 + 17) % 2147483647 := Int.emod_nonneg _ (by decide)
        have w1 : (z * 48271 + 17) % 2147483647 < 2147483647 := Int.emod_lt_of_pos _ (by decide)
        have eh2 : (upd H2 h (.lst ([V.ref l, .int z].set 1 (.int ((z * 48271 + 17) % 2147483647))))) h = some (.lst [.ref l, .int ((z * 48271 + 17) % 2147483647)]) := upd_same
        refine ⟨_, rfl, h, _, 1, .int ((z * 48271 + 17) % 2147483647), rfl, rfl, SqL.of eh2, atI_nat (j := 1) rfl, _, _, rfl, rfl, ⟨by decide, by decide⟩, .inl ⟨_, rfl, _, rfl, _, _, rfl, rfl, m0, ?_⟩⟩
        refine q _ _ (Int.emod_nonneg _ (by omega)) (Int.emod_lt_of_pos _ m0) ⟨[], _, eh2, ?_, by simp, by simp, w0, by omega⟩ (bar1.trans .upd_h)
        rw [upd_ne (Ne.symm nhl)]
        exact el1
      · have e1 : ((ds ++ [c]).isEmpty) = false := by simp
        rw [e1]
        refine iteT ?_
        have e2 : (ds ++ [c]).map V.int = ds.map V.int ++ [.int c] := by simp
        rw [e2] at el1
        have c0 : 0 ≤ c := pos c (by simp)
        refine ⟨_, rfl, h, _, 0, .ref l, rfl, rfl, SqL.of eh1, atI_nat (j := 0) rfl, .inl ⟨rfl, _, SqL.of el1⟩, l, _, .int c, rfl, rfl, el1, by simp, ?_⟩
        have el2 : (upd H2 l (.lst (ds.map V.int ++ [V.int c]).dropLast)) l = some (.lst (ds.map V.int)) := by
          rw [upd_same, List.dropLast_concat]
        have eh2 : (upd H2 l (.lst (ds.map V.int ++ [V.int c]).dropLast)) h = some (.lst [.ref l, .int z]) := by
          rw [upd_ne nhl]; exact eh1
        have bar2 : Bar h l H (upd H2 l (.lst (ds.map V.int ++ [V.int c]).dropLast)) := bar1.trans .upd_l
        generalize upd H2 l (.lst (ds.map V.int ++ [V.int c]).dropLast) = H3 at el2 eh2 bar2
        have len' : ds.length + 1 ≤ 60 := by simp at len; omega
        refine ⟨_, rfl, h, _, 0, .ref l, rfl, rfl, SqL.of eh2, atI_nat (j := 0) rfl, .inl ⟨rfl, _, SqL.of el2⟩, _, rfl, _, rfl, _, _, rfl, rfl, ⟨by omega, by omega⟩, l, _, _, rfl, rfl, el2, ?_, ?_⟩
        · rw [List.length_map]
          exact small1000 (by omega)
        have el3 : (upd H3 l (.lst (ds.map V.int ++ [.int (c.fdiv many)]))) l = some (.lst ((ds ++ [c.fdiv many]).map V.int)) := by
          rw [upd_same]; simp
        have eh3 : (upd H3 l (.lst (ds.map V.int ++ [.int (c.fdiv many)]))) h = some (.lst [.ref l, .int z]) := by
          rw [upd_ne nhl]; exact eh2
        refine ⟨_, rfl, .inl ⟨_, rfl, _, rfl, _, _, rfl, rfl, m0, ?_⟩⟩
        refine q _ _ (Int.emod_nonneg _ (by omega)) (Int.emod_lt_of_pos _ m0) ⟨_, z, eh3, el3, ?_, by simp; omega, z1, z2⟩ (bar2.trans .upd_l)
        intro x hx
        rcases List.mem_append.mp hx with hx | hx
        · exact pos x (by simp [hx])
        · rw [List.mem_singleton.mp hx, Int.fdiv_eq_ediv_of_nonneg _ (by omega)]
          exact Int.ediv_nonneg c0 (by omega)
    · rintro m σ H1 ⟨rfl, cs, z, eh, el, pos, len, z1, z2, bar, rfl⟩
      have nhl := src_ne eh el
      -- heap[0] != []
      refine ⟨_, rfl, h, _, 0, .ref l, rfl, rfl, SqL.of eh, atI_nat (j := 0) rfl, Nat.zero_le _, fun p hp => ?_⟩
      have nph : h ≠ p := ne_of_none eh hp
      have npl : l ≠ p := ne_of_none el hp
      have eh1 : (upd H1 p (.lst [])) h = some (.lst [.ref l, .int z]) := by rw [upd_ne nph]; exact eh
      have el1 : (upd H1 p (.lst [])) l = some (.lst (cs.map V.int)) := by rw [upd_ne npl]; exact el
      have bar1 : Bar h l H (upd H1 p (.lst [])) := bar.trans (.same (same_upd hp))
      refine ⟨.list (cs.map PyData.int), .list [], .lst (SqL.of el1) (dp_ints cs), .lst (SqL.of upd_same) .nil, shaped_ints cs, by decide, _, rfl, ?_⟩
      rw [eqv_nil]
      generalize upd H1 p (.lst []) = H2 at eh1 el1 bar1
      rcases list_end cs with rfl | ⟨ds, c, rfl⟩
      · -- no great number is left
        refine iteF (iteF ?_)
        exact out _ _ ⟨rfl, [], z, eh1, el1, pos, len, z1, z2, bar1⟩
      · have e1 : ((ds ++ [c]).isEmpty) = false := by simp
        rw [e1]
        refine iteT ?_
        have e2 : (ds ++ [c]).map V.int = ds.map V.int ++ [.int c] := by simp
        rw [e2] at el1
        refine ⟨_, rfl, h, _, 0, .ref l, rfl, rfl, SqL.of eh1, atI_nat (j := 0) rfl, 1, rfl, l, _, -1, .int c, rfl, rfl, SqL.of el1, atI_last _ _, rfl, _, rfl, ?_⟩
        refine ite2 (fun e => ?_) (fun e => ?_)
        · refine ⟨fun σ' H' => ∃ m', m' < (ds ++ [c]).length ∧ (σ' = [some (.ref h), some (.int many), none] ∧ ∃ (cs : List Int) (z : Int), H' h = some (.lst [.ref l, .int z]) ∧ H' l = some (.lst (cs.map V.int)) ∧ (∀ c ∈ cs, 0 ≤ c) ∧ cs.length ≤ 60 ∧ 0 ≤ z ∧ z < 2147483648 ∧ Bar h l H H' ∧ m' = cs.length), fun _ _ x => x, ?_⟩
          refine ⟨_, rfl, h, _, 0, .ref l, rfl, rfl, SqL.of eh1, atI_nat (j := 0) rfl, .inl ⟨rfl, _, SqL.of el1⟩, l, _, .int c, rfl, rfl, el1, by simp, ?_⟩
          refine ⟨ds.length, by simp, rfl, ds, z, ?_, ?_, fun c' h' => pos c' (by simp [h']), ?_, z1, z2, bar1.trans .upd_l, rfl⟩
          · rw [upd_ne nhl]; exact eh1
          · rw [upd_same, List.dropLast_concat]
          · simp at len; omega
        · refine out _ _ ⟨rfl, ds ++ [c], z, eh1, ?_, pos, len, z1, z2, bar1⟩
          rw [e2]; exact el1
end
end K14
namespace K14
open PySem PySem.Spec PyProof.Rows L2
/-- a tuple that is known whole: one that tuple(..) made -/
def Ex (H : Hp) (a : Addr) (xs : List V) : Prop := ∃ o : Obj, o.dict = none ∧ o.cls = .type "tuple" ∧ H a = some (.frz o (.tup xs))
/-- a tuple, known whole or not -/
def Tp (H : Hp) (a : Addr) (xs : List V) : Prop := H a = some (.tup xs) ∨ Ex H a xs
theorem Tp.sq {K : PySem.W.Frag} {H : Hp} {a : Addr} {xs : List V} (t : Tp H a xs) : SqT K H a xs := by
  rcases t with e | ⟨o, _, _, e⟩
  · exact SqT.of e
  · exact .inl (.inr ⟨o, e⟩)
theorem Ex.same {H H' : Hp} {a : Addr} {xs : List V} (t : Ex H a xs) (s : Same H H') : Ex H' a xs := let ⟨o, d, c, e⟩ := t; ⟨o, d, c, s _ _ e⟩
theorem Tp.same {H H' : Hp} {a : Addr} {xs : List V} (t : Tp H a xs) (s : Same H H') : Tp H' a xs := t.imp (fun e => s _ _ e) (fun e => e.same s)
theorem Ex.put {H : Hp} {a p : Addr} {xs : List V} {o : HO} (t : Ex H a xs) (n : a ≠ p) : Ex (upd H p o) a xs := let ⟨u, d, c, e⟩ := t; ⟨u, d, c, by rw [upd_ne n]; exact e⟩
theorem Tp.put {H : Hp} {a p : Addr} {xs : List V} {o : HO} (t : Tp H a xs) (n : a ≠ p) : Tp (upd H p o) a xs := t.imp (fun e => by rw [upd_ne n]; exact e) (fun e => e.put n)
theorem Ex.ne_lst {H : Hp} {a p : Addr} {xs ys : List V} (t : Ex H a xs) (e : H p = some (.lst ys)) : a ≠ p := fun z => by
  obtain ⟨u, d, c, e'⟩ := t
  rw [z, e] at e'
  cases e'
theorem Ex.bar {H H' : Hp} {h l a : Addr} {xs : List V} (t : Ex H a xs) (s : Src H h l) (b : Bar h l H H') : Ex H' a xs := by
  obtain ⟨u, d, c, e⟩ := t
  obtain ⟨n1, n2⟩ := s.ne e (fun _ z => by cases z)
  exact ⟨u, d, c, b a _ n1 n2 e⟩
theorem Tp.live {H : Hp} {a : Addr} {xs : List V} (t : Tp H a xs) : ∃ o, H a = some o := by
  rcases t with e | ⟨o, _, _, e⟩
  · exact ⟨_, e⟩
  · exact ⟨_, e⟩

theorem Tp.bar {H H' : Hp} {h l a : Addr} {xs : List V} (t : Tp H a xs) (s : Src H h l) (b : Bar h l H H') : Tp H' a xs := t.imp (fun e => by
  obtain ⟨n1, n2⟩ := s.ne e (fun _ z => by cases z)
  exact b a _ n1 n2 e) (fun e => e.bar s b)
end K14
namespace K14
open PySem PySem.Spec PyProof.Rows L2
def spPick : Sp := fun vs H Q _ => ∃ (h l s : Addr) (xs : List V), vs = [.ref h, .ref s] ∧ Src H h l ∧ (H s = some (.lst xs) ∨ Tp H s xs) ∧ s ≠ h ∧ s ≠ l ∧ 0 < xs.length ∧ xs.length < 10000 ∧
  ∀ (k : Nat) (v : V) (H' : Hp), xs[k]? = some v → Src H' h l → Bar h l H H' → Q v H'
theorem scPick : FnScope ["heap", "some"] ["heap", "some"] (defScope sPick) := ⟨rfl, rfl, rfl, by decide +kernel, rfl, by decide +kernel, by decide +kernel⟩
def spHeap (K : PySem.W.Frag) : Sp := fun vs H Q _ => ∃ (a : Addr) (ns : List Int), vs = [.ref a] ∧ SqL K H a (ns.map V.int) ∧
  ∀ (h l : Addr) (H' : Hp), Same H H' → H h = none → H l = none → Src H' h l → Q (.ref h) H'
theorem scHeap : FnScope ["script", "cell", "cells", "stir"] ["script"] (defScope sHeap) := ⟨rfl, rfl, rfl, by decide +kernel, rfl, by decide +kernel, by decide +kernel⟩
theorem yes {σ : L2.St} {H : Hp} {A : Hp → Prop} {B : Hp → Prop} (h : A H) : tYes σ H (fun b H3 => if b = true then A H3 else B H3) := by
  show (if true = true then A H else B H)
  exact iteT h
theorem cut60 (xs : List V) : cutV xs none (some 60) = xs.take 60 := by
  unfold cutV
  rw [HT.sIx_none, show HT.sIx xs.length xs.length (some 60) = min 60 xs.length from HT.sIx_nat xs.length xs.length 60, List.drop_zero, Nat.sub_zero]
  rw [Nat.min_def]
  split
  · rfl
  · rw [List.take_of_length_le (Nat.le_refl _), List.take_of_length_le (by omega)]
section
variable {P : Program} {w : World} {K : PySem.W.Frag} {mg : Str → Option Value} {base : Heap}
theorem ok_pick {f g : Addr} {fd gd : FuncData} {k : Nat} (F : Fun K "_law_pick" "_law_pick" sPick f fd) (G : FnOk P w K mg base CX0 k g gd ["heap", "many"] spDraw) (bG : Binds K gd ["heap", "many"] []) (kG : PySem.W.keepIn K (.ref g) = true) (mG : mg "_law_draw" = some (.ref g)) (ml : mg "len" = none) :
    FnOk P w K mg base CX0 (k + 1) f fd ["heap", "some"] spPick := by
  refine F.ok scPick (fun vs H Q E h => ?_) (fun cdv A outer s H vs Q E hr h => ?_)
  · obtain ⟨h, l, s, xs, rfl, _⟩ := h
    rfl
  · obtain ⟨h, l, s, xs, rfl, src, es, n1, n2, x0, x1, q⟩ := h
    have at' : ∀ H', Bar h l H H' → SqL K H' s xs ∨ SqT K H' s xs := fun H' b => es.imp (fun e => SqL.of (b _ _ n1 n2 e)) (fun e => (e.bar src b).sq)
    refine ⟨_, pss_one (ps_ret (pe_ix ix_seq (pv 1) (pe_call G hr rfl mG kG bG .nil pass0 (pa_cons (pv 0) (pa_cons (pe_callB call_len_seq (by rfl) ml PySem.boot_len (pa_cons (pv 1) pa_nil)) pa_nil))) (fun _ _ => rfl))), ?_⟩
    refine ⟨_, rfl, _, rfl, _, rfl, s, xs, rfl, at' H Bar.refl, h, l, _, rfl, src, by omega, by omega, fun i H' i0 i1 src' bar => ?_⟩
    obtain ⟨j, rfl⟩ : ∃ j : Nat, i = (j : Int) := ⟨i.toNat, by omega⟩
    have hj : j < xs.length := by omega
    rcases at' H' bar with e | e
    · exact .inl ⟨s, xs, _, _, rfl, rfl, e, atI_nat (List.getElem?_eq_getElem hj), q j _ H' (List.getElem?_eq_getElem hj) src' bar⟩
    · exact .inr (.inl ⟨s, xs, _, _, rfl, rfl, e, atI_nat (List.getElem?_eq_getElem hj), q j _ H' (List.getElem?_eq_getElem hj) src' bar⟩)
theorem ok_heap {f : Addr} {fd : FuncData} {k : Nat} (F : Fun K "_law_heap" "_law_heap" sHeap f fd) (mi : mg "int" = none) (ma : mg "abs" = none) : FnOk P w K mg base CX0 (k + 1) f fd ["script"] (spHeap K) := by
  refine F.ok scHeap (fun vs H Q E h => ?_) (fun cdv A outer s H vs Q E hr h => ?_)
  · obtain ⟨a, ns, rfl, _⟩ := h
    rfl
  · obtain ⟨a, ns, rfl, hS, q⟩ := h
    refine ⟨_, pss_cons (ps_par (i := 2) (j := 3) rfl scHeap.nd rfl rfl (by decide) rfl rfl (pa_cons (pe_lc (own := [("cell", 1)]) (g := gName 1) (tt := tYes) rfl scHeap.nd (pi_list (pe_slice sl_list (pv 0) po_none (po_some pe_int)))
          (blkOk_by (own := [("cell", 1)]) (N := ["script", "cell", "cells", "stir"]) (sc := defScope sHeap) (by decide +kernel)) (fun _ _ _ _ _ => pg_name (i := 1) scHeap.nd rfl (Or.inl rfl)) (fun _ _ _ _ _ => pts_nil)
          (fun _ _ _ _ _ => pe_op op_add (pe_op op_mul pe_int (pe_callB call_abs (by rfl) ma (by decide +kernel) (pa_cons (pv 1) pa_nil))) (pe_callTy call_int1 (by rfl) mi (by decide +kernel) (pa_cons (pe_cmp (pc_lt (pv 1) pe_int) rfl) pa_nil)))) (pa_cons pe_int pa_nil)) (by rfl))
      (pss_cons (ps_for PassesOwn.never rfl (pi_list (pv 2)) (pg_name (i := 1) scHeap.nd rfl (.inl rfl))
        (pss_one (ps_set (i := 3) scHeap.nd rfl (.inl rfl) (pe_op op_mod (pe_callTy call_int1 (by rfl) mi (by decide +kernel) (pa_cons (pe_op op_add (pe_op op_add (pe_op op_mul (pv 3) pe_int) (pe_op op_mod (pe_callTy call_int1 (by rfl) mi (by decide +kernel) (pa_cons (pv 1) pa_nil)) pe_int)) pe_int) pa_nil)) pe_int))))
      (pss_one (ps_ret (pe_lst (pa_cons (pe_revL (pe_lc (own := [("cell", 1)]) (g := gName 1) rfl scHeap.nd (pi_list (pv 2))
          (blkOk_by (own := [("cell", 1)]) (N := ["script", "cell", "cells", "stir"]) (sc := defScope sHeap) (by decide +kernel)) (fun _ _ _ _ _ => pg_name (i := 1) scHeap.nd rfl (Or.inl rfl)) (fun _ _ _ _ _ => pts_one (pt_cmpR op_ge (pv 1) (pe_op op_pow pe_int pe_int) (nomark _)))
          (fun _ _ _ _ _ => pv 1))) (pa_cons (pv 3) pa_nil)))))), ?_⟩
    refine ⟨.ref a, rfl, 60, rfl, a, _, rfl, hS, fun c nc => ?_⟩
    have s1 : Same H (upd H c (.lst (cutV (ns.map V.int) none (some 60)))) := same_upd nc
    have ec : (upd H c (.lst (cutV (ns.map V.int) none (some 60)))) c = some (.lst ((ns.take 60).map V.int)) := by
      rw [upd_same, cut60, List.map_take]
    generalize upd H c (.lst (cutV (ns.map V.int) none (some 60))) = H1 at s1 ec
    refine ⟨c, rfl, ⟨_, SqL.of ec⟩, fun D nD => ?_⟩
    have ncD : c ≠ D := ne_of_none ec nD
    have len60 : (ns.take 60).length ≤ 60 := by rw [List.length_take]; exact Nat.min_le_left _ _
    refine lc_list (K := K) (a := c) (xs := (ns.take 60).map V.int) (fun i H' => ∃ cs : List Int, H' D = some (.lst (cs.map V.int)) ∧ cs.length = i ∧ (∀ z ∈ cs, 0 ≤ z) ∧ H' c = some (.lst ((ns.take 60).map V.int)) ∧ ∀ b o, b ≠ D → H1 b = some o → H' b = some o)
      ⟨[], upd_same, rfl, by simp, by rw [upd_ne ncD]; exact ec, fun b o n e => by rw [upd_ne n]; exact e⟩ (fun i H' _ ⟨_, _, _, _, e, _⟩ => SqL.of e) ?_ ?_
    · rintro i x H' hx ⟨cs, eD, ei, pos, ec', keep⟩
      have hi : i < (ns.take 60).length := by
        have := (List.getElem?_eq_some_iff.mp hx).1
        rw [List.length_map] at this
        exact this
      obtain ⟨u, rfl⟩ : ∃ u, x = V.int u := by
        rw [List.getElem?_map, List.getElem?_eq_getElem hi] at hx
        exact ⟨_, (Option.some.inj hx).symm⟩
      refine ⟨rfl, yes ?_⟩
      refine ⟨_, rfl, _, rfl, _, _, rfl, rfl, .inl ⟨by decide, by decide⟩, _, rfl, u, 0, rfl, rfl, .inr ⟨_, rfl, _, _, rfl, rfl, _, eD, ?_, ?_⟩⟩
      · rw [List.length_map, ei]
        exact small1000 (by omega)
      · refine ⟨cs ++ [2 * (if u < 0 then -u else u) + (if decide (u < 0) = true then 1 else 0)], ?_, by simp [ei], ?_, ?_, fun b o n e => ?_⟩
        · rw [upd_same]
          simp
        · intro z hz
          rcases List.mem_append.mp hz with hz | hz
          · exact pos z hz
          · rw [List.mem_singleton.mp hz]
            split <;> split <;> omega
        · rw [upd_ne ncD]; exact ec'
        · rw [upd_ne n]; exact keep b o n e
    · rintro H2 ⟨cs, eD, ei, pos, ec', keep⟩
      have same2 : Same H H2 := fun b o e => keep b o (fun z => by rw [z] at e; have := s1 _ _ e; rw [nD] at this; cases this) (s1 b o e)
      rw [List.length_map] at ei
      have lc : cs.length ≤ 60 := by omega
      refine ⟨_, _, rfl, ?_⟩
      -- for cell in cells: stir = ..
      refine ⟨_, rfl, D, rfl, ⟨_, SqL.of eD⟩, for_list (K := K) (a := D) (xs := cs.map V.int) (fun i σ H' => ∃ (y : Option V) (z : Int), σ = [some (.ref a), y, some (.ref D), some (.int z)] ∧ 0 ≤ z ∧ z < 2147483648 ∧ H' = H2)
        ⟨none, 20011, rfl, by decide, by decide, rfl⟩ (fun i σ H' _ ⟨_, _, _, _, _, e⟩ => by rw [e]; exact SqL.of eD) ?_ ?_⟩
      · rintro i x σ H' hx ⟨y, z, rfl, z0, z1, rfl⟩
        obtain ⟨u, rfl⟩ : ∃ u, x = V.int u := by
          rw [List.getElem?_map] at hx
          cases e : cs[i]? with
          | none => rw [e] at hx; cases hx
          | some u => rw [e] at hx; exact ⟨u, (Option.some.inj hx).symm⟩
        refine ⟨_, rfl, _, _, rfl, rfl, .inl ⟨by omega, by omega⟩, _, rfl, .inl ⟨_, rfl, _, _, rfl, rfl, (show (0 : Int) < 2147483563 by decide), _, _, rfl, rfl, _, _, rfl, rfl, .inl ⟨_, rfl, _, _, rfl, rfl, (show (0 : Int) < 2147483647 by decide), ?_⟩⟩⟩
        have w0 : 0 ≤ (z * 69621 + u % 2147483563 + 29) % 2147483647 := Int.emod_nonneg _ (by decide)
        have w1 : (z * 69621 + u % 2147483563 + 29) % 2147483647 < 2147483647 := Int.emod_lt_of_pos _ (by decide)
        exact ⟨_, _, rfl, w0, by omega, rfl⟩
      · rintro σ H' ⟨y, z, rfl, z0, z1, rfl⟩
        -- return [[..][::-1], stir]
        refine ⟨_, rfl, D, rfl, ⟨_, SqL.of eD⟩, fun G nG => ?_⟩
        have nDG : D ≠ G := ne_of_none eD nG
        refine lc_list (K := K) (a := D) (xs := cs.map V.int) (fun i H3 => ∃ ds : List Int, H3 G = some (.lst (ds.map V.int)) ∧ ds.length ≤ i ∧ (∀ z ∈ ds, 0 ≤ z) ∧ H3 D = some (.lst (cs.map V.int)) ∧ ∀ b o, b ≠ G → H' b = some o → H3 b = some o)
          ⟨[], upd_same, by simp, by simp, by rw [upd_ne nDG]; exact eD, fun b o n e => by rw [upd_ne n]; exact e⟩ (fun i H3 _ ⟨_, _, _, _, e, _⟩ => SqL.of e) ?_ ?_
        · rintro i x H3 hx ⟨ds, eG, di, dp, eD3, keep3⟩
          have hi : i < cs.length := by
            have := (List.getElem?_eq_some_iff.mp hx).1
            rw [List.length_map] at this
            exact this
          have ex : x = V.int cs[i] := by
            rw [List.getElem?_map, List.getElem?_eq_getElem hi] at hx
            exact (Option.some.inj hx).symm
          subst ex
          refine ⟨rfl, _, rfl, _, _, rfl, rfl, ⟨by decide, by decide, by decide⟩, _, _, rfl, rfl, _, rfl, ?_⟩
          refine ite2 (fun c1 => ?_) (fun c1 => ?_)
          · refine ⟨_, rfl, _, eG, ?_, ds ++ [cs[i]], ?_, by simp; exact di, ?_, ?_, fun b o n e => ?_⟩
            · rw [List.length_map]
              exact small1000 (by omega)
            · rw [upd_same]; simp
            · intro z' hz
              rcases List.mem_append.mp hz with hz | hz
              · exact dp z' hz
              · rw [List.mem_singleton.mp hz]
                exact pos _ (List.getElem_mem hi)
            · rw [upd_ne nDG]; exact eD3
            · rw [upd_ne n]; exact keep3 b o n e
          · exact ⟨ds, eG, by omega, dp, eD3, keep3⟩
        · rintro H3 ⟨ds, eG, di, dp, eD3, keep3⟩
          rw [List.length_map] at di
          have same3 : Same H H3 := fun b o e => keep3 b o (fun z => by rw [z] at e; have := same2 _ _ e; rw [nG] at this; cases this) (same2 b o e)
          refine ⟨G, _, rfl, SqL.of eG, fun p np => ⟨_, rfl, (by show 2 ≤ sizeLine; decide), fun h nh => ?_⟩⟩
          have nhp : p ≠ h := fun e => by rw [← e, upd_same] at nh; cases nh
          have nh3 : H3 h = none := by rw [upd_ne (Ne.symm nhp)] at nh; exact nh
          refine q h p _ (same3.trans ((same_upd np).trans (same_upd nh))) (same3.free nh3) (same3.free np) ⟨ds.reverse, z, upd_same, ?_, ?_, ?_, z0, z1⟩
          · rw [upd_ne nhp, upd_same, List.map_reverse]
          · intro c hc
            exact dp c (List.mem_reverse.mp hc)
          · rw [List.length_reverse]; omega
end
end K14
namespace K14
open PySem PySem.Spec PyProof.Rows L2
theorem call_tupleX {X : Cx} : CallR X (.type "tuple") (fun xs H Q => ∃ p ys, xs = [.ref p] ∧ SqL X.K H p ys ∧ ∀ l H', H l = none → Same H H' → Ex H' l ys → (∀ b o, b ≠ l → H' b = some o → H b = some o) → Q (.ref l) H') := by
  intro pins st σ H xs us Q I r h
  obtain ⟨p, ys, rfl, hq, q⟩ := h
  obtain ⟨u, rfl, rx⟩ := vals1 r
  cases rx
  obtain ⟨its, rv, pl, le⟩ := I.list hq
  have ln := rv.length
  refine call_tuple_list pl.isList (fun h' kp => ?_) (by simp only [List.size_toArray] <;> omega)
  have I1 : Inv X pins σ H { st with heap := h' } := I.kept (t' := st.toks) kp
  have nw := I1.hok.fresh (Nat.le_refl h'.objs.size)
  have I2 : Inv X pins σ (upd H h'.objs.size (.frz { cls := .type "tuple", data := .seq its.toArray } (.tup ys))) { st with heap := h'.push { cls := .type "tuple", data := .seq its.toArray } } :=
    I1.laid (t' := st.toks) (fun b o e => Heap.get?_push_of_some _ e) (Nat.le_refl _) (show ObjOk X.prog X.w _ _ _ (.frz _ (.tup ys)) from ⟨Heap.get?_push_size _ rfl, le, its, rv, IsTup.new _ _⟩)
  exact ⟨.ref h'.objs.size, _, I2, rfl, q _ _ nw (same_upd nw) ⟨_, rfl, rfl, upd_same⟩ fun b o ne e => by rw [upd_ne ne] at e; exact e⟩
/-- the call of a tuple's method -/
def tBMT (r : V → List V → Hp → VK → Prop) (to : TE) (t : TA) : TE := fun σ H Q => to σ H fun x H1 => (∃ p xs, x = .ref p ∧ Ex H1 p xs) ∧ t σ H1 fun xs H2 => r x xs H2 Q
theorem pe_bmT {X : Cx} {o e : Expr} {es : List Expr} {to : TE} {t : TA} {name : Str} {apos cpos : Pos} {id : String} {r : V → List V → Hp → VK → Prop} (pa : PlainAttrs "tuple") (slot : Slot "tuple" name id) (hty : typeOf (.builtin id) = pure (.type "method_descriptor")) (hm : MtR X id r) (ho : PE X o to) (ha : PA X (e :: es) t)
    (hbase : attributeBase o name X.env (eval o X.env) = eval o X.env := by rfl) (hfew : ((backTo cpos (starEach (e :: es) X.env)).all (fun x => !x.1) && (backToKw cpos (keywordEach [] X.env)).all (fun x => x.1.isSome) && decide ((e :: es).length + ([] : List Keyword).length + (if ([] : List Keyword).isEmpty then 0 else 1) < 30)) = true := by rfl)
    (hline : (apos.endLine == cpos.line) = true := by rfl) (hs : starEach (e :: es) X.env = (false, eval e X.env) :: starEach es X.env := by rfl) (hplain : (backTo cpos (starEach es X.env)).any (·.1) = false := by rfl) : PE X (.Call (.Attribute o name apos) (e :: es) [] cpos) (tBMT r to t) := by
  refine ⟨fun pins s σ H Q I h => wpAny_Call_method_late hbase hfew hline rfl (thn (ho.run pins s σ H _ I h) fun v s1 ⟨x, H1, I1, r1, ty, q1⟩ => ?_)⟩
  obtain ⟨p, xs, rfl, ob, hd, hc, e1⟩ := ty
  cases r1
  have live := (I1.hok p _ e1).1
  refine ⟨"tuple", id, pa, slot, hty, ⟨ob, live, hc⟩, fun a ea => ?_, ?_⟩
  · cases ea
    exact ⟨ob, live, hd⟩
  · have hA := ha.run cpos pins s1 σ H1 _ I1 q1
    rw [hs] at hA ⊢
    refine Calls.callWith_builtin (by show (false || (backTo cpos (starEach es X.env)).any (·.1)) = false; rw [hplain] <;> rfl) (Calls.evalArgs_plain ?_)
    exact thn hA fun us s2 ⟨vs, H2, I2, r2, q2⟩ => hm pins s2 σ H2 (.ref p) vs (.ref p) us Q I2 rfl r2 q2
end K14
namespace K14
open PySem PySem.Spec PyProof.Rows L2
theorem seqcut {t u : TS} {D : Ends} {σ : L2.St} {H : Hp} (Y : L2.St → Hp → Prop) (out : ∀ σ H, Y σ H → u D σ H) (k : (∀ σ H, Y σ H → u D σ H) → t { D with nx := u D } σ H) : tSeq t u D σ H := k out
theorem gn {i : Nat} {v : V} {σ : L2.St} {H : Hp} {Q : L2.St → Hp → Prop} (h : Q (σ.set i (some v)) H) : gName i v σ H Q := h
theorem Src.new {H : Hp} {h l p : Addr} (s : Src H h l) (n : H p = none) : p ≠ h ∧ p ≠ l := by
  obtain ⟨cs, z, a, b, r⟩ := s.ex
  exact ⟨fun e => (by rw [e, a] at n; cases n), fun e => (by rw [e, b] at n; cases n)⟩
theorem Bar.free {h l p : Addr} {H H' : Hp} (b : Bar h l H H') (s : Src H' h l) (n : H' p = none) : H p = none := by
  obtain ⟨n1, n2⟩ := s.new n
  cases e : H p with
  | none => rfl
  | some o => rw [b p o n1 n2 e] at n; cases n
theorem Bar.fresh {h l p : Addr} {H H' : Hp} {o : HO} (b : Bar h l H H') (n : H p = none) : Bar h l H (upd H' p o) := fun c u n1 n2 e => by
  rw [upd_ne (ne_of_none e n)]
  exact b c u n1 n2 e
theorem Src.put {H : Hp} {h l p : Addr} {o : HO} (s : Src H h l) (n1 : p ≠ h) (n2 : p ≠ l) : Src (upd H p o) h l := by
  obtain ⟨cs, z, a, b, r⟩ := s.ex
  exact ⟨cs, z, by rw [upd_ne (Ne.symm n1)]; exact a, by rw [upd_ne (Ne.symm n2)]; exact b, r⟩
theorem Src.updn {H : Hp} {h l p : Addr} {o : HO} (s : Src H h l) (n : H p = none) : Src (upd H p o) h l := s.put (s.new n).1 (s.new n).2
theorem ofN {H : Hp} {p q : Addr} {o u : HO} (n : H p = none) (e : H q = some u) : (upd H p o) q = some u := by rw [upd_ne (ne_of_none e n)]; exact e
theorem sz5 {n : Nat} (h : n ≤ 100000) : n ≤ sizeLine := Nat.le_trans h (by decide)
theorem sz6 {n : Nat} (h : n ≤ 100000) : n < sizeLine := Nat.lt_of_le_of_lt h (by decide)

/-! ### the same things in a drawn sequence -/
def spShuffled : Sp := fun vs H Q _ => ∃ (h l s : Addr) (xs : List V), vs = [.ref h, .ref s] ∧ Src H h l ∧ H s = some (.lst xs) ∧ s ≠ h ∧ s ≠ l ∧ xs.length ≤ 1000 ∧
  ∀ (r : Addr) (ys : List V) (H' : Hp), ys.Perm xs → Src H' h l → Bar h l H H' → H r = none → Ex H' r ys → Q (.ref r) H'
theorem erase_perm {α : Type} : ∀ {us : List α} {k : Nat} {y : α}, us[k]? = some y → (y :: us.eraseIdx k).Perm us
  | [], k, y, e => by simp at e
  | u :: r, 0, y, e => by
    have : u = y := by simpa using e
    subst this
    exact List.Perm.refl _
  | u :: r, k + 1, y, e => by
    have e' : r[k]? = some y := by simpa using e
    exact (List.Perm.swap u y _).trans ((erase_perm e').cons u)
theorem perm_pop {xs us fs : List V} {k : Nat} {y : V} (p : (fs ++ us).Perm xs) (e : us[k]? = some y) : ((fs ++ [y]) ++ us.eraseIdx k).Perm xs := by
  refine List.Perm.trans ?_ p
  rw [List.append_assoc]
  refine List.Perm.append_left fs ?_
  exact erase_perm e
section
variable {P : Program} {w : World} {K : PySem.W.Frag} {mg : Str → Option Value} {base : Heap}
end
end K14
namespace K14
open PySem PySem.Spec PyProof.Rows L2
abbrev SS (l : List Nat) : Str := ⟨l.toArray⟩
theorem SS_len (l : List Nat) : (SS l).length = l.length := by simp [SS, Str.length]
theorem SS_cps (l : List Nat) : (SS l).cps.toList = l := rfl
theorem SS_inj {a b : List Nat} (h : SS a = SS b) : a = b := by
  have : (SS a).cps.toList = (SS b).cps.toList := by rw [h]
  exact this
theorem SS_of (s : Str) : SS s.cps.toList = s := rfl
theorem ltCps_eq : ∀ a b : List Nat, ltCps a b = decide (a < b)
  | [], [] => rfl
  | [], _ :: _ => by simp [ltCps]
  | _ :: _, [] => by simp [ltCps]
  | a :: r, b :: t => by
    rw [ltCps, ltCps_eq r t, Bool.eq_iff_iff]
    simp [List.cons_lt_cons_iff]
/-- names: so many, ascending, of one to six letters -/
structure NamesOk (many : Nat) (ns : List (List Nat)) : Prop where
  len : ns.length = many
  each : ∀ s ∈ ns, 1 ≤ s.length ∧ s.length ≤ 6 ∧ ∀ c ∈ s, 97 ≤ c ∧ c ≤ 122
  asc : ∀ i s t, ns[i]? = some s → ns[i + 1]? = some t → s < t
theorem lt_of_not {a b : List Nat} (h : ¬ b < a) (n : a ≠ b) : a < b := by
  rcases List.le_total a b with h1 | h1
  · exact Classical.byContradiction fun z => n (List.le_antisymm h1 (List.not_lt.mp z))
  · exact Classical.byContradiction fun z => n (List.le_antisymm (List.not_lt.mp h) h1)
theorem rising_asc : ∀ (ys : List Str), sortedS ys = true → ys.Nodup → ∀ i s t, (ys.map fun y => y.cps.toList)[i]? = some s → (ys.map fun y => y.cps.toList)[i + 1]? = some t → s < t
  | [], _, _, i, s, t, e, _ => by simp at e
  | [x], _, _, i, s, t, e, e2 => by simp at e2
  | x :: y :: r, h, nd, i, s, t, e, e2 => by
    have h' : (!ltCps y.cps.toList x.cps.toList && risingS y r) = true := by
      have : risingS x (y :: r) = true := h
      rw [risingS] at this
      exact this
    rw [Bool.and_eq_true] at h'
    cases i with
    | zero =>
      have es : x.cps.toList = s := by simpa using e
      have et : y.cps.toList = t := by simpa using e2
      subst es
      subst et
      refine lt_of_not ?_ ?_
      · intro z
        have h1 := h'.1
        rw [ltCps_eq, decide_eq_true z] at h1
        cases h1
      · intro z
        have : x = y := by
          have z' : x.cps = y.cps := by
            apply Array.ext'
            exact z
          cases x; cases y; cases z'; rfl
        rw [List.nodup_cons] at nd
        exact nd.1 (by rw [this]; simp)
    | succ j =>
      exact rising_asc (y :: r) h'.2 (List.nodup_cons.mp nd).2 j s t (by simpa using e) (by simpa using e2)
def nmAt (F : List Nat) (a i : Nat) : List Nat := F ++ [97 + (a + 7 * i) % 26]
theorem nmAt_inj {F : List Nat} {a i j : Nat} (hi : i < 26) (hj : j < 26) (h : nmAt F a i = nmAt F a j) : i = j := by
  have h1 := List.append_cancel_left h
  have h2 : 97 + (a + 7 * i) % 26 = 97 + (a + 7 * j) % 26 := by simpa using h1
  omega
def nms (F : List Nat) (a n : Nat) : List (List Nat) := (List.range n).map (nmAt F a)
theorem nms_len (F : List Nat) (a n : Nat) : (nms F a n).length = n := by simp [nms]
theorem nms_succ (F : List Nat) (a n : Nat) : nms F a (n + 1) = nms F a n ++ [nmAt F a n] := by simp [nms, List.range_succ]
theorem nms_nodup {F : List Nat} {a n : Nat} (h : n ≤ 26) : (nms F a n).Nodup := by
  unfold nms
  refine List.pairwise_map.mpr ?_
  refine List.Pairwise.imp_of_mem ?_ (List.nodup_range (n := n))
  intro i j hi hj ne e
  rw [List.mem_range] at hi hj
  exact ne (nmAt_inj (by omega) (by omega) e)
theorem nms_each {F : List Nat} {a n : Nat} (h5 : F.length ≤ 5) (hF : ∀ c ∈ F, 97 ≤ c ∧ c ≤ 122) : ∀ s ∈ nms F a n, 1 ≤ s.length ∧ s.length ≤ F.length + 1 ∧ ∀ c ∈ s, 97 ≤ c ∧ c ≤ 122 := by
  intro s hs
  obtain ⟨i, _, rfl⟩ := List.mem_map.mp hs
  refine ⟨by simp [nmAt], by simp [nmAt], fun c hc => ?_⟩
  rcases List.mem_append.mp hc with hc | hc
  · exact hF c hc
  · rw [List.mem_singleton.mp hc]
    omega
/-- the first one longer by a letter -/
theorem nms_set {F : List Nat} {a n : Nat} (h : n ≤ 26) (n0 : 0 < n) : ((nms F a n).set 0 (nmAt F a 0 ++ [111])).Nodup := by
  obtain ⟨m, rfl⟩ : ∃ m, n = m + 1 := ⟨n - 1, by omega⟩
  have nd := nms_nodup (F := F) (a := a) h
  have e : nms F a (m + 1) = nmAt F a 0 :: (nms F a (m + 1)).drop 1 := by
    unfold nms
    rw [List.range_succ_eq_map]
    simp
  rw [e] at nd ⊢
  rw [List.set_cons_zero]
  rw [List.nodup_cons] at nd ⊢
  refine ⟨fun hm => ?_, nd.2⟩
  have hm' : nmAt F a 0 ++ [111] ∈ nms F a (m + 1) := by rw [e]; exact List.mem_cons_of_mem _ hm
  obtain ⟨i, _, ei⟩ := List.mem_map.mp hm'
  have := congrArg List.length ei
  simp [nmAt] at this
theorem names_of {many : Nat} {zs : List (List Nat)} {ys : List Str} (l : zs.length = many) (nd : zs.Nodup) (ea : ∀ s ∈ zs, 1 ≤ s.length ∧ s.length ≤ 6 ∧ ∀ c ∈ s, 97 ≤ c ∧ c ≤ 122) (p : ys.Perm (zs.map SS)) (so : sortedS ys = true) : ∃ ns, NamesOk many ns ∧ ys = ns.map SS := by
  refine ⟨ys.map fun y => y.cps.toList, ⟨?_, ?_, ?_⟩, ?_⟩
  · rw [List.length_map, p.length_eq, List.length_map, l]
  · intro s hs
    obtain ⟨y, hy, rfl⟩ := List.mem_map.mp hs
    obtain ⟨z, hz, rfl⟩ := List.mem_map.mp (p.mem_iff.mp hy)
    exact ea z hz
  · refine rising_asc ys so ?_
    rw [p.nodup_iff]
    refine List.pairwise_map.mpr (List.Pairwise.imp ?_ nd)
    intro a b ne e
    exact ne (SS_inj e)
  · rw [List.map_map]
    have : (SS ∘ fun y : Str => y.cps.toList) = id := by
      funext y
      rfl
    rw [this, List.map_id]
end K14
namespace K14
open PySem PySem.Spec PyProof.Rows L2
theorem let_get {j : Nat} (h : j < 26) : ("abcdefghijklmnopqrstuvwxyz" : Str).cps.toList[j]? = some (97 + j) := by
  have e : ("abcdefghijklmnopqrstuvwxyz" : Str) = SS (List.range' 97 26) := by decide +kernel
  rw [e]
  show (List.range' 97 26)[j]? = _
  rw [List.getElem?_range' h]
  congr 1
  omega
theorem SS_app (a b : List Nat) : SS a ++ SS b = SS (a ++ b) := by
  show (⟨a.toArray ++ b.toArray⟩ : Str) = ⟨(a ++ b).toArray⟩
  rw [List.append_toArray]
theorem szS5 {F : List Nat} (h : F.length ≤ 5) : (SS F).length ≤ sizeLine := by rw [SS_len]; exact sz5 (by omega)
theorem ixN_zero {m : Nat} (h : 0 < m) : ixN m 0 = some 0 := by
  unfold ixN
  rw [if_pos (by decide), if_pos (by omega)]
  rfl
def VN (ns : List (List Nat)) : List V := ns.map fun s => V.str (SS s)
theorem VN_eq (ns : List (List Nat)) : VN ns = (ns.map SS).map V.str := by simp [VN]
def spNames : Sp := fun vs H Q _ => ∃ (h l : Addr) (many : Nat), vs = [.ref h, .int many] ∧ Src H h l ∧ 0 < many ∧ many ≤ 26 ∧
  ∀ (r : Addr) (ns : List (List Nat)) (H' : Hp), NamesOk many ns → Src H' h l → Bar h l H H' → H r = none → H' r = some (.tup (VN ns)) → Q (.ref r) H'
section
variable {P : Program} {w : World} {K : PySem.W.Frag} {mg : Str → Option Value} {base : Heap}
end
end K14
namespace K14
open PySem PySem.Spec PyProof.Rows L2
def VI (s : List Nat) : List V := s.map fun j => V.int (j : Nat)
theorem VI_len (s : List Nat) : (VI s).length = s.length := List.length_map _
theorem VI_app (s t : List Nat) : VI (s ++ t) = VI s ++ VI t := List.map_append
theorem VI_get {s : List Nat} {i j : Nat} (h : s[i]? = some j) : (VI s)[i]? = some (.int (j : Nat)) := by unfold VI; rw [List.getElem?_map, h]; rfl
def VI1 : V → Nat
  | .int i => i.toNat
  | _ => 0
theorem perm_VI {ys : List V} {s : List Nat} (p : ys.Perm (VI s)) : ∃ t, ys = VI t ∧ t.Perm s := by
  have e1 : ys = VI (ys.map VI1) := by
    unfold VI
    rw [List.map_map]
    symm
    refine (List.map_congr_left ?_).trans (List.map_id ys)
    intro y hy
    obtain ⟨j, _, rfl⟩ := List.mem_map.mp (p.mem_iff.mp hy)
    rfl
  refine ⟨ys.map VI1, e1, ?_⟩
  have h := p.map VI1
  have e2 : (VI s).map VI1 = s := by
    unfold VI
    rw [List.map_map]
    refine (List.map_congr_left ?_).trans (List.map_id s)
    intro y _
    rfl
  rwa [e2] at h
/-- a row of tuples of numbers, at these places -/
def Rws (H : Hp) (as : List Addr) (ls : List (List Nat)) : Prop := as.length = ls.length ∧ ∀ (i : Nat) (a : Addr) (s : List Nat), as[i]? = some a → ls[i]? = some s → Tp H a (VI s)
/-- a tuple of tuples of numbers -/
def LT (H : Hp) (r : Addr) (ls : List (List Nat)) : Prop := ∃ as : List Addr, H r = some (.tup (as.map V.ref)) ∧ Rws H as ls
theorem tup_bar {H H' : Hp} {h l p : Addr} {xs : List V} (s : Src H h l) (b : Bar h l H H') (e : H p = some (.tup xs)) : H' p = some (.tup xs) := by
  obtain ⟨n1, n2⟩ := s.ne e (fun _ z => by cases z)
  exact b p _ n1 n2 e
theorem Rws.bar {H H' : Hp} {h l : Addr} {as : List Addr} {ls : List (List Nat)} (t : Rws H as ls) (s : Src H h l) (b : Bar h l H H') : Rws H' as ls := ⟨t.1, fun i a x e1 e2 => (t.2 i a x e1 e2).imp (tup_bar s b) (fun e => e.bar s b)⟩
theorem LT.bar {H H' : Hp} {h l r : Addr} {ls : List (List Nat)} (t : LT H r ls) (s : Src H h l) (b : Bar h l H H') : LT H' r ls := by
  obtain ⟨as, e, q⟩ := t
  exact ⟨as, tup_bar s b e, q.bar s b⟩
theorem Rws.same {H H' : Hp} {as : List Addr} {ls : List (List Nat)} (t : Rws H as ls) (b : Same H H') : Rws H' as ls := ⟨t.1, fun i a x e1 e2 => (t.2 i a x e1 e2).same b⟩
theorem LT.same {H H' : Hp} {r : Addr} {ls : List (List Nat)} (t : LT H r ls) (b : Same H H') : LT H' r ls := by
  obtain ⟨as, e, q⟩ := t
  exact ⟨as, b _ _ e, q.same b⟩
theorem LT.updn {H : Hp} {r p : Addr} {o : HO} {ls : List (List Nat)} (t : LT H r ls) (n : H p = none) : LT (upd H p o) r ls := t.same (same_upd n)
/-- a tuple of tuples of numbers, each known whole -/
def LX (H : Hp) (r : Addr) (ls : List (List Nat)) : Prop := ∃ as : List Addr, H r = some (.tup (as.map V.ref)) ∧ as.length = ls.length ∧ ∀ (i : Nat) (a : Addr) (s : List Nat), as[i]? = some a → ls[i]? = some s → Ex H a (VI s)
theorem LX.lt {H : Hp} {r : Addr} {ls : List (List Nat)} (t : LX H r ls) : LT H r ls := let ⟨as, e, l, q⟩ := t; ⟨as, e, l, fun i a s e1 e2 => .inr (q i a s e1 e2)⟩
theorem LX.same {H H' : Hp} {r : Addr} {ls : List (List Nat)} (t : LX H r ls) (b : Same H H') : LX H' r ls := let ⟨as, e, l, q⟩ := t; ⟨as, b _ _ e, l, fun i a s e1 e2 => (q i a s e1 e2).same b⟩
theorem LX.bar {H H' : Hp} {h l r : Addr} {ls : List (List Nat)} (t : LX H r ls) (s : Src H h l) (b : Bar h l H H') : LX H' r ls := let ⟨as, e, le, q⟩ := t; ⟨as, tup_bar s b e, le, fun i a x e1 e2 => (q i a x e1 e2).bar s b⟩
/-- lists both ways -/
structure ListsOk (many : Nat) (ls : List (List Nat)) : Prop where
  len : ls.length = many
  nd : ∀ (i : Nat) (s : List Nat), ls[i]? = some s → s.Nodup
  both : ∀ (i : Nat) (s : List Nat) (j : Nat), ls[i]? = some s → j ∈ s → j < many ∧ j ≠ i ∧ ∃ t : List Nat, ls[j]? = some t ∧ i ∈ t
/-- lists while they grow: all pairs of whom the lesser one is below a, or is a, and the greater one below b, are behind -/
structure Grow (many a b : Nat) (L : Nat → List Nat) : Prop where
  nd : ∀ i, (L i).Nodup
  both : ∀ i j, j ∈ L i → j < many ∧ i < many ∧ j ≠ i ∧ i ∈ L j
  past : ∀ i j, i < j → j ∈ L i → i < a ∨ (i = a ∧ j < b)
def putL (L : Nat → List Nat) (i x : Nat) : Nat → List Nat := fun k => if k = i then L i ++ [x] else L k
theorem Grow.nil {many a b : Nat} : Grow many a b (fun _ => []) := ⟨fun _ => List.nodup_nil, fun _ _ h => (by cases h), fun _ _ _ h => (by cases h)⟩
theorem Grow.mono {many a b a' b' : Nat} {L : Nat → List Nat} (g : Grow many a b L) (h : ∀ i j, i < j → j < many → (i < a ∨ (i = a ∧ j < b)) → (i < a' ∨ (i = a' ∧ j < b'))) : Grow many a' b' L :=
  ⟨g.nd, g.both, fun i j ij m => h i j ij (g.both i j m).1 (g.past i j ij m)⟩
theorem mem_putL {L : Nat → List Nat} {i x k y : Nat} : y ∈ putL L i x k ↔ y ∈ L k ∨ (k = i ∧ y = x) := by
  unfold putL
  split
  · rename_i e
    subst e
    simp
  · rename_i e
    simp [e]
theorem Grow.put {many a b : Nat} {L : Nat → List Nat} (g : Grow many a b L) (ab : a < b) (bm : b < many) : Grow many a (b + 1) (putL (putL L a b) b a) := by
  have n1 : b ∉ L a := fun h => by
    have := g.past a b ab h
    omega
  have n2 : a ∉ L b := fun h => n1 (g.both b a h).2.2.2
  refine ⟨fun i => ?_, fun i j h => ?_, fun i j ij h => ?_⟩
  · unfold putL
    split
    · rename_i e
      subst e
      rw [if_neg (by omega)]
      rw [List.nodup_append]
      refine ⟨g.nd _, by simp, fun x hx y hy e => ?_⟩
      rw [List.mem_singleton.mp hy] at e
      subst e
      exact n2 hx
    · split
      · rename_i e
        subst e
        rw [List.nodup_append]
        refine ⟨g.nd _, by simp, fun x hx y hy e => ?_⟩
        rw [List.mem_singleton.mp hy] at e
        subst e
        exact n1 hx
      · exact g.nd _
  · rw [mem_putL, mem_putL] at h
    have e : i ∈ putL (putL L a b) b a j ↔ (i ∈ L j ∨ (j = a ∧ i = b)) ∨ (j = b ∧ i = a) := by rw [mem_putL, mem_putL]
    rw [e]
    rcases h with (h | ⟨rfl, rfl⟩) | ⟨rfl, rfl⟩
    · obtain ⟨h1, h2, h3, h4⟩ := g.both i j h
      exact ⟨h1, h2, h3, .inl (.inl h4)⟩
    · exact ⟨bm, by omega, by omega, .inr ⟨rfl, rfl⟩⟩
    · exact ⟨by omega, bm, by omega, .inl (.inr ⟨rfl, rfl⟩)⟩
  · rw [mem_putL, mem_putL] at h
    rcases h with (h | ⟨rfl, rfl⟩) | ⟨rfl, rfl⟩
    · have := g.past i j ij h
      omega
    · right
      omega
    · omega
theorem Grow.ok {many a b : Nat} {L : Nat → List Nat} {ls : List (List Nat)} (g : Grow many a b L) (l : ls.length = many) (p : ∀ (i : Nat) (s : List Nat), ls[i]? = some s → s.Perm (L i)) : ListsOk many ls := by
  refine ⟨l, fun i s e => (p i s e).nodup_iff.mpr (g.nd i), fun i s j e hj => ?_⟩
  obtain ⟨h1, h2, h3, h4⟩ := g.both i j ((p i s e).mem_iff.mp hj)
  have hl : j < ls.length := by omega
  exact ⟨h1, h3, ls[j], List.getElem?_eq_getElem hl, (p j _ (List.getElem?_eq_getElem hl)).mem_iff.mpr h4⟩
theorem nodup_ix {α : Type} : ∀ {rs : List α} {i j : Nat} {r : α}, rs.Nodup → rs[i]? = some r → rs[j]? = some r → i = j
  | [], i, j, r, _, e, _ => by simp at e
  | a :: t, 0, 0, r, _, _, _ => rfl
  | a :: t, i + 1, j + 1, r, nd, e1, e2 => by
    exact congrArg (· + 1) (nodup_ix (List.nodup_cons.mp nd).2 (by simpa using e1 : t[i]? = some r) (by simpa using e2 : t[j]? = some r))
  | a :: t, 0, j + 1, r, nd, e1, e2 => by
    have h1 : a = r := by simpa using e1
    have h2 : t[j]? = some r := by simpa using e2
    subst h1
    exact absurd (List.mem_of_getElem? h2) (List.nodup_cons.mp nd).1
  | a :: t, i + 1, 0, r, nd, e1, e2 => by
    have h1 : a = r := by simpa using e2
    have h2 : t[i]? = some r := by simpa using e1
    subst h1
    exact absurd (List.mem_of_getElem? h2) (List.nodup_cons.mp nd).1
theorem _root_.List.Nodup.length_le_card_of_sub : ∀ {n : Nat} {s : List Nat}, s.Nodup → (∀ x ∈ s, x < n) → s.length ≤ n := by
  intro n
  induction n with
  | zero =>
    intro s _ h
    cases s with
    | nil => exact Nat.le_refl _
    | cons a r => exact absurd (h a (by simp)) (by omega)
  | succ n ih =>
    intro s nd h
    have h1 : (s.erase n).length ≤ n := by
      refine ih (nd.erase n) fun x hx => ?_
      have hx' := (List.Nodup.mem_erase_iff nd).mp hx
      have := h x hx'.2
      omega
    have h2 := List.length_erase (a := n) (l := s)
    split at h2 <;> omega
theorem row_put {H : Hp} {rs : List Addr} {L : Nat → List Nat} {i x : Nat} {r : Addr} (nd : rs.Nodup) (e : rs[i]? = some r) (h : ∀ k q, rs[k]? = some q → H q = some (.lst (VI (L k)))) : ∀ k q, rs[k]? = some q → (upd H r (.lst (VI (L i) ++ [V.int (x : Nat)]))) q = some (.lst (VI (putL L i x k))) := by
  intro k q ek
  unfold putL
  by_cases c : k = i
  · subst c
    rw [e] at ek
    cases ek
    rw [upd_same, if_pos rfl, VI_app]
    rfl
  · rw [if_neg c, upd_ne, h k q ek]
    intro z
    subst z
    exact c (nodup_ix nd ek e)
end K14
namespace K14
open PySem PySem.Spec PyProof.Rows L2
/-- plain values -/
inductive Pl (H : Hp) : V → Prop where
  | non : Pl H .non
  | bl (b : Bool) : Pl H (.bl b)
  | int (i : Int) : Pl H (.int i)
  | str (s : Str) : Pl H (.str s)
  | lst {a : Addr} {xs : List V} (e : H a = some (.lst xs)) : Pl H (.ref a)
  | tup {a : Addr} {xs : List V} (e : H a = some (.tup xs)) : Pl H (.ref a)
def isNum : V → Bool
  | .int i => decide (0 ≤ i)
  | _ => false
def isBel (v : V) (n : Nat) : Bool := match v with
  | .int i => decide (0 ≤ i) && decide (i < n)
  | _ => false
def tupOf (H : Hp) : V → Option (List V)
  | .ref a => match H a with
    | some (.tup xs) => some xs
    | _ => none
  | _ => none
def spIsNumber : Sp := fun vs H Q _ => ∃ v : V, vs = [v] ∧ Pl H v ∧ Q (.bl (isNum v)) H
def spIsBelow : Sp := fun vs H Q _ => ∃ (v : V) (n : Nat), vs = [v, .int n] ∧ Pl H v ∧ Q (.bl (isBel v n)) H
def spIsTupleOf : Sp := fun vs H Q _ => ∃ (v : V) (n : Nat), vs = [v, .int n] ∧ Pl H v ∧ (∀ xs, tupOf H v = some xs → xs.length ≤ 100000) ∧ Q (.bl (match tupOf H v with | some xs => decide (xs.length = n) | none => false)) H
theorem scIsNumber : FnScope ["value"] ["value"] (defScope sIsNumber) := ⟨rfl, rfl, rfl, by decide +kernel, rfl, by decide +kernel, by decide +kernel⟩
theorem scIsBelow : FnScope ["value", "bound"] ["value", "bound"] (defScope sIsBelow) := ⟨rfl, rfl, rfl, by decide +kernel, rfl, by decide +kernel, by decide +kernel⟩
theorem scIsTupleOf : FnScope ["value", "many"] ["value", "many"] (defScope sIsTupleOf) := ⟨rfl, rfl, rfl, by decide +kernel, rfl, by decide +kernel, by decide +kernel⟩
section
variable {P : Program} {w : World} {K : PySem.W.Frag} {mg : Str → Option Value} {base : Heap}
theorem ok_is_number {f : Addr} {fd : FuncData} {k : Nat} (F : Fun K "is_number" "is_number" sIsNumber f fd) (mis : mg "isinstance" = none) (mi : mg "int" = none) (mb : mg "bool" = none) : FnOk P w K mg base CX0 (k + 1) f fd ["value"] spIsNumber := by
  refine F.ok scIsNumber (fun vs H Q E h => ?_) (fun cdv A outer s H vs Q E hr h => ?_)
  · obtain ⟨v, rfl, _⟩ := h
    rfl
  · obtain ⟨v, rfl, pl, q⟩ := h
    refine ⟨_, pss_one (ps_ret (pe_and (pe_callB call_isi (by rfl) mis (by decide +kernel) (pa_cons (pv 0) (pa_cons (pe_bltn (v := .ty "int") (by rfl) mi (by decide +kernel) rfl) pa_nil)))
      (pe_and (pe_not (pe_callB call_isi (by rfl) mis (by decide +kernel) (pa_cons (pv 0) (pa_cons (pe_bltn (v := .ty "bool") (by rfl) mb (by decide +kernel) rfl) pa_nil))))
      (pe_one (pe_cmp (pc_ge (pv 0) pe_int) rfl))))), ?_⟩
    cases pl with
    | non => exact (⟨_, rfl, _, _, _, _, false, rfl, .ty _, .base .non, kit_ty (by decide +kernel), ⟨false, rfl, q⟩⟩)
    | bl b => exact (⟨_, rfl, _, _, _, _, true, rfl, .ty _, .base (.bl b), kit_ty (by decide +kernel), ⟨true, rfl, iteT ((⟨_, rfl, _, _, _, _, true, rfl, .ty _, .base (.bl b), kit_ty (by decide +kernel), ⟨_, rfl, _, rfl, q⟩⟩))⟩⟩)
    | int i => exact (⟨_, rfl, _, _, _, _, true, rfl, .ty _, .base (.int i), kit_ty (by decide +kernel), ⟨true, rfl, iteT ((⟨_, rfl, _, _, _, _, false, rfl, .ty _, .base (.int i), kit_ty (by decide +kernel), ⟨_, rfl, _, rfl, iteT ⟨_, rfl, _, _, rfl, rfl, q⟩⟩⟩))⟩⟩)
    | str s => exact (⟨_, rfl, _, _, _, _, false, rfl, .ty _, .base (.str s), kit_ty (by decide +kernel), ⟨false, rfl, q⟩⟩)
    | lst e => exact (⟨_, rfl, _, _, _, _, false, rfl, .ty _, .base (.lst e), kit_ty (by decide +kernel), ⟨false, rfl, q⟩⟩)
    | tup e => exact (⟨_, rfl, _, _, _, _, false, rfl, .ty _, .base (.tup e), kit_ty (by decide +kernel), ⟨false, rfl, q⟩⟩)
theorem ok_is_below {f g : Addr} {fd gd : FuncData} {k : Nat} (F : Fun K "is_below" "is_below" sIsBelow f fd) (G : FnOk P w K mg base CX0 k g gd ["value"] spIsNumber) (bG : Binds K gd ["value"] []) (kG : PySem.W.keepIn K (.ref g) = true) (mG : mg "is_number" = some (.ref g)) : FnOk P w K mg base CX0 (k + 1) f fd ["value", "bound"] spIsBelow := by
  refine F.ok scIsBelow (fun vs H Q E h => ?_) (fun cdv A outer s H vs Q E hr h => ?_)
  · obtain ⟨v, n, rfl, _⟩ := h
    rfl
  · obtain ⟨v, n, rfl, pl, q⟩ := h
    refine ⟨_, pss_one (ps_ret (pe_and (pe_call G hr rfl mG kG bG .nil pass0 (pa_cons (pv 0) pa_nil)) (pe_one (pe_cmp (pc_lt (pv 0) (pv 1)) rfl)))), ?_⟩
    refine ⟨_, rfl, v, rfl, pl, isNum v, rfl, ?_⟩
    cases v with
    | int i =>
      refine ite2 (fun c => ?_) (fun c => ?_)
      · refine ⟨_, rfl, _, rfl, _, _, rfl, rfl, ?_⟩
        have e : isBel (.int i) n = decide (i < n) := by
          show (decide (0 ≤ i) && decide (i < n)) = _
          rw [show decide (0 ≤ i) = true from c]
          rfl
        rw [e] at q
        exact q
      · have e : isBel (.int i) n = false := by
          show (decide (0 ≤ i) && decide (i < n)) = _
          rw [show decide (0 ≤ i) = false from (by simpa [isNum] using c)]
          rfl
        rw [e] at q
        exact q
    | non => exact q
    | bl b => exact q
    | str s => exact q
    | ref a => exact q
    | byt b => exact q
    | flt b => exact q
    | ty n => exact q
theorem ok_is_tuple_of {f : Addr} {fd : FuncData} {k : Nat} (F : Fun K "is_tuple_of" "is_tuple_of" sIsTupleOf f fd) (mis : mg "isinstance" = none) (mt : mg "tuple" = none) (ml : mg "len" = none) : FnOk P w K mg base CX0 (k + 1) f fd ["value", "many"] spIsTupleOf := by
  refine F.ok scIsTupleOf (fun vs H Q E h => ?_) (fun cdv A outer s H vs Q E hr h => ?_)
  · obtain ⟨v, n, rfl, _⟩ := h
    rfl
  · obtain ⟨v, n, rfl, pl, le, q⟩ := h
    refine ⟨_, pss_one (ps_ret (pe_and (pe_callB call_isi (by rfl) mis (by decide +kernel) (pa_cons (pv 0) (pa_cons (pe_bltn (v := .ty "tuple") (by rfl) mt (by decide +kernel) rfl) pa_nil)))
      (pe_one (pe_cmp (pc_eqI (pe_callB call_len_seq (by rfl) ml PySem.boot_len (pa_cons (pv 0) pa_nil)) (pv 1)) rfl)))), ?_⟩
    cases pl with
    | non => exact (⟨_, rfl, _, _, _, _, false, rfl, .ty _, .base .non, kit_ty (by decide +kernel), ⟨false, rfl, q⟩⟩)
    | bl b => exact (⟨_, rfl, _, _, _, _, false, rfl, .ty _, .base (.bl b), kit_ty (by decide +kernel), ⟨false, rfl, q⟩⟩)
    | int i => exact (⟨_, rfl, _, _, _, _, false, rfl, .ty _, .base (.int i), kit_ty (by decide +kernel), ⟨false, rfl, q⟩⟩)
    | str s => exact (⟨_, rfl, _, _, _, _, false, rfl, .ty _, .base (.str s), kit_ty (by decide +kernel), ⟨false, rfl, q⟩⟩)
    | @lst a xs e =>
      refine (⟨_, rfl, _, _, _, _, false, rfl, .ty _, .base (.lst e), kit_ty (by decide +kernel), ⟨false, rfl, ?_⟩⟩)
      have t : tupOf H (.ref a) = none := by simp [tupOf, e]
      rw [t] at q
      exact q
    | @tup a xs e =>
      have t : tupOf H (.ref a) = some xs := by simp [tupOf, e]
      refine (⟨_, rfl, _, _, _, _, true, rfl, .ty _, .base (.tup e), kit_ty (by decide +kernel), ⟨true, rfl, iteT ⟨_, rfl, a, xs, rfl, .inr (SqT.of e), _, rfl, _, _, rfl, rfl, ?_⟩⟩⟩)
      rw [t] at q
      have e2 : decide ((xs.length : Int) = (n : Int)) = decide (xs.length = n) := by
        rw [decide_eq_decide]
        omega
      show Q (.bl (decide ((xs.length : Int) = (n : Int)))) H
      rw [e2]
      exact q
end
end K14
namespace K14
open PySem PySem.Spec PyProof.Rows L2
theorem _root_.L2.Same.fresh {H H' : Hp} {p : Addr} {o : HO} (s : Same H H') (n : H p = none) : Same H (upd H' p o) := fun b x e => by
  rw [upd_ne (ne_of_none e n)]
  exact s b x e
theorem sz6' {n : Nat} (h : n ≤ 100000) : n < sizeLine := Nat.lt_of_le_of_lt h (by decide)
theorem range_snoc (f : Nat → V) (i : Nat) : (List.range (i + 1)).map f = (List.range i).map f ++ [f i] := by simp [List.range_succ]
section
variable {J : It} {n : Nat} {G : Hp → Prop} {Y : Nat → Hp → V → Hp → Prop}
/-- a comprehension that leaves all as it stood -/
theorem lc_same (w : Walk J n G Y) {g : TG} {te : TE} {vs : List Nat} {σ : L2.St} {H0 : Hp} {D : Addr} {Qd : Hp → Prop} (hn : n ≤ 100000) (f : Nat → V) (nD : H0 D = none) (hG : ∀ H, Same H0 H → G H)
    (hs : ∀ (i : Nat) (x : V) (H H' : Hp) (Z : V → Hp → Prop), (∀ H3, Same H H3 → Z (f i) H3) → i < n → Same H0 H → Y i H x H' → g x (wipe σ vs) H' fun σ2 H2 => wipe σ2 vs = wipe σ vs ∧ te σ2 H2 Z)
    (hd : ∀ H, Same H0 H → H D = some (.lst ((List.range n).map f)) → Qd H) :
    ∃ W : Nat → Nat → Hp → Prop, (∃ m, W 0 m (upd H0 D (.lst []))) ∧ ∀ i m H, W i m H →
      (J.stop i H ∧ Qd H) ∨ (J.go i H ∧ ∃ Nx : Hp → Prop, (∀ H', Nx H' → ∃ m', m' < m ∧ W (i + 1) m' H') ∧ ∀ x H', J.yld i H x H' → g x (wipe σ vs) H' fun σ2 H2 => wipe σ2 vs = wipe σ vs ∧ tYes σ2 H2 fun b H3 =>
        if b = true then te σ2 H3 fun y H4 => ∃ acc, H4 D = some (.lst acc) ∧ acc.length < sizeLine ∧ Nx (upd H4 D (.lst (acc ++ [y]))) else Nx H3) := by
  refine lc_it w (fun i H => Same H0 H ∧ H D = some (.lst ((List.range i).map f))) ⟨same_upd nD, upd_same⟩ (fun i H _ h => hG H h.1) (fun i x H H' hi h y => ?_) (fun H h => hd H h.1 h.2)
  refine hs i x H H' (fun v H3 => ∃ acc, H3 D = some (.lst acc) ∧ acc.length < sizeLine ∧ (fun H => Same H0 H ∧ H D = some (.lst ((List.range (i + 1)).map f))) (upd H3 D (.lst (acc ++ [v])))) (fun H3 z => ?_) hi h.1 y
  refine ⟨_, z _ _ h.2, ?_, (h.1.trans z).fresh nD, ?_⟩
  · rw [List.length_map, List.length_range]
    exact sz6' (by omega)
  · rw [upd_same, range_snoc]
end
end K14
namespace K14
open PySem PySem.Spec PyProof.Rows L2
def spIsName : Sp := fun vs H Q _ => ∃ s : List Nat, vs = [.str (SS s)] ∧ 1 ≤ s.length ∧ s.length ≤ 6 ∧ (∀ c ∈ s, 97 ≤ c ∧ c ≤ 122) ∧ ∀ H', Same H H' → Q (.bl true) H'
theorem scIsName : FnScope ["value", "sign"] ["value"] (defScope sIsName) := ⟨rfl, rfl, rfl, by decide +kernel, rfl, by decide +kernel, by decide +kernel⟩
theorem all_true (n : Nat) : ((List.range n).map fun _ => true).all id = true := by simp
theorem bl_true (n : Nat) : ((List.range n).map fun _ => V.bl true) = ((List.range n).map fun _ => true).map V.bl := by simp
theorem le_one {a c : Nat} (h : a ≤ c) : (!decide ([c] < [a])) = true := by
  rw [Bool.not_eq_true', decide_eq_false_iff_not]
  intro z
  rw [List.cons_lt_cons_iff] at z
  rcases z with z | ⟨_, z⟩
  · omega
  · exact absurd z (List.not_lt_nil _)
def spArePersons : Sp := fun vs H Q _ => ∃ (a : Addr) (s : List Nat) (n : Nat), vs = [.ref a, .int n] ∧ Tp H a (VI s) ∧ s.length ≤ 1000 ∧ (∀ j ∈ s, j < n) ∧ ∀ H', Same H H' → Q (.bl true) H'
theorem scArePersons : FnScope ["value", "many", "person"] ["value", "many"] (defScope sArePersons) := ⟨rfl, rfl, rfl, by decide +kernel, rfl, by decide +kernel, by decide +kernel⟩
def spAreUnlike : Sp := fun vs H Q _ => ∃ (a : Addr) (s : List Nat) (n : Nat), vs = [.ref a, .int n] ∧ Tp H a (VI s) ∧ s.length ≤ 1000 ∧ s.Nodup ∧ (∀ j ∈ s, j < n) ∧ ∀ H', Same H H' → Q (.bl true) H'
theorem scAreUnlike : FnScope ["value", "many"] ["value", "many"] (defScope sAreUnlike) := ⟨rfl, rfl, rfl, by decide +kernel, rfl, by decide +kernel, by decide +kernel⟩
theorem Tp.ty {K : PySem.W.Frag} {H : Hp} {a : Addr} {xs : List V} (t : Tp H a xs) : TyX K H (.ref a) (.type "tuple") := by
  rcases t with e | ⟨o, _, _, e⟩
  · exact .base (.tup e)
  · exact .fTuple e
theorem VI_ints (s : List Nat) : VI s = (s.map fun j => ((j : Nat) : Int)).map V.int := by simp [VI]
section
variable {P : Program} {w : World} {K : PySem.W.Frag} {mg : Str → Option Value} {base : Heap}
theorem ok_is_name {f : Addr} {fd : FuncData} {k : Nat} {t6 : Tok} (F : Fun K "is_name" "is_name" sIsName f fd) (mis : mg "isinstance" = none) (ms : mg "str" = none) (ml : mg "len" = none) (ma : mg "all" = none) (m6 : mg "MOST_LETTERS" = some (.int 6 t6)) : FnOk P w K mg base CX0 (k + 1) f fd ["value"] spIsName := by
  refine F.ok scIsName (fun vs H Q E h => ?_) (fun cdv A outer s H vs Q E hr h => ?_)
  · obtain ⟨s, rfl, _⟩ := h
    rfl
  · obtain ⟨s, rfl, l1, l6, let_, q⟩ := h
    refine ⟨_, pss_cons (ps_if (PW.pt (pw_or (pt_not (pt_val (pe_callB call_isi (by rfl) mis (by decide +kernel) (pa_cons (pv 0) (pa_cons (pe_bltn (v := .ty "str") (by rfl) ms (by decide +kernel) rfl) pa_nil)))))
        (pw_or1 (pt_not (pt_chain op_le op_le pe_int (pe_callB call_len_str (by rfl) ml PySem.boot_len (pa_cons (pv 0) pa_nil)) (pe_glob (v := .int 6) rfl m6 ⟨_, rfl⟩)))))) (pss_one ps_never) pss_nil)
      (pss_one (ps_ret (pe_callB (cr_all rfl) (by rfl) ma (by decide +kernel) (pa_cons (pe_lc (own := [("sign", 1)]) (g := gName 1) (tt := tYes) rfl scIsName.nd (pi_str (pv 0))
          (blkOk_by (own := [("sign", 1)]) (N := ["value", "sign"]) (sc := defScope sIsName) (by decide +kernel)) (fun _ _ _ _ _ => pg_name (i := 1) scIsName.nd rfl (Or.inl rfl)) (fun _ _ _ _ _ => pts_nil)
          (fun _ _ _ _ _ => pe_chain op_le_str op_le_str pe_str (pv 1) pe_str)) pa_nil)))), ?_⟩
    refine (⟨_, rfl, _, _, _, _, true, rfl, .ty _, .base (.str _), kit_ty (by decide +kernel), ⟨_, rfl, iteF ?_⟩⟩)
    refine ⟨_, rfl, _, rfl, by rw [SS_len]; exact sz5 (by omega), _, _, rfl, rfl, _, rfl, ?_⟩
    rw [SS_len]
    have c1 : decide ((1 : Int) ≤ (s.length : Nat)) = true := by simp; omega
    rw [c1]
    refine iteT ⟨_, _, rfl, rfl, ?_⟩
    have c2 : decide (((s.length : Nat) : Int) ≤ 6) = true := by simp; omega
    refine ⟨_, rfl, ?_⟩
    dsimp only
    rw [c2]
    refine iteF ⟨_, rfl, _, rfl, fun D nD => ?_⟩
    refine lc_same walk_str (by show s.length ≤ 100000; omega) (fun _ => .bl true) nD (fun _ _ => trivial) ?_ ?_
    · rintro i x H1 H2 Z out hi sm ⟨rfl, c, ec, rfl⟩
      have hc := let_ c (List.mem_of_getElem? (by simpa using ec))
      refine gn ⟨rfl, _, rfl, _, _, rfl, rfl, true, ?_, iteT ⟨_, _, rfl, rfl, ?_⟩⟩
      · exact congrArg V.bl (le_one hc.1)
      · have e : (!decide (("z" : Str).cps.toList < (⟨#[c]⟩ : Str).cps.toList)) = true := le_one hc.2
        rw [e]
        exact out _ (fun _ _ e => e)
    · intro H1 sm e1
      refine ⟨D, _, rfl, SqL.of (by rw [e1, bl_true]), ?_⟩
      rw [all_true]
      exact q _ sm
theorem ok_are_persons {f g : Addr} {fd gd : FuncData} {k : Nat} (F : Fun K "are_persons" "are_persons" sArePersons f fd) (G : FnOk P w K mg base CX0 k g gd ["value", "bound"] spIsBelow) (bG : Binds K gd ["value", "bound"] []) (kG : PySem.W.keepIn K (.ref g) = true) (mG : mg "is_below" = some (.ref g)) (mis : mg "isinstance" = none) (mt : mg "tuple" = none) (ma : mg "all" = none) : FnOk P w K mg base CX0 (k + 1) f fd ["value", "many"] spArePersons := by
  refine F.ok scArePersons (fun vs H Q E h => ?_) (fun cdv A outer s H vs Q E hr h => ?_)
  · obtain ⟨a, s, n, rfl, _⟩ := h
    rfl
  · obtain ⟨a, s, n, rfl, es, l6, lt, q⟩ := h
    refine ⟨_, pss_one (ps_ret (pe_and (pe_callB call_isi (by rfl) mis (by decide +kernel) (pa_cons (pv 0) (pa_cons (pe_bltn (v := .ty "tuple") (by rfl) mt (by decide +kernel) rfl) pa_nil)))
      (pe_one (pe_callB (cr_all rfl) (by rfl) ma (by decide +kernel) (pa_cons (pe_lc (own := [("person", 2)]) (g := gName 2) (tt := tYes) rfl scArePersons.nd (pi_tup (pv 0))
          (blkOk_by (own := [("person", 2)]) (N := ["value", "many", "person"]) (sc := defScope sArePersons) (by decide +kernel)) (fun _ _ _ _ _ => pg_name (i := 2) scArePersons.nd rfl (Or.inl rfl)) (fun _ _ _ _ _ => pts_nil)
          (fun _ _ _ _ _ => pe_call G hr rfl mG kG bG .nil pass0 (pa_cons (pv 2) (pa_cons (pv 1) pa_nil)))) pa_nil))))), ?_⟩
    refine (⟨_, rfl, _, _, _, _, true, rfl, .ty _, Tp.ty es, kit_ty (by decide +kernel), ⟨_, rfl, iteT ⟨_, rfl, a, rfl, ⟨_, es.sq⟩, fun D nD => ?_⟩⟩⟩)
    refine lc_same (walk_tup (K := K) (a := a) (xs := VI s)) (by rw [VI_len]; omega) (fun _ => .bl true) nD (fun _ sm => (es.same sm).sq) ?_ ?_
    · rintro i x H1 H2 Z out hi sm ⟨rfl, ex⟩
      obtain ⟨j, hj, rfl⟩ := List.mem_map.mp (List.mem_of_getElem? ex)
      refine gn ⟨rfl, _, rfl, _, rfl, .int j, n, rfl, .int _, ?_⟩
      have e : isBel (.int (j : Nat)) n = true := by
        have := lt j hj
        simp [isBel]
        exact this
      rw [e]
      exact out _ (fun _ _ e => e)
    · intro H1 sm e1
      refine ⟨D, _, rfl, SqL.of (by rw [e1, bl_true]), ?_⟩
      rw [all_true]
      exact q _ sm
theorem ok_are_unlike {f g : Addr} {fd gd : FuncData} {k : Nat} (F : Fun K "are_unlike_persons" "are_unlike_persons" sAreUnlike f fd) (G : FnOk P w K mg base CX0 k g gd ["value", "many"] spArePersons) (bG : Binds K gd ["value", "many"] []) (kG : PySem.W.keepIn K (.ref g) = true) (mG : mg "are_persons" = some (.ref g)) (ml : mg "len" = none) (ms : mg "set" = none) : FnOk P w K mg base CX0 (k + 1) f fd ["value", "many"] spAreUnlike := by
  refine F.ok scAreUnlike (fun vs H Q E h => ?_) (fun cdv A outer s H vs Q E hr h => ?_)
  · obtain ⟨a, s, n, rfl, _⟩ := h
    rfl
  · obtain ⟨a, s, n, rfl, es, l6, nd, lt, q⟩ := h
    refine ⟨_, pss_one (ps_ret (pe_and (pe_call G hr rfl mG kG bG .nil pass0 (pa_cons (pv 0) (pa_cons (pv 1) pa_nil)))
      (pe_one (pe_cmp (pc_eqI (pe_lenSetT (by rfl) ml (by rfl) ms (pv 0)) (pe_callB call_len_seq (by rfl) ml PySem.boot_len (pa_cons (pv 0) pa_nil))) rfl)))), ?_⟩
    refine ⟨_, rfl, _, rfl, a, s, n, rfl, es, l6, lt, fun H1 sm => ⟨true, rfl, iteT ?_⟩⟩
    refine ⟨_, rfl, a, s.map (fun j => ((j : Nat) : Int)), rfl, by rw [← VI_ints]; exact (es.same sm).sq, ?_, by simpa using l6, ?_⟩
    · exact List.pairwise_map.mpr (List.Pairwise.imp (fun ne e => ne (by omega)) nd)
    · refine ⟨_, rfl, a, VI s, rfl, .inr (es.same sm).sq, _, _, rfl, rfl, ?_⟩
      have e : decide (((s.map (fun j => ((j : Nat) : Int))).length : Int) = ((VI s).length : Nat)) = true := by
        rw [VI_len, List.length_map]
        simp
      show Q (.bl (decide (((s.map (fun j => ((j : Nat) : Int))).length : Int) = ((VI s).length : Nat)))) H1
      rw [e]
      exact q _ sm
end
end K14
namespace K14
open PySem PySem.Spec PyProof.Rows L2
def spLists : Sp := fun vs H Q _ => ∃ (h l : Addr) (many : Nat) (share : Int), vs = [.ref h, .int many, .int share] ∧ Src H h l ∧ many ≤ 100 ∧ 0 < share ∧ share < 1000 ∧
  ∀ (r : Addr) (ls : List (List Nat)) (H' : Hp), ListsOk many ls → Src H' h l → Bar h l H H' → H r = none → LX H' r ls → Q (.ref r) H'
def RwX (H : Hp) (as : List Addr) (ls : List (List Nat)) : Prop := as.length = ls.length ∧ ∀ (i : Nat) (a : Addr) (s : List Nat), as[i]? = some a → ls[i]? = some s → Ex H a (VI s)
theorem RwX.bar {H H' : Hp} {h l : Addr} {as : List Addr} {ls : List (List Nat)} (t : RwX H as ls) (s : Src H h l) (b : Bar h l H H') : RwX H' as ls := ⟨t.1, fun i a x e1 e2 => (t.2 i a x e1 e2).bar s b⟩
/-- what stands while the lists grow -/
structure RowsAt (H : Hp) (D : Addr) (rs : List Addr) (L : Nat → List Nat) : Prop where
  top : H D = some (.lst (rs.map V.ref))
  row : ∀ (k : Nat) (q : Addr), rs[k]? = some q → H q = some (.lst (VI (L k)))
section
variable {P : Program} {w : World} {K : PySem.W.Frag} {mg : Str → Option Value} {base : Heap}
end
end K14
namespace K14
open PySem PySem.Spec PyProof.Rows L2
/-! ### ranks -/
def rkV (s : List Nat) (j : Nat) : V := if j ∈ s then .int (s.idxOf j : Nat) else .non
def VR (n : Nat) (s : List Nat) : List V := (List.range n).map (rkV s)
theorem VR_len (n : Nat) (s : List Nat) : (VR n s).length = n := by simp [VR]
theorem VR_get {n : Nat} {s : List Nat} {j : Nat} (h : j < n) : (VR n s)[j]? = some (rkV s j) := by simp [VR, h]
def RT (H : Hp) (r : Addr) (ls : List (List Nat)) : Prop := ∃ as : List Addr, H r = some (.tup (as.map V.ref)) ∧ as.length = ls.length ∧ ∀ (i : Nat) (a : Addr) (s : List Nat), as[i]? = some a → ls[i]? = some s → H a = some (.tup (VR ls.length s))
theorem RT.same {H H' : Hp} {r : Addr} {ls : List (List Nat)} (t : RT H r ls) (b : Same H H') : RT H' r ls := by
  obtain ⟨as, e, l, q⟩ := t
  exact ⟨as, b _ _ e, l, fun i a x e1 e2 => b _ _ (q i a x e1 e2)⟩
theorem LT.at {H : Hp} {r : Addr} {ls : List (List Nat)} (t : LT H r ls) {i : Nat} {s : List Nat} (e : ls[i]? = some s) : ∃ xs a, H r = some (.tup xs) ∧ xs[i]? = some (.ref a) ∧ Tp H a (VI s) := by
  obtain ⟨as, e1, l, q⟩ := t
  have hi := (List.getElem?_eq_some_iff.mp e).1
  have ha : i < as.length := by omega
  exact ⟨_, as[i], e1, by rw [List.getElem?_map, List.getElem?_eq_getElem ha]; rfl, q i _ s (List.getElem?_eq_getElem ha) e⟩
theorem LT.len {H : Hp} {r : Addr} {ls : List (List Nat)} (t : LT H r ls) : ∃ xs, H r = some (.tup xs) ∧ xs.length = ls.length := by
  obtain ⟨as, e1, l, q⟩ := t
  exact ⟨_, e1, by rw [List.length_map, l]⟩
theorem RT.at {H : Hp} {r : Addr} {ls : List (List Nat)} (t : RT H r ls) {i : Nat} {s : List Nat} (e : ls[i]? = some s) : ∃ xs a, H r = some (.tup xs) ∧ xs[i]? = some (.ref a) ∧ H a = some (.tup (VR ls.length s)) := by
  obtain ⟨as, e1, l, q⟩ := t
  have hi := (List.getElem?_eq_some_iff.mp e).1
  have ha : i < as.length := by omega
  exact ⟨_, as[i], e1, by rw [List.getElem?_map, List.getElem?_eq_getElem ha]; rfl, q i _ s (List.getElem?_eq_getElem ha) e⟩
theorem inV_VI (p : Nat) (s : List Nat) : inV (.int (p : Nat)) (VI s) = decide (p ∈ s) := by
  unfold inV VI
  rw [List.any_map, Bool.eq_iff_iff, List.any_eq_true, decide_eq_true_eq]
  constructor
  · rintro ⟨y, hy, e⟩
    have : ((y : Nat) : Int) = (p : Nat) := eq_of_beq e
    have : y = p := by omega
    rwa [← this]
  · intro h
    exact ⟨p, h, beq_self_eq_true ((p : Nat) : Int)⟩
theorem flat_VI (s : List Nat) : (VI s).all flatV = true := by
  unfold VI
  rw [List.all_map, List.all_eq_true]
  intro x _
  rfl
theorem rkV_take {s : List Nat} (nd : s.Nodup) {i x : Nat} (e : s[i]? = some x) (j : Nat) : rkV (s.take (i + 1)) j = if j = x then .int (i : Nat) else rkV (s.take i) j := by
  have hi := (List.getElem?_eq_some_iff.mp e).1
  have e1 : s.take (i + 1) = s.take i ++ [x] := by
    rw [List.take_succ, e]
    rfl
  have nx : x ∉ s.take i := by
    intro h
    obtain ⟨k, hk, ek⟩ := List.mem_iff_getElem.mp h
    rw [List.getElem_take] at ek
    rw [List.length_take] at hk
    have := nodup_ix nd (show s[k]? = some x by rw [List.getElem?_eq_getElem (by omega), ek]) e
    omega
  unfold rkV
  rw [e1]
  by_cases c : j = x
  · subst c
    rw [if_pos (by simp), if_pos rfl, List.idxOf_append, if_neg nx]
    simp
    omega
  · rw [if_neg c]
    by_cases d : j ∈ s.take i
    · rw [if_pos (by simp [d]), if_pos d, List.idxOf_append, if_pos d]
    · rw [if_neg (by simp [d, c]), if_neg d]
def spRanksOfList : Sp := fun vs H Q _ => ∃ (a : Addr) (s : List Nat) (n : Nat), vs = [.ref a, .int n] ∧ Tp H a (VI s) ∧ n ≤ 100 ∧ s.Nodup ∧ (∀ j ∈ s, j < n) ∧ ∀ (r : Addr) (H' : Hp), Same H H' → H r = none → H' r = some (.tup (VR n s)) → Q (.ref r) H'
theorem scRanksOfList : FnScope ["some", "many", "ranks", "rank", "other"] ["some", "many"] (defScope sRanksOfList) := ⟨rfl, rfl, rfl, by decide +kernel, rfl, by decide +kernel, by decide +kernel⟩
def spRanksOfLists : Sp := fun vs H Q _ => ∃ (a : Addr) (ls : List (List Nat)), vs = [.ref a] ∧ LT H a ls ∧ ls.length ≤ 100 ∧ ListsOk ls.length ls ∧ ∀ (r : Addr) (H' : Hp), Same H H' → H r = none → RT H' r ls → Q (.ref r) H'
theorem scRanksOfLists : FnScope ["lists", "some"] ["lists"] (defScope sRanksOfLists) := ⟨rfl, rfl, rfl, by decide +kernel, rfl, by decide +kernel, by decide +kernel⟩
theorem ixN_nat {m j : Nat} (h : j < m) : ixN m (j : Nat) = some j := by
  unfold ixN
  rw [if_pos (by omega), if_pos (by omega)]
  rfl
theorem map_set_at (f g : Nat → V) (n x : Nat) (v : V) (hx : x < n) (h : ∀ j, g j = if j = x then v else f j) : ((List.range n).map f).set x v = (List.range n).map g := by
  apply List.ext_getElem?
  intro j
  rw [List.getElem?_set]
  by_cases c : x = j
  · subst c
    rw [if_pos rfl, if_pos (by simpa using hx), List.getElem?_map, List.getElem?_range hx]
    show some v = some (g x)
    rw [h x, if_pos rfl]
  · rw [if_neg c, List.getElem?_map, List.getElem?_map]
    by_cases d : j < n
    · rw [List.getElem?_range d]
      show some (f j) = some (g j)
      rw [h j, if_neg (fun z => c z.symm)]
    · rw [List.getElem?_eq_none (by simpa using d)]
      rfl
theorem rep_flat (n : Nat) (v : V) : (List.replicate n [v]).flatten = List.replicate n v := by
  induction n with
  | zero => rfl
  | succ m ih => rw [List.replicate_succ, List.flatten_cons, ih]; rfl
theorem same_rfl {H : Hp} : Same H H := fun _ _ e => e
theorem VI_at {s : List Nat} {i : Nat} {x : V} (e : (VI s)[i]? = some x) : ∃ j, s[i]? = some j ∧ x = V.int (j : Nat) := by
  unfold VI at e
  rw [List.getElem?_map] at e
  cases h : s[i]? with
  | none => rw [h] at e; cases e
  | some j => rw [h] at e; exact ⟨j, rfl, (Option.some.inj e).symm⟩
abbrev rLenS (K : PySem.W.Frag) : List V → Hp → VK → Prop := fun xs H Q => ∃ p ys, xs = [V.ref p] ∧ (SqL K H p ys ∨ SqT K H p ys) ∧ Q (.int (ys.length : Nat)) H
section
variable {P : Program} {w : World} {K : PySem.W.Frag} {mg : Str → Option Value} {base : Heap}
theorem ok_ranks_of_list {f : Addr} {fd : FuncData} {k : Nat} (F : Fun K "_ranks_of_list" "_ranks_of_list" sRanksOfList f fd) (me : mg "enumerate" = none) (mt : mg "tuple" = none) : FnOk P w K mg base CX0 (k + 1) f fd ["some", "many"] spRanksOfList := by
  refine F.ok scRanksOfList (fun vs H Q E h => ?_) (fun cdv A outer s H vs Q E hr h => ?_)
  · obtain ⟨a, s, n, rfl, _⟩ := h
    rfl
  · obtain ⟨a, s, n, rfl, es, hn, nd, lt, q⟩ := h
    refine ⟨_, pss_cons (ps_set (i := 2) scRanksOfList.nd rfl (.inl rfl) (pe_op op_rep (pe_lst (pa_cons pe_non pa_nil)) (pv 1)))
      (pss_cons (ps_for PassesOwn.never rfl (pi_enumT (by rfl) me (pa_cons (pv 0) pa_nil)) (pg_tup rfl (pgs_cons (pg_name (i := 3) scRanksOfList.nd rfl (.inl rfl)) (pgs_cons (pg_name (i := 4) scRanksOfList.nd rfl (.inl rfl)) pgs_nil)))
        (pss_one (ps_asg (pv 3) (pg_sub (pv 2) (pv 4) set_list))))
      (pss_one (ps_ret (pe_callTy call_tuple_of (by rfl) mt (by decide +kernel) (pa_cons (pv 2) pa_nil))))), ?_⟩
    refine ⟨(by show 1 ≤ sizeLine; decide), fun u nu => ⟨_, rfl, u, n, [.non], rfl, rfl, upd_same, by omega, by omega, ?_, fun p np => ?_⟩⟩
    · show 1 * n ≤ sizeLine
      exact sz5 (by omega)
    have np0 : H p = none := by
      have nup : u ≠ p := ne_of_none upd_same np
      rw [upd_ne (Ne.symm nup)] at np
      exact np
    have e0 : (List.replicate (n : Int).toNat [V.non]).flatten = (List.range n).map (rkV (s.take 0)) := by
      show (List.replicate n [V.non]).flatten = _
      rw [rep_flat]
      symm
      refine List.eq_replicate_iff.mpr ⟨by simp, fun b hb => ?_⟩
      obtain ⟨j, _, rfl⟩ := List.mem_map.mp hb
      unfold rkV
      rw [List.take_zero, if_neg (by simp)]
    rw [e0]
    have s1 : Same H (upd (upd H u (.lst [.non])) p (.lst ((List.range n).map (rkV (s.take 0))))) := (same_rfl.fresh nu).fresh np0
    refine ⟨_, rfl, a, VI s, rfl, (es.same s1).sq, ?_⟩
    refine for_it (walk_enumT (K := K) (a := a) (xs := VI s)) (fun i σ H' => ∃ y z : Option V, σ = [some (.ref a), some (.int n), some (.ref p), y, z] ∧ Same H H' ∧ H' p = some (.lst ((List.range n).map (rkV (s.take i)))))
      ⟨none, none, rfl, s1, upd_same⟩ (fun i σ H' _ ⟨_, _, _, sm, _⟩ => (es.same sm).sq) ?_ ?_
    · rintro i x σ H1 H2 hi ⟨y, z, rfl, sm, ep⟩ ⟨T, x0, x1, rfl, nT, rfl, e1, e2⟩
      cases e1
      obtain ⟨j, hj, rfl⟩ := VI_at e2
      have npT : p ≠ T := ne_of_none ep nT
      refine ⟨T, _, rfl, SqT.of upd_same, rfl, _, _, rfl, gn ⟨_, _, rfl, gn ⟨rfl, ?_⟩⟩⟩
      dsimp only [List.set]
      have hjn := lt j (List.mem_of_getElem? hj)
      refine ⟨_, rfl, _, rfl, _, rfl, p, _, (j : Int), j, rfl, rfl, by rw [upd_ne npT]; exact ep, by rw [List.length_map, List.length_range]; exact ixN_nat hjn, ?_⟩
      refine ⟨_, _, rfl, (sm.fresh (sm.free nT)).fresh np0, ?_⟩
      rw [upd_same, map_set_at _ (rkV (s.take (i + 1))) n j _ hjn (rkV_take nd hj)]
    · rintro σ H1 ⟨y, z, rfl, sm, ep⟩
      refine ⟨_, rfl, p, _, rfl, .inl ⟨SqL.of ep, fun r nr => q r _ (sm.fresh (sm.free nr)) (sm.free nr) ?_⟩⟩
      rw [upd_same, VI_len, List.take_length]
      rfl
theorem ok_ranks_of_lists {f g : Addr} {fd gd : FuncData} {k : Nat} (F : Fun K "_ranks_of_lists" "_ranks_of_lists" sRanksOfLists f fd) (G : FnOk P w K mg base CX0 k g gd ["some", "many"] spRanksOfList) (bG : Binds K gd ["some", "many"] []) (kG : PySem.W.keepIn K (.ref g) = true) (mG : mg "_ranks_of_list" = some (.ref g)) (ml : mg "len" = none) (mt : mg "tuple" = none) : FnOk P w K mg base CX0 (k + 1) f fd ["lists"] spRanksOfLists := by
  refine F.ok scRanksOfLists (fun vs H Q E h => ?_) (fun cdv A outer s H vs Q E hr h => ?_)
  · obtain ⟨a, ls, rfl, _⟩ := h
    rfl
  · obtain ⟨a, ls, rfl, lt, hn, ok, q⟩ := h
    refine ⟨_, pss_one (ps_ret (pe_callTy call_tuple_of (by rfl) mt (by decide +kernel) (pa_cons (pe_lc (own := [("some", 1)]) (g := gName 1) (tt := tYes) (te := tCall spRanksOfList [] E0 (tCons (tVar 1) (tCons (tCB (rLenS K) (tCons (tVar 0) tNil)) tNil))) rfl scRanksOfLists.nd (pi_tup (pv 0))
          (blkOk_by (own := [("some", 1)]) (N := ["lists", "some"]) (sc := defScope sRanksOfLists) (by decide +kernel)) (fun _ _ _ _ _ => pg_name (i := 1) scRanksOfLists.nd rfl (Or.inl rfl)) (fun _ _ _ _ _ => pts_nil)
          (fun _ _ _ _ _ => pe_call G hr rfl mG kG bG .nil pass0 (pa_cons (pv 1) (pa_cons (pe_callB call_len_seq (by rfl) ml PySem.boot_len (pa_cons (pv 0) pa_nil)) pa_nil)))) pa_nil))), ?_⟩
    obtain ⟨as, ea, al, rows⟩ := lt
    refine ⟨_, rfl, a, rfl, ⟨_, SqT.of ea⟩, fun D nD => ?_⟩
    refine lc_it (walk_tup (K := K) (a := a) (xs := as.map V.ref)) (fun i H' => ∃ rs : List Addr, H' D = some (.lst (rs.map V.ref)) ∧ rs.length = i ∧ Same H H' ∧ ∀ (j : Nat) (r : Addr) (s : List Nat), rs[j]? = some r → ls[j]? = some s → H' r = some (.tup (VR ls.length s)))
      ⟨[], upd_same, rfl, same_upd nD, fun _ _ _ e => by simp at e⟩ (fun i H' _ ⟨_, _, _, sm, _⟩ => SqT.of (sm _ _ ea)) ?_ ?_
    · rintro i x H1 H2 hi ⟨rs, eD, rl, sm, old⟩ ⟨rfl, ex⟩
      rw [List.length_map] at hi
      have hx : (as.map V.ref)[i]? = some (V.ref as[i]) := by rw [List.getElem?_map, List.getElem?_eq_getElem hi]; rfl
      rw [hx] at ex
      cases ex
      have hl : i < ls.length := by omega
      have el : (as.map V.ref).length = ls.length := by rw [List.length_map, al]
      have er := rows i as[i] ls[i] (List.getElem?_eq_getElem hi) (List.getElem?_eq_getElem hl)
      refine gn ⟨rfl, yes ⟨_, rfl, _, rfl, a, _, rfl, .inr (SqT.of (sm _ _ ea)), as[i], ls[i], ls.length, (by rw [el]; rfl), er.same sm, hn, ok.nd i _ (List.getElem?_eq_getElem hl), fun j hj => (ok.both i _ j (List.getElem?_eq_getElem hl) hj).1, fun r H3 sm3 nr er3 => ?_⟩⟩
      have nDr : D ≠ r := ne_of_none eD nr
      refine ⟨_, sm3 _ _ eD, by rw [List.length_map]; exact sz6 (by omega), rs ++ [r], by rw [upd_same]; simp, by simp [rl], (sm.trans sm3).fresh nD, ?_⟩
      intro j r' s' e1 e2
      by_cases c : j < rs.length
      · rw [List.getElem?_append_left c] at e1
        have e7 := sm3 _ _ (old j r' s' e1 e2)
        have nd' : D ≠ r' := fun z => by
          rw [← z, sm3 _ _ eD] at e7
          cases e7
        rw [upd_ne (Ne.symm nd')]
        exact e7
      · rw [List.getElem?_append_right (by omega), List.getElem?_singleton] at e1
        split at e1
        · cases e1
          have : j = i := by omega
          subst this
          rw [List.getElem?_eq_getElem hl] at e2
          cases e2
          rw [upd_ne (Ne.symm nDr)]
          exact er3
        · cases e1
    · rintro H1 ⟨rs, eD, rl, sm, old⟩
      rw [List.length_map] at rl
      refine ⟨D, _, rfl, .inl ⟨SqL.of eD, fun r nr => q r _ (sm.fresh (sm.free nr)) (sm.free nr) ⟨rs, upd_same, by omega, fun j r' s' e1 e2 => ofN nr (old j r' s' e1 e2)⟩⟩⟩
end
end K14
namespace K14
open PySem PySem.Spec PyProof.Rows L2
def spAreNames : Sp := fun vs H Q _ => ∃ (a : Addr) (ns : List (List Nat)) (n : Nat), vs = [.ref a] ∧ H a = some (.tup (VN ns)) ∧ NamesOk n ns ∧ 1 ≤ n ∧ n ≤ 60 ∧ ∀ H', Same H H' → Q (.bl true) H'
theorem scAreNames : FnScope ["value", "name", "at"] ["value"] (defScope sAreNames) := ⟨rfl, rfl, rfl, by decide +kernel, rfl, by decide +kernel, by decide +kernel⟩
def spCheckLists : Sp := fun vs H Q _ => ∃ (a : Addr) (ls : List (List Nat)), vs = [.ref a] ∧ LT H a ls ∧ ls.length ≤ 100 ∧ ListsOk ls.length ls ∧ ∀ H', Same H H' → Q .non H'
theorem scCheckLists : FnScope ["lists", "person", "some"] ["lists"] (defScope sCheckLists) := ⟨rfl, rfl, rfl, by decide +kernel, rfl, by decide +kernel, by decide +kernel⟩
def spCheckBoth : Sp := fun vs H Q _ => ∃ (a r : Addr) (ls : List (List Nat)), vs = [.ref a, .ref r] ∧ LT H a ls ∧ RT H r ls ∧ ls.length ≤ 100 ∧ ListsOk ls.length ls ∧ ∀ H', Same H H' → Q .non H'
theorem scCheckBoth : FnScope ["lists", "ranks", "person", "some", "other"] ["lists", "ranks"] (defScope sCheckBoth) := ⟨rfl, rfl, rfl, by decide +kernel, rfl, by decide +kernel, by decide +kernel⟩
theorem VN_len (ns : List (List Nat)) : (VN ns).length = ns.length := by simp [VN]
theorem VN_at {ns : List (List Nat)} {i : Nat} {x : V} (e : (VN ns)[i]? = some x) : ∃ s, ns[i]? = some s ∧ x = V.str (SS s) := by
  unfold VN at e
  rw [List.getElem?_map] at e
  cases h : ns[i]? with
  | none => rw [h] at e; cases e
  | some j => rw [h] at e; exact ⟨j, rfl, (Option.some.inj e).symm⟩
theorem VN_get {ns : List (List Nat)} {i : Nat} {s : List Nat} (e : ns[i]? = some s) : (VN ns)[i]? = some (V.str (SS s)) := by
  unfold VN
  rw [List.getElem?_map, e]
  rfl
theorem LT.row {H : Hp} {a : Addr} {ls : List (List Nat)} {xs : List V} {i : Nat} {x : V} (t : LT H a ls) (e : H a = some (.tup xs)) (ex : xs[i]? = some x) : ∃ q s, x = .ref q ∧ ls[i]? = some s ∧ Tp H q (VI s) := by
  obtain ⟨as, e1, l, q⟩ := t
  rw [e1] at e
  cases e
  rw [List.getElem?_map] at ex
  cases h : as[i]? with
  | none => rw [h] at ex; cases ex
  | some b =>
    rw [h] at ex
    have hi := (List.getElem?_eq_some_iff.mp h).1
    have hl : i < ls.length := by omega
    exact ⟨b, ls[i], (Option.some.inj ex).symm, List.getElem?_eq_getElem hl, q i b _ h (List.getElem?_eq_getElem hl)⟩
theorem ListsOk.each {n : Nat} {ls : List (List Nat)} (ok : ListsOk n ls) {i : Nat} {s : List Nat} (e : ls[i]? = some s) : s.length ≤ n := List.Nodup.length_le_card_of_sub (ok.nd i s e) fun x hx => (ok.both i s x e hx).1
theorem walk_range0 {n : Nat} : Walk (Itr 0 n) n (fun _ => True) (YFn fun i => .int (i : Nat)) :=
  walk_range.mono (fun _ h => h) fun i H x H' _ _ y => ⟨y.1, y.2.trans (congrArg V.int (Int.zero_add _))⟩
section
variable {P : Program} {w : World} {K : PySem.W.Frag} {mg : Str → Option Value} {base : Heap}
theorem ok_are_names {f g : Addr} {fd gd : FuncData} {k : Nat} {t6 : Tok} (F : Fun K "_are_names" "_are_names" sAreNames f fd) (G : FnOk P w K mg base CX0 k g gd ["value"] spIsName) (bG : Binds K gd ["value"] []) (kG : PySem.W.keepIn K (.ref g) = true) (mG : mg "is_name" = some (.ref g)) (mis : mg "isinstance" = none) (mt : mg "tuple" = none) (ml : mg "len" = none) (ma : mg "all" = none) (mr : mg "range" = none) (m6 : mg "MOST_PERSONS" = some (.int 60 t6)) : FnOk P w K mg base CX0 (k + 1) f fd ["value"] spAreNames := by
  refine F.ok scAreNames (fun vs H Q E h => ?_) (fun cdv A outer s H vs Q E hr h => ?_)
  · obtain ⟨a, ns, n, rfl, _⟩ := h
    rfl
  · obtain ⟨a, ns, n, rfl, ea, ok, n1, n60, q⟩ := h
    refine ⟨_, pss_cons (ps_if (PW.pt (pw_or (pt_not (pt_val (pe_callB call_isi (by rfl) mis (by decide +kernel) (pa_cons (pv 0) (pa_cons (pe_bltn (v := .ty "tuple") (by rfl) mt (by decide +kernel) rfl) pa_nil)))))
        (pw_or1 (pt_not (pt_chain op_le op_le pe_int (pe_callB call_len_seq (by rfl) ml PySem.boot_len (pa_cons (pv 0) pa_nil)) (pe_glob (v := .int 60) rfl m6 ⟨_, rfl⟩)))))) (pss_one ps_never) pss_nil)
      (pss_cons (ps_if (pt_not (pt_val (pe_callB (cr_all rfl) (by rfl) ma (by decide +kernel) (pa_cons (pe_lc (own := [("name", 1)]) (g := gName 1) (tt := tYes) rfl scAreNames.nd (pi_tup (pv 0))
          (blkOk_by (own := [("name", 1)]) (N := ["value", "name", "at"]) (sc := defScope sAreNames) (by decide +kernel)) (fun _ _ _ _ _ => pg_name (i := 1) scAreNames.nd rfl (Or.inl rfl)) (fun _ _ _ _ _ => pts_nil)
          (fun _ _ _ _ _ => pe_call G hr rfl mG kG bG .nil pass0 (pa_cons (pv 1) pa_nil))) pa_nil)))) (pss_one ps_never) pss_nil)
      (pss_one (ps_ret (pe_callB (cr_all rfl) (by rfl) ma (by decide +kernel) (pa_cons (pe_lc (own := [("at", 2)]) (g := gName 2) (tt := tYes) (te := tOp (fun x y H Q => ∃ i j, x = V.str i ∧ y = V.str j ∧ Q (V.bl (decide (i.cps.toList < j.cps.toList))) H) (tOp (rIxT K) (tVar 0) (tVar 2)) (tOp (rIxT K) (tVar 0) (tOp (rI0 fun i j => V.int (i + j)) (tVar 2) (tC (.int 1))))) rfl scAreNames.nd (pi_range1 rfl mr (pa_cons (pe_op op_sub (pe_callB call_len_seq (by rfl) ml PySem.boot_len (pa_cons (pv 0) pa_nil)) pe_int) pa_nil))
          (blkOk_by (own := [("at", 2)]) (N := ["value", "name", "at"]) (sc := defScope sAreNames) (by decide +kernel)) (fun _ _ _ _ _ => pg_name (i := 2) scAreNames.nd rfl (Or.inl rfl)) (fun _ _ _ _ _ => pts_nil)
          (fun _ _ _ _ _ => pe_cmpR op_lt_str (pe_ix ix_tup (pv 0) (pv 2) (fun _ _ => rfl)) (pe_ix ix_tup (pv 0) (pe_op op_add (pv 2) pe_int) (fun _ _ => rfl)) (nomark _))) pa_nil))))), ?_⟩
    have ln : (VN ns).length = n := by rw [VN_len, ok.len]
    refine (⟨_, rfl, _, _, _, _, true, rfl, .ty _, .base (.tup ea), kit_ty (by decide +kernel), ⟨_, rfl, iteF ?_⟩⟩)
    refine ⟨_, rfl, a, _, rfl, .inr (SqT.of ea), _, _, rfl, rfl, _, rfl, ?_⟩
    rw [ln]
    have c1 : decide ((1 : Int) ≤ (n : Nat)) = true := by simp; omega
    have c2 : decide (((n : Nat) : Int) ≤ 60) = true := by simp; omega
    rw [c1]
    refine iteT ⟨_, _, rfl, rfl, _, rfl, ?_⟩
    dsimp only
    rw [c2]
    refine iteF ?_
    refine ⟨_, rfl, a, rfl, ⟨_, SqT.of ea⟩, fun D nD => ?_⟩
    refine lc_same (walk_tup (K := K) (a := a) (xs := VN ns)) (by omega) (fun _ => .bl true) nD (fun _ sm => SqT.of (sm _ _ ea)) ?_ ?_
    · rintro i x H1 H2 Z out hi sm ⟨rfl, ex⟩
      obtain ⟨s0, es, rfl⟩ := VN_at ex
      obtain ⟨q1, q2, q3⟩ := ok.each s0 (List.mem_of_getElem? es)
      exact gn ⟨rfl, _, rfl, s0, rfl, q1, q2, q3, fun H3 sm3 => out _ sm3⟩
    · intro H1 sm e1
      refine ⟨D, _, rfl, SqL.of (by rw [e1, bl_true]), true, ?_, ?_⟩
      · rw [all_true]
      refine iteF ?_
      have ea1 := sm _ _ ea
      refine ⟨_, rfl, a, _, rfl, .inr (SqT.of ea1), _, _, rfl, rfl, _, rfl, by omega, by omega, fun D2 nD2 => ?_⟩
      rw [ln]
      have em : ((n : Int) - 1).toNat = n - 1 := by omega
      refine lc_same (J := Itr 0 ((n : Int) - 1).toNat) (n := n - 1) (by rw [em]; exact walk_range0) (by omega) (fun _ => .bl true) nD2 (fun _ _ => trivial) ?_ ?_
      · rintro i x H2 H3 Z out hi sm2 ⟨rfl, rfl⟩
        have h1 : i < ns.length := by rw [ok.len]; omega
        have h2 : i + 1 < ns.length := by rw [ok.len]; omega
        have g1 := List.getElem?_eq_getElem h1
        have g2 := List.getElem?_eq_getElem h2
        have ea3 := sm2 _ _ ea1
        refine gn ⟨rfl, _, rfl, _, rfl, a, _, _, _, rfl, rfl, SqT.of ea3, atI_nat (VN_get g1), _, rfl, _, rfl, _, _, rfl, rfl, a, _, _, _, rfl, rfl, SqT.of ea3, atI_nat (j := i + 1) (VN_get g2), _, _, rfl, rfl, ?_⟩
        rw [decide_eq_true (ok.asc i _ _ g1 g2 : (SS ns[i]).cps.toList < (SS ns[i + 1]).cps.toList)]
        exact out _ same_rfl
      · intro H2 sm2 e2
        refine ⟨D2, _, rfl, SqL.of (by rw [e2, bl_true]), ?_⟩
        rw [all_true]
        exact q _ (sm.trans sm2)
theorem ok_check_lists {f g : Addr} {fd gd : FuncData} {k : Nat} (F : Fun K "_check_lists" "_check_lists" sCheckLists f fd) (G : FnOk P w K mg base CX0 k g gd ["value", "many"] spAreUnlike) (bG : Binds K gd ["value", "many"] []) (kG : PySem.W.keepIn K (.ref g) = true) (mG : mg "are_unlike_persons" = some (.ref g)) (me : mg "enumerate" = none) (ml : mg "len" = none) : FnOk P w K mg base CX0 (k + 1) f fd ["lists"] spCheckLists := by
  refine F.ok scCheckLists (fun vs H Q E h => ?_) (fun cdv A outer s H vs Q E hr h => ?_)
  · obtain ⟨a, ls, rfl, _⟩ := h
    rfl
  · obtain ⟨a, ls, rfl, lt, hn, ok, q⟩ := h
    refine ⟨_, pss_one (ps_for PassesOwn.never rfl (pi_enumT (by rfl) me (pa_cons (pv 0) pa_nil)) (pg_tup rfl (pgs_cons (pg_name (i := 1) scCheckLists.nd rfl (.inl rfl)) (pgs_cons (pg_name (i := 2) scCheckLists.nd rfl (.inl rfl)) pgs_nil)))
        (pss_one (ps_if (PW.pt (pw_or (pt_not (pt_val (pe_call G hr rfl mG kG bG .nil pass0 (pa_cons (pv 2) (pa_cons (pe_callB call_len_seq (by rfl) ml PySem.boot_len (pa_cons (pv 0) pa_nil)) pa_nil))))) (pw_or1 (pt_cmpR op_in_seq (pv 1) (pv 2) rfl)))) (pss_one ps_never) pss_nil))), ?_⟩
    obtain ⟨xs, ea, xl⟩ := lt.len
    refine ⟨_, rfl, a, xs, rfl, SqT.of ea, ?_⟩
    refine for_it (walk_enumT (K := K) (a := a) (xs := xs)) (fun i σ H' => ∃ y z : Option V, σ = [some (.ref a), y, z] ∧ Same H H')
      ⟨none, none, rfl, same_rfl⟩ (fun i σ H' _ ⟨_, _, _, sm⟩ => SqT.of (sm _ _ ea)) ?_ ?_
    · rintro i x σ H1 H2 hi ⟨y, z, rfl, sm⟩ ⟨T, x0, x1, rfl, nT, rfl, e1, e2⟩
      cases e1
      obtain ⟨b, s1, rfl, es, eb⟩ := lt.row ea e2
      have sm2 := sm.fresh (o := .tup [.int (i : Nat), .ref b]) (sm.free nT)
      refine ⟨T, _, rfl, SqT.of upd_same, rfl, _, _, rfl, gn ⟨_, _, rfl, gn ⟨rfl, ?_⟩⟩⟩
      dsimp only [List.set]
      generalize upd H1 T (.tup [.int (i : Nat), .ref b]) = H3 at sm2
      refine ⟨_, rfl, _, rfl, a, xs, rfl, .inr (SqT.of (sm2 _ _ ea)), b, s1, ls.length, by rw [xl]; rfl, eb.same sm2, by have := ok.each es; omega, ok.nd i _ es, fun j hj => (ok.both i _ j es hj).1, fun H4 sm4 => ⟨true, rfl, iteF ?_⟩⟩
      refine ⟨_, rfl, _, rfl, b, _, rfl, .inr (((eb.same sm2).same sm4).sq), rfl, flat_VI s1, _, rfl, ?_⟩
      dsimp only
      rw [inV_VI, decide_eq_false (fun hm => (ok.both i _ i es hm).2.1 rfl)]
      exact iteF ⟨_, _, rfl, sm2.trans sm4⟩
    · rintro σ H1 ⟨y, z, rfl, sm⟩
      exact q _ sm
theorem ok_check_both {f : Addr} {fd : FuncData} {k : Nat} (F : Fun K "_check_both_ways" "_check_both_ways" sCheckBoth f fd) (me : mg "enumerate" = none) : FnOk P w K mg base CX0 (k + 1) f fd ["lists", "ranks"] spCheckBoth := by
  refine F.ok scCheckBoth (fun vs H Q E h => ?_) (fun cdv A outer s H vs Q E hr h => ?_)
  · obtain ⟨a, r, ls, rfl, _⟩ := h
    rfl
  · obtain ⟨a, r, ls, rfl, lt, rt, hn, ok, q⟩ := h
    refine ⟨_, pss_one (ps_for PassesOwn.never rfl (pi_enumT (by rfl) me (pa_cons (pv 0) pa_nil)) (pg_tup rfl (pgs_cons (pg_name (i := 2) scCheckBoth.nd rfl (.inl rfl)) (pgs_cons (pg_name (i := 3) scCheckBoth.nd rfl (.inl rfl)) pgs_nil)))
        (pss_one (ps_for PassesOwn.never rfl (pi_tup (pv 3)) (pg_name (i := 4) scCheckBoth.nd rfl (.inl rfl))
          (pss_one (ps_if (pt_cmpR op_isN (pe_ix ix_tup (pe_ix ix_tup (pv 1) (pv 4) (fun _ _ => rfl)) (pv 2) (fun _ _ => rfl)) pe_non (nomark _)) (pss_one ps_never) pss_nil))))), ?_⟩
    obtain ⟨xs, ea, xl⟩ := lt.len
    refine ⟨_, rfl, a, xs, rfl, SqT.of ea, ?_⟩
    refine for_it (walk_enumT (K := K) (a := a) (xs := xs)) (fun i σ H' => ∃ x y z : Option V, σ = [some (.ref a), some (.ref r), x, y, z] ∧ Same H H')
      ⟨none, none, none, rfl, same_rfl⟩ (fun i σ H' _ ⟨_, _, _, _, sm⟩ => SqT.of (sm _ _ ea)) ?_ ?_
    · rintro i x σ H1 H2 hi ⟨x', y, z, rfl, sm⟩ ⟨T, x0, x1, rfl, nT, rfl, e1, e2⟩
      cases e1
      obtain ⟨b, s1, rfl, es, eb⟩ := lt.row ea e2
      have sm2 := sm.fresh (o := .tup [.int (i : Nat), .ref b]) (sm.free nT)
      refine ⟨T, _, rfl, SqT.of upd_same, rfl, _, _, rfl, gn ⟨_, _, rfl, gn ⟨rfl, ?_⟩⟩⟩
      dsimp only [List.set]
      generalize upd H1 T (.tup [.int (i : Nat), .ref b]) = H3 at sm2
      refine ⟨_, rfl, b, rfl, ⟨_, (eb.same sm2).sq⟩, for_it (walk_tup (K := K) (a := b) (xs := VI s1)) (fun j σ H' => ∃ z : Option V, σ = [some (.ref a), some (.ref r), some (.int (i : Nat)), some (.ref b), z] ∧ Same H H') ⟨z, rfl, sm2⟩ (fun j σ H' _ ⟨_, _, sm⟩ => (eb.same sm).sq) ?_ ?_⟩
      · rintro j x σ H4 H5 hj ⟨z, rfl, sm4⟩ ⟨rfl, ex⟩
        obtain ⟨o, eo, rfl⟩ := VI_at ex
        refine gn ?_
        dsimp only [List.set]
        obtain ⟨h1, h2, t, et, hm⟩ := ok.both i s1 o es (List.mem_of_getElem? eo)
        obtain ⟨rows, c, er, ec, ev⟩ := rt.at et
        have hi' : i < ls.length := by omega
        refine ⟨_, rfl, _, rfl, r, rows, _, _, rfl, rfl, SqT.of (sm4 _ _ er), atI_nat ec, _, rfl, c, _, _, _, rfl, rfl, SqT.of (sm4 _ _ ev), atI_nat (VR_get hi'), rfl, _, rfl, ?_⟩
        have e0 : decide (rkV t i = V.non) = false := by
          unfold rkV
          rw [if_pos hm]
          rfl
        rw [e0]
        exact iteF ⟨_, rfl, sm4⟩
      · rintro σ H4 ⟨z, rfl, sm4⟩
        exact ⟨_, _, _, rfl, sm4⟩
    · rintro σ H1 ⟨x, y, z, rfl, sm⟩
      exact q _ sm
end
end K14
namespace K14
open PySem PySem.Spec PyProof.Rows L2
/-! ### wishes -/
theorem fne1 : ¬ (("names" : Str) = "lists") := by decide +kernel
theorem fne2 : ¬ (("names" : Str) = "_ranks") := by decide +kernel
theorem fne3 : ¬ (("lists" : Str) = "_ranks") := by decide +kernel
def wf (n l r : Addr) : List (Str × V) := putF "_ranks" (.ref r) (putF "lists" (.ref l) (putF "names" (.ref n) []))
theorem wf_names (n l r : Addr) : (wf n l r).lookup ("names" : Str) = some (.ref n) := by
  unfold wf
  rw [lookup_putF, if_neg fne2, lookup_putF, if_neg fne1, lookup_putF, if_pos rfl]
theorem wf_lists (n l r : Addr) : (wf n l r).lookup ("lists" : Str) = some (.ref l) := by
  unfold wf
  rw [lookup_putF, if_neg fne3, lookup_putF, if_pos rfl]
theorem wf_ranks (n l r : Addr) : (wf n l r).lookup ("_ranks" : Str) = some (.ref r) := by
  unfold wf
  rw [lookup_putF, if_pos rfl]
theorem wf2_len (n l : Addr) : (putF "lists" (.ref l) (putF "names" (.ref n) [])).length < 1000 := by
  show (if ("names" : Str) = "lists" then _ else (("names" : Str), V.ref n) :: putF "lists" (.ref l) []).length < 1000
  rw [if_neg fne1]
  show 2 < 1000
  decide
structure WAt (C : Addr) (H : Hp) (wi : Addr) (ns ls : List (List Nat)) : Prop where
  n60 : 1 ≤ ls.length ∧ ls.length ≤ 60
  nok : NamesOk ls.length ns
  ok : ListsOk ls.length ls
  ex : ∃ dx n l r, H wi = some (.ins C dx (wf n l r)) ∧ H n = some (.tup (VN ns)) ∧ LT H l ls ∧ RT H r ls
theorem WAt.same {C wi : Addr} {H H' : Hp} {ns ls : List (List Nat)} (W : WAt C H wi ns ls) (s : Same H H') : WAt C H' wi ns ls := by
  obtain ⟨dx, n, l, r, e1, e2, e3, e4⟩ := W.ex
  exact ⟨W.n60, W.nok, W.ok, dx, n, l, r, s _ _ e1, s _ _ e2, e3.same s, e4.same s⟩
theorem RT.bar {H H' : Hp} {h l r : Addr} {ls : List (List Nat)} (t : RT H r ls) (s : Src H h l) (b : Bar h l H H') : RT H' r ls := by
  obtain ⟨as, e, le, q⟩ := t
  exact ⟨as, tup_bar s b e, le, fun i a x e1 e2 => tup_bar s b (q i a x e1 e2)⟩
theorem WAt.bar {C wi h l : Addr} {H H' : Hp} {ns ls : List (List Nat)} (W : WAt C H wi ns ls) (s : Src H h l) (b : Bar h l H H') : WAt C H' wi ns ls := by
  obtain ⟨dx, n, l', r, e1, e2, e3, e4⟩ := W.ex
  have nn := s.ne e1 (fun _ z => by cases z)
  exact ⟨W.n60, W.nok, W.ok, dx, n, l', r, b _ _ nn.1 nn.2 e1, tup_bar s b e2, e3.bar s b, e4.bar s b⟩
structure Txt (K : PySem.W.Frag) (mg : Str → Option Value) (C : Addr) : Prop where
  cl : Cls K C
  nN : NoAttr K C "names"
  nL : NoAttr K C "lists"
  nR : NoAttr K C "_ranks"
  mgC : mg "Wishes" = some (.ref C)
def spWInit (C : Addr) : Sp := fun vs H Q _ => ∃ (p dx n l : Addr) (ns ls : List (List Nat)), vs = [.ref p, .ref n, .ref l] ∧ H p = some (.ins C dx []) ∧ H n = some (.tup (VN ns)) ∧ LT H l ls ∧ 1 ≤ ls.length ∧ ls.length ≤ 60 ∧ NamesOk ls.length ns ∧ ListsOk ls.length ls ∧
  ∀ H', WAt C H' p ns ls → (∀ b o, H b = some o → b ≠ p → H' b = some o) → Q .non H'
theorem scWInit : FnScope ["self", "names", "lists", "ranks"] ["self", "names", "lists"] (defScope sWInit) := ⟨rfl, rfl, rfl, by decide +kernel, rfl, by decide +kernel, by decide +kernel⟩
section
variable {P : Program} {w : World} {K : PySem.W.Frag} {mg : Str → Option Value} {base : Heap}
theorem ok_winit {f fn ft fl fr fb C : Addr} {fd dn dt dl dr db : FuncData} {k : Nat} (F : Fun K "__init__" "Wishes.__init__" sWInit f fd) (T : Txt K mg C)
    (Gn : FnOk P w K mg base CX0 k fn dn ["value"] spAreNames) (bn : Binds K dn ["value"] []) (kn : PySem.W.keepIn K (.ref fn) = true) (mn : mg "_are_names" = some (.ref fn))
    (Gt : FnOk P w K mg base CX0 k ft dt ["value", "many"] spIsTupleOf) (bt : Binds K dt ["value", "many"] []) (kt : PySem.W.keepIn K (.ref ft) = true) (mt : mg "is_tuple_of" = some (.ref ft))
    (Gl : FnOk P w K mg base CX0 k fl dl ["lists"] spCheckLists) (bl : Binds K dl ["lists"] []) (kl : PySem.W.keepIn K (.ref fl) = true) (ml : mg "_check_lists" = some (.ref fl))
    (Gr : FnOk P w K mg base CX0 k fr dr ["lists"] spRanksOfLists) (br : Binds K dr ["lists"] []) (kr : PySem.W.keepIn K (.ref fr) = true) (mr : mg "_ranks_of_lists" = some (.ref fr))
    (Gb : FnOk P w K mg base CX0 k fb db ["lists", "ranks"] spCheckBoth) (bb : Binds K db ["lists", "ranks"] []) (kb : PySem.W.keepIn K (.ref fb) = true) (mb : mg "_check_both_ways" = some (.ref fb)) (mlen : mg "len" = none) :
    FnOk P w K mg base CX0 (k + 1) f fd ["self", "names", "lists"] (spWInit C) := by
  refine F.ok scWInit (fun vs H Q E h => ?_) (fun cdv A outer s H vs Q E hr h => ?_)
  · obtain ⟨p, dx, n, l, ns, ls, rfl, _⟩ := h
    rfl
  · obtain ⟨p, dx, n, l, ns, ls, rfl, ep, en, lt, n1, n60, nok, ok, q⟩ := h
    refine ⟨_, pss_cons (ps_if (pt_not (pt_val (pe_call Gn hr rfl mn kn bn .nil pass0 (pa_cons (pv 1) pa_nil)))) (pss_one ps_never) pss_nil)
      (pss_cons (ps_if (pt_not (pt_val (pe_call Gt hr rfl mt kt bt .nil pass0 (pa_cons (pv 2) (pa_cons (pe_callB call_len_seq (by rfl) mlen PySem.boot_len (pa_cons (pv 1) pa_nil)) pa_nil))))) (pss_one ps_never) pss_nil)
      (pss_cons (ps_expr (pe_call Gl hr rfl ml kl bl .nil pass0 (pa_cons (pv 2) pa_nil)))
      (pss_cons (ps_set (i := 3) scWInit.nd rfl (.inl rfl) (pe_call Gr hr rfl mr kr br .nil pass0 (pa_cons (pv 2) pa_nil)))
      (pss_cons (ps_expr (pe_call Gb hr rfl mb kb bb .nil pass0 (pa_cons (pv 2) (pa_cons (pv 3) pa_nil))))
      (pss_cons (ps_fld (pv 0) (pv 1) rfl)
      (pss_cons (ps_fld (pv 0) (pv 2) rfl)
      (pss_one (ps_fld (pv 0) (pv 3) rfl)))))))), ?_⟩
    refine ⟨_, rfl, n, ns, ls.length, rfl, en, nok, n1, n60, fun H1 s1 => ⟨true, rfl, iteF ?_⟩⟩
    obtain ⟨xs, el, xl⟩ := lt.len
    have el1 := s1 _ _ el
    have t1 : tupOf H1 (.ref l) = some xs := by simp [tupOf, el1]
    refine ⟨_, rfl, _, rfl, n, _, rfl, .inr (SqT.of (s1 _ _ en)), .ref l, (VN ns).length, rfl, .tup el1, fun ys e => ?_, ?_⟩
    · rw [t1] at e
      cases e
      omega
    rw [t1]
    have c1 : decide (xs.length = (VN ns).length) = true := by
      rw [decide_eq_true_eq, xl, VN_len, nok.len]
    refine ⟨true, congrArg V.bl c1, iteF ?_⟩
    refine ⟨_, rfl, l, ls, rfl, lt.same s1, by omega, ok, fun H2 s2 => ?_⟩
    refine ⟨_, rfl, l, ls, rfl, (lt.same s1).same s2, by omega, ok, fun r H3 s3 nr rt => ?_⟩
    have s03 : Same H H3 := s1.trans (s2.trans s3)
    refine ⟨_, rfl, _, rfl, l, r, ls, rfl, lt.same s03, rt, by omega, ok, fun H4 s4 => ?_⟩
    have s04 : Same H H4 := s03.trans s4
    have ep4 := s04 _ _ ep
    refine ⟨_, rfl, _, rfl, p, C, dx, [], rfl, ep4, T.cl, T.nN, (by decide), ?_⟩
    refine ⟨_, rfl, _, rfl, p, C, dx, _, rfl, upd_same, T.cl, T.nL, (by show 1 < 1000; decide), ?_⟩
    refine ⟨_, rfl, _, rfl, p, C, dx, _, rfl, upd_same, T.cl, T.nR, wf2_len n l, ?_⟩
    have keep : ∀ b o, H b = some o → b ≠ p → (upd (upd (upd H4 p (.ins C dx (putF "names" (.ref n) []))) p (.ins C dx (putF "lists" (.ref l) (putF "names" (.ref n) [])))) p (.ins C dx (wf n l r))) b = some o := fun b o e nb => by
      rw [upd_ne nb, upd_ne nb, upd_ne nb]
      exact s04 b o e
    have keep3 : ∀ b xs, H4 b = some (.tup xs) → (upd (upd (upd H4 p (.ins C dx (putF "names" (.ref n) []))) p (.ins C dx (putF "lists" (.ref l) (putF "names" (.ref n) [])))) p (.ins C dx (wf n l r))) b = some (.tup xs) := fun b xs e => by
      have nb : b ≠ p := fun z => by rw [z, ep4] at e; cases e
      rw [upd_ne nb, upd_ne nb, upd_ne nb]
      exact e
    have nep : ∀ a xs, Tp H4 a xs → a ≠ p := fun a xs t z => by
      rcases t with e | ⟨o, _, _, e⟩ <;> (rw [z, ep4] at e; cases e)
    refine q _ ⟨⟨n1, n60⟩, nok, ok, dx, n, l, r, upd_same, keep3 _ _ (s04 _ _ en), ?_, ?_⟩ keep
    · obtain ⟨as, ea, al, rows⟩ := lt.same s04
      exact ⟨as, keep3 _ _ ea, al, fun i a x e1 e2 => ((((rows i a x e1 e2).put (nep _ _ (rows i a x e1 e2))).put (nep _ _ (rows i a x e1 e2))).put (nep _ _ (rows i a x e1 e2)))⟩
    · obtain ⟨as, ea, al, rows⟩ := rt.same s4
      exact ⟨as, keep3 _ _ ea, al, fun i a x e1 e2 => keep3 _ _ (rows i a x e1 e2)⟩
end
end K14
namespace K14
open PySem PySem.Spec PyProof.Rows L2
/-! ### holds -/
def hv : Option Nat → V
  | none => .non
  | some j => .int (j : Nat)
def VH (hs : List (Option Nat)) : List V := hs.map hv
theorem VH_len (hs : List (Option Nat)) : (VH hs).length = hs.length := List.length_map _
theorem VH_get {hs : List (Option Nat)} {i : Nat} {o : Option Nat} (e : hs[i]? = some o) : (VH hs)[i]? = some (hv o) := by unfold VH; rw [List.getElem?_map, e]; rfl
theorem VH_at {hs : List (Option Nat)} {i : Nat} {x : V} (e : (VH hs)[i]? = some x) : ∃ o, hs[i]? = some o ∧ x = hv o := by
  unfold VH at e
  rw [List.getElem?_map] at e
  cases h : hs[i]? with
  | none => rw [h] at e; cases e
  | some j => rw [h] at e; exact ⟨j, rfl, (Option.some.inj e).symm⟩
def rkO (s : List Nat) : Option Nat → V
  | none => .int (s.length : Nat)
  | some j => rkV s j
def rkN (s : List Nat) : Option Nat → Nat
  | none => s.length
  | some j => s.idxOf j
theorem rkO_N {s : List Nat} {o : Option Nat} (h : ∀ j, o = some j → j ∈ s) : rkO s o = .int (rkN s o : Nat) := by
  cases o with
  | none => rfl
  | some j =>
    show rkV s j = _
    unfold rkV
    rw [if_pos (h j rfl)]
    rfl
/-- the list of a person, the one it holds -/
def la (ls : List (List Nat)) (p : Nat) : List Nat := ls.getD p []
def ha (hs : List (Option Nat)) (p : Nat) : Option Nat := hs.getD p none
theorem la_get {ls : List (List Nat)} {p : Nat} (h : p < ls.length) : ls[p]? = some (la ls p) := by
  unfold la
  rw [List.getD_eq_getElem?_getD, List.getElem?_eq_getElem h]
  rfl
theorem ha_get {hs : List (Option Nat)} {p : Nat} (h : p < hs.length) : hs[p]? = some (ha hs p) := by
  unfold ha
  rw [List.getD_eq_getElem?_getD, List.getElem?_eq_getElem h]
  rfl
structure HoldsOk (ls : List (List Nat)) (hs : List (Option Nat)) : Prop where
  len : hs.length = ls.length
  on : ∀ p j, ha hs p = some j → p < ls.length ∧ j ∈ la ls p
def most (ls : List (List Nat)) (hs : List (Option Nat)) (p : Nat) : Nat := rkN (la ls p) (ha hs p)
def spIsWished (C : Addr) : Sp := fun vs H Q _ => ∃ (wi : Addr) (ns ls : List (List Nat)) (p o : Nat), vs = [.ref wi, .int p, .int o] ∧ WAt C H wi ns ls ∧ p < ls.length ∧ o < ls.length ∧ Q (.bl (decide (o ∈ la ls p))) H
theorem scIsWished : FnScope ["wishes", "person", "other"] ["wishes", "person", "other"] (defScope sIsWished) := ⟨rfl, rfl, rfl, by decide +kernel, rfl, by decide +kernel, by decide +kernel⟩
def spRankOf (C : Addr) : Sp := fun vs H Q _ => ∃ (wi : Addr) (ns ls : List (List Nat)) (p : Nat) (o : Option Nat), vs = [.ref wi, .int p, hv o] ∧ WAt C H wi ns ls ∧ p < ls.length ∧ (∀ j, o = some j → j < ls.length) ∧ Q (rkO (la ls p) o) H
theorem scRankOf : FnScope ["wishes", "person", "other"] ["wishes", "person", "other"] (defScope sRankOf) := ⟨rfl, rfl, rfl, by decide +kernel, rfl, by decide +kernel, by decide +kernel⟩
def spRanksIn (C : Addr) : Sp := fun vs H Q _ => ∃ (wi : Addr) (ns ls : List (List Nat)), vs = [.ref wi] ∧ WAt C H wi ns ls ∧ ∀ r, RT H r ls → Q (.ref r) H
theorem scRanksIn : FnScope ["wishes"] ["wishes"] (defScope sRanksIn) := ⟨rfl, rfl, rfl, by decide +kernel, rfl, by decide +kernel, by decide +kernel⟩
theorem hv_non (o : Option Nat) : decide (hv o = V.non) = o.isNone := by cases o <;> rfl
section
variable {P : Program} {w : World} {K : PySem.W.Frag} {mg : Str → Option Value} {base : Heap}
theorem ok_is_wished {f C : Addr} {fd : FuncData} {k : Nat} (F : Fun K "is_wished" "is_wished" sIsWished f fd) (T : Txt K mg C) : FnOk P w K mg base CX0 (k + 1) f fd ["wishes", "person", "other"] (spIsWished C) := by
  refine F.ok scIsWished (fun vs H Q E h => ?_) (fun cdv A outer s H vs Q E hr h => ?_)
  · obtain ⟨wi, ns, ls, p, o, rfl, _⟩ := h
    rfl
  · obtain ⟨wi, ns, ls, p, o, rfl, W, hp, ho, q⟩ := h
    refine ⟨_, pss_one (ps_ret (pe_cmpR op_notN (pe_ix ix_tup (pe_ix ix_tup (pe_fld (pv 0) rfl) (pv 1) (fun _ _ => rfl)) (pv 2) (fun _ _ => rfl)) pe_non (nomark _))), ?_⟩
    obtain ⟨dx, n, l, r, e1, e2, e3, e4⟩ := W.ex
    obtain ⟨rows, c, er, ec, ev⟩ := e4.at (la_get hp)
    refine ⟨_, rfl, wi, C, dx, _, _, rfl, e1, T.cl, T.nR, wf_ranks n l r, _, rfl, r, rows, _, _, rfl, rfl, SqT.of er, atI_nat ec, _, rfl, c, _, _, _, rfl, rfl, SqT.of ev, atI_nat (VR_get ho), rfl, ?_⟩
    have e0 : (!decide (rkV (la ls p) o = V.non)) = decide (o ∈ la ls p) := by
      unfold rkV
      split
      · rename_i h
        rw [decide_eq_true h]
        rfl
      · rename_i h
        rw [decide_eq_false h]
        rfl
    show Q (.bl (!decide (rkV (la ls p) o = V.non))) H
    rw [e0]
    exact q
theorem ok_rank_of {f C : Addr} {fd : FuncData} {k : Nat} (F : Fun K "rank_of" "rank_of" sRankOf f fd) (T : Txt K mg C) (ml : mg "len" = none) : FnOk P w K mg base CX0 (k + 1) f fd ["wishes", "person", "other"] (spRankOf C) := by
  refine F.ok scRankOf (fun vs H Q E h => ?_) (fun cdv A outer s H vs Q E hr h => ?_)
  · obtain ⟨wi, ns, ls, p, o, rfl, _⟩ := h
    rfl
  · obtain ⟨wi, ns, ls, p, o, rfl, W, hp, ho, q⟩ := h
    refine ⟨_, pss_cons (ps_if (pt_cmpR op_isN (pv 2) pe_non (nomark _)) (pss_one (ps_ret (pe_callB call_len_seq (by rfl) ml PySem.boot_len (pa_cons (pe_ix ix_tup (pe_fld (pv 0) rfl) (pv 1) (fun _ _ => rfl)) pa_nil)))) pss_nil)
      (pss_one (ps_ret (pe_ix ix_tup (pe_ix ix_tup (pe_fld (pv 0) rfl) (pv 1) (fun _ _ => rfl)) (pv 2) (fun _ _ => rfl)))), ?_⟩
    obtain ⟨dx, n, l, r, e1, e2, e3, e4⟩ := W.ex
    refine ⟨_, rfl, rfl, _, rfl, ?_⟩
    cases o with
    | none =>
      refine iteT ?_
      obtain ⟨rows, c, er, ec, ev⟩ := e3.at (la_get hp)
      refine ⟨_, rfl, wi, C, dx, _, _, rfl, e1, T.cl, T.nL, wf_lists n l r, _, rfl, l, rows, _, _, rfl, rfl, SqT.of er, atI_nat ec, c, _, rfl, .inr ev.sq, ?_⟩
      rw [VI_len]
      exact q
    | some j =>
      refine iteF ?_
      obtain ⟨rows, c, er, ec, ev⟩ := e4.at (la_get hp)
      exact ⟨_, rfl, wi, C, dx, _, _, rfl, e1, T.cl, T.nR, wf_ranks n l r, _, rfl, r, rows, _, _, rfl, rfl, SqT.of er, atI_nat ec, _, rfl, c, _, _, _, rfl, rfl, SqT.of ev, atI_nat (VR_get (ho j rfl)), q⟩
theorem ok_ranks_in {f C : Addr} {fd : FuncData} {k : Nat} (F : Fun K "ranks_in" "ranks_in" sRanksIn f fd) (T : Txt K mg C) : FnOk P w K mg base CX0 (k + 1) f fd ["wishes"] (spRanksIn C) := by
  refine F.ok scRanksIn (fun vs H Q E h => ?_) (fun cdv A outer s H vs Q E hr h => ?_)
  · obtain ⟨wi, ns, ls, rfl, _⟩ := h
    rfl
  · obtain ⟨wi, ns, ls, rfl, W, q⟩ := h
    refine ⟨_, pss_one (ps_ret (pe_fld (pv 0) rfl)), ?_⟩
    obtain ⟨dx, n, l, r, e1, e2, e3, e4⟩ := W.ex
    exact ⟨_, rfl, wi, C, dx, _, _, rfl, e1, T.cl, T.nR, wf_ranks n l r, q r e4⟩
end
end K14
namespace K14
open PySem PySem.Spec PyProof.Rows L2
/-! ### defs that ask repr of data: their promise, where no repr is under way -/
def RunG (P : Program) (w : World) (K : PySem.W.Frag) (mg : Str → Option Value) (base : Heap) (k : Nat) (f : Addr) (fd : FuncData) (ps : List Str) (sp : Sp) : Prop :=
  ∀ (A : Around) (outer : List Env) (s : Shared) (H : Hp) (args : Args) (us : List Value) (vs : List V) (Q : VK) (E : XK), A.guards = some [] → Room k A → Env0 P w K mg base A outer s H →
    BindsTo s fd args (ps.zip us) → Vals vs us → sp vs H Q E → codeAny (model P w) A (.call (.ref f) args) (CR CX0 outer P w H s Q E) s
theorem call_repr {X : Cx} (hg : X.A.guards = some []) (hu : X.A.units + 64 < cLine) :
    CallR X (.builtin "repr") (fun xs H Q => ∃ a d, xs = [.ref a] ∧ Dp X.K H (.ref a) d ∧ d.showable = true ∧ d.hasDict = false ∧ d.depth ≤ 60 ∧ d.shown.length ≤ sizeLine ∧ Q (.str d.shown) H) := by
  intro pins s σ H xs us Q I r h
  obtain ⟨a, d, rfl, hd, hs, hn, hz, hl, q⟩ := h
  obtain ⟨u, rfl, ru⟩ := vals1 r
  obtain ⟨as, rd⟩ := Dp.reads I d _ _ hd ru
  cases ru
  exact repr_of_reads' rd hs (PyData.noDict_hsm hn) hg (by omega) (fun _ _ e => e) (fun h' t tk keep => ⟨.str d.shown, H, I.kept keep, ⟨t, rfl⟩, q⟩) hl
section
variable {P : Program} {w : World} {K : PySem.W.Frag} {mg : Str → Option Value} {base : Heap}
theorem okG {x qual : Str} {st : Stmt} {f : Addr} {fd : FuncData} {N ps : List Str} {k : Nat} {sp : Sp} (F : Fun K x qual st f fd) (S : FnScope N ps (defScope st)) (len : ∀ vs H Q E, sp vs H Q E → vs.length = ps.length)
    (body : ∀ (cdv : Value) (A : Around) (outer : List Env) (s : Shared) (H : Hp) (vs : List V) (Q : VK) (E : XK), A.guards = some [] → Room k (A.deeper (envOfC qual (defScope st) s.heap.objs.size f cdv)) → sp vs H Q E →
      ∃ t, PSs (cxOf CX0 P w K mg base N qual (defScope st) f cdv A outer s H E).nox (defBody st) t ∧ t { nx := fun _ H' => Q .non H', rt := Q } (start N vs) H) : RunG P w K mg base (k + 1) f fd ps sp := by
  obtain ⟨oc, od, kV, doc, pm, an, cdv, ct, osl, rfl, lk, hcd⟩ := F.ex
  intro A outer s H args us vs Q E hA room e0 bind rel promise
  have KX := e0.mod.kin.keeps (h' := s.heap) fun b o e => (e0.bs b o e).1
  have lim := e0.mod.nolimit.keeps (h' := s.heap) fun b o e => (e0.bs b o e).1
  have kinds : ∀ y ∈ ps.zip us, (defScope st).names.lookup y.1 = some .local ∨ ((defScope st).names.lookup y.1 = some .cell ∧ ((cellsFrom (s.heap.objs.size + 1) (defScope st).names []).lookup y.1).isSome = true) := by
    intro y hy
    cases S.par y.1 (List.of_mem_zip (show (y.1, y.2) ∈ ps.zip us from hy)).1 with
    | inl q => exact .inl q
    | inr q => exact .inr ⟨q, PySem.W.cellsFrom_some _ _ _ (.inl q)⟩
  apply codeAny_call_function room.depth (KX _ _ lk) rfl S.co S.gen rfl (PySem.W.codeRec_of KX hcd) (bind _ _ _ _ _)
  apply wpAny_newFunctionEnv_cells S.kind kinds
  intro env he s1 x
  subst he
  obtain ⟨t, ht, hq⟩ := body cdv A outer s H vs Q E hA (room.deeper _) promise
  have I := inv_start (CX := CX0) (E := E) S room.hd e0 (len _ _ _ _ promise) rel x
  refine ⟨lim.keeps x.toInCall.keep, codeAny_func (wpAny_mono (ht.nox.run [] s1 (start N vs) H _ I hq) ?_ (fun _ _ z => z))⟩
  intro fl s' z
  cases fl with
  | ret u => exact let ⟨v, _, H', J, rv, q⟩ := z; ⟨v, H', J.os, J.bare, J.base, J.hok, rv, q⟩
  | next => exact let ⟨_, H', J, q⟩ := z; ⟨V.non, H', J.os, J.bare, J.base, J.hok, rfl, q⟩
  | brk => exact let ⟨_, _, _, q⟩ := z; q.elim
  | cont => exact let ⟨_, _, _, q⟩ := z; q.elim
end
section
variable {P : Program} {w : World} {K : PySem.W.Frag} {mg mb : Str → Option Value} {s₁ : Shared} {a : Addr} {vs : List Value} {H : Hp}
/-- the call of the law: nothing is tracked but the script at a -/
theorem env_law (KX : K.In s₁.heap) (hns : s₁.heap.Ns mainGlobals mg) (hb : s₁.heap.Ns builtinsNs mb) (hbb : ∀ x : Str, x ≠ "__name__" → mb x = bootBuiltins x) (hlim : s₁.heap.NoLimit) (hg : s₁.gens = #[])
    (ha : s₁.heap.get? a = some { cls := .type "list", data := .seq vs.toArray }) (hok : HOk P w H s₁.heap) (one : ∀ b u, H b = some u → b = a) (apart : ∀ u, H a = some u → K.lookup a = none) :
    K.In (hidT s₁.heap H) ∧ (hidT s₁.heap H).Ns mainGlobals mg ∧ Env0 P w K mg (hidT s₁.heap H) callerA [] s₁ H := by
  have free : ∀ b, b ≠ a → H b = none := by
    intro b n
    cases e : H b with
    | none => rfl
    | some u => exact (n (one b u e)).elim
  have low : ∀ {b : Addr} {o : Obj}, s₁.heap.get? b = some o → b ≠ a → (hidT s₁.heap H).get? b = some o := fun e n => hidT_get e (free _ n)
  have ns : ∀ {b : Addr} {m : Str → Option Value}, s₁.heap.Ns b m → (hidT s₁.heap H).Ns b m := by
    rintro b m ⟨o, es, ep, e, d, r⟩
    refine ⟨o, es, ep, low e ?_, d, r⟩
    intro z
    rw [z, ha] at e
    cases e
    cases d
  have kin : K.In (hidT s₁.heap H) := by
    intro b o e
    by_cases n : b = a
    · subst n
      cases q : H b with
      | none => exact hidT_get (KX _ _ e) q
      | some u =>
        have z := apart u q
        rw [z] at e
        cases e
    · exact low (KX _ _ e) n
  obtain ⟨mc, l1, l2⟩ := hlim
  exact ⟨kin, ns hns, ⟨rfl, ⟨kin, ns hns, ⟨mb, ns hb, hbb⟩, ⟨mc, ns l1, l2⟩⟩, fun b o e => of_hidT e, Nat.le_of_eq (hidT_size _ _), trivial, (fun b z => nomatch z), hok, .of_eq hg⟩⟩
theorem run_law {k : Nat} {fa : Addr} {fd : FuncData} {x : Str} {sp : Sp} (env : Env0 P w K mg (hidT s₁.heap H) callerA [] s₁ H) (F : RunG P w K mg (hidT s₁.heap H) k fa fd [x] sp) (hr : Room k callerA)
    (hbind : ∀ (s : Shared) (u : Value), BindsTo s fd ⟨[u], []⟩ [(x, u)]) (hO : Only H) (hok : HOk P w H s₁.heap) (hsp : sp [.ref a] H (fun v _ => v = .bl true) fun _ _ _ => False) :
    codeAny (model P w) callerA (.call (.ref fa) ⟨[.ref a], []⟩) (fun r s' => r = .ok (.ret (.bool true)) ∧ OldK s₁.heap s'.heap ∧ s'.os = s₁.os ∧ AllBare s'.gens) s₁ := by
  have run := F callerA [] s₁ H ⟨[.ref a], []⟩ [.ref a] [.ref a] _ _ rfl hr env (hbind s₁ (.ref a)) (.cons rfl .nil) hsp
  refine codeAny_mono run ?_
  intro r s' h
  match r, h with
  | .ok (.ret u), h =>
    obtain ⟨v, H', os, bare, un, hok', r', q⟩ := h
    have q2 : v = V.bl true := q
    subst q2
    obtain rfl : u = Value.bool true := r'
    refine ⟨rfl, OldK.of_keep ?_, os, bare⟩
    intro b o e
    cases q : H b with
    | none => exact un.keep b o e q (fun z => nomatch z) (fun z => nomatch z)
    | some u =>
      rcases hO b with z | ⟨ob, xs, z⟩
      · rw [q] at z
        cases z
      · have e1 := (hok b _ z).1
        have e2 := (hok' b _ (un.frzs b ob _ z)).1
        rw [e] at e1
        cases e1
        exact e2
end
/-- the goal behind k_head, from such a promise of the law -/
theorem walkG {l : PySem.W.OpenLaw} {n k : Nat} {q : Program} {loose : List Str} {XP : (Str → Option Value) → Heap → Prop} {YP : World → Heap → Prop} {d : DefRec} {K : Params → PySem.W.Frag} {sp : PySem.W.Frag → Sp} {x : Str}
    (hn : l.most = some n) (hn2 : n ≤ sizeLine) (hdf : d.params.defaults = []) (hr : Room k callerA) (hY : ∀ (w : World) (h : Heap), YP w h → (K w.params).In h)
    (F : ∀ (w : World) (mg : Str → Option Value) (fa : Addr) (h : Heap), (K w.params).In h → h.Ns mainGlobals mg → mg d.name = some (.ref fa) →
      ∃ fd : FuncData, (∀ (s : Shared) (u : Value), BindsTo s fd ⟨[u], []⟩ [(x, u)]) ∧ ∀ base : Heap, (K w.params).In base → base.Ns mainGlobals mg → RunG l.prog w (K w.params) mg base k fa fd [x] (sp (K w.params)))
    (hsp : ∀ (K : PySem.W.Frag) (H : Hp) (a : Addr) (ns : List Int), ns.length ≤ n → SqL K H a (ns.map V.int) → sp K [.ref a] H (fun v _ => v = .bl true) fun _ _ _ => False) :
    PySem.W.WalkO q loose XP YP l.row.toRowW d [] (fun f vs => PySem.call f vs) := by
  apply Att.attach_call hn hdf
  intro w s₀ s₁ mg mb fa o pm cd doc a vs ns G Y ho hd hcd hmg hobj hints hlen hg
  have KX := hY w _ Y
  obtain ⟨fd, hb, hF⟩ := F w mg fa _ KX G.T.g hmg
  have rel := vals_ints hints
  have hz : (ns.map V.int).length ≤ sizeLine := by rw [List.length_map]; exact Nat.le_trans hlen hn2
  cases hk : (K w.params).lookup a with
  | some o' =>
    have e := KX a o' hk
    rw [hobj] at e
    cases e
    have ok0 : HOk l.prog w (fun _ => none) s₁.heap := fun b u z => nomatch z
    obtain ⟨k1, k2, k3⟩ := env_law (P := l.prog) (w := w) (H := fun _ => none) KX G.T.g G.T.b G.T.builtins G.T.nolimit hg hobj ok0 (fun b u z => nomatch z) (fun u z => nomatch z)
    refine run_law k3 (hF _ k1 k2) hr hb (fun b => .inl rfl) ok0 (hsp _ _ a ns hlen ?_)
    exact .inr ⟨_, vs.toArray, _, hk, rfl, rfl, rfl, by rw [List.size_toArray, ← rel.length]; exact hz, by simpa using rel⟩
  | none =>
    have at_ : (upd (fun _ => none) a (.frz { cls := .type "list", data := .seq vs.toArray } (.lst (ns.map V.int)))) a = some (.frz { cls := .type "list", data := .seq vs.toArray } (.lst (ns.map V.int))) := upd_same
    have off : ∀ b, b ≠ a → (upd (fun _ => none) a (.frz { cls := .type "list", data := .seq vs.toArray } (.lst (ns.map V.int)))) b = none := fun b n => upd_ne n
    generalize upd (fun _ => none) a (.frz { cls := .type "list", data := .seq vs.toArray } (.lst (ns.map V.int))) = H at at_ off
    have only : Only H := by
      intro b
      by_cases n : b = a
      · exact .inr ⟨_, _, by rw [n]; exact at_⟩
      · exact .inl (off b n)
    have ok1 : HOk l.prog w H s₁.heap := by
      intro b u z
      by_cases n : b = a
      · rw [n, at_] at z
        cases z
        rw [n]
        exact ⟨hobj, hz, vs, _, rel, hobj⟩
      · rw [off b n] at z
        cases z
    have one : ∀ b u, H b = some u → b = a := by
      intro b u z
      by_cases n : b = a
      · exact n
      · rw [off b n] at z
        cases z
    obtain ⟨k1, k2, k3⟩ := env_law (P := l.prog) (w := w) (H := H) KX G.T.g G.T.b G.T.builtins G.T.nolimit hg hobj ok1 one (fun u z => hk)
    exact run_law k3 (hF _ k1 k2) hr hb only ok1 (hsp _ _ a ns hlen (.inl (.inr ⟨_, at_⟩)))
/-! ### a def called with all its arguments by keywords -/
section
variable {X : Cx} {CX : CXT} {k : Nat} {f : Addr} {fd : FuncData} {ps ks : List Str} {sp : Sp} {E : XK} {x : Str} {p pos : Pos} {kws : List Keyword} {tk : TA} {g : List Value → List Value → List Value} {gV : List V → List V → List V}
theorem pe_named (F : FnOk X.prog X.w X.K X.mg X.base CX k f fd ps sp) (hr : Room k X.A) (hg : Gl X x) (hm : X.mg x = some (.ref f)) (kp : PySem.W.keepIn X.K (.ref f) = true) (b : KBinds X.K fd ps ks g gV) (hx : Passes CX X E) (hkw : PK X kws tk)
    (h1 : (backToKw pos (keywordEach kws X.env)).all (·.1.isSome) = true := by rfl) (h2 : (backToKw pos (keywordEach kws X.env)).filterMap (·.1) = ks := by rfl) (h3 : (x == ("__debug__" : Str)) = false := by decide)
    (h4 : ((backTo pos (starEach [] X.env)).any (·.1) || (backToKw pos (keywordEach kws X.env)).any (·.1.isNone)) = false := by rfl) :
    PE X (.Call (.Name x p) [] kws pos) (tCallK sp gV E tNil tk) := by
  constructor
  intro pins s σ H Q I h
  apply wpAny_Call_Name_kw (ld_glob I hg hm _ h3)
  apply PySem.W.callWith_KW0 (h₀ := X.base) I.ok.mod.kin kp h1 _ h4
  refine thn (hkw.run pos pins s σ H _ I h) ?_
  rintro ws s2 ⟨zs, H2, I2, rz, q2⟩
  refine ⟨I2.kIn, ?_⟩
  rw [h2]
  exact run_fnk (us := []) (vs := []) F hr b hx I2 .nil rz q2
end

/-! ### calls of defs that ask repr of data -/
theorem call_repr_bl {X : Cx} : CallR X (.builtin "repr") (fun xs H Q => ∃ b, xs = [.bl b] ∧ Q (.str (if b then "True" else "False")) H) := by
  intro pins s σ H xs us Q I r h
  obtain ⟨b, rfl, q⟩ := h
  obtain ⟨u, rfl, ru⟩ := vals1 r
  cases ru
  exact PySem.P.repr_of_bool ⟨.str (if b then "True" else "False"), H, I.tok _, ⟨_, rfl⟩, q⟩
section
variable {X : Cx} {k : Nat} {f : Addr} {fd : FuncData} {ps : List Str} {sp : Sp} {x : Str} {p pos : Pos} {e : Expr} {es : List Expr} {t : TA}
theorem pe_callG (F : RunG X.prog X.w X.K X.mg X.base k f fd ps sp) (len : ∀ vs H Q E, sp vs H Q E → vs.length = ps.length) (hA : X.A.guards = some []) (hr : Room k X.A) (hg : Gl X x) (hm : X.mg x = some (.ref f)) (hk : PySem.W.keepIn X.K (.ref f) = true) (hb : Binds X.K fd ps []) {E : XK} (hx : Passes CX0 X E)
    (ha : PA X (e :: es) t) (hdb : (x == ("__debug__" : Str)) = false := by decide) (he : starEach (e :: es) X.env = (false, eval e X.env) :: starEach es X.env := by rfl) (hpl : (backTo pos (starEach es X.env)).any (·.1) = false := by rfl) :
    PE X (.Call (.Name x p) (e :: es) [] pos) (tCall sp [] E t) := by
  refine ⟨fun pins s σ H Q I h => wpAny_Call_Name_kw (ld_glob I hg hm ?_ hdb)⟩
  refine PySem.W.callWith_K (h₀ := X.base) I.ok.mod.kin hk (thn (ha.run pos pins s σ H _ I h) fun us s1 ⟨vs, H1, I1, r, q⟩ => ⟨I1.kIn, ?_⟩) he hpl
  have r2 : Vals (vs ++ []) (us ++ []) := r.append .nil
  have hl : (us ++ []).length = ps.length := by rw [← r2.length]; exact len _ _ _ _ q
  refine wpAny_call (codeAny_mono (F X.A X.stack s1 H1 ⟨us, []⟩ (us ++ []) (vs ++ []) _ E hA hr I1.env0 (hb s1 us I1.kIn hl) r2 q) fun r s' hq => ?_)
  cases r with
  | error e => exact hx pins σ H1 s1 e s' I1 hq
  | ok fl =>
    cases fl with
    | ret u => exact I1.after hq
    | next => exact False.elim hq
    | brk => exact False.elim hq
    | cont => exact False.elim hq
end
end K14
namespace K14
open PySem PySem.Spec PyProof.Rows L2
section
variable {J : It} {n : Nat} {G : Hp → Prop} {Y : Nat → Hp → V → Hp → Prop}
/-- a comprehension with a test that leaves all as it stood: the items at which the test is true -/
theorem lc_sel (w : Walk J n G Y) {g : TG} {tt : TT} {te : TE} {vs : List Nat} {σ : L2.St} {H0 : Hp} {D : Addr} {Qd : Hp → Prop} (hn : n ≤ 100000) (xs : List V) (f : V → Bool) (xl : xs.length = n) (nD : H0 D = none) (hG : ∀ H, Same H0 H → G H)
    (hs : ∀ (i : Nat) (x : V) (H H' : Hp) (R : Hp → Prop) (Z : V → Hp → Prop), (∀ H3, Same H H3 → f (xs.getD i .non) = true → Z (xs.getD i .non) H3) → (∀ H3, Same H H3 → f (xs.getD i .non) = false → R H3) → i < n → Same H0 H → Y i H x H' → g x (wipe σ vs) H' fun σ2 H2 => wipe σ2 vs = wipe σ vs ∧ tt σ2 H2 fun b H3 => if b = true then te σ2 H3 Z else R H3)
    (hd : ∀ H, Same H0 H → H D = some (.lst (xs.filter f)) → Qd H) :
    ∃ W : Nat → Nat → Hp → Prop, (∃ m, W 0 m (upd H0 D (.lst []))) ∧ ∀ i m H, W i m H →
      (J.stop i H ∧ Qd H) ∨ (J.go i H ∧ ∃ Nx : Hp → Prop, (∀ H', Nx H' → ∃ m', m' < m ∧ W (i + 1) m' H') ∧ ∀ x H', J.yld i H x H' → g x (wipe σ vs) H' fun σ2 H2 => wipe σ2 vs = wipe σ vs ∧ tt σ2 H2 fun b H3 =>
        if b = true then te σ2 H3 fun y H4 => ∃ acc, H4 D = some (.lst acc) ∧ acc.length < sizeLine ∧ Nx (upd H4 D (.lst (acc ++ [y]))) else Nx H3) := by
  refine lc_it w (fun i H => Same H0 H ∧ H D = some (.lst ((xs.take i).filter f))) ⟨same_upd nD, by rw [upd_same, List.take_zero]; rfl⟩ (fun i H _ h => hG H h.1) (fun i x H H' hi h y => ?_) (fun H h => hd H h.1 (by rw [← xl, List.take_length] at h; exact h.2))
  have tk : xs.take (i + 1) = xs.take i ++ [xs.getD i .non] := by
    rw [List.take_succ, List.getD_eq_getElem?_getD, List.getElem?_eq_getElem (by omega)]
    rfl
  refine hs i x H H' (fun H => Same H0 H ∧ H D = some (.lst ((xs.take (i + 1)).filter f))) (fun v H3 => ∃ acc, H3 D = some (.lst acc) ∧ acc.length < sizeLine ∧ (fun H => Same H0 H ∧ H D = some (.lst ((xs.take (i + 1)).filter f))) (upd H3 D (.lst (acc ++ [v])))) (fun H3 z ft => ?_) (fun H3 z ff => ?_) hi h.1 y
  · refine ⟨_, z _ _ h.2, ?_, (h.1.trans z).fresh nD, ?_⟩
    · refine sz6' (Nat.le_trans (List.length_filter_le _ _) ?_)
      rw [List.length_take]
      omega
    · rw [upd_same, tk, List.filter_append, List.filter_cons, if_pos ft, List.filter_nil]
  · refine ⟨h.1.trans z, ?_⟩
    rw [z _ _ h.2, tk, List.filter_append, List.filter_cons, if_neg (by rw [ff]; decide), List.filter_nil, List.append_nil]
end
theorem VI_getD {s : List Nat} {i : Nat} (h : i < s.length) : (VI s).getD i .non = .int (s[i] : Nat) := by
  rw [List.getD_eq_getElem?_getD, VI_get (List.getElem?_eq_getElem h)]
  rfl
def fV (g : Nat → Bool) : V → Bool
  | .int i => g i.toNat
  | _ => false
theorem VI_filter (s : List Nat) (g : Nat → Bool) : (VI s).filter (fV g) = VI (s.filter g) := by
  unfold VI
  rw [List.filter_map]
  rfl
theorem la_of {ls : List (List Nat)} {p : Nat} {t : List Nat} (e : ls[p]? = some t) : la ls p = t := by
  unfold la
  rw [List.getD_eq_getElem?_getD, e]
  rfl
theorem ListsOk.mate {n : Nat} {ls : List (List Nat)} (ok : ListsOk n ls) {p o : Nat} (hp : p < n) (h : o ∈ la ls p) : o < n ∧ o ≠ p ∧ p ∈ K14.la ls o := by
  obtain ⟨h1, h2, t, et, hm⟩ := ok.both p _ o (la_get (by rw [ok.len]; exact hp)) h
  exact ⟨h1, h2, by rw [la_of et]; exact hm⟩
theorem ListsOk.nda {n : Nat} {ls : List (List Nat)} (ok : ListsOk n ls) {p : Nat} (hp : p < n) : (la ls p).Nodup := ok.nd p _ (la_get (by rw [ok.len]; exact hp))
end K14
namespace K14
open PySem PySem.Spec PyProof.Rows L2
theorem vals_rev : ∀ {zs : List V} {ws : List Value}, Vals zs ws → Vals zs.reverse ws.reverse
  | [], _, .nil => .nil
  | z :: zs, _, .cons (b := w) r t => by
    rw [List.reverse_cons, List.reverse_cons]
    exact (vals_rev t).append (.cons r .nil)
/-- a def of two parameters called by keywords, the last one first -/
theorem named2 {K : PySem.W.Frag} {x qual : Str} {st : Stmt} {f : Addr} {fd : FuncData} {n m : Str} (F : Fun K x qual st f fd)
    (h0 : ∀ (kV doc pm : Value) (an : Option Addr) (cdv ct u v : Value), bindArgs (PySem.W.fnOf x qual (defArgs st) (defBody st) (defScope st) .none kV doc pm an cdv ct) ⟨[u, v], []⟩ = pure [(n, u), (m, v)])
    (h1 : ∀ (kV doc pm : Value) (an : Option Addr) (cdv ct u v : Value), bindArgs (PySem.W.fnOf x qual (defArgs st) (defBody st) (defScope st) .none kV doc pm an cdv ct) ⟨[u], [(m, v)]⟩ = pure [(n, u), (m, v)])
    (h2 : ∀ (kV doc pm : Value) (an : Option Addr) (cdv ct u v : Value), bindArgs (PySem.W.fnOf x qual (defArgs st) (defBody st) (defScope st) .none kV doc pm an cdv ct) ⟨[], [(m, v), (n, u)]⟩ = pure [(n, u), (m, v)]) :
    KBinds K fd [n, m] [m, n] (fun us ws => us ++ ws.reverse) (fun vs zs => vs ++ zs.reverse) := by
  obtain ⟨oc, od, kV, doc, pm, an, cdv, ct, osl, rfl, lk, hcd⟩ := F.ex
  refine ⟨fun s us ws _ hl => ?_, fun a b => a.append (vals_rev b)⟩
  have hl' : ws.length + us.length = 2 := by simpa [Nat.add_comm] using hl
  match us, ws, hl' with
  | [u, v], [], _ => exact .of_eq (h0 kV doc pm an cdv ct u v)
  | [u], [v], _ => exact .of_eq (h1 kV doc pm an cdv ct u v)
  | [], [v, u], _ => exact .of_eq (h2 kV doc pm an cdv ct u v)
/-- .. of three parameters -/
theorem named3 {K : PySem.W.Frag} {x qual : Str} {st : Stmt} {f : Addr} {fd : FuncData} {n m o : Str} (F : Fun K x qual st f fd)
    (h0 : ∀ (kV doc pm : Value) (an : Option Addr) (cdv ct u v t : Value), bindArgs (PySem.W.fnOf x qual (defArgs st) (defBody st) (defScope st) .none kV doc pm an cdv ct) ⟨[u, v, t], []⟩ = pure [(n, u), (m, v), (o, t)])
    (h1 : ∀ (kV doc pm : Value) (an : Option Addr) (cdv ct u v t : Value), bindArgs (PySem.W.fnOf x qual (defArgs st) (defBody st) (defScope st) .none kV doc pm an cdv ct) ⟨[u, v], [(o, t)]⟩ = pure [(n, u), (m, v), (o, t)])
    (h2 : ∀ (kV doc pm : Value) (an : Option Addr) (cdv ct u v t : Value), bindArgs (PySem.W.fnOf x qual (defArgs st) (defBody st) (defScope st) .none kV doc pm an cdv ct) ⟨[u], [(o, t), (m, v)]⟩ = pure [(n, u), (m, v), (o, t)])
    (h3 : ∀ (kV doc pm : Value) (an : Option Addr) (cdv ct u v t : Value), bindArgs (PySem.W.fnOf x qual (defArgs st) (defBody st) (defScope st) .none kV doc pm an cdv ct) ⟨[], [(o, t), (m, v), (n, u)]⟩ = pure [(n, u), (m, v), (o, t)]) :
    KBinds K fd [n, m, o] [o, m, n] (fun us ws => us ++ ws.reverse) (fun vs zs => vs ++ zs.reverse) := by
  obtain ⟨oc, od, kV, doc, pm, an, cdv, ct, osl, rfl, lk, hcd⟩ := F.ex
  refine ⟨fun s us ws _ hl => ?_, fun a b => a.append (vals_rev b)⟩
  have hl' : ws.length + us.length = 3 := by simpa [Nat.add_comm] using hl
  match us, ws, hl' with
  | [u, v, t], [], _ => exact .of_eq (h0 kV doc pm an cdv ct u v t)
  | [u, v], [t], _ => exact .of_eq (h1 kV doc pm an cdv ct u v t)
  | [u], [t, v], _ => exact .of_eq (h2 kV doc pm an cdv ct u v t)
  | [], [t, v, u], _ => exact .of_eq (h3 kV doc pm an cdv ct u v t)
end K14
namespace K14
open PySem PySem.Spec PyProof.Rows L2
structure Has (P : Program) (w : World) (K : PySem.W.Frag) (mg : Str → Option Value) (base : Heap) (k : Nat) (x : Str) (ps : List Str) (sp : Sp) (f : Addr) (fd : FuncData) : Prop where
  ok : FnOk P w K mg base CX0 k f fd ps sp
  b : Binds K fd ps []
  k : PySem.W.keepIn K (.ref f) = true
  m : mg x = some (.ref f)
structure HasG (P : Program) (w : World) (K : PySem.W.Frag) (mg : Str → Option Value) (base : Heap) (k : Nat) (x : Str) (ps : List Str) (sp : Sp) (f : Addr) (fd : FuncData) : Prop where
  ok : RunG P w K mg base k f fd ps sp
  b : Binds K fd ps []
  k : PySem.W.keepIn K (.ref f) = true
  m : mg x = some (.ref f)
structure HasX (P : Program) (w : World) (K : PySem.W.Frag) (mg : Str → Option Value) (base : Heap) (CX : CXT) (k : Nat) (x : Str) (ps : List Str) (sp : Sp) (f : Addr) (fd : FuncData) : Prop where
  ok : FnOk P w K mg base CX k f fd ps sp
  b : Binds K fd ps []
  k : PySem.W.keepIn K (.ref f) = true
  m : mg x = some (.ref f)
end K14
namespace K14
open PySem PySem.Spec PyProof.Rows L2
def spMixed : Sp := fun vs H Q _ => ∃ (h l s : Addr) (xs : List V), vs = [.ref h, .ref s] ∧ Src H h l ∧ H s = some (.lst xs) ∧ s ≠ h ∧ s ≠ l ∧ xs.length ≤ 1000 ∧
  ∀ (r : Addr) (ys : List V) (H' : Hp), ys.Perm xs → Src H' h l → Bar h l H H' → H r = none → H' r = some (.lst ys) → Q (.ref r) H'
theorem scMix : FnScope ["heap", "some", "left", "found", "turn"] ["heap", "some"] (defScope sLMixed) := ⟨rfl, rfl, rfl, by decide +kernel, rfl, by decide +kernel, by decide +kernel⟩
theorem erase_perm6 {α : Type} : ∀ {us : List α} {k : Nat} {y : α}, us[k]? = some y → (y :: us.eraseIdx k).Perm us
  | [], k, y, e => by simp at e
  | u :: r, 0, y, e => by
    have : u = y := by simpa using e
    subst this
    exact List.Perm.refl _
  | u :: r, k + 1, y, e => by
    have e' : r[k]? = some y := by simpa using e
    exact (List.Perm.swap u y _).trans ((erase_perm6 e').cons u)
theorem perm_pop6 {xs us fs : List V} {k : Nat} {y : V} (p : (fs ++ us).Perm xs) (e : us[k]? = some y) : ((fs ++ [y]) ++ us.eraseIdx k).Perm xs := by
  refine List.Perm.trans ?_ p
  rw [List.append_assoc]
  refine List.Perm.append_left fs ?_
  exact erase_perm6 e
section
variable {P : Program} {w : World} {K : PySem.W.Frag} {mg : Str → Option Value} {base : Heap}
theorem ok_mixed {f f1 : Addr} {fd d1 : FuncData} {k : Nat} (F : Fun K "_law_mixed" "_law_mixed" sLMixed f fd) (G : Has P w K mg base k "_law_draw" ["heap", "many"] spDraw f1 d1) (ml : mg "len" = none) (mrg : mg "range" = none) (mli : mg "list" = none) :
    FnOk P w K mg base CX0 (k + 1) f fd ["heap", "some"] spMixed := by
  refine F.ok scMix (fun vs H Q E h => ?_) (fun cdv A outer s H vs Q E hr h => ?_)
  · obtain ⟨h, l, s, xs, rfl, _⟩ := h
    rfl
  · obtain ⟨h, l, s, xs, rfl, src, es, n1, n2, x1, q⟩ := h
    refine ⟨_, pss_cons (ps_par (i := 2) (j := 3) rfl scMix.nd rfl rfl (by decide) rfl rfl (pa_cons (pe_callTy call_list_of (by rfl) mli (by decide +kernel) (pa_cons (pv 1) pa_nil)) (pa_cons (pe_lst pa_nil) pa_nil)) (by rfl))
      (pss_cons (ps_for PassesOwn.never rfl (pi_range1 rfl mrg (pa_cons (pe_callB call_len_seq (by rfl) ml PySem.boot_len (pa_cons (pv 1) pa_nil)) pa_nil)) (pg_name (i := 4) scMix.nd rfl (.inl rfl))
      (pss_one (ps_expr (pe_bm PySem.F.plainAttrs_list PySem.F.slot_list_append PySem.F.type_list_append mt_append (pv 3) (pa_cons (pe_bm PySem.F.plainAttrs_list PySem.F.slot_list_pop PySem.F.type_list_pop mt_popAt (pv 2) (pa_cons (pe_call G.ok hr rfl G.m G.k G.b .nil pass0 (pa_cons (pv 0) (pa_cons (pe_callB call_len_seq (by rfl) ml PySem.boot_len (pa_cons (pv 2) pa_nil)) pa_nil))) pa_nil)) pa_nil)))))
      (pss_one (ps_ret (pv 3)))), ?_⟩
    refine ⟨_, rfl, s, xs, rfl, .inl (SqL.of es), fun p np => ⟨Nat.zero_le _, fun r nr => ?_⟩⟩
    have ep0 : (upd H p (.lst xs)) p = some (.lst xs) := upd_same
    have npr : p ≠ r := ne_of_none ep0 nr
    have nr0 : H r = none := by rw [upd_ne (Ne.symm npr)] at nr; exact nr
    obtain ⟨nph, npl⟩ := src.new np
    obtain ⟨nrh, nrl⟩ := src.new nr0
    have nsp : s ≠ p := ne_of_none es np
    have nsr : s ≠ r := ne_of_none es nr0
    have e1 : (upd (upd H p (.lst xs)) r (.lst [])) s = some (.lst xs) := by rw [upd_ne nsr, upd_ne nsp]; exact es
    refine ⟨_, _, rfl, _, rfl, s, xs, rfl, .inl (SqL.of e1), xs.length, rfl, (by omega), (by omega), for_range (lo := 0) (n := xs.length) (fun i σ H' => ∃ (us fs : List V) (y : Option V), σ = [some (.ref h), some (.ref s), some (.ref p), some (.ref r), y] ∧ H' p = some (.lst us) ∧ H' r = some (.lst fs) ∧ (fs ++ us).Perm xs ∧ fs.length = i ∧ Src H' h l ∧ Bar h l H H')
      ⟨xs, [], none, rfl, by rw [upd_ne npr]; exact ep0, upd_same, .refl _, rfl, (src.updn np).put nrh nrl, (Bar.refl.fresh np).fresh nr0⟩ ?_ ?_⟩
    · rintro i σ H' hi ⟨us, fs, y, rfl, ep, er, pm, fl, sr, bar⟩
      have ln : fs.length + us.length = xs.length := by rw [← List.length_append]; exact pm.length_eq
      refine gn ?_
      dsimp only [List.set]
      refine ⟨_, rfl, .inl ⟨rfl, _, SqL.of er⟩, _, rfl, .inl ⟨rfl, _, SqL.of ep⟩, _, rfl, _, rfl, p, us, rfl, .inl (SqL.of ep), h, l, _, rfl, sr, by omega, by omega, fun j H2 j0 j1 sr2 bar2 => ?_⟩
      obtain ⟨j, rfl⟩ : ∃ j' : Nat, j = (j' : Int) := ⟨j.toNat, by omega⟩
      have hj : j < us.length := by omega
      obtain ⟨m, im, um, m0, _⟩ := atI_get (atI_nat (List.getElem?_eq_getElem hj))
      refine ⟨p, us, j, m, us[j], rfl, rfl, bar2 _ _ nph npl ep, by omega, by omega, im, um, ?_⟩
      · have lm := (erase_perm6 um).length_eq
        rw [List.length_cons] at lm
        have er2 : (upd H2 p (.lst (us.eraseIdx m))) r = some (.lst fs) := by rw [upd_ne (Ne.symm npr)]; exact bar2 _ _ nrh nrl er
        refine ⟨r, fs, _, rfl, rfl, er2, sz6 (by omega), us.eraseIdx m, fs ++ [us[j]], _, rfl, by rw [upd_ne npr, upd_same], upd_same, perm_pop6 pm um, by simp [fl], (sr2.put nph npl).put nrh nrl, ((bar.trans bar2).fresh np).fresh nr0⟩
    · rintro σ H' ⟨us, fs, y, rfl, ep, er, pm, fl, sr, bar⟩
      have ln : fs.length + us.length = xs.length := by rw [← List.length_append]; exact pm.length_eq
      have u0 : us = [] := List.eq_nil_of_length_eq_zero (by omega)
      subst u0
      rw [List.append_nil] at pm
      exact ⟨_, rfl, q r fs _ pm sr bar nr0 er⟩
end
end K14
set_option maxHeartbeats 1000000
/-! min(xs, key=lambda x: .., default=..), max(..) of a list: a lambda with one parameter, run for each member -/
namespace K14
open PySem PySem.Spec PyProof.Rows L2 LamX
/-- a lambda with the one parameter x: no other name of its own -/
structure Lam1 (sc scope : Scope) (x : Str) : Prop where
  kind : scope.kind = .function
  co : scope.isCoroutine = false
  gen : scope.isGenerator = false
  par : scope.names.lookup x = some .local
  noc : ∀ y ∈ scope.names, y.2 ≠ .cell
  own : ∀ y, scope.names.lookup y = some .local → y = x
  free : ∀ y ∈ scope.names, y.2 = .free → sc.names.lookup y.1 = some .cell ∨ sc.names.lookup y.1 = some .free
def lam1B (sc scope : Scope) (x : Str) : Bool :=
  decide (scope.kind = .function) && !scope.isCoroutine && !scope.isGenerator && decide (scope.names.lookup x = some .local) && scope.names.all fun y =>
    !decide (y.2 = .cell) && (!decide (y.2 = .local) || decide (y.1 = x)) && (!decide (y.2 = .free) || decide (sc.names.lookup y.1 = some .cell) || decide (sc.names.lookup y.1 = some .free))
theorem lam1_by {sc scope : Scope} {x : Str} (q : lam1B sc scope x = true) : Lam1 sc scope x := by
  unfold lam1B at q
  simp only [Bool.and_eq_true, List.all_eq_true, Bool.or_eq_true, Bool.not_eq_true', decide_eq_true_eq, decide_eq_false_iff_not] at q
  obtain ⟨⟨⟨⟨q1, q2⟩, q3⟩, q4⟩, q5⟩ := q
  refine { kind := q1, co := q2, gen := q3, par := q4, noc := fun y m => (q5 y m).1.1, own := fun y l => ?_, free := fun y m e => ?_ }
  · rcases (q5 _ (PySem.mem_of_lookup l)).1.2 with z | z
    · exact absurd rfl z
    · exact z
  · rcases (q5 y m).2 with (z | z) | z
    · exact (z e).elim
    · exact Or.inl z
    · exact Or.inr z
section
variable {X : Cx} {pins : List (Addr × Obj)} {σ : L2.St} {H : Hp} {s : Shared}
theorem Lam1.caught {scope : Scope} {x : Str} (L : Lam1 X.env.scope scope x) (ok : X.Ok) {y : Str} (m : (y, NameKind.free) ∈ scope.names) : ∃ c, X.env.cells.lookup y = some c := by
  rcases L.free _ m rfl with z | z
  · exact ok.has y (Or.inl z)
  · exact ok.has y (Or.inr z)
/-- its body's start: the parameter stands at j -/
theorem key_start {A : Around} {E : XK} {scope : Scope} {f c' : Addr} {m1 : Heap} {tk j : Nat} {x : Str} {v : V} {u : Value} (I : Inv X pins σ H s) (L : Lam1 X.env.scope scope x) (hN : X.N.Nodup) (hj : X.N[j]? = some x) (r : RelV v u)
    (e0 : Env0 X.prog X.w X.K X.mg X.base A X.stack s H) (hd : A.handled = none) (hns : m1.Ns s.heap.objs.size fun y => [(x, u)].reverse.lookup y) (kp : ∀ b o, s.heap.get? b = some o → m1.get? b = some o) :
    Inv (lamCx X A X.stack s H E scope f c') [] (σ.set j (some v)) H { s with heap := m1, toks := tk } := by
  have up : ∀ y c, (cloFrom X.env.cells scope.names []).lookup y = some c → X.env.cells.lookup y = some c ∧ (y, NameKind.free) ∈ scope.names := by
    intro y c e
    rcases cloFrom_mem (PySem.mem_of_lookup e) with z | ⟨m, ec⟩
    · exact absurd z (List.not_mem_nil)
    · obtain ⟨c1, e1⟩ := L.caught I.ok m
      have e1' : X.env.cells.lookup y = some c1 := e1
      refine ⟨?_, m⟩
      rw [ec, e1']
      rfl
  have cl : ∀ y c v, X.env.cells.lookup y = some c → s.heap.IsCell c v → m1.IsCell c v := by
    intro y c v _ ⟨o, o1, o2⟩
    exact ⟨o, kp c o o1, o2⟩
  have nope : ∀ {P : Prop} (b : Addr), b ∈ (lamCx X A X.stack s H E scope f c').ex → P := fun b z => absurd z (List.not_mem_nil)
  have hOk : (lamCx X A X.stack s H E scope f c').Ok := by
    refine { mod := e0.mod, kind := L.kind, glob := rfl, blt := rfl, above := Nat.le_refl _, inj := ?_, has := ?_, cab := ?_, hd := fun _ => hd, frames := Around.frames_deeper e0.frames, stk := Or.inr ⟨rfl, rfl⟩, exf := fun b z => nope b z, bs := e0.bs, bsz := e0.bsz, noex := fun b o _ z => nope b z, exfs := fun b z => nope b z, funs := e0.funs, frf := e0.frf }
    · intro y z c p q
      exact I.ok.inj y z c (up y c p).1 (up z c q).1
    · intro y hy
      have hy : scope.names.lookup y = some .cell ∨ scope.names.lookup y = some .free := hy
      rcases hy with z | z
      · exact absurd rfl (L.noc _ (PySem.mem_of_lookup z))
      · exact mem_lookup (cloFrom_has (cells := X.env.cells) (acc := []) (PySem.mem_of_lookup z))
    · intro y c z _
      exact absurd (show false = true from z) Bool.false_ne_true
  refine { ok := hOk, os := rfl, bare := e0.bare, base := Un.kept kp, loc := ⟨_, hns, ?_⟩, cell := ?_, free := e0.hok.fresh (Nat.le_refl _), freeC := ?_, pin := fun p z => absurd (show p ∈ ([] : List (Addr × Obj)) ++ [] from z) (by simp), hok := e0.hok.kept kp, len := ?_ }
  · intro i y w e1 e2 e3
    have e1 : X.N[i]? = some y := e1
    have e3 : Vis scope y := e3
    rcases e3 with k | k | k
    · have ey := L.own y k
      subst ey
      have hi := (List.getElem?_eq_some_iff.mp e1)
      have ij : i = j := (List.getElem?_inj hi.1 hN).mp (e1.trans hj.symm)
      subst ij
      have hl : i < σ.length := by rw [I.len]; exact hi.1
      rw [List.getElem?_set_self hl] at e2
      cases e2
      refine ⟨u, r, Or.inl ⟨k, ?_⟩⟩
      show List.lookup y [(y, u)] = some u
      simp [List.lookup]
    · exact absurd rfl (L.noc _ (PySem.mem_of_lookup k))
    · have nj : j ≠ i := fun z => by
        rw [z, e1] at hj
        cases hj
        exact absurd (L.par.symm.trans k) (by simp)
      rw [List.getElem?_set_ne nj] at e2
      obtain ⟨m, _, hl⟩ := I.loc
      have mf := PySem.mem_of_lookup k
      have vis : Vis X.env.scope y := by
        rcases L.free _ mf rfl with z | z
        · exact Or.inr (Or.inl z)
        · exact Or.inr (Or.inr z)
      obtain ⟨w', rw', q⟩ := hl i y w e1 e2 vis
      obtain ⟨c2, c3⟩ := mem_lookup (cloFrom_has (cells := X.env.cells) (acc := []) mf)
      refine ⟨w', rw', Or.inr ⟨Or.inr k, c2, c3, ?_⟩⟩
      have c4 := (up y c2 c3).1
      rcases q with ⟨l1, _⟩ | ⟨_, c5, l2, l3⟩
      · have l1 : X.env.scope.names.lookup y = some .local := l1
        rcases L.free _ mf rfl with z | z
        · rw [show X.env.scope.names.lookup y = _ from z] at l1; cases l1
        · rw [show X.env.scope.names.lookup y = _ from z] at l1; cases l1
      · have e5 := Option.some.inj (l2.symm.trans c4)
        rw [← e5]
        exact cl y c5 _ l2 l3
  · intro y c e
    obtain ⟨w', z⟩ := I.cell y c (up y c e).1
    exact ⟨w', cl y c w' (up y c e).1 z⟩
  · intro y c e
    exact I.freeC y c (up y c e).1
  · show (σ.set j (some v)).length = X.N.length
    rw [List.length_set]
    exact I.len
/-- one run of it -/
theorem key_run {Q : VK} {E' : Value → Shared → Prop} {scope : Scope} {params : Arguments} {body : Expr} {f c' : Addr} {pm ctv : Value} {j k : Nat} {x : Str} {v : V} {u : Value} {tb : TE} (I : Inv X pins σ H s) (hr : Room (k + 2) X.A) (L : Lam1 X.env.scope scope x) (hN : X.N.Nodup) (hj : X.N[j]? = some x)
    (hf : s.heap.get? f = some (PySem.W.kla_obj "<lambda>" (X.env.qual ++ "<lambda>") params body scope (cloFrom X.env.cells scope.names []) pm c' ctv)) (hco : H c' = some (CodeO c' (X.env.qual ++ "<lambda>")))
    (hbind : ∀ u, bindArgs (PySem.W.kla_fn "<lambda>" (X.env.qual ++ "<lambda>") params body scope (cloFrom X.env.cells scope.names []) pm (.ref c') ctv) ⟨[u], []⟩ = pure [(x, u)])
    (hbody : ∀ (A : Around) (s : Shared) (H : Hp), Room k (A.deeper (lamEnv X scope s.heap.objs.size f c')) → PE (lamCx X A X.stack s H C8.E0 scope f c') body tb) (r : RelV v u) (ht : tb (σ.set j (some v)) H Q) :
    wpAny (model X.prog X.w) X.A.in1 (call (.ref f) [u]) (CE X.stack X.prog X.w H s Q) E' s := by
  obtain ⟨⟨oc, vs, t, o1, o2, o3⟩, _, _⟩ := I.hok c' _ hco
  have r1 : Room (k + 1) X.A.in1 := hr.in1
  have rc : codeAny (model X.prog X.w) X.A.in1 (.call (.ref f) ⟨[u], []⟩) (CR (L2.CX X.prog X.w) X.stack X.prog X.w H s Q C8.E0) s := by
    refine PySem.W.kla_callFunE r1.depth hf rfl L.co L.gen rfl ⟨c', oc, vs, t, rfl, o1, o2, o3⟩ ?_
    rw [hbind]
    refine wpAny_pure (wpAny_newFunctionEnv L.noc (fun y hy => ?_) (fun m1 hns hsb => ⟨I.nolimit.fresh _ hsb, ?_⟩) L.kind)
    · rw [List.mem_singleton.mp hy]
      exact L.par
    · show codeAny _ _ (.expr body (lamEnv X scope s.heap.objs.size f c')) _ _
      have J := key_start (E := C8.E0) (f := f) (c' := c') (tk := s.toks + [(x, u)].length) I L hN hj r I.env0.in1 r1.hd hns (fun b o e => hsb.extBut b o (Nat.ne_of_lt (Heap.lt_size e)) (Heap.get?_push_of_some _ e))
      refine PySem.W.kla_codeExpr (wpAny_mono ((hbody _ s H (r1.deeper _)).run [] _ _ H Q J ht) (fun w s' q => ?_) fun e s' q => q)
      obtain ⟨w', H', J', rv, q⟩ := q
      exact ⟨w', H', J'.os, J'.bare, J'.base, J'.hok, rv, q⟩
  refine wpAny_call (codeAny_mono rc fun w s' q => ?_)
  cases w with
  | error e =>
    obtain ⟨_, _, _, _, _, _, _, _, _, _, _, _, z⟩ := q
    exact z.elim
  | ok fl =>
    cases fl with
    | ret w => exact q
    | next => exact False.elim q
    | brk => exact False.elim q
    | cont => exact False.elim q
end
end K14
set_option maxHeartbeats 1000000
/-! min, max of a list by a lambda's key -/
namespace K14
open PySem PySem.Spec PyProof.Rows L2 LamX
/-- a list walked, its members told as values -/
theorem walk_lst {prog : Program} {w : World} {A : Around} (hh : A.handled = none) (I a : Addr) (ne : a ≠ I) (xs : List V) :
    WalksS prog w A I [I, a] [I] (fun g g' => g' = g) xs.length (fun i v => ∃ x, xs[i]? = some x ∧ RelV x v) (fun i s => s.heap.IsListIter I a i ∧ ∃ its : List Value, s.heap.IsList a its.toArray ∧ Vals xs its) where
  sub := fun b hb => List.mem_cons.mpr (Or.inl (List.mem_singleton.mp hb))
  grefl := fun _ => rfl
  gtrans := fun _ _ _ p q => q.trans p
  frame := fun i s h' tk ⟨p, its, q, r⟩ _ hk => ⟨p.at fun o e => hk I (by simp) o e, its, Heap.IsList.at q fun o e => hk a (by simp) o e, r⟩
  item := fun i s Q E hi ⟨p, its, q, r⟩ hQ => by
    obtain ⟨u, hu, ru⟩ := Vals.get r (List.getElem?_eq_getElem hi)
    refine wpAny_pyNext_list_item p q (x := u) (by simpa using hu) fun h' p' sb => hQ u _ ⟨_, List.getElem?_eq_getElem hi, ru⟩ ⟨p', its, Heap.IsList.at q fun o e => (sb.2 a ne).trans e, r⟩ ?_
    exact { heap := fun b o hb e => (sb.2 b (fun z => hb (List.mem_singleton.mpr z))).trans e, gens := rfl, drawn := rfl, os := rfl, toks := Nat.le_refl _ }
  done := fun s Q E ⟨p, its, q, r⟩ hQ => by
    have hl := r.length
    exact wpAny_pyNext_list_end hh p q (by simp; omega) fun h' eb => hQ _ { heap := fun b o hb e => eb b o (fun z => hb (List.mem_singleton.mpr z)) e, gens := rfl, drawn := rfl, os := rfl, toks := Nat.le_refl _ }
  self := fun i s Q E st h => wpAny_pyIter_listiter st.1 h
section
variable {X : Cx} {pins : List (Addr × Obj)} {σ : L2.St} {H : Hp} {s s1 s2 : Shared}
theorem inv_moved {S I : Addr} (J : Inv X pins σ H s1) (hm : Moved [S, I] (fun g g' => g' = g) s1 s2) (f1 : FpOk X pins H S) (f2 : FpOk X pins H I) : Inv X pins σ H s2 := by
  have cs : ∀ b, b ∈ [S, I] → FpOk X pins H b := fun b hb => by
    rcases List.mem_cons.mp hb with e | hb
    · rw [e]; exact f1
    · rw [List.mem_singleton.mp hb]; exact f2
  have no : ∀ b u, H b = some u → b ∉ [S, I] := fun b u e hb => by
    rw [(cs b hb).1] at e
    cases e
  have K := J.step (g' := s2.gens) (t' := s2.toks) (d' := s2.drawn) (h' := s2.heap) (H' := H) (ch := [S, I]) (fun b hb => ⟨(cs b hb).2.2.2.1, (cs b hb).2.1, (cs b hb).2.2.2.2.1, (cs b hb).2.2.2.2.2⟩)
    (fun b o _ _ hc e _ => hm.heap b o hc e) (fun b o _ _ hc e _ => ⟨o.slots, hm.heap b o hc e⟩) (fun _ _ _ _ n => n) (fun b o hc e => ⟨o, hm.heap b o hc e⟩) (fun _ _ e => e) (fun _ _ _ e => e) (fun b ps e => ⟨#[], by rw [e]; simp⟩)
    (fun m ⟨o, es, ep, ho, q⟩ => ⟨o, es, ep, hm.heap _ o (fun z => (cs _ z).2.1 rfl) ho, q⟩)
    (fun b u e => (J.hok b u e).stay (fun c v hc q => hm.heap c v (by
      rcases hc with z | z
      · rw [z]; exact no b u e
      · exact no c _ z) q) (fun _ q => q) fun _ _ q => q) (by rw [hm.gens]; exact J.bare)
  have e := hm.os
  cases s2
  cases e
  exact K
/-- what is asked of the key f: one run of it, whenever the heap is told by H -/
def KeyOk (X : Cx) (pins : List (Addr × Obj)) (σ : L2.St) (H : Hp) (f : Addr) (fo : Obj) (xs : List V) (kf : Nat → Int) : Prop :=
  ∀ (s : Shared), Inv X pins σ H s → s.heap.get? f = some fo → ∀ i x u, xs[i]? = some x → RelV x u → ∀ E', wpAny (model X.prog X.w) X.A.in1 (call (.ref f) [u]) (CE X.stack X.prog X.w H s fun v H' => v = .int (kf i) ∧ H' = H) E' s
theorem key_runs {a f : Addr} {fo : Obj} {xs : List V} {kf : Nat → Int} {op : CmpOp} {bt : Nat → Nat → Bool} {o0 : Obj} (hop : ∀ i j t1 t2 (s : Shared) (Q E : Value → Shared → Prop), Q (.bool (bt i j)) s → wpAny (model X.prog X.w) X.A.in1 (richCompare op (.int (kf i) t1) (.int (kf j) t2)) Q E s)
    (I : Inv X pins σ H s) (hl : SqL X.K H a xs) (hf : s.heap.get? f = some fo) (hn : H f = none) (hr : f ∉ frs X.stack) (K : KeyOk X pins σ H f fo xs kf) (ne : a ≠ s.heap.objs.size) :
    KeyRun X.prog X.w X.A.in1 (.ref f) op (s.heap.push o0).objs.size [s.heap.objs.size] (fun g g' => g' = g) xs.length (fun i v => ∃ x, xs[i]? = some x ∧ RelV x v)
      (fun i s1 => s1.heap.IsListIter s.heap.objs.size a i ∧ ∃ its : List Value, s1.heap.IsList a its.toArray ∧ Vals xs its) (fun s1 => Inv X pins σ H s1 ∧ s1.heap.get? f = some fo) (fun i k _ => ∃ t, k = .int (kf i) t) bt := by
  have hsz : s.heap.objs.size ≤ (s.heap.push o0).objs.size := by rw [Heap.size_push]; omega
  have fS := I.fpOk (H' := H) hsz (I.hok.fresh hsz)
  have fI := I.fpOk (H' := H) (Nat.le_refl _) (I.hok.fresh (Nat.le_refl _))
  have nf : ∀ b, s.heap.objs.size ≤ b → b ∉ frs X.stack := fun b hb z => by
    rcases List.mem_cons.mp (I.stkSub b z) with e | e
    · have q := I.lt
      rw [← e] at q
      exact Nat.lt_irrefl _ (Nat.lt_of_lt_of_le q hb)
    · exact I.nofs hb e
  have lf := Heap.lt_size hf
  refine { keep := fun s1 s2 ⟨J, g⟩ hm => ⟨inv_moved J hm fS fI, hm.heap f fo (fun z => ?_) g⟩, keepV := fun _ _ _ _ q _ => q, turn := ?_, cmp := ?_ }
  · rcases List.mem_cons.mp z with e | e
    · exact Nat.lt_irrefl _ (Nat.lt_of_lt_of_le (e ▸ lf) hsz)
    · rw [List.mem_singleton.mp e] at lf
      exact Nat.lt_irrefl _ lf
  · intro i v s1 o Q E hi ⟨x, hx, rx⟩ ⟨J, g⟩ ⟨p, _⟩ hS hQ
    refine wpAny_mono (K s1 J g i x v hx rx E) (fun u s' ce => ?_) fun _ _ z => z
    have kp : ∀ b o, H b = none → b ∉ frs X.stack → s1.heap.get? b = some o → s'.heap.get? b = some o := by
      obtain ⟨v', H', _, _, un, _, _, _, _⟩ := ce
      exact fun b o n1 n2 e => un.keep b o e n1 n2 (by simp)
    obtain ⟨v', H', J', rv, e1, e2⟩ := J.after ce
    rw [e2] at J'
    rw [e1] at rv
    obtain ⟨its, rl, hli, _⟩ := J'.list hl
    exact hQ u s' ⟨J', kp f fo hn hr g⟩ ⟨p.at fun o e => kp _ o fI.1 (nf _ (Nat.le_refl _)) e, its, hli.isList, rl⟩ (kp _ o fS.1 (nf _ hsz) hS) rv fun _ _ z => z
  · intro i j ki kj s1 Q E _ ⟨t1, e1⟩ ⟨t2, e2⟩ q
    subst e1 e2
    exact hop i j t1 t2 s1 Q E q
theorem call_minK {a f : Addr} {fo : Obj} {xs : List V} {kf : Nat → Int} {dv : V} {d : Value} {Q : VK} {E' : Value → Shared → Prop} (hh : X.A.handled = none) (I : Inv X pins σ H s) (hl : SqL X.K H a xs) (hf : s.heap.get? f = some fo) (hn : H f = none) (hr : f ∉ frs X.stack) (K : KeyOk X pins σ H f fo xs kf) (rd : RelV dv d)
    (h0 : xs = [] → Q dv H) (h1 : ∀ x, xs[argBest (fun i j => decide (kf i < kf j)) (xs.length - 1)]? = some x → Q x H) :
    wpAny (model X.prog X.w) X.A (call (.builtin "min") [.ref a] [(Str.ofString "key", .ref f), (Str.ofString "default", d)]) (EP X pins σ Q) E' s := by
  obtain ⟨its, rv, hli, _⟩ := I.list hl
  refine call_min_walkKD (iter_anyList hli.isList fun s2 e st hfp ne => ?_)
  subst e
  have J : Inv X pins σ H { s with heap := s.heap.push { cls := .type "list_iterator", data := .fields #[.ref a, .int 0 0] } } := I.kept (t' := s.toks) fun b o e => Heap.get?_push_of_some _ e
  refine ⟨_, _, _, _, _, _, _, _, _, _, rfl, walk_lst (A := X.A.in1) hh _ a ne xs, ⟨st.1, its, st.2, rv⟩, hfp, key_runs (fun i j t1 t2 s1 Q E q => PyProof.Rows.lt_int q) I hl hf hn hr K ne, ⟨J, Heap.get?_push_of_some _ hf⟩, fun e s' j => ?_, fun _ v s' ⟨x, hx, rx⟩ j => ⟨x, H, j.1, rx, h1 x hx⟩⟩
  exact ⟨dv, H, j.1, rd, h0 (List.length_eq_zero_iff.mp e)⟩
theorem call_maxK {a f : Addr} {fo : Obj} {xs : List V} {kf : Nat → Int} {dv : V} {d : Value} {Q : VK} {E' : Value → Shared → Prop} (hh : X.A.handled = none) (I : Inv X pins σ H s) (hl : SqL X.K H a xs) (hf : s.heap.get? f = some fo) (hn : H f = none) (hr : f ∉ frs X.stack) (K : KeyOk X pins σ H f fo xs kf) (rd : RelV dv d)
    (h0 : xs = [] → Q dv H) (h1 : ∀ x, xs[argBest (fun i j => decide (kf j < kf i)) (xs.length - 1)]? = some x → Q x H) :
    wpAny (model X.prog X.w) X.A (call (.builtin "max") [.ref a] [(Str.ofString "key", .ref f), (Str.ofString "default", d)]) (EP X pins σ Q) E' s := by
  obtain ⟨its, rv, hli, _⟩ := I.list hl
  refine call_max_walkKD (iter_anyList hli.isList fun s2 e st hfp ne => ?_)
  subst e
  have J : Inv X pins σ H { s with heap := s.heap.push { cls := .type "list_iterator", data := .fields #[.ref a, .int 0 0] } } := I.kept (t' := s.toks) fun b o e => Heap.get?_push_of_some _ e
  refine ⟨_, _, _, _, _, _, _, _, _, _, rfl, walk_lst (A := X.A.in1) hh _ a ne xs, ⟨st.1, its, st.2, rv⟩, hfp, key_runs (fun i j t1 t2 s1 Q E q => PyProof.Rows.gt_int q) I hl hf hn hr K ne, ⟨J, Heap.get?_push_of_some _ hf⟩, fun e s' j => ?_, fun _ v s' ⟨x, hx, rx⟩ j => ⟨x, H, j.1, rx, h1 x hx⟩⟩
  exact ⟨dv, H, j.1, rd, h0 (List.length_eq_zero_iff.mp e)⟩
end
end K14
set_option maxHeartbeats 1000000
/-! min(xs, key=lambda x: .., default=None), max(..) as written in a def -/
namespace K14
open PySem PySem.Spec PyProof.Rows L2 LamX
def solo (vs : List V) (p : V → Prop) : Prop := match vs with
  | [v] => p v
  | _ => False
theorem solo_of {vs : List V} {p : V → Prop} (h : solo vs p) : ∃ v, vs = [v] ∧ p v := by
  match vs, h with
  | [v], h => exact ⟨v, rfl, h⟩
def restMinK (T : List (Addr × Str)) (tb : TE) (j : Nat) (σ : L2.St) (Q : VK) (x : V) (H1 : Hp) : Prop := Tabs T H1 ∧ ∃ a xs, x = .ref a ∧ H1 a = some (.lst xs) ∧ ∀ H2, ExtN H1 H2 → Tabs T H2 →
  ∃ kf : Nat → Int, (∀ i y, xs[i]? = some y → tb (σ.set j (some y)) H2 fun v H3 => v = .int (kf i) ∧ H3 = H2) ∧ (xs = [] → Q .non H2) ∧ ∀ y, xs[argBest (fun i j => decide (kf i < kf j)) (xs.length - 1)]? = some y → Q y H2
def tMinK (T : List (Addr × Str)) (te tb : TE) (j : Nat) : TE := fun σ H Q => te σ H fun x H1 => restMinK T tb j σ Q x H1
theorem pe_minK {X : Cx} {T : List (Addr × Str)} {params : Arguments} {body : Expr} {scope : Scope} {te tb : TE} {x y : Str} {j k cj : Nat} {c P : Addr} {p py pos lpos cp kp1 kp2 : Pos} (hr : Room (k + 2) X.A) (hg : Gl X "min") (hm : X.mg "min" = none) (he : PE X (.Name y py) te)
    (TB : TabB X.base X.mg c P) (hcode : X.env.code = .ref c) (hmT : (P, X.env.qual ++ "<lambda>") ∈ T) (hu : ∀ p ∈ T, p.1 = P → p.2 = X.env.qual ++ "<lambda>") (L : Lam1 X.env.scope scope x) (hdef : defaultsOf params X.env = ([], [])) (hN : X.N.Nodup) (hj : X.N[j]? = some x)
    (hbind : ∀ (q : Str) (cl : List (Str × Addr)) (pm cv ctv u : Value), bindArgs (PySem.W.kla_fn "<lambda>" q params body scope cl pm cv ctv) ⟨[u], []⟩ = pure [(x, u)])
    (hbody : ∀ (A : Around) (s : Shared) (H : Hp) (f c' : Addr), Room k (A.deeper (lamEnv X scope s.heap.objs.size f c')) → PE (lamCx X A X.stack s H C8.E0 scope f c') body tb)
    (hv : bootBuiltins "min" = some (.builtin "min") := by rfl) :
    PE X (.Call (.Name "min" p) [.Name y py] [⟨some "key", .Lambda params body scope lpos, kp1⟩, ⟨some "default", .Constant .none cj cp, kp2⟩] pos) (tMinK T te tb j) := by
  refine ⟨fun pins s σ H Q I h => ?_⟩
  refine wpAny_Call_Name_kw (ld_blt I hg hm hv ?_ (by decide) (by decide))
  have ha : PA X [.Name y py] (tCons te tNil) := pa_cons he pa_nil
  refine PyProof.Rows.callWith_kw (thn (ha.run pos pins s σ H (fun vs H1 => solo vs fun v => restMinK T tb j σ Q v H1) I h) fun us s1 ⟨vs, H1, I1, r1, q0⟩ => ?_) rfl rfl rfl rfl
  obtain ⟨v0, rfl, hT, a, xs, ea, hl, q1⟩ := solo_of q0
  subst ea
  obtain ⟨u0, rfl, ru⟩ := vals1 r1
  cases ru
  show wpAny _ _ (evalAll [(do let v ← eval (.Lambda params body scope lpos) X.env; standAt pos; pure v), (do let v ← eval (.Constant .none cj cp) X.env; standAt pos; pure v)]) _ _ s1
  refine wpAny_evalAll_cons (wpAny_bind (lam_make2 I1 TB hcode hmT hu hT hdef (fun y hy e => L.caught I1.ok (show (y.1, NameKind.free) ∈ _ by rw [← e]; exact hy)) fun f c' pm ctv H2 s2 I2 eN T2 hf hfn hfr hco => wpAny_bind (wpAny_standAt (wpAny_pure ?_))))
  refine wpAny_evalAll_cons (wpAny_bind (Constant_none (wpAny_bind (wpAny_standAt (wpAny_pure (wpAny_evalAll_nil ?_))))))
  obtain ⟨kf, k1, k2, k3⟩ := q1 H2 eN T2
  have hl2 : SqL X.K H2 a xs := Or.inl (Or.inl (eN _ _ hl (fun ps z => by cases z)))
  exact call_minK hr.hd I2 hl2 hf hfn hfr (fun s3 J g i y u hy ry E' => key_run J hr L hN hj g hco (hbind _ _ _ _ _) (fun A s H q => hbody A s H f c' q) ry (k1 i y hy)) (dv := .non) rfl k2 k3
def restMaxK (T : List (Addr × Str)) (tb : TE) (j : Nat) (σ : L2.St) (Q : VK) (x : V) (H1 : Hp) : Prop := Tabs T H1 ∧ ∃ a xs, x = .ref a ∧ H1 a = some (.lst xs) ∧ ∀ H2, ExtN H1 H2 → Tabs T H2 →
  ∃ kf : Nat → Int, (∀ i y, xs[i]? = some y → tb (σ.set j (some y)) H2 fun v H3 => v = .int (kf i) ∧ H3 = H2) ∧ (xs = [] → Q .non H2) ∧ ∀ y, xs[argBest (fun i j => decide (kf j < kf i)) (xs.length - 1)]? = some y → Q y H2
def tMaxK (T : List (Addr × Str)) (te tb : TE) (j : Nat) : TE := fun σ H Q => te σ H fun x H1 => restMaxK T tb j σ Q x H1
theorem pe_maxK {X : Cx} {T : List (Addr × Str)} {params : Arguments} {body : Expr} {scope : Scope} {te tb : TE} {x y : Str} {j k cj : Nat} {c P : Addr} {p py pos lpos cp kp1 kp2 : Pos} (hr : Room (k + 2) X.A) (hg : Gl X "max") (hm : X.mg "max" = none) (he : PE X (.Name y py) te)
    (TB : TabB X.base X.mg c P) (hcode : X.env.code = .ref c) (hmT : (P, X.env.qual ++ "<lambda>") ∈ T) (hu : ∀ p ∈ T, p.1 = P → p.2 = X.env.qual ++ "<lambda>") (L : Lam1 X.env.scope scope x) (hdef : defaultsOf params X.env = ([], [])) (hN : X.N.Nodup) (hj : X.N[j]? = some x)
    (hbind : ∀ (q : Str) (cl : List (Str × Addr)) (pm cv ctv u : Value), bindArgs (PySem.W.kla_fn "<lambda>" q params body scope cl pm cv ctv) ⟨[u], []⟩ = pure [(x, u)])
    (hbody : ∀ (A : Around) (s : Shared) (H : Hp) (f c' : Addr), Room k (A.deeper (lamEnv X scope s.heap.objs.size f c')) → PE (lamCx X A X.stack s H C8.E0 scope f c') body tb)
    (hv : bootBuiltins "max" = some (.builtin "max") := by rfl) :
    PE X (.Call (.Name "max" p) [.Name y py] [⟨some "key", .Lambda params body scope lpos, kp1⟩, ⟨some "default", .Constant .none cj cp, kp2⟩] pos) (tMaxK T te tb j) := by
  refine ⟨fun pins s σ H Q I h => ?_⟩
  refine wpAny_Call_Name_kw (ld_blt I hg hm hv ?_ (by decide) (by decide))
  have ha : PA X [.Name y py] (tCons te tNil) := pa_cons he pa_nil
  refine PyProof.Rows.callWith_kw (thn (ha.run pos pins s σ H (fun vs H1 => solo vs fun v => restMaxK T tb j σ Q v H1) I h) fun us s1 ⟨vs, H1, I1, r1, q0⟩ => ?_) rfl rfl rfl rfl
  obtain ⟨v0, rfl, hT, a, xs, ea, hl, q1⟩ := solo_of q0
  subst ea
  obtain ⟨u0, rfl, ru⟩ := vals1 r1
  cases ru
  show wpAny _ _ (evalAll [(do let v ← eval (.Lambda params body scope lpos) X.env; standAt pos; pure v), (do let v ← eval (.Constant .none cj cp) X.env; standAt pos; pure v)]) _ _ s1
  refine wpAny_evalAll_cons (wpAny_bind (lam_make2 I1 TB hcode hmT hu hT hdef (fun y hy e => L.caught I1.ok (show (y.1, NameKind.free) ∈ _ by rw [← e]; exact hy)) fun f c' pm ctv H2 s2 I2 eN T2 hf hfn hfr hco => wpAny_bind (wpAny_standAt (wpAny_pure ?_))))
  refine wpAny_evalAll_cons (wpAny_bind (Constant_none (wpAny_bind (wpAny_standAt (wpAny_pure (wpAny_evalAll_nil ?_))))))
  obtain ⟨kf, k1, k2, k3⟩ := q1 H2 eN T2
  have hl2 : SqL X.K H2 a xs := Or.inl (Or.inl (eN _ _ hl (fun ps z => by cases z)))
  exact call_maxK hr.hd I2 hl2 hf hfn hfr (fun s3 J g i y u hy ry E' => key_run J hr L hN hj g hco (hbind _ _ _ _ _) (fun A s H q => hbody A s H f c' q) ry (k1 i y hy)) (dv := .non) rfl k2 k3
end K14
/-! would_rather, best_of, worst_of -/
namespace K14
open PySem PySem.Spec PyProof.Rows L2
structure TabT (T : List (Addr × Str)) (base : Heap) (mg : Str → Option Value) (c P : Addr) (q : Str) : Prop where
  B : LamX.TabB base mg c P
  mem : (P, q) ∈ T
  one : ∀ p ∈ T, p.1 = P → p.2 = q
abbrev lamQ (x : Str) : Str := (x ++ ".<locals>.") ++ "<lambda>"
def spWould (C : Addr) : Sp := fun vs H Q _ => ∃ (wi : Addr) (ns ls : List (List Nat)) (p : Nat) (o1 o2 : Option Nat), vs = [.ref wi, .int p, hv o1, hv o2] ∧ WAt C H wi ns ls ∧ p < ls.length ∧ (∀ j, o1 = some j → j ∈ la ls p) ∧ (∀ j, o2 = some j → j ∈ la ls p) ∧ Q (.bl (decide (rkN (la ls p) o1 < rkN (la ls p) o2))) H
theorem scWR : FnScope ["wishes", "person", "one", "other"] ["wishes", "person", "one", "other"] (defScope sWouldRather) := ⟨rfl, rfl, rfl, by decide +kernel, rfl, by decide +kernel, by decide +kernel⟩
/-- those of a lot that stand on a list -/
def onL (s lot : List Nat) : List Nat := lot.filter fun o => decide (o ∈ s)
/-- the first one of a lot on a list -/
def FirstOf (s lot : List Nat) (o : Option Nat) : Prop := (o = none ∧ onL s lot = []) ∨ ∃ x, o = some x ∧ x ∈ onL s lot ∧ ∀ y ∈ onL s lot, s.idxOf x ≤ s.idxOf y
def LastOf (s lot : List Nat) (o : Option Nat) : Prop := (o = none ∧ onL s lot = []) ∨ ∃ x, o = some x ∧ x ∈ onL s lot ∧ ∀ y ∈ onL s lot, s.idxOf y ≤ s.idxOf x
theorem arg_min (kf : Nat → Int) : ∀ j, argBest (fun i j => decide (kf i < kf j)) j ≤ j ∧ ∀ i, i ≤ j → kf (argBest (fun i j => decide (kf i < kf j)) j) ≤ kf i
  | 0 => ⟨Nat.le_refl _, fun i h => by rw [Nat.le_zero.mp h]; exact Int.le_refl _⟩
  | j + 1 => by
    obtain ⟨h1, h2⟩ := arg_min kf j
    simp only [argBest]
    split
    · rename_i c
      have c := of_decide_eq_true c
      refine ⟨Nat.le_refl _, fun i hi => ?_⟩
      rcases Nat.lt_or_ge i (j + 1) with z | z
      · have := h2 i (by omega); omega
      · rw [show i = j + 1 by omega]; exact Int.le_refl _
    · rename_i c
      have c : ¬ kf (j + 1) < kf _ := fun z => c (decide_eq_true z)
      refine ⟨by omega, fun i hi => ?_⟩
      rcases Nat.lt_or_ge i (j + 1) with z | z
      · exact h2 i (by omega)
      · rw [show i = j + 1 by omega]; omega
theorem arg_max (kf : Nat → Int) : ∀ j, argBest (fun i j => decide (kf j < kf i)) j ≤ j ∧ ∀ i, i ≤ j → kf i ≤ kf (argBest (fun i j => decide (kf j < kf i)) j)
  | 0 => ⟨Nat.le_refl _, fun i h => by rw [Nat.le_zero.mp h]; exact Int.le_refl _⟩
  | j + 1 => by
    obtain ⟨h1, h2⟩ := arg_max kf j
    simp only [argBest]
    split
    · rename_i c
      have c := of_decide_eq_true c
      refine ⟨Nat.le_refl _, fun i hi => ?_⟩
      rcases Nat.lt_or_ge i (j + 1) with z | z
      · have := h2 i (by omega); omega
      · rw [show i = j + 1 by omega]; exact Int.le_refl _
    · rename_i c
      have c : ¬ kf _ < kf (j + 1) := fun z => c (decide_eq_true z)
      refine ⟨by omega, fun i hi => ?_⟩
      rcases Nat.lt_or_ge i (j + 1) with z | z
      · exact h2 i (by omega)
      · rw [show i = j + 1 by omega]; omega
def spBestOf (C : Addr) (T : List (Addr × Str)) : Sp := fun vs H Q _ => ∃ (wi so : Addr) (ns ls : List (List Nat)) (p : Nat) (lot : List Nat), vs = [.ref wi, .int p, .ref so] ∧ WAt C H wi ns ls ∧ p < ls.length ∧ Tp H so (VI lot) ∧ lot.length ≤ 1000 ∧ (∀ o ∈ lot, o < ls.length) ∧ LamX.Tabs T H ∧
  ∀ o H', FirstOf (la ls p) lot o → LamX.ExtN H H' → LamX.Tabs T H' → Q (hv o) H'
theorem scBestOf : FnScope ["wishes", "person", "some", "ranks", "there", "other", "member"] ["wishes", "person", "some"] (defScope sBestOf) := ⟨rfl, rfl, rfl, by decide +kernel, rfl, by decide +kernel, by decide +kernel⟩
def spWorstOf (C : Addr) (T : List (Addr × Str)) : Sp := fun vs H Q _ => ∃ (wi so : Addr) (ns ls : List (List Nat)) (p : Nat) (lot : List Nat), vs = [.ref wi, .int p, .ref so] ∧ WAt C H wi ns ls ∧ p < ls.length ∧ Tp H so (VI lot) ∧ lot.length ≤ 1000 ∧ (∀ o ∈ lot, o < ls.length) ∧ LamX.Tabs T H ∧
  ∀ o H', LastOf (la ls p) lot o → LamX.ExtN H H' → LamX.Tabs T H' → Q (hv o) H'
theorem scWorstOf : FnScope ["wishes", "person", "some", "ranks", "there", "other", "member"] ["wishes", "person", "some"] (defScope sWorstOf) := ⟨rfl, rfl, rfl, by decide +kernel, rfl, by decide +kernel, by decide +kernel⟩
section
variable {P : Program} {w : World} {K : PySem.W.Frag} {mg : Str → Option Value} {base : Heap} {Tb : List (Addr × Str)}
/-- a def whose code object is known -/
theorem okC {x qual : Str} {st : Stmt} {f c : Addr} {fd : FuncData} {N ps : List Str} {k : Nat} {sp : Sp} (F : Fun K x qual st f fd) (hc : fd.code = .ref c) (S : FnScope N ps (defScope st)) (len : ∀ vs H Q E, sp vs H Q E → vs.length = ps.length)
    (hbody : ∀ (A : Around) (outer : List Env) (s : Shared) (H : Hp) (vs : List V) (Q : VK) (E : XK), Room k (A.deeper (envOfC qual (defScope st) s.heap.objs.size f (.ref c))) → sp vs H Q E →
      ∃ t, PSs (cxOf CX0 P w K mg base N qual (defScope st) f (.ref c) A outer s H E).nox (defBody st) t ∧ t { nx := fun _ H' => Q .non H', rt := Q } (start N vs) H) : FnOk P w K mg base CX0 (k + 1) f fd ps sp := by
  obtain ⟨oc, od, kV, doc, pm, an, cdv, ct, osl, rfl, lk, hcd⟩ := F.ex
  have e : cdv = .ref c := hc
  subst e
  exact fn_of lk hcd S len fun A outer s H vs Q E hr hsp => (hbody A outer s H vs Q E hr hsp).imp fun t z => ⟨z.1.nox, z.2⟩
theorem ok_would_rather {f f1 C : Addr} {fd d1 : FuncData} {k : Nat} (F : Fun K "would_rather" "would_rather" sWouldRather f fd) (Rk : Has P w K mg base k "rank_of" ["wishes", "person", "other"] (spRankOf C) f1 d1) : FnOk P w K mg base CX0 (k + 1) f fd ["wishes", "person", "one", "other"] (spWould C) := by
  refine F.ok scWR (fun vs H Q E h => ?_) (fun cdv A outer s H vs Q E hr h => ?_)
  · obtain ⟨wi, ns, ls, p, o1, o2, rfl, _⟩ := h
    rfl
  · obtain ⟨wi, ns, ls, p, o1, o2, rfl, W, hp, m1, m2, q⟩ := h
    refine ⟨_, pss_one (ps_ret (pe_cmpR op_lt (pe_call Rk.ok hr rfl Rk.m Rk.k Rk.b .nil pass0 (pa_cons (pv 0) (pa_cons (pv 1) (pa_cons (pv 2) pa_nil)))) (pe_call Rk.ok hr rfl Rk.m Rk.k Rk.b .nil pass0 (pa_cons (pv 0) (pa_cons (pv 1) (pa_cons (pv 3) pa_nil)))) (nomark _))), ?_⟩
    have lt : ∀ {o : Option Nat}, (∀ j, o = some j → j ∈ la ls p) → ∀ j, o = some j → j < ls.length := fun m j e => (W.ok.mate hp (m j e)).1
    refine ⟨_, rfl, _, rfl, _, rfl, wi, ns, ls, p, o1, rfl, W, hp, lt m1, ?_⟩
    refine ⟨_, rfl, _, rfl, _, rfl, wi, ns, ls, p, o2, rfl, W, hp, lt m2, ?_⟩
    rw [rkO_N m1, rkO_N m2]
    refine ⟨_, _, rfl, rfl, ?_⟩
    show Q (.bl (decide (((rkN (la ls p) o1 : Nat) : Int) < (rkN (la ls p) o2 : Nat)))) H
    rw [show decide (((rkN (la ls p) o1 : Nat) : Int) < (rkN (la ls p) o2 : Nat)) = decide (rkN (la ls p) o1 < rkN (la ls p) o2) by rw [decide_eq_decide]; omega]
    exact q
theorem ok_best_of {f C c PT : Addr} {fd : FuncData} {k : Nat} (F : Fun K "best_of" "best_of" sBestOf f fd) (hc : fd.code = .ref c) (T : Txt K mg C) (TB : TabT Tb base mg c PT (lamQ "best_of")) (mmin : mg "min" = none) : FnOk P w K mg base CX0 (k + 3) f fd ["wishes", "person", "some"] (spBestOf C Tb) := by
  refine okC F hc scBestOf (fun vs H Q E h => ?_) (fun A outer s H vs Q E hr h => ?_)
  · obtain ⟨wi, so, ns, ls, p, lot, rfl, _⟩ := h
    rfl
  obtain ⟨wi, so, ns, ls, p, lot, rfl, W, hp, hso, ll, hl, tb, q⟩ := h
  refine ⟨_, pss_cons (ps_set (i := 3) scBestOf.nd rfl (.inr rfl) (pe_ix ix_tup (pe_fld (pv 0) rfl) (pv 1) (fun _ _ => rfl)))
      (pss_cons (ps_setLc (i := 4) (own := [("other", 5)]) (g := gName 5) (tt := tTest (tOp rNotN (tOp (rIxT K) (tVar 3) (tVar 5)) (tC .non))) (te := tVar 5) rfl scBestOf.nd rfl rfl (sw_true rfl rfl rfl (by decide +kernel)) (pi_tup (pv 2))
          (blkOk_by (own := [("other", 5)]) (N := ["wishes", "person", "some", "ranks", "there", "other", "member"]) (sc := defScope sBestOf) (by decide +kernel)) (fun _ _ _ _ _ => (pg_name (i := 5) scBestOf.nd rfl (Or.inl rfl))) (fun _ _ _ _ _ => (pts_one (pt_cmpR op_notN (pe_ix ix_tup (pv 3) (pv 5) (fun _ _ => rfl)) pe_non (nomark _))))
          (fun _ _ _ _ _ => (pv 5)))
      (pss_one (ps_ret (pe_minK (tb := tOp (rIxT K) (tVar 3) (tVar 6)) (x := "member") (j := 6) hr rfl mmin (pv 4) TB.B rfl TB.mem TB.one (lam1_by (sc := defScope sBestOf) (by decide +kernel)) rfl scBestOf.nd rfl (fun _ _ _ _ _ _ => rfl) (fun _ _ _ _ _ _ => (pe_ix ix_tup (pv 3) (pv 6) (fun _ _ => rfl))))))), ?_⟩
  obtain ⟨dx, n, l, r, e1, e2, e3, e4⟩ := W.ex
  obtain ⟨rows, c0, er, ec, ev⟩ := e4.at (la_get hp)
  refine ⟨_, rfl, wi, C, dx, _, _, rfl, e1, T.cl, T.nR, wf_ranks n l r, _, rfl, r, rows, _, _, rfl, rfl, SqT.of er, atI_nat ec, ?_⟩
  dsimp only [List.set, L2.start]
  refine ⟨_, rfl, so, rfl, ⟨_, Tp.sq hso⟩, fun D nD => ?_⟩
  refine lc_sel (walk_tup (K := K) (a := so) (xs := VI lot)) (by rw [VI_len]; omega) (VI lot) (fV fun o => decide (o ∈ la ls p)) rfl nD (fun _ sm => Tp.sq (hso.same sm)) ?_ ?_
  · rintro m x H5 H6 R Z yes' no' hm sm ⟨rfl, ex⟩
    rw [VI_len] at hm
    have ex2 : (VI lot)[m]? = some x := ex
    rw [VI_get (List.getElem?_eq_getElem hm)] at ex2
    cases ex2
    have hin := hl _ (List.getElem_mem hm)
    rw [VI_getD hm] at yes' no'
    refine gn ⟨rfl, _, rfl, _, rfl, c0, _, _, _, rfl, rfl, SqT.of (sm _ _ ev), atI_nat (VR_get hin), rfl, decide (lot[m] ∈ la ls p), congrArg V.bl ?_, ?_⟩
    · unfold rkV
      split
      · rename_i h
        rw [decide_eq_true h]
        rfl
      · rename_i h
        rw [decide_eq_false h]
        rfl
    · refine ite2 (fun c => ?_) (fun c => ?_)
      · exact ⟨_, rfl, yes' _ same_rfl (show decide _ = true from c)⟩
      · exact no' _ same_rfl (show decide _ = false from decide_eq_false (fun h => c (decide_eq_true h)))
  · intro H1 s1 eD
    rw [VI_filter] at eD
    have eD : H1 D = some (.lst (VI (onL (la ls p) lot))) := eD
    refine gn ?_
    dsimp only [List.set]
    refine ⟨_, rfl, tb.ext s1, D, _, rfl, eD, fun H2 x2 t2 => ?_⟩
    have xx : LamX.ExtN H H2 := (LamX.ExtN.of s1).trans x2
    have mem : ∀ {i : Nat} {y : V}, (VI (onL (la ls p) lot))[i]? = some y → ∃ o, (onL (la ls p) lot)[i]? = some o ∧ y = V.int (o : Nat) ∧ o < ls.length ∧ o ∈ la ls p := fun {i y} e => by
      unfold VI at e
      rw [List.getElem?_map] at e
      cases e3 : (onL (la ls p) lot)[i]? with
      | none => rw [e3] at e; cases e
      | some o =>
        rw [e3] at e
        have m := List.mem_of_getElem? e3
        unfold onL at m
        obtain ⟨m1, m2⟩ := List.mem_filter.mp m
        exact ⟨o, rfl, (Option.some.inj e).symm, hl o m1, of_decide_eq_true m2⟩
    refine ⟨fun i => (((la ls p).idxOf ((onL (la ls p) lot).getD i 0) : Nat) : Int), fun i y e => ?_, fun e => ?_, fun y e => ?_⟩
    · obtain ⟨o, e3, rfl, ol, om⟩ := mem e
      refine ⟨_, rfl, _, rfl, c0, _, _, _, rfl, rfl, SqT.of (xx _ _ ev fun _ z => by cases z), atI_nat (VR_get ol), ?_, rfl⟩
      show rkV (la ls p) o = V.int (((la ls p).idxOf ((onL (la ls p) lot).getD i 0) : Nat) : Int)
      rw [List.getD_eq_getElem?_getD, e3]
      unfold rkV
      rw [if_pos om]
      rfl
    · have e : onL (la ls p) lot = [] := List.map_eq_nil_iff.mp e
      exact q none H2 (.inl ⟨rfl, e⟩) xx t2
    · obtain ⟨o, e3, rfl, ol, om⟩ := mem e
      refine q (some o) H2 (.inr ⟨o, rfl, List.mem_of_getElem? e3, fun y hy => ?_⟩) xx t2
      obtain ⟨i, hi, ey⟩ := List.getElem_of_mem hy
      have := (arg_min (fun i => (((la ls p).idxOf ((onL (la ls p) lot).getD i 0) : Nat) : Int)) ((onL (la ls p) lot).length - 1)).2 i (by omega)
      rw [VI_len] at e3
      have g1 : ∀ {j z : Nat}, (onL (la ls p) lot)[j]? = some z → (onL (la ls p) lot).getD j 0 = z := fun e => by
        rw [List.getD_eq_getElem?_getD, e]
        rfl
      have g2 := g1 ((List.getElem?_eq_getElem hi).trans (congrArg some ey))
      rw [g1 e3, g2] at this
      exact Int.ofNat_le.mp this
theorem ok_worst_of {f C c PT : Addr} {fd : FuncData} {k : Nat} (F : Fun K "worst_of" "worst_of" sWorstOf f fd) (hc : fd.code = .ref c) (T : Txt K mg C) (TB : TabT Tb base mg c PT (lamQ "worst_of")) (mmax : mg "max" = none) : FnOk P w K mg base CX0 (k + 3) f fd ["wishes", "person", "some"] (spWorstOf C Tb) := by
  refine okC F hc scWorstOf (fun vs H Q E h => ?_) (fun A outer s H vs Q E hr h => ?_)
  · obtain ⟨wi, so, ns, ls, p, lot, rfl, _⟩ := h
    rfl
  obtain ⟨wi, so, ns, ls, p, lot, rfl, W, hp, hso, ll, hl, tb, q⟩ := h
  refine ⟨_, pss_cons (ps_set (i := 3) scWorstOf.nd rfl (.inr rfl) (pe_ix ix_tup (pe_fld (pv 0) rfl) (pv 1) (fun _ _ => rfl)))
      (pss_cons (ps_setLc (i := 4) (own := [("other", 5)]) (g := gName 5) (tt := tTest (tOp rNotN (tOp (rIxT K) (tVar 3) (tVar 5)) (tC .non))) (te := tVar 5) rfl scWorstOf.nd rfl rfl (sw_true rfl rfl rfl (by decide +kernel)) (pi_tup (pv 2))
          (blkOk_by (own := [("other", 5)]) (N := ["wishes", "person", "some", "ranks", "there", "other", "member"]) (sc := defScope sWorstOf) (by decide +kernel)) (fun _ _ _ _ _ => (pg_name (i := 5) scWorstOf.nd rfl (Or.inl rfl))) (fun _ _ _ _ _ => (pts_one (pt_cmpR op_notN (pe_ix ix_tup (pv 3) (pv 5) (fun _ _ => rfl)) pe_non (nomark _))))
          (fun _ _ _ _ _ => (pv 5)))
      (pss_one (ps_ret (pe_maxK (tb := tOp (rIxT K) (tVar 3) (tVar 6)) (x := "member") (j := 6) hr rfl mmax (pv 4) TB.B rfl TB.mem TB.one (lam1_by (sc := defScope sWorstOf) (by decide +kernel)) rfl scWorstOf.nd rfl (fun _ _ _ _ _ _ => rfl) (fun _ _ _ _ _ _ => (pe_ix ix_tup (pv 3) (pv 6) (fun _ _ => rfl))))))), ?_⟩
  obtain ⟨dx, n, l, r, e1, e2, e3, e4⟩ := W.ex
  obtain ⟨rows, c0, er, ec, ev⟩ := e4.at (la_get hp)
  refine ⟨_, rfl, wi, C, dx, _, _, rfl, e1, T.cl, T.nR, wf_ranks n l r, _, rfl, r, rows, _, _, rfl, rfl, SqT.of er, atI_nat ec, ?_⟩
  dsimp only [List.set, L2.start]
  refine ⟨_, rfl, so, rfl, ⟨_, Tp.sq hso⟩, fun D nD => ?_⟩
  refine lc_sel (walk_tup (K := K) (a := so) (xs := VI lot)) (by rw [VI_len]; omega) (VI lot) (fV fun o => decide (o ∈ la ls p)) rfl nD (fun _ sm => Tp.sq (hso.same sm)) ?_ ?_
  · rintro m x H5 H6 R Z yes' no' hm sm ⟨rfl, ex⟩
    rw [VI_len] at hm
    have ex2 : (VI lot)[m]? = some x := ex
    rw [VI_get (List.getElem?_eq_getElem hm)] at ex2
    cases ex2
    have hin := hl _ (List.getElem_mem hm)
    rw [VI_getD hm] at yes' no'
    refine gn ⟨rfl, _, rfl, _, rfl, c0, _, _, _, rfl, rfl, SqT.of (sm _ _ ev), atI_nat (VR_get hin), rfl, decide (lot[m] ∈ la ls p), congrArg V.bl ?_, ?_⟩
    · unfold rkV
      split
      · rename_i h
        rw [decide_eq_true h]
        rfl
      · rename_i h
        rw [decide_eq_false h]
        rfl
    · refine ite2 (fun c => ?_) (fun c => ?_)
      · exact ⟨_, rfl, yes' _ same_rfl (show decide _ = true from c)⟩
      · exact no' _ same_rfl (show decide _ = false from decide_eq_false (fun h => c (decide_eq_true h)))
  · intro H1 s1 eD
    rw [VI_filter] at eD
    have eD : H1 D = some (.lst (VI (onL (la ls p) lot))) := eD
    refine gn ?_
    dsimp only [List.set]
    refine ⟨_, rfl, tb.ext s1, D, _, rfl, eD, fun H2 x2 t2 => ?_⟩
    have xx : LamX.ExtN H H2 := (LamX.ExtN.of s1).trans x2
    have mem : ∀ {i : Nat} {y : V}, (VI (onL (la ls p) lot))[i]? = some y → ∃ o, (onL (la ls p) lot)[i]? = some o ∧ y = V.int (o : Nat) ∧ o < ls.length ∧ o ∈ la ls p := fun {i y} e => by
      unfold VI at e
      rw [List.getElem?_map] at e
      cases e3 : (onL (la ls p) lot)[i]? with
      | none => rw [e3] at e; cases e
      | some o =>
        rw [e3] at e
        have m := List.mem_of_getElem? e3
        unfold onL at m
        obtain ⟨m1, m2⟩ := List.mem_filter.mp m
        exact ⟨o, rfl, (Option.some.inj e).symm, hl o m1, of_decide_eq_true m2⟩
    refine ⟨fun i => (((la ls p).idxOf ((onL (la ls p) lot).getD i 0) : Nat) : Int), fun i y e => ?_, fun e => ?_, fun y e => ?_⟩
    · obtain ⟨o, e3, rfl, ol, om⟩ := mem e
      refine ⟨_, rfl, _, rfl, c0, _, _, _, rfl, rfl, SqT.of (xx _ _ ev fun _ z => by cases z), atI_nat (VR_get ol), ?_, rfl⟩
      show rkV (la ls p) o = V.int (((la ls p).idxOf ((onL (la ls p) lot).getD i 0) : Nat) : Int)
      rw [List.getD_eq_getElem?_getD, e3]
      unfold rkV
      rw [if_pos om]
      rfl
    · have e : onL (la ls p) lot = [] := List.map_eq_nil_iff.mp e
      exact q none H2 (.inl ⟨rfl, e⟩) xx t2
    · obtain ⟨o, e3, rfl, ol, om⟩ := mem e
      refine q (some o) H2 (.inr ⟨o, rfl, List.mem_of_getElem? e3, fun y hy => ?_⟩) xx t2
      obtain ⟨i, hi, ey⟩ := List.getElem_of_mem hy
      have := (arg_max (fun i => (((la ls p).idxOf ((onL (la ls p) lot).getD i 0) : Nat) : Int)) ((onL (la ls p) lot).length - 1)).2 i (by omega)
      rw [VI_len] at e3
      have g1 : ∀ {j z : Nat}, (onL (la ls p) lot)[j]? = some z → (onL (la ls p) lot).getD j 0 = z := fun e => by
        rw [List.getD_eq_getElem?_getD, e]
        rfl
      have g2 := g1 ((List.getElem?_eq_getElem hi).trans (congrArg some ey))
      rw [g1 e3, g2] at this
      exact Int.ofNat_le.mp this
end
end K14
/-! rows of pairs, sorted-/
namespace K14
open PySem PySem.Spec PyProof.Rows L2
def RsT (H : Hp) (us : List Addr) (rows : List (List Nat)) : Prop := us.length = rows.length ∧ ∀ (j : Nat) (u : Addr) (r : List Nat), us[j]? = some u → rows[j]? = some r → H u = some (.tup (VI r))
theorem RsT.same {H H' : Hp} {us : List Addr} {rows : List (List Nat)} (t : RsT H us rows) (s : Same H H') : RsT H' us rows := ⟨t.1, fun j u r e1 e2 => s _ _ (t.2 j u r e1 e2)⟩
theorem RsT.nil {H : Hp} : RsT H [] [] := ⟨rfl, fun _ _ _ e => by simp at e⟩
theorem RsT.put {H : Hp} {D : Addr} {xs : List V} {o : HO} {us : List Addr} {rows : List (List Nat)} (t : RsT H us rows) (e : H D = some (.lst xs)) : RsT (upd H D o) us rows := ⟨t.1, fun j u r e1 e2 => by
  have e3 := t.2 j u r e1 e2
  rw [upd_ne (fun z => by rw [z, e] at e3; cases e3)]
  exact e3⟩
theorem RsT.app {H : Hp} {us us' : List Addr} {rows rows' : List (List Nat)} (t : RsT H us rows) (t' : RsT H us' rows') : RsT H (us ++ us') (rows ++ rows') := by
  refine ⟨by rw [List.length_append, List.length_append, t.1, t'.1], fun j u r e1 e2 => ?_⟩
  by_cases c : j < us.length
  · rw [List.getElem?_append_left c] at e1
    rw [List.getElem?_append_left (by rw [← t.1]; exact c)] at e2
    exact t.2 j u r e1 e2
  · rw [List.getElem?_append_right (by omega)] at e1
    rw [List.getElem?_append_right (by rw [← t.1]; omega), ← t.1] at e2
    exact t'.2 _ u r e1 e2
theorem RsT.one {H : Hp} {u : Addr} {r : List Nat} (e : H u = some (.tup (VI r))) : RsT H [u] [r] := ⟨rfl, fun j v q e1 e2 => by
  rw [List.getElem?_singleton] at e1 e2
  split at e1
  · rename_i c
    subst c
    cases e1
    cases e2
    exact e
  · cases e1⟩
theorem RsT.at {H : Hp} {us : List Addr} {rows : List (List Nat)} {j : Nat} {x : V} (t : RsT H us rows) (e : (us.map V.ref)[j]? = some x) : ∃ u r, x = .ref u ∧ rows[j]? = some r ∧ H u = some (.tup (VI r)) := by
  rw [List.getElem?_map] at e
  cases h : us[j]? with
  | none => rw [h] at e; cases e
  | some u =>
    rw [h] at e
    have hj := (List.getElem?_eq_some_iff.mp h).1
    have hr : j < rows.length := by rw [← t.1]; exact hj
    exact ⟨u, rows[j], (Option.some.inj e).symm, List.getElem?_eq_getElem hr, t.2 j u _ h (List.getElem?_eq_getElem hr)⟩
/-- what a tuple of two numbers holds -/
def two (H : Hp) (x : V) : Int × Int := match x with
  | .ref t => match H t with
    | some (.tup [.int i, .int j]) => (i, j)
    | _ => (0, 0)
  | _ => (0, 0)
def rows2 (L : List (Nat × Nat)) : List (List Nat) := L.map fun x => [x.1, x.2]
theorem two_at {H : Hp} {t : Addr} {i j : Nat} (e : H t = some (.tup (VI [i, j]))) : two H (.ref t) = ((i : Int), (j : Int)) := by
  have e' : H t = some (.tup [.int (i : Nat), .int (j : Nat)]) := e
  unfold two
  simp only [e']
theorem sort_pairs {K : PySem.W.Frag} {H : Hp} {a : Addr} {us : List Addr} {L L' : List (Nat × Nat)} {Q : VK} (e : H a = some (.lst (us.map V.ref))) (t : RsT H us (rows2 L)) (pm : L'.Perm L) (asc : L'.Pairwise fun x y => x.1 < y.1 ∨ (x.1 = y.1 ∧ x.2 ≤ y.2))
    (q : ∀ us' p, H p = none → RsT H us' (rows2 L') → Q (.ref p) (upd H p (.lst (us'.map V.ref)))) : rSortedPO K [.ref a] H Q := by
  refine ⟨a, us.map V.ref, two H, rfl, SqL.of e, fun x hx => ?_, fun ys p so st np => ?_⟩
  · obtain ⟨j, hj, ej⟩ := List.mem_iff_getElem.mp hx
    obtain ⟨u, r, rfl, er, eu⟩ := t.at (by rw [List.getElem?_eq_getElem hj, ej])
    unfold rows2 at er
    rw [List.getElem?_map] at er
    cases el : L[j]? with
    | none => rw [el] at er; cases er
    | some y =>
      rw [el] at er
      cases er
      exact ⟨u, rfl, by rw [two_at eu]; exact eu⟩
  · have pys := st.perm
    -- the places, sorted
    have hys : ∃ us' : List Addr, ys = us'.map V.ref := by
      have all : ∀ y ∈ ys, ∃ u, y = V.ref u := fun y hy => by
        obtain ⟨u, _, rfl⟩ := List.mem_map.mp (pys.mem_iff.mp hy)
        exact ⟨u, rfl⟩
      clear so st pys
      induction ys with
      | nil => exact ⟨[], rfl⟩
      | cons y r ih =>
        obtain ⟨u, rfl⟩ := all y (by simp)
        obtain ⟨w, hw⟩ := ih fun z hz => all z (by simp [hz])
        exact ⟨u :: w, by rw [hw]; rfl⟩
    obtain ⟨us', rfl⟩ := hys
    have c0 : (us.map V.ref).map (two H) = L.map fun x => ((x.1 : Int), (x.2 : Int)) := by
      apply List.ext_getElem?
      intro j
      rw [List.getElem?_map, List.getElem?_map, List.getElem?_map]
      have tl := t.1
      unfold rows2 at tl
      rw [List.length_map] at tl
      by_cases c : j < us.length
      · have ex : (us.map V.ref)[j]? = some (.ref us[j]) := by rw [List.getElem?_map, List.getElem?_eq_getElem c]; rfl
        obtain ⟨u, r, eu0, er, eu⟩ := t.at ex
        cases eu0
        have hL : j < L.length := by omega
        unfold rows2 at er
        rw [List.getElem?_map, List.getElem?_eq_getElem hL] at er
        cases er
        rw [List.getElem?_eq_getElem c, List.getElem?_eq_getElem hL]
        show some (two H (.ref us[j])) = _
        rw [two_at eu]
        rfl
      · rw [List.getElem?_eq_none (by omega), List.getElem?_eq_none (by omega)]
        rfl
    have c1 : ((us'.map V.ref).map (two H)).Perm (L'.map fun x => ((x.1 : Int), (x.2 : Int))) := by
      refine (pys.map (two H)).trans ?_
      rw [c0]
      exact (pm.map _).symm
    have c2 : (us'.map V.ref).map (two H) = L'.map fun x => ((x.1 : Int), (x.2 : Int)) := by
      refine List.Perm.eq_of_pairwise (le := fun x y => SrtO.lexB y x = false) (fun x y _ _ h1 h2 => ?_) ?_ ?_ c1
      · have a1 := SrtO.lexB_no.mp h1
        have a2 := SrtO.lexB_no.mp h2
        apply Prod.ext <;> omega
      · exact List.pairwise_map.mpr so
      · refine List.pairwise_map.mpr (asc.imp fun {x y} h => ?_)
        refine SrtO.lexB_no.mpr ?_
        dsimp only
        omega
    refine q us' p np ⟨?_, fun j u r e1 e2 => ?_⟩
    · have := congrArg List.length c2
      simpa [rows2] using this
    · unfold rows2 at e2
      rw [List.getElem?_map] at e2
      cases el : L'[j]? with
      | none => rw [el] at e2; cases e2
      | some y =>
        rw [el] at e2
        cases e2
        -- u is one of the old places
        have hu : V.ref u ∈ us.map V.ref := pys.mem_iff.mp (List.mem_map.mpr ⟨u, List.mem_of_getElem? e1, rfl⟩)
        obtain ⟨i, hi, ei⟩ := List.mem_iff_getElem.mp hu
        obtain ⟨u2, r2, eu2, er2, eu3⟩ := t.at (show (us.map V.ref)[i]? = some (V.ref u) by rw [List.getElem?_eq_getElem hi, ei])
        cases eu2
        unfold rows2 at er2
        rw [List.getElem?_map] at er2
        cases el2 : L[i]? with
        | none => rw [el2] at er2; cases er2
        | some z =>
          rw [el2] at er2
          cases er2
          have h1 := two_at eu3
          have h2 : ((us'.map V.ref).map (two H))[j]? = some (two H (.ref u)) := by rw [List.getElem?_map, List.getElem?_map, e1]; rfl
          rw [c2, List.getElem?_map, el, h1] at h2
          have h3 := Option.some.inj h2
          have h4 : (y.1 : Int) = z.1 := congrArg Prod.fst h3
          have h5 : (y.2 : Int) = z.2 := congrArg Prod.snd h3
          show H u = some (.tup (VI [y.1, y.2]))
          rw [show y.1 = z.1 by omega, show y.2 = z.2 by omega]
          exact eu3
end K14
/-! pairs_in -/
namespace K14
open PySem PySem.Spec PyProof.Rows L2
/-- those behind p on its list, in its sequence; in the persons' sequence -/
def upW (ls : List (List Nat)) (p : Nat) : List Nat := (la ls p).filter fun o => decide (p < o)
def upS (ls : List (List Nat)) (p : Nat) : List Nat := (List.range ls.length).filter fun o => decide (p < o ∧ o ∈ la ls p)
def rawP (ls : List (List Nat)) (n : Nat) : List (Nat × Nat) := (List.range n).flatMap fun p => (upW ls p).map fun o => (p, o)
def prsL (ls : List (List Nat)) (n : Nat) : List (Nat × Nat) := (List.range n).flatMap fun p => (upS ls p).map fun o => (p, o)
theorem rawP_succ (ls : List (List Nat)) (n : Nat) : rawP ls (n + 1) = rawP ls n ++ (upW ls n).map fun o => (n, o) := by
  unfold rawP
  rw [List.range_succ, List.flatMap_append]
  simp
theorem prsL_succ (ls : List (List Nat)) (n : Nat) : prsL ls (n + 1) = prsL ls n ++ (upS ls n).map fun o => (n, o) := by
  unfold prsL
  rw [List.range_succ, List.flatMap_append]
  simp
theorem up_perm {ls : List (List Nat)} (ok : ListsOk ls.length ls) {p : Nat} (hp : p < ls.length) : (upS ls p).Perm (upW ls p) := by
  unfold upS upW
  refine (List.perm_ext_iff_of_nodup ((List.nodup_range).filter _) ((ok.nda hp).filter _)).mpr fun o => ?_
  rw [List.mem_filter, List.mem_filter, List.mem_range, decide_eq_true_eq, decide_eq_true_eq]
  constructor
  · rintro ⟨_, h1, h2⟩
    exact ⟨h2, h1⟩
  · rintro ⟨h1, h2⟩
    exact ⟨(ok.mate hp h1).1, h2, h1⟩
theorem prs_perm {ls : List (List Nat)} (ok : ListsOk ls.length ls) : ∀ n, n ≤ ls.length → (prsL ls n).Perm (rawP ls n)
  | 0, _ => List.Perm.refl _
  | n + 1, h => by
    rw [prsL_succ, rawP_succ]
    exact (prs_perm ok n (by omega)).append ((up_perm ok (by omega)).map _)
theorem prs_asc (ls : List (List Nat)) : ∀ n, (prsL ls n).Pairwise fun x y => x.1 < y.1 ∨ (x.1 = y.1 ∧ x.2 ≤ y.2)
  | 0 => List.Pairwise.nil
  | n + 1 => by
    rw [prsL_succ, List.pairwise_append]
    refine ⟨prs_asc ls n, ?_, fun x hx y hy => ?_⟩
    · rw [List.pairwise_map]
      refine List.Pairwise.imp (fun {a b} h => Or.inr ⟨rfl, h⟩) (?_ : (upS ls n).Pairwise (· ≤ ·))
      exact (List.pairwise_le_range).filter _
    · unfold prsL at hx
      obtain ⟨p, hp, h⟩ := List.mem_flatMap.mp hx
      obtain ⟨o, _, rfl⟩ := List.mem_map.mp h
      obtain ⟨o', _, rfl⟩ := List.mem_map.mp hy
      exact Or.inl (List.mem_range.mp hp)
theorem rawP_len {ls : List (List Nat)} (ok : ListsOk ls.length ls) (l60 : ls.length ≤ 60) : ∀ n, n ≤ ls.length → (rawP ls n).length ≤ n * 60
  | 0, _ => Nat.le_refl _
  | n + 1, h => by
    have := rawP_len ok l60 n (by omega)
    have e := ok.each (la_get (ls := ls) (p := n) (by omega))
    have f := List.length_filter_le (fun o => decide (n < o)) (la ls n)
    rw [rawP_succ, List.length_append, List.length_map]
    unfold upW
    omega
def spPI (C : Addr) : Sp := fun vs H Q _ => ∃ (wi : Addr) (ns ls : List (List Nat)), vs = [.ref wi] ∧ WAt C H wi ns ls ∧ ∀ (r : Addr) (us : List Addr) H', Same H H' → H' r = some (.tup (us.map V.ref)) → RsT H' us (rows2 (prsL ls ls.length)) → Q (.ref r) H'
theorem scPI : FnScope ["wishes", "pairs", "person", "some", "other"] ["wishes"] (defScope sPairsIn) := ⟨rfl, rfl, rfl, by decide +kernel, rfl, by decide +kernel, by decide +kernel⟩
section
variable {P : Program} {w : World} {K : PySem.W.Frag} {mg : Str → Option Value} {base : Heap}
theorem ok_pairs_in {f C : Addr} {fd : FuncData} {k : Nat} (F : Fun K "pairs_in" "pairs_in" sPairsIn f fd) (T : Txt K mg C) (me : mg "enumerate" = none) (mt : mg "tuple" = none) (mso : mg "sorted" = none) : FnOk P w K mg base CX0 (k + 1) f fd ["wishes"] (spPI C) := by
  refine F.ok scPI (fun vs H Q E h => ?_) (fun cdv A outer s H vs Q E hr h => ?_)
  · obtain ⟨wi, ns, ls, rfl, _⟩ := h
    rfl
  obtain ⟨wi, ns, ls, rfl, W, q⟩ := h
  refine ⟨_, pss_cons (ps_setLc2 (i := 1) (own := [("person", 2), ("some", 3), ("other", 4)]) (vs1 := [4]) (g := gTup K 2 (gCons (gName 2) (gCons (gName 3) gNil))) (tt := tYes) (wi1 := iTup K (tVar 3)) (g1 := gName 4) (tt1 := tTest (tOp (rI0 fun i j => .bl (decide (i < j))) (tVar 2) (tVar 4))) (te := tTup (tCons (tVar 2) (tCons (tVar 4) tNil))) rfl scPI.nd rfl rfl (sw_true rfl rfl rfl (by decide +kernel)) (pi_enumT (by rfl) me (pa_cons (pe_fld (pv 0) rfl) pa_nil)) (blkOk_by (own := [("person", 2), ("some", 3), ("other", 4)]) (N := ["wishes", "pairs", "person", "some", "other"]) (sc := defScope sPairsIn) (by decide +kernel)) (by decide) (fun _ _ _ _ _ => pg_tup rfl (pgs_cons (pg_name (i := 2) scPI.nd rfl (Or.inl rfl)) (pgs_cons (pg_name (i := 3) scPI.nd rfl (Or.inl rfl)) pgs_nil))) (fun _ _ _ _ _ => pts_nil) (fun _ _ _ _ _ => pi_tup (pv 3)) (fun _ _ _ _ _ => (pg_name (i := 4) scPI.nd rfl (Or.inl rfl))) (fun _ _ _ _ _ => pts_one (pt_cmpR op_lt (pv 2) (pv 4) (nomark _))) (fun _ _ _ _ _ => pe_tup (pa_cons (pv 2) (pa_cons (pv 4) pa_nil))))
      (pss_one (ps_ret (pe_callTy call_tuple_of (by rfl) mt (by decide +kernel) (pa_cons (pe_callB cr_sortedPO (by rfl) mso (by decide +kernel) (pa_cons (pv 1) pa_nil)) pa_nil)))), ?_⟩
  have n60 := W.n60
  have ok := W.ok
  obtain ⟨dx, n, l, r, e1, e2, e3, e4⟩ := W.ex
  obtain ⟨as, el, al, at_⟩ := e3
  refine ⟨_, rfl, wi, C, dx, _, _, rfl, e1, T.cl, T.nL, wf_lists n l r, l, _, rfl, SqT.of el, fun D nD => ?_⟩
  have wk := walk_enumT (K := K) (a := l) (xs := as.map V.ref)
  have lw : (as.map V.ref).length = ls.length := by rw [List.length_map, al]
  refine ⟨fun i m H' => m = ls.length - i ∧ i ≤ ls.length ∧ Same H H' ∧ ∃ us : List Addr, H' D = some (.lst (us.map V.ref)) ∧ RsT H' us (rows2 (rawP ls i)), ⟨ls.length, rfl, Nat.zero_le _, same_upd nD, [], upd_same, RsT.nil⟩, ?_⟩
  rintro i m H1 ⟨rfl, hi, s1, us, eD, rs⟩
  by_cases c : i < ls.length
  · refine .inr ⟨wk.goes i H1 (by rw [lw]; exact c) (SqT.of (s1 _ _ el)), fun H' => Same H H' ∧ ∃ us : List Addr, H' D = some (.lst (us.map V.ref)) ∧ RsT H' us (rows2 (rawP ls (i + 1))), fun H' h2 => ⟨_, ?_, rfl, c, h2⟩, fun x H2 y => ?_⟩
    · omega
    obtain ⟨U, x0, x1, rfl, nU, rfl, y1, y2⟩ := wk.yields i H1 x H2 (by rw [lw]; exact c) (SqT.of (s1 _ _ el)) y
    cases y1
    have hia : i < as.length := by rw [al]; exact c
    have y3 : (as.map V.ref)[i]? = some x1 := y2
    rw [List.getElem?_map, List.getElem?_eq_getElem hia] at y3
    cases y3
    have ev := at_ i _ _ (List.getElem?_eq_getElem hia) (la_get c)
    generalize as[i] = a at ev y2 y ⊢
    have s2 : Same H1 (upd H1 U (.tup [.int (i : Nat), V.ref a])) := same_upd nU
    have eU : (upd H1 U (.tup [.int (i : Nat), V.ref a])) U = some (.tup [.int (i : Nat), V.ref a]) := upd_same
    have rs2 := rs.same s2
    have eD2 := s2 _ _ eD
    have s3 : Same H (upd H1 U (.tup [.int (i : Nat), V.ref a])) := s1.trans s2
    clear y y2
    generalize upd H1 U (.tup [.int (i : Nat), V.ref a]) = H2 at s2 eU rs2 eD2 s3 ⊢
    refine ⟨U, _, rfl, SqT.of eU, rfl, _, _, rfl, gn ⟨_, _, rfl, gn ⟨rfl, rfl, ?_⟩⟩⟩
    dsimp only [tYes]
    rw [if_pos rfl]
    refine ⟨_, rfl, a, rfl, ⟨_, Tp.sq (ev.same s3)⟩, ?_⟩
    have len60 := ok.each (la_get c)
    have rl := rawP_len ok n60.2 i hi
    have wk1 := walk_tup (K := K) (a := a) (xs := VI (la ls i))
    refine ⟨fun j m H' => m = (la ls i).length - j ∧ j ≤ (la ls i).length ∧ Same H H' ∧ ∃ us : List Addr, H' D = some (.lst (us.map V.ref)) ∧ RsT H' us (rows2 (rawP ls i ++ (((la ls i).take j).filter fun o => decide (i < o)).map fun o => (i, o))), ⟨_, rfl, Nat.zero_le _, s3, us, eD2, ?_⟩, ?_⟩
    · rw [List.take_zero]
      show RsT H2 us (rows2 (rawP ls i ++ []))
      rw [List.append_nil]
      exact rs2
    rintro j m H3 ⟨rfl, hj, s4, us3, eD3, rs3⟩
    by_cases cj : j < (la ls i).length
    · refine .inr ⟨wk1.goes j H3 (by rw [VI_len]; exact cj) (Tp.sq (ev.same s4)), fun H' => Same H H' ∧ ∃ us : List Addr, H' D = some (.lst (us.map V.ref)) ∧ RsT H' us (rows2 (rawP ls i ++ (((la ls i).take (j + 1)).filter fun o => decide (i < o)).map fun o => (i, o))), fun H' h2 => ⟨_, ?_, rfl, cj, h2⟩, fun x H4 y => ?_⟩
      · omega
      obtain ⟨rfl, ex⟩ := wk1.yields j H3 x H4 (by rw [VI_len]; exact cj) (Tp.sq (ev.same s4)) y
      rw [VI_get (List.getElem?_eq_getElem cj)] at ex
      cases ex
      have tk : (la ls i).take (j + 1) = (la ls i).take j ++ [(la ls i)[j]] := by
        rw [List.take_succ, List.getElem?_eq_getElem cj]
        rfl
      rw [tk, List.filter_append, List.map_append, ← List.append_assoc]
      refine gn ⟨rfl, _, rfl, _, rfl, _, _, rfl, rfl, decide (i < (la ls i)[j]), congrArg V.bl ?_, ?_⟩
      · rw [decide_eq_decide]
        exact Int.ofNat_lt
      refine ite2 (fun b => ?_) (fun b => ?_)
      · have ef : [(la ls i)[j]].filter (fun o => decide (i < o)) = [(la ls i)[j]] := by rw [List.filter_cons, if_pos b]; rfl
        rw [ef]
        refine ⟨_, rfl, _, rfl, by show 2 ≤ sizeLine; decide, fun p np => ⟨us3.map V.ref, ?_, ?_, ?_, us3 ++ [p], ?_, ?_⟩⟩
        · rw [upd_ne (ne_of_none eD3 np)]
          exact eD3
        · have z := rs3.1
          unfold rows2 at z
          rw [List.length_map, List.length_append, List.length_map] at z
          have f := List.length_filter_le (fun o => decide (i < o)) ((la ls i).take j)
          rw [List.length_take] at f
          rw [List.length_map]
          exact sz6' (by omega)
        · exact (s4.fresh (s4.free np)).fresh nD
        · rw [upd_same, List.map_append]
          rfl
        · have er : ∀ A : List (Nat × Nat), rows2 (A ++ [(i, (la ls i)[j])]) = rows2 A ++ [[i, (la ls i)[j]]] := fun A => by
            unfold rows2
            rw [List.map_append]
            rfl
          show RsT _ _ (rows2 (_ ++ [(i, (la ls i)[j])]))
          rw [er]
          have eD4 : upd H4 p (.tup [.int (i : Nat), .int ((la ls i)[j] : Nat)]) D = some (.lst (us3.map V.ref)) := by rw [upd_ne (ne_of_none eD3 np)]; exact eD3
          refine ((rs3.same (same_upd np)).put eD4).app (RsT.one ?_)
          rw [upd_ne (fun z => ne_of_none eD3 np z.symm)]
          exact upd_same
      · have ef : [(la ls i)[j]].filter (fun o => decide (i < o)) = [] := by rw [List.filter_cons, if_neg b]; rfl
        rw [ef]
        exact ⟨s4, us3, eD3, by rw [List.map_nil, List.append_nil]; exact rs3⟩
    · have e : j = (la ls i).length := by omega
      subst e
      refine .inl ⟨by have z := wk1.stops H3 (Tp.sq (ev.same s4)); rw [VI_len] at z; exact z, s4, us3, eD3, ?_⟩
      rw [rawP_succ]
      rw [List.take_length] at rs3
      exact rs3
  · have e : i = ls.length := by omega
    subst e
    refine .inl ⟨by have z := wk.stops H1 (SqT.of (s1 _ _ el)); rw [lw] at z; exact z, gn ?_⟩
    dsimp only [List.set, L2.start]
    refine ⟨_, rfl, ?_⟩
    dsimp only [L2.tNil]
    refine sort_pairs (K := K) eD rs (prs_perm ok _ (Nat.le_refl _)) (prs_asc ls _) fun us' p np rs' => ?_
    refine ⟨p, _, rfl, .inl ⟨SqL.of upd_same, fun t nt => q t us' _ (s1.trans ((same_upd np).trans (same_upd nt))) upd_same (rs'.same ((same_upd np).trans (same_upd nt)))⟩⟩
end
end K14
/-! what stands when a lambda was made: all but the tables -/
namespace K14
open PySem PySem.Spec PyProof.Rows L2
section
variable {H H' : Hp}
abbrev XN := LamX.ExtN
theorem XN.tup (s : LamX.ExtN H H') {b : Addr} {xs : List V} (e : H b = some (.tup xs)) : H' b = some (.tup xs) := s b _ e fun _ z => by cases z
theorem XN.lst (s : LamX.ExtN H H') {b : Addr} {xs : List V} (e : H b = some (.lst xs)) : H' b = some (.lst xs) := s b _ e fun _ z => by cases z
theorem Ex.ext {a : Addr} {xs : List V} (t : Ex H a xs) (s : LamX.ExtN H H') : Ex H' a xs := let ⟨o, d, c, e⟩ := t; ⟨o, d, c, s _ _ e fun _ z => by cases z⟩
theorem Tp.ext {a : Addr} {xs : List V} (t : Tp H a xs) (s : LamX.ExtN H H') : Tp H' a xs := t.imp (XN.tup s) (fun e => e.ext s)
theorem LT.ext {r : Addr} {ls : List (List Nat)} (t : LT H r ls) (s : LamX.ExtN H H') : LT H' r ls := let ⟨as, e, l, q⟩ := t; ⟨as, XN.tup s e, l, fun i a x e1 e2 => (q i a x e1 e2).ext s⟩
theorem LX.ext {r : Addr} {ls : List (List Nat)} (t : LX H r ls) (s : LamX.ExtN H H') : LX H' r ls := let ⟨as, e, l, q⟩ := t; ⟨as, XN.tup s e, l, fun i a x e1 e2 => (q i a x e1 e2).ext s⟩
theorem RT.ext {r : Addr} {ls : List (List Nat)} (t : RT H r ls) (s : LamX.ExtN H H') : RT H' r ls := let ⟨as, e, l, q⟩ := t; ⟨as, XN.tup s e, l, fun i a x e1 e2 => XN.tup s (q i a x e1 e2)⟩
theorem WAt.ext {C wi : Addr} {ns ls : List (List Nat)} (W : WAt C H wi ns ls) (s : LamX.ExtN H H') : WAt C H' wi ns ls := by
  obtain ⟨dx, n, l, r, e1, e2, e3, e4⟩ := W.ex
  exact ⟨W.n60, W.nok, W.ok, dx, n, l, r, s _ _ e1 (fun _ z => by cases z), XN.tup s e2, e3.ext s, e4.ext s⟩
theorem Src.ext {h l : Addr} (t : Src H h l) (s : LamX.ExtN H H') : Src H' h l := by
  obtain ⟨cs, z, a, b, r⟩ := t.ex
  exact ⟨cs, z, XN.lst s a, XN.lst s b, r⟩
theorem Tabs.put {T : List (Addr × Str)} {p : Addr} {xs : List V} {o : HO} (t : LamX.Tabs T H) (e : H p = some (.lst xs)) : LamX.Tabs T (upd H p o) := fun q hq => by
  obtain ⟨ps, h1, h2, h3⟩ := t q hq
  refine ⟨ps, ?_, h2, fun pos cv hc => ?_⟩
  · rw [upd_ne fun z => by rw [z, e] at h1; cases h1]
    exact h1
  · obtain ⟨c, e1, e2⟩ := h3 pos cv hc
    refine ⟨c, e1, ?_⟩
    rw [upd_ne fun z => by rw [z, e] at e2; cases e2]
    exact e2
theorem Tabs.bar {T : List (Addr × Str)} {h l : Addr} (t : LamX.Tabs T H) (s : Src H h l) (b : Bar h l H H') : LamX.Tabs T H' := fun q hq => by
  obtain ⟨ps, h1, h2, h3⟩ := t q hq
  refine ⟨ps, ?_, h2, fun pos cv hc => ?_⟩
  · obtain ⟨n1, n2⟩ := s.ne h1 fun _ z => by cases z
    exact b _ _ n1 n2 h1
  · obtain ⟨c, e1, e2⟩ := h3 pos cv hc
    obtain ⟨n1, n2⟩ := s.ne e2 fun _ z => by cases z
    exact ⟨c, e1, b _ _ n1 n2 e2⟩
/-- the heap without its tables -/
noncomputable def noTab (H : Hp) : Hp := fun b => match H b with
  | some (.tbl _) => none
  | x => x
theorem noTab_some {b : Addr} {o : HO} (e : noTab H b = some o) : H b = some o ∧ ∀ ps, o ≠ .tbl ps := by
  unfold noTab at e
  split at e
  · cases e
  · rename_i n
    refine ⟨e, fun ps z => ?_⟩
    subst z
    exact n ps e
theorem noTab_ext : LamX.ExtN H (noTab H) := fun b o e n => by
  unfold noTab
  split
  · rename_i ps e2
    rw [e2] at e
    exact absurd (Option.some.inj e).symm (n ps)
  · exact e
theorem Bar.noTab {h l : Addr} : Bar h l (noTab H) H := fun b o _ _ e => (noTab_some e).1
theorem Bar.lam {h l : Addr} {H0 H2 : Hp} (b : Bar h l (K14.noTab H0) H) (x : LamX.ExtN H H2) : Bar h l (K14.noTab H0) H2 := fun c o n1 n2 e => x c o (b c o n1 n2 e) (noTab_some e).2
theorem Tabs.fresh {T : List (Addr × Str)} {p : Addr} {o : HO} (t : LamX.Tabs T H) (n : H p = none) : LamX.Tabs T (upd H p o) := t.ext (same_upd n)
end
end K14
namespace K14
open PySem PySem.Spec PyProof.Rows L2
/-! ### data -/
def dN (ns : List (List Nat)) : PyData := .tuple (ns.map fun s => .str (SS s))
def dI (s : List Nat) : PyData := .tuple (s.map fun j => .int (j : Nat))
def dL (ls : List (List Nat)) : PyData := .tuple (ls.map dI)
def dH (hs : List (Option Nat)) : PyData := .tuple (hs.map fun o => match o with | none => .none | some j => .int (j : Nat))
theorem layAll {xs : List PyData} (h : ∀ x ∈ xs, PyData.canLay0 x = true) : PyData.canLayAll0 xs = true := by
  induction xs with
  | nil => rfl
  | cons c r ih => simp only [PyData.canLayAll0, h c (by simp), ih (fun x hx => h x (by simp [hx])), Bool.and_self]
theorem depAll {xs : List PyData} {d : Nat} (h : ∀ x ∈ xs, PyData.depth x ≤ d) : PyData.depthAll xs ≤ d := by
  induction xs with
  | nil => simp [PyData.depthAll]
  | cons c r ih =>
    have h1 := h c (by simp)
    have h2 := ih (fun x hx => h x (by simp [hx]))
    simp only [PyData.depthAll]
    omega
theorem shaped_of {x : PyData} (h : PyData.canLay0 x = true) (d : PyData.depth x ≤ 64) : SeqAt.shaped x = true := by
  show (PyData.canLay0 x && decide (PyData.depth x ≤ 64)) = true
  rw [h, decide_eq_true d]
  rfl
theorem lay_dI (s : List Nat) : PyData.canLay0 (dI s) = true ∧ PyData.depth (dI s) ≤ 2 := by
  unfold dI
  constructor
  · simp only [PyData.canLay0]
    refine layAll fun x hx => ?_
    obtain ⟨j, _, rfl⟩ := List.mem_map.mp hx
    rfl
  · simp only [PyData.depth]
    have := depAll (xs := s.map fun j => PyData.int (j : Nat)) (d := 1) fun x hx => by
      obtain ⟨j, _, rfl⟩ := List.mem_map.mp hx
      simp [PyData.depth]
    omega
theorem sh_dL (ls : List (List Nat)) : SeqAt.shaped (dL ls) = true := by
  unfold dL
  refine shaped_of ?_ ?_
  · simp only [PyData.canLay0]
    refine layAll fun x hx => ?_
    obtain ⟨j, _, rfl⟩ := List.mem_map.mp hx
    exact (lay_dI j).1
  · simp only [PyData.depth]
    have := depAll (xs := ls.map dI) (d := 2) fun x hx => by
      obtain ⟨j, _, rfl⟩ := List.mem_map.mp hx
      exact (lay_dI j).2
    omega
theorem ok_str {s : List Nat} (h : s.length ≤ 6) (hc : ∀ c ∈ s, 97 ≤ c ∧ c ≤ 122) : PyData.canLay0 (.str (SS s)) = true := by
  simp only [PyData.canLay0]
  unfold PyData.strOk
  rw [Array.all_eq_true]
  intro i hi
  have := hc ((SS s).cps[i]) (by simp)
  rw [decide_eq_true_eq]
  omega
theorem sh_dN (ns : List (List Nat)) (h6 : ∀ s ∈ ns, s.length ≤ 6 ∧ ∀ c ∈ s, 97 ≤ c ∧ c ≤ 122) : SeqAt.shaped (dN ns) = true := by
  unfold dN
  refine shaped_of ?_ ?_
  · simp only [PyData.canLay0]
    refine layAll fun x hx => ?_
    obtain ⟨j, hj, rfl⟩ := List.mem_map.mp hx
    exact ok_str (h6 j hj).1 (h6 j hj).2
  · simp only [PyData.depth]
    have := depAll (xs := ns.map fun s => PyData.str (SS s)) (d := 1) fun x hx => by
      obtain ⟨j, _, rfl⟩ := List.mem_map.mp hx
      simp [PyData.depth]
    omega
theorem sh_dH (hs : List (Option Nat)) : SeqAt.shaped (dH hs) = true := by
  unfold dH
  refine shaped_of ?_ ?_
  · simp only [PyData.canLay0]
    refine layAll fun x hx => ?_
    obtain ⟨j, _, rfl⟩ := List.mem_map.mp hx
    cases j <;> rfl
  · simp only [PyData.depth]
    have := depAll (xs := hs.map fun o => match o with | none => PyData.none | some j => .int (j : Nat)) (d := 1) fun x hx => by
      obtain ⟨j, _, rfl⟩ := List.mem_map.mp hx
      cases j <;> simp [PyData.depth]
    omega
theorem dp_dI {K : PySem.W.Frag} {H : Hp} {a : Addr} {s : List Nat} (e : Tp H a (VI s)) : Dp K H (.ref a) (dI s) := by
  refine .tup e.sq ?_
  unfold VI
  clear e
  induction s with
  | nil => exact .nil
  | cons c r ih => exact .cons (.int _) ih
theorem dp_dN {K : PySem.W.Frag} {H : Hp} {a : Addr} {ns : List (List Nat)} (e : H a = some (.tup (VN ns))) : Dp K H (.ref a) (dN ns) := by
  refine .tup (SqT.of e) ?_
  unfold VN
  clear e
  induction ns with
  | nil => exact .nil
  | cons c r ih => exact .cons (.str _) ih
theorem dp_dH {K : PySem.W.Frag} {H : Hp} {a : Addr} {hs : List (Option Nat)} (e : H a = some (.tup (VH hs))) : Dp K H (.ref a) (dH hs) := by
  refine .tup (SqT.of e) ?_
  unfold VH
  clear e
  induction hs with
  | nil => exact .nil
  | cons c r ih =>
    cases c with
    | none => exact .cons .non ih
    | some j => exact .cons (.int _) ih
theorem dp_dL {K : PySem.W.Frag} {H : Hp} {a : Addr} {ls : List (List Nat)} (e : LT H a ls) : Dp K H (.ref a) (dL ls) := by
  obtain ⟨as, e1, al, rows⟩ := e
  refine .tup (SqT.of e1) ?_
  clear e1
  induction ls generalizing as with
  | nil =>
    cases as with
    | nil => exact .nil
    | cons b t => cases al
  | cons c r ih =>
    cases as with
    | nil => cases al
    | cons b t =>
      exact .cons (dp_dI (rows 0 b c rfl rfl)) (ih t (by simpa using al) fun i a s e1 e2 => rows (i + 1) a s (by simpa using e1) (by simpa using e2))
end K14
namespace K14
open PySem PySem.Spec PyProof.Rows L2
section
variable {J : It} {n : Nat} {G : Hp → Prop} {Y : Nat → Hp → V → Hp → Prop}
/-- .. of a value made of each such item -/
theorem lc_selv (w : Walk J n G Y) {g : TG} {tt : TT} {te : TE} {vs : List Nat} {σ : L2.St} {H0 : Hp} {D : Addr} {Qd : Hp → Prop} (hn : n ≤ 100000) (xs : List V) (f : V → Bool) (val : V → V) (xl : xs.length = n) (nD : H0 D = none) (hG : ∀ H, Same H0 H → G H)
    (hs : ∀ (i : Nat) (x : V) (H H' : Hp) (R : Hp → Prop) (Z : V → Hp → Prop), (∀ H3, Same H H3 → f (xs.getD i .non) = true → Z (val (xs.getD i .non)) H3) → (∀ H3, Same H H3 → f (xs.getD i .non) = false → R H3) → i < n → Same H0 H → Y i H x H' → g x (wipe σ vs) H' fun σ2 H2 => wipe σ2 vs = wipe σ vs ∧ tt σ2 H2 fun b H3 => if b = true then te σ2 H3 Z else R H3)
    (hd : ∀ H, Same H0 H → H D = some (.lst ((xs.filter f).map val)) → Qd H) :
    ∃ W : Nat → Nat → Hp → Prop, (∃ m, W 0 m (upd H0 D (.lst []))) ∧ ∀ i m H, W i m H →
      (J.stop i H ∧ Qd H) ∨ (J.go i H ∧ ∃ Nx : Hp → Prop, (∀ H', Nx H' → ∃ m', m' < m ∧ W (i + 1) m' H') ∧ ∀ x H', J.yld i H x H' → g x (wipe σ vs) H' fun σ2 H2 => wipe σ2 vs = wipe σ vs ∧ tt σ2 H2 fun b H3 =>
        if b = true then te σ2 H3 fun y H4 => ∃ acc, H4 D = some (.lst acc) ∧ acc.length < sizeLine ∧ Nx (upd H4 D (.lst (acc ++ [y]))) else Nx H3) := by
  refine lc_it w (fun i H => Same H0 H ∧ H D = some (.lst (((xs.take i).filter f).map val))) ⟨same_upd nD, by rw [upd_same, List.take_zero]; rfl⟩ (fun i H _ h => hG H h.1) (fun i x H H' hi h y => ?_) (fun H h => hd H h.1 (by rw [← xl, List.take_length] at h; exact h.2))
  have tk : xs.take (i + 1) = xs.take i ++ [xs.getD i .non] := by
    rw [List.take_succ, List.getD_eq_getElem?_getD, List.getElem?_eq_getElem (by omega)]
    rfl
  refine hs i x H H' (fun H => Same H0 H ∧ H D = some (.lst (((xs.take (i + 1)).filter f).map val))) (fun v H3 => ∃ acc, H3 D = some (.lst acc) ∧ acc.length < sizeLine ∧ (fun H => Same H0 H ∧ H D = some (.lst (((xs.take (i + 1)).filter f).map val))) (upd H3 D (.lst (acc ++ [v])))) (fun H3 z ft => ?_) (fun H3 z ff => ?_) hi h.1 y
  · refine ⟨_, z _ _ h.2, ?_, (h.1.trans z).fresh nD, ?_⟩
    · rw [List.length_map]
      refine sz6' (Nat.le_trans (List.length_filter_le _ _) ?_)
      rw [List.length_take]
      omega
    · rw [upd_same, tk, List.filter_append, List.filter_cons, if_pos ft, List.filter_nil, List.map_append]
      rfl
  · refine ⟨h.1.trans z, ?_⟩
    rw [z _ _ h.2, tk, List.filter_append, List.filter_cons, if_neg (by rw [ff]; decide), List.filter_nil, List.append_nil]
end
/-- the place of a person on a list, as a value -/
def atV (s : List Nat) : V → V
  | .int i => .int (s.idxOf i.toNat : Nat)
  | v => v
theorem VI_atV (s L : List Nat) : (VI L).map (atV s) = VI (L.map fun o => s.idxOf o) := by
  unfold VI
  rw [List.map_map, List.map_map]
  rfl
def dLI (L : List Nat) : PyData := .list (L.map fun j => PyData.int (j : Nat))
theorem dp_dLI {K : PySem.W.Frag} {H : Hp} {a : Addr} {L : List Nat} (e : H a = some (.lst (VI L))) : Dp K H (.ref a) (dLI L) := by
  refine .lst (SqL.of e) ?_
  clear e
  unfold VI
  induction L with
  | nil => exact .nil
  | cons b t ih => exact .cons (.int _) ih
theorem sh_dLI (L : List Nat) : SeqAt.shaped (dLI L) = true := by
  unfold dLI
  refine shaped_of ?_ ?_
  · simp only [PyData.canLay0]
    refine layAll fun x hx => ?_
    obtain ⟨j, _, rfl⟩ := List.mem_map.mp hx
    rfl
  · simp only [PyData.depth]
    have := depAll (xs := L.map fun j => PyData.int (j : Nat)) (d := 1) fun x hx => by
      obtain ⟨j, _, rfl⟩ := List.mem_map.mp hx
      simp [PyData.depth]
    omega
theorem eqv_dLI0 (L : List Nat) : PyData.eqv (dLI L) (dLI []) = decide (L = []) := by
  cases L with
  | nil => rfl
  | cons b t => rfl
end K14
/-! _law_lists of this law -/
namespace K14
open PySem PySem.Spec PyProof.Rows L2
theorem cut2 {c : TT} {ta tb : TS} {D : Ends} {σ : L2.St} {H : Hp} (Yt Yf : Hp → Prop) (ht : ∀ H1, Yt H1 → ta D σ H1) (hf : ∀ H1, Yf H1 → tb D σ H1)
    (k : (∀ H1, Yt H1 → ta D σ H1) → (∀ H1, Yf H1 → tb D σ H1) → c σ H fun b H1 => if b = true then ta D σ H1 else tb D σ H1) : tIfS c ta tb D σ H := k ht hf
abbrev rTupX (K : PySem.W.Frag) : List V → Hp → VK → Prop := fun xs H Q => ∃ p ys, xs = [.ref p] ∧ SqL K H p ys ∧ ∀ l H', H l = none → Same H H' → Ex H' l ys → (∀ b o, b ≠ l → H' b = some o → H b = some o) → Q (.ref l) H'
def spLists2 : Sp := fun vs H Q _ => ∃ (h l : Addr) (many : Nat), vs = [.ref h, .int many] ∧ Src H h l ∧ many ≤ 60 ∧
  ∀ (r : Addr) (ls : List (List Nat)) (H' : Hp), ListsOk many ls → Src H' h l → Bar h l H H' → H r = none → LX H' r ls → Q (.ref r) H'
theorem scLists2 : FnScope ["heap", "many", "kind", "share", "found", "one", "other", "wished", "person", "some"] ["heap", "many"] (defScope sLists2) := ⟨rfl, rfl, rfl, by decide +kernel, rfl, by decide +kernel, by decide +kernel⟩
section
variable {P : Program} {w : World} {K : PySem.W.Frag} {mg : Str → Option Value} {base : Heap}
theorem ok_lists2 {f g p f1 : Addr} {fd gd pd d1 : FuncData} {k : Nat} (F : Fun K "_law_lists" "_law_lists" sLists2 f fd) (G : FnOk P w K mg base CX0 k g gd ["heap", "many"] spDraw) (bG : Binds K gd ["heap", "many"] []) (kG : PySem.W.keepIn K (.ref g) = true) (mG : mg "_law_draw" = some (.ref g))
    (R : FnOk P w K mg base CX0 k p pd ["heap", "some"] spMixed) (bR : Binds K pd ["heap", "some"] []) (kR : PySem.W.keepIn K (.ref p) = true) (mR : mg "_law_mixed" = some (.ref p)) (Pk : Has P w K mg base k "_law_pick" ["heap", "some"] spPick f1 d1) (mr : mg "range" = none) (mt : mg "tuple" = none) (mi : mg "int" = none) :
    FnOk P w K mg base CX0 (k + 1) f fd ["heap", "many"] spLists2 := by
  refine F.ok scLists2 (fun vs H Q E h => ?_) (fun cdv A outer s H vs Q E hr h => ?_)
  · obtain ⟨h, l, many, rfl, _⟩ := h
    rfl
  · obtain ⟨h, l, many, rfl, src, m1, q⟩ := h
    refine ⟨_, pss_cons (ps_par (i := 2) (j := 3) rfl scLists2.nd rfl rfl (by decide) rfl rfl (pa_cons (pe_call G hr rfl mG kG bG .nil pass0 (pa_cons (pv 0) (pa_cons pe_int pa_nil))) (pa_cons (pe_call Pk.ok hr rfl Pk.m Pk.k Pk.b .nil pass0 (pa_cons (pv 0) (pa_cons (pe_lst (pa_cons pe_int (pa_cons pe_int (pa_cons pe_int (pa_cons pe_int pa_nil))))) pa_nil))) pa_nil)) (by rfl))
      (pss_cons (ps_setLc (i := 4) (own := [("person", 8)]) (g := gName 8) (tt := tYes) rfl scLists2.nd rfl rfl (sw_true rfl rfl rfl (by decide +kernel)) (pi_range1 rfl mr (pa_cons (pv 1) pa_nil))
          (blkOk_by (own := [("person", 8)]) (N := ["heap", "many", "kind", "share", "found", "one", "other", "wished", "person", "some"]) (sc := defScope sLists2) (by decide +kernel)) (fun _ _ _ _ _ => (pg_name (i := 8) scLists2.nd rfl (Or.inl rfl))) (fun _ _ _ _ _ => pts_nil)
          (fun _ _ _ _ _ => (pe_lst pa_nil)))
      (pss_cons (ps_for PassesOwn.never rfl (pi_range1 rfl mr (pa_cons (pv 1) pa_nil)) (pg_name (i := 5) scLists2.nd rfl (.inl rfl))
      (pss_one (ps_for PassesOwn.never rfl (pi_range2 (by rfl) mr (pa_cons (pe_op op_add (pv 5) pe_int) (pa_cons (pv 1) pa_nil))) (pg_name (i := 6) scLists2.nd rfl (.inl rfl))
      (pss_cons (ps_set (i := 7) scLists2.nd rfl (.inl rfl) (pe_ifExp (pt_cmpR op_lt (pv 2) pe_int (nomark _)) (pe_or (pe_cmpR op_eq (pv 2) pe_int (nomark _)) (pe_one (pe_cmpR op_lt (pe_call G hr rfl mG kG bG .nil pass0 (pa_cons (pv 0) (pa_cons (pv 3) pa_nil))) pe_int (nomark _)))) (pe_cmpR op_eq (pe_call G hr rfl mG kG bG .nil pass0 (pa_cons (pv 0) (pa_cons pe_int pa_nil))) pe_int (nomark _))))
      (pss_one (ps_if (PW.pt (pw_and (pt_val (pv 7)) (pw_and1 (PW.pt (pw_or (pt_cmpR op_ne (pv 2) pe_int (nomark _)) (pw_or1 (pt_cmpR op_eq (pe_op op_mod (pe_callTy call_int1 (by rfl) mi (by decide +kernel) (pa_cons (pe_op op_add (pv 5) (pv 6)) pa_nil)) pe_int) pe_int (nomark _)))))))) (pss_cons (ps_expr (pe_bm PySem.F.plainAttrs_list PySem.F.slot_list_append PySem.F.type_list_append mt_append (pe_ix ix_list (pv 4) (pv 5) (fun _ _ => rfl)) (pa_cons (pv 6) pa_nil)))
      (pss_one (ps_expr (pe_bm PySem.F.plainAttrs_list PySem.F.slot_list_append PySem.F.type_list_append mt_append (pe_ix ix_list (pv 4) (pv 6) (fun _ _ => rfl)) (pa_cons (pv 5) pa_nil))))) pss_nil))))))
      (pss_one (ps_ret (pe_callTy call_tuple_of (by rfl) mt (by decide +kernel) (pa_cons (pe_lc (own := [("some", 9)]) (g := gName 9) (tt := tYes) (te := tCB (rTupX K) (tCons (tCall spMixed [] E0 (tCons (tVar 0) (tCons (tVar 9) tNil))) tNil)) rfl scLists2.nd (pi_list (pv 4))
          (blkOk_by (own := [("some", 9)]) (N := ["heap", "many", "kind", "share", "found", "one", "other", "wished", "person", "some"]) (sc := defScope sLists2) (by decide +kernel)) (fun _ _ _ _ _ => (pg_name (i := 9) scLists2.nd rfl (Or.inl rfl))) (fun _ _ _ _ _ => pts_nil)
          (fun _ _ _ _ _ => (pe_callTy call_tupleX (by rfl) mt (by decide +kernel) (pa_cons (pe_call R hr rfl mR kR bR .nil pass0 (pa_cons (pv 0) (pa_cons (pv 9) pa_nil))) pa_nil)))) pa_nil)))))), ?_⟩
    refine ⟨_, rfl, h, l, 5, rfl, src, by decide, by decide, fun kd H1 k0 k1 src1 bar1 => ?_⟩
    refine ⟨_, rfl, (by show 4 ≤ sizeLine; decide), fun u nu => ?_⟩
    obtain ⟨nuh, nul⟩ := src1.new nu
    refine ⟨h, l, u, _, rfl, src1.updn nu, .inl upd_same, nuh, nul, by simp, by simp, fun j v H2 hv src2 bar2 => ?_⟩
    obtain ⟨share, rfl, s0, s1⟩ : ∃ sh : Int, v = .int sh ∧ 0 < sh ∧ sh < 1000 := by
      match j, hv with
      | 0, hv => exact ⟨2, (Option.some.inj hv).symm, by decide, by decide⟩
      | 1, hv => exact ⟨3, (Option.some.inj hv).symm, by decide, by decide⟩
      | 2, hv => exact ⟨3, (Option.some.inj hv).symm, by decide, by decide⟩
      | 3, hv => exact ⟨4, (Option.some.inj hv).symm, by decide, by decide⟩
    have bar02 : Bar h l H H2 := bar1.trans ((Bar.same (same_upd nu)).trans bar2)
    have q2 : ∀ (r : Addr) (ls : List (List Nat)) (H' : Hp), ListsOk many ls → Src H' h l → Bar h l H2 H' → H2 r = none → LX H' r ls → Q (.ref r) H' := fun r ls H' a b c e f => q r ls H' a b (bar02.trans c) (bar02.free src2 e) f
    clear q bar02 bar2 src1 bar1
    refine ⟨_, _, rfl, ?_⟩
    dsimp only [List.set, L2.start]
    refine ⟨_, rfl, _, rfl, by omega, by omega, fun D nD => ?_⟩
    obtain ⟨nDh, nDl⟩ := src2.new nD
    refine lc_range (lo := 0) (n := many) (fun i H' => ∃ rs : List Addr, RowsAt H' D rs (fun _ => []) ∧ rs.length = i ∧ rs.Nodup ∧ (∀ r ∈ rs, H2 r = none ∧ r ≠ D) ∧ Src H' h l ∧ Bar h l H2 H')
      ⟨[], ⟨upd_same, fun k q e => by simp at e⟩, rfl, List.nodup_nil, by simp, src2.updn nD, Bar.refl.fresh nD⟩ ?_ ?_
    · rintro i H4 hi ⟨rs, ra, rl, nd, rn, sr, br⟩
      refine gn ⟨rfl, yes ?_⟩
      refine ⟨Nat.zero_le _, fun r nr => ?_⟩
      have nr0 := br.free sr nr
      obtain ⟨nrh, nrl⟩ := sr.new nr
      have nrD : r ≠ D := fun e => by rw [e, ra.top] at nr; cases nr
      have nrr : r ∉ rs := fun e => by
        obtain ⟨k, hk, ek⟩ := List.mem_iff_getElem.mp e
        have := ra.row k r (by rw [List.getElem?_eq_getElem hk, ek])
        rw [nr] at this
        cases this
      have nDr : D ≠ r := Ne.symm nrD
      refine ⟨_, by rw [upd_ne nDr]; exact ra.top, by rw [List.length_map]; exact sz6 (by omega), rs ++ [r], ⟨by rw [upd_same]; simp, ?_⟩, by simp [rl], ?_, ?_, (sr.updn nr).put nDh nDl, (br.fresh nr0).fresh nD⟩
      · intro k q ek
        rw [List.getElem?_append] at ek
        split at ek
        · rename_i hk
          have hq : q ∈ rs := List.mem_of_getElem? ek
          rw [upd_ne (rn q hq).2, upd_ne (fun z => nrr (by rw [← z]; exact hq))]
          exact ra.row k q ek
        · have : q = r := by
            rw [List.getElem?_singleton] at ek
            split at ek
            · exact (Option.some.inj ek).symm
            · cases ek
          subst this
          rw [upd_ne nrD, upd_same]
          rfl
      · rw [List.nodup_append]
        refine ⟨nd, by simp, fun x hx y hy e => ?_⟩
        rw [List.mem_singleton.mp hy] at e
        subst e
        exact nrr hx
      · intro x hx
        rcases List.mem_append.mp hx with hx | hx
        · exact rn x hx
        · rw [List.mem_singleton.mp hx]
          exact ⟨nr0, nrD⟩
    · rintro H4 ⟨rs, ra0, rl, nd, rn, sr0, br0⟩
      refine gn ?_
      dsimp only [List.set, L2.start]
      have rq : ∀ r ∈ rs, r ≠ h ∧ r ≠ l ∧ r ≠ D := fun r hr => ⟨(src2.new (rn r hr).1).1, (src2.new (rn r hr).1).2, (rn r hr).2⟩
      have rix : ∀ i, i < many → ∃ r, rs[i]? = some r ∧ r ∈ rs := fun i hi => ⟨rs[i]'(by omega), List.getElem?_eq_getElem (by omega), List.getElem_mem _⟩
      refine ⟨_, rfl, _, rfl, by omega, by omega, for_range (lo := 0) (n := many) (fun i σ H' => ∃ (L : Nat → List Nat) (y z wv : Option V), σ = [some (.ref h), some (.int many), some (.int kd), some (.int share), some (.ref D), y, z, wv, none, none] ∧ RowsAt H' D rs L ∧ Grow many i 0 L ∧ Src H' h l ∧ Bar h l H2 H')
        ⟨fun _ => [], none, none, none, rfl, ra0, .nil, sr0, br0⟩ ?_ ?_⟩
      · rintro i σ H5 hi ⟨L, y, z, wv, rfl, ra, gw, sr, br⟩
        rw [Int.zero_add]
        refine gn ?_
        dsimp only [List.set]
        refine ⟨_, rfl, _, _, rfl, rfl, _, rfl, _, _, rfl, ⟨by omega, by omega, by omega, by omega⟩, ?_⟩
        have en : ((many : Int) - ((i : Int) + 1)).toNat = many - (i + 1) := by omega
        rw [en]
        refine for_range (lo := (i : Int) + 1) (n := many - (i + 1)) (fun j σ H' => ∃ (L : Nat → List Nat) (z wv : Option V), σ = [some (.ref h), some (.int many), some (.int kd), some (.int share), some (.ref D), some (.int (i : Nat)), z, wv, none, none] ∧ RowsAt H' D rs L ∧ Grow many i (i + 1 + j) L ∧ Src H' h l ∧ Bar h l H2 H')
          ⟨L, z, wv, rfl, ra, gw.mono fun a b ab bm h => by omega, sr, br⟩ ?_ ?_
        · rintro j σ H6 hj ⟨L, z, wv, rfl, ra, gw, sr, br⟩
          have ej : (i : Int) + 1 + (j : Int) = ((i + 1 + j : Nat) : Int) := by omega
          rw [ej]
          refine gn ?_
          dsimp only [List.set]
          refine seqcut (fun σ' H7 => ∃ b : Bool, σ' = [some (.ref h), some (.int many), some (.int kd), some (.int share), some (.ref D), some (.int (i : Nat)), some (.int ((i + 1 + j : Nat) : Int)), some (.bl b), none, none] ∧ Src H7 h l ∧ Bar h l H6 H7) ?_ (fun out => ?_)
          · rintro σ7 H7 ⟨b, rfl, sr7, br7⟩
            have ra7 : RowsAt H7 D rs L := ⟨br7 _ _ nDh nDl ra.top, fun k q e => br7 _ _ (rq q (List.mem_of_getElem? e)).1 (rq q (List.mem_of_getElem? e)).2.1 (ra.row k q e)⟩
            refine cut2 (fun H1 => H7 = H1) (fun H1 => H7 = H1) (fun H1 e => ?_) (fun H1 e => ?_) (fun ht hf => ?_)
            · subst e
              obtain ⟨r1, e1, m1'⟩ := rix i hi
              obtain ⟨r2, e2, m2⟩ := rix (i + 1 + j) (by omega)
              have f1 : (rs.map V.ref)[i]? = some (V.ref r1) := by rw [List.getElem?_map, e1]; rfl
              have f2 : (rs.map V.ref)[i + 1 + j]? = some (V.ref r2) := by rw [List.getElem?_map, e2]; rfl
              have bnd : ∀ L, Grow many i (i + 1 + j) L → ∀ k, (L k).length ≤ many := fun L g k => by
                have := List.Nodup.length_le_card_of_sub (g.nd k) (fun x hx => (g.both k x hx).1)
                exact this
              refine ⟨_, rfl, _, rfl, D, _, _, _, rfl, rfl, SqL.of ra7.top, atI_nat f1, .inl ⟨rfl, _, SqL.of (ra7.row i r1 e1)⟩, _, rfl, r1, _, _, rfl, rfl, ra7.row i r1 e1, by rw [VI_len]; exact sz6 (Nat.le_trans (bnd L gw i) (by omega)), ?_⟩
              have ra8 : RowsAt (upd H7 r1 (.lst (VI (L i) ++ [V.int ((i + 1 + j : Nat) : Int)]))) D rs (putL L i (i + 1 + j)) := ⟨by rw [upd_ne (Ne.symm (rq r1 m1').2.2)]; exact ra7.top, row_put nd e1 ra7.row⟩
              have sr8 := sr7.put (o := .lst (VI (L i) ++ [V.int ((i + 1 + j : Nat) : Int)])) (rq r1 m1').1 (rq r1 m1').2.1
              have br8 := (br.trans br7).fresh (o := .lst (VI (L i) ++ [V.int ((i + 1 + j : Nat) : Int)])) (rn r1 m1').1
              generalize upd H7 r1 (.lst (VI (L i) ++ [V.int ((i + 1 + j : Nat) : Int)])) = H8 at ra8 sr8 br8
              refine ⟨_, rfl, _, rfl, D, _, _, _, rfl, rfl, SqL.of ra8.top, atI_nat f2, .inl ⟨rfl, _, SqL.of (ra8.row _ r2 e2)⟩, _, rfl, r2, _, _, rfl, rfl, ra8.row _ r2 e2, ?_, ?_⟩
              · rw [VI_len]
                refine sz6 (Nat.le_trans (m := many + 1) ?_ (by omega))
                unfold putL
                split
                · rw [List.length_append]
                  have := bnd L gw i
                  simp
                  exact this
                · have := bnd L gw (i + 1 + j)
                  omega
              · refine ⟨putL (putL L i (i + 1 + j)) (i + 1 + j) i, _, _, rfl, ⟨by rw [upd_ne (Ne.symm (rq r2 m2).2.2)]; exact ra8.top, row_put nd e2 ra8.row⟩, gw.put (by omega) (by omega), sr8.put (rq r2 m2).1 (rq r2 m2).2.1, br8.fresh (rn r2 m2).1⟩
            · subst e
              exact ⟨L, _, _, rfl, ra7, gw.mono fun a b ab bm h => by omega, sr7, br.trans br7⟩
            · refine ⟨_, rfl, b, rfl, ?_⟩
              cases b with
              | false => exact hf _ rfl
              | true =>
                refine ⟨_, rfl, rfl, _, rfl, ite2 (fun c => ?_) (fun c => ?_)⟩
                · exact ht _ rfl
                · refine ⟨_, rfl, _, rfl, _, _, rfl, rfl, .inl ⟨_, rfl, _, _, rfl, rfl, (show (0 : Int) < 2 by decide), rfl, _, rfl, ite2 (fun c => ?_) (fun c => ?_)⟩⟩
                  · exact ht _ rfl
                  · exact hf _ rfl
          · refine ⟨_, rfl, _, _, rfl, rfl, _, rfl, ite2 (fun c => ?_) (fun c => ?_)⟩
            · refine ⟨_, rfl, rfl, _, rfl, ite2 (fun c => ?_) (fun c => ?_)⟩
              · exact gn (out _ _ ⟨true, rfl, sr, .refl⟩)
              · exact ⟨_, rfl, _, rfl, h, l, _, rfl, sr, s0, by omega, fun x H7 x0 x1 sr7 br7 => ⟨_, _, rfl, rfl, gn (out _ _ ⟨_, rfl, sr7, br7⟩)⟩⟩
            · exact ⟨_, rfl, h, l, 4, rfl, sr, by decide, by decide, fun x H7 x0 x1 sr7 br7 => ⟨rfl, gn (out _ _ ⟨_, rfl, sr7, br7⟩)⟩⟩
        · rintro σ H6 ⟨L, z, wv, rfl, ra, gw, sr, br⟩
          exact ⟨L, _, z, wv, rfl, ra, gw.mono fun a b ab bm h => by omega, sr, br⟩
      · rintro σ H5 ⟨L, y, z, wv, rfl, ra, gw, sr, br⟩
        refine ⟨_, rfl, D, rfl, ⟨_, SqL.of ra.top⟩, fun C nC => ?_⟩
        have nC0 := br.free sr nC
        obtain ⟨nCh, nCl⟩ := sr.new nC
        have nDC : D ≠ C := ne_of_none ra.top nC
        have rC : ∀ r ∈ rs, r ≠ C := fun r hr e => by
          obtain ⟨k, hk, ek⟩ := List.mem_iff_getElem.mp hr
          have := ra.row k r (by rw [List.getElem?_eq_getElem hk, ek])
          rw [e, nC] at this
          cases this
        refine lc_list (K := K) (a := D) (xs := rs.map V.ref) (fun i H' => ∃ (ts : List Addr) (ls : List (List Nat)), H' C = some (.lst (ts.map V.ref)) ∧ ls.length = i ∧ RwX H' ts ls ∧ (∀ (j : Nat) (s : List Nat), ls[j]? = some s → s.Perm (L j)) ∧ RowsAt H' D rs L ∧ Src H' h l ∧ Bar h l H2 H')
          ⟨[], [], upd_same, rfl, ⟨rfl, fun _ _ _ e => by simp at e⟩, fun _ _ e => (by simp at e), ⟨by rw [upd_ne nDC]; exact ra.top, fun k q e => by rw [upd_ne (rC q (List.mem_of_getElem? e))]; exact ra.row k q e⟩, sr.updn nC, br.fresh nC0⟩ (fun i H' _ ⟨_, _, _, _, _, _, r, _⟩ => SqL.of r.top) ?_ ?_
        · rintro i x H6 hx ⟨ts, ls, eC, ll, rw6, pm, ra6, sr6, br6⟩
          obtain ⟨r, er, rfl⟩ : ∃ r, rs[i]? = some r ∧ x = V.ref r := by
            rw [List.getElem?_map] at hx
            cases e : rs[i]? with
            | none => rw [e] at hx; cases hx
            | some r => rw [e] at hx; exact ⟨r, rfl, (Option.some.inj hx).symm⟩
          have hr' := List.mem_of_getElem? er
          have hi : i < many := by have := (List.getElem?_eq_some_iff.mp er).1; omega
          refine gn ⟨rfl, yes ?_⟩
          refine ⟨_, rfl, _, rfl, h, l, r, VI (L i), rfl, sr6, ra6.row i r er, (rq r hr').1, (rq r hr').2.1, ?_, fun t ys H7 py sr7 br7 nt et => ?_⟩
          · rw [VI_len]
            exact Nat.le_trans (List.Nodup.length_le_card_of_sub (gw.nd i) fun x hx => (gw.both i x hx).1) (by omega)
          · obtain ⟨s, rfl, ps⟩ := perm_VI py
            refine ⟨t, _, rfl, SqL.of et, fun t2 H8 nt2 s8 ex8 _ => ?_⟩
            have br78 : Bar h l H6 H8 := br7.trans (.same s8)
            have eC7 := s8 _ _ (br7 _ _ nCh nCl eC)
            have ra7 : RowsAt H8 D rs L := ⟨s8 _ _ (br7 _ _ nDh nDl ra6.top), fun k q e => s8 _ _ (br7 _ _ (rq q (List.mem_of_getElem? e)).1 (rq q (List.mem_of_getElem? e)).2.1 (ra6.row k q e))⟩
            have tl : ts.length = i := by rw [rw6.1, ll]
            have nCt2 : t2 ≠ C := ex8.ne_lst eC7
            refine ⟨_, eC7, by rw [List.length_map, tl]; exact sz6 (by omega), ts ++ [t2], ls ++ [s], by rw [upd_same]; simp, by simp [ll], ⟨by simp [rw6.1], ?_⟩, ?_, ⟨by rw [upd_ne nDC]; exact ra7.top, fun k q e => by rw [upd_ne (rC q (List.mem_of_getElem? e))]; exact ra7.row k q e⟩, (sr7.same s8).put nCh nCl, (br6.trans br78).fresh nC0⟩
            · intro j a s' ea es
              have old := (RwX.bar rw6 sr6 br78).2
              by_cases c : j < ts.length
              · rw [List.getElem?_append_left c] at ea
                rw [List.getElem?_append_left (by rw [← rw6.1]; exact c)] at es
                have e7 := old j a s' ea es
                exact e7.put (e7.ne_lst eC7)
              · rw [List.getElem?_append_right (by omega), List.getElem?_singleton] at ea
                rw [List.getElem?_append_right (by rw [← rw6.1]; omega), List.getElem?_singleton] at es
                split at ea
                · split at es
                  · cases ea
                    cases es
                    exact ex8.put nCt2
                  · cases es
                · cases ea
            · intro j s' es
              by_cases c : j < ls.length
              · rw [List.getElem?_append_left c] at es
                exact pm j s' es
              · rw [List.getElem?_append_right (by omega), List.getElem?_singleton] at es
                split at es
                · cases es
                  have : j = i := by omega
                  subst this
                  exact ps
                · cases es
        · rintro H6 ⟨ts, ls, eC, ll, rw6, pm, ra6, sr6, br6⟩
          rw [List.length_map, rl] at ll
          refine ⟨C, _, rfl, .inl ⟨SqL.of eC, fun r nr => ?_⟩⟩
          exact q2 r ls _ (gw.ok ll pm) (sr6.updn nr) (br6.fresh (br6.free sr6 nr)) (br6.free sr6 nr) ⟨ts, upd_same, rw6.1, fun i a s e1 e2 => (rw6.2 i a s e1 e2).same (same_upd nr)⟩
end
end K14
/-! _law_names of this law -/
namespace K14
open PySem PySem.Spec PyProof.Rows L2
theorem nodup_set {α : Type} : ∀ {l : List α} {i : Nat} {x : α}, l.Nodup → x ∉ l → (l.set i x).Nodup
  | [], _, _, _, _ => by simp
  | a :: t, 0, x, nd, nx => by
    rw [List.set_cons_zero]
    exact List.nodup_cons.mpr ⟨fun h => nx (List.mem_cons_of_mem _ h), (List.nodup_cons.mp nd).2⟩
  | a :: t, i + 1, x, nd, nx => by
    rw [List.set_cons_succ]
    refine List.nodup_cons.mpr ⟨fun h => ?_, nodup_set (List.nodup_cons.mp nd).2 fun h => nx (List.mem_cons_of_mem _ h)⟩
    rcases List.mem_or_eq_of_mem_set h with z | z
    · exact (List.nodup_cons.mp nd).1 z
    · exact nx (by rw [z]; exact List.mem_cons_self)
def nm2 (F : List Nat) (many i : Nat) : List Nat := if 26 < many then F ++ [97 + i / 26] ++ [97 + i % 26] else F ++ [97 + 7 * i % 26]
def nms2 (F : List Nat) (many n : Nat) : List (List Nat) := (List.range n).map (nm2 F many)
theorem nms2_len (F : List Nat) (many n : Nat) : (nms2 F many n).length = n := by simp [nms2]
theorem nms2_succ (F : List Nat) (many n : Nat) : nms2 F many (n + 1) = nms2 F many n ++ [nm2 F many n] := by simp [nms2, List.range_succ]
theorem nms2_get {F : List Nat} {many n i : Nat} (h : i < n) : (nms2 F many n)[i]? = some (nm2 F many i) := by
  unfold nms2
  rw [List.getElem?_map, List.getElem?_range h]
  rfl
theorem nm2_len (F : List Nat) (many i : Nat) : (nm2 F many i).length = F.length + (if 26 < many then 2 else 1) := by
  unfold nm2
  split <;> simp
theorem nm2_inj {F : List Nat} {many i j : Nat} (hi : i < many) (hj : j < many) (h : nm2 F many i = nm2 F many j) : i = j := by
  unfold nm2 at h
  split at h
  · rw [List.append_assoc, List.append_assoc] at h
    have h1 := List.append_cancel_left h
    simp at h1
    omega
  · have h1 := List.append_cancel_left h
    simp at h1
    omega
theorem nm2_each {F : List Nat} {many i : Nat} (hF : ∀ c ∈ F, 97 ≤ c ∧ c ≤ 122) (m : many ≤ 60) (hi : i < many) : ∀ c ∈ nm2 F many i, 97 ≤ c ∧ c ≤ 122 := by
  intro c hc
  unfold nm2 at hc
  split at hc
  · rcases List.mem_append.mp hc with hc | hc
    · rcases List.mem_append.mp hc with hc | hc
      · exact hF c hc
      · rw [List.mem_singleton.mp hc]
        omega
    · rw [List.mem_singleton.mp hc]
      omega
  · rcases List.mem_append.mp hc with hc | hc
    · exact hF c hc
    · rw [List.mem_singleton.mp hc]
      omega
theorem nms2_nodup {F : List Nat} {many : Nat} : (nms2 F many many).Nodup := by
  unfold nms2
  refine List.pairwise_map.mpr ?_
  refine List.Pairwise.imp_of_mem ?_ (List.nodup_range (n := many))
  intro i j hi hj ne e
  rw [List.mem_range] at hi hj
  exact ne (nm2_inj hi hj e)
/-- 'o' once, or not at all -/
theorem op_once {X : Cx} : OpR X (binaryOp .Mult) (fun x y H Q => ∃ (a : Str) (n : Int), x = .str a ∧ y = .int n ∧ (n = 0 ∨ n = 1) ∧ Q (.str (if n = 1 then a else Str.empty)) H) := by
  intro pins s σ H x y v u Q I rx ry h
  obtain ⟨a, n, rfl, rfl, hn, q⟩ := h
  obtain ⟨t, rfl⟩ := rx
  obtain ⟨t', rfl⟩ := ry
  rcases hn with rfl | rfl
  · exact PySem.P.mul_str_none (by decide) (by decide) ⟨.str Str.empty, H, I.tok _, ⟨_, rfl⟩, q⟩
  · refine PySem.P.mul_str (by decide) (fun _ z => by simp at z) (fun _ z => by simp at z) ?_
    rw [if_neg (by decide), if_pos (by simp)]
    exact ⟨.str a, H, I, ⟨t, rfl⟩, q⟩
def spNames2 : Sp := fun vs H Q _ => ∃ (h l : Addr) (many : Nat), vs = [.ref h, .int many] ∧ Src H h l ∧ 0 < many ∧ many ≤ 60 ∧
  ∀ (r : Addr) (ns : List (List Nat)) (H' : Hp), NamesOk many ns → Src H' h l → Bar h l H H' → H r = none → H' r = some (.tup (VN ns)) → Q (.ref r) H'
theorem scNames2 : FnScope ["heap", "many", "letters", "front", "found", "at"] ["heap", "many"] (defScope sNames2) := ⟨rfl, rfl, rfl, by decide +kernel, rfl, by decide +kernel, by decide +kernel⟩
section
variable {P : Program} {w : World} {K : PySem.W.Frag} {mg : Str → Option Value} {base : Heap}
theorem ok_names2 {f g p : Addr} {fd gd pd : FuncData} {k : Nat} (F : Fun K "_law_names" "_law_names" sNames2 f fd) (G : FnOk P w K mg base CX0 k g gd ["heap", "many"] spDraw) (bG : Binds K gd ["heap", "many"] []) (kG : PySem.W.keepIn K (.ref g) = true) (mG : mg "_law_draw" = some (.ref g))
    (R : FnOk P w K mg base CX0 k p pd ["heap", "some"] spPick) (bR : Binds K pd ["heap", "some"] []) (kR : PySem.W.keepIn K (.ref p) = true) (mR : mg "_law_pick" = some (.ref p)) (mi : mg "int" = none) (ml : mg "len" = none) (mr : mg "range" = none) (ms : mg "sorted" = none) (mt : mg "tuple" = none) :
    FnOk P w K mg base CX0 (k + 1) f fd ["heap", "many"] spNames2 := by
  refine F.ok scNames2 (fun vs H Q E h => ?_) (fun cdv A outer s H vs Q E hr h => ?_)
  · obtain ⟨h, l, many, rfl, _⟩ := h
    rfl
  obtain ⟨h, l, many, rfl, src, m0, m1, q⟩ := h
  refine ⟨_, pss_cons (ps_par3 (i := 2) (j := 3) (l := 4) rfl scNames2.nd rfl rfl rfl (by decide) (by decide) (by decide) rfl rfl rfl (pa_cons pe_str (pa_cons (pe_call R hr rfl mR kR bR .nil pass0 (pa_cons (pv 0) (pa_cons (pe_lst (pa_cons pe_str (pa_cons pe_str (pa_cons pe_str (pa_cons pe_str (pa_cons pe_str pa_nil)))))) pa_nil))) (pa_cons (pe_lst pa_nil) pa_nil))) (by rfl))
      (pss_cons (ps_for PassesOwn.never rfl (pi_range1 rfl mr (pa_cons (pv 1) pa_nil)) (pg_name (i := 5) scNames2.nd rfl (.inl rfl))
      (pss_one (ps_expr (pe_bm PySem.F.plainAttrs_list PySem.F.slot_list_append PySem.F.type_list_append mt_append (pv 4) (pa_cons (pe_ifExp (pt_cmpR op_gt (pv 1) pe_int (nomark _)) (pe_op op_add_str (pe_op op_add_str (pv 3) (pe_ix ix_str (pv 2) (pe_callTy call_int1 (by rfl) mi (by decide +kernel) (pa_cons (pe_op op_fdiv (pv 5) pe_int) pa_nil)) (fun _ _ => rfl))) (pe_ix ix_str (pv 2) (pe_op op_mod (pe_callTy call_int1 (by rfl) mi (by decide +kernel) (pa_cons (pv 5) pa_nil)) pe_int) (fun _ _ => rfl))) (pe_op op_add_str (pv 3) (pe_ix ix_str (pv 2) (pe_op op_mod (pe_callTy call_int1 (by rfl) mi (by decide +kernel) (pa_cons (pe_op op_mul pe_int (pv 5)) pa_nil)) pe_int) (fun _ _ => rfl)))) pa_nil)))))
      (pss_cons (ps_set (i := 5) scNames2.nd rfl (.inl rfl) (pe_call G hr rfl mG kG bG .nil pass0 (pa_cons (pv 0) (pa_cons (pv 1) pa_nil))))
      (pss_cons (ps_asg (pe_op op_add_str (pe_ix ix_list (pv 4) (pv 5) (fun _ _ => rfl)) (pe_op op_once pe_str (pe_callTy call_int1 (by rfl) mi (by decide +kernel) (pa_cons (pe_and (pe_cmpR op_lt (pe_callB call_len_str (by rfl) ml PySem.boot_len (pa_cons (pe_ix ix_list (pv 4) (pv 5) (fun _ _ => rfl)) pa_nil)) pe_int (nomark _)) (pe_one (pe_cmpR op_eq (pe_call G hr rfl mG kG bG .nil pass0 (pa_cons (pv 0) (pa_cons pe_int pa_nil))) pe_int (nomark _)))) pa_nil)))) (pg_sub (pv 4) (pv 5) set_list))
      (pss_one (ps_ret (pe_callTy call_tuple_of (by rfl) mt (by decide +kernel) (pa_cons (pe_callB cr_sortedS (by rfl) ms (by decide +kernel) (pa_cons (pv 4) pa_nil)) pa_nil))))))), ?_⟩
  refine ⟨_, rfl, (by show 5 ≤ sizeLine; decide), fun u nu => ?_⟩
  obtain ⟨nuh, nul⟩ := src.new nu
  refine ⟨h, l, u, _, rfl, src.updn nu, .inl upd_same, nuh, nul, by simp, by simp, fun j v H1 hv src1 bar1 => ?_⟩
  obtain ⟨F0, rfl, f4, fl⟩ : ∃ F0 : List Nat, v = .str (SS F0) ∧ F0.length ≤ 4 ∧ ∀ c ∈ F0, 97 ≤ c ∧ c ≤ 122 := by
    match j, hv with
    | 0, hv => exact ⟨[], (Option.some.inj hv).symm, by decide, by decide⟩
    | 1, hv => exact ⟨[], (Option.some.inj hv).symm, by decide, by decide⟩
    | 2, hv => exact ⟨[98], (Option.some.inj hv).symm, by decide, by decide⟩
    | 3, hv => exact ⟨[122, 122], (Option.some.inj hv).symm, by decide, by decide⟩
    | 4, hv => exact ⟨[109, 110, 111, 112], (Option.some.inj hv).symm, by decide, by decide⟩
  have bar01 : Bar h l H H1 := (Bar.refl.fresh nu).trans bar1
  refine ⟨Nat.zero_le _, fun D nD => ⟨_, _, _, rfl, ?_⟩⟩
  have nD0 := bar01.free src1 nD
  obtain ⟨nDh, nDl⟩ := src1.new nD
  dsimp only [List.set, L2.start]
  refine ⟨_, rfl, _, rfl, by omega, by omega, for_range (lo := 0) (n := many) (fun i σ H' => ∃ y : Option V, σ = [some (.ref h), some (.int many), some (.str "abcdefghijklmnopqrstuvwxyz"), some (.str (SS F0)), some (.ref D), y] ∧ H' D = some (.lst ((nms2 F0 many i).map fun s => V.str (SS s))) ∧ Src H' h l ∧ Bar h l H H')
    ⟨none, rfl, upd_same, src1.updn nD, bar01.fresh nD0⟩ ?_ ?_⟩
  · rintro i σ H4 hi ⟨y, rfl, eD, sr, br⟩
    rw [Int.zero_add]
    refine gn ?_
    dsimp only [List.set]
    have fin : ∀ x : Str, x = SS (nm2 F0 many i) → H4 D = some (.lst ((nms2 F0 many i).map fun s => V.str (SS s))) ∧ ((nms2 F0 many i).map fun s => V.str (SS s)).length < sizeLine ∧ ∃ y : Option V, [some (V.ref h), some (.int many), some (.str "abcdefghijklmnopqrstuvwxyz"), some (.str (SS F0)), some (.ref D), some (.int (i : Nat))] = [some (.ref h), some (.int many), some (.str "abcdefghijklmnopqrstuvwxyz"), some (.str (SS F0)), some (.ref D), y] ∧
        upd H4 D (.lst (((nms2 F0 many i).map fun s => V.str (SS s)) ++ [.str x])) D = some (.lst ((nms2 F0 many (i + 1)).map fun s => V.str (SS s))) ∧ Src (upd H4 D (.lst (((nms2 F0 many i).map fun s => V.str (SS s)) ++ [.str x]))) h l ∧ Bar h l H (upd H4 D (.lst (((nms2 F0 many i).map fun s => V.str (SS s)) ++ [.str x]))) := by
      rintro x rfl
      refine ⟨eD, by rw [List.length_map, nms2_len]; exact sz6 (by omega), _, rfl, ?_, sr.put nDh nDl, br.fresh nD0⟩
      rw [upd_same, nms2_succ, List.map_append]
      rfl
    have h26 : ∀ j : Nat, j % 26 < 26 := fun j => Nat.mod_lt _ (by decide)
    refine ⟨_, rfl, .inl ⟨rfl, _, SqL.of eD⟩, _, rfl, _, _, rfl, rfl, _, rfl, ite2 (fun c => ?_) (fun c => ?_)⟩
    · have c : 26 < many := by have := of_decide_eq_true c; omega
      have e1 : (i : Int) / 26 = ((i / 26 : Nat) : Int) := by omega
      have e2 : (i : Int) % 26 = ((i % 26 : Nat) : Int) := by omega
      refine ⟨_, rfl, _, rfl, _, rfl, _, _, rfl, rfl, ⟨by decide, by decide⟩, .inl ⟨_, rfl, ?_⟩⟩
      dsimp only
      rw [e1]
      refine ⟨_, _, 97 + i / 26, rfl, rfl, (by decide), atI_nat (let_get (by omega)), _, _, rfl, rfl, ?_, _, rfl, _, rfl, .inl ⟨_, rfl, _, _, rfl, rfl, (show (0 : Int) < 26 by decide), ?_⟩⟩
      · rw [SS_len]
        show F0.length + 1 ≤ sizeLine
        exact sz5 (by omega)
      dsimp only
      rw [e2]
      refine ⟨_, _, 97 + i % 26, rfl, rfl, (by decide), atI_nat (let_get (h26 i)), _, _, rfl, rfl, ?_, D, _, _, rfl, rfl, fin _ ?_⟩
      · rw [show (SS F0 ++ (⟨#[97 + i / 26]⟩ : Str)) = SS (F0 ++ [97 + i / 26]) from SS_app F0 [97 + i / 26], SS_len, List.length_append]
        show F0.length + 1 + 1 ≤ sizeLine
        exact sz5 (by omega)
      · rw [show (SS F0 ++ (⟨#[97 + i / 26]⟩ : Str)) = SS (F0 ++ [97 + i / 26]) from SS_app F0 [97 + i / 26]]
        unfold nm2
        rw [if_pos c]
        exact SS_app (F0 ++ [97 + i / 26]) [97 + i % 26]
    · have c : ¬ 26 < many := fun z => c (decide_eq_true (by omega))
      have e1 : (7 * (i : Int)) % 26 = ((7 * i % 26 : Nat) : Int) := by omega
      refine ⟨_, rfl, _, rfl, _, rfl, _, _, rfl, rfl, .inl ⟨by decide, by decide⟩, .inl ⟨_, rfl, _, _, rfl, rfl, (show (0 : Int) < 26 by decide), ?_⟩⟩
      dsimp only
      rw [e1]
      refine ⟨_, _, 97 + 7 * i % 26, rfl, rfl, (by decide), atI_nat (let_get (h26 _)), _, _, rfl, rfl, ?_, D, _, _, rfl, rfl, fin _ ?_⟩
      · rw [SS_len]
        show F0.length + 1 ≤ sizeLine
        exact sz5 (by omega)
      · unfold nm2
        rw [if_neg c]
        exact SS_app F0 [97 + 7 * i % 26]
  · rintro σ H4 ⟨y, rfl, eD, sr, br⟩
    dsimp only
    refine ⟨_, rfl, _, rfl, h, l, _, rfl, sr, by omega, by omega, fun x H5 x0 x1 sr5 br5 => ?_⟩
    obtain ⟨a, rfl⟩ : ∃ a : Nat, x = (a : Int) := ⟨x.toNat, by omega⟩
    have ha : a < many := by omega
    refine gn ?_
    dsimp only [List.set]
    have eD5 := br5 _ _ nDh nDl eD
    have hz : ((nms2 F0 many many).map fun s => V.str (SS s))[a]? = some (V.str (SS (nm2 F0 many a))) := by
      rw [List.getElem?_map, nms2_get ha]
      rfl
    have n6 : (nm2 F0 many a).length ≤ 6 := by
      rw [nm2_len]
      split <;> omega
    have each : ∀ s ∈ nms2 F0 many many, 1 ≤ s.length ∧ s.length ≤ 6 ∧ ∀ c ∈ s, 97 ≤ c ∧ c ≤ 122 := fun s hs => by
      obtain ⟨i, hi, rfl⟩ := List.mem_map.mp hs
      rw [List.mem_range] at hi
      refine ⟨?_, ?_, nm2_each fl m1 hi⟩
      · rw [nm2_len]
        split <;> omega
      · rw [nm2_len]
        split <;> omega
    refine seqcut (fun σ' H' => ∃ zs : List (List Nat), σ' = [some (.ref h), some (.int many), some (.str "abcdefghijklmnopqrstuvwxyz"), some (.str (SS F0)), some (.ref D), some (.int (a : Nat))] ∧ H' D = some (.lst (zs.map fun s => V.str (SS s))) ∧ zs.length = many ∧ zs.Nodup ∧ (∀ s ∈ zs, 1 ≤ s.length ∧ s.length ≤ 6 ∧ ∀ c ∈ s, 97 ≤ c ∧ c ≤ 122) ∧ Src H' h l ∧ Bar h l H H') ?_ (fun out => ?_)
    · rintro σ' H' ⟨zs, rfl, eD', lz, nd, ea, sr', br'⟩
      refine ⟨_, rfl, D, zs.map SS, rfl, SqL.of (by rw [eD']; simp), by simp [lz]; omega, fun ys p' pm so np => ?_⟩
      obtain ⟨ns, ok, rfl⟩ := names_of lz nd ea pm so
      have np0 := br'.free sr' np
      refine ⟨p', _, rfl, .inl ⟨SqL.of upd_same, fun r nr => ?_⟩⟩
      have nr0 := (br'.fresh (o := .lst ((ns.map SS).map V.str)) np0).free (sr'.updn np) nr
      refine q r ns _ ok ((sr'.updn np).updn nr) ((br'.fresh np0).fresh nr0) nr0 ?_
      rw [upd_same, VN_eq]
    · have last : ∀ (W : List Nat) (H6 : Hp) (x : Str), Src H6 h l → Bar h l H5 H6 → (W = [] ∨ (W = [111] ∧ (nm2 F0 many a).length < 6)) → x = SS (nm2 F0 many a ++ W) →
          ∃ zs : List (List Nat), [some (V.ref h), some (.int many), some (.str "abcdefghijklmnopqrstuvwxyz"), some (.str (SS F0)), some (.ref D), some (.int (a : Nat))] = [some (V.ref h), some (.int many), some (.str "abcdefghijklmnopqrstuvwxyz"), some (.str (SS F0)), some (.ref D), some (.int (a : Nat))] ∧ upd H6 D (.lst (((nms2 F0 many many).map fun s => V.str (SS s)).set a (.str x))) D = some (.lst (zs.map fun s => V.str (SS s))) ∧ zs.length = many ∧ zs.Nodup ∧ (∀ s ∈ zs, 1 ≤ s.length ∧ s.length ≤ 6 ∧ ∀ c ∈ s, 97 ≤ c ∧ c ≤ 122) ∧
            Src (upd H6 D (.lst (((nms2 F0 many many).map fun s => V.str (SS s)).set a (.str x)))) h l ∧ Bar h l H (upd H6 D (.lst (((nms2 F0 many many).map fun s => V.str (SS s)).set a (.str x)))) := by
        rintro W H6 x s6 b6 hW rfl
        refine ⟨(nms2 F0 many many).set a (nm2 F0 many a ++ W), rfl, ?_, by rw [List.length_set, nms2_len], ?_, ?_, s6.put nDh nDl, ((br.trans br5).trans b6).fresh nD0⟩
        · rw [upd_same, List.map_set]
        · rcases hW with rfl | ⟨rfl, _⟩
          · rw [List.append_nil]
            have e : (nms2 F0 many many).set a (nm2 F0 many a) = nms2 F0 many many := by
              obtain ⟨h1, h2⟩ := List.getElem?_eq_some_iff.mp (nms2_get (F := F0) (many := many) ha)
              rw [← h2]
              exact List.set_getElem_self h1
            rw [e]
            exact nms2_nodup
          · refine nodup_set nms2_nodup fun z => ?_
            obtain ⟨i, hi, e⟩ := List.mem_map.mp z
            have e := congrArg List.length e
            rw [List.length_append, nm2_len, nm2_len] at e
            simp at e
        · intro s hs
          rcases List.mem_or_eq_of_mem_set hs with z | rfl
          · exact each s z
          · have := nm2_len F0 many a
            refine ⟨?_, ?_, fun c hc => ?_⟩
            · rw [List.length_append, this]
              split <;> omega
            · rw [List.length_append]
              rcases hW with rfl | ⟨rfl, h6⟩
              · simpa using n6
              · simp
                omega
            · rcases List.mem_append.mp hc with z | z
              · exact nm2_each fl m1 ha c z
              · rcases hW with rfl | ⟨rfl, _⟩
                · cases z
                · rw [List.mem_singleton.mp z]
                  decide
      have eE : ∀ s : List Nat, SS s ++ Str.empty = SS (s ++ []) := fun s => SS_app s []
      have ixa : ∀ m, m = many → ixN m (a : Int) = some a := fun m e => K14.ixN_nat (by omega)
      refine ⟨_, rfl, _, rfl, D, _, _, _, rfl, rfl, SqL.of eD5, atI_nat hz, _, rfl, _, rfl, D, _, _, _, rfl, rfl, SqL.of eD5, atI_nat hz, _, rfl, by rw [SS_len]; exact sz5 (by omega), _, _, rfl, rfl, _, rfl, ite2 (fun c1 => ?_) (fun c1 => ?_)⟩
      · rw [SS_len] at c1
        have c1 : (nm2 F0 many a).length < 6 := Int.ofNat_lt.mp (of_decide_eq_true c1)
        refine ⟨_, rfl, h, l, 2, rfl, sr5, by decide, by decide, fun x H6 y0 y1 sr6 br6 => ⟨rfl, ?_⟩⟩
        have eD6 := br6 _ _ nDh nDl eD5
        refine .inr ⟨_, rfl, ?_⟩
        generalize decide (V.int x = V.int 0) = kb
        have oo : ∀ s : List Nat, SS s ++ ("o" : Str) = SS (s ++ [111]) := fun s => SS_app s [111]
        cases kb
        · refine ⟨_, _, rfl, rfl, .inl rfl, _, _, rfl, rfl, ?_, _, rfl, _, rfl, D, _, _, a, rfl, rfl, eD6, ixa _ (by rw [List.length_map, nms2_len]), ?_⟩
          · rw [SS_len]
            show (nm2 F0 many a).length + 0 ≤ sizeLine
            exact sz5 (by omega)
          · exact out _ _ (last [] H6 _ sr6 br6 (.inl rfl) (eE _))
        · refine ⟨_, _, rfl, rfl, .inr rfl, _, _, rfl, rfl, ?_, _, rfl, _, rfl, D, _, _, a, rfl, rfl, eD6, ixa _ (by rw [List.length_map, nms2_len]), ?_⟩
          · rw [SS_len]
            show (nm2 F0 many a).length + 1 ≤ sizeLine
            exact sz5 (by omega)
          · exact out _ _ (last [111] H6 _ sr6 br6 (.inr ⟨rfl, c1⟩) (oo _))
      · refine .inr ⟨_, rfl, _, _, rfl, rfl, .inl rfl, _, _, rfl, rfl, ?_, _, rfl, _, rfl, D, _, _, a, rfl, rfl, eD5, ixa _ (by rw [List.length_map, nms2_len]), ?_⟩
        · rw [SS_len]
          show (nm2 F0 many a).length + 0 ≤ sizeLine
          exact sz5 (by omega)
        · exact out _ _ (last [] H5 _ sr5 .refl (.inl rfl) (eE _))
end
end K14
/-! _law_ranks -/
namespace K14
open PySem PySem.Spec PyProof.Rows L2
theorem VR_nil (n : Nat) : VR n [] = List.replicate n V.non := by
  unfold VR
  apply List.ext_getElem
  · simp
  · intro i h1 h2
    simp [rkV]
theorem VR_put {n i : Nat} {s : List Nat} (nd : s.Nodup) (hi : i < s.length) : (VR n (s.take i)).set s[i] (.int (i : Nat)) = VR n (s.take (i + 1)) := by
  apply List.ext_getElem?
  intro j
  have tk : s.take (i + 1) = s.take i ++ [s[i]] := by
    rw [List.take_succ, List.getElem?_eq_getElem hi]
    rfl
  have ni : s[i] ∉ s.take i := fun h => by
    have nd2 : (s.take i ++ [s[i]]).Nodup := by rw [← tk]; exact nd.sublist (List.take_sublist _ _)
    exact (List.nodup_append.mp nd2).2.2 _ h _ (by simp) rfl
  by_cases hj : j < n
  · rw [VR_get hj, List.getElem?_set, VR_len]
    by_cases e : s[i] = j
    · subst e
      rw [if_pos rfl, if_pos hj]
      unfold rkV
      rw [tk, if_pos (List.mem_append.mpr (.inr (List.mem_singleton.mpr rfl))), List.idxOf_append, if_neg ni, List.length_take]
      simp
      omega
    · rw [if_neg e, VR_get hj]
      unfold rkV
      rw [tk]
      by_cases c : j ∈ s.take i
      · rw [if_pos c, if_pos (List.mem_append.mpr (.inl c)), List.idxOf_append, if_pos c]
      · rw [if_neg c, if_neg fun h => (List.mem_append.mp h).elim c fun z => e (List.mem_singleton.mp z).symm]
  · rw [List.getElem?_eq_none (by rw [List.length_set, VR_len]; omega), List.getElem?_eq_none (by rw [VR_len]; omega)]
def spLRanks : Sp := fun vs H Q _ => ∃ (a : Addr) (many : Nat) (s : List Nat), vs = [.ref a, .int many] ∧ Tp H a (VI s) ∧ s.Nodup ∧ (∀ x ∈ s, x < many) ∧ many ≤ 60 ∧ ∀ (r : Addr) (H' : Hp), Same H H' → H r = none → H' r = some (.lst (VR many s)) → Q (.ref r) H'
theorem scLRanks : FnScope ["some", "many", "found", "at"] ["some", "many"] (defScope sLRanks) := ⟨rfl, rfl, rfl, by decide +kernel, rfl, by decide +kernel, by decide +kernel⟩
section
variable {P : Program} {w : World} {K : PySem.W.Frag} {mg : Str → Option Value} {base : Heap}
theorem ok_lranks {f : Addr} {fd : FuncData} {k : Nat} (F : Fun K "_law_ranks" "_law_ranks" sLRanks f fd) (ml : mg "len" = none) (mr : mg "range" = none) : FnOk P w K mg base CX0 (k + 1) f fd ["some", "many"] spLRanks := by
  refine F.ok scLRanks (fun vs H Q E h => ?_) (fun cdv A outer s H vs Q E hr h => ?_)
  · obtain ⟨a, many, s, rfl, _⟩ := h
    rfl
  obtain ⟨a, many, s, rfl, ts, nd, lt, m60, q⟩ := h
  have sl : s.length ≤ many := List.Nodup.length_le_card_of_sub nd lt
  refine ⟨_, pss_cons (ps_set (i := 2) scLRanks.nd rfl (.inl rfl) (pe_op op_rep (pe_lst (pa_cons pe_non pa_nil)) (pv 1)))
      (pss_cons (ps_for PassesOwn.never rfl (pi_range1 rfl mr (pa_cons (pe_callB call_len_seq (by rfl) ml PySem.boot_len (pa_cons (pv 0) pa_nil)) pa_nil)) (pg_name (i := 3) scLRanks.nd rfl (.inl rfl))
      (pss_one (ps_asg (pv 3) (pg_sub (pv 2) (pe_ix ix_tup (pv 0) (pv 3) (fun _ _ => rfl)) set_list))))
      (pss_one (ps_ret (pv 2)))), ?_⟩
  refine ⟨by show 1 ≤ sizeLine; decide, fun D0 nD0 => ⟨_, rfl, D0, _, _, rfl, rfl, upd_same, by omega, by omega, ?_, fun D nD1 => ?_⟩⟩
  · show 1 * (many : Int).toNat ≤ sizeLine
    rw [Int.toNat_natCast, Nat.one_mul]
    exact Nat.le_trans m60 (by decide)
  have er : (List.replicate ((many : Nat) : Int).toNat [V.non]).flatten = VR many [] := by
    rw [Int.toNat_natCast, VR_nil]
    exact List.flatten_replicate_singleton
  rw [er]
  have s1 : Same H (upd H D0 (.lst [.non])) := same_upd nD0
  have nD : H D = none := s1.free nD1
  have s2 := s1.fresh (o := .lst (VR many [])) nD
  have eD : upd (upd H D0 (.lst [.non])) D (.lst (VR many [])) D = some (.lst (VR many [])) := upd_same
  generalize upd (upd H D0 (.lst [.non])) D (.lst (VR many [])) = H2 at s2 eD ⊢
  refine gn ?_
  dsimp only [List.set, L2.start]
  refine ⟨_, rfl, a, _, rfl, .inr (Tp.sq (ts.same s2)), ?_⟩
  rw [VI_len]
  refine ⟨_, rfl, by omega, by omega, for_range (lo := 0) (n := s.length) (fun i σ H' => ∃ y : Option V, σ = [some (.ref a), some (.int many), some (.ref D), y] ∧ Same H H' ∧ H' D = some (.lst (VR many (s.take i)))) ⟨none, rfl, s2, by rw [List.take_zero]; exact eD⟩ ?_ ?_⟩
  · rintro i σ H3 hi ⟨y, rfl, s3, e3⟩
    rw [Int.zero_add]
    refine gn ?_
    dsimp only [List.set]
    refine ⟨_, rfl, _, rfl, _, rfl, _, rfl, a, _, _, _, rfl, rfl, Tp.sq (ts.same s3), atI_nat (VI_get (List.getElem?_eq_getElem hi)), ?_⟩
    refine ⟨D, _, _, s[i], rfl, rfl, e3, K14.ixN_nat (by rw [VR_len]; exact lt _ (List.getElem_mem hi)), _, rfl, s3.fresh nD, ?_⟩
    rw [upd_same, VR_put nd hi]
  · rintro σ H3 ⟨y, rfl, s3, e3⟩
    rw [List.take_length] at e3
    exact ⟨_, rfl, q D H3 s3 nD e3⟩
end
end K14
namespace K14
open PySem PySem.Spec PyProof.Rows L2
theorem named4 {K : PySem.W.Frag} {x qual : Str} {st : Stmt} {f : Addr} {fd : FuncData} {n m o r : Str} (F : Fun K x qual st f fd)
    (h0 : ∀ (kV doc pm : Value) (an : Option Addr) (cdv ct u v t y : Value), bindArgs (PySem.W.fnOf x qual (defArgs st) (defBody st) (defScope st) .none kV doc pm an cdv ct) ⟨[u, v, t, y], []⟩ = pure [(n, u), (m, v), (o, t), (r, y)])
    (h1 : ∀ (kV doc pm : Value) (an : Option Addr) (cdv ct u v t y : Value), bindArgs (PySem.W.fnOf x qual (defArgs st) (defBody st) (defScope st) .none kV doc pm an cdv ct) ⟨[u, v, t], [(r, y)]⟩ = pure [(n, u), (m, v), (o, t), (r, y)])
    (h2 : ∀ (kV doc pm : Value) (an : Option Addr) (cdv ct u v t y : Value), bindArgs (PySem.W.fnOf x qual (defArgs st) (defBody st) (defScope st) .none kV doc pm an cdv ct) ⟨[u, v], [(r, y), (o, t)]⟩ = pure [(n, u), (m, v), (o, t), (r, y)])
    (h3 : ∀ (kV doc pm : Value) (an : Option Addr) (cdv ct u v t y : Value), bindArgs (PySem.W.fnOf x qual (defArgs st) (defBody st) (defScope st) .none kV doc pm an cdv ct) ⟨[u], [(r, y), (o, t), (m, v)]⟩ = pure [(n, u), (m, v), (o, t), (r, y)])
    (h4 : ∀ (kV doc pm : Value) (an : Option Addr) (cdv ct u v t y : Value), bindArgs (PySem.W.fnOf x qual (defArgs st) (defBody st) (defScope st) .none kV doc pm an cdv ct) ⟨[], [(r, y), (o, t), (m, v), (n, u)]⟩ = pure [(n, u), (m, v), (o, t), (r, y)]) :
    KBinds K fd [n, m, o, r] [r, o, m, n] (fun us ws => us ++ ws.reverse) (fun vs zs => vs ++ zs.reverse) := by
  obtain ⟨oc, od, kV, doc, pm, an, cdv, ct, osl, rfl, lk, hcd⟩ := F.ex
  refine ⟨fun s us ws _ hl => ?_, fun a b => a.append (vals_rev b)⟩
  have hl' : ws.length + us.length = 4 := by simpa [Nat.add_comm] using hl
  match us, ws, hl' with
  | [u, v, t, y], [], _ => exact .of_eq (h0 kV doc pm an cdv ct u v t y)
  | [u, v, t], [y], _ => exact .of_eq (h1 kV doc pm an cdv ct u v t y)
  | [u, v], [y, t], _ => exact .of_eq (h2 kV doc pm an cdv ct u v t y)
  | [u], [y, t, v], _ => exact .of_eq (h3 kV doc pm an cdv ct u v t y)
  | [], [y, t, v, u], _ => exact .of_eq (h4 kV doc pm an cdv ct u v t y)
theorem named1 {K : PySem.W.Frag} {x qual : Str} {st : Stmt} {f : Addr} {fd : FuncData} {n : Str} (F : Fun K x qual st f fd)
    (h0 : ∀ (kV doc pm : Value) (an : Option Addr) (cdv ct u : Value), bindArgs (PySem.W.fnOf x qual (defArgs st) (defBody st) (defScope st) .none kV doc pm an cdv ct) ⟨[u], []⟩ = pure [(n, u)])
    (h1 : ∀ (kV doc pm : Value) (an : Option Addr) (cdv ct u : Value), bindArgs (PySem.W.fnOf x qual (defArgs st) (defBody st) (defScope st) .none kV doc pm an cdv ct) ⟨[], [(n, u)]⟩ = pure [(n, u)]) :
    KBinds K fd [n] [n] (fun us ws => us ++ ws) (fun vs zs => vs ++ zs) := by
  obtain ⟨oc, od, kV, doc, pm, an, cdv, ct, osl, rfl, lk, hcd⟩ := F.ex
  refine ⟨fun s us ws _ hl => ?_, fun a b => a.append b⟩
  match us, ws, hl with
  | [u], [], _ => exact .of_eq (h0 kV doc pm an cdv ct u)
  | [], [u], _ => exact .of_eq (h1 kV doc pm an cdv ct u)
end K14
/-! repr of any value -/
namespace K14
open PySem PySem.Spec PyProof.Rows L2
abbrev rReprV (K : PySem.W.Frag) : List V → Hp → VK → Prop := fun xs H Q => ∃ v d, xs = [v] ∧ Dp K H v d ∧ (∀ i, v = .int i → i.natAbs < 1048576) ∧ d.showable = true ∧ d.hasDict = false ∧ d.depth ≤ 60 ∧ d.shown.length ≤ sizeLine ∧ Q (.str d.shown) H
theorem call_reprV {X : Cx} (hg : X.A.guards = some []) (hu : X.A.units + 64 < cLine) : CallR X (.builtin "repr") (rReprV X.K) := by
  intro pins s σ H xs us Q I r h
  obtain ⟨v, d, rfl, hd, hi, hs, hn, hz, hl, q⟩ := h
  obtain ⟨u, rfl, ru⟩ := vals1 r
  cases v with
  | ref a =>
    obtain ⟨as, rd⟩ := Dp.reads I d _ _ hd ru
    cases ru
    exact repr_of_reads' rd hs (PyData.noDict_hsm hn) hg (by omega) (fun _ _ e => e) (fun h' t tk keep => ⟨.str d.shown, H, I.kept keep, ⟨t, rfl⟩, q⟩) hl
  | non =>
    cases hd
    cases ru
    have e : (PyData.none).shown = Str.ofString "None" := by
      simp only [PyData.shown]
    rw [e] at q
    exact PySem.P.repr_of_none ⟨.str (Str.ofString "None"), H, I.tok _, ⟨_, rfl⟩, q⟩
  | bl b =>
    cases hd
    cases ru
    have e : (PyData.bool b).shown = if b = true then Str.ofString "True" else Str.ofString "False" := by
      cases b <;> simp only [PyData.shown] <;> rfl
    rw [e] at q
    exact PySem.P.repr_of_bool ⟨.str (if b = true then Str.ofString "True" else Str.ofString "False"), H, I.tok _, ⟨_, rfl⟩, q⟩
  | int i =>
    cases hd
    obtain ⟨t, rfl⟩ := ru
    have h := hi i rfl
    have e : (PyData.int i).shown = Str.ofString (toString i) := by simp only [PyData.shown]
    rw [e] at q
    refine PySem.P.repr_of_int ?_ ⟨.str (Str.ofString (toString i)), H, I.tok _, ⟨_, rfl⟩, q⟩
    by_cases z : i.natAbs = 0
    · rw [z]
      decide
    · have : i.natAbs.log2 < 20 := (Nat.log2_lt z).mpr (by omega)
      omega
  | str x =>
    cases hd
    obtain ⟨t, rfl⟩ := ru
    have e : (PyData.str x).shown = reprText x := by simp only [PyData.shown]
    rw [e] at hl q
    exact PySem.P.repr_of_str ⟨.str (reprText x), H, I.tok _, ⟨_, rfl⟩, q⟩ hl
  | _ => cases hd
end K14
namespace K14
open PySem PySem.Spec PyProof.Rows L2
theorem int_len {n : Nat} (h : n < 2 ^ 20) : (((toString ((n : Nat) : Int) : String) : Str)).length ≤ 20 := by
  have h1 := nat_repr_length_le (n := n) (k := 20) (by decide) h
  rw [PySem.ofString_length]
  exact h1
/-- what repr asks of data -/
structure Rp (d : PyData) : Prop where
  sh : d.showable = true
  nd : d.hasDict = false
  dp : d.depth ≤ 60
  ln : d.shown.length ≤ sizeLine
structure RpI (d : PyData) (m B : Nat) : Prop where
  sh : d.showable = true
  nd : d.hasDict = false
  dp : d.depth ≤ m
  ln : d.shown.length ≤ B
theorem rp_tup {xs : List PyData} {m B : Nat} (h : ∀ x ∈ xs, RpI x m B) : RpI (.tuple xs) (m + 1) ((B + 2) * xs.length + 10) := by
  have all : ∀ xs : List PyData, (∀ x ∈ xs, RpI x m B) → PyData.showableAll xs = true ∧ PyData.hasDictAll xs = false ∧ PyData.depthAll xs ≤ m ∧ piled (PyData.shownAll xs) ≤ (B + 2) * xs.length := by
    intro xs
    induction xs with
    | nil => intro _; exact ⟨by simp [PyData.showableAll], by simp [PyData.hasDictAll], by simp [PyData.depthAll], by simp [PyData.shownAll, piled]⟩
    | cons c r ih =>
      intro h
      obtain ⟨a1, a2, a3, a4⟩ := ih fun x hx => h x (by simp [hx])
      have hc := h c (by simp)
      have h1 := hc.ln
      refine ⟨by simp only [PyData.showableAll, hc.sh, a1, Bool.and_self], by simp only [PyData.hasDictAll, hc.nd, a2, Bool.or_self], ?_, ?_⟩
      · simp only [PyData.depthAll]
        have := hc.dp
        omega
      · rw [PyData.shownAll, piled_cons, List.length_cons, Nat.mul_succ]
        omega
  obtain ⟨a1, a2, a3, a4⟩ := all xs h
  refine ⟨by simp only [PyData.showable]; exact a1, by simp only [PyData.hasDict]; exact a2, by simp only [PyData.depth]; omega, ?_⟩
  have e : (PyData.tuple xs).shown = tupleText (PyData.shownAll xs) := by simp only [PyData.shown]
  rw [e]
  have h1 := fmt_text (PyData.shownAll xs)
  omega
theorem rp_int {n : Nat} (h : n < 2 ^ 20) : RpI (.int (n : Nat)) 0 20 := by
  have lg : (n : Int).natAbs.log2 < 1920 := by
    rw [Int.natAbs_natCast]
    by_cases h0 : n = 0
    · subst h0; decide
    · have := (Nat.log2_lt h0).mpr h
      omega
  exact ⟨by simp only [PyData.showable, decide_eq_true lg], by simp only [PyData.hasDict], by simp only [PyData.depth]; omega, by simp only [PyData.shown]; exact int_len h⟩
theorem rp_none : RpI .none 0 20 := ⟨by simp only [PyData.showable], by simp only [PyData.hasDict], by simp only [PyData.depth]; omega, by simp only [PyData.shown]; decide⟩
def dHv : Option Nat → PyData
  | none => .none
  | some j => .int (j : Nat)
theorem rep_hv {K : PySem.W.Frag} {H : Hp} {o : Option Nat} {Q : VK} (h : ∀ j, o = some j → j < 1000) (q : Q (.str (dHv o).shown) H) : rReprV K [hv o] H Q := by
  cases o with
  | none => exact ⟨_, _, rfl, .non, fun i e => (by cases e), rp_none.sh, rp_none.nd, Nat.le_trans rp_none.dp (by decide), Nat.le_trans rp_none.ln (by decide), q⟩
  | some j =>
    have hj := h j rfl
    have r := rp_int (n := j) (by omega)
    exact ⟨_, _, rfl, .int _, fun i e => (by cases e; omega), r.sh, r.nd, Nat.le_trans r.dp (by decide), Nat.le_trans r.ln (by decide), q⟩
end K14
set_option maxHeartbeats 1000000
/-! _law_person_right -/
namespace K14
open PySem PySem.Spec PyProof.Rows L2
theorem idx_one {s : List Nat} {x y : Nat} (hx : x ∈ s) (hy : y ∈ s) (e : s.idxOf x = s.idxOf y) : x = y := by
  have a := List.getElem_idxOf (List.idxOf_lt_length_of_mem hx)
  have b := List.getElem_idxOf (List.idxOf_lt_length_of_mem hy)
  have c : s[s.idxOf x]? = s[s.idxOf y]? := by rw [e]
  rw [List.getElem?_eq_getElem (List.idxOf_lt_length_of_mem hx), List.getElem?_eq_getElem (List.idxOf_lt_length_of_mem hy), a, b] at c
  exact Option.some.inj c
theorem first_one {s lot : List Nat} {a b : Option Nat} (f : FirstOf s lot a) (g : FirstOf s lot b) : a = b := by
  rcases f with ⟨rfl, e⟩ | ⟨x, rfl, hx, lx⟩
  · rcases g with ⟨rfl, _⟩ | ⟨y, rfl, hy, _⟩
    · rfl
    · rw [e] at hy
      cases hy
  · rcases g with ⟨rfl, e⟩ | ⟨y, rfl, hy, ly⟩
    · rw [e] at hx
      cases hx
    · have e := Nat.le_antisymm (lx y hy) (ly x hx)
      have mx : x ∈ s := of_decide_eq_true (List.mem_filter.mp hx).2
      have my : y ∈ s := of_decide_eq_true (List.mem_filter.mp hy).2
      rw [idx_one mx my e]
theorem last_one {s lot : List Nat} {a b : Option Nat} (f : LastOf s lot a) (g : LastOf s lot b) : a = b := by
  rcases f with ⟨rfl, e⟩ | ⟨x, rfl, hx, lx⟩
  · rcases g with ⟨rfl, _⟩ | ⟨y, rfl, hy, _⟩
    · rfl
    · rw [e] at hy
      cases hy
  · rcases g with ⟨rfl, e⟩ | ⟨y, rfl, hy, ly⟩
    · rw [e] at hx
      cases hx
    · have e := Nat.le_antisymm (ly x hx) (lx y hy)
      have mx : x ∈ s := of_decide_eq_true (List.mem_filter.mp hx).2
      have my : y ∈ s := of_decide_eq_true (List.mem_filter.mp hy).2
      rw [idx_one mx my e]
theorem first_lt {s lot : List Nat} {a : Option Nat} {n : Nat} (f : FirstOf s lot a) (l : ∀ x ∈ lot, x < n) (h : n ≤ 1000) : ∀ j, a = some j → j < 1000 := fun j e => by
  rcases f with ⟨rfl, _⟩ | ⟨x, rfl, hx, _⟩
  · cases e
  · cases e
    exact Nat.lt_of_lt_of_le (l _ (List.mem_filter.mp hx).1) h
theorem last_lt {s lot : List Nat} {a : Option Nat} {n : Nat} (f : LastOf s lot a) (l : ∀ x ∈ lot, x < n) (h : n ≤ 1000) : ∀ j, a = some j → j < 1000 := fun j e => by
  rcases f with ⟨rfl, _⟩ | ⟨x, rfl, hx, _⟩
  · cases e
  · cases e
    exact Nat.lt_of_lt_of_le (l _ (List.mem_filter.mp hx).1) h
theorem scal_hv (o : Option Nat) : scal (hv o) (hv o) = true := by cases o <;> rfl
theorem VI_mem {s : List Nat} {i : Nat} {x : V} (e : (VI s)[i]? = some x) : ∃ o, s[i]? = some o ∧ o ∈ s ∧ x = V.int (o : Nat) := by
  unfold VI at e
  rw [List.getElem?_map] at e
  cases e3 : s[i]? with
  | none => rw [e3] at e; cases e
  | some o =>
    rw [e3] at e
    exact ⟨o, rfl, List.mem_of_getElem? e3, (Option.some.inj e).symm⟩
theorem VIn_mem {s : List Nat} {i : Nat} {x : V} (e : (VI s ++ [V.non])[i]? = some x) : ∃ o : Option Nat, x = hv o ∧ ∀ j, o = some j → j ∈ s := by
  rcases List.mem_append.mp (List.mem_of_getElem? e) with z | z
  · obtain ⟨k, hk, ek⟩ := List.getElem_of_mem z
    obtain ⟨o, _, om, rfl⟩ := VI_mem (List.getElem?_eq_some_iff.mpr ⟨hk, ek⟩)
    exact ⟨some o, rfl, fun j e => by cases e; exact om⟩
  · exact ⟨none, List.mem_singleton.mp z, fun j e => by cases e⟩
theorem rkV_dec (s : List Nat) (o : Nat) : (!decide (rkV s o = V.non)) = decide (o ∈ s) := by
  unfold rkV
  split
  · rename_i h
    rw [decide_eq_true h]
    rfl
  · rename_i h
    rw [decide_eq_false h]
    rfl
def spPersonR (C : Addr) (T : List (Addr × Str)) : Sp := fun vs H Q _ => ∃ (h l wi r : Addr) (ns ls : List (List Nat)) (p : Nat), vs = [.ref h, .ref wi, .int p, .ref r] ∧ Src H h l ∧ WAt C H wi ns ls ∧ p < ls.length ∧ H r = some (.lst (VR ls.length (la ls p))) ∧ r ≠ h ∧ r ≠ l ∧ LamX.Tabs T H ∧
  ∀ H', Src H' h l → (∀ b o, b ≠ h → b ≠ l → H b = some o → (∀ ps, o ≠ .tbl ps) → H' b = some o) → LamX.Tabs T H' → Q (.bl true) H'
theorem spPersonR_len (C : Addr) (T : List (Addr × Str)) : ∀ vs H Q E, spPersonR C T vs H Q E → vs.length = ["heap", "wishes", "person", "ranks"].length := by
  rintro vs H Q E ⟨h, l, wi, r, ns, ls, p, rfl, _⟩
  rfl
theorem scPR : FnScope ["heap", "wishes", "person", "ranks", "some", "many", "other", "due", "one", "rather", "turn", "lot", "here", "best", "worst", "again"] ["heap", "wishes", "person", "ranks"] (defScope sLPersonRight) := ⟨rfl, rfl, rfl, by decide +kernel, rfl, by decide +kernel, by decide +kernel⟩
section
variable {P : Program} {w : World} {K : PySem.W.Frag} {mg : Str → Option Value} {base : Heap} {Tb : List (Addr × Str)}
theorem ok_person_right {f f1 f2 f3 f4 f5 f6 f7 C : Addr} {fd d1 d2 d3 d4 d5 d6 d7 : FuncData} {k : Nat} (F : Fun K "_law_person_right" "_law_person_right" sLPersonRight f fd) (T : Txt K mg C)
    (Dr : Has P w K mg base k "_law_draw" ["heap", "many"] spDraw f1 d1) (Pk : Has P w K mg base k "_law_pick" ["heap", "some"] spPick f2 d2)
    (Iw : Has P w K mg base k "is_wished" ["wishes", "person", "other"] (spIsWished C) f3 d3) (nIw : KBinds K d3 ["wishes", "person", "other"] ["other", "person", "wishes"] (fun us ws => us ++ ws.reverse) (fun vs zs => vs ++ zs.reverse))
    (Rk : Has P w K mg base k "rank_of" ["wishes", "person", "other"] (spRankOf C) f4 d4) (nRk : KBinds K d4 ["wishes", "person", "other"] ["other", "person", "wishes"] (fun us ws => us ++ ws.reverse) (fun vs zs => vs ++ zs.reverse))
    (Wr : Has P w K mg base k "would_rather" ["wishes", "person", "one", "other"] (spWould C) f5 d5) (nWr : KBinds K d5 ["wishes", "person", "one", "other"] ["other", "one", "person", "wishes"] (fun us ws => us ++ ws.reverse) (fun vs zs => vs ++ zs.reverse))
    (Bo : Has P w K mg base k "best_of" ["wishes", "person", "some"] (spBestOf C Tb) f6 d6) (nBo : KBinds K d6 ["wishes", "person", "some"] ["some", "person", "wishes"] (fun us ws => us ++ ws.reverse) (fun vs zs => vs ++ zs.reverse))
    (Wo : Has P w K mg base k "worst_of" ["wishes", "person", "some"] (spWorstOf C Tb) f7 d7) (nWo : KBinds K d7 ["wishes", "person", "some"] ["some", "person", "wishes"] (fun us ws => us ++ ws.reverse) (fun vs zs => vs ++ zs.reverse))
    (ml : mg "len" = none) (mrg : mg "range" = none) (mli : mg "list" = none) (mt : mg "tuple" = none) (mrp : mg "repr" = none) (mmin : mg "min" = none) (mmax : mg "max" = none) : RunG P w K mg base (k + 1) f fd ["heap", "wishes", "person", "ranks"] (spPersonR C Tb) := by
  refine okG F scPR (spPersonR_len C Tb) (fun cdv A outer s H vs Q E hA hr h => ?_)
  obtain ⟨h, l, wi, r, ns, ls, p, rfl, src, W, hp, er, nrh, nrl, tb, q⟩ := h
  refine ⟨_, pss_cons (ps_asg (pe_tup (pa_cons (pe_ix ix_tup (pe_fld (pv 1) rfl) (pv 2) (fun _ _ => rfl)) (pa_cons (pe_callB call_len_seq (by rfl) ml PySem.boot_len (pa_cons (pv 3) pa_nil)) pa_nil))) (pg_tup (by rfl) (pgs_cons (pg_name (i := 4) scPR.nd rfl (.inl rfl)) (pgs_cons (pg_name (i := 5) scPR.nd rfl (.inr rfl)) pgs_nil))))
      (pss_cons (ps_for PassesOwn.never rfl (pi_list (pe_lc (own := [("one", 8)]) (g := gName 8) (tt := tTest (tOp rNe (tVar 8) (tVar 2))) (te := tVar 8) rfl scPR.nd (pi_range1 rfl mrg (pa_cons (pv 5) pa_nil))
          (blkOk_by (own := [("one", 8)]) (N := ["heap", "wishes", "person", "ranks", "some", "many", "other", "due", "one", "rather", "turn", "lot", "here", "best", "worst", "again"]) (sc := defScope sLPersonRight) (by decide +kernel)) (fun _ _ _ _ _ => (pg_name (i := 8) scPR.nd rfl (Or.inl rfl))) (fun _ _ _ _ _ => (pts_one (pt_cmpR op_ne (pv 8) (pv 2) (nomark _))))
          (fun _ _ _ _ _ => (pv 8)))) (pg_name (i := 6) scPR.nd rfl (.inl rfl))
      (pss_cons (ps_if (pt_cmpR op_ne (pe_callB call_repr_bl (by rfl) mrp (by decide +kernel) (pa_cons (pe_call Iw.ok hr rfl Iw.m Iw.k Iw.b .nil pass0 (pa_cons (pv 1) (pa_cons (pv 2) (pa_cons (pv 6) pa_nil)))) pa_nil)) (pe_callB call_repr_bl (by rfl) mrp (by decide +kernel) (pa_cons (pe_cmpR op_notN (pe_ix ix_list (pv 3) (pv 6) (fun _ _ => rfl)) pe_non (nomark _)) pa_nil)) (nomark _)) (pss_one (ps_ret pe_bl)) pss_nil)
      (pss_one (ps_if (pt_cmpR op_ne (pe_named Iw.ok hr rfl Iw.m Iw.k nIw pass0 (pk_cons (pv 6) (pk_cons (pv 2) (pk_cons (pv 1) pk_nil)))) (pe_cmpR op_in_seq (pv 6) (pv 4) rfl) (nomark _)) (pss_one (ps_ret pe_bl)) pss_nil))))
      (pss_cons (ps_for PassesOwn.never rfl (pi_list (pe_op op_cat (pe_callTy call_list_of (by rfl) mli (by decide +kernel) (pa_cons (pv 4) pa_nil)) (pe_lst (pa_cons pe_non pa_nil)))) (pg_name (i := 6) scPR.nd rfl (.inl rfl))
      (pss_cons (ps_set (i := 7) scPR.nd rfl (.inl rfl) (pe_ifExp (pt_cmpR op_isN (pv 6) pe_non (nomark _)) (pe_callB call_len_seq (by rfl) ml PySem.boot_len (pa_cons (pv 4) pa_nil)) (pe_ix ix_list (pv 3) (pv 6) (fun _ _ => rfl))))
      (pss_cons (ps_if (PW.pt (pw_or (pt_cmpR op_ne (pe_callB (call_reprV hA hr.units) (by rfl) mrp (by decide +kernel) (pa_cons (pe_call Rk.ok hr rfl Rk.m Rk.k Rk.b .nil pass0 (pa_cons (pv 1) (pa_cons (pv 2) (pa_cons (pv 6) pa_nil)))) pa_nil)) (pe_callB (call_reprV hA hr.units) (by rfl) mrp (by decide +kernel) (pa_cons (pv 7) pa_nil)) (nomark _)) (pw_or1 (pt_cmpR op_ne (pe_named Rk.ok hr rfl Rk.m Rk.k nRk pass0 (pk_cons (pv 6) (pk_cons (pv 2) (pk_cons (pv 1) pk_nil)))) (pv 7) (nomark _))))) (pss_one (ps_ret pe_bl)) pss_nil)
      (pss_cons (ps_set (i := 8) scPR.nd rfl (.inl rfl) (pe_call Pk.ok hr rfl Pk.m Pk.k Pk.b .nil pass0 (pa_cons (pv 0) (pa_cons (pe_op op_cat (pe_callTy call_list_of (by rfl) mli (by decide +kernel) (pa_cons (pv 4) pa_nil)) (pe_lst (pa_cons pe_non pa_nil))) pa_nil))))
      (pss_cons (ps_set (i := 9) scPR.nd rfl (.inl rfl) (pe_cmpR op_lt (pe_ifExp (pt_cmpR op_isN (pv 8) pe_non (nomark _)) (pe_callB call_len_seq (by rfl) ml PySem.boot_len (pa_cons (pv 4) pa_nil)) (pe_ix ix_list (pv 3) (pv 8) (fun _ _ => rfl))) (pv 7) (nomark _)))
      (pss_one (ps_if (PW.pt (pw_or (pt_cmpR op_ne (pe_callB call_repr_bl (by rfl) mrp (by decide +kernel) (pa_cons (pe_call Wr.ok hr rfl Wr.m Wr.k Wr.b .nil pass0 (pa_cons (pv 1) (pa_cons (pv 2) (pa_cons (pv 8) (pa_cons (pv 6) pa_nil))))) pa_nil)) (pe_callB call_repr_bl (by rfl) mrp (by decide +kernel) (pa_cons (pv 9) pa_nil)) (nomark _)) (pw_or1 (pt_cmpR op_ne (pe_named Wr.ok hr rfl Wr.m Wr.k nWr pass0 (pk_cons (pv 6) (pk_cons (pv 8) (pk_cons (pv 2) (pk_cons (pv 1) pk_nil))))) (pv 9) (nomark _))))) (pss_one (ps_ret pe_bl)) pss_nil)))))))
      (pss_cons (ps_for PassesOwn.never rfl (pi_range1 rfl mrg (pa_cons pe_int pa_nil)) (pg_name (i := 10) scPR.nd rfl (.inl rfl))
      (pss_cons (ps_set (i := 11) scPR.nd rfl (.inl rfl) (pe_callTy call_tupleX (by rfl) mt (by decide +kernel) (pa_cons (pe_lc (own := [("again", 15)]) (g := gName 15) (tt := tYes) (te := tCall spDraw [] E0 (tCons (tVar 0) (tCons (tVar 5) tNil))) rfl scPR.nd (pi_range1 rfl mrg (pa_cons (pe_call Pk.ok hr rfl Pk.m Pk.k Pk.b .nil pass0 (pa_cons (pv 0) (pa_cons (pe_lst (pa_cons pe_int (pa_cons pe_int (pa_cons pe_int (pa_cons pe_int (pa_cons pe_int pa_nil)))))) pa_nil))) pa_nil))
          (blkOk_by (own := [("again", 15)]) (N := ["heap", "wishes", "person", "ranks", "some", "many", "other", "due", "one", "rather", "turn", "lot", "here", "best", "worst", "again"]) (sc := defScope sLPersonRight) (by decide +kernel)) (fun _ _ _ _ _ => (pg_name (i := 15) scPR.nd rfl (Or.inl rfl))) (fun _ _ _ _ _ => pts_nil)
          (fun _ _ _ _ _ => (pe_call Dr.ok hr rfl Dr.m Dr.k Dr.b .nil pass0 (pa_cons (pv 0) (pa_cons (pv 5) pa_nil))))) pa_nil)))
      (pss_cons (ps_setLc (i := 12) (own := [("other", 6)]) (g := gName 6) (tt := tTest (tOp rNotN (tOp (rIxL K) (tVar 3) (tVar 6)) (tC .non))) (te := tOp (rIxL K) (tVar 3) (tVar 6)) rfl scPR.nd rfl rfl (sw_true rfl rfl rfl (by decide +kernel)) (pi_tup (pv 11))
          (blkOk_by (own := [("other", 6)]) (N := ["heap", "wishes", "person", "ranks", "some", "many", "other", "due", "one", "rather", "turn", "lot", "here", "best", "worst", "again"]) (sc := defScope sLPersonRight) (by decide +kernel)) (fun _ _ _ _ _ => (pg_name (i := 6) scPR.nd rfl (Or.inl rfl))) (fun _ _ _ _ _ => (pts_one (pt_cmpR op_notN (pe_ix ix_list (pv 3) (pv 6) (fun _ _ => rfl)) pe_non (nomark _))))
          (fun _ _ _ _ _ => (pe_ix ix_list (pv 3) (pv 6) (fun _ _ => rfl))))
      (pss_cons (ps_asg (pe_ifExp (pt_cmpR (op_eqD hr.units) (pv 12) (pe_lst pa_nil) (nomark _)) (pe_tup (pa_cons pe_non (pa_cons pe_non pa_nil))) (pe_tup (pa_cons (pe_ix ix_tup (pv 4) (pe_callB (cr_min rfl) (by rfl) mmin (by decide +kernel) (pa_cons (pv 12) pa_nil)) (fun _ _ => rfl)) (pa_cons (pe_ix ix_tup (pv 4) (pe_callB (cr_max rfl) (by rfl) mmax (by decide +kernel) (pa_cons (pv 12) pa_nil)) (fun _ _ => rfl)) pa_nil)))) (pg_tup (by rfl) (pgs_cons (pg_name (i := 13) scPR.nd rfl (.inl rfl)) (pgs_cons (pg_name (i := 14) scPR.nd rfl (.inl rfl)) pgs_nil))))
      (pss_cons (ps_if (PW.pt (pw_or (pt_cmpR op_ne (pe_callB (call_reprV hA hr.units) (by rfl) mrp (by decide +kernel) (pa_cons (pe_call Bo.ok hr rfl Bo.m Bo.k Bo.b .nil pass0 (pa_cons (pv 1) (pa_cons (pv 2) (pa_cons (pv 11) pa_nil)))) pa_nil)) (pe_callB (call_reprV hA hr.units) (by rfl) mrp (by decide +kernel) (pa_cons (pv 13) pa_nil)) (nomark _)) (pw_or1 (pt_cmpR op_ne (pe_named Bo.ok hr rfl Bo.m Bo.k nBo pass0 (pk_cons (pv 11) (pk_cons (pv 2) (pk_cons (pv 1) pk_nil)))) (pv 13) (nomark _))))) (pss_one (ps_ret pe_bl)) pss_nil)
      (pss_one (ps_if (PW.pt (pw_or (pt_cmpR op_ne (pe_callB (call_reprV hA hr.units) (by rfl) mrp (by decide +kernel) (pa_cons (pe_call Wo.ok hr rfl Wo.m Wo.k Wo.b .nil pass0 (pa_cons (pv 1) (pa_cons (pv 2) (pa_cons (pv 11) pa_nil)))) pa_nil)) (pe_callB (call_reprV hA hr.units) (by rfl) mrp (by decide +kernel) (pa_cons (pv 14) pa_nil)) (nomark _)) (pw_or1 (pt_cmpR op_ne (pe_named Wo.ok hr rfl Wo.m Wo.k nWo pass0 (pk_cons (pv 11) (pk_cons (pv 2) (pk_cons (pv 1) pk_nil)))) (pv 14) (nomark _))))) (pss_one (ps_ret pe_bl)) pss_nil)))))))
      (pss_one (ps_ret pe_bl))))), ?_⟩
  have n60 := W.n60
  have ok := W.ok
  have lp := ok.each (la_get hp)
  have srcC : Src (noTab H) h l := src.ext noTab_ext
  have WC : WAt C (noTab H) wi ns ls := W.ext noTab_ext
  have erC : noTab H r = some (.lst (VR ls.length (la ls p))) := noTab_ext _ _ er fun _ z => by cases z
  have barC : Bar h l (noTab H) H := Bar.noTab
  obtain ⟨dx, n, lw, rr, e1, e2, e3, e4⟩ := W.ex
  obtain ⟨rows, c0, er0, ec, ev⟩ := e3.at (la_get hp)
  have evC : Tp (noTab H) c0 (VI (la ls p)) := ev.ext noTab_ext
  refine ⟨_, rfl, wi, C, dx, _, _, rfl, e1, T.cl, T.nL, wf_lists n lw rr, _, rfl, lw, rows, _, _, rfl, rfl, SqT.of er0, atI_nat ec, _, rfl, r, _, rfl, .inl (SqL.of er), (by show 2 ≤ sizeLine; decide), fun U nU => ⟨U, _, rfl, SqT.of upd_same, rfl, _, _, rfl, gn ⟨_, _, rfl, gn ⟨rfl, ?_⟩⟩⟩⟩
  rw [VR_len]
  dsimp only [List.set, L2.start]
  have tb1 := Tabs.fresh (o := .tup [.ref c0, .int (ls.length : Nat)]) tb nU
  have src1 := src.updn (o := .tup [.ref c0, .int (ls.length : Nat)]) nU
  have bar1 := barC.trans (Bar.same (h := h) (l := l) (same_upd (o := .tup [.ref c0, .int (ls.length : Nat)]) nU))
  generalize upd H U (.tup [.ref c0, .int (ls.length : Nat)]) = H1 at tb1 src1 bar1 ⊢
  clear e3 e4 e2 e1 er0 ec rows rr lw n dx
  refine ⟨_, rfl, _, rfl, by omega, by omega, fun D nD => ?_⟩
  refine lc_sel (J := Itr 0 ls.length) (n := ls.length) walk_range0 (by omega) (VI (List.range ls.length)) (fV fun o => !decide (o = p)) (by rw [VI_len, List.length_range]) nD (fun _ _ => trivial) ?_ ?_
  · rintro m x H5 H6 R Z yes' no' hm sm ⟨rfl, rfl⟩
    rw [VI_getD (by rw [List.length_range]; exact hm), List.getElem_range] at yes' no'
    refine gn ⟨rfl, _, rfl, _, rfl, rfl, !decide (m = p), congrArg V.bl ?_, ?_⟩
    · show (!decide (V.int (m : Int) = V.int (p : Int))) = _
      rw [show decide (V.int (m : Int) = V.int (p : Int)) = decide (m = p) from by rw [decide_eq_decide]; exact ⟨fun h => by have := V.int.inj h; omega, fun h => by rw [h]⟩]
    · refine ite2 (fun c => ?_) (fun c => ?_)
      · exact ⟨_, rfl, yes' _ same_rfl c⟩
      · exact no' _ same_rfl (Bool.eq_false_iff.mpr c)
  intro H2 s2 eD
  have tb2 : LamX.Tabs Tb H2 := tb1.ext s2
  have src2 := src1.same s2
  have bar2 := bar1.trans (Bar.same (h := h) (l := l) s2)
  rw [VI_filter] at eD
  clear tb1 src1 bar1 nD s2
  have W2 := WC.bar srcC bar2
  have er2 := bar2 _ _ nrh nrl erC
  have ev2 := evC.bar srcC bar2
  refine ⟨D, rfl, ⟨_, SqL.of eD⟩, for_it (walk_list (K := K) (a := D) (xs := VI ((List.range ls.length).filter fun o => !decide (o = p)))) (fun i σ H' => ∃ y : Option V, σ = [some (.ref h), some (.ref wi), some (.int p), some (.ref r), some (.ref c0), some (.int (ls.length : Nat)), y, none, none, none, none, none, none, none, none, none] ∧ H' = H2) ⟨none, rfl, rfl⟩ (fun i σ H' _ ⟨_, _, e⟩ => by rw [e]; exact SqL.of eD) ?_ ?_⟩
  · rintro i x σ H5 H6 hi ⟨y, rfl, rfl⟩ ⟨rfl, ex⟩
    obtain ⟨o, _, om, rfl⟩ := VI_mem ex
    have ho : o < ls.length := List.mem_range.mp (List.mem_filter.mp om).1
    refine gn ?_
    dsimp only [List.set]
    refine ⟨_, rfl, _, rfl, _, rfl, wi, ns, ls, p, o, rfl, W2, hp, ho, _, rfl, _, rfl, _, rfl, r, _, _, _, rfl, rfl, SqL.of er2, atI_nat (VR_get ho), rfl, ?_⟩
    dsimp only
    rw [rkV_dec]
    refine ⟨_, rfl, rfl, false, congrArg V.bl (by simp), iteF ?_⟩
    refine ⟨_, rfl, _, rfl, _, rfl, wi, ns, ls, p, o, rfl, W2, hp, ho, _, rfl, _, rfl, c0, _, rfl, .inr (Tp.sq ev2), rfl, flat_VI _, rfl, false, congrArg V.bl ?_, iteF ⟨_, rfl, rfl⟩⟩
    rw [if_neg (by decide), inV_VI]
    simp
  rintro σ H5 ⟨y, rfl, rfl⟩
  dsimp only
  refine ⟨_, rfl, c0, _, rfl, .inr (Tp.sq ev2), fun Al nA => ⟨by show 1 ≤ sizeLine; decide, fun Bl nB => ?_⟩⟩
  have nAB : Al ≠ Bl := ne_of_none upd_same nB
  refine ⟨Al, Bl, _, _, rfl, rfl, by rw [upd_ne nAB]; exact upd_same, upd_same, ?_, fun Z nZ => ⟨Z, rfl, ⟨_, SqL.of upd_same⟩, ?_⟩⟩
  · rw [VI_len]
    show (la ls p).length + 1 ≤ sizeLine
    exact sz5 (by omega)
  have nB0 : H5 Bl = none := (same_upd nA).free nB
  obtain ⟨nZh, nZl⟩ := (src2.same ((same_upd (o := .lst (VI (la ls p))) nA).trans (same_upd (o := .lst [V.non]) nB))).new nZ
  have s3 := ((same_upd (o := .lst (VI (la ls p))) nA).trans (same_upd (o := .lst [V.non]) nB)).trans (same_upd (o := .lst (VI (la ls p) ++ [V.non])) nZ)
  have eZ : upd (upd (upd H5 Al (.lst (VI (la ls p)))) Bl (.lst [V.non])) Z (.lst (VI (la ls p) ++ [V.non])) Z = some (.lst (VI (la ls p) ++ [V.non])) := upd_same
  generalize upd (upd (upd H5 Al (.lst (VI (la ls p)))) Bl (.lst [V.non])) Z (.lst (VI (la ls p) ++ [V.non])) = H3 at s3 eZ ⊢
  have tb3 : LamX.Tabs Tb H3 := tb2.ext s3
  have src3 := src2.same s3
  have bar3 := bar2.trans (Bar.same (h := h) (l := l) s3)
  clear nZ nB nA s3
  refine for_it (walk_list (K := K) (a := Z) (xs := VI (la ls p) ++ [V.non])) (fun i σ H' => ∃ y6 y7 y8 y9 : Option V, σ = [some (.ref h), some (.ref wi), some (.int p), some (.ref r), some (.ref c0), some (.int (ls.length : Nat)), y6, y7, y8, y9, none, none, none, none, none, none] ∧ Src H' h l ∧ Bar h l H3 H') ⟨_, _, _, _, rfl, src3, .refl⟩ (fun i σ H' _ ⟨_, _, _, _, _, _, b⟩ => SqL.of (b _ _ nZh nZl eZ)) ?_ ?_
  · rintro i x σ H6 H7 hi ⟨y6, y7, y8, y9, rfl, sr, br⟩ ⟨rfl, ex⟩
    obtain ⟨o, rfl, om⟩ := VIn_mem ex
    refine gn ?_
    dsimp only [List.set]
    have br3 := bar3.trans br
    have W6 := WC.bar srcC br3
    have er6 := br3 _ _ nrh nrl erC
    have ev6 := evC.bar srcC br3
    have ol : ∀ j, o = some j → j < ls.length := fun j e => (ok.mate hp (om j e)).1
    refine seqcut (fun σ' H' => H' = H7 ∧ σ' = [some (.ref h), some (.ref wi), some (.int p), some (.ref r), some (.ref c0), some (.int (ls.length : Nat)), some (hv o), some (.int (rkN (la ls p) o : Nat)), y8, y9, none, none, none, none, none, none]) ?_ (fun out => ?_)
    · rintro σ' H' ⟨rfl, rfl⟩
      refine ⟨_, rfl, _, rfl, _, rfl, wi, ns, ls, p, o, rfl, W6, hp, ol, ?_⟩
      rw [rkO_N om]
      have n1 : rkN (la ls p) o < 1000 := by
        cases o with
        | none =>
          show (la ls p).length < 1000
          omega
        | some j =>
          have := List.idxOf_lt_length_of_mem (om j rfl)
          show (la ls p).idxOf j < 1000
          omega
      dsimp only [L2.tNil]
      refine rep_hv (o := some (rkN (la ls p) o)) (fun j e => by cases e; exact n1) ?_
      refine ⟨_, rfl, ?_⟩
      dsimp only [L2.tNil]
      refine rep_hv (o := some (rkN (la ls p) o)) (fun j e => by cases e; exact n1) ?_
      refine ⟨rfl, false, congrArg V.bl (by simp), iteF ?_⟩
      refine ⟨_, rfl, _, rfl, _, rfl, wi, ns, ls, p, o, rfl, W6, hp, ol, ?_⟩
      rw [rkO_N om]
      refine ⟨_, rfl, rfl, false, congrArg V.bl (by simp), iteF ?_⟩
      dsimp only [L2.tNext]
      refine ⟨_, rfl, _, rfl, c0, _, rfl, .inr (Tp.sq ev6), fun A1 nA1 => ⟨by show 1 ≤ sizeLine; decide, fun B1 nB1 => ?_⟩⟩
      have nAB1 : A1 ≠ B1 := ne_of_none upd_same nB1
      have sr1 := sr.same ((same_upd (o := .lst (VI (la ls p))) nA1).trans (same_upd (o := .lst [V.non]) nB1))
      have br1 := br.trans (Bar.same (h := h) (l := l) ((same_upd (o := .lst (VI (la ls p))) nA1).trans (same_upd (o := .lst [V.non]) nB1)))
      refine ⟨A1, B1, _, _, rfl, rfl, by rw [upd_ne nAB1]; exact upd_same, upd_same, ?_, fun Z1 nZ1 => ⟨h, l, Z1, _, rfl, sr1.updn nZ1, .inl upd_same, (sr1.new nZ1).1, (sr1.new nZ1).2, by simp, ?_, fun j1 v1 H8 hv1 sr8 br8 => ?_⟩⟩
      · rw [VI_len]
        show (la ls p).length + 1 ≤ sizeLine
        exact sz5 (by omega)
      · rw [List.length_append, VI_len]
        simp
        omega
      obtain ⟨o1, rfl, om1⟩ := VIn_mem hv1
      have br08 := (br1.trans (Bar.same (h := h) (l := l) (same_upd nZ1))).trans br8
      clear br8 sr1 br1 hv1
      refine gn ?_
      dsimp only [List.set]
      have br3b := bar3.trans br08
      have W8 := WC.bar srcC br3b
      have er8 := br3b _ _ nrh nrl erC
      have ev8 := evC.bar srcC br3b
      have ol1 : ∀ j, o1 = some j → j < ls.length := fun j e => (ok.mate hp (om1 j e)).1
      refine seqcut (fun σ' H' => H' = H8 ∧ σ' = [some (.ref h), some (.ref wi), some (.int p), some (.ref r), some (.ref c0), some (.int (ls.length : Nat)), some (hv o), some (.int (rkN (la ls p) o : Nat)), some (hv o1), some (.bl (decide (rkN (la ls p) o1 < rkN (la ls p) o))), none, none, none, none, none, none]) ?_ (fun out => ?_)
      · rintro σ' H' ⟨rfl, rfl⟩
        refine ⟨_, rfl, _, rfl, _, rfl, _, rfl, wi, ns, ls, p, o1, o, rfl, W8, hp, om1, om, _, rfl, _, rfl, _, rfl, ?_⟩
        refine ⟨rfl, false, congrArg V.bl (by simp), iteF ?_⟩
        refine ⟨_, rfl, _, rfl, _, rfl, _, rfl, wi, ns, ls, p, o1, o, rfl, W8, hp, om1, om, _, rfl, ?_⟩
        refine ⟨rfl, false, congrArg V.bl (by simp), iteF ?_⟩
        exact ⟨_, _, _, _, rfl, sr8, br08⟩
      · have fin : V.bl (decide (((rkN (la ls p) o1 : Nat) : Int) < (rkN (la ls p) o : Nat))) = V.bl (decide (rkN (la ls p) o1 < rkN (la ls p) o)) := congrArg V.bl (by rw [decide_eq_decide]; exact Int.ofNat_lt)
        refine ⟨_, rfl, rfl, _, rfl, ?_⟩
        cases o1 with
        | none =>
          refine iteT ⟨_, rfl, c0, _, rfl, .inr (Tp.sq ev8), _, rfl, _, _, rfl, rfl, gn (out _ _ ⟨rfl, ?_⟩)⟩
          rw [VI_len]
          exact congrArg (fun v => [_, _, _, _, _, _, _, _, _, some v, _, _, _, _, _, _]) fin
        | some j =>
          have jm := om1 j rfl
          refine iteF ⟨_, rfl, _, rfl, r, _, _, _, rfl, rfl, SqL.of er8, atI_nat (VR_get (ol1 j rfl)), ?_⟩
          unfold rkV
          rw [if_pos jm]
          exact ⟨_, rfl, _, _, rfl, rfl, gn (out _ _ ⟨rfl, congrArg (fun v => [_, _, _, _, _, _, _, _, _, some v, _, _, _, _, _, _]) fin⟩)⟩
    · refine ⟨_, rfl, rfl, _, rfl, ?_⟩
      cases o with
      | none =>
        refine iteT ?_
        exact ⟨_, rfl, c0, _, rfl, .inr (Tp.sq ev6), gn (out _ _ ⟨rfl, by rw [VI_len]; rfl⟩)⟩
      | some j =>
        refine iteF ?_
        have jm := om j rfl
        refine ⟨_, rfl, _, rfl, r, _, _, _, rfl, rfl, SqL.of er6, atI_nat (VR_get (ol j rfl)), gn (out _ _ ⟨rfl, ?_⟩)⟩
        unfold rkV
        rw [if_pos jm]
        rfl
  rintro σ H6 ⟨y6, y7, y8, y9, rfl, sr6, br6⟩
  have tb6 : LamX.Tabs Tb H6 := Tabs.bar tb3 src3 br6
  have bar6 := bar3.trans br6
  clear br6 bar3 src3 tb3 eZ nZh nZl eD ev2 er2 W2 bar2 src2 tb2
  dsimp only
  refine ⟨_, rfl, by decide, by decide, for_range (lo := 0) (n := 3) (fun i σ H' => ∃ y6 y7 y8 y9 y10 y11 y12 y13 y14 : Option V, σ = [some (.ref h), some (.ref wi), some (.int p), some (.ref r), some (.ref c0), some (.int (ls.length : Nat)), y6, y7, y8, y9, y10, y11, y12, y13, y14, none] ∧ Src H' h l ∧ Bar h l (noTab H) H' ∧ LamX.Tabs Tb H')
    ⟨_, _, _, _, _, _, _, _, _, rfl, sr6, bar6, tb6⟩ ?_ ?_⟩
  · clear tb6 bar6 sr6 y6 y7 y8 y9
    rintro i σ H6 hi ⟨y6, y7, y8, y9, y10, y11, y12, y13, y14, rfl, sr6, bar6, tb6⟩
    refine gn ?_
    dsimp only [List.set]
    refine ⟨_, rfl, by show 5 ≤ sizeLine; decide, fun u nu => ⟨h, l, u, _, rfl, sr6.updn nu, .inl upd_same, (sr6.new nu).1, (sr6.new nu).2, by simp, by simp, fun j v H7 hv sr7 br7 => ?_⟩⟩
    obtain ⟨m, rfl, hm⟩ : ∃ m : Nat, v = .int (m : Nat) ∧ m ≤ 5 := by
      match j, hv with
      | 0, hv => exact ⟨2, (Option.some.inj hv).symm, by decide⟩
      | 1, hv => exact ⟨3, (Option.some.inj hv).symm, by decide⟩
      | 2, hv => exact ⟨1, (Option.some.inj hv).symm, by decide⟩
      | 3, hv => exact ⟨0, (Option.some.inj hv).symm, by decide⟩
      | 4, hv => exact ⟨5, (Option.some.inj hv).symm, by decide⟩
    have tb7 : LamX.Tabs Tb H7 := Tabs.bar (Tabs.fresh tb6 nu) (sr6.updn nu) br7
    have bar7 := (bar6.trans (Bar.same (h := h) (l := l) (same_upd nu))).trans br7
    clear br7 nu hv tb6 bar6 sr6
    refine ⟨_, rfl, by omega, by omega, fun D nD => ?_⟩
    obtain ⟨nDh, nDl⟩ := sr7.new nD
    refine lc_range (lo := 0) (n := m) (fun i H' => ∃ lt : List Nat, H' D = some (.lst (VI lt)) ∧ lt.length = i ∧ (∀ x ∈ lt, x < ls.length) ∧ Src H' h l ∧ Bar h l H7 H') ⟨[], upd_same, rfl, by simp, sr7.updn nD, Bar.same (same_upd nD)⟩ ?_ ?_
    · rintro i H8 hi ⟨lt, eD, ll, lx, sr, br⟩
      refine gn ⟨rfl, yes ?_⟩
      refine ⟨_, rfl, _, rfl, h, l, _, rfl, sr, by omega, by omega, fun x H9 x0 x1 sr9 br9 => ?_⟩
      obtain ⟨a, rfl⟩ : ∃ a : Nat, x = (a : Int) := ⟨x.toNat, by omega⟩
      refine ⟨_, br9 _ _ nDh nDl eD, by rw [VI_len]; exact sz6 (by omega), lt ++ [a], by rw [upd_same, VI_app]; rfl, by simp [ll], ?_, sr9.put nDh nDl, (br.trans br9).fresh nD⟩
      intro x hx
      rcases List.mem_append.mp hx with z | z
      · exact lx x z
      · rw [List.mem_singleton.mp z]
        omega
    rintro H8 ⟨lot, eD, ll, lx, sr8, br8⟩
    refine ⟨D, _, rfl, SqL.of eD, fun t H9 nt s9 ex9 _ => gn ?_⟩
    dsimp only [List.set]
    have tb9 : LamX.Tabs Tb H9 := (Tabs.bar tb7 sr7 br8).ext s9
    have bar9 := (bar7.trans br8).trans (Bar.same (h := h) (l := l) s9)
    have sr9 := sr8.same s9
    clear br8 sr8 eD nDl nDh nD bar7 tb7 sr7 s9 nt
    have W9 := WC.bar srcC bar9
    have er9 := bar9 _ _ nrh nrl erC
    have ev9 := evC.bar srcC bar9
    refine ⟨_, rfl, t, rfl, ⟨_, Tp.sq (.inr ex9)⟩, fun D nD => ?_⟩
    refine lc_selv (walk_tup (K := K) (a := t) (xs := VI lot)) (by rw [VI_len]; omega) (VI lot) (fV fun o => decide (o ∈ la ls p)) (atV (la ls p)) rfl nD (fun _ sm => Tp.sq (.inr (ex9.same sm))) ?_ ?_
    · rintro m x H5 H6 R Z yes' no' hm sm ⟨rfl, ex⟩
      rw [VI_len] at hm
      have ex2 : (VI lot)[m]? = some x := ex
      rw [VI_get (List.getElem?_eq_getElem hm)] at ex2
      cases ex2
      have hin := lx _ (List.getElem_mem hm)
      rw [VI_getD hm] at yes' no'
      refine gn ⟨rfl, _, rfl, _, rfl, r, _, _, _, rfl, rfl, SqL.of (sm _ _ er9), atI_nat (VR_get hin), rfl, decide (lot[m] ∈ la ls p), congrArg V.bl (rkV_dec _ _), ?_⟩
      refine ite2 (fun c => ?_) (fun c => ?_)
      · refine ⟨_, rfl, _, rfl, r, _, _, _, rfl, rfl, SqL.of (sm _ _ er9), atI_nat (VR_get hin), ?_⟩
        have c := of_decide_eq_true c
        unfold rkV
        rw [if_pos c]
        exact yes' _ same_rfl (show decide _ = true from decide_eq_true c)
      · exact no' _ same_rfl (show decide _ = false from decide_eq_false (fun h => c (decide_eq_true h)))
    intro H10 s10 eD
    rw [VI_filter, VI_atV] at eD
    have eD : H10 D = some (.lst (VI ((onL (la ls p) lot).map fun o => (la ls p).idxOf o))) := eD
    refine gn ?_
    dsimp only [List.set]
    have tb10 : LamX.Tabs Tb H10 := tb9.ext s10
    have bar10 := bar9.trans (Bar.same (h := h) (l := l) s10)
    have sr10 := sr9.same s10
    have ex10 := ex9.same s10
    have ev10 := ev9.same s10
    clear er9 W9 ev9 ex9 sr9 bar9 tb9 nD s10
    obtain ⟨L, eL⟩ : ∃ L, L = onL (la ls p) lot := ⟨_, rfl⟩
    have Lm : ∀ x ∈ L, x ∈ la ls p := fun x hx => by
      rw [eL] at hx
      unfold onL at hx
      exact of_decide_eq_true (List.mem_filter.mp hx).2
    rw [← eL] at eD
    refine seqcut (fun σ' H' => ∃ bo wo : Option Nat, FirstOf (la ls p) lot bo ∧ LastOf (la ls p) lot wo ∧ σ' = [some (.ref h), some (.ref wi), some (.int p), some (.ref r), some (.ref c0), some (.int (ls.length : Nat)), y6, y7, y8, y9, some (.int (0 + (i : Nat))), some (.ref t), some (.ref D), some (hv bo), some (hv wo), none] ∧ Src H' h l ∧ Bar h l (noTab H) H' ∧ LamX.Tabs Tb H' ∧ Ex H' t (VI lot)) ?_ (fun out => ?_)
    · rintro σ' H' ⟨bo, wo, fb, lw, rfl, sr11, bar11, tb11, ex11⟩
      have W11 := WC.bar srcC bar11
      refine ⟨_, rfl, _, rfl, _, rfl, wi, t, ns, ls, p, lot, rfl, W11, hp, .inr ex11, by omega, lx, tb11, fun o1 H12 f1 x12 tb12 => ?_⟩
      have e1 := first_one f1 fb
      subst e1
      have bar12 := Bar.lam bar11 x12
      have sr12 := sr11.ext x12
      have ex12 := ex11.ext x12
      clear W11 bar11 sr11 ex11 tb11 x12 f1
      have W12 := WC.bar srcC bar12
      dsimp only [L2.tNil]
      refine rep_hv (first_lt fb lx (by omega)) ?_
      refine ⟨_, rfl, ?_⟩
      dsimp only [L2.tNil]
      refine rep_hv (first_lt fb lx (by omega)) ?_
      refine ⟨rfl, false, congrArg V.bl (by simp), iteF ?_⟩
      refine ⟨_, rfl, _, rfl, _, rfl, wi, t, ns, ls, p, lot, rfl, W12, hp, .inr ex12, by omega, lx, tb12, fun o2 H13 f2 x13 tb13 => ?_⟩
      have e2 := first_one f2 fb
      subst e2
      have bar13 := Bar.lam bar12 x13
      have sr13 := sr12.ext x13
      have ex13 := ex12.ext x13
      clear W12 bar12 sr12 ex12 tb12 x13 f2
      refine ⟨_, rfl, scal_hv _, false, congrArg V.bl (by simp), iteF ?_⟩
      dsimp only [L2.tNext]
      have W13 := WC.bar srcC bar13
      refine ⟨_, rfl, _, rfl, _, rfl, wi, t, ns, ls, p, lot, rfl, W13, hp, .inr ex13, by omega, lx, tb13, fun o1 H14 f1 x14 tb14 => ?_⟩
      have e1 := last_one f1 lw
      subst e1
      have bar14 := Bar.lam bar13 x14
      have sr14 := sr13.ext x14
      have ex14 := ex13.ext x14
      clear W13 bar13 sr13 ex13 tb13 x14 f1
      have W14 := WC.bar srcC bar14
      dsimp only [L2.tNil]
      refine rep_hv (last_lt lw lx (by omega)) ?_
      refine ⟨_, rfl, ?_⟩
      dsimp only [L2.tNil]
      refine rep_hv (last_lt lw lx (by omega)) ?_
      refine ⟨rfl, false, congrArg V.bl (by simp), iteF ?_⟩
      refine ⟨_, rfl, _, rfl, _, rfl, wi, t, ns, ls, p, lot, rfl, W14, hp, .inr ex14, by omega, lx, tb14, fun o2 H15 f2 x15 tb15 => ?_⟩
      have e2 := last_one f2 lw
      subst e2
      have bar15 := Bar.lam bar14 x15
      have sr15 := sr14.ext x15
      have ex15 := ex14.ext x15
      clear W14 bar14 sr14 ex14 tb14 x15 f2
      refine ⟨_, rfl, scal_hv _, false, congrArg V.bl (by simp), iteF ?_⟩
      exact ⟨_, _, _, _, _, _, _, _, _, rfl, sr15, bar15, tb15⟩
    · refine ⟨_, rfl, Nat.zero_le _, fun B nB => ⟨dLI (L.map fun o => (la ls p).idxOf o), dLI [], dp_dLI ((same_upd nB) _ _ eD), dp_dLI upd_same, sh_dLI _, sh_dLI _, ?_⟩⟩
      have s11 := same_upd (o := .lst []) nB
      have eD11 := s11 _ _ eD
      rw [eqv_dLI0]
      generalize upd H10 B (.lst []) = H11 at s11 eD11 ⊢
      refine ⟨_, rfl, ite2 (fun c => ?_) (fun c => ?_)⟩
      · have c : L = [] := List.map_eq_nil_iff.mp (of_decide_eq_true c)
        refine ⟨by show 2 ≤ sizeLine; decide, fun U nU => ⟨U, _, rfl, SqT.of upd_same, rfl, _, _, rfl, gn ⟨_, _, rfl, gn ⟨rfl, out _ _ ⟨none, none, .inl ⟨rfl, by rw [← eL, c]⟩, .inl ⟨rfl, by rw [← eL, c]⟩, rfl, ?_, ?_, ?_, ?_⟩⟩⟩⟩⟩
        · exact (sr10.same s11).updn nU
        · exact (bar10.trans (Bar.same s11)).trans (Bar.same (same_upd nU))
        · exact Tabs.fresh (tb10.ext s11) nU
        · exact (ex10.same s11).same (same_upd nU)
      · have c : L ≠ [] := fun z => c (by rw [z]; rfl)
        have nz : 0 < ((L.map fun o => (la ls p).idxOf o).map fun j => ((j : Nat) : Int)).length := by
          rw [List.length_map, List.length_map]
          exact List.length_pos_iff.mpr c
        have eI : VI (L.map fun o => (la ls p).idxOf o) = (((L.map fun o => (la ls p).idxOf o).map fun j => ((j : Nat) : Int))).map V.int := by
          unfold VI
          rw [List.map_map, List.map_map, List.map_map]
          rfl
        have pick : ∀ mn : Int, mn ∈ ((L.map fun o => (la ls p).idxOf o).map fun j => ((j : Nat) : Int)) → ∃ x, x ∈ L ∧ mn = ((la ls p).idxOf x : Nat) := fun mn hm => by
          obtain ⟨j, hj, rfl⟩ := List.mem_map.mp hm
          obtain ⟨x, hx, rfl⟩ := List.mem_map.mp hj
          exact ⟨x, hx, rfl⟩
        have inn : ∀ y ∈ L, (((la ls p).idxOf y : Nat) : Int) ∈ ((L.map fun o => (la ls p).idxOf o).map fun j => ((j : Nat) : Int)) := fun y hy => List.mem_map.mpr ⟨_, List.mem_map.mpr ⟨y, hy, rfl⟩, rfl⟩
        have getx : ∀ x ∈ L, (la ls p)[(la ls p).idxOf x]? = some x := fun x hx => by
          have := List.idxOf_lt_length_of_mem (Lm x hx)
          rw [List.getElem?_eq_getElem this, List.getElem_idxOf]
        rw [eI] at eD11
        refine ⟨_, rfl, _, rfl, D, _, rfl, SqL.of eD11, nz, fun mn mn1 mn2 => ?_⟩
        obtain ⟨x, hx, rfl⟩ := pick mn mn1
        refine ⟨c0, _, _, _, rfl, rfl, Tp.sq (ev10.same s11), atI_nat (VI_get (getx x hx)), _, rfl, _, rfl, D, _, rfl, SqL.of eD11, nz, fun mx mx1 mx2 => ?_⟩
        obtain ⟨z, hz, rfl⟩ := pick mx mx1
        refine ⟨c0, _, _, _, rfl, rfl, Tp.sq (ev10.same s11), atI_nat (VI_get (getx z hz)), by show 2 ≤ sizeLine; decide, fun U nU => ⟨U, _, rfl, SqT.of upd_same, rfl, _, _, rfl, gn ⟨_, _, rfl, gn ⟨rfl, out _ _ ⟨some x, some z, .inr ⟨x, rfl, by rw [← eL]; exact hx, fun y hy => ?_⟩, .inr ⟨z, rfl, by rw [← eL]; exact hz, fun y hy => ?_⟩, rfl, ?_, ?_, ?_, ?_⟩⟩⟩⟩⟩
        · rw [← eL] at hy
          exact Int.ofNat_le.mp (mn2 _ (inn y hy))
        · rw [← eL] at hy
          exact Int.ofNat_le.mp (mx2 _ (inn y hy))
        · exact (sr10.same s11).updn nU
        · exact (bar10.trans (Bar.same s11)).trans (Bar.same (same_upd nU))
        · exact Tabs.fresh (tb10.ext s11) nU
        · exact (ex10.same s11).same (same_upd nU)
  · rintro σ H' ⟨y6, y7, y8, y9, y10, y11, y12, y13, y14, rfl, sr', bar', tb'⟩
    exact q H' sr' (fun b o n1 n2 e n => bar' b o n1 n2 (noTab_ext b o e n)) tb'
end
end K14
/-! a tuple of tuples of numbers and None, as data -/
namespace K14
open PySem PySem.Spec PyProof.Rows L2
/-- a tuple of tuples, each known -/
def NT (H : Hp) (r : Addr) (rows : List (List V)) : Prop := ∃ as : List Addr, H r = some (.tup (as.map V.ref)) ∧ as.length = rows.length ∧ ∀ (i : Nat) (a : Addr) (x : List V), as[i]? = some a → rows[i]? = some x → H a = some (.tup x)
theorem NT.same {H H' : Hp} {r : Addr} {rows : List (List V)} (t : NT H r rows) (s : Same H H') : NT H' r rows := let ⟨as, e, l, q⟩ := t; ⟨as, s _ _ e, l, fun i a x e1 e2 => s _ _ (q i a x e1 e2)⟩
theorem RT.nt {H : Hp} {r : Addr} {ls : List (List Nat)} (t : RT H r ls) : NT H r (ls.map (VR ls.length)) := by
  obtain ⟨as, e, l, q⟩ := t
  refine ⟨as, e, by rw [List.length_map, l], fun i a x e1 e2 => ?_⟩
  rw [List.getElem?_map] at e2
  cases e3 : ls[i]? with
  | none => rw [e3] at e2; cases e2
  | some s =>
    rw [e3] at e2
    cases e2
    exact q i a s e1 e3
/-- a number below 1000, or None -/
def OkV (v : V) : Prop := v = .non ∨ ∃ n : Nat, n < 1000 ∧ v = .int (n : Nat)
def vD : V → PyData
  | .int i => .int i
  | _ => .none
def dNT (rows : List (List V)) : PyData := .tuple (rows.map fun r => .tuple (r.map vD))
theorem dp_vs {K : PySem.W.Frag} {H : Hp} : ∀ {r : List V}, (∀ v ∈ r, OkV v) → DpAll K H r (r.map vD)
  | [], _ => .nil
  | v :: t, h => by
    refine .cons ?_ (dp_vs fun x hx => h x (List.mem_cons_of_mem _ hx))
    rcases h v List.mem_cons_self with rfl | ⟨n, _, rfl⟩
    · exact .non
    · exact .int _
theorem dp_nt {K : PySem.W.Frag} {H : Hp} {a : Addr} {rows : List (List V)} (t : NT H a rows) (h : ∀ r ∈ rows, ∀ v ∈ r, OkV v) : Dp K H (.ref a) (dNT rows) := by
  obtain ⟨as, e, l, q⟩ := t
  refine .tup (SqT.of e) ?_
  clear e
  induction rows generalizing as with
  | nil =>
    cases as with
    | nil => exact .nil
    | cons b t => cases l
  | cons x t ih =>
    cases as with
    | nil => cases l
    | cons b u =>
      refine .cons (.tup (SqT.of (q 0 b x rfl rfl)) (dp_vs (h x List.mem_cons_self))) (ih (fun r hr => h r (List.mem_cons_of_mem _ hr)) u (by simpa using l) fun i a y e1 e2 => q (i + 1) a y (by simpa using e1) (by simpa using e2))
theorem rp_v {v : V} (h : OkV v) : RpI (vD v) 0 20 := by
  rcases h with rfl | ⟨n, hn, rfl⟩
  · exact rp_none
  · exact rp_int (by omega)
theorem rp_nt {rows : List (List V)} (l : rows.length ≤ 1000) (w : ∀ r ∈ rows, r.length ≤ 60) (h : ∀ r ∈ rows, ∀ v ∈ r, OkV v) : Rp (dNT rows) := by
  have r1 : ∀ r ∈ rows, RpI (.tuple (r.map vD)) 1 1330 := fun r hr => by
    have := rp_tup (xs := r.map vD) (m := 0) (B := 20) fun x hx => by
      obtain ⟨v, hv, rfl⟩ := List.mem_map.mp hx
      exact rp_v (h r hr v hv)
    refine ⟨this.sh, this.nd, this.dp, Nat.le_trans this.ln ?_⟩
    rw [List.length_map]
    have := w r hr
    omega
  have := rp_tup (xs := rows.map fun r => PyData.tuple (r.map vD)) (m := 1) (B := 1330) fun x hx => by
    obtain ⟨r, hr, rfl⟩ := List.mem_map.mp hx
    exact r1 r hr
  refine ⟨this.sh, this.nd, Nat.le_trans this.dp (by decide), Nat.le_trans this.ln ?_⟩
  rw [List.length_map]
  exact Nat.le_trans (m := 1332010) (by omega) (by decide)
theorem sh_nt (rows : List (List V)) : SeqAt.shaped (dNT rows) = true := by
  unfold dNT
  refine shaped_of ?_ ?_
  · simp only [PyData.canLay0]
    refine layAll fun x hx => ?_
    obtain ⟨r, _, rfl⟩ := List.mem_map.mp hx
    simp only [PyData.canLay0]
    refine layAll fun x hx => ?_
    obtain ⟨v, _, rfl⟩ := List.mem_map.mp hx
    cases v <;> rfl
  · simp only [PyData.depth]
    have := depAll (xs := rows.map fun r => PyData.tuple (r.map vD)) (d := 2) fun x hx => by
      obtain ⟨r, _, rfl⟩ := List.mem_map.mp hx
      simp only [PyData.depth]
      have := depAll (xs := r.map vD) (d := 1) fun x hx => by
        obtain ⟨v, _, rfl⟩ := List.mem_map.mp hx
        cases v <;> simp [vD, PyData.depth]
      omega
    omega
theorem okV_VR {n : Nat} {s : List Nat} (l : s.length ≤ 60) : ∀ v ∈ VR n s, OkV v := fun v hv => by
  unfold VR at hv
  obtain ⟨j, _, rfl⟩ := List.mem_map.mp hv
  unfold rkV
  split
  · rename_i h
    have := List.idxOf_lt_length_of_mem h
    exact .inr ⟨_, by omega, rfl⟩
  · exact .inl rfl
end K14
/-! names and lists as data; rows that are lists -/
namespace K14
open PySem PySem.Spec PyProof.Rows L2
theorem rp_dI {s : List Nat} (l : s.length ≤ 60) (h : ∀ j ∈ s, j < 60) : RpI (dI s) 1 2000 := by
  have := rp_tup (xs := s.map fun j => PyData.int (j : Nat)) (m := 0) (B := 20) fun x hx => by
    obtain ⟨j, hj, rfl⟩ := List.mem_map.mp hx
    exact rp_int (Nat.lt_of_lt_of_le (h j hj) (by decide))
  refine ⟨this.sh, this.nd, this.dp, Nat.le_trans this.ln ?_⟩
  rw [List.length_map]
  omega
theorem rp_dL {ls : List (List Nat)} (l : ls.length ≤ 60) (h : ∀ s ∈ ls, s.length ≤ 60 ∧ ∀ j ∈ s, j < 60) : Rp (dL ls) := by
  have := rp_tup (xs := ls.map dI) (m := 1) (B := 2000) fun x hx => by
    obtain ⟨s, hs, rfl⟩ := List.mem_map.mp hx
    exact rp_dI (h s hs).1 (h s hs).2
  refine ⟨this.sh, this.nd, Nat.le_trans this.dp (by decide), Nat.le_trans this.ln ?_⟩
  rw [List.length_map]
  exact Nat.le_trans (m := 200000) (by omega) (by decide)
theorem eqv_same {d : PyData} (h : SeqAt.shaped d = true) : PyData.eqv d d = true := SeqAt.eqv_refl _ (Bool.and_eq_true _ _ ▸ h).1
theorem rpi_up {d : PyData} {m m' B B' : Nat} (r : RpI d m B) (h1 : m ≤ m') (h2 : B ≤ B') : RpI d m' B' := ⟨r.sh, r.nd, Nat.le_trans r.dp h1, Nat.le_trans r.ln h2⟩
theorem rp_nm {s : List Nat} (l : s.length ≤ 6) (h : ∀ c ∈ s, 97 ≤ c ∧ c ≤ 122) : RpI (.str (SS s)) 0 100 := by
  refine ⟨by simp only [PyData.showable], by simp only [PyData.hasDict], by simp only [PyData.depth]; omega, ?_⟩
  have h2 : (reprText (SS s)).length ≤ 10 * (SS s).length + 2 := PySem.StrLaws.reprText_len (SS s) fun c hc => by
    have := h c hc
    omega
  have h3 := SS_len s
  simp only [PyData.shown]
  exact Nat.le_trans h2 (by omega)
theorem rp_dN {n : Nat} {ns : List (List Nat)} (ok : NamesOk n ns) (h : n ≤ 60) : RpI (dN ns) 1 10000 := by
  have := rp_tup (xs := ns.map fun s => PyData.str (SS s)) (m := 0) (B := 100) fun x hx => by
    obtain ⟨s, hs, rfl⟩ := List.mem_map.mp hx
    obtain ⟨_, h2, h3⟩ := ok.each s hs
    exact rp_nm h2 h3
  refine ⟨this.sh, this.nd, this.dp, Nat.le_trans this.ln ?_⟩
  rw [List.length_map, ok.len]
  omega
def dNL (ns ls : List (List Nat)) : PyData := .tuple [dN ns, dL ls]
theorem rp_nl {ns ls : List (List Nat)} (nok : NamesOk ls.length ns) (ok : ListsOk ls.length ls) (h : ls.length ≤ 60) : Rp (dNL ns ls) := by
  have r2 : RpI (dL ls) 2 200000 := by
    have := rp_tup (xs := ls.map dI) (m := 1) (B := 2000) fun x hx => by
      obtain ⟨s, hs, rfl⟩ := List.mem_map.mp hx
      obtain ⟨i, hi, e⟩ := List.getElem_of_mem hs
      have e := (List.getElem?_eq_some_iff.mpr ⟨hi, e⟩)
      have := ok.each e
      exact rp_dI (by omega) fun j hj => by have := (ok.both i s j e hj).1; omega
    refine ⟨this.sh, this.nd, this.dp, Nat.le_trans this.ln ?_⟩
    rw [List.length_map]
    omega
  have := rp_tup (xs := [dN ns, dL ls]) (m := 2) (B := 200000) fun x hx => by
    rcases List.mem_cons.mp hx with rfl | hx
    · exact rpi_up (rp_dN nok h) (by decide) (by decide)
    · rw [List.mem_singleton.mp hx]
      exact r2
  exact ⟨this.sh, this.nd, Nat.le_trans this.dp (by decide), Nat.le_trans this.ln (by show 200002 * 2 + 10 ≤ sizeLine; decide)⟩
theorem dp_nl {K : PySem.W.Frag} {H : Hp} {t n l : Addr} {ns ls : List (List Nat)} (e : H t = some (.tup [.ref n, .ref l])) (en : H n = some (.tup (VN ns))) (el : LT H l ls) : Dp K H (.ref t) (dNL ns ls) :=
  .tup (SqT.of e) (.cons (dp_dN en) (.cons (dp_dL el) .nil))
/-- the rows of ranks so far, each a list of its own -/
def RL (H : Hp) (us : List Addr) (ls : List (List Nat)) (k : Nat) : Prop := us.length = k ∧ ∀ (j : Nat) (u : Addr), us[j]? = some u → H u = some (.lst (VR ls.length (la ls j)))
theorem RL.same {H H' : Hp} {us : List Addr} {ls : List (List Nat)} {k : Nat} (t : RL H us ls k) (s : Same H H') : RL H' us ls k := ⟨t.1, fun j u e => s _ _ (t.2 j u e)⟩
/-- tuples of them -/
def TL (H : Hp) (us : List Addr) (ls : List (List Nat)) (k : Nat) : Prop := us.length = k ∧ ∀ (j : Nat) (u : Addr), us[j]? = some u → H u = some (.tup (VR ls.length (la ls j)))
theorem TL.same {H H' : Hp} {us : List Addr} {ls : List (List Nat)} {k : Nat} (t : TL H us ls k) (s : Same H H') : TL H' us ls k := ⟨t.1, fun j u e => s _ _ (t.2 j u e)⟩
theorem TL.put {H : Hp} {us : List Addr} {ls : List (List Nat)} {k : Nat} {D p : Addr} {xs : List V} {o : HO} (t : TL H us ls k) (eD : H D = some (.lst xs)) (e : H p = some (.tup (VR ls.length (la ls k)))) : TL (upd H D o) (us ++ [p]) ls (k + 1) := by
  refine ⟨by rw [List.length_append, t.1]; rfl, fun j u ej => ?_⟩
  have hu : H u = some (.tup (VR ls.length (la ls j))) := by
    by_cases c : j < us.length
    · rw [List.getElem?_append_left c] at ej
      exact t.2 j u ej
    · rw [List.getElem?_append_right (by omega), List.getElem?_singleton] at ej
      split at ej
      · cases ej
        have : j = k := by have := t.1; omega
        rw [this]
        exact e
      · cases ej
  rw [upd_ne (fun z => by rw [z, eD] at hu; cases hu)]
  exact hu
theorem TL.nt {H : Hp} {r : Addr} {us : List Addr} {ls : List (List Nat)} (e : H r = some (.tup (us.map V.ref))) (t : TL H us ls ls.length) : NT H r (ls.map (VR ls.length)) := by
  refine ⟨us, e, by rw [List.length_map, t.1], fun i a x e1 e2 => ?_⟩
  rw [List.getElem?_map] at e2
  cases e3 : ls[i]? with
  | none => rw [e3] at e2; cases e2
  | some s =>
    rw [e3] at e2
    cases e2
    rw [← la_of e3]
    exact t.2 i a e1
theorem RL.put {H : Hp} {us : List Addr} {ls : List (List Nat)} {k : Nat} {D p : Addr} {o : HO} (t : RL H us ls k) (n : ∀ u ∈ us, u ≠ D) (nD : p ≠ D) (e : H p = some (.lst (VR ls.length (la ls k)))) : RL (upd H D o) (us ++ [p]) ls (k + 1) := by
  refine ⟨by rw [List.length_append, t.1]; rfl, fun j u ej => ?_⟩
  by_cases c : j < us.length
  · rw [List.getElem?_append_left c] at ej
    rw [upd_ne (n u (List.mem_of_getElem? ej))]
    exact t.2 j u ej
  · rw [List.getElem?_append_right (by omega), List.getElem?_singleton] at ej
    split at ej
    · cases ej
      have : j = k := by have := t.1; omega
      rw [this, upd_ne nD]
      exact e
    · cases ej
end K14
namespace K14
open PySem PySem.Spec PyProof.Rows L2
def upR (ls : List (List Nat)) (i j : Nat) : List Nat := (List.range' (i + 1) j).filter fun o => decide (o ∈ la ls i)
theorem upR_succ (ls : List (List Nat)) (i j : Nat) : upR ls i (j + 1) = upR ls i j ++ ([i + 1 + j].filter fun o => decide (o ∈ la ls i)) := by
  unfold upR
  rw [List.range'_concat, List.filter_append]
  simp
theorem upR_len (ls : List (List Nat)) (i j : Nat) : (upR ls i j).length ≤ j := by
  unfold upR
  have := List.length_filter_le (fun o => decide (o ∈ la ls i)) (List.range' (i + 1) j)
  rw [List.length_range'] at this
  exact this
theorem upR_all {ls : List (List Nat)} {i : Nat} (hi : i < ls.length) : upR ls i (ls.length - (i + 1)) = upS ls i := by
  unfold upR upS
  have e : List.range ls.length = List.range (i + 1) ++ List.range' (i + 1) (ls.length - (i + 1)) := by
    rw [List.range_eq_range', List.range_eq_range']
    have := List.range'_append_1 (s := 0) (m := i + 1) (n := ls.length - (i + 1))
    rw [Nat.zero_add] at this
    rw [this]
    congr 1
    omega
  rw [e, List.filter_append]
  have z : (List.range (i + 1)).filter (fun o => decide (i < o ∧ o ∈ la ls i)) = [] := by
    rw [List.filter_eq_nil_iff]
    intro o ho
    rw [List.mem_range] at ho
    simp
    omega
  rw [z, List.nil_append]
  refine List.filter_congr fun o ho => ?_
  rw [List.mem_range'_1] at ho
  rw [decide_eq_decide]
  exact ⟨fun h => ⟨by omega, h⟩, fun h => h.2⟩
theorem prsL_mem {ls : List (List Nat)} {n : Nat} {x : Nat × Nat} (h : x ∈ prsL ls n) : x.1 < n ∧ x.2 < ls.length := by
  unfold prsL at h
  obtain ⟨p, hp, h⟩ := List.mem_flatMap.mp h
  obtain ⟨o, ho, rfl⟩ := List.mem_map.mp h
  unfold upS at ho
  exact ⟨List.mem_range.mp hp, List.mem_range.mp (List.mem_filter.mp ho).1⟩
theorem prsL_len (ls : List (List Nat)) : ∀ n, (prsL ls n).length ≤ n * ls.length
  | 0 => Nat.zero_le _
  | n + 1 => by
    have := prsL_len ls n
    have f := List.length_filter_le (fun o => decide (n < o ∧ o ∈ la ls n)) (List.range ls.length)
    rw [List.length_range] at f
    rw [prsL_succ, List.length_append, List.length_map, Nat.add_mul]
    unfold upS
    omega
theorem RsT.nt {H : Hp} {r : Addr} {us : List Addr} {rows : List (List Nat)} (e : H r = some (.tup (us.map V.ref))) (t : RsT H us rows) : NT H r (rows.map VI) := by
  refine ⟨us, e, by rw [List.length_map, t.1], fun i a x e1 e2 => ?_⟩
  rw [List.getElem?_map] at e2
  cases e3 : rows[i]? with
  | none => rw [e3] at e2; cases e2
  | some s =>
    rw [e3] at e2
    cases e2
    exact t.2 i a s e1 e3
theorem okV_prs {ls : List (List Nat)} {n : Nat} (h : n ≤ 60) (h2 : ls.length ≤ 60) : ∀ r ∈ (rows2 (prsL ls n)).map VI, ∀ v ∈ r, OkV v := fun r hr v hv => by
  obtain ⟨s, hs, rfl⟩ := List.mem_map.mp hr
  unfold rows2 at hs
  obtain ⟨x, hx, rfl⟩ := List.mem_map.mp hs
  obtain ⟨h3, h4⟩ := prsL_mem hx
  have hv : v ∈ [V.int (x.1 : Nat), V.int (x.2 : Nat)] := hv
  rcases List.mem_cons.mp hv with rfl | hv
  · exact .inr ⟨_, by omega, rfl⟩
  · rw [List.mem_singleton.mp hv]
    exact .inr ⟨_, by omega, rfl⟩
theorem rp_prs {ls : List (List Nat)} (h : ls.length ≤ 10) : Rp (dNT ((rows2 (prsL ls ls.length)).map VI)) := by
  refine rp_nt ?_ (fun r hr => ?_) (okV_prs (by omega) (by omega))
  · have := prsL_len ls ls.length
    unfold rows2
    rw [List.length_map, List.length_map]
    have : ls.length * ls.length ≤ 10 * 10 := Nat.mul_le_mul h h
    omega
  · obtain ⟨s, hs, rfl⟩ := List.mem_map.mp hr
    unfold rows2 at hs
    obtain ⟨x, hx, rfl⟩ := List.mem_map.mp hs
    show 2 ≤ 60
    decide
end K14
/-! tuples that are written out: what stands behind them, said once -/
namespace K14
open PySem PySem.Spec PyProof.Rows L2
def PC (c : V) : Hp → V → Prop := fun _ v => v = c
def PT (P : Hp → List V → Prop) : Hp → V → Prop := fun H v => ∃ p xs, v = .ref p ∧ H p = some (.tup xs) ∧ P H xs
def PNl : Hp → List V → Prop := fun _ xs => xs = []
def PCn (P : Hp → V → Prop) (R : Hp → List V → Prop) : Hp → List V → Prop := fun H xs => ∃ x r, xs = x :: r ∧ P H x ∧ R H r
structure LitE (t : TE) (P : Hp → V → Prop) : Prop where
  mono : ∀ H H' v, P H v → Same H H' → P H' v
  run : ∀ σ H (Q : VK), (∀ v H', Same H H' → P H' v → Q v H') → t σ H Q
structure LitA (t : TA) (n : Nat) (P : Hp → List V → Prop) : Prop where
  mono : ∀ H H' v, P H v → Same H H' → P H' v
  len : ∀ H xs, P H xs → xs.length = n
  run : ∀ σ H (Q : List V → Hp → Prop), (∀ xs H', Same H H' → P H' xs → Q xs H') → t σ H Q
theorem lC {c : V} : LitE (tC c) (PC c) := ⟨fun _ _ _ h _ => h, fun _ H _ q => q _ H (Same.refl H) rfl⟩
theorem lNil : LitA tNil 0 PNl := ⟨fun _ _ _ h _ => h, fun _ _ h => by rw [h]; rfl, fun _ H _ q => q _ H (Same.refl H) rfl⟩
theorem lCons {t : TE} {P : Hp → V → Prop} {ts : TA} {n : Nat} {R : Hp → List V → Prop} (a : LitE t P) (r : LitA ts n R) : LitA (tCons t ts) (n + 1) (PCn P R) where
  mono := fun H H' v ⟨x, xs, e, h1, h2⟩ s => ⟨x, xs, e, a.mono _ _ _ h1 s, r.mono _ _ _ h2 s⟩
  len := fun H xs ⟨x, ys, e, _, h2⟩ => by rw [e, List.length_cons, r.len _ _ h2]
  run := fun σ H Q q => a.run σ H _ fun x H1 s1 p1 => r.run σ H1 _ fun xs H2 s2 p2 => q _ H2 (s1.trans s2) ⟨x, xs, rfl, a.mono _ _ _ p1 s2, p2⟩
theorem lTup {ts : TA} {n : Nat} {R : Hp → List V → Prop} (r : LitA ts n R) (h : n ≤ 1000 := by decide) : LitE (tTup ts) (PT R) where
  mono := fun H H' v ⟨p, xs, e, h1, h2⟩ s => ⟨p, xs, e, s _ _ h1, r.mono _ _ _ h2 s⟩
  run := fun σ H Q q => r.run σ H _ fun xs H1 s1 p1 => ⟨by rw [r.len _ _ p1]; exact Nat.le_trans h (by rw [sizeLine_eq]; decide), fun p np => by
    have s2 : Same H1 (upd H1 p (.tup xs)) := fun b x e => by
      rw [upd_ne (ne_of_none e np)]
      exact e
    exact q _ _ (s1.trans s2) ⟨p, xs, rfl, upd_same, r.mono _ _ _ p1 s2⟩⟩
end K14
namespace K14
open PySem PySem.Spec PyProof.Rows L2
def lookL (ls : List (List Nat)) : Bool := (List.range ls.length).all fun i => decide ((la ls i).Nodup) && (la ls i).all fun j => decide (j < ls.length) && decide (j ≠ i) && decide (i ∈ la ls j)
theorem lists_of {ls : List (List Nat)} (h : lookL ls = true) : ListsOk ls.length ls := by
  unfold lookL at h
  rw [List.all_eq_true] at h
  have g : ∀ (i : Nat) (s : List Nat), ls[i]? = some s → i < ls.length ∧ la ls i = s := fun i s e => by
    refine ⟨(List.getElem?_eq_some_iff.mp e).1, ?_⟩
    unfold la
    rw [List.getD_eq_getElem?_getD, e]
    rfl
  refine ⟨rfl, fun i s e => ?_, fun i s j e hj => ?_⟩
  · obtain ⟨hi, es⟩ := g i s e
    have := h i (List.mem_range.mpr hi)
    rw [Bool.and_eq_true, es] at this
    exact of_decide_eq_true this.1
  · obtain ⟨hi, es⟩ := g i s e
    have := h i (List.mem_range.mpr hi)
    rw [Bool.and_eq_true, es, List.all_eq_true] at this
    have z := this.2 j hj
    rw [Bool.and_eq_true, Bool.and_eq_true] at z
    have h1 := of_decide_eq_true z.1.1
    exact ⟨h1, of_decide_eq_true z.1.2, la ls j, la_get h1, of_decide_eq_true z.2⟩
def lookN (ns : List (List Nat)) : Bool := (ns.all fun s => decide (1 ≤ s.length) && decide (s.length ≤ 6) && s.all fun c => decide (97 ≤ c) && decide (c ≤ 122)) && (List.range ns.length).all fun i => match ns[i]?, ns[i + 1]? with | some s, some t => decide (s < t) | _, _ => true
theorem names_look {ns : List (List Nat)} (h : lookN ns = true) : NamesOk ns.length ns := by
  unfold lookN at h
  rw [Bool.and_eq_true, List.all_eq_true, List.all_eq_true] at h
  refine ⟨rfl, fun s hs => ?_, fun i s t e1 e2 => ?_⟩
  · have := h.1 s hs
    rw [Bool.and_eq_true, Bool.and_eq_true, List.all_eq_true] at this
    refine ⟨of_decide_eq_true this.1.1, of_decide_eq_true this.1.2, fun c hc => ?_⟩
    have z := this.2 c hc
    rw [Bool.and_eq_true] at z
    exact ⟨of_decide_eq_true z.1, of_decide_eq_true z.2⟩
  · have := h.2 i (List.mem_range.mpr (List.getElem?_eq_some_iff.mp e1).1)
    rw [e1, e2] at this
    exact of_decide_eq_true this
abbrev pI (n : Int) : Hp → V → Prop := PC (.int n)
def PIs : List Nat → Hp → List V → Prop
  | [] => PNl
  | n :: ns => PCn (pI (n : Int)) (PIs ns)
theorem pis_vi {H : Hp} : ∀ {ns : List Nat} {xs : List V}, PIs ns H xs → xs = VI ns
  | [], _, h => h
  | n :: ns, xs, h => by
    obtain ⟨v, r, rfl, h1, h2⟩ := h
    cases h1
    rw [pis_vi h2]
    rfl
theorem pt_row {H : Hp} {ns : List Nat} {v : V} (h : PT (PIs ns) H v) : ∃ p, v = .ref p ∧ H p = some (.tup (VI ns)) := by
  obtain ⟨p, xs, rfl, e, h⟩ := h
  rw [pis_vi h] at e
  exact ⟨p, rfl, e⟩
theorem gIf {t : TT} {a b : TS} {D : Ends} {σ : L2.St} {H : Hp} (h : t σ H fun c H1 => if c = true then a D σ H1 else b D σ H1) : tIfS t a b D σ H := h
theorem gRet {te : TE} {D : Ends} {σ : L2.St} {H : Hp} (h : te σ H D.rt) : tRet te D σ H := h
theorem gOr {t u : TT} {σ : L2.St} {H : Hp} {Q : Bool → Hp → Prop} (h : t σ H fun c H1 => if c = true then Q true H1 else u σ H1 Q) : tOr t u σ H Q := h
theorem gTest {te : TE} {σ : L2.St} {H : Hp} {Q : Bool → Hp → Prop} (h : te σ H fun x H' => ∃ k, x = .bl k ∧ Q k H') : tTest te σ H Q := h
theorem gOp {r : R2} {ta tb : TE} {σ : L2.St} {H : Hp} {Q : VK} (h : ta σ H fun x H1 => tb σ H1 fun y H2 => r x y H2 Q) : tOp r ta tb σ H Q := h
theorem gCall {sp : Sp} {E : XK} {e : TE} {σ : L2.St} {H : Hp} {Q : VK} (h : e σ H fun v H1 => sp [v] H1 Q E) : tCall sp [] E (tCons e tNil) σ H Q := h
theorem tSeqG {a b : TS} {D : Ends} {σ : L2.St} {H : Hp} (h : a { D with nx := b D } σ H) : tSeq a b D σ H := h
theorem tAsgG {t : TE} {g : TG} {D : Ends} {σ : L2.St} {H : Hp} (h : t σ H fun v H1 => g v σ H1 D.nx) : tAsg t g D σ H := h
def ls4 : List (List Nat) := [[1, 2], [2, 0], [0, 1], []]
def ns4 : List (List Nat) := [[102, 105, 114], [108, 97, 114, 107], [109, 111, 115, 115], [119, 114, 101, 110]]
theorem ok4 : ListsOk ls4.length ls4 := lists_of (by decide +kernel)
theorem nok4 : NamesOk ls4.length ns4 := names_look (ns := ns4) (by decide +kernel)
theorem VN4 : VN ns4 = [.str "fir", .str "lark", .str "moss", .str "wren"] := by
  unfold VN ns4
  have e : ∀ (s : List Nat) (x : Str), x = SS s → V.str (SS s) = V.str x := fun s x h => by rw [h]
  simp only [List.map_cons, List.map_nil]
  rw [e [102, 105, 114] "fir" (by decide +kernel), e [108, 97, 114, 107] "lark" (by decide +kernel), e [109, 111, 115, 115] "moss" (by decide +kernel), e [119, 114, 101, 110] "wren" (by decide +kernel)]
theorem lt_four {H : Hp} {t r1 r2 r3 r4 : Addr} {s1 s2 s3 s4 : List Nat} (e : H t = some (.tup [.ref r1, .ref r2, .ref r3, .ref r4]))
    (e1 : H r1 = some (.tup (VI s1))) (e2 : H r2 = some (.tup (VI s2))) (e3 : H r3 = some (.tup (VI s3))) (e4 : H r4 = some (.tup (VI s4))) : LT H t [s1, s2, s3, s4] := by
  refine ⟨[r1, r2, r3, r4], e, rfl, fun i a s h1 h2 => ?_⟩
  match i, h1, h2 with
  | 0, h1, h2 => cases h1; cases h2; exact .inl e1
  | 1, h1, h2 => cases h1; cases h2; exact .inl e2
  | 2, h1, h2 => cases h1; cases h2; exact .inl e3
  | 3, h1, h2 => cases h1; cases h2; exact .inl e4
  | _ + 4, h1, h2 => cases h1
end K14
set_option maxHeartbeats 2000000
/-! law -/
namespace K14
open PySem PySem.Spec PyProof.Rows L2
abbrev rTupOf (K : PySem.W.Frag) : List V → Hp → VK → Prop := fun xs H Q => ∃ p ys, xs = [.ref p] ∧ ((SqL K H p ys ∧ ∀ l, H l = none → Q (.ref l) (upd H l (.tup ys))) ∨ SqT K H p ys ∧ Q (.ref p) H)
def spLaw (K : PySem.W.Frag) (T : List (Addr × Str)) : Sp := fun vs H Q _ => ∃ (a : Addr) (ns : List Int), vs = [.ref a] ∧ SqL K H a (ns.map V.int) ∧ ns.length ≤ 63 ∧ LamX.Tabs T H ∧ ∀ H', Q (.bl true) H'
theorem scL2 : FnScope ["script", "heap", "turn", "many", "names", "lists", "wishes", "rows", "person", "pairs", "one", "wide", "some", "row", "other"] ["script"] (defScope sLaw) := ⟨rfl, rfl, rfl, by decide +kernel, rfl, by decide +kernel, by decide +kernel⟩
section
variable {P : Program} {w : World} {K : PySem.W.Frag} {mg : Str → Option Value} {base : Heap} {Tb : List (Addr × Str)}
theorem ok_law {f fi C f1 f2 f3 f4 f5 f6 f7 f8 f9 f10 f11 f12 : Addr} {fd di d1 d2 d3 d4 d5 d6 d7 d8 d9 d10 d11 d12 : FuncData} {k : Nat} (F : Fun K "law" "law" sLaw f fd) (T : Txt K mg C) (M : Mk K C fi)
    (Gi : FnOk P w K mg base CX0 (k + 1) fi di ["self", "names", "lists"] (spWInit C)) (bi : Binds K di ["self", "names", "lists"] [])
    (Hp : Has P w K mg base (k + 2) "_law_heap" ["script"] (spHeap K) f1 d1) (Pk : Has P w K mg base (k + 2) "_law_pick" ["heap", "some"] spPick f2 d2)
    (Na : Has P w K mg base (k + 2) "_law_names" ["heap", "many"] spNames2 f3 d3) (Li : Has P w K mg base (k + 2) "_law_lists" ["heap", "many"] spLists2 f4 d4)
    (Lr : Has P w K mg base (k + 2) "_law_ranks" ["some", "many"] spLRanks f5 d5)
    (Ri : Has P w K mg base (k + 2) "ranks_in" ["wishes"] (spRanksIn C) f6 d6) (nRi : KBinds K d6 ["wishes"] ["wishes"] (fun us ws => us ++ ws) (fun vs zs => vs ++ zs))
    (Pr : HasG P w K mg base (k + 2) "_law_person_right" ["heap", "wishes", "person", "ranks"] (spPersonR C Tb) f7 d7)
    (Pi : Has P w K mg base (k + 2) "pairs_in" ["wishes"] (spPI C) f8 d8) (nPi : KBinds K d8 ["wishes"] ["wishes"] (fun us ws => us ++ ws) (fun vs zs => vs ++ zs))
    (Rk : Has P w K mg base (k + 2) "rank_of" ["wishes", "person", "other"] (spRankOf C) f9 d9) (Wr : Has P w K mg base (k + 2) "would_rather" ["wishes", "person", "one", "other"] (spWould C) f10 d10)
    (Bo : Has P w K mg base (k + 2) "best_of" ["wishes", "person", "some"] (spBestOf C Tb) f11 d11) (Wo : Has P w K mg base (k + 2) "worst_of" ["wishes", "person", "some"] (spWorstOf C Tb) f12 d12)
    (ml : mg "len" = none) (mi : mg "int" = none) (mrg : mg "range" = none) (mt : mg "tuple" = none) (mrp : mg "repr" = none) : RunG P w K mg base (k + 3) f fd ["script"] (spLaw K Tb) := by
  refine okG F scL2 (by rintro vs H Q E ⟨a, ns, rfl, _⟩; rfl) (fun cdv A outer s H vs Q E hA hr h => ?_)
  obtain ⟨a, ns, rfl, hS, hl, tb, q⟩ := h
  refine ⟨_, pss_cons (ps_set (i := 1) scL2.nd rfl (.inl rfl) (pe_call Hp.ok hr rfl Hp.m Hp.k Hp.b .nil pass0 (pa_cons (pv 0) pa_nil)))
      (pss_cons (ps_for PassesOwn.never rfl (pi_range1 rfl mrg (pa_cons (pe_op op_add pe_int (pe_callTy call_int1 (by rfl) mi (by decide +kernel) (pa_cons (pe_cmp (pc_gt (pe_callB call_len_seq (by rfl) ml PySem.boot_len (pa_cons (pv 0) pa_nil)) pe_int) rfl) pa_nil))) pa_nil)) (pg_name (i := 2) scL2.nd rfl (.inl rfl))
      (pss_cons (ps_set (i := 3) scL2.nd rfl (.inr rfl) (pe_call Pk.ok hr rfl Pk.m Pk.k Pk.b .nil pass0 (pa_cons (pv 1) (pa_cons (pe_lst (pa_cons pe_int (pa_cons pe_int (pa_cons pe_int (pa_cons pe_int (pa_cons pe_int (pa_cons pe_int pa_nil))))))) pa_nil))))
      (pss_cons (ps_par (i := 4) (j := 5) rfl scL2.nd rfl rfl (by decide) rfl rfl (pa_cons (pe_call Na.ok hr rfl Na.m Na.k Na.b .nil pass0 (pa_cons (pv 1) (pa_cons (pv 3) pa_nil))) (pa_cons (pe_call Li.ok hr rfl Li.m Li.k Li.b .nil pass0 (pa_cons (pv 1) (pa_cons (pv 3) pa_nil))) pa_nil)) (by rfl))
      (pss_cons (ps_asg (pe_tup (pa_cons (pe_make M Gi hr rfl T.mgC bi .nil pass0 (pa_cons (pv 4) (pa_cons (pv 5) pa_nil))) (pa_cons (pe_lc (own := [("some", 12)]) (g := gName 12) (tt := tYes) (te := tCall spLRanks [] E0 (tCons (tVar 12) (tCons (tVar 3) tNil))) rfl scL2.nd (pi_tup (pv 5))
          (blkOk_by (own := [("some", 12)]) (N := ["script", "heap", "turn", "many", "names", "lists", "wishes", "rows", "person", "pairs", "one", "wide", "some", "row", "other"]) (sc := defScope sLaw) (by decide +kernel)) (fun _ _ _ _ _ => (pg_name (i := 12) scL2.nd rfl (Or.inl rfl))) (fun _ _ _ _ _ => pts_nil)
          (fun _ _ _ _ _ => (pe_call Lr.ok hr rfl Lr.m Lr.k Lr.b .nil pass0 (pa_cons (pv 12) (pa_cons (pv 3) pa_nil))))) pa_nil))) (pg_tup (by rfl) (pgs_cons (pg_name (i := 6) scL2.nd rfl (.inl rfl)) (pgs_cons (pg_name (i := 7) scL2.nd rfl (.inr rfl)) pgs_nil))))
      (pss_cons (ps_if (PW.pt (pw_or (pt_cmpR op_ne (pe_callB (call_repr hA hr.units) (by rfl) mrp (by decide +kernel) (pa_cons (pe_call Ri.ok hr rfl Ri.m Ri.k Ri.b .nil pass0 (pa_cons (pv 6) pa_nil)) pa_nil)) (pe_callB (call_repr hA hr.units) (by rfl) mrp (by decide +kernel) (pa_cons (pe_callTy call_tuple_of (by rfl) mt (by decide +kernel) (pa_cons (pe_lc (own := [("row", 13)]) (g := gName 13) (tt := tYes) (te := tCB (rTupOf K) (tCons (tVar 13) tNil)) rfl scL2.nd (pi_list (pv 7))
          (blkOk_by (own := [("row", 13)]) (N := ["script", "heap", "turn", "many", "names", "lists", "wishes", "rows", "person", "pairs", "one", "wide", "some", "row", "other"]) (sc := defScope sLaw) (by decide +kernel)) (fun _ _ _ _ _ => (pg_name (i := 13) scL2.nd rfl (Or.inl rfl))) (fun _ _ _ _ _ => pts_nil)
          (fun _ _ _ _ _ => (pe_callTy call_tuple_of (by rfl) mt (by decide +kernel) (pa_cons (pv 13) pa_nil)))) pa_nil)) pa_nil)) (nomark _)) (pw_or1 (pt_cmpR (op_neD hr.units) (pe_named Ri.ok hr rfl Ri.m Ri.k nRi pass0 (pk_cons (pv 6) pk_nil)) (pe_call Ri.ok hr rfl Ri.m Ri.k Ri.b .nil pass0 (pa_cons (pv 6) pa_nil)) (nomark _))))) (pss_one (ps_ret pe_bl)) pss_nil)
      (pss_cons (ps_for PassesOwn.never rfl (pi_range1 rfl mrg (pa_cons (pv 3) pa_nil)) (pg_name (i := 8) scL2.nd rfl (.inl rfl))
      (pss_one (ps_if (pt_not (pt_val (pe_callG Pr.ok (spPersonR_len C Tb) hA hr (by rfl) Pr.m Pr.k Pr.b pass0 (pa_cons (pv 1) (pa_cons (pv 6) (pa_cons (pv 8) (pa_cons (pe_ix ix_list (pv 7) (pv 8) (fun _ _ => rfl)) pa_nil))))))) (pss_one (ps_ret pe_bl)) pss_nil)))
      (pss_cons (ps_set (i := 9) scL2.nd rfl (.inl rfl) (pe_lst pa_nil))
      (pss_cons (ps_for PassesOwn.never rfl (pi_range1 rfl mrg (pa_cons (pv 3) pa_nil)) (pg_name (i := 10) scL2.nd rfl (.inr rfl))
      (pss_one (ps_set (i := 9) scL2.nd rfl (.inl rfl) (pe_op op_cat (pv 9) (pe_lc (own := [("other", 14)]) (g := gName 14) (tt := tTest (tOp rNotN (tOp (rIxL K) (tOp (rIxL K) (tVar 7) (tVar 10)) (tVar 14)) (tC .non))) (te := tTup (tCons (tVar 10) (tCons (tVar 14) tNil))) rfl scL2.nd (pi_range2 (by rfl) mrg (pa_cons (pe_op op_add (pv 10) pe_int) (pa_cons (pv 3) pa_nil)))
          (blkOk_by (own := [("other", 14)]) (N := ["script", "heap", "turn", "many", "names", "lists", "wishes", "rows", "person", "pairs", "one", "wide", "some", "row", "other"]) (sc := defScope sLaw) (by decide +kernel)) (fun _ _ _ _ _ => (pg_name (i := 14) scL2.nd rfl (Or.inl rfl))) (fun _ _ _ _ _ => (pts_one (pt_cmpR op_notN (pe_ix ix_list (pe_ix ix_list (pv 7) (pv 10) (fun _ _ => rfl)) (pv 14) (fun _ _ => rfl)) pe_non (nomark _))))
          (fun _ _ _ _ _ => (pe_tup (pa_cons (pv 10) (pa_cons (pv 14) pa_nil)))))))))
      (pss_one (ps_if (PW.pt (pw_or (pt_cmpR op_ne (pe_callB (call_repr hA hr.units) (by rfl) mrp (by decide +kernel) (pa_cons (pe_call Pi.ok hr rfl Pi.m Pi.k Pi.b .nil pass0 (pa_cons (pv 6) pa_nil)) pa_nil)) (pe_callB (call_repr hA hr.units) (by rfl) mrp (by decide +kernel) (pa_cons (pe_callTy call_tuple_of (by rfl) mt (by decide +kernel) (pa_cons (pv 9) pa_nil)) pa_nil)) (nomark _)) (pw_or (pt_cmpR (op_neD hr.units) (pe_named Pi.ok hr rfl Pi.m Pi.k nPi pass0 (pk_cons (pv 6) pk_nil)) (pe_callTy call_tuple_of (by rfl) mt (by decide +kernel) (pa_cons (pv 9) pa_nil)) (nomark _)) (pw_or1 (pt_cmpR op_ne (pe_callB (call_repr hA hr.units) (by rfl) mrp (by decide +kernel) (pa_cons (pe_tup (pa_cons (pe_fld (pv 6) rfl) (pa_cons (pe_fld (pv 6) rfl) pa_nil))) pa_nil)) (pe_callB (call_repr hA hr.units) (by rfl) mrp (by decide +kernel) (pa_cons (pe_tup (pa_cons (pv 4) (pa_cons (pv 5) pa_nil))) pa_nil)) (nomark _)))))) (pss_one (ps_ret pe_bl)) pss_nil))))))))))
      (pss_cons (ps_set (i := 11) scL2.nd rfl (.inl rfl) (pe_call Li.ok hr rfl Li.m Li.k Li.b .nil pass0 (pa_cons (pv 1) (pa_cons pe_int pa_nil))))
      (pss_cons (ps_if (pt_cmpR (op_neD hr.units) (pe_call Ri.ok hr rfl Ri.m Ri.k Ri.b .nil pass0 (pa_cons (pe_make M Gi hr rfl T.mgC bi .nil pass0 (pa_cons (pe_call Na.ok hr rfl Na.m Na.k Na.b .nil pass0 (pa_cons (pv 1) (pa_cons pe_int pa_nil))) (pa_cons (pv 11) pa_nil))) pa_nil)) (pe_callTy call_tuple_of (by rfl) mt (by decide +kernel) (pa_cons (pe_lc (own := [("some", 12)]) (g := gName 12) (tt := tYes) (te := tCB (rTupOf K) (tCons (tCall spLRanks [] E0 (tCons (tVar 12) (tCons (tC (.int 30)) tNil))) tNil)) rfl scL2.nd (pi_tup (pv 11))
          (blkOk_by (own := [("some", 12)]) (N := ["script", "heap", "turn", "many", "names", "lists", "wishes", "rows", "person", "pairs", "one", "wide", "some", "row", "other"]) (sc := defScope sLaw) (by decide +kernel)) (fun _ _ _ _ _ => (pg_name (i := 12) scL2.nd rfl (Or.inl rfl))) (fun _ _ _ _ _ => pts_nil)
          (fun _ _ _ _ _ => (pe_callTy call_tuple_of (by rfl) mt (by decide +kernel) (pa_cons (pe_call Lr.ok hr rfl Lr.m Lr.k Lr.b .nil pass0 (pa_cons (pv 12) (pa_cons pe_int pa_nil))) pa_nil)))) pa_nil)) (nomark _)) (pss_one (ps_ret pe_bl)) pss_nil)
      (pss_cons (ps_set (i := 6) scL2.nd rfl (.inl rfl) (pe_make M Gi hr rfl T.mgC bi .nil pass0 (pa_cons (pe_tup (pa_cons pe_str (pa_cons pe_str (pa_cons pe_str (pa_cons pe_str pa_nil))))) (pa_cons (pe_tup (pa_cons (pe_tup (pa_cons pe_int (pa_cons pe_int pa_nil))) (pa_cons (pe_tup (pa_cons pe_int (pa_cons pe_int pa_nil))) (pa_cons (pe_tup (pa_cons pe_int (pa_cons pe_int pa_nil))) (pa_cons (pe_tup pa_nil) pa_nil))))) pa_nil))))
      (pss_cons (ps_if (PW.pt (pw_or (pt_cmpR op_ne (pe_call Rk.ok hr rfl Rk.m Rk.k Rk.b .nil pass0 (pa_cons (pv 6) (pa_cons pe_int (pa_cons pe_non pa_nil)))) pe_int (nomark _)) (pw_or (pt_cmpR op_notBl (pe_call Wr.ok hr rfl Wr.m Wr.k Wr.b .nil pass0 (pa_cons (pv 6) (pa_cons pe_int (pa_cons pe_int (pa_cons pe_int pa_nil))))) pe_bl (nomark _)) (pw_or (pt_cmpR op_notBl (pe_call Wr.ok hr rfl Wr.m Wr.k Wr.b .nil pass0 (pa_cons (pv 6) (pa_cons pe_int (pa_cons pe_non (pa_cons pe_int pa_nil))))) pe_bl (nomark _)) (pw_or1 (pt_cmpR op_ne (pe_call Bo.ok hr rfl Bo.m Bo.k Bo.b .nil pass0 (pa_cons (pv 6) (pa_cons pe_int (pa_cons (pe_tup (pa_cons pe_int (pa_cons pe_int pa_nil))) pa_nil)))) pe_int (nomark _))))))) (pss_one (ps_ret pe_bl)) pss_nil)
      (pss_one (ps_ret (pe_and (pe_cmpR op_eq (pe_call Rk.ok hr rfl Rk.m Rk.k Rk.b .nil pass0 (pa_cons (pv 6) (pa_cons pe_int (pa_cons pe_non pa_nil)))) pe_int (nomark _)) (pe_and (pe_cmpR op_eq (pe_call Wo.ok hr rfl Wo.m Wo.k Wo.b .nil pass0 (pa_cons (pv 6) (pa_cons pe_int (pa_cons (pe_tup (pa_cons pe_int (pa_cons pe_int (pa_cons pe_int (pa_cons pe_int pa_nil))))) pa_nil)))) pe_int (nomark _)) (pe_and (pe_cmpR op_isN (pe_call Wo.ok hr rfl Wo.m Wo.k Wo.b .nil pass0 (pa_cons (pv 6) (pa_cons pe_int (pa_cons (pe_tup (pa_cons pe_int (pa_cons pe_int pa_nil))) pa_nil)))) pe_non (nomark _)) (pe_one (pe_cmpR (op_eqD hr.units) (pe_call Pi.ok hr rfl Pi.m Pi.k Pi.b .nil pass0 (pa_cons (pv 6) pa_nil)) (pe_tup (pa_cons (pe_tup (pa_cons pe_int (pa_cons pe_int pa_nil))) (pa_cons (pe_tup (pa_cons pe_int (pa_cons pe_int pa_nil))) (pa_cons (pe_tup (pa_cons pe_int (pa_cons pe_int pa_nil))) pa_nil)))) (nomark _))))))))))))), ?_⟩
  refine ⟨_, rfl, a, ns, rfl, hS, fun h l H1 s1 nh nl src1 => ?_⟩
  have hS1 : SqL K H1 a (ns.map V.int) := s1.seq hS
  have tb1 : LamX.Tabs Tb H1 := tb.ext s1
  refine ⟨_, rfl, a, _, rfl, .inl hS1, _, _, rfl, rfl, .inr ⟨_, rfl, _, _, rfl, rfl, _, rfl, ?_, ?_, for_range (lo := 0) (n := _) (fun i σ H' => ∃ y2 y3 y4 y5 y6 y7 y8 y9 y10 : Option V, σ = [some (.ref a), some (.ref h), y2, y3, y4, y5, y6, y7, y8, y9, y10, none, none, none, none] ∧ Src H' h l ∧ LamX.Tabs Tb H')
      ⟨none, none, none, none, none, none, none, none, none, rfl, src1, tb1⟩ ?_ ?_⟩⟩
  · split <;> omega
  · split <;> omega
  · clear hS1 src1 tb1 nh nl s1
    rintro i0 σ H2 hi ⟨y2, y3, y4, y5, y6, y7, y8, y9, y10, rfl, src2, tb2⟩
    refine gn ?_
    dsimp only [List.set]
    refine ⟨_, rfl, by show 6 ≤ sizeLine; decide, fun u nu => ⟨h, l, u, _, rfl, src2.updn nu, .inl upd_same, (src2.new nu).1, (src2.new nu).2, by simp, by simp, fun j v H3 hv src3 br3 => ?_⟩⟩
    obtain ⟨m, rfl, m0, m10⟩ : ∃ m : Nat, v = .int (m : Nat) ∧ 0 < m ∧ m ≤ 10 := by
      match j, hv with
      | 0, hv => exact ⟨3, (Option.some.inj hv).symm, by decide, by decide⟩
      | 1, hv => exact ⟨4, (Option.some.inj hv).symm, by decide, by decide⟩
      | 2, hv => exact ⟨1, (Option.some.inj hv).symm, by decide, by decide⟩
      | 3, hv => exact ⟨2, (Option.some.inj hv).symm, by decide, by decide⟩
      | 4, hv => exact ⟨6, (Option.some.inj hv).symm, by decide, by decide⟩
      | 5, hv => exact ⟨10, (Option.some.inj hv).symm, by decide, by decide⟩
    have tb3 : LamX.Tabs Tb H3 := Tabs.bar (Tabs.fresh tb2 nu) (src2.updn nu) br3
    clear br3 nu hv tb2 src2
    refine gn ?_
    dsimp only [List.set]
    refine ⟨_, rfl, _, rfl, h, l, m, rfl, src3, m0, by omega, fun na nms H4 nok src4 br4 nn en => ?_⟩
    refine ⟨_, rfl, _, rfl, h, l, m, rfl, src4, by omega, fun la0 ls H5 ok src5 br5 nl5 lx5 => ⟨_, _, rfl, ?_⟩⟩
    have en5 := tup_bar src4 br5 en
    have tb5 : LamX.Tabs Tb H5 := Tabs.bar (Tabs.bar tb3 src3 br4) src4 br5
    clear br5 nl5 en nn br4 src4 tb3 src3
    dsimp only [List.set]
    have el := ok.len
    subst el
    refine ⟨_, rfl, _, rfl, ?_⟩
    intro x dx nx ndx ne
    have s7 : Same H5 (upd (upd H5 dx (.own x)) x (.ins C dx [])) := (same_rfl.fresh ndx).fresh nx
    refine ⟨x, dx, na, la0, nms, ls, rfl, upd_same, s7 _ _ en5, lx5.lt.same s7, m0, by omega, nok, ok, fun H8 W8 keep => ⟨rfl, ?_⟩⟩
    have s78 : Same H5 H8 := fun b o e => keep b o (s7 _ _ e) (ne_of_none e nx)
    have src8 := src5.same s78
    have lx8 := lx5.same s78
    have en8 := s78 _ _ en5
    have tb8 : LamX.Tabs Tb H8 := tb5.ext s78
    clear keep s7 s78 ne ndx nx en5 lx5 src5 tb5
    have n60 : ls.length ≤ 60 := by omega
    have len60 : ∀ i, i < ls.length → (la ls i).length ≤ 60 := fun i hi => by
      have := ok.each (la_get hi)
      omega
    obtain ⟨as, el, al, at_⟩ := id lx8
    refine ⟨_, rfl, la0, rfl, ⟨_, SqT.of el⟩, fun D nD => ?_⟩
    refine lc_it (walk_tup (K := K) (a := la0) (xs := as.map V.ref)) (fun i H' => Same H8 H' ∧ ∃ us : List Addr, H' D = some (.lst (us.map V.ref)) ∧ RL H' us ls i ∧ ∀ u ∈ us, u ≠ D ∧ u ≠ h ∧ u ≠ l) ⟨same_upd nD, [], upd_same, ⟨rfl, fun _ _ e => by simp at e⟩, by simp⟩ (fun i H' _ hh => SqT.of (hh.1 _ _ el)) ?_ ?_
    · rintro i x H9 H10 hi ⟨s9, us, eD, rl, un⟩ ⟨rfl, ex⟩
      have hia : i < as.length := by rw [List.length_map] at hi; exact hi
      have hil : i < ls.length := by omega
      rw [List.getElem?_map, List.getElem?_eq_getElem hia] at ex
      cases ex
      have ev := at_ i _ _ (List.getElem?_eq_getElem hia) (la_get hil)
      refine gn ⟨rfl, yes ?_⟩
      refine ⟨_, rfl, _, rfl, as[i], ls.length, la ls i, rfl, .inr (ev.same s9), ok.nda hil, fun o ho => (ok.mate hil ho).1, n60, fun r H11 s11 nr er => ?_⟩
      have nrD : r ≠ D := fun z => by rw [z] at nr; rw [nr] at eD; cases eD
      refine ⟨_, s11 _ _ eD, ?_, (s9.trans s11).fresh nD, us ++ [r], by rw [upd_same, List.map_append]; rfl, (rl.same s11).put (fun u hu => (un u hu).1) nrD er, fun u hu => ?_⟩
      · rw [List.length_map, rl.1]
        exact sz6 (by omega)
      · rcases List.mem_append.mp hu with z | z
        · exact un u z
        · rw [List.mem_singleton.mp z]
          exact ⟨nrD, (src8.same s9).new nr⟩
    rintro H9 ⟨s9, us, eD, rl, un⟩
    rw [List.length_map, al] at rl
    have W9 := W8.same s9
    have src9 := src8.same s9
    have lx9 := lx8.same s9
    have en9 := s9 _ _ en8
    have tb9 : LamX.Tabs Tb H9 := tb8.ext s9
    obtain ⟨nDh, nDl⟩ := src8.new nD
    clear s9 nD at_ al el W8 src8 lx8 en8 tb8 as
    refine ⟨by show 2 ≤ sizeLine; decide, fun U nU => ⟨U, _, rfl, SqT.of upd_same, rfl, _, _, rfl, gn ⟨_, _, rfl, gn ⟨rfl, ?_⟩⟩⟩⟩
    dsimp only [List.set]
    have s10 : Same H9 (upd H9 U (.tup [.ref x, .ref D])) := same_upd nU
    have W10 := W9.same s10
    have src10 := src9.same s10
    have lx10 := lx9.same s10
    have en10 := s10 _ _ en9
    have tb10 : LamX.Tabs Tb (upd H9 U (.tup [.ref x, .ref D])) := tb9.ext s10
    have eD10 := s10 _ _ eD
    have rl10 := rl.same s10
    clear W9 src9 lx9 en9 tb9 eD rl
    generalize upd H9 U (.tup [.ref x, .ref D]) = H10 at s10 W10 src10 lx10 en10 tb10 eD10 rl10 ⊢
    clear s10 nU
    refine ⟨_, rfl, x, nms, ls, rfl, W10, fun rr rt => ?_⟩
    dsimp only [L2.tNil]
    have okr : ∀ r ∈ ls.map (VR ls.length), ∀ v ∈ r, OkV v := fun r hr v hv => by
      obtain ⟨s, hs, rfl⟩ := List.mem_map.mp hr
      obtain ⟨i, hi, e⟩ := List.getElem_of_mem hs
      have := ok.each (List.getElem?_eq_some_iff.mpr ⟨hi, e⟩)
      exact okV_VR (by omega) v hv
    have rpr : Rp (dNT (ls.map (VR ls.length))) := rp_nt (by rw [List.length_map]; omega) (fun r hr => by
      obtain ⟨s, hs, rfl⟩ := List.mem_map.mp hr
      rw [VR_len]
      exact n60) okr
    refine ⟨rr, _, rfl, dp_nt rt.nt okr, rpr.sh, rpr.nd, rpr.dp, rpr.ln, ?_⟩
    refine ⟨_, rfl, D, rfl, ⟨_, SqL.of eD10⟩, fun B nB => ?_⟩
    refine lc_it (walk_list (K := K) (a := D) (xs := us.map V.ref)) (fun i H' => Same H10 H' ∧ ∃ ts : List Addr, H' B = some (.lst (ts.map V.ref)) ∧ TL H' ts ls i) ⟨same_upd nB, [], upd_same, ⟨rfl, fun _ _ e => by simp at e⟩⟩ (fun i H' _ hh => SqL.of (hh.1 _ _ eD10)) ?_ ?_
    · rintro i v H11 H12 hi ⟨s11, ts, eB, tl⟩ ⟨rfl, ex⟩
      have hiu : i < us.length := by rw [List.length_map] at hi; exact hi
      rw [List.getElem?_map, List.getElem?_eq_getElem hiu] at ex
      cases ex
      have er := rl10.2 i _ (List.getElem?_eq_getElem hiu)
      have il := rl10.1
      refine gn ⟨rfl, yes ?_⟩
      refine ⟨_, rfl, us[i], _, rfl, .inl ⟨SqL.of (s11 _ _ er), fun p np => ?_⟩⟩
      have eB2 : upd H12 p (.tup (VR ls.length (la ls i))) B = some (.lst (ts.map V.ref)) := by rw [upd_ne (ne_of_none eB np)]; exact eB
      refine ⟨_, eB2, ?_, (s11.trans (same_upd np)).fresh nB, ts ++ [p], by rw [upd_same, List.map_append]; rfl, (tl.same (same_upd np)).put eB2 upd_same⟩
      rw [List.length_map, tl.1]
      exact sz6 (by omega)
    rintro H11 ⟨s11, ts, eB, tl⟩
    rw [List.length_map, rl10.1] at tl
    refine ⟨B, _, rfl, .inl ⟨SqL.of eB, fun p np => ?_⟩⟩
    dsimp only [L2.tNil]
    refine ⟨p, _, rfl, dp_nt (TL.nt upd_same (tl.same (same_upd np))) okr, rpr.sh, rpr.nd, rpr.dp, rpr.ln, ?_⟩
    have s12 := s11.trans (same_upd (o := .tup (ts.map V.ref)) np)
    have W12 := W10.same s12
    have src12 := src10.same s12
    have lx12 := lx10.same s12
    have en12 := s12 _ _ en10
    have tb12 : LamX.Tabs Tb (upd H11 p (.tup (ts.map V.ref))) := tb10.ext s12
    have eD12 := s12 _ _ eD10
    have rl12 := rl10.same s12
    generalize upd H11 p (.tup (ts.map V.ref)) = H12 at s12 W12 src12 lx12 en12 tb12 eD12 rl12 ⊢
    clear s12 W10 src10 lx10 en10 tb10 eD10 rl10 tl eB s11 nB np rt ts
    refine ⟨rfl, false, congrArg V.bl (by simp), iteF ?_⟩
    refine ⟨_, rfl, x, nms, ls, rfl, W12, fun r1 rt1 => ⟨_, rfl, x, nms, ls, rfl, W12, fun r2 rt2 => ⟨dNT (ls.map (VR ls.length)), dNT (ls.map (VR ls.length)), dp_nt rt1.nt okr, dp_nt rt2.nt okr, sh_nt _, sh_nt _, false, congrArg V.bl (by rw [eqv_same (sh_nt _)]; rfl), iteF ?_⟩⟩⟩
    dsimp only [L2.tNext]
    have HCs : Src (noTab H12) h l := src12.ext noTab_ext
    have HCW : WAt C (noTab H12) x nms ls := W12.ext noTab_ext
    have HCl : LX (noTab H12) la0 ls := lx12.ext noTab_ext
    have HCn : noTab H12 na = some (.tup (VN nms)) := XN.tup noTab_ext en12
    have HCD : noTab H12 D = some (.lst (us.map V.ref)) := XN.lst noTab_ext eD12
    have HCr : ∀ j u, us[j]? = some u → noTab H12 u = some (.lst (VR ls.length (la ls j))) := fun j u e => XN.lst noTab_ext (rl12.2 j u e)
    have ul := rl12.1
    have bar12 : Bar h l (noTab H12) H12 := Bar.noTab
    have nt12 : ∀ b o, noTab H12 b = some o → ∀ ps, o ≠ .tbl ps := fun b o e => (noTab_some e).2
    generalize noTab H12 = HC at HCs HCW HCl HCn HCD HCr bar12 nt12
    clear W12 lx12 en12 eD12 rl12
    have HDat : ∀ {H' : L2.Hp}, Bar h l HC H' → H' D = some (.lst (us.map V.ref)) := fun b => b _ _ nDh nDl HCD
    have HRat : ∀ {H' : L2.Hp} {j : Nat} (hj : j < us.length), Bar h l HC H' → H' us[j] = some (.lst (VR ls.length (la ls j))) := fun hj b => b _ _ (un _ (List.getElem_mem hj)).2.1 (un _ (List.getElem_mem hj)).2.2 (HCr _ _ (List.getElem?_eq_getElem hj))
    refine ⟨_, rfl, _, rfl, by omega, by omega, for_range (lo := 0) (n := ls.length) (fun i σ H' => ∃ y8 : Option V, σ = [some (.ref a), some (.ref h), some (.int (0 + (i0 : Nat))), some (.int (ls.length : Nat)), some (.ref na), some (.ref la0), some (.ref x), some (.ref D), y8, y9, y10, none, none, none, none] ∧ Src H' h l ∧ Bar h l HC H' ∧ LamX.Tabs Tb H') ⟨_, rfl, src12, bar12, tb12⟩ ?_ ?_⟩
    · rintro j σ H13 hj ⟨y8, rfl, sr, br, tb⟩
      have hju : j < us.length := by omega
      rw [show (0 : Int) + (j : Int) = (j : Nat) from Int.zero_add _]
      refine gn ?_
      dsimp only [List.set]
      refine ⟨_, rfl, _, rfl, _, rfl, _, rfl, _, rfl, D, _, _, _, rfl, rfl, SqL.of (HDat br), atI_nat (show (us.map V.ref)[j]? = some (.ref us[j]) by rw [List.getElem?_map, List.getElem?_eq_getElem hju]; rfl), h, l, x, us[j], nms, ls, j, rfl, sr, HCW.bar HCs br, hj, HRat hju br, (un _ (List.getElem_mem hju)).2.1, (un _ (List.getElem_mem hju)).2.2, tb, fun H14 sr14 n14 tb14 => ?_⟩
      refine ⟨_, rfl, iteF ⟨_, rfl, sr14, fun b o n1 n2 e => n14 b o n1 n2 (br b o n1 n2 e) ?_, tb14⟩⟩
      exact nt12 b o e
    rintro σ H13 ⟨y8, rfl, sr, br, tb⟩
    dsimp only
    refine ⟨Nat.zero_le _, fun P0 nP0 => gn ?_⟩
    dsimp only [List.set]
    refine ⟨_, rfl, _, rfl, by omega, by omega, for_range (lo := 0) (n := ls.length) (fun i σ H' => ∃ (y10 : Option V) (pp : Addr) (ps : List Addr), σ = [some (.ref a), some (.ref h), some (.int (0 + (i0 : Nat))), some (.int (ls.length : Nat)), some (.ref na), some (.ref la0), some (.ref x), some (.ref D), y8, some (.ref pp), y10, none, none, none, none] ∧ Src H' h l ∧ Bar h l HC H' ∧ LamX.Tabs Tb H' ∧ H' pp = some (.lst (ps.map V.ref)) ∧ RsT H' ps (rows2 (prsL ls i)))
      ⟨_, P0, [], rfl, sr.updn nP0, br.trans (Bar.same (same_upd nP0)), Tabs.fresh tb nP0, upd_same, RsT.nil⟩ ?_ ?_⟩
    · clear nP0 tb br sr
      rintro i σ H14 hi ⟨y10, pp, ps, rfl, sr, br, tb, epp, rs⟩
      have hiu : i < us.length := by omega
      rw [show (0 : Int) + (i : Int) = (i : Nat) from Int.zero_add _]
      refine gn ?_
      dsimp only [List.set]
      refine ⟨_, rfl, _, rfl, _, _, rfl, rfl, _, rfl, _, _, rfl, ⟨by omega, by omega, by omega, by omega⟩, ?_⟩
      have en : ((ls.length : Int) - ((i : Int) + 1)).toNat = ls.length - (i + 1) := by omega
      rw [en]
      refine fun E0 nE => ?_
      have eDx : (us.map V.ref)[i]? = some (.ref us[i]) := by rw [List.getElem?_map, List.getElem?_eq_getElem hiu]; rfl
      refine lc_range (lo := (i : Int) + 1) (n := ls.length - (i + 1)) (fun j H' => Same H14 H' ∧ ∃ ts : List Addr, H' E0 = some (.lst (ts.map V.ref)) ∧ RsT H' ts (rows2 ((upR ls i j).map fun o => (i, o)))) ⟨same_upd nE, [], upd_same, RsT.nil⟩ ?_ ?_
      · rintro j H15 hj ⟨s15, ts, eE, rs2⟩
        have ej : (i : Int) + 1 + (j : Int) = ((i + 1 + j : Nat) : Int) := by omega
        rw [ej]
        have hjl : i + 1 + j < ls.length := by omega
        have br15 := br.trans (Bar.same (h := h) (l := l) s15)
        rw [upR_succ, List.map_append]
        have l1 : ts.length = (upR ls i j).length := by
          have z := rs2.1
          unfold rows2 at z
          rw [List.length_map, List.length_map] at z
          exact z
        have l2 := upR_len ls i j
        refine gn ⟨rfl, _, rfl, _, rfl, D, _, _, _, rfl, rfl, SqL.of (HDat br15), atI_nat eDx, _, rfl, us[i], _, _, _, rfl, rfl, SqL.of (HRat hiu br15), atI_nat (VR_get hjl), rfl, decide (i + 1 + j ∈ la ls i), congrArg V.bl (rkV_dec _ _), ?_⟩
        refine ite2 (fun c => ?_) (fun c => ?_)
        · have ef : [i + 1 + j].filter (fun o => decide (o ∈ la ls i)) = [i + 1 + j] := by rw [List.filter_cons, if_pos c]; rfl
          rw [ef]
          refine ⟨_, rfl, _, rfl, by show 2 ≤ sizeLine; decide, fun p np => ?_⟩
          have eE2 : upd H15 p (.tup [.int (i : Nat), .int ((i + 1 + j : Nat) : Int)]) E0 = some (.lst (ts.map V.ref)) := by rw [upd_ne (ne_of_none eE np)]; exact eE
          refine ⟨_, eE2, ?_, (s15.trans (same_upd np)).fresh nE, ts ++ [p], by rw [upd_same, List.map_append]; rfl, ?_⟩
          · rw [List.length_map]
            exact sz6 (by omega)
          · have er : ∀ A : List (Nat × Nat), rows2 (A ++ [(i, i + 1 + j)]) = rows2 A ++ [[i, i + 1 + j]] := fun A => by
              unfold rows2
              rw [List.map_append]
              rfl
            show RsT _ _ (rows2 (_ ++ [(i, i + 1 + j)]))
            rw [er]
            refine ((rs2.same (same_upd np)).put eE2).app (RsT.one ?_)
            rw [upd_ne (fun z => ne_of_none eE np z.symm)]
            exact upd_same
        · have ef : [i + 1 + j].filter (fun o => decide (o ∈ la ls i)) = [] := by rw [List.filter_cons, if_neg c]; rfl
          rw [ef]
          exact ⟨s15, ts, eE, by rw [List.map_nil, List.append_nil]; exact rs2⟩
      rintro H15 ⟨s15, ts, eE, rs2⟩
      rw [upR_all hi] at rs2
      have rs15 := rs.same s15
      have l1 := rs.1
      have l2 := rs2.1
      unfold rows2 at l1 l2
      rw [List.length_map] at l1 l2
      rw [List.length_map] at l2
      have l3 := prsL_len ls i
      have l4 : i * ls.length ≤ 10 * 10 := Nat.mul_le_mul (by omega) m10
      have l5 := List.length_filter_le (fun o => decide (i < o ∧ o ∈ la ls i)) (List.range ls.length)
      rw [List.length_range] at l5
      unfold upS at l2
      refine ⟨pp, E0, _, _, rfl, rfl, s15 _ _ epp, eE, ?_, fun q0 nq => gn ?_⟩
      · rw [List.length_map, List.length_map]
        exact sz5 (by omega)
      · refine ⟨_, q0, ps ++ ts, rfl, (sr.same s15).updn nq, (br.trans (Bar.same s15)).trans (Bar.same (same_upd nq)), Tabs.fresh (tb.ext s15) nq, by rw [upd_same, List.map_append], ?_⟩
        rw [prsL_succ]
        have er : ∀ A B : List (Nat × Nat), rows2 (A ++ B) = rows2 A ++ rows2 B := fun A B => by
          unfold rows2
          rw [List.map_append]
        rw [er]
        exact (rs15.app rs2).same (same_upd nq)
    rintro σ H14 ⟨y10, pp, ps, rfl, sr, br, tb, epp, rs⟩
    dsimp only
    have W14 := HCW.bar HCs br
    have en14 := tup_bar HCs br HCn
    have lx14 := HCl.bar HCs br
    have rpp := rp_prs m10
    have okp := okV_prs (ls := ls) (n := ls.length) n60 n60
    clear HCs HCW HCl HCn HCD HCr bar12 nt12 HDat HRat br
    refine ⟨_, rfl, x, nms, ls, rfl, W14, fun r1 us1 H15 s15 e1 rs1 => ?_⟩
    dsimp only [L2.tNil]
    refine ⟨r1, _, rfl, dp_nt (RsT.nt e1 rs1) okp, rpp.sh, rpp.nd, rpp.dp, rpp.ln, ?_⟩
    refine ⟨_, rfl, pp, _, rfl, .inl ⟨SqL.of (s15 _ _ epp), fun p np => ?_⟩⟩
    dsimp only [L2.tNil]
    refine ⟨p, _, rfl, dp_nt (RsT.nt upd_same ((rs.same s15).same (same_upd np))) okp, rpp.sh, rpp.nd, rpp.dp, rpp.ln, ?_⟩
    refine ⟨rfl, false, congrArg V.bl (by simp), iteF ?_⟩
    have s16 := s15.trans (same_upd (o := .tup (ps.map V.ref)) np)
    generalize upd H15 p (.tup (ps.map V.ref)) = H16 at s16 ⊢
    clear np s15 e1 rs1
    refine ⟨_, rfl, x, nms, ls, rfl, W14.same s16, fun r2 us2 H17 s17 e2 rs2 => ?_⟩
    have s18 := s16.trans s17
    refine ⟨_, rfl, pp, _, rfl, .inl ⟨SqL.of (s18 _ _ epp), fun p np => ?_⟩⟩
    have s19 := s18.trans (same_upd (o := .tup (ps.map V.ref)) np)
    have k1 : NT (upd H17 p (.tup (ps.map V.ref))) r2 ((rows2 (prsL ls ls.length)).map VI) := (RsT.nt e2 rs2).same (same_upd np)
    have k2 : NT (upd H17 p (.tup (ps.map V.ref))) p ((rows2 (prsL ls ls.length)).map VI) := RsT.nt upd_same (rs.same s19)
    generalize upd H17 p (.tup (ps.map V.ref)) = H19 at s19 k1 k2 ⊢
    refine ⟨dNT ((rows2 (prsL ls ls.length)).map VI), dNT ((rows2 (prsL ls ls.length)).map VI), dp_nt k1 okp, dp_nt k2 okp, sh_nt _, sh_nt _, false, congrArg V.bl (by rw [eqv_same (sh_nt _)]; rfl), iteF ?_⟩
    clear k1 k2 np s18 e2 rs2 s17 s16
    have W19 := W14.same s19
    obtain ⟨dx1, n1, l1, r1', w1, w2, w3, w4⟩ := W19.ex
    have rpl := rp_nl W19.nok W19.ok n60
    refine ⟨_, rfl, x, C, dx1, _, _, rfl, w1, T.cl, T.nN, wf_names n1 l1 r1', _, rfl, x, C, dx1, _, _, rfl, w1, T.cl, T.nL, wf_lists n1 l1 r1', by show 2 ≤ sizeLine; decide, fun U nU => ?_⟩
    dsimp only [L2.tNil]
    have s20 := s19.trans (same_upd (o := .tup [.ref n1, .ref l1]) nU)
    refine ⟨U, _, rfl, dp_nl upd_same ((same_upd nU) _ _ w2) (w3.same (same_upd nU)), rpl.sh, rpl.nd, rpl.dp, rpl.ln, ?_⟩
    generalize upd H19 U (.tup [.ref n1, .ref l1]) = H20 at s20 ⊢
    refine ⟨_, rfl, _, rfl, by show 2 ≤ sizeLine; decide, fun U2 nU2 => ?_⟩
    dsimp only [L2.tNil]
    have s21 := s20.trans (same_upd (o := .tup [.ref na, .ref la0]) nU2)
    refine ⟨U2, _, rfl, dp_nl upd_same (s21 _ _ en14) (lx14.lt.same s21), rpl.sh, rpl.nd, rpl.dp, rpl.ln, ?_⟩
    refine ⟨rfl, false, congrArg V.bl (by simp), iteF ?_⟩
    exact ⟨_, _, _, _, _, _, _, _, _, rfl, sr.same s21, tb.ext s21⟩
  rintro σ H2 ⟨y2, y3, y4, y5, y6, y7, y8, y9, y10, rfl, src2, tb2⟩
  dsimp only
  refine ⟨_, rfl, h, l, 30, rfl, src2, by decide, fun la0 ls H3 ok src3 br3 nn lx3 => gn ?_⟩
  dsimp only [List.set]
  have tb3 : LamX.Tabs Tb H3 := Tabs.bar tb2 src2 br3
  clear br3 nn src2 tb2
  have ll : ls.length = 30 := ok.len
  refine ⟨_, rfl, h, l, 30, rfl, src3, by decide, by decide, fun na nms H4 nok src4 br4 nn en => ⟨_, rfl, ?_⟩⟩
  have lx4 := lx3.bar src3 br4
  have tb4 : LamX.Tabs Tb H4 := Tabs.bar tb3 src3 br4
  clear br4 nn src3 tb3 lx3
  rw [← ll] at nok ok
  intro x dx nx ndx ne
  have s7 : Same H4 (upd (upd H4 dx (.own x)) x (.ins C dx [])) := (same_rfl.fresh ndx).fresh nx
  refine ⟨x, dx, na, la0, nms, ls, rfl, upd_same, s7 _ _ en, lx4.lt.same s7, by omega, by omega, nok, ok, fun H8 W8 keep => ⟨rfl, ?_⟩⟩
  have s78 : Same H4 H8 := fun b o e => keep b o (s7 _ _ e) (ne_of_none e nx)
  have src8 := src4.same s78
  have lx8 := lx4.same s78
  have tb8 : LamX.Tabs Tb H8 := tb4.ext s78
  clear keep s7 s78 ne ndx nx en src4 lx4 tb4
  refine ⟨x, nms, ls, rfl, W8, fun rr rt => ?_⟩
  have n60 : ls.length ≤ 60 := by omega
  have okr : ∀ r ∈ ls.map (VR ls.length), ∀ v ∈ r, OkV v := fun r hr v hv => by
    obtain ⟨s, hs, rfl⟩ := List.mem_map.mp hr
    obtain ⟨i, hi, e⟩ := List.getElem_of_mem hs
    have := ok.each (List.getElem?_eq_some_iff.mpr ⟨hi, e⟩)
    exact okV_VR (by omega) v hv
  obtain ⟨as, el, al, at_⟩ := id lx8
  refine ⟨_, rfl, la0, rfl, ⟨_, SqT.of el⟩, fun D nD => ?_⟩
  refine lc_it (walk_tup (K := K) (a := la0) (xs := as.map V.ref)) (fun i H' => Same H8 H' ∧ ∃ ts : List Addr, H' D = some (.lst (ts.map V.ref)) ∧ TL H' ts ls i) ⟨same_upd nD, [], upd_same, ⟨rfl, fun _ _ e => by simp at e⟩⟩ (fun i H' _ hh => SqT.of (hh.1 _ _ el)) ?_ ?_
  · rintro i v H9 H10 hi ⟨s9, ts, eD, tl⟩ ⟨rfl, ex⟩
    have hia : i < as.length := by rw [List.length_map] at hi; exact hi
    have hil : i < ls.length := by omega
    rw [List.getElem?_map, List.getElem?_eq_getElem hia] at ex
    cases ex
    have ev := at_ i _ _ (List.getElem?_eq_getElem hia) (la_get hil)
    refine gn ⟨rfl, yes ?_⟩
    refine ⟨_, rfl, as[i], 30, la ls i, rfl, .inr (ev.same s9), ok.nda hil, fun o ho => by have := (ok.mate hil ho).1; omega, by decide, fun r H11 s11 nr er => ⟨r, _, rfl, .inl ⟨SqL.of er, fun p np => ?_⟩⟩⟩
    have eB2 : upd H11 p (.tup (VR 30 (la ls i))) D = some (.lst (ts.map V.ref)) := by rw [upd_ne (ne_of_none (s11 _ _ eD) np)]; exact s11 _ _ eD
    have eP : upd H11 p (.tup (VR 30 (la ls i))) p = some (.tup (VR ls.length (la ls i))) := by rw [upd_same, ll]
    refine ⟨_, eB2, ?_, ((s9.trans s11).trans (same_upd np)).fresh nD, ts ++ [p], by rw [upd_same, List.map_append]; rfl, (tl.same (s11.trans (same_upd np))).put eB2 eP⟩
    rw [List.length_map, tl.1]
    exact sz6 (by omega)
  rintro H9 ⟨s9, ts, eD, tl⟩
  rw [List.length_map, al] at tl
  refine ⟨D, _, rfl, .inl ⟨SqL.of eD, fun p np => ?_⟩⟩
  have s10 := s9.trans (same_upd (o := .tup (ts.map V.ref)) np)
  refine ⟨dNT (ls.map (VR ls.length)), dNT (ls.map (VR ls.length)), dp_nt (rt.nt.same s10) okr, dp_nt (TL.nt upd_same (tl.same (same_upd np))) okr, sh_nt _, sh_nt _, false, congrArg V.bl (by rw [eqv_same (sh_nt _)]; rfl), iteF ?_⟩
  have tb10 : LamX.Tabs Tb (upd H9 p (.tup (ts.map V.ref))) := tb8.ext s10
  generalize upd H9 p (.tup (ts.map V.ref)) = H10 at tb10 ⊢
  clear s10 np tl eD s9 nD at_ al el as okr n60 rt rr lx8 src8 W8 dx nms na nok ll ok ts
  dsimp only [L2.tNext]
  refine tSeqG (tAsgG ?_)
  dsimp only [L2.tMake]
  refine (lCons (lTup (lCons lC (lCons lC (lCons lC (lCons lC lNil))))) (lCons (lTup (lCons (lTup (lCons lC (lCons lC lNil))) (lCons (lTup (lCons lC (lCons lC lNil))) (lCons (lTup (lCons lC (lCons lC lNil))) (lCons (lTup lNil) lNil))))) lNil)).run _ _ _ fun va Ht st ha => ?_
  obtain ⟨_, _, rfl, ⟨n, xs, rfl, en, x1, r1, rfl, rfl, x2, r2, rfl, rfl, x3, r3, rfl, rfl, x4, r4, rfl, rfl, rfl⟩, _, _, rfl, ⟨t, ys, rfl, et, z1, w1, rfl, h1, z2, w2, rfl, h2, z3, w3, rfl, h3, z4, w4, rfl, h4, rfl⟩, rfl⟩ := ha
  obtain ⟨p1, rfl, e1⟩ := pt_row (ns := [1, 2]) h1
  obtain ⟨p2, rfl, e2⟩ := pt_row (ns := [2, 0]) h2
  obtain ⟨p3, rfl, e3⟩ := pt_row (ns := [0, 1]) h3
  obtain ⟨p4, rfl, e4⟩ := pt_row (ns := []) h4
  have lt : LT Ht t ls4 := lt_four et e1 e2 e3 e4
  have en' : Ht n = some (.tup (VN ns4)) := by rw [VN4]; exact en
  have tbt : LamX.Tabs Tb Ht := tb10.ext st
  clear e1 e2 e3 e4 h1 h2 h3 h4 et en st tb10
  intro x dx nx ndx ne
  have s6 : Same Ht (upd (upd Ht dx (.own x)) x (.ins C dx [])) := (same_rfl.fresh ndx).fresh nx
  refine ⟨x, dx, n, t, ns4, ls4, rfl, upd_same, s6 _ _ en', lt.same s6, by decide, by decide, nok4, ok4, fun H7 W7 keep => ⟨rfl, gn ?_⟩⟩
  dsimp only [List.set]
  have s67 : Same Ht H7 := fun b o e => keep b o (s6 _ _ e) (ne_of_none e nx)
  have tb7 : LamX.Tabs Tb H7 := tbt.ext s67
  clear keep s6 s67 ne ndx nx tbt en' lt
  refine ⟨_, rfl, x, ns4, ls4, 1, none, rfl, W7, by decide, (fun j e => by cases e), rfl, false, congrArg V.bl (by decide +kernel), iteF ?_⟩
  refine ⟨_, rfl, x, ns4, ls4, 1, some 2, some 0, rfl, W7, by decide, (fun j e => by cases e; decide), (fun j e => by cases e; decide), _, _, rfl, rfl, false, congrArg V.bl (by decide +kernel), iteF ?_⟩
  refine ⟨_, rfl, x, ns4, ls4, 1, none, some 0, rfl, W7, by decide, (fun j e => by cases e), (fun j e => by cases e; decide), _, _, rfl, rfl, false, congrArg V.bl (by decide +kernel), iteF ?_⟩
  refine ⟨_, rfl, ?_⟩
  dsimp only
  refine (lCons lC (lCons (lTup (lCons lC (lCons lC lNil))) lNil)).run _ _ _ fun v8 H8 s8 h8 => ?_
  obtain ⟨_, _, rfl, rfl, _, _, rfl, h8, rfl⟩ := h8
  obtain ⟨q8, rfl, e8⟩ := pt_row (ns := [1, 3]) h8
  have W8 := W7.same s8
  refine ⟨x, q8, ns4, ls4, 2, [1, 3], rfl, W8, by decide, .inl e8, by decide, by decide, tb7.ext s8, fun o H9 fo x9 tb9 => ?_⟩
  have eo := first_one fo (.inr ⟨1, rfl, by decide, by decide⟩ : FirstOf (la ls4 2) [1, 3] (some 1))
  subst eo
  have W9 := W8.ext x9
  clear fo x9 W8 e8 h8 s8 W7 tb7
  refine ⟨rfl, false, congrArg V.bl (by decide +kernel), iteF ?_⟩
  dsimp only [L2.tNext]
  refine ⟨_, rfl, x, ns4, ls4, 3, none, rfl, W9, by decide, (fun j e => by cases e), rfl, true, congrArg V.bl (by decide +kernel), iteT ?_⟩
  refine ⟨_, rfl, ?_⟩
  dsimp only
  refine (lCons lC (lCons (lTup (lCons lC (lCons lC (lCons lC (lCons lC lNil))))) lNil)).run _ _ _ fun v10 H10 s10 h10 => ?_
  obtain ⟨_, _, rfl, rfl, _, _, rfl, h10, rfl⟩ := h10
  obtain ⟨q10, rfl, e10⟩ := pt_row (ns := [0, 1, 2, 3]) h10
  have W10 := W9.same s10
  refine ⟨x, q10, ns4, ls4, 0, [0, 1, 2, 3], rfl, W10, by decide, .inl e10, by decide, by decide, tb9.ext s10, fun o H11 fo x11 tb11 => ?_⟩
  have eo := last_one fo (.inr ⟨2, rfl, by decide, by decide⟩ : LastOf (la ls4 0) [0, 1, 2, 3] (some 2))
  subst eo
  have W11 := W10.ext x11
  clear fo x11 W10 e10 h10 s10 W9 tb9
  refine ⟨rfl, true, congrArg V.bl (by decide +kernel), iteT ?_⟩
  refine ⟨_, rfl, ?_⟩
  dsimp only
  refine (lCons lC (lCons (lTup (lCons lC (lCons lC lNil))) lNil)).run _ _ _ fun v12 H12 s12 h12 => ?_
  obtain ⟨_, _, rfl, rfl, _, _, rfl, h12, rfl⟩ := h12
  obtain ⟨q12, rfl, e12⟩ := pt_row (ns := [0, 1]) h12
  have W12 := W11.same s12
  refine ⟨x, q12, ns4, ls4, 3, [0, 1], rfl, W12, by decide, .inl e12, by decide, by decide, tb11.ext s12, fun o H13 fo x13 tb13 => ?_⟩
  have eo := last_one fo (.inl ⟨rfl, by decide⟩ : LastOf (la ls4 3) [0, 1] none)
  subst eo
  have W13 := W12.ext x13
  clear fo x13 W12 e12 h12 s12 W11 tb11
  refine ⟨rfl, true, rfl, iteT ?_⟩
  refine ⟨_, rfl, x, ns4, ls4, rfl, W13, fun rr us H14 s14 e14 rs14 => ?_⟩
  refine (lTup (lCons (lTup (lCons lC (lCons lC lNil))) (lCons (lTup (lCons lC (lCons lC lNil))) (lCons (lTup (lCons lC (lCons lC lNil))) lNil)))).run _ _ _ fun v15 H15 s15 h15 => ?_
  obtain ⟨p, xs, rfl, ep, z1, w1, rfl, h1, z2, w2, rfl, h2, z3, w3, rfl, h3, rfl⟩ := h15
  obtain ⟨p1, rfl, e1⟩ := pt_row (ns := [0, 1]) h1
  obtain ⟨p2, rfl, e2⟩ := pt_row (ns := [0, 2]) h2
  obtain ⟨p3, rfl, e3⟩ := pt_row (ns := [1, 2]) h3
  have er : (rows2 (prsL ls4 ls4.length)).map VI = [VI [0, 1], VI [0, 2], VI [1, 2]] := by decide +kernel
  have okp := okV_prs (ls := ls4) (n := ls4.length) (by decide) (by decide)
  have k2 : NT H15 p ((rows2 (prsL ls4 ls4.length)).map VI) := by
    rw [er]
    refine ⟨[p1, p2, p3], ep, rfl, fun i a s h1 h2 => ?_⟩
    match i, h1, h2 with
    | 0, h1, h2 => cases h1; cases h2; exact e1
    | 1, h1, h2 => cases h1; cases h2; exact e2
    | 2, h1, h2 => cases h1; cases h2; exact e3
    | _ + 3, h1, h2 => cases h1
  refine ⟨_, _, dp_nt ((RsT.nt e14 rs14).same s15) okp, dp_nt k2 okp, sh_nt _, sh_nt _, ?_⟩
  rw [eqv_same (sh_nt _)]
  exact q _
end
end K14
set_option maxHeartbeats 2000000
/-! promises of defs while no repr is under way, with a table of errors that they may pass on, and tables of code objects (lambdas) -/
namespace K14
open PySem PySem.Spec PyProof.Rows L2
def RunX (P : Program) (w : World) (K : PySem.W.Frag) (mg : Str → Option Value) (base : Heap) (CX : CXT) (k : Nat) (f : Addr) (fd : FuncData) (ps : List Str) (sp : Sp) : Prop :=
  ∀ (A : Around) (outer : List Env) (s : Shared) (H : Hp) (args : Args) (us : List Value) (vs : List V) (Q : VK) (E : XK), A.guards = some [] → Room k A → Env0 P w K mg base A outer s H →
    BindsTo s fd args (ps.zip us) → Vals vs us → sp vs H Q E → codeAny (model P w) A (.call (.ref f) args) (CR CX outer P w H s Q E) s
section
variable {P : Program} {w : World} {K : PySem.W.Frag} {mg : Str → Option Value} {base : Heap} {CX : CXT}
theorem RunX.of {k : Nat} {f : Addr} {fd : FuncData} {ps : List Str} {sp : Sp} (F : FnOk P w K mg base CX k f fd ps sp) : RunX P w K mg base CX k f fd ps sp := fun A outer s H args us vs Q E _ => F.run A outer s H args us vs Q E
theorem okX {x qual : Str} {st : Stmt} {f : Addr} {fd : FuncData} {N ps : List Str} {k : Nat} {sp : Sp} (F : Fun K x qual st f fd) (S : FnScope N ps (defScope st)) (len : ∀ vs H Q E, sp vs H Q E → vs.length = ps.length)
    (body : ∀ (cdv : Value) (A : Around) (outer : List Env) (s : Shared) (H : Hp) (vs : List V) (Q : VK) (E : XK), A.guards = some [] → Room k (A.deeper (envOfC qual (defScope st) s.heap.objs.size f cdv)) → sp vs H Q E →
      ∃ t, PSs (cxOf CX P w K mg base N qual (defScope st) f cdv A outer s H E) (defBody st) t ∧ t { nx := fun _ H' => Q .non H', rt := Q } (start N vs) H) : RunX P w K mg base CX (k + 1) f fd ps sp := by
  obtain ⟨oc, od, kV, doc, pm, an, cdv, ct, osl, rfl, lk, hcd⟩ := F.ex
  intro A outer s H args us vs Q E hA room e0 bind rel promise
  have KX := e0.mod.kin.keeps (h' := s.heap) fun b o e => (e0.bs b o e).1
  have lim := e0.mod.nolimit.keeps (h' := s.heap) fun b o e => (e0.bs b o e).1
  have kinds : ∀ y ∈ ps.zip us, (defScope st).names.lookup y.1 = some .local ∨ ((defScope st).names.lookup y.1 = some .cell ∧ ((cellsFrom (s.heap.objs.size + 1) (defScope st).names []).lookup y.1).isSome = true) := by
    intro y hy
    cases S.par y.1 (List.of_mem_zip (show (y.1, y.2) ∈ ps.zip us from hy)).1 with
    | inl q => exact .inl q
    | inr q => exact .inr ⟨q, PySem.W.cellsFrom_some _ _ _ (.inl q)⟩
  apply codeAny_call_function room.depth (KX _ _ lk) rfl S.co S.gen rfl (PySem.W.codeRec_of KX hcd) (bind _ _ _ _ _)
  apply wpAny_newFunctionEnv_cells S.kind kinds
  intro env he s1 x
  subst he
  obtain ⟨t, ht, hq⟩ := body cdv A outer s H vs Q E hA (room.deeper _) promise
  have I := inv_start (CX := CX) (E := E) S room.hd e0 (len _ _ _ _ promise) rel x
  refine ⟨lim.keeps x.toInCall.keep, codeAny_func (wpAny_mono (ht.run [] s1 (start N vs) H _ I hq) ?_ (fun _ _ z => z))⟩
  intro fl s' z
  cases fl with
  | ret u => exact let ⟨v, _, H', J, rv, q⟩ := z; ⟨v, H', J.os, J.bare, J.base, J.hok, rv, q⟩
  | next => exact let ⟨_, H', J, q⟩ := z; ⟨V.non, H', J.os, J.bare, J.base, J.hok, rfl, q⟩
  | brk => exact let ⟨_, _, _, q⟩ := z; q.elim
  | cont => exact let ⟨_, _, _, q⟩ := z; q.elim
end
section
variable {X : Cx} {CX : CXT} {k : Nat} {f : Addr} {fd : FuncData} {ps : List Str} {sp : Sp} {x : Str} {p pos : Pos} {e : Expr} {es : List Expr} {t : TA}
theorem pe_callX (F : RunX X.prog X.w X.K X.mg X.base CX k f fd ps sp) (len : ∀ vs H Q E, sp vs H Q E → vs.length = ps.length) (hA : X.A.guards = some []) (hr : Room k X.A) (hg : Gl X x) (hm : X.mg x = some (.ref f)) (hk : PySem.W.keepIn X.K (.ref f) = true) (hb : Binds X.K fd ps []) {E : XK} (hx : Passes CX X E)
    (ha : PA X (e :: es) t) (hdb : (x == ("__debug__" : Str)) = false := by decide) (he : starEach (e :: es) X.env = (false, eval e X.env) :: starEach es X.env := by rfl) (hpl : (backTo pos (starEach es X.env)).any (·.1) = false := by rfl) :
    PE X (.Call (.Name x p) (e :: es) [] pos) (tCall sp [] E t) := by
  refine ⟨fun pins s σ H Q I h => wpAny_Call_Name_kw (ld_glob I hg hm ?_ hdb)⟩
  refine PySem.W.callWith_K (h₀ := X.base) I.ok.mod.kin hk (thn (ha.run pos pins s σ H _ I h) fun us s1 ⟨vs, H1, I1, r, q⟩ => ⟨I1.kIn, ?_⟩) he hpl
  have r2 : Vals (vs ++ []) (us ++ []) := r.append .nil
  have hl : (us ++ []).length = ps.length := by rw [← r2.length]; exact len _ _ _ _ q
  refine wpAny_call (codeAny_mono (F X.A X.stack s1 H1 ⟨us, []⟩ (us ++ []) (vs ++ []) _ E hA hr I1.env0 (hb s1 us I1.kIn hl) r2 q) fun r s' hq => ?_)
  cases r with
  | error e => exact hx pins σ H1 s1 e s' I1 hq
  | ok fl =>
    cases fl with
    | ret u => exact I1.after hq
    | next => exact False.elim hq
    | brk => exact False.elim hq
    | cont => exact False.elim hq
end
end K14
set_option maxHeartbeats 2000000
namespace K14
open PySem PySem.Spec PyProof.Rows L2
section
variable {P : Program} {w : World} {K : PySem.W.Frag} {mg mb : Str → Option Value} {s₁ : Shared} {a : Addr} {vs : List Value} {H : Hp} {cs : List (Addr × Addr)} {CX : CXT}
/-- the addresses of the tables -/
def tabOf (cs : List (Addr × Addr)) : List Addr := cs.map Prod.snd
/-- the call of the law: nothing is tracked but the script at a and the tables -/
theorem env_tabs (KX : K.In s₁.heap) (hns : s₁.heap.Ns mainGlobals mg) (hb : s₁.heap.Ns builtinsNs mb) (hbb : ∀ x : Str, x ≠ "__name__" → mb x = bootBuiltins x) (hlim : s₁.heap.NoLimit) (hg : s₁.gens = #[])
    (hT : ∀ p ∈ cs, s₁.heap.get? p.2 = some { cls := .none, data := .fields #[] }) (nT : ∀ p ∈ cs, K.lookup p.2 = none) (C : ∀ p ∈ cs, PySem.W.CodeHd s₁.heap p.1 p.2)
    (hbm : ∃ (bm : Addr) (ob : Obj), mg "__builtins__" = some (.ref bm) ∧ bm ≠ builtinsNs ∧ s₁.heap.get? bm = some ob ∧ ob.cls = .type "module" ∧ ob.dict = some builtinsNs ∧ ob.data = .plain)
    (ha : s₁.heap.get? a = some { cls := .type "list", data := .seq vs.toArray }) (hok : HOk P w H s₁.heap) (only : ∀ b u, H b = some u → b = a ∨ b ∈ tabOf cs) (apart : ∀ u, H a = some u → K.lookup a = none) :
    K.In (hidT s₁.heap H) ∧ (hidT s₁.heap H).Ns mainGlobals mg ∧ (∀ p ∈ cs, LamX.TabB (hidT s₁.heap H) mg p.1 p.2) ∧ Env0 P w K mg (hidT s₁.heap H) callerA [] s₁ H := by
  have tab : ∀ b, b ∈ tabOf cs → s₁.heap.get? b = some { cls := .none, data := .fields #[] } := by
    intro b hb
    obtain ⟨p, hp, rfl⟩ := List.mem_map.mp hb
    exact hT p hp
  have low : ∀ {b : Addr} {o : Obj}, s₁.heap.get? b = some o → b ≠ a → b ∉ tabOf cs → (hidT s₁.heap H).get? b = some o := by
    intro b o e n1 n2
    refine hidT_get e ?_
    cases q : H b with
    | none => rfl
    | some u => exact ((only b u q).elim n1 n2).elim
  have other : ∀ {b : Addr} {o : Obj}, s₁.heap.get? b = some o → (∀ xs n, o.data ≠ .seq xs n) → o.data ≠ .fields #[] → (hidT s₁.heap H).get? b = some o := by
    intro b o e h1 h2
    refine low e (fun z => ?_) (fun z => ?_)
    · rw [z, ha] at e
      cases e
      exact h1 _ _ rfl
    · rw [tab b z] at e
      cases e
      exact h2 rfl
  have ns : ∀ {b : Addr} {m : Str → Option Value}, s₁.heap.Ns b m → (hidT s₁.heap H).Ns b m := by
    rintro b m ⟨o, es, ep, e, d, r⟩
    exact ⟨o, es, ep, other e (fun xs n z => by rw [d] at z; cases z) (fun z => by rw [d] at z; cases z), d, r⟩
  have kin : K.In (hidT s₁.heap H) := by
    intro b o e
    refine hidT_get (KX _ _ e) ?_
    cases q : H b with
    | none => rfl
    | some u =>
      rcases only b u q with z | z
      · subst z
        rw [apart u q] at e
        cases e
      · obtain ⟨p, hp, rfl⟩ := List.mem_map.mp z
        rw [nT p hp] at e
        cases e
  obtain ⟨mc, l1, l2⟩ := hlim
  refine ⟨kin, ns hns, fun p hp => ⟨?_, ?_, fun z => ?_⟩, ⟨rfl, ⟨kin, ns hns, ⟨mb, ns hb, hbb⟩, ⟨mc, ns l1, l2⟩⟩, fun b o e => of_hidT e, Nat.le_of_eq (hidT_size _ _), trivial, (fun b z => nomatch z), hok, .of_eq hg⟩⟩
  · obtain ⟨o, us, file, tf, flags, tg, inF, text, tt, e1, r1, r2, r3, rest⟩ := C p hp
    refine ⟨o, us, file, tf, flags, tg, inF, text, tt, other e1 (fun xs n z => by rw [r2] at z; cases z) (fun z => ?_), r1, r2, r3, rest⟩
    rw [r2] at z
    cases z
    simp at r3
  · obtain ⟨bm, ob, b1, b2, b3, b4, b5, b6⟩ := hbm
    refine ⟨bm, ob, b1, b2, fun z => ?_, fun z => ?_, other b3 (fun xs n z => by rw [b6] at z; cases z) (fun z => by rw [b6] at z; cases z), b4, b5, b6⟩
    · obtain ⟨o, es, ep, e, d, _⟩ := hns
      rw [z, e] at b3
      cases b3
      rw [d] at b6
      cases b6
    · rw [z, hT p hp] at b3
      cases b3
      cases b6
  · obtain ⟨o, es, ep, e, d, _⟩ := hns
    rw [z, hT p hp] at e
    cases e
    cases d
theorem run_tabs {k : Nat} {fa : Addr} {fd : FuncData} {x : Str} {sp : Sp} (env : Env0 P w K mg (hidT s₁.heap H) callerA [] s₁ H) (F : RunX P w K mg (hidT s₁.heap H) CX k fa fd [x] sp) (hr : Room k callerA)
    (hbind : ∀ (s : Shared) (u : Value), BindsTo s fd ⟨[u], []⟩ [(x, u)]) (hT : ∀ p ∈ cs, s₁.heap.get? p.2 = some { cls := .none, data := .fields #[] }) (C : ∀ p ∈ cs, PySem.W.CodeHd s₁.heap p.1 p.2) (hH : ∀ p ∈ cs, H p.2 = some (.tbl #[]))
    (hO : ∀ b, H b = none ∨ b ∈ tabOf cs ∨ ∃ o xs, H b = some (.frz o (.lst xs))) (hok : HOk P w H s₁.heap) (hCX : ∀ e s', CX [] H s₁ (fun _ _ _ => False) e s' → False) (hsp : sp [.ref a] H (fun v _ => v = .bl true) fun _ _ _ => False) :
    codeAny (model P w) callerA (.call (.ref fa) ⟨[.ref a], []⟩) (fun r s' => r = .ok (.ret (.bool true)) ∧ OldK s₁.heap s'.heap ∧ s'.os = s₁.os ∧ AllBare s'.gens) s₁ := by
  have run := F callerA [] s₁ H ⟨[.ref a], []⟩ [.ref a] [.ref a] _ _ rfl hr env (hbind s₁ (.ref a)) (.cons rfl .nil) hsp
  refine codeAny_mono run ?_
  intro r s' h
  match r, h with
  | .error e, h => exact (hCX e s' h).elim
  | .ok (.ret u), h =>
    obtain ⟨v, H', os, bare, un, hok', r', q⟩ := h
    have q2 : v = V.bl true := q
    subst q2
    obtain rfl : u = Value.bool true := r'
    have kept : ∀ b o, b ∉ tabOf cs → s₁.heap.get? b = some o → s'.heap.get? b = some o := by
      intro b o nb e
      cases q : H b with
      | none => exact un.keep b o e q (fun z => nomatch z) (fun z => nomatch z)
      | some u =>
        rcases hO b with z | z | ⟨ob, xs, z⟩
        · rw [q] at z
          cases z
        · exact (nb z).elim
        · have e1 := (hok b _ z).1
          have e2 := (hok' b _ (un.frzs b ob _ z)).1
          rw [e] at e1
          cases e1
          exact e2
    have grown : ∀ p ∈ cs, ∃ more : Array Value, s'.heap.get? p.2 = some { cls := .none, data := .fields more } := by
      intro p hp
      obtain ⟨more, z⟩ := un.tbls p.2 #[] (hH p hp)
      exact ⟨_, hok' p.2 _ z⟩
    refine ⟨rfl, ⟨fun b o e => ?_, fun b o e => ?_⟩, os, bare⟩
    · by_cases z : b ∈ tabOf cs
      · obtain ⟨p, hp, rfl⟩ := List.mem_map.mp z
        obtain ⟨more, hm⟩ := grown p hp
        have e2 := hT p hp
        rw [e2] at e
        cases e
        exact .inr (.inl ⟨((C p hp).tab e2).isCodeTable, rfl, #[], more, rfl, by rw [Array.empty_append]; exact hm⟩)
      · exact .inl (kept b o z e)
    · by_cases z : b ∈ tabOf cs
      · obtain ⟨p, hp, rfl⟩ := List.mem_map.mp z
        obtain ⟨more, hm⟩ := grown p hp
        exact ⟨_, hm⟩
      · exact ⟨o, kept b o z e⟩
  | .ok .next, h => exact False.elim h
  | .ok .brk, h => exact False.elim h
  | .ok .cont, h => exact False.elim h
end
/-- what is known of the law's promise at the head's heap -/
def LawX (l : PySem.W.OpenLaw) (w : World) (K : PySem.W.Frag) (CX : CXT) (k n : Nat) (x : Str) (mg : Str → Option Value) (fa : Addr) (h : Heap) : Prop :=
  ∃ (fd : FuncData) (cs : List (Addr × Addr)) (sp : Sp), (∀ p ∈ cs, h.get? p.2 = some { cls := .none, data := .fields #[] }) ∧ (∀ p ∈ cs, K.lookup p.2 = none) ∧ (∀ p ∈ cs, PySem.W.CodeHd h p.1 p.2) ∧ (∀ (s : Shared) (u : Value), BindsTo s fd ⟨[u], []⟩ [(x, u)]) ∧
    (∀ (H : Hp) (a : Addr) (ns : List Int), ns.length ≤ n → (∀ p ∈ cs, H p.2 = some (.tbl #[])) → SqL K H a (ns.map V.int) → sp [.ref a] H (fun v _ => v = .bl true) fun _ _ _ => False) ∧
    ∀ base : Heap, K.In base → base.Ns mainGlobals mg → (∀ p ∈ cs, LamX.TabB base mg p.1 p.2) → RunX l.prog w K mg base CX k fa fd [x] sp
theorem walkX {l : PySem.W.OpenLaw} {n k : Nat} {q : Program} {loose : List Str} {XP : (Str → Option Value) → Heap → Prop} {YP : World → Heap → Prop} {d : DefRec} {K : Params → PySem.W.Frag} {CX : World → CXT} {x : Str}
    (hn : l.most = some n) (hn2 : n ≤ sizeLine) (hdf : d.params.defaults = []) (hr : Room k callerA) (hY : ∀ (w : World) (h : Heap), YP w h → (K w.params).In h)
    (F : ∀ (w : World) (mg : Str → Option Value) (fa : Addr) (h : Heap), YP w h → (K w.params).In h → h.Ns mainGlobals mg → mg d.name = some (.ref fa) → LawX l w (K w.params) (CX w) k n x mg fa h)
    (hCX : ∀ (w : World) (H : Hp) (s : Shared) (e : Value) (s' : Shared), CX w [] H s (fun _ _ _ => False) e s' → False) :
    PySem.W.WalkO q loose XP YP l.row.toRowW d [] (fun f vs => PySem.call f vs) := by
  apply Att.attach_call hn hdf
  intro w s₀ s₁ mg mb fa o pm cd doc a vs ns G Y ho hd hcd hmg hobj hints hlen hg
  have KX := hY w _ Y
  obtain ⟨fd, cs, sp, hT, nT, C, hb, hsp, hF⟩ := F w mg fa _ Y KX G.T.g hmg
  have rel := vals_ints hints
  have hz : (ns.map V.int).length ≤ sizeLine := by rw [List.length_map]; exact Nat.le_trans hlen hn2
  have aT : a ∉ tabOf cs := by
    intro z
    obtain ⟨p, hp, e⟩ := List.mem_map.mp z
    have := hT p hp
    rw [e, hobj] at this
    cases this
  have memT : ∀ p ∈ cs, p.2 ∈ tabOf cs := fun p hp => List.mem_map.mpr ⟨p, hp, rfl⟩
  have tab : ∀ b, b ∈ tabOf cs → s₁.heap.get? b = some { cls := .none, data := .fields #[] } := by
    intro b hb
    obtain ⟨p, hp, rfl⟩ := List.mem_map.mp hb
    exact hT p hp
  obtain ⟨H0, eH0⟩ : ∃ H0 : Hp, H0 = fun b => if b ∈ tabOf cs then some (.tbl #[]) else none := ⟨_, rfl⟩
  have in0 : ∀ b, b ∈ tabOf cs → H0 b = some (.tbl #[]) := fun b z => by rw [eH0]; exact if_pos z
  have out0 : ∀ b, b ∉ tabOf cs → H0 b = none := fun b z => by rw [eH0]; exact if_neg z
  have ok0 : HOk l.prog w H0 s₁.heap := by
    intro b u z
    by_cases m : b ∈ tabOf cs
    · rw [in0 b m] at z
      cases z
      exact tab b m
    · rw [out0 b m] at z
      cases z
  have only0 : ∀ b u, H0 b = some u → b ∈ tabOf cs := by
    intro b u z
    refine Classical.byContradiction fun m => ?_
    rw [out0 b m] at z
    cases z
  cases hk : (K w.params).lookup a with
  | some o' =>
    have e := KX a o' hk
    rw [hobj] at e
    cases e
    obtain ⟨k1, k2, k3, k4⟩ := env_tabs (P := l.prog) (w := w) (H := H0) KX G.T.g G.T.b G.T.builtins G.T.nolimit hg hT nT C G.T.bmain hobj ok0 (fun b u z => .inr (only0 b u z)) (fun u z => absurd (only0 a u z) aT)
    refine run_tabs k4 (hF _ k1 k2 k3) hr hb hT C (fun p hp => in0 _ (memT p hp)) (fun b => ?_) ok0 (fun e s' => hCX w H0 s₁ e s') (hsp _ a ns hlen (fun p hp => in0 _ (memT p hp)) ?_)
    · by_cases m : b ∈ tabOf cs
      · exact .inr (.inl m)
      · exact .inl (out0 b m)
    · exact .inr ⟨_, vs.toArray, _, hk, rfl, rfl, rfl, by rw [List.size_toArray, ← rel.length]; exact hz, by simpa using rel⟩
  | none =>
    obtain ⟨H, eH⟩ : ∃ H, H = upd H0 a (.frz { cls := .type "list", data := .seq vs.toArray } (.lst (ns.map V.int))) := ⟨_, rfl⟩
    have at_ : H a = some (.frz { cls := .type "list", data := .seq vs.toArray } (.lst (ns.map V.int))) := by rw [eH]; exact upd_same
    have off : ∀ b, b ≠ a → H b = H0 b := fun b n => by rw [eH]; exact upd_ne n
    have neA : ∀ p ∈ cs, p.2 ≠ a := fun p hp z => aT (z ▸ memT p hp)
    have tH : ∀ p ∈ cs, H p.2 = some (.tbl #[]) := fun p hp => (off _ (neA p hp)).trans (in0 _ (memT p hp))
    have ok1 : HOk l.prog w H s₁.heap := by
      intro b u z
      by_cases m : b = a
      · rw [m, at_] at z
        cases z
        rw [m]
        exact ⟨hobj, hz, vs, _, rel, hobj⟩
      · rw [off b m] at z
        by_cases t : b ∈ tabOf cs
        · rw [in0 b t] at z
          cases z
          exact tab b t
        · rw [out0 b t] at z
          cases z
    obtain ⟨k1, k2, k3, k4⟩ := env_tabs (P := l.prog) (w := w) (H := H) KX G.T.g G.T.b G.T.builtins G.T.nolimit hg hT nT C G.T.bmain hobj ok1 (fun b u z => by
      by_cases m : b = a
      · exact .inl m
      · rw [off b m] at z
        exact .inr (only0 b u z)) (fun u z => hk)
    refine run_tabs k4 (hF _ k1 k2 k3) hr hb hT C tH (fun b => ?_) ok1 (fun e s' => hCX w H s₁ e s') (hsp _ a ns hlen tH (.inl (.inr ⟨_, at_⟩)))
    by_cases m : b = a
    · exact .inr (.inr ⟨_, _, by rw [m]; exact at_⟩)
    · by_cases t : b ∈ tabOf cs
      · exact .inr (.inl t)
      · exact .inl ((off b m).trans (out0 b t))
end K14
namespace K14
end K14
namespace K14
open PySem PySem.Spec PyProof.Rows L2
theorem RunG.mono {P : Program} {w : World} {K : PySem.W.Frag} {mg : Str → Option Value} {base : Heap} {k j : Nat} {f : Addr} {fd : FuncData} {ps : List Str} {sp : Sp} (h : RunG P w K mg base k f fd ps sp) (le : k ≤ j) : RunG P w K mg base j f fd ps sp := fun A outer s H args us vs Q E hA r e b v p => h A outer s H args us vs Q E hA (r.mono le) e b v p
set_option maxHeartbeats 8000000 in
theorem all_mk {l : PySem.W.OpenLaw} {w : World} {K : PySem.W.Frag} {h : Heap} {mg : Str → Option Value} {fa C f1 f2 f3 f4 f5 f6 f7 f8 f9 f10 f11 f12 f13 f14 f15 f16 f17 f18 f19 f20 f21 f22 f23 f24 f25 f26 f27 f28 cc21 PT21 cc22 PT22 : Addr} {t_MOST_LETTERS t_MOST_PERSONS : Tok} (X : K.In h) (G : h.Ns mainGlobals mg) (hfa : mg "law" = some (.ref fa))
    {od1 an1 od2 an2 od3 an3 od4 an4 od5 an5 od6 an6 od7 an7 od8 an8 od9 an9 od10 an10 od11 an11 od12 an12 od13 an13 od14 an14 od15 an15 od16 an16 od17 an17 od18 an18 od19 an19 od20 an20 od21 an21 od22 an22 od23 an23 od24 an24 od25 an25 od26 an26 od27 an27 od28 an28 : Option Addr} {sl1 sl2 sl3 sl4 sl5 sl6 sl7 sl8 sl9 sl10 sl11 sl12 sl13 sl14 sl15 sl16 sl17 sl18 sl19 sl20 sl21 sl22 sl23 sl24 sl25 sl26 sl27 sl28 : Array (Option Value)} {oc1 kV1 dc1 pm1 cd1 ct1 oc2 kV2 dc2 pm2 cd2 ct2 oc3 kV3 dc3 pm3 cd3 ct3 oc4 kV4 dc4 pm4 cd4 ct4 oc5 kV5 dc5 pm5 cd5 ct5 oc6 kV6 dc6 pm6 cd6 ct6 oc7 kV7 dc7 pm7 cd7 ct7 oc8 kV8 dc8 pm8 cd8 ct8 oc9 kV9 dc9 pm9 cd9 ct9 oc10 kV10 dc10 pm10 cd10 ct10 oc11 kV11 dc11 pm11 cd11 ct11 oc12 kV12 dc12 pm12 cd12 ct12 oc13 kV13 dc13 pm13 cd13 ct13 oc14 kV14 dc14 pm14 cd14 ct14 oc15 kV15 dc15 pm15 cd15 ct15 oc16 kV16 dc16 pm16 cd16 ct16 oc17 kV17 dc17 pm17 cd17 ct17 oc18 kV18 dc18 pm18 cd18 ct18 oc19 kV19 dc19 pm19 cd19 ct19 oc20 kV20 dc20 pm20 cd20 ct20 oc21 kV21 dc21 pm21 ct21 oc22 kV22 dc22 pm22 ct22 oc23 kV23 dc23 pm23 cd23 ct23 oc24 kV24 dc24 pm24 cd24 ct24 oc25 kV25 dc25 pm25 cd25 ct25 oc26 kV26 dc26 pm26 cd26 ct26 oc27 kV27 dc27 pm27 cd27 ct27 oc28 kV28 dc28 pm28 cd28 ct28 : Value}
    (a1 : PySem.W.nsIn K mainGlobals "_law_draw" = some (some (.ref f1))) (l1 : K.lookup f1 = some ⟨oc1, od1, .func (PySem.W.fnOf "_law_draw" "_law_draw" (defArgs sDraw) (defBody sDraw) (defScope sDraw) .none kV1 dc1 pm1 an1 cd1 ct1), sl1⟩) (c1 : PySem.W.codeIn K cd1 "_law_draw" = true) (k1 : PySem.W.keepIn K (.ref f1) = true)
    (a2 : PySem.W.nsIn K mainGlobals "_law_pick" = some (some (.ref f2))) (l2 : K.lookup f2 = some ⟨oc2, od2, .func (PySem.W.fnOf "_law_pick" "_law_pick" (defArgs sPick) (defBody sPick) (defScope sPick) .none kV2 dc2 pm2 an2 cd2 ct2), sl2⟩) (c2 : PySem.W.codeIn K cd2 "_law_pick" = true) (k2 : PySem.W.keepIn K (.ref f2) = true)
    (a3 : PySem.W.nsIn K mainGlobals "_law_heap" = some (some (.ref f3))) (l3 : K.lookup f3 = some ⟨oc3, od3, .func (PySem.W.fnOf "_law_heap" "_law_heap" (defArgs sHeap) (defBody sHeap) (defScope sHeap) .none kV3 dc3 pm3 an3 cd3 ct3), sl3⟩) (c3 : PySem.W.codeIn K cd3 "_law_heap" = true) (k3 : PySem.W.keepIn K (.ref f3) = true)
    (a4 : PySem.W.nsIn K mainGlobals "is_number" = some (some (.ref f4))) (l4 : K.lookup f4 = some ⟨oc4, od4, .func (PySem.W.fnOf "is_number" "is_number" (defArgs sIsNumber) (defBody sIsNumber) (defScope sIsNumber) .none kV4 dc4 pm4 an4 cd4 ct4), sl4⟩) (c4 : PySem.W.codeIn K cd4 "is_number" = true) (k4 : PySem.W.keepIn K (.ref f4) = true)
    (a5 : PySem.W.nsIn K mainGlobals "is_below" = some (some (.ref f5))) (l5 : K.lookup f5 = some ⟨oc5, od5, .func (PySem.W.fnOf "is_below" "is_below" (defArgs sIsBelow) (defBody sIsBelow) (defScope sIsBelow) .none kV5 dc5 pm5 an5 cd5 ct5), sl5⟩) (c5 : PySem.W.codeIn K cd5 "is_below" = true) (k5 : PySem.W.keepIn K (.ref f5) = true)
    (a6 : PySem.W.nsIn K mainGlobals "is_tuple_of" = some (some (.ref f6))) (l6 : K.lookup f6 = some ⟨oc6, od6, .func (PySem.W.fnOf "is_tuple_of" "is_tuple_of" (defArgs sIsTupleOf) (defBody sIsTupleOf) (defScope sIsTupleOf) .none kV6 dc6 pm6 an6 cd6 ct6), sl6⟩) (c6 : PySem.W.codeIn K cd6 "is_tuple_of" = true) (k6 : PySem.W.keepIn K (.ref f6) = true)
    (a7 : PySem.W.nsIn K mainGlobals "is_name" = some (some (.ref f7))) (l7 : K.lookup f7 = some ⟨oc7, od7, .func (PySem.W.fnOf "is_name" "is_name" (defArgs sIsName) (defBody sIsName) (defScope sIsName) .none kV7 dc7 pm7 an7 cd7 ct7), sl7⟩) (c7 : PySem.W.codeIn K cd7 "is_name" = true) (k7 : PySem.W.keepIn K (.ref f7) = true)
    (a8 : PySem.W.nsIn K mainGlobals "are_persons" = some (some (.ref f8))) (l8 : K.lookup f8 = some ⟨oc8, od8, .func (PySem.W.fnOf "are_persons" "are_persons" (defArgs sArePersons) (defBody sArePersons) (defScope sArePersons) .none kV8 dc8 pm8 an8 cd8 ct8), sl8⟩) (c8 : PySem.W.codeIn K cd8 "are_persons" = true) (k8 : PySem.W.keepIn K (.ref f8) = true)
    (a9 : PySem.W.nsIn K mainGlobals "are_unlike_persons" = some (some (.ref f9))) (l9 : K.lookup f9 = some ⟨oc9, od9, .func (PySem.W.fnOf "are_unlike_persons" "are_unlike_persons" (defArgs sAreUnlike) (defBody sAreUnlike) (defScope sAreUnlike) .none kV9 dc9 pm9 an9 cd9 ct9), sl9⟩) (c9 : PySem.W.codeIn K cd9 "are_unlike_persons" = true) (k9 : PySem.W.keepIn K (.ref f9) = true)
    (a10 : PySem.W.nsIn K mainGlobals "_ranks_of_list" = some (some (.ref f10))) (l10 : K.lookup f10 = some ⟨oc10, od10, .func (PySem.W.fnOf "_ranks_of_list" "_ranks_of_list" (defArgs sRanksOfList) (defBody sRanksOfList) (defScope sRanksOfList) .none kV10 dc10 pm10 an10 cd10 ct10), sl10⟩) (c10 : PySem.W.codeIn K cd10 "_ranks_of_list" = true) (k10 : PySem.W.keepIn K (.ref f10) = true)
    (a11 : PySem.W.nsIn K mainGlobals "_ranks_of_lists" = some (some (.ref f11))) (l11 : K.lookup f11 = some ⟨oc11, od11, .func (PySem.W.fnOf "_ranks_of_lists" "_ranks_of_lists" (defArgs sRanksOfLists) (defBody sRanksOfLists) (defScope sRanksOfLists) .none kV11 dc11 pm11 an11 cd11 ct11), sl11⟩) (c11 : PySem.W.codeIn K cd11 "_ranks_of_lists" = true) (k11 : PySem.W.keepIn K (.ref f11) = true)
    (a12 : PySem.W.nsIn K mainGlobals "_are_names" = some (some (.ref f12))) (l12 : K.lookup f12 = some ⟨oc12, od12, .func (PySem.W.fnOf "_are_names" "_are_names" (defArgs sAreNames) (defBody sAreNames) (defScope sAreNames) .none kV12 dc12 pm12 an12 cd12 ct12), sl12⟩) (c12 : PySem.W.codeIn K cd12 "_are_names" = true) (k12 : PySem.W.keepIn K (.ref f12) = true)
    (a13 : PySem.W.nsIn K mainGlobals "_check_lists" = some (some (.ref f13))) (l13 : K.lookup f13 = some ⟨oc13, od13, .func (PySem.W.fnOf "_check_lists" "_check_lists" (defArgs sCheckLists) (defBody sCheckLists) (defScope sCheckLists) .none kV13 dc13 pm13 an13 cd13 ct13), sl13⟩) (c13 : PySem.W.codeIn K cd13 "_check_lists" = true) (k13 : PySem.W.keepIn K (.ref f13) = true)
    (a14 : PySem.W.nsIn K mainGlobals "_check_both_ways" = some (some (.ref f14))) (l14 : K.lookup f14 = some ⟨oc14, od14, .func (PySem.W.fnOf "_check_both_ways" "_check_both_ways" (defArgs sCheckBoth) (defBody sCheckBoth) (defScope sCheckBoth) .none kV14 dc14 pm14 an14 cd14 ct14), sl14⟩) (c14 : PySem.W.codeIn K cd14 "_check_both_ways" = true) (k14 : PySem.W.keepIn K (.ref f14) = true)
    (a15 : PySem.W.findIn K (.ref C) "__init__" = some (some (.ref f15))) (i15 : PySem.W.isFn K (.ref f15) = true) (l15 : K.lookup f15 = some ⟨oc15, od15, .func (PySem.W.fnOf "__init__" "Wishes.__init__" (defArgs sWInit) (defBody sWInit) (defScope sWInit) .none kV15 dc15 pm15 an15 cd15 ct15), sl15⟩) (c15 : PySem.W.codeIn K cd15 "Wishes.__init__" = true) (k15 : PySem.W.keepIn K (.ref f15) = true)
    (a16 : PySem.W.nsIn K mainGlobals "is_wished" = some (some (.ref f16))) (l16 : K.lookup f16 = some ⟨oc16, od16, .func (PySem.W.fnOf "is_wished" "is_wished" (defArgs sIsWished) (defBody sIsWished) (defScope sIsWished) .none kV16 dc16 pm16 an16 cd16 ct16), sl16⟩) (c16 : PySem.W.codeIn K cd16 "is_wished" = true) (k16 : PySem.W.keepIn K (.ref f16) = true)
    (a17 : PySem.W.nsIn K mainGlobals "rank_of" = some (some (.ref f17))) (l17 : K.lookup f17 = some ⟨oc17, od17, .func (PySem.W.fnOf "rank_of" "rank_of" (defArgs sRankOf) (defBody sRankOf) (defScope sRankOf) .none kV17 dc17 pm17 an17 cd17 ct17), sl17⟩) (c17 : PySem.W.codeIn K cd17 "rank_of" = true) (k17 : PySem.W.keepIn K (.ref f17) = true)
    (a18 : PySem.W.nsIn K mainGlobals "ranks_in" = some (some (.ref f18))) (l18 : K.lookup f18 = some ⟨oc18, od18, .func (PySem.W.fnOf "ranks_in" "ranks_in" (defArgs sRanksIn) (defBody sRanksIn) (defScope sRanksIn) .none kV18 dc18 pm18 an18 cd18 ct18), sl18⟩) (c18 : PySem.W.codeIn K cd18 "ranks_in" = true) (k18 : PySem.W.keepIn K (.ref f18) = true)
    (a19 : PySem.W.nsIn K mainGlobals "_law_mixed" = some (some (.ref f19))) (l19 : K.lookup f19 = some ⟨oc19, od19, .func (PySem.W.fnOf "_law_mixed" "_law_mixed" (defArgs sLMixed) (defBody sLMixed) (defScope sLMixed) .none kV19 dc19 pm19 an19 cd19 ct19), sl19⟩) (c19 : PySem.W.codeIn K cd19 "_law_mixed" = true) (k19 : PySem.W.keepIn K (.ref f19) = true)
    (a20 : PySem.W.nsIn K mainGlobals "would_rather" = some (some (.ref f20))) (l20 : K.lookup f20 = some ⟨oc20, od20, .func (PySem.W.fnOf "would_rather" "would_rather" (defArgs sWouldRather) (defBody sWouldRather) (defScope sWouldRather) .none kV20 dc20 pm20 an20 cd20 ct20), sl20⟩) (c20 : PySem.W.codeIn K cd20 "would_rather" = true) (k20 : PySem.W.keepIn K (.ref f20) = true)
    (a21 : PySem.W.nsIn K mainGlobals "best_of" = some (some (.ref f21))) (l21 : K.lookup f21 = some ⟨oc21, od21, .func (PySem.W.fnOf "best_of" "best_of" (defArgs sBestOf) (defBody sBestOf) (defScope sBestOf) .none kV21 dc21 pm21 an21 (.ref cc21) ct21), sl21⟩) (c21 : PySem.W.codeIn K (.ref cc21) "best_of" = true) (k21 : PySem.W.keepIn K (.ref f21) = true)
    (a22 : PySem.W.nsIn K mainGlobals "worst_of" = some (some (.ref f22))) (l22 : K.lookup f22 = some ⟨oc22, od22, .func (PySem.W.fnOf "worst_of" "worst_of" (defArgs sWorstOf) (defBody sWorstOf) (defScope sWorstOf) .none kV22 dc22 pm22 an22 (.ref cc22) ct22), sl22⟩) (c22 : PySem.W.codeIn K (.ref cc22) "worst_of" = true) (k22 : PySem.W.keepIn K (.ref f22) = true)
    (a23 : PySem.W.nsIn K mainGlobals "pairs_in" = some (some (.ref f23))) (l23 : K.lookup f23 = some ⟨oc23, od23, .func (PySem.W.fnOf "pairs_in" "pairs_in" (defArgs sPairsIn) (defBody sPairsIn) (defScope sPairsIn) .none kV23 dc23 pm23 an23 cd23 ct23), sl23⟩) (c23 : PySem.W.codeIn K cd23 "pairs_in" = true) (k23 : PySem.W.keepIn K (.ref f23) = true)
    (a24 : PySem.W.nsIn K mainGlobals "_law_lists" = some (some (.ref f24))) (l24 : K.lookup f24 = some ⟨oc24, od24, .func (PySem.W.fnOf "_law_lists" "_law_lists" (defArgs sLists2) (defBody sLists2) (defScope sLists2) .none kV24 dc24 pm24 an24 cd24 ct24), sl24⟩) (c24 : PySem.W.codeIn K cd24 "_law_lists" = true) (k24 : PySem.W.keepIn K (.ref f24) = true)
    (a25 : PySem.W.nsIn K mainGlobals "_law_names" = some (some (.ref f25))) (l25 : K.lookup f25 = some ⟨oc25, od25, .func (PySem.W.fnOf "_law_names" "_law_names" (defArgs sNames2) (defBody sNames2) (defScope sNames2) .none kV25 dc25 pm25 an25 cd25 ct25), sl25⟩) (c25 : PySem.W.codeIn K cd25 "_law_names" = true) (k25 : PySem.W.keepIn K (.ref f25) = true)
    (a26 : PySem.W.nsIn K mainGlobals "_law_ranks" = some (some (.ref f26))) (l26 : K.lookup f26 = some ⟨oc26, od26, .func (PySem.W.fnOf "_law_ranks" "_law_ranks" (defArgs sLRanks) (defBody sLRanks) (defScope sLRanks) .none kV26 dc26 pm26 an26 cd26 ct26), sl26⟩) (c26 : PySem.W.codeIn K cd26 "_law_ranks" = true) (k26 : PySem.W.keepIn K (.ref f26) = true)
    (a27 : PySem.W.nsIn K mainGlobals "_law_person_right" = some (some (.ref f27))) (l27 : K.lookup f27 = some ⟨oc27, od27, .func (PySem.W.fnOf "_law_person_right" "_law_person_right" (defArgs sLPersonRight) (defBody sLPersonRight) (defScope sLPersonRight) .none kV27 dc27 pm27 an27 cd27 ct27), sl27⟩) (c27 : PySem.W.codeIn K cd27 "_law_person_right" = true) (k27 : PySem.W.keepIn K (.ref f27) = true)
    (a28 : PySem.W.nsIn K mainGlobals "law" = some (some (.ref f28))) (l28 : K.lookup f28 = some ⟨oc28, od28, .func (PySem.W.fnOf "law" "law" (defArgs sLaw) (defBody sLaw) (defScope sLaw) .none kV28 dc28 pm28 an28 cd28 ct28), sl28⟩) (c28 : PySem.W.codeIn K cd28 "law" = true) (k28 : PySem.W.keepIn K (.ref f28) = true)
    (aC : PySem.W.nsIn K mainGlobals "Wishes" = some (some (.ref C))) (pg : PySem.W.plainGet K C Str.empty = true) (hd : PySem.W.hasDictIn K C = true) (po : PySem.W.plainOver K C = true) (sa : PySem.W.findIn K (.ref C) "__setattr__" = some (some (.builtin "object.__setattr__"))) (mk : PySem.W.makesIn K C = true) (kc : PySem.W.keepIn K (.ref C) = true)
    (nA0 : PySem.W.findIn K (.ref C) "names" = some none)    (nA1 : PySem.W.findIn K (.ref C) "lists" = some none)    (nA2 : PySem.W.findIn K (.ref C) "_ranks" = some none)
    (z_int : PySem.W.nsIn K mainGlobals "int" = some none)    (z_len : PySem.W.nsIn K mainGlobals "len" = some none)    (z_abs : PySem.W.nsIn K mainGlobals "abs" = some none)    (z_isinstance : PySem.W.nsIn K mainGlobals "isinstance" = some none)    (z_bool : PySem.W.nsIn K mainGlobals "bool" = some none)    (z_tuple : PySem.W.nsIn K mainGlobals "tuple" = some none)    (z_str : PySem.W.nsIn K mainGlobals "str" = some none)    (z_all : PySem.W.nsIn K mainGlobals "all" = some none)    (z_set : PySem.W.nsIn K mainGlobals "set" = some none)    (z_enumerate : PySem.W.nsIn K mainGlobals "enumerate" = some none)    (z_range : PySem.W.nsIn K mainGlobals "range" = some none)    (z_list : PySem.W.nsIn K mainGlobals "list" = some none)    (z_min : PySem.W.nsIn K mainGlobals "min" = some none)    (z_max : PySem.W.nsIn K mainGlobals "max" = some none)    (z_sorted : PySem.W.nsIn K mainGlobals "sorted" = some none)    (z_repr : PySem.W.nsIn K mainGlobals "repr" = some none)    (zi_MOST_LETTERS : PySem.W.nsIn K mainGlobals "MOST_LETTERS" = some (some (.int 6 t_MOST_LETTERS)))    (zi_MOST_PERSONS : PySem.W.nsIn K mainGlobals "MOST_PERSONS" = some (some (.int 60 t_MOST_PERSONS)))
    (hT21 : h.get? PT21 = some { cls := .none, data := .fields #[] }) (nT21 : K.lookup PT21 = none) (hC21 : PySem.W.CodeHd h cc21 PT21)
    (hT22 : h.get? PT22 = some { cls := .none, data := .fields #[] }) (nT22 : K.lookup PT22 = none) (hC22 : PySem.W.CodeHd h cc22 PT22)
 (ne21_22 : PT21 ≠ PT22) :
    LawX l w K L2.CX0 8 63 "script" mg fa h := by
  have e := hfa.symm.trans (PySem.W.mg_of X G a28)
  cases e
  have T : Txt K mg C := ⟨⟨pg, hd, po, sa⟩, nA0, nA1, nA2, PySem.W.mg_of X G aC⟩
  have M : Mk K C f15 := ⟨mk, a15, i15, kc⟩
  have F1 := fun_mk (st := sDraw) l1 c1 k1
  have F2 := fun_mk (st := sPick) l2 c2 k2
  have F3 := fun_mk (st := sHeap) l3 c3 k3
  have F4 := fun_mk (st := sIsNumber) l4 c4 k4
  have F5 := fun_mk (st := sIsBelow) l5 c5 k5
  have F6 := fun_mk (st := sIsTupleOf) l6 c6 k6
  have F7 := fun_mk (st := sIsName) l7 c7 k7
  have F8 := fun_mk (st := sArePersons) l8 c8 k8
  have F9 := fun_mk (st := sAreUnlike) l9 c9 k9
  have F10 := fun_mk (st := sRanksOfList) l10 c10 k10
  have F11 := fun_mk (st := sRanksOfLists) l11 c11 k11
  have F12 := fun_mk (st := sAreNames) l12 c12 k12
  have F13 := fun_mk (st := sCheckLists) l13 c13 k13
  have F14 := fun_mk (st := sCheckBoth) l14 c14 k14
  have F15 := fun_mk (st := sWInit) l15 c15 k15
  have F16 := fun_mk (st := sIsWished) l16 c16 k16
  have F17 := fun_mk (st := sRankOf) l17 c17 k17
  have F18 := fun_mk (st := sRanksIn) l18 c18 k18
  have F19 := fun_mk (st := sLMixed) l19 c19 k19
  have F20 := fun_mk (st := sWouldRather) l20 c20 k20
  have F21 := fun_mk (st := sBestOf) l21 c21 k21
  have F22 := fun_mk (st := sWorstOf) l22 c22 k22
  have F23 := fun_mk (st := sPairsIn) l23 c23 k23
  have F24 := fun_mk (st := sLists2) l24 c24 k24
  have F25 := fun_mk (st := sNames2) l25 c25 k25
  have F26 := fun_mk (st := sLRanks) l26 c26 k26
  have F27 := fun_mk (st := sLPersonRight) l27 c27 k27
  have F28 := fun_mk (st := sLaw) l28 c28 k28
  have b1 := F1.binds (ps := ["heap", "many"]) fun _ _ _ _ _ _ us hl => match us, hl with | [_, _], _ => rfl
  have b2 := F2.binds (ps := ["heap", "some"]) fun _ _ _ _ _ _ us hl => match us, hl with | [_, _], _ => rfl
  have b3 := F3.binds (ps := ["script"]) fun _ _ _ _ _ _ us hl => match us, hl with | [_], _ => rfl
  have b4 := F4.binds (ps := ["value"]) fun _ _ _ _ _ _ us hl => match us, hl with | [_], _ => rfl
  have b5 := F5.binds (ps := ["value", "bound"]) fun _ _ _ _ _ _ us hl => match us, hl with | [_, _], _ => rfl
  have b6 := F6.binds (ps := ["value", "many"]) fun _ _ _ _ _ _ us hl => match us, hl with | [_, _], _ => rfl
  have b7 := F7.binds (ps := ["value"]) fun _ _ _ _ _ _ us hl => match us, hl with | [_], _ => rfl
  have b8 := F8.binds (ps := ["value", "many"]) fun _ _ _ _ _ _ us hl => match us, hl with | [_, _], _ => rfl
  have b9 := F9.binds (ps := ["value", "many"]) fun _ _ _ _ _ _ us hl => match us, hl with | [_, _], _ => rfl
  have b10 := F10.binds (ps := ["some", "many"]) fun _ _ _ _ _ _ us hl => match us, hl with | [_, _], _ => rfl
  have b11 := F11.binds (ps := ["lists"]) fun _ _ _ _ _ _ us hl => match us, hl with | [_], _ => rfl
  have b12 := F12.binds (ps := ["value"]) fun _ _ _ _ _ _ us hl => match us, hl with | [_], _ => rfl
  have b13 := F13.binds (ps := ["lists"]) fun _ _ _ _ _ _ us hl => match us, hl with | [_], _ => rfl
  have b14 := F14.binds (ps := ["lists", "ranks"]) fun _ _ _ _ _ _ us hl => match us, hl with | [_, _], _ => rfl
  have b15 := F15.binds (ps := ["self", "names", "lists"]) fun _ _ _ _ _ _ us hl => match us, hl with | [_, _, _], _ => rfl
  have b16 := F16.binds (ps := ["wishes", "person", "other"]) fun _ _ _ _ _ _ us hl => match us, hl with | [_, _, _], _ => rfl
  have n16 := named3 (n := "wishes") (m := "person") (o := "other") F16 (fun _ _ _ _ _ _ _ _ _ => rfl) (fun _ _ _ _ _ _ _ _ _ => rfl) (fun _ _ _ _ _ _ _ _ _ => rfl) (fun _ _ _ _ _ _ _ _ _ => rfl)
  have b17 := F17.binds (ps := ["wishes", "person", "other"]) fun _ _ _ _ _ _ us hl => match us, hl with | [_, _, _], _ => rfl
  have n17 := named3 (n := "wishes") (m := "person") (o := "other") F17 (fun _ _ _ _ _ _ _ _ _ => rfl) (fun _ _ _ _ _ _ _ _ _ => rfl) (fun _ _ _ _ _ _ _ _ _ => rfl) (fun _ _ _ _ _ _ _ _ _ => rfl)
  have b18 := F18.binds (ps := ["wishes"]) fun _ _ _ _ _ _ us hl => match us, hl with | [_], _ => rfl
  have n18 := named1 (n := "wishes") F18 (fun _ _ _ _ _ _ _ => rfl) (fun _ _ _ _ _ _ _ => rfl)
  have b19 := F19.binds (ps := ["heap", "some"]) fun _ _ _ _ _ _ us hl => match us, hl with | [_, _], _ => rfl
  have b20 := F20.binds (ps := ["wishes", "person", "one", "other"]) fun _ _ _ _ _ _ us hl => match us, hl with | [_, _, _, _], _ => rfl
  have n20 := named4 (n := "wishes") (m := "person") (o := "one") (r := "other") F20 (fun _ _ _ _ _ _ _ _ _ _ => rfl) (fun _ _ _ _ _ _ _ _ _ _ => rfl) (fun _ _ _ _ _ _ _ _ _ _ => rfl) (fun _ _ _ _ _ _ _ _ _ _ => rfl) (fun _ _ _ _ _ _ _ _ _ _ => rfl)
  have b21 := F21.binds (ps := ["wishes", "person", "some"]) fun _ _ _ _ _ _ us hl => match us, hl with | [_, _, _], _ => rfl
  have n21 := named3 (n := "wishes") (m := "person") (o := "some") F21 (fun _ _ _ _ _ _ _ _ _ => rfl) (fun _ _ _ _ _ _ _ _ _ => rfl) (fun _ _ _ _ _ _ _ _ _ => rfl) (fun _ _ _ _ _ _ _ _ _ => rfl)
  have b22 := F22.binds (ps := ["wishes", "person", "some"]) fun _ _ _ _ _ _ us hl => match us, hl with | [_, _, _], _ => rfl
  have n22 := named3 (n := "wishes") (m := "person") (o := "some") F22 (fun _ _ _ _ _ _ _ _ _ => rfl) (fun _ _ _ _ _ _ _ _ _ => rfl) (fun _ _ _ _ _ _ _ _ _ => rfl) (fun _ _ _ _ _ _ _ _ _ => rfl)
  have b23 := F23.binds (ps := ["wishes"]) fun _ _ _ _ _ _ us hl => match us, hl with | [_], _ => rfl
  have n23 := named1 (n := "wishes") F23 (fun _ _ _ _ _ _ _ => rfl) (fun _ _ _ _ _ _ _ => rfl)
  have b24 := F24.binds (ps := ["heap", "many"]) fun _ _ _ _ _ _ us hl => match us, hl with | [_, _], _ => rfl
  have b25 := F25.binds (ps := ["heap", "many"]) fun _ _ _ _ _ _ us hl => match us, hl with | [_, _], _ => rfl
  have b26 := F26.binds (ps := ["some", "many"]) fun _ _ _ _ _ _ us hl => match us, hl with | [_, _], _ => rfl
  have b27 := F27.binds (ps := ["heap", "wishes", "person", "ranks"]) fun _ _ _ _ _ _ us hl => match us, hl with | [_, _, _, _], _ => rfl
  have m_int := PySem.W.mg_none_of X G z_int
  have m_len := PySem.W.mg_none_of X G z_len
  have m_abs := PySem.W.mg_none_of X G z_abs
  have m_isinstance := PySem.W.mg_none_of X G z_isinstance
  have m_bool := PySem.W.mg_none_of X G z_bool
  have m_tuple := PySem.W.mg_none_of X G z_tuple
  have m_str := PySem.W.mg_none_of X G z_str
  have m_all := PySem.W.mg_none_of X G z_all
  have m_set := PySem.W.mg_none_of X G z_set
  have m_enumerate := PySem.W.mg_none_of X G z_enumerate
  have m_range := PySem.W.mg_none_of X G z_range
  have m_list := PySem.W.mg_none_of X G z_list
  have m_min := PySem.W.mg_none_of X G z_min
  have m_max := PySem.W.mg_none_of X G z_max
  have m_sorted := PySem.W.mg_none_of X G z_sorted
  have m_repr := PySem.W.mg_none_of X G z_repr
  have mi_MOST_LETTERS := PySem.W.mg_of X G zi_MOST_LETTERS
  have mi_MOST_PERSONS := PySem.W.mg_of X G zi_MOST_PERSONS
  have m1 := PySem.W.mg_of X G a1
  have m2 := PySem.W.mg_of X G a2
  have m3 := PySem.W.mg_of X G a3
  have m4 := PySem.W.mg_of X G a4
  have m5 := PySem.W.mg_of X G a5
  have m6 := PySem.W.mg_of X G a6
  have m7 := PySem.W.mg_of X G a7
  have m8 := PySem.W.mg_of X G a8
  have m9 := PySem.W.mg_of X G a9
  have m10 := PySem.W.mg_of X G a10
  have m11 := PySem.W.mg_of X G a11
  have m12 := PySem.W.mg_of X G a12
  have m13 := PySem.W.mg_of X G a13
  have m14 := PySem.W.mg_of X G a14
  have m16 := PySem.W.mg_of X G a16
  have m17 := PySem.W.mg_of X G a17
  have m18 := PySem.W.mg_of X G a18
  have m19 := PySem.W.mg_of X G a19
  have m20 := PySem.W.mg_of X G a20
  have m21 := PySem.W.mg_of X G a21
  have m22 := PySem.W.mg_of X G a22
  have m23 := PySem.W.mg_of X G a23
  have m24 := PySem.W.mg_of X G a24
  have m25 := PySem.W.mg_of X G a25
  have m26 := PySem.W.mg_of X G a26
  have m27 := PySem.W.mg_of X G a27
  refine ⟨PySem.W.fnOf "law" "law" (defArgs sLaw) (defBody sLaw) (defScope sLaw) .none kV28 dc28 pm28 an28 cd28 ct28, [(cc21, PT21), (cc22, PT22)], spLaw K [(PT21, lamQ "best_of"), (PT22, lamQ "worst_of")], ?_, ?_, ?_, fun s v => .of_eq rfl, ?_, fun base _ _ hB => ?_⟩
  · intro p hp
    simp only [List.mem_cons, List.not_mem_nil, or_false] at hp
    rcases hp with rfl | rfl
    · exact hT21
    · exact hT22
  · intro p hp
    simp only [List.mem_cons, List.not_mem_nil, or_false] at hp
    rcases hp with rfl | rfl
    · exact nT21
    · exact nT22
  · intro p hp
    simp only [List.mem_cons, List.not_mem_nil, or_false] at hp
    rcases hp with rfl | rfl
    · exact hC21
    · exact hC22
  · intro H a ns hl hH hS
    refine ⟨a, ns, rfl, hS, hl, fun p hp => ?_, fun _ => rfl⟩
    simp only [List.mem_cons, List.not_mem_nil, or_false] at hp
    rcases hp with rfl | rfl
    · exact LamX.TabS.nil (hH (cc21, PT21) (by simp))
    · exact LamX.TabS.nil (hH (cc22, PT22) (by simp))
  have TB_best_of : TabT [(PT21, lamQ "best_of"), (PT22, lamQ "worst_of")] base mg cc21 PT21 (lamQ "best_of") := ⟨hB (cc21, PT21) (by simp), by simp, by
    intro p hp e
    simp only [List.mem_cons, List.not_mem_nil, or_false] at hp
    rcases hp with rfl | rfl
    · rfl
    · exact absurd e (Ne.symm ne21_22)⟩
  have TB_worst_of : TabT [(PT21, lamQ "best_of"), (PT22, lamQ "worst_of")] base mg cc22 PT22 (lamQ "worst_of") := ⟨hB (cc22, PT22) (by simp), by simp, by
    intro p hp e
    simp only [List.mem_cons, List.not_mem_nil, or_false] at hp
    rcases hp with rfl | rfl
    · exact absurd e ne21_22
    · rfl⟩
  have g1 := ok_draw (P := l.prog) (w := w) (mg := mg) (base := base) (k := 0) F1 m_int
  have g2 := ok_pick (P := l.prog) (w := w) (mg := mg) (base := base) (k := 1) F2 (g1.mono (by decide)) b1 k1 m1 m_len
  have g3 := ok_heap (P := l.prog) (w := w) (mg := mg) (base := base) (k := 0) F3 m_int m_abs
  have g4 := ok_is_number (P := l.prog) (w := w) (mg := mg) (base := base) (k := 0) F4 m_isinstance m_int m_bool
  have g5 := ok_is_below (P := l.prog) (w := w) (mg := mg) (base := base) (k := 1) F5 (g4.mono (by decide)) b4 k4 m4
  have g6 := ok_is_tuple_of (P := l.prog) (w := w) (mg := mg) (base := base) (k := 0) F6 m_isinstance m_tuple m_len
  have g7 := ok_is_name (P := l.prog) (w := w) (mg := mg) (base := base) (k := 0) F7 m_isinstance m_str m_len m_all mi_MOST_LETTERS
  have g8 := ok_are_persons (P := l.prog) (w := w) (mg := mg) (base := base) (k := 2) F8 (g5.mono (by decide)) b5 k5 m5 m_isinstance m_tuple m_all
  have g9 := ok_are_unlike (P := l.prog) (w := w) (mg := mg) (base := base) (k := 3) F9 (g8.mono (by decide)) b8 k8 m8 m_len m_set
  have g10 := ok_ranks_of_list (P := l.prog) (w := w) (mg := mg) (base := base) (k := 0) F10 m_enumerate m_tuple
  have g11 := ok_ranks_of_lists (P := l.prog) (w := w) (mg := mg) (base := base) (k := 1) F11 (g10.mono (by decide)) b10 k10 m10 m_len m_tuple
  have g12 := ok_are_names (P := l.prog) (w := w) (mg := mg) (base := base) (k := 1) F12 (g7.mono (by decide)) b7 k7 m7 m_isinstance m_tuple m_len m_all m_range mi_MOST_PERSONS
  have g13 := ok_check_lists (P := l.prog) (w := w) (mg := mg) (base := base) (k := 4) F13 (g9.mono (by decide)) b9 k9 m9 m_enumerate m_len
  have g14 := ok_check_both (P := l.prog) (w := w) (mg := mg) (base := base) (k := 0) F14 m_enumerate
  have g15 := ok_winit (P := l.prog) (w := w) (mg := mg) (base := base) (k := 5) F15 T (g12.mono (by decide)) b12 k12 m12 (g6.mono (by decide)) b6 k6 m6 (g13.mono (by decide)) b13 k13 m13 (g11.mono (by decide)) b11 k11 m11 (g14.mono (by decide)) b14 k14 m14 m_len
  have g16 := ok_is_wished (P := l.prog) (w := w) (mg := mg) (base := base) (k := 0) F16 T
  have g17 := ok_rank_of (P := l.prog) (w := w) (mg := mg) (base := base) (k := 0) F17 T m_len
  have g18 := ok_ranks_in (P := l.prog) (w := w) (mg := mg) (base := base) (k := 0) F18 T
  have g19 := ok_mixed (P := l.prog) (w := w) (mg := mg) (base := base) (k := 1) F19 ⟨(g1.mono (by decide)), b1, k1, m1⟩ m_len m_range m_list
  have g20 := ok_would_rather (P := l.prog) (w := w) (mg := mg) (base := base) (k := 1) F20 ⟨(g17.mono (by decide)), b17, k17, m17⟩
  have g21 := ok_best_of (P := l.prog) (w := w) (mg := mg) (base := base) (k := 0) F21 rfl T TB_best_of m_min
  have g22 := ok_worst_of (P := l.prog) (w := w) (mg := mg) (base := base) (k := 0) F22 rfl T TB_worst_of m_max
  have g23 := ok_pairs_in (P := l.prog) (w := w) (mg := mg) (base := base) (k := 0) F23 T m_enumerate m_tuple m_sorted
  have g24 := ok_lists2 (P := l.prog) (w := w) (mg := mg) (base := base) (k := 2) F24 (g1.mono (by decide)) b1 k1 m1 (g19.mono (by decide)) b19 k19 m19 ⟨(g2.mono (by decide)), b2, k2, m2⟩ m_range m_tuple m_int
  have g25 := ok_names2 (P := l.prog) (w := w) (mg := mg) (base := base) (k := 2) F25 (g1.mono (by decide)) b1 k1 m1 (g2.mono (by decide)) b2 k2 m2 m_int m_len m_range m_sorted m_tuple
  have g26 := ok_lranks (P := l.prog) (w := w) (mg := mg) (base := base) (k := 0) F26 m_len m_range
  have g27 := ok_person_right (P := l.prog) (w := w) (mg := mg) (base := base) (k := 3) F27 T ⟨(g1.mono (by decide)), b1, k1, m1⟩ ⟨(g2.mono (by decide)), b2, k2, m2⟩ ⟨(g16.mono (by decide)), b16, k16, m16⟩ n16 ⟨(g17.mono (by decide)), b17, k17, m17⟩ n17 ⟨(g20.mono (by decide)), b20, k20, m20⟩ n20 ⟨(g21.mono (by decide)), b21, k21, m21⟩ n21 ⟨(g22.mono (by decide)), b22, k22, m22⟩ n22 m_len m_range m_list m_tuple m_repr m_min m_max
  exact ok_law (P := l.prog) (w := w) (mg := mg) (base := base) (k := 5) F28 T M (g15.mono (by decide)) b15 ⟨(g3.mono (by decide)), b3, k3, m3⟩ ⟨(g2.mono (by decide)), b2, k2, m2⟩ ⟨(g25.mono (by decide)), b25, k25, m25⟩ ⟨(g24.mono (by decide)), b24, k24, m24⟩ ⟨(g26.mono (by decide)), b26, k26, m26⟩ ⟨(g18.mono (by decide)), b18, k18, m18⟩ n18 ⟨(g27.mono (by decide)), b27, k27, m27⟩ ⟨(g23.mono (by decide)), b23, k23, m23⟩ n23 ⟨(g17.mono (by decide)), b17, k17, m17⟩ ⟨(g20.mono (by decide)), b20, k20, m20⟩ ⟨(g21.mono (by decide)), b21, k21, m21⟩ ⟨(g22.mono (by decide)), b22, k22, m22⟩ m_len m_int m_range m_tuple m_repr
end K14
open PySem PySem.W PyProof.Rows
set_option maxHeartbeats 0 in
theorem PySem.Challenge.cw_lastpairs_k02_whole_ranks_holds : PySem.Challenge.rw_lastpairs_k02_whole_ranks.Holds := by
  w_on; o_law; k_head; (case hw => w_witness2)
  k_fill
  refine K14.walkX (l := PySem.Challenge.rw_lastpairs_k02_whole_ranks) (n := 63) (k := 8) (CX := fun _ => L2.CX0) (x := "script") rfl (by decide) rfl ⟨rfl, by decide, by decide⟩ (fun w h Y => PySem.W.km_in_of Y) ?F ?C
  case C => intro w H s e s' z; exact z
  case F =>
    intro w mg fa h Y KX G hmg
    refine' K14.all_mk (PT21 := 173) (PT22 := 178) KX G hmg ?a1 ?l1 ?c1 ?k1 ?a2 ?l2 ?c2 ?k2 ?a3 ?l3 ?c3 ?k3 ?a4 ?l4 ?c4 ?k4 ?a5 ?l5 ?c5 ?k5 ?a6 ?l6 ?c6 ?k6 ?a7 ?l7 ?c7 ?k7 ?a8 ?l8 ?c8 ?k8 ?a9 ?l9 ?c9 ?k9 ?a10 ?l10 ?c10 ?k10 ?a11 ?l11 ?c11 ?k11 ?a12 ?l12 ?c12 ?k12 ?a13 ?l13 ?c13 ?k13 ?a14 ?l14 ?c14 ?k14 ?a15 ?i15 ?l15 ?c15 ?k15 ?a16 ?l16 ?c16 ?k16 ?a17 ?l17 ?c17 ?k17 ?a18 ?l18 ?c18 ?k18 ?a19 ?l19 ?c19 ?k19 ?a20 ?l20 ?c20 ?k20 ?a21 ?l21 ?c21 ?k21 ?a22 ?l22 ?c22 ?k22 ?a23 ?l23 ?c23 ?k23 ?a24 ?l24 ?c24 ?k24 ?a25 ?l25 ?c25 ?k25 ?a26 ?l26 ?c26 ?k26 ?a27 ?l27 ?c27 ?k27 ?a28 ?l28 ?c28 ?k28 ?aC ?pg ?hd ?po ?sa ?mk ?kc ?nA0 ?nA1 ?nA2 ?z_int ?z_len ?z_abs ?z_isinstance ?z_bool ?z_tuple ?z_str ?z_all ?z_set ?z_enumerate ?z_range ?z_list ?z_min ?z_max ?z_sorted ?z_repr ?zi_MOST_LETTERS ?zi_MOST_PERSONS ?hT21 ?nT21 ?hC21 ?hT22 ?nT22 ?hC22 ?ne21_22
    (case aC => k_is); (case a1 => k_is); (case l1 => k_is); (case c1 => k_is); (case k1 => k_is); (case a2 => k_is); (case l2 => k_is); (case c2 => k_is); (case k2 => k_is); (case a3 => k_is); (case l3 => k_is); (case c3 => k_is); (case k3 => k_is); (case a4 => k_is); (case l4 => k_is); (case c4 => k_is); (case k4 => k_is); (case a5 => k_is); (case l5 => k_is); (case c5 => k_is); (case k5 => k_is); (case a6 => k_is); (case l6 => k_is); (case c6 => k_is); (case k6 => k_is); (case a7 => k_is); (case l7 => k_is); (case c7 => k_is); (case k7 => k_is); (case a8 => k_is); (case l8 => k_is); (case c8 => k_is); (case k8 => k_is); (case a9 => k_is); (case l9 => k_is); (case c9 => k_is); (case k9 => k_is); (case a10 => k_is); (case l10 => k_is); (case c10 => k_is); (case k10 => k_is); (case a11 => k_is); (case l11 => k_is); (case c11 => k_is); (case k11 => k_is); (case a12 => k_is); (case l12 => k_is); (case c12 => k_is); (case k12 => k_is); (case a13 => k_is); (case l13 => k_is); (case c13 => k_is); (case k13 => k_is); (case a14 => k_is); (case l14 => k_is); (case c14 => k_is); (case k14 => k_is); (case a15 => k_is); (case i15 => k_is); (case l15 => k_is); (case c15 => k_is); (case k15 => k_is); (case a16 => k_is); (case l16 => k_is); (case c16 => k_is); (case k16 => k_is); (case a17 => k_is); (case l17 => k_is); (case c17 => k_is); (case k17 => k_is); (case a18 => k_is); (case l18 => k_is); (case c18 => k_is); (case k18 => k_is); (case a19 => k_is); (case l19 => k_is); (case c19 => k_is); (case k19 => k_is); (case a20 => k_is); (case l20 => k_is); (case c20 => k_is); (case k20 => k_is); (case a21 => k_is); (case l21 => k_is); (case c21 => k_is); (case k21 => k_is); (case a22 => k_is); (case l22 => k_is); (case c22 => k_is); (case k22 => k_is); (case a23 => k_is); (case l23 => k_is); (case c23 => k_is); (case k23 => k_is); (case a24 => k_is); (case l24 => k_is); (case c24 => k_is); (case k24 => k_is); (case a25 => k_is); (case l25 => k_is); (case c25 => k_is); (case k25 => k_is); (case a26 => k_is); (case l26 => k_is); (case c26 => k_is); (case k26 => k_is); (case a27 => k_is); (case l27 => k_is); (case c27 => k_is); (case k27 => k_is); (case a28 => k_is); (case l28 => k_is); (case c28 => k_is); (case k28 => k_is); (case pg => k_is); (case hd => k_is); (case po => k_is); (case sa => k_is); (case mk => k_is); (case kc => k_is); (case nA0 => k_is); (case nA1 => k_is); (case nA2 => k_is); (case z_int => k_is); (case z_len => k_is); (case z_abs => k_is); (case z_isinstance => k_is); (case z_bool => k_is); (case z_tuple => k_is); (case z_str => k_is); (case z_all => k_is); (case z_set => k_is); (case z_enumerate => k_is); (case z_range => k_is); (case z_list => k_is); (case z_min => k_is); (case z_max => k_is); (case z_sorted => k_is); (case z_repr => k_is); (case zi_MOST_LETTERS => k_is); (case zi_MOST_PERSONS => k_is)
    case hT21 => exact PySem.W.km_tabs_of Y 173 (by decide)
    case nT21 => first | k_is | kernel_rfl
    case hC21 => exact PySem.W.codeHd_of_K KX (by kernel_rfl)
    case hT22 => exact PySem.W.km_tabs_of Y 178 (by decide)
    case nT22 => first | k_is | kernel_rfl
    case hC22 => exact PySem.W.codeHd_of_K KX (by kernel_rfl)
    case ne21_22 => decide
