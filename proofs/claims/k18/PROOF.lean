import PyProof.Rows.All
import Wide.All
import OpenK.AllK
import Wide.FinOn
import HandS.ForMost
import HandS.Style
import HandS.Codes
import PyProof.StrOps2
import HandS.Walk
import KE.GoesEnum
import HandS.SetFor
import HandS.IsInst
import HandS.Strs
import HandS.TupAny
import HandS.Zip
import HandS.OwnEq
import PyProof.ReprRoads
import PyProof.CallFns
import HandS.FStrTup
import HandS.TupMul
import HandS.Conv
import HandS.SortRule
import HandS.Deep
import HandS.Dict
import HandS.Small
import PySem.Challenge.RW_lastpairs_k18_whole_best_for_a_side
set_option Elab.async false
set_option linter.all false
set_option maxRecDepth 100000
namespace K14
open PySem PySem.Spec PyProof.Rows L2
def topS (i : Nat) : Stmt := PySem.Challenge.pw_lastpairs_k18_whole_best_for_a_side.main.body.getD i (.Pass ⟨0, 0, 0, 0⟩)
abbrev sIsNumber : Stmt := topS 5
abbrev sIsBelow : Stmt := topS 6
abbrev sIsName : Stmt := topS 7
abbrev sIsTupleOf : Stmt := topS 8
abbrev sArePersons : Stmt := topS 9
abbrev sAreUnlike : Stmt := topS 10
abbrev sWishes : Stmt := topS 13
abbrev sWInit : Stmt := inClass sWishes 0
abbrev sWEq : Stmt := inClass sWishes 1
abbrev sAreNames : Stmt := topS 14
abbrev sCheckLists : Stmt := topS 15
abbrev sCheckBoth : Stmt := topS 16
abbrev sRanksOfLists : Stmt := topS 17
abbrev sRanksOfList : Stmt := topS 18
abbrev sRankOf : Stmt := topS 19
abbrev sRanksIn : Stmt := topS 20
abbrev sHeldRanks : Stmt := topS 22
abbrev sLeftLists : Stmt := topS 23
abbrev sLeftList : Stmt := topS 24
abbrev sFirstLeft : Stmt := topS 25
abbrev sNoHolds : Stmt := topS 27
abbrev sAskedOut : Stmt := topS 28
abbrev sEndsLeft : Stmt := topS 30
abbrev sPairOf : Stmt := topS 32
abbrev sSidePairing : Stmt := topS 34
abbrev sHeap : Stmt := topS 36
abbrev sDraw : Stmt := topS 37
abbrev sPick : Stmt := topS 38
abbrev sShuffled : Stmt := topS 39
abbrev sNames : Stmt := topS 40
abbrev sLists : Stmt := topS 41
abbrev sRank : Stmt := topS 42
abbrev sLeft : Stmt := topS 43
abbrev sLBetween : Stmt := topS 44
abbrev sLPairings : Stmt := topS 45
abbrev sLLasts : Stmt := topS 46
abbrev sLLadder : Stmt := topS 47
abbrev sLSideRight : Stmt := topS 48
abbrev sGreatRight : Stmt := topS 49
abbrev sLaw : Stmt := topS 50
end K14
/-! enumerate of a tuple -/
namespace K14
open PySem PySem.Spec PyProof.Rows L2
abbrev enObj (n : Nat) : Obj := { cls := .type "enumerate", data := .fields #[.none, .bool false, .ref n, rawInt 0, .none, .none] }
set_option maxHeartbeats 1000000 in
theorem enum_make {v : Value} {o : Obj} {H : Heap → Prop} (B : Begins v o H) :
    Meets (Builtin.«enumerate.__new__» ⟨[.type "enumerate", v], []⟩) (fun _ R s => H s.heap ∧ R (.ok (.ret (.ref (s.heap.push o).objs.size))) { s with heap := (s.heap.push o).push (enObj s.heap.objs.size) }) :=
  .of_wp fun prog w A R s h => by
    obtain ⟨hp, gg, dd, tk, os⟩ := s
    obtain ⟨h1, h⟩ := h
    have isSub := sub_enumerate
    have goIt : ∀ {A' : Around} {E Q : Value → Shared → Prop}, Q (.ref hp.objs.size) ⟨hp.push o, gg, dd, tk, os⟩ → wpAny (model prog w) A' (pyIter v) Q E ⟨hp, gg, dd, tk, os⟩ := fun q => B.iter prog w _ _ ⟨hp, gg, dd, tk, os⟩ _ h1 q
    wp_walk using goIt
    refine wpAny_stack_any fun st => wpAny_pure ?_
    split
    · rename_i c _ _ _ _ _
      cases (c == Value.type "enumerate") <;> (wp_walk using goIt; exact ⟨_, rfl, h⟩)
    · wp_walk using goIt
      exact ⟨_, rfl, h⟩
section
variable {prog : Program} {w : World} {A : Around} {E : Value → Shared → Prop} {s : Shared}
theorem enum_call {v : Value} {o : Obj} {H : Heap → Prop} {Q : Value → Shared → Prop} (B : Begins v o H) (h1 : H s.heap)
    (h : ∀ h', IsEnum h' (s.heap.objs.size + 1) s.heap.objs.size 0 .none → h'.get? s.heap.objs.size = some o → (∀ b u, s.heap.get? b = some u → h'.get? b = some u) → Q (.ref (s.heap.objs.size + 1)) { s with heap := h' }) :
    wpAny (model prog w) A (call (.type "enumerate") [v]) Q E s := by
  refine callType_new F.called_enumerate (by decide) (F.typeCall_enumerate_1 _) (F.newCall_enumerate_1 _) (fun ob => F.args_object_init_2 ob _) F.entry_enumerate_new (enum_make B) ⟨h1, ?_⟩
  have sz : (s.heap.push o).objs.size = s.heap.objs.size + 1 := Heap.size_push ..
  show _ ∧ _
  rw [sz]
  have en : IsEnum ((s.heap.push o).push (enObj s.heap.objs.size)) (s.heap.objs.size + 1) s.heap.objs.size 0 .none := by
    have z := Heap.get?_push_size (s.heap.push o) (o := enObj s.heap.objs.size) rfl
    rw [sz] at z
    exact z
  exact ⟨⟨_, en, rfl⟩, h _ en (Heap.get?_push_of_some _ (Heap.get?_push_size _ B.free)) fun b u x => Heap.get?_push_of_some _ (Heap.get?_push_of_some _ x)⟩
end
/-- the tuple at a as it stands, each item in a new pair with its place -/
def IteT (K : PySem.W.Frag) (a : Addr) : It where
  go := fun i H => ∃ (xs : List V) (x : V), SqT K H a xs ∧ xs[i]? = some x
  yld := fun i H v H' => ∃ T x, v = .ref T ∧ H T = none ∧ H' = upd H T (.tup [.int (i : Nat), x]) ∧ ∀ xs, SqT K H a xs → xs[i]? = some x
  stop := fun i H => ∃ xs : List V, SqT K H a xs ∧ xs.length = i
theorem turn_enumT {P : Program} {w : World} {K : PySem.W.Frag} {elts : List Expr} {kk : Nat} {tpos : Pos} (a e it : Addr) (hai : a ≠ it) (hae : a ≠ e) :
    Turn P w K (.Tuple elts kk tpos) (IteT K a) [e, it] e (fun i h => (∃ old, IsEnum h e it ((i : Nat) : Int) old) ∧ h.IsTupleIter it a i ∧ e ≠ it) where
  mem := by simp
  obj := fun i h st b hb => by
    obtain ⟨⟨old, he⟩, ⟨o, ho, hc, hd⟩, _⟩ := st
    rcases (show b = e ∨ b = it by simpa using hb) with z | z <;> subst z
    · exact ⟨_, he, fun v q => nomatch q⟩
    · exact ⟨o, ho, fun v q => (by rw [hd] at q; cases q)⟩
  keep := fun i h h' st k => by
    obtain ⟨⟨old, he⟩, hi, hne⟩ := st
    exact ⟨⟨old, k e (by simp) _ he⟩, hi.at fun o q => k it (by simp) o q, hne⟩
  item := by
    intro X hP hw hK hc i pins s σ H E I hf st hg
    subst hP hw hK
    obtain ⟨⟨old, he⟩, hit, hne⟩ := st
    obtain ⟨xs, x, hq, hx⟩ := hg
    obtain ⟨its, rv, p, _⟩ := I.tuple hq
    obtain ⟨u, hu, ru⟩ := rv.get hx
    have hel : e < s.heap.objs.size := Heap.lt_size he
    have hil : it < s.heap.objs.size := by obtain ⟨_, q, _⟩ := hit; exact Heap.lt_size q
    have hat : a ≠ e ∧ a ≠ it := ⟨hae, hai⟩
    have hiz : i < its.toArray.size := by
      have := (List.getElem?_eq_some_iff.mp hu).1
      simpa using this
    refine wpAny_pyNext_enum_itemC (fp := [it, a]) (Draws.tuple (A := X.A.in1) (by rw [show X.A.in1.handled = X.A.handled from rfl]; exact I.ok.hd hc) it a hai its.toArray) he ⟨hit, p⟩ hiz hne (by simp; exact ⟨hne, Ne.symm hae⟩) fun x' h' tk hP' ho st' hT hsz hk => ?_
    have ex : x' = u := by
      have h1 : its[i]? = some x' := by simpa using hP'
      rw [hu] at h1
      exact (Option.some.inj h1).symm
    subst ex
    refine ⟨_, rfl, wpAny_letOwnedTupleGo_enum (s := { s with heap := h', toks := tk + 1 }) ho fun h2 he2 sb => ?_⟩
    have back : ∀ b, b ≠ e → h2.get? b = h'.get? b := fun b nb => sb.2 b nb
    have nTe : s.heap.objs.size ≠ e := Nat.ne_of_gt hel
    have isT : h2.get? s.heap.objs.size = some { cls := .type "tuple", data := .seq #[.int i tk, x'] } := (back _ nTe).trans hT
    have new : ObjOk X.prog X.w (upd H s.heap.objs.size (.tup [.int (i : Nat), x])) h2 s.heap.objs.size (.tup [.int (i : Nat), x]) :=
      ⟨(by show 2 ≤ sizeLine; decide), [.int i tk, x'], .cons ⟨_, rfl⟩ (.cons ru .nil), ⟨_, isT, rfl, _, rfl⟩⟩
    have kept : ∀ b ob, b ∉ [e, it] → s.heap.get? b = some ob → h2.get? b = some ob := fun b ob hb q => by
      have n1 : b ≠ e := fun z => hb (by rw [z]; simp)
      have n2 : b ≠ it := fun z => hb (by rw [z]; simp)
      exact (back b n1).trans (hk b ob n1 n2 q)
    have I1 : Inv X pins σ (upd H s.heap.objs.size (.tup [.int (i : Nat), x])) { s with heap := h2, toks := tk + 1 } := I.turnedNew (ch := [e, it]) kept hf (Nat.le_refl _) new
    refine ⟨.ref s.heap.objs.size, _, I1, rfl, ⟨_, x, rfl, I.hok.fresh (Nat.le_refl _), rfl, fun ys hy => by rw [I.tuple_inj hy hq]; exact hx⟩, ⟨⟨_, he2⟩, st'.1.at fun o q => (back it (Ne.symm hne)).trans q, hne⟩, fun b hb => ?_⟩
    have lt : b < s.heap.objs.size := by
      rcases (show b = e ∨ b = it by simpa using hb) with z | z <;> subst z
      · exact hel
      · exact hil
    rw [upd_ne (Nat.ne_of_lt lt)]
    exact (hf b hb).1
  done := by
    intro X hP hw hK hc i pins s σ H E I hf st hg
    subst hP hw hK
    obtain ⟨⟨old, he⟩, hit, hne⟩ := st
    obtain ⟨xs, hq, hx⟩ := hg
    obtain ⟨its, rv, p, _⟩ := I.tuple hq
    obtain ⟨f0, f1, f2, f3, f4, f5⟩ := hf it (by simp)
    have hl := rv.length
    have iz : i = its.toArray.size := by simp; omega
    subst iz
    refine wpAny_pyNext_enum_endD (fp := [it, a]) (Draws.tuple (A := X.A.in1) (by rw [show X.A.in1.handled = X.A.handled from rfl]; exact I.ok.hd hc) it a hai its.toArray) he ⟨hit, p⟩ fun h' eb => ⟨rfl, I.turned (t' := s.toks) (fun b o hb q => eb b o hb q) f0 f1 f3 f4 f5⟩
  self := fun A i s Q E st h => by
    obtain ⟨⟨_, he⟩, _⟩ := st
    exact wpAny_pyIter_enum he h
def iEnumT (K : PySem.W.Frag) (ta : TA) : TI := fun σ H R => ta σ H fun vs H1 => ∃ a xs, vs = [.ref a] ∧ SqT K H1 a xs ∧ R (IteT K a) H1
theorem pi_enumT {X : Cx} {e : Expr} {ta : TA} {p pos tpos : Pos} {elts : List Expr} {kk : Nat} (hg : Gl X "enumerate") (hm : X.mg "enumerate" = none) (ha : PA X [e] ta) (hs : starEach [e] X.env = [(false, eval e X.env)] := by rfl) : PI X (.Tuple elts kk tpos) (.Call (.Name "enumerate" p) [e] [] pos) (iEnumT X.K ta) := by
  refine ⟨fun pins s σ H R I h => ?_⟩
  refine Call_ (ld_blt I hg hm boot_enumerate (PyProof.Rows.callWith_type1 (thn (ha.run pos pins s σ H _ I h) fun us s1 ⟨vs, H1, I1, r1, q1⟩ => ?_) hs rfl))
  obtain ⟨a, xs, ex, hq, q⟩ := q1
  subst ex
  cases r1 with
  | cons r rr =>
    cases rr
    cases r
    obtain ⟨its, rv, pt, _⟩ := I1.tuple hq
    have la : a < s1.heap.objs.size := by obtain ⟨_, z, _⟩ := pt; exact Heap.lt_size z
    refine enum_call (begins_tuple a its.toArray) pt fun h' he hit hk => wpAny_pyIter_enum he ?_
    have I2 : Inv X pins σ H1 { s1 with heap := h' } := I1.kept (t' := s1.toks) hk
    refine ⟨s1.heap.objs.size + 1, [s1.heap.objs.size + 1, s1.heap.objs.size], _, _, H1, rfl, I2, turn_enumT a (s1.heap.objs.size + 1) s1.heap.objs.size (Nat.ne_of_lt la) (Nat.ne_of_lt (Nat.lt_succ_of_lt la)), ⟨⟨.none, he⟩, ⟨_, hit, rfl, rfl⟩, Nat.succ_ne_self _⟩, fun b hb => ?_, q⟩
    have le : s1.heap.objs.size ≤ b := by
      rcases (show b = s1.heap.objs.size + 1 ∨ b = s1.heap.objs.size by simpa using hb) with z | z <;> rw [z]
      · exact Nat.le_succ _
      · exact Nat.le_refl _
    exact I1.fpOk le (I1.hok.fresh le)
theorem walk_enumT {K : PySem.W.Frag} {a : Addr} {xs : List V} : Walk (IteT K a) xs.length (fun H => SqT K H a xs) (YPair (fun i => some (.int (i : Nat))) (fun i => xs[i]?)) where
  goes := fun i H hi q => ⟨xs, xs[i], q, List.getElem?_eq_getElem hi⟩
  stops := fun H q => ⟨xs, q, rfl⟩
  yields := fun i H v H' _ q y => by
    obtain ⟨T, x, h1, h2, h3, h4⟩ := y
    exact ⟨T, _, x, h1, h2, h3, rfl, h4 xs q⟩
end K14
/-! len(set(t)) of a tuple of unlike numbers; isinstance of plain values -/
namespace K14
open PySem PySem.Spec PyProof.Rows L2
def tLenSetT (K : PySem.W.Frag) (ta : TE) : TE := fun σ H Q => ta σ H fun x H1 => ∃ (l : Addr) (ns : List Int), x = .ref l ∧ SqT K H1 l (ns.map V.int) ∧ ns.Nodup ∧ ns.length ≤ 1000 ∧ Q (.int (ns.length : Nat)) H1
theorem pe_lenSetT {X : Cx} {a : Expr} {ta : TE} {p p2 q pos : Pos} (hg : Gl X "len") (hm : X.mg "len" = none) (hg2 : Gl X "set") (hm2 : X.mg "set" = none) (ha : PE X a ta) (hc : X.calm = true := by rfl)
    (na : starEach [a] X.env = (false, eval a X.env) :: starEach [] X.env := by rfl) : PE X (.Call (.Name "len" p) [.Call (.Name "set" p2) [a] [] q] [] pos) (tLenSetT X.K ta) := by
  refine ⟨fun pins s σ H Q I h => Call_ (ld_blt I hg hm boot_len (PyProof.Rows.callWith_builtin1 (PyProof.Rows.args_cons (Call_ (ld_blt I hg2 hm2 PyProof.Rows.boot_set ?_)) rfl) rfl rfl))⟩
  refine PyProof.Rows.callWith_type1 (PyProof.Rows.args_cons (thn (ha.run pins s σ H _ I h) fun v s1 ⟨x, H1, I1, r1, q1⟩ => PyProof.Rows.args_nil ?_) na) na rfl
  obtain ⟨l, ns, rfl, hq, nd, le, q1⟩ := q1
  cases r1
  obtain ⟨its, rv, pt, _⟩ := I1.tuple hq
  have his : IntsAre its.toArray.toList ns := ints_of_vals rv
  refine call_set_tupI ns (I1.ok.hd hc) (show s1.heap.IsTuple l its.toArray from pt) his (by unfold scanBound; omega) fun h' tk c R1 hcn k => PyProof.Rows.args_nil ?_
  obtain ⟨o, es, ep, t, ho, hex, hdt, g, nd2, mem, hb, hf, hn, hr, hl2⟩ := R1
  have I2 : Inv X pins σ H1 { s1 with heap := h', toks := tk } := I1.kept fun b o e => k b o e
  have pm : (es.toList.map keyOf).Perm ns := by
    refine (List.perm_ext_iff_of_nodup nd2 nd).mpr fun j => ?_
    rw [← mem j, decide_eq_true_eq]
  have sz : es.size = ns.length := by
    have := pm.length_eq
    rw [List.length_map, Array.length_toList] at this
    exact this
  exact call_len_set ho hex hdt hf (by rw [sz]; omega) ⟨.int ns.length, H1, I2.tok _, ⟨_, by rw [sz]⟩, q1⟩
end K14
namespace K14
open PySem PySem.Spec PyProof.Rows L2
theorem same_upd {H : Hp} {p : Addr} {o : HO} (h : H p = none) : Same H (upd H p o) := fun b x e => by
  rw [upd_ne (ne_of_none e h)]
  exact e

/-! ### the source of draws: a list of a list of great numbers and of a number -/
structure Src (H : Hp) (h l : Addr) : Prop where
  ex : ∃ (cs : List Int) (z : Int), H h = some (.lst [.ref l, .int z]) ∧ H l = some (.lst (cs.map V.int)) ∧ (∀ c ∈ cs, 0 ≤ c) ∧ cs.length ≤ 60 ∧ 0 ≤ z ∧ z < 2147483648
/-- all but the source stands -/
def Bar (h l : Addr) (H H' : Hp) : Prop := ∀ b o, b ≠ h → b ≠ l → H b = some o → H' b = some o
theorem Bar.refl {h l : Addr} {H : Hp} : Bar h l H H := fun _ _ _ _ e => e
theorem Bar.trans {h l : Addr} {H H1 H2 : Hp} (a : Bar h l H H1) (b : Bar h l H1 H2) : Bar h l H H2 := fun c o n1 n2 e => b c o n1 n2 (a c o n1 n2 e)
theorem Bar.same {h l : Addr} {H H' : Hp} (a : Same H H') : Bar h l H H' := fun c o _ _ e => a c o e
theorem Bar.upd_h {h l : Addr} {H : Hp} {o : HO} : Bar h l H (upd H h o) := fun c u n1 _ e => by rw [upd_ne n1]; exact e
theorem Bar.upd_l {h l : Addr} {H : Hp} {o : HO} : Bar h l H (upd H l o) := fun c u _ n2 e => by rw [upd_ne n2]; exact e
theorem src_ne {H : Hp} {h l : Addr} {cs : List Int} {z : Int} (a : H h = some (.lst [.ref l, .int z])) (b : H l = some (.lst (cs.map V.int))) : h ≠ l := by
  intro e
  rw [e, b] at a
  cases cs with
  | nil => cases a
  | cons c r => cases a
theorem Src.same {H H' : Hp} {h l : Addr} (s : Src H h l) (e : Same H H') : Src H' h l := by
  obtain ⟨cs, z, a, b, r⟩ := s.ex
  exact ⟨cs, z, e _ _ a, e _ _ b, r⟩
theorem Src.ne {H : Hp} {h l p : Addr} {o : HO} (s : Src H h l) (e : H p = some o) (n : ∀ xs, o ≠ .lst xs) : p ≠ h ∧ p ≠ l := by
  obtain ⟨cs, z, a, b, r⟩ := s.ex
  exact ⟨fun q => by rw [q, a] at e; cases e; exact n _ rfl, fun q => by rw [q, b] at e; cases e; exact n _ rfl⟩

/-- a while by its invariant and by what stands behind it -/
theorem tw {c : TT} {tb : TS} {D : Ends} {σ : L2.St} {H : Hp} (W : Nat → L2.St → Hp → Prop) (Y : L2.St → Hp → Prop) {m0 : Nat} (h0 : W m0 σ H) (out : ∀ σ H, Y σ H → D.nx σ H)
    (turn : (∀ σ H, Y σ H → D.nx σ H) → ∀ m σ H, W m σ H → c σ H fun b H1 => if b = true then ∃ N : L2.St → Hp → Prop, (∀ σ' H', N σ' H' → ∃ m', m' < m ∧ W m' σ' H') ∧ tb { D with nx := N, ct := N, bk := D.nx } σ H1 else D.nx σ H1) :
    tWhile c tb D σ H := ⟨W, ⟨m0, h0⟩, turn out⟩
theorem list_end {α : Type} (xs : List α) : xs = [] ∨ ∃ ys y, xs = ys ++ [y] := by
  rcases List.eq_nil_or_concat xs with h | ⟨ys, y, h⟩
  · exact .inl h
  · exact .inr ⟨ys, y, by rw [h]; simp⟩
def spDraw : Sp := fun vs H Q _ => ∃ (h l : Addr) (many : Int), vs = [.ref h, .int many] ∧ Src H h l ∧ 0 < many ∧ many < 1073741824 ∧
  ∀ (k : Int) (H' : Hp), 0 ≤ k → k < many → Src H' h l → Bar h l H H' → Q (.int k) H'

theorem dp_ints {K : PySem.W.Frag} {H : Hp} : ∀ cs : List Int, DpAll K H (cs.map V.int) (cs.map PyData.int)
  | [] => .nil
  | c :: r => .cons (.int c) (dp_ints r)
theorem shaped_ints (cs : List Int) : SeqAt.shaped (.list (cs.map PyData.int)) = true := by
  have h1 : ∀ cs : List Int, PyData.canLayAll0 (cs.map PyData.int) = true := by
    intro cs
    induction cs with
    | nil => rfl
    | cons c r ih => simp only [List.map_cons, PyData.canLayAll0, PyData.canLay0, ih, Bool.and_self]
  have h2 : ∀ cs : List Int, PyData.depthAll (cs.map PyData.int) ≤ 1 := by
    intro cs
    induction cs with
    | nil => simp [PyData.depthAll]
    | cons c r ih => simp only [List.map_cons, PyData.depthAll, PyData.depth]; omega
  have h3 := h2 cs
  have h4 : PyData.depth (.list (cs.map PyData.int)) ≤ 64 := by
    simp only [PyData.depth]
    omega
  have h5 : PyData.canLay0 (.list (cs.map PyData.int)) = true := by
    simp only [PyData.canLay0, h1]
  show (PyData.canLay0 (.list (cs.map PyData.int)) && decide (PyData.depth (.list (cs.map PyData.int)) ≤ 64)) = true
  rw [h5, decide_eq_true h4]
  rfl
theorem eqv_nil : ∀ cs : List Int, PyData.eqv (.list (cs.map PyData.int)) (.list []) = cs.isEmpty
  | [] => by decide
  | c :: r => by simp [PyData.eqv, PyData.eqvAll]
theorem scDraw : FnScope ["heap", "many", "rest"] ["heap", "many"] (defScope sDraw) := ⟨rfl, rfl, rfl, by decide +kernel, rfl, by decide +kernel, by decide +kernel⟩
section
variable {P : Program} {w : World} {K : PySem.W.Frag} {mg : Str → Option Value} {base : Heap}
theorem ok_draw {f : Addr} {fd : FuncData} {k : Nat} (F : Fun K "_law_draw" "_law_draw" sDraw f fd) (mi : mg "int" = none) : FnOk P w K mg base CX0 (k + 1) f fd ["heap", "many"] spDraw := by
  refine F.ok scDraw (fun vs H Q E h => ?_) (fun cdv A outer s H vs Q E hr h => ?_)
  · obtain ⟨h, l, many, rfl, _⟩ := h
    rfl
  · obtain ⟨h, l, many, rfl, src, m0, m1, q⟩ := h
    refine ⟨_, pss_cons (ps_while PassesOwn.never (PW.pt (pw_and (pt_cmpR (op_neD hr.units) (pe_ix ix_list (pv 0) pe_int (fun _ _ => rfl)) (pe_lst pa_nil) (nomark _)) (pw_and1 (pt_cmpR op_eq (pe_ix ix_list (pe_ix ix_list (pv 0) pe_int (fun _ _ => rfl)) (pe_un un_neg pe_int) (fun _ _ => rfl)) pe_int (nomark _)))))
        (pss_one (ps_expr (pe_bm0 PySem.F.plainAttrs_list PySem.F.slot_list_pop PySem.F.type_list_pop mt_pop (pe_ix ix_list (pv 0) pe_int (fun _ _ => rfl))))))
      (pss_cons (ps_if (pt_cmpR (op_neD hr.units) (pe_ix ix_list (pv 0) pe_int (fun _ _ => rfl)) (pe_lst pa_nil) (nomark _))
        (pss_cons (ps_set (i := 2) scDraw.nd rfl (.inl rfl) (pe_bm0 PySem.F.plainAttrs_list PySem.F.slot_list_pop PySem.F.type_list_pop mt_pop (pe_ix ix_list (pv 0) pe_int (fun _ _ => rfl))))
        (pss_cons (ps_expr (pe_bm PySem.F.plainAttrs_list PySem.F.slot_list_append PySem.F.type_list_append mt_append (pe_ix ix_list (pv 0) pe_int (fun _ _ => rfl)) (pa_cons (pe_op op_fdivN (pv 2) (pv 1)) pa_nil)))
        (pss_one (ps_ret (pe_op op_mod (pe_callTy call_int1 (by rfl) mi (by decide +kernel) (pa_cons (pv 2) pa_nil)) (pv 1)))))) pss_nil)
      (pss_cons (ps_asg (pe_op op_mod (pe_callTy call_int1 (by rfl) mi (by decide +kernel) (pa_cons (pe_op op_add (pe_op op_mul (pe_ix ix_list (pv 0) pe_int (fun _ _ => rfl)) pe_int) pe_int) pa_nil)) pe_int) (pg_sub (pv 0) pe_int set_list))
      (pss_one (ps_ret (pe_op op_mod (pe_callTy call_int1 (by rfl) mi (by decide +kernel) (pa_cons (pe_op op_fdivN (pe_ix ix_list (pv 0) pe_int (fun _ _ => rfl)) pe_int) pa_nil)) (pv 1)))))), ?_⟩
    obtain ⟨cs0, z0, a0, b0, p0, n0, y0, y1⟩ := src.ex
    refine tw (fun m σ H' => σ = [some (.ref h), some (.int many), none] ∧ ∃ (cs : List Int) (z : Int), H' h = some (.lst [.ref l, .int z]) ∧ H' l = some (.lst (cs.map V.int)) ∧ (∀ c ∈ cs, 0 ≤ c) ∧ cs.length ≤ 60 ∧ 0 ≤ z ∧ z < 2147483648 ∧ Bar h l H H' ∧ m = cs.length)
      (fun σ H' => σ = [some (.ref h), some (.int many), none] ∧ ∃ (cs : List Int) (z : Int), H' h = some (.lst [.ref l, .int z]) ∧ H' l = some (.lst (cs.map V.int)) ∧ (∀ c ∈ cs, 0 ≤ c) ∧ cs.length ≤ 60 ∧ 0 ≤ z ∧ z < 2147483648 ∧ Bar h l H H')
      ⟨rfl, cs0, z0, a0, b0, p0, n0, y0, y1, Bar.refl, rfl⟩ ?_ (fun out => ?_)
    · -- behind the loop
      rintro σ H1 ⟨rfl, cs, z, eh, el, pos, len, z1, z2, bar⟩
      have nhl := src_ne eh el
      refine ⟨_, rfl, h, _, 0, .ref l, rfl, rfl, SqL.of eh, atI_nat (j := 0) rfl, Nat.zero_le _, fun p hp => ?_⟩
      have nph : h ≠ p := ne_of_none eh hp
      have npl : l ≠ p := ne_of_none el hp
      have eh1 : (upd H1 p (.lst [])) h = some (.lst [.ref l, .int z]) := by rw [upd_ne nph]; exact eh
      have el1 : (upd H1 p (.lst [])) l = some (.lst (cs.map V.int)) := by rw [upd_ne npl]; exact el
      have bar1 : Bar h l H (upd H1 p (.lst [])) := bar.trans (.same (same_upd hp))
      refine ⟨.list (cs.map PyData.int), .list [], .lst (SqL.of el1) (dp_ints cs), .lst (SqL.of upd_same) .nil, shaped_ints cs, by decide, _, rfl, ?_⟩
      rw [eqv_nil]
      generalize upd H1 p (.lst []) = H2 at eh1 el1 bar1
      rcases list_end cs with rfl | ⟨ds, c, rfl⟩
      · -- no great number is left
        refine iteF ?_
        refine ⟨_, rfl, h, _, 1, .int z, rfl, rfl, SqL.of eh1, atI_nat (j := 1) rfl, _, _, rfl, rfl, .inl ⟨by omega, by omega⟩, _, _, rfl, rfl, .inl ⟨_, rfl, _, _, rfl, rfl, (show (0 : Int) < 2147483647 by decide), _, rfl, h, _, 1, 1, rfl, rfl, eh1, rfl, ?_⟩⟩
        have w0 : 0 ≤ (z * 48271 + 17) % 2147483647 := Int.emod_nonneg _ (by decide)
        have w1 : (z * 48271 + 17) % 2147483647 < 2147483647 := Int.emod_lt_of_pos _ (by decide)
        have eh2 : (upd H2 h (.lst ([V.ref l, .int z].set 1 (.int ((z * 48271 + 17) % 2147483647))))) h = some (.lst [.ref l, .int ((z * 48271 + 17) % 2147483647)]) := upd_same
        refine ⟨_, rfl, h, _, 1, .int ((z * 48271 + 17) % 2147483647), rfl, rfl, SqL.of eh2, atI_nat (j := 1) rfl, _, _, rfl, rfl, ⟨by decide, by decide⟩, .inl ⟨_, rfl, _, rfl, _, _, rfl, rfl, m0, ?_⟩⟩
        refine q _ _ (Int.emod_nonneg _ (by omega)) (Int.emod_lt_of_pos _ m0) ⟨[], _, eh2, ?_, by simp, by simp, w0, by omega⟩ (bar1.trans .upd_h)
        rw [upd_ne (Ne.symm nhl)]
        exact el1
      · have e1 : ((ds ++ [c]).isEmpty) = false := by simp
        rw [e1]
        refine iteT ?_
        have e2 : (ds ++ [c]).map V.int = ds.map V.int ++ [.int c] := by simp
        rw [e2] at el1
        have c0 : 0 ≤ c := pos c (by simp)
        refine ⟨_, rfl, h, _, 0, .ref l, rfl, rfl, SqL.of eh1, atI_nat (j := 0) rfl, .inl ⟨rfl, _, SqL.of el1⟩, l, _, .int c, rfl, rfl, el1, by simp, ?_⟩
        have el2 : (upd H2 l (.lst (ds.map V.int ++ [V.int c]).dropLast)) l = some (.lst (ds.map V.int)) := by
          rw [upd_same, List.dropLast_concat]
        have eh2 : (upd H2 l (.lst (ds.map V.int ++ [V.int c]).dropLast)) h = some (.lst [.ref l, .int z]) := by
          rw [upd_ne nhl]; exact eh1
        have bar2 : Bar h l H (upd H2 l (.lst (ds.map V.int ++ [V.int c]).dropLast)) := bar1.trans .upd_l
        generalize upd H2 l (.lst (ds.map V.int ++ [V.int c]).dropLast) = H3 at el2 eh2 bar2
        have len' : ds.length + 1 ≤ 60 := by simp at len; omega
        refine ⟨_, rfl, h, _, 0, .ref l, rfl, rfl, SqL.of eh2, atI_nat (j := 0) rfl, .inl ⟨rfl, _, SqL.of el2⟩, _, rfl, _, rfl, _, _, rfl, rfl, ⟨by omega, by omega⟩, l, _, _, rfl, rfl, el2, ?_, ?_⟩
        · rw [List.length_map]
          exact small1000 (by omega)
        have el3 : (upd H3 l (.lst (ds.map V.int ++ [.int (c.fdiv many)]))) l = some (.lst ((ds ++ [c.fdiv many]).map V.int)) := by
          rw [upd_same]; simp
        have eh3 : (upd H3 l (.lst (ds.map V.int ++ [.int (c.fdiv many)]))) h = some (.lst [.ref l, .int z]) := by
          rw [upd_ne nhl]; exact eh2
        refine ⟨_, rfl, .inl ⟨_, rfl, _, rfl, _, _, rfl, rfl, m0, ?_⟩⟩
        refine q _ _ (Int.emod_nonneg _ (by omega)) (Int.emod_lt_of_pos _ m0) ⟨_, z, eh3, el3, ?_, by simp; omega, z1, z2⟩ (bar2.trans .upd_l)
        intro x hx
        rcases List.mem_append.mp hx with hx | hx
        · exact pos x (by simp [hx])
        · rw [List.mem_singleton.mp hx, Int.fdiv_eq_ediv_of_nonneg _ (by omega)]
          exact Int.ediv_nonneg c0 (by omega)
    · rintro m σ H1 ⟨rfl, cs, z, eh, el, pos, len, z1, z2, bar, rfl⟩
      have nhl := src_ne eh el
      -- heap[0] != []
      refine ⟨_, rfl, h, _, 0, .ref l, rfl, rfl, SqL.of eh, atI_nat (j := 0) rfl, Nat.zero_le _, fun p hp => ?_⟩
      have nph : h ≠ p := ne_of_none eh hp
      have npl : l ≠ p := ne_of_none el hp
      have eh1 : (upd H1 p (.lst [])) h = some (.lst [.ref l, .int z]) := by rw [upd_ne nph]; exact eh
      have el1 : (upd H1 p (.lst [])) l = some (.lst (cs.map V.int)) := by rw [upd_ne npl]; exact el
      have bar1 : Bar h l H (upd H1 p (.lst [])) := bar.trans (.same (same_upd hp))
      refine ⟨.list (cs.map PyData.int), .list [], .lst (SqL.of el1) (dp_ints cs), .lst (SqL.of upd_same) .nil, shaped_ints cs, by decide, _, rfl, ?_⟩
      rw [eqv_nil]
      generalize upd H1 p (.lst []) = H2 at eh1 el1 bar1
      rcases list_end cs with rfl | ⟨ds, c, rfl⟩
      · -- no great number is left
        refine iteF (iteF ?_)
        exact out _ _ ⟨rfl, [], z, eh1, el1, pos, len, z1, z2, bar1⟩
      · have e1 : ((ds ++ [c]).isEmpty) = false := by simp
        rw [e1]
        refine iteT ?_
        have e2 : (ds ++ [c]).map V.int = ds.map V.int ++ [.int c] := by simp
        rw [e2] at el1
        refine ⟨_, rfl, h, _, 0, .ref l, rfl, rfl, SqL.of eh1, atI_nat (j := 0) rfl, 1, rfl, l, _, -1, .int c, rfl, rfl, SqL.of el1, atI_last _ _, rfl, _, rfl, ?_⟩
        refine ite2 (fun e => ?_) (fun e => ?_)
        · refine ⟨fun σ' H' => ∃ m', m' < (ds ++ [c]).length ∧ (σ' = [some (.ref h), some (.int many), none] ∧ ∃ (cs : List Int) (z : Int), H' h = some (.lst [.ref l, .int z]) ∧ H' l = some (.lst (cs.map V.int)) ∧ (∀ c ∈ cs, 0 ≤ c) ∧ cs.length ≤ 60 ∧ 0 ≤ z ∧ z < 2147483648 ∧ Bar h l H H' ∧ m' = cs.length), fun _ _ x => x, ?_⟩
          refine ⟨_, rfl, h, _, 0, .ref l, rfl, rfl, SqL.of eh1, atI_nat (j := 0) rfl, .inl ⟨rfl, _, SqL.of el1⟩, l, _, .int c, rfl, rfl, el1, by simp, ?_⟩
          refine ⟨ds.length, by simp, rfl, ds, z, ?_, ?_, fun c' h' => pos c' (by simp [h']), ?_, z1, z2, bar1.trans .upd_l, rfl⟩
          · rw [upd_ne nhl]; exact eh1
          · rw [upd_same, List.dropLast_concat]
          · simp at len; omega
        · refine out _ _ ⟨rfl, ds ++ [c], z, eh1, ?_, pos, len, z1, z2, bar1⟩
          rw [e2]; exact el1
end
end K14
namespace K14
open PySem PySem.Spec PyProof.Rows L2
/-- a tuple that is known whole: one that tuple(..) made -/
def Ex (H : Hp) (a : Addr) (xs : List V) : Prop := ∃ o : Obj, o.dict = none ∧ o.cls = .type "tuple" ∧ H a = some (.frz o (.tup xs))
/-- a tuple, known whole or not -/
def Tp (H : Hp) (a : Addr) (xs : List V) : Prop := H a = some (.tup xs) ∨ Ex H a xs
theorem Tp.sq {K : PySem.W.Frag} {H : Hp} {a : Addr} {xs : List V} (t : Tp H a xs) : SqT K H a xs := by
  rcases t with e | ⟨o, _, _, e⟩
  · exact SqT.of e
  · exact .inl (.inr ⟨o, e⟩)
theorem Ex.same {H H' : Hp} {a : Addr} {xs : List V} (t : Ex H a xs) (s : Same H H') : Ex H' a xs := let ⟨o, d, c, e⟩ := t; ⟨o, d, c, s _ _ e⟩
theorem Tp.same {H H' : Hp} {a : Addr} {xs : List V} (t : Tp H a xs) (s : Same H H') : Tp H' a xs := t.imp (fun e => s _ _ e) (fun e => e.same s)
theorem Ex.put {H : Hp} {a p : Addr} {xs : List V} {o : HO} (t : Ex H a xs) (n : a ≠ p) : Ex (upd H p o) a xs := let ⟨u, d, c, e⟩ := t; ⟨u, d, c, by rw [upd_ne n]; exact e⟩
theorem Tp.put {H : Hp} {a p : Addr} {xs : List V} {o : HO} (t : Tp H a xs) (n : a ≠ p) : Tp (upd H p o) a xs := t.imp (fun e => by rw [upd_ne n]; exact e) (fun e => e.put n)
theorem Ex.ne_lst {H : Hp} {a p : Addr} {xs ys : List V} (t : Ex H a xs) (e : H p = some (.lst ys)) : a ≠ p := fun z => by
  obtain ⟨u, d, c, e'⟩ := t
  rw [z, e] at e'
  cases e'
theorem Ex.bar {H H' : Hp} {h l a : Addr} {xs : List V} (t : Ex H a xs) (s : Src H h l) (b : Bar h l H H') : Ex H' a xs := by
  obtain ⟨u, d, c, e⟩ := t
  obtain ⟨n1, n2⟩ := s.ne e (fun _ z => by cases z)
  exact ⟨u, d, c, b a _ n1 n2 e⟩
theorem Tp.live {H : Hp} {a : Addr} {xs : List V} (t : Tp H a xs) : ∃ o, H a = some o := by
  rcases t with e | ⟨o, _, _, e⟩
  · exact ⟨_, e⟩
  · exact ⟨_, e⟩

theorem Tp.bar {H H' : Hp} {h l a : Addr} {xs : List V} (t : Tp H a xs) (s : Src H h l) (b : Bar h l H H') : Tp H' a xs := t.imp (fun e => by
  obtain ⟨n1, n2⟩ := s.ne e (fun _ z => by cases z)
  exact b a _ n1 n2 e) (fun e => e.bar s b)
end K14
namespace K14
open PySem PySem.Spec PyProof.Rows L2
def spPick : Sp := fun vs H Q _ => ∃ (h l s : Addr) (xs : List V), vs = [.ref h, .ref s] ∧ Src H h l ∧ (H s = some (.lst xs) ∨ Tp H s xs) ∧ s ≠ h ∧ s ≠ l ∧ 0 < xs.length ∧ xs.length < 10000 ∧
  ∀ (k : Nat) (v : V) (H' : Hp), xs[k]? = some v → Src H' h l → Bar h l H H' → Q v H'
theorem scPick : FnScope ["heap", "some"] ["heap", "some"] (defScope sPick) := ⟨rfl, rfl, rfl, by decide +kernel, rfl, by decide +kernel, by decide +kernel⟩
def spHeap (K : PySem.W.Frag) : Sp := fun vs H Q _ => ∃ (a : Addr) (ns : List Int), vs = [.ref a] ∧ SqL K H a (ns.map V.int) ∧
  ∀ (h l : Addr) (H' : Hp), Same H H' → H h = none → H l = none → Src H' h l → Q (.ref h) H'
theorem scHeap : FnScope ["script", "cell", "cells", "stir"] ["script"] (defScope sHeap) := ⟨rfl, rfl, rfl, by decide +kernel, rfl, by decide +kernel, by decide +kernel⟩
theorem yes {σ : L2.St} {H : Hp} {A : Hp → Prop} {B : Hp → Prop} (h : A H) : tYes σ H (fun b H3 => if b = true then A H3 else B H3) := by
  show (if true = true then A H else B H)
  exact iteT h
theorem cut60 (xs : List V) : cutV xs none (some 60) = xs.take 60 := by
  unfold cutV
  rw [HT.sIx_none, show HT.sIx xs.length xs.length (some 60) = min 60 xs.length from HT.sIx_nat xs.length xs.length 60, List.drop_zero, Nat.sub_zero]
  rw [Nat.min_def]
  split
  · rfl
  · rw [List.take_of_length_le (Nat.le_refl _), List.take_of_length_le (by omega)]
section
variable {P : Program} {w : World} {K : PySem.W.Frag} {mg : Str → Option Value} {base : Heap}
theorem ok_pick {f g : Addr} {fd gd : FuncData} {k : Nat} (F : Fun K "_law_pick" "_law_pick" sPick f fd) (G : FnOk P w K mg base CX0 k g gd ["heap", "many"] spDraw) (bG : Binds K gd ["heap", "many"] []) (kG : PySem.W.keepIn K (.ref g) = true) (mG : mg "_law_draw" = some (.ref g)) (ml : mg "len" = none) :
    FnOk P w K mg base CX0 (k + 1) f fd ["heap", "some"] spPick := by
  refine F.ok scPick (fun vs H Q E h => ?_) (fun cdv A outer s H vs Q E hr h => ?_)
  · obtain ⟨h, l, s, xs, rfl, _⟩ := h
    rfl
  · obtain ⟨h, l, s, xs, rfl, src, es, n1, n2, x0, x1, q⟩ := h
    have at' : ∀ H', Bar h l H H' → SqL K H' s xs ∨ SqT K H' s xs := fun H' b => es.imp (fun e => SqL.of (b _ _ n1 n2 e)) (fun e => (e.bar src b).sq)
    refine ⟨_, pss_one (ps_ret (pe_ix ix_seq (pv 1) (pe_call G hr rfl mG kG bG .nil pass0 (pa_cons (pv 0) (pa_cons (pe_callB call_len_seq (by rfl) ml PySem.boot_len (pa_cons (pv 1) pa_nil)) pa_nil))) (fun _ _ => rfl))), ?_⟩
    refine ⟨_, rfl, _, rfl, _, rfl, s, xs, rfl, at' H Bar.refl, h, l, _, rfl, src, by omega, by omega, fun i H' i0 i1 src' bar => ?_⟩
    obtain ⟨j, rfl⟩ : ∃ j : Nat, i = (j : Int) := ⟨i.toNat, by omega⟩
    have hj : j < xs.length := by omega
    rcases at' H' bar with e | e
    · exact .inl ⟨s, xs, _, _, rfl, rfl, e, atI_nat (List.getElem?_eq_getElem hj), q j _ H' (List.getElem?_eq_getElem hj) src' bar⟩
    · exact .inr (.inl ⟨s, xs, _, _, rfl, rfl, e, atI_nat (List.getElem?_eq_getElem hj), q j _ H' (List.getElem?_eq_getElem hj) src' bar⟩)
theorem ok_heap {f : Addr} {fd : FuncData} {k : Nat} (F : Fun K "_law_heap" "_law_heap" sHeap f fd) (mi : mg "int" = none) (ma : mg "abs" = none) : FnOk P w K mg base CX0 (k + 1) f fd ["script"] (spHeap K) := by
  refine F.ok scHeap (fun vs H Q E h => ?_) (fun cdv A outer s H vs Q E hr h => ?_)
  · obtain ⟨a, ns, rfl, _⟩ := h
    rfl
  · obtain ⟨a, ns, rfl, hS, q⟩ := h
    refine ⟨_, pss_cons (ps_par (i := 2) (j := 3) rfl scHeap.nd rfl rfl (by decide) rfl rfl (pa_cons (pe_lc (own := [("cell", 1)]) (g := gName 1) (tt := tYes) rfl scHeap.nd (pi_list (pe_slice sl_list (pv 0) po_none (po_some pe_int)))
          (blkOk_by (own := [("cell", 1)]) (N := ["script", "cell", "cells", "stir"]) (sc := defScope sHeap) (by decide +kernel)) (fun _ _ _ _ _ => pg_name (i := 1) scHeap.nd rfl (Or.inl rfl)) (fun _ _ _ _ _ => pts_nil)
          (fun _ _ _ _ _ => pe_op op_add (pe_op op_mul pe_int (pe_callB call_abs (by rfl) ma (by decide +kernel) (pa_cons (pv 1) pa_nil))) (pe_callTy call_int1 (by rfl) mi (by decide +kernel) (pa_cons (pe_cmp (pc_lt (pv 1) pe_int) rfl) pa_nil)))) (pa_cons pe_int pa_nil)) (by rfl))
      (pss_cons (ps_for PassesOwn.never rfl (pi_list (pv 2)) (pg_name (i := 1) scHeap.nd rfl (.inl rfl))
        (pss_one (ps_set (i := 3) scHeap.nd rfl (.inl rfl) (pe_op op_mod (pe_callTy call_int1 (by rfl) mi (by decide +kernel) (pa_cons (pe_op op_add (pe_op op_add (pe_op op_mul (pv 3) pe_int) (pe_op op_mod (pe_callTy call_int1 (by rfl) mi (by decide +kernel) (pa_cons (pv 1) pa_nil)) pe_int)) pe_int) pa_nil)) pe_int))))
      (pss_one (ps_ret (pe_lst (pa_cons (pe_revL (pe_lc (own := [("cell", 1)]) (g := gName 1) rfl scHeap.nd (pi_list (pv 2))
          (blkOk_by (own := [("cell", 1)]) (N := ["script", "cell", "cells", "stir"]) (sc := defScope sHeap) (by decide +kernel)) (fun _ _ _ _ _ => pg_name (i := 1) scHeap.nd rfl (Or.inl rfl)) (fun _ _ _ _ _ => pts_one (pt_cmpR op_ge (pv 1) (pe_op op_pow pe_int pe_int) (nomark _)))
          (fun _ _ _ _ _ => pv 1))) (pa_cons (pv 3) pa_nil)))))), ?_⟩
    refine ⟨.ref a, rfl, 60, rfl, a, _, rfl, hS, fun c nc => ?_⟩
    have s1 : Same H (upd H c (.lst (cutV (ns.map V.int) none (some 60)))) := same_upd nc
    have ec : (upd H c (.lst (cutV (ns.map V.int) none (some 60)))) c = some (.lst ((ns.take 60).map V.int)) := by
      rw [upd_same, cut60, List.map_take]
    generalize upd H c (.lst (cutV (ns.map V.int) none (some 60))) = H1 at s1 ec
    refine ⟨c, rfl, ⟨_, SqL.of ec⟩, fun D nD => ?_⟩
    have ncD : c ≠ D := ne_of_none ec nD
    have len60 : (ns.take 60).length ≤ 60 := by rw [List.length_take]; exact Nat.min_le_left _ _
    refine lc_list (K := K) (a := c) (xs := (ns.take 60).map V.int) (fun i H' => ∃ cs : List Int, H' D = some (.lst (cs.map V.int)) ∧ cs.length = i ∧ (∀ z ∈ cs, 0 ≤ z) ∧ H' c = some (.lst ((ns.take 60).map V.int)) ∧ ∀ b o, b ≠ D → H1 b = some o → H' b = some o)
      ⟨[], upd_same, rfl, by simp, by rw [upd_ne ncD]; exact ec, fun b o n e => by rw [upd_ne n]; exact e⟩ (fun i H' _ ⟨_, _, _, _, e, _⟩ => SqL.of e) ?_ ?_
    · rintro i x H' hx ⟨cs, eD, ei, pos, ec', keep⟩
      have hi : i < (ns.take 60).length := by
        have := (List.getElem?_eq_some_iff.mp hx).1
        rw [List.length_map] at this
        exact this
      obtain ⟨u, rfl⟩ : ∃ u, x = V.int u := by
        rw [List.getElem?_map, List.getElem?_eq_getElem hi] at hx
        exact ⟨_, (Option.some.inj hx).symm⟩
      refine ⟨rfl, yes ?_⟩
      refine ⟨_, rfl, _, rfl, _, _, rfl, rfl, .inl ⟨by decide, by decide⟩, _, rfl, u, 0, rfl, rfl, .inr ⟨_, rfl, _, _, rfl, rfl, _, eD, ?_, ?_⟩⟩
      · rw [List.length_map, ei]
        exact small1000 (by omega)
      · refine ⟨cs ++ [2 * (if u < 0 then -u else u) + (if decide (u < 0) = true then 1 else 0)], ?_, by simp [ei], ?_, ?_, fun b o n e => ?_⟩
        · rw [upd_same]
          simp
        · intro z hz
          rcases List.mem_append.mp hz with hz | hz
          · exact pos z hz
          · rw [List.mem_singleton.mp hz]
            split <;> split <;> omega
        · rw [upd_ne ncD]; exact ec'
        · rw [upd_ne n]; exact keep b o n e
    · rintro H2 ⟨cs, eD, ei, pos, ec', keep⟩
      have same2 : Same H H2 := fun b o e => keep b o (fun z => by rw [z] at e; have := s1 _ _ e; rw [nD] at this; cases this) (s1 b o e)
      rw [List.length_map] at ei
      have lc : cs.length ≤ 60 := by omega
      refine ⟨_, _, rfl, ?_⟩
      -- for cell in cells: stir = ..
      refine ⟨_, rfl, D, rfl, ⟨_, SqL.of eD⟩, for_list (K := K) (a := D) (xs := cs.map V.int) (fun i σ H' => ∃ (y : Option V) (z : Int), σ = [some (.ref a), y, some (.ref D), some (.int z)] ∧ 0 ≤ z ∧ z < 2147483648 ∧ H' = H2)
        ⟨none, 61001, rfl, by decide, by decide, rfl⟩ (fun i σ H' _ ⟨_, _, _, _, _, e⟩ => by rw [e]; exact SqL.of eD) ?_ ?_⟩
      · rintro i x σ H' hx ⟨y, z, rfl, z0, z1, rfl⟩
        obtain ⟨u, rfl⟩ : ∃ u, x = V.int u := by
          rw [List.getElem?_map] at hx
          cases e : cs[i]? with
          | none => rw [e] at hx; cases hx
          | some u => rw [e] at hx; exact ⟨u, (Option.some.inj hx).symm⟩
        refine ⟨_, rfl, _, _, rfl, rfl, .inl ⟨by omega, by omega⟩, _, rfl, .inl ⟨_, rfl, _, _, rfl, rfl, (show (0 : Int) < 2147483563 by decide), _, _, rfl, rfl, _, _, rfl, rfl, .inl ⟨_, rfl, _, _, rfl, rfl, (show (0 : Int) < 2147483647 by decide), ?_⟩⟩⟩
        have w0 : 0 ≤ (z * 69621 + u % 2147483563 + 29) % 2147483647 := Int.emod_nonneg _ (by decide)
        have w1 : (z * 69621 + u % 2147483563 + 29) % 2147483647 < 2147483647 := Int.emod_lt_of_pos _ (by decide)
        exact ⟨_, _, rfl, w0, by omega, rfl⟩
      · rintro σ H' ⟨y, z, rfl, z0, z1, rfl⟩
        -- return [[..][::-1], stir]
        refine ⟨_, rfl, D, rfl, ⟨_, SqL.of eD⟩, fun G nG => ?_⟩
        have nDG : D ≠ G := ne_of_none eD nG
        refine lc_list (K := K) (a := D) (xs := cs.map V.int) (fun i H3 => ∃ ds : List Int, H3 G = some (.lst (ds.map V.int)) ∧ ds.length ≤ i ∧ (∀ z ∈ ds, 0 ≤ z) ∧ H3 D = some (.lst (cs.map V.int)) ∧ ∀ b o, b ≠ G → H' b = some o → H3 b = some o)
          ⟨[], upd_same, by simp, by simp, by rw [upd_ne nDG]; exact eD, fun b o n e => by rw [upd_ne n]; exact e⟩ (fun i H3 _ ⟨_, _, _, _, e, _⟩ => SqL.of e) ?_ ?_
        · rintro i x H3 hx ⟨ds, eG, di, dp, eD3, keep3⟩
          have hi : i < cs.length := by
            have := (List.getElem?_eq_some_iff.mp hx).1
            rw [List.length_map] at this
            exact this
          have ex : x = V.int cs[i] := by
            rw [List.getElem?_map, List.getElem?_eq_getElem hi] at hx
            exact (Option.some.inj hx).symm
          subst ex
          refine ⟨rfl, _, rfl, _, _, rfl, rfl, ⟨by decide, by decide, by decide⟩, _, _, rfl, rfl, _, rfl, ?_⟩
          refine ite2 (fun c1 => ?_) (fun c1 => ?_)
          · refine ⟨_, rfl, _, eG, ?_, ds ++ [cs[i]], ?_, by simp; exact di, ?_, ?_, fun b o n e => ?_⟩
            · rw [List.length_map]
              exact small1000 (by omega)
            · rw [upd_same]; simp
            · intro z' hz
              rcases List.mem_append.mp hz with hz | hz
              · exact dp z' hz
              · rw [List.mem_singleton.mp hz]
                exact pos _ (List.getElem_mem hi)
            · rw [upd_ne nDG]; exact eD3
            · rw [upd_ne n]; exact keep3 b o n e
          · exact ⟨ds, eG, by omega, dp, eD3, keep3⟩
        · rintro H3 ⟨ds, eG, di, dp, eD3, keep3⟩
          rw [List.length_map] at di
          have same3 : Same H H3 := fun b o e => keep3 b o (fun z => by rw [z] at e; have := same2 _ _ e; rw [nG] at this; cases this) (same2 b o e)
          refine ⟨G, _, rfl, SqL.of eG, fun p np => ⟨_, rfl, (by show 2 ≤ sizeLine; decide), fun h nh => ?_⟩⟩
          have nhp : p ≠ h := fun e => by rw [← e, upd_same] at nh; cases nh
          have nh3 : H3 h = none := by rw [upd_ne (Ne.symm nhp)] at nh; exact nh
          refine q h p _ (same3.trans ((same_upd np).trans (same_upd nh))) (same3.free nh3) (same3.free np) ⟨ds.reverse, z, upd_same, ?_, ?_, ?_, z0, z1⟩
          · rw [upd_ne nhp, upd_same, List.map_reverse]
          · intro c hc
            exact dp c (List.mem_reverse.mp hc)
          · rw [List.length_reverse]; omega
end
end K14
namespace K14
open PySem PySem.Spec PyProof.Rows L2
theorem call_tupleX {X : Cx} : CallR X (.type "tuple") (fun xs H Q => ∃ p ys, xs = [.ref p] ∧ SqL X.K H p ys ∧ ∀ l H', H l = none → Same H H' → Ex H' l ys → (∀ b o, b ≠ l → H' b = some o → H b = some o) → Q (.ref l) H') := by
  intro pins st σ H xs us Q I r h
  obtain ⟨p, ys, rfl, hq, q⟩ := h
  obtain ⟨u, rfl, rx⟩ := vals1 r
  cases rx
  obtain ⟨its, rv, pl, le⟩ := I.list hq
  have ln := rv.length
  refine call_tuple_list pl.isList (fun h' kp => ?_) (by simp only [List.size_toArray] <;> omega)
  have I1 : Inv X pins σ H { st with heap := h' } := I.kept (t' := st.toks) kp
  have nw := I1.hok.fresh (Nat.le_refl h'.objs.size)
  have I2 : Inv X pins σ (upd H h'.objs.size (.frz { cls := .type "tuple", data := .seq its.toArray } (.tup ys))) { st with heap := h'.push { cls := .type "tuple", data := .seq its.toArray } } :=
    I1.laid (t' := st.toks) (fun b o e => Heap.get?_push_of_some _ e) (Nat.le_refl _) (show ObjOk X.prog X.w _ _ _ (.frz _ (.tup ys)) from ⟨Heap.get?_push_size _ rfl, le, its, rv, IsTup.new _ _⟩)
  exact ⟨.ref h'.objs.size, _, I2, rfl, q _ _ nw (same_upd nw) ⟨_, rfl, rfl, upd_same⟩ fun b o ne e => by rw [upd_ne ne] at e; exact e⟩
/-- the call of a tuple's method -/
def tBMT (r : V → List V → Hp → VK → Prop) (to : TE) (t : TA) : TE := fun σ H Q => to σ H fun x H1 => (∃ p xs, x = .ref p ∧ Ex H1 p xs) ∧ t σ H1 fun xs H2 => r x xs H2 Q
theorem pe_bmT {X : Cx} {o e : Expr} {es : List Expr} {to : TE} {t : TA} {name : Str} {apos cpos : Pos} {id : String} {r : V → List V → Hp → VK → Prop} (pa : PlainAttrs "tuple") (slot : Slot "tuple" name id) (hty : typeOf (.builtin id) = pure (.type "method_descriptor")) (hm : MtR X id r) (ho : PE X o to) (ha : PA X (e :: es) t)
    (hbase : attributeBase o name X.env (eval o X.env) = eval o X.env := by rfl) (hfew : ((backTo cpos (starEach (e :: es) X.env)).all (fun x => !x.1) && (backToKw cpos (keywordEach [] X.env)).all (fun x => x.1.isSome) && decide ((e :: es).length + ([] : List Keyword).length + (if ([] : List Keyword).isEmpty then 0 else 1) < 30)) = true := by rfl)
    (hline : (apos.endLine == cpos.line) = true := by rfl) (hs : starEach (e :: es) X.env = (false, eval e X.env) :: starEach es X.env := by rfl) (hplain : (backTo cpos (starEach es X.env)).any (·.1) = false := by rfl) : PE X (.Call (.Attribute o name apos) (e :: es) [] cpos) (tBMT r to t) := by
  refine ⟨fun pins s σ H Q I h => wpAny_Call_method_late hbase hfew hline rfl (thn (ho.run pins s σ H _ I h) fun v s1 ⟨x, H1, I1, r1, ty, q1⟩ => ?_)⟩
  obtain ⟨p, xs, rfl, ob, hd, hc, e1⟩ := ty
  cases r1
  have live := (I1.hok p _ e1).1
  refine ⟨"tuple", id, pa, slot, hty, ⟨ob, live, hc⟩, fun a ea => ?_, ?_⟩
  · cases ea
    exact ⟨ob, live, hd⟩
  · have hA := ha.run cpos pins s1 σ H1 _ I1 q1
    rw [hs] at hA ⊢
    refine Calls.callWith_builtin (by show (false || (backTo cpos (starEach es X.env)).any (·.1)) = false; rw [hplain] <;> rfl) (Calls.evalArgs_plain ?_)
    exact thn hA fun us s2 ⟨vs, H2, I2, r2, q2⟩ => hm pins s2 σ H2 (.ref p) vs (.ref p) us Q I2 rfl r2 q2
end K14
namespace K14
open PySem PySem.Spec PyProof.Rows L2
theorem seqcut {t u : TS} {D : Ends} {σ : L2.St} {H : Hp} (Y : L2.St → Hp → Prop) (out : ∀ σ H, Y σ H → u D σ H) (k : (∀ σ H, Y σ H → u D σ H) → t { D with nx := u D } σ H) : tSeq t u D σ H := k out
theorem gn {i : Nat} {v : V} {σ : L2.St} {H : Hp} {Q : L2.St → Hp → Prop} (h : Q (σ.set i (some v)) H) : gName i v σ H Q := h
theorem Src.new {H : Hp} {h l p : Addr} (s : Src H h l) (n : H p = none) : p ≠ h ∧ p ≠ l := by
  obtain ⟨cs, z, a, b, r⟩ := s.ex
  exact ⟨fun e => (by rw [e, a] at n; cases n), fun e => (by rw [e, b] at n; cases n)⟩
theorem Bar.free {h l p : Addr} {H H' : Hp} (b : Bar h l H H') (s : Src H' h l) (n : H' p = none) : H p = none := by
  obtain ⟨n1, n2⟩ := s.new n
  cases e : H p with
  | none => rfl
  | some o => rw [b p o n1 n2 e] at n; cases n
theorem Bar.fresh {h l p : Addr} {H H' : Hp} {o : HO} (b : Bar h l H H') (n : H p = none) : Bar h l H (upd H' p o) := fun c u n1 n2 e => by
  rw [upd_ne (ne_of_none e n)]
  exact b c u n1 n2 e
theorem Src.put {H : Hp} {h l p : Addr} {o : HO} (s : Src H h l) (n1 : p ≠ h) (n2 : p ≠ l) : Src (upd H p o) h l := by
  obtain ⟨cs, z, a, b, r⟩ := s.ex
  exact ⟨cs, z, by rw [upd_ne (Ne.symm n1)]; exact a, by rw [upd_ne (Ne.symm n2)]; exact b, r⟩
theorem Src.updn {H : Hp} {h l p : Addr} {o : HO} (s : Src H h l) (n : H p = none) : Src (upd H p o) h l := s.put (s.new n).1 (s.new n).2
theorem ofN {H : Hp} {p q : Addr} {o u : HO} (n : H p = none) (e : H q = some u) : (upd H p o) q = some u := by rw [upd_ne (ne_of_none e n)]; exact e
theorem sz5 {n : Nat} (h : n ≤ 100000) : n ≤ sizeLine := Nat.le_trans h (by decide)
theorem sz6 {n : Nat} (h : n ≤ 100000) : n < sizeLine := Nat.lt_of_le_of_lt h (by decide)

/-! ### the same things in a drawn sequence -/
def spShuffled : Sp := fun vs H Q _ => ∃ (h l s : Addr) (xs : List V), vs = [.ref h, .ref s] ∧ Src H h l ∧ (H s = some (.lst xs) ∨ H s = some (.tup xs)) ∧ s ≠ h ∧ s ≠ l ∧ xs.length ≤ 50000 ∧
  ∀ (r : Addr) (ys : List V) (H' : Hp), ys.Perm xs → Src H' h l → Bar h l H H' → H r = none → Ex H' r ys → Q (.ref r) H'
theorem scShuffled : FnScope ["heap", "some", "left", "found", "turn"] ["heap", "some"] (defScope sShuffled) := ⟨rfl, rfl, rfl, by decide +kernel, rfl, by decide +kernel, by decide +kernel⟩
theorem erase_perm {α : Type} : ∀ {us : List α} {k : Nat} {y : α}, us[k]? = some y → (y :: us.eraseIdx k).Perm us
  | [], k, y, e => by simp at e
  | u :: r, 0, y, e => by
    have : u = y := by simpa using e
    subst this
    exact List.Perm.refl _
  | u :: r, k + 1, y, e => by
    have e' : r[k]? = some y := by simpa using e
    exact (List.Perm.swap u y _).trans ((erase_perm e').cons u)
theorem perm_pop {xs us fs : List V} {k : Nat} {y : V} (p : (fs ++ us).Perm xs) (e : us[k]? = some y) : ((fs ++ [y]) ++ us.eraseIdx k).Perm xs := by
  refine List.Perm.trans ?_ p
  rw [List.append_assoc]
  refine List.Perm.append_left fs ?_
  exact erase_perm e
section
variable {P : Program} {w : World} {K : PySem.W.Frag} {mg : Str → Option Value} {base : Heap}
theorem ok_shuffled {f g : Addr} {fd gd : FuncData} {k : Nat} (F : Fun K "_law_shuffled" "_law_shuffled" sShuffled f fd) (G : FnOk P w K mg base CX0 k g gd ["heap", "many"] spDraw) (bG : Binds K gd ["heap", "many"] []) (kG : PySem.W.keepIn K (.ref g) = true) (mG : mg "_law_draw" = some (.ref g)) (ml : mg "len" = none) (mr : mg "range" = none) (mli : mg "list" = none) (mt : mg "tuple" = none) :
    FnOk P w K mg base CX0 (k + 1) f fd ["heap", "some"] spShuffled := by
  refine F.ok scShuffled (fun vs H Q E h => ?_) (fun cdv A outer s H vs Q E hr h => ?_)
  · obtain ⟨h, l, s, xs, rfl, _⟩ := h
    rfl
  · obtain ⟨h, l, s, xs, rfl, src, es, n1, n2, x1, q⟩ := h
    refine ⟨_, pss_cons (ps_par (i := 2) (j := 3) rfl scShuffled.nd rfl rfl (by decide) rfl rfl (pa_cons (pe_callTy call_list_of (by rfl) mli (by decide +kernel) (pa_cons (pv 1) pa_nil)) (pa_cons (pe_lst pa_nil) pa_nil)) (by rfl))
      (pss_cons (ps_for PassesOwn.never rfl (pi_range1 rfl mr (pa_cons (pe_callB call_len_seq (by rfl) ml PySem.boot_len (pa_cons (pv 1) pa_nil)) pa_nil)) (pg_name (i := 4) scShuffled.nd rfl (.inl rfl))
        (pss_one (ps_expr (pe_bm PySem.F.plainAttrs_list PySem.F.slot_list_append PySem.F.type_list_append mt_append (pv 3) (pa_cons
          (pe_bm PySem.F.plainAttrs_list PySem.F.slot_list_pop PySem.F.type_list_pop mt_popAt (pv 2) (pa_cons
            (pe_call G hr rfl mG kG bG .nil pass0 (pa_cons (pv 0) (pa_cons (pe_callB call_len_seq (by rfl) ml PySem.boot_len (pa_cons (pv 2) pa_nil)) pa_nil))) pa_nil)) pa_nil)))))
      (pss_one (ps_ret (pe_callTy call_tupleX (by rfl) mt (by decide +kernel) (pa_cons (pv 3) pa_nil))))), ?_⟩
    have key : ∃ o, H s = some o ∧ ∀ H' : Hp, H' s = some o → SqL K H' s xs ∨ SqT K H' s xs := by
      rcases es with e | e
      · exact ⟨_, e, fun H' e' => .inl (SqL.of e')⟩
      · exact ⟨_, e, fun H' e' => .inr (SqT.of e')⟩
    obtain ⟨so, eso, sqs⟩ := key
    refine ⟨_, rfl, s, xs, rfl, sqs H eso, fun p np => ⟨Nat.zero_le _, fun r nr => ?_⟩⟩
    have ep0 : (upd H p (.lst xs)) p = some (.lst xs) := upd_same
    have npr : p ≠ r := ne_of_none ep0 nr
    have nr0 : H r = none := by rw [upd_ne (Ne.symm npr)] at nr; exact nr
    obtain ⟨nph, npl⟩ := src.new np
    obtain ⟨nrh, nrl⟩ := src.new nr0
    have nsp : s ≠ p := ne_of_none eso np
    have nsr : s ≠ r := ne_of_none eso nr0
    have e1 : (upd (upd H p (.lst xs)) r (.lst [])) s = some so := by rw [upd_ne nsr, upd_ne nsp]; exact eso
    refine ⟨_, _, rfl, _, rfl, s, xs, rfl, sqs _ e1, xs.length, rfl, (by omega), (by omega), for_range (lo := 0) (n := xs.length) (fun i σ H' => ∃ (us fs : List V) (y : Option V), σ = [some (.ref h), some (.ref s), some (.ref p), some (.ref r), y] ∧ H' p = some (.lst us) ∧ H' r = some (.lst fs) ∧ (fs ++ us).Perm xs ∧ fs.length = i ∧ Src H' h l ∧ Bar h l H H')
      ⟨xs, [], none, rfl, by rw [upd_ne npr]; exact ep0, upd_same, .refl _, rfl, (src.updn np).put nrh nrl, (Bar.refl.fresh np).fresh nr0⟩ ?_ ?_⟩
    · rintro i σ H' hi ⟨us, fs, y, rfl, ep, er, pm, fl, sr, bar⟩
      have ln : fs.length + us.length = xs.length := by rw [← List.length_append]; exact pm.length_eq
      refine gn ?_
      dsimp only [List.set]
      refine ⟨_, rfl, .inl ⟨rfl, _, SqL.of er⟩, _, rfl, .inl ⟨rfl, _, SqL.of ep⟩, _, rfl, _, rfl, p, us, rfl, .inl (SqL.of ep), h, l, _, rfl, sr, by omega, by omega, fun j H2 j0 j1 sr2 bar2 => ?_⟩
      obtain ⟨j, rfl⟩ : ∃ j' : Nat, j = (j' : Int) := ⟨j.toNat, by omega⟩
      have hj : j < us.length := by omega
      obtain ⟨m, im, um, m0, _⟩ := atI_get (atI_nat (List.getElem?_eq_getElem hj))
      refine ⟨p, us, j, m, us[j], rfl, rfl, bar2 _ _ nph npl ep, by omega, by omega, im, um, ?_⟩
      · have lm := (erase_perm um).length_eq
        rw [List.length_cons] at lm
        have er2 : (upd H2 p (.lst (us.eraseIdx m))) r = some (.lst fs) := by rw [upd_ne (Ne.symm npr)]; exact bar2 _ _ nrh nrl er
        refine ⟨r, fs, _, rfl, rfl, er2, sz6 (by omega), us.eraseIdx m, fs ++ [us[j]], _, rfl, by rw [upd_ne npr, upd_same], upd_same, perm_pop pm um, by simp [fl], (sr2.put nph npl).put nrh nrl, ((bar.trans bar2).fresh np).fresh nr0⟩
    · rintro σ H' ⟨us, fs, y, rfl, ep, er, pm, fl, sr, bar⟩
      have ln : fs.length + us.length = xs.length := by rw [← List.length_append]; exact pm.length_eq
      have u0 : us = [] := List.eq_nil_of_length_eq_zero (by omega)
      subst u0
      rw [List.append_nil] at pm
      exact ⟨_, rfl, r, fs, rfl, SqL.of er, fun t H3 nt s3 ex _ => q t fs _ pm (sr.same s3) (bar.trans (.same s3)) (bar.free sr nt) ex⟩
end
end K14
namespace K14
open PySem PySem.Spec PyProof.Rows L2
abbrev SS (l : List Nat) : Str := ⟨l.toArray⟩
theorem SS_len (l : List Nat) : (SS l).length = l.length := by simp [SS, Str.length]
theorem SS_cps (l : List Nat) : (SS l).cps.toList = l := rfl
theorem SS_inj {a b : List Nat} (h : SS a = SS b) : a = b := by
  have : (SS a).cps.toList = (SS b).cps.toList := by rw [h]
  exact this
theorem SS_of (s : Str) : SS s.cps.toList = s := rfl
theorem ltCps_eq : ∀ a b : List Nat, ltCps a b = decide (a < b)
  | [], [] => rfl
  | [], _ :: _ => by simp [ltCps]
  | _ :: _, [] => by simp [ltCps]
  | a :: r, b :: t => by
    rw [ltCps, ltCps_eq r t, Bool.eq_iff_iff]
    simp [List.cons_lt_cons_iff]
/-- names: so many, ascending, of one to six letters -/
structure NamesOk (many : Nat) (ns : List (List Nat)) : Prop where
  len : ns.length = many
  each : ∀ s ∈ ns, 1 ≤ s.length ∧ s.length ≤ 6 ∧ ∀ c ∈ s, 97 ≤ c ∧ c ≤ 122
  asc : ∀ i s t, ns[i]? = some s → ns[i + 1]? = some t → s < t
theorem lt_of_not {a b : List Nat} (h : ¬ b < a) (n : a ≠ b) : a < b := by
  rcases List.le_total a b with h1 | h1
  · exact Classical.byContradiction fun z => n (List.le_antisymm h1 (List.not_lt.mp z))
  · exact Classical.byContradiction fun z => n (List.le_antisymm (List.not_lt.mp h) h1)
theorem rising_asc : ∀ (ys : List Str), sortedS ys = true → ys.Nodup → ∀ i s t, (ys.map fun y => y.cps.toList)[i]? = some s → (ys.map fun y => y.cps.toList)[i + 1]? = some t → s < t
  | [], _, _, i, s, t, e, _ => by simp at e
  | [x], _, _, i, s, t, e, e2 => by simp at e2
  | x :: y :: r, h, nd, i, s, t, e, e2 => by
    have h' : (!ltCps y.cps.toList x.cps.toList && risingS y r) = true := by
      have : risingS x (y :: r) = true := h
      rw [risingS] at this
      exact this
    rw [Bool.and_eq_true] at h'
    cases i with
    | zero =>
      have es : x.cps.toList = s := by simpa using e
      have et : y.cps.toList = t := by simpa using e2
      subst es
      subst et
      refine lt_of_not ?_ ?_
      · intro z
        have h1 := h'.1
        rw [ltCps_eq, decide_eq_true z] at h1
        cases h1
      · intro z
        have : x = y := by
          have z' : x.cps = y.cps := by
            apply Array.ext'
            exact z
          cases x; cases y; cases z'; rfl
        rw [List.nodup_cons] at nd
        exact nd.1 (by rw [this]; simp)
    | succ j =>
      exact rising_asc (y :: r) h'.2 (List.nodup_cons.mp nd).2 j s t (by simpa using e) (by simpa using e2)
def nmAt (F : List Nat) (a i : Nat) : List Nat := F ++ [97 + (a + 7 * i) % 26]
theorem nmAt_inj {F : List Nat} {a i j : Nat} (hi : i < 26) (hj : j < 26) (h : nmAt F a i = nmAt F a j) : i = j := by
  have h1 := List.append_cancel_left h
  have h2 : 97 + (a + 7 * i) % 26 = 97 + (a + 7 * j) % 26 := by simpa using h1
  omega
def nms (F : List Nat) (a n : Nat) : List (List Nat) := (List.range n).map (nmAt F a)
theorem nms_len (F : List Nat) (a n : Nat) : (nms F a n).length = n := by simp [nms]
theorem nms_succ (F : List Nat) (a n : Nat) : nms F a (n + 1) = nms F a n ++ [nmAt F a n] := by simp [nms, List.range_succ]
theorem nms_nodup {F : List Nat} {a n : Nat} (h : n ≤ 26) : (nms F a n).Nodup := by
  unfold nms
  refine List.pairwise_map.mpr ?_
  refine List.Pairwise.imp_of_mem ?_ (List.nodup_range (n := n))
  intro i j hi hj ne e
  rw [List.mem_range] at hi hj
  exact ne (nmAt_inj (by omega) (by omega) e)
theorem nms_each {F : List Nat} {a n : Nat} (h5 : F.length ≤ 5) (hF : ∀ c ∈ F, 97 ≤ c ∧ c ≤ 122) : ∀ s ∈ nms F a n, 1 ≤ s.length ∧ s.length ≤ F.length + 1 ∧ ∀ c ∈ s, 97 ≤ c ∧ c ≤ 122 := by
  intro s hs
  obtain ⟨i, _, rfl⟩ := List.mem_map.mp hs
  refine ⟨by simp [nmAt], by simp [nmAt], fun c hc => ?_⟩
  rcases List.mem_append.mp hc with hc | hc
  · exact hF c hc
  · rw [List.mem_singleton.mp hc]
    omega
/-- the first one longer by a letter -/
theorem nms_set {F : List Nat} {a n : Nat} (h : n ≤ 26) (n0 : 0 < n) : ((nms F a n).set 0 (nmAt F a 0 ++ [111])).Nodup := by
  obtain ⟨m, rfl⟩ : ∃ m, n = m + 1 := ⟨n - 1, by omega⟩
  have nd := nms_nodup (F := F) (a := a) h
  have e : nms F a (m + 1) = nmAt F a 0 :: (nms F a (m + 1)).drop 1 := by
    unfold nms
    rw [List.range_succ_eq_map]
    simp
  rw [e] at nd ⊢
  rw [List.set_cons_zero]
  rw [List.nodup_cons] at nd ⊢
  refine ⟨fun hm => ?_, nd.2⟩
  have hm' : nmAt F a 0 ++ [111] ∈ nms F a (m + 1) := by rw [e]; exact List.mem_cons_of_mem _ hm
  obtain ⟨i, _, ei⟩ := List.mem_map.mp hm'
  have := congrArg List.length ei
  simp [nmAt] at this
theorem names_of {many : Nat} {zs : List (List Nat)} {ys : List Str} (l : zs.length = many) (nd : zs.Nodup) (ea : ∀ s ∈ zs, 1 ≤ s.length ∧ s.length ≤ 6 ∧ ∀ c ∈ s, 97 ≤ c ∧ c ≤ 122) (p : ys.Perm (zs.map SS)) (so : sortedS ys = true) : ∃ ns, NamesOk many ns ∧ ys = ns.map SS := by
  refine ⟨ys.map fun y => y.cps.toList, ⟨?_, ?_, ?_⟩, ?_⟩
  · rw [List.length_map, p.length_eq, List.length_map, l]
  · intro s hs
    obtain ⟨y, hy, rfl⟩ := List.mem_map.mp hs
    obtain ⟨z, hz, rfl⟩ := List.mem_map.mp (p.mem_iff.mp hy)
    exact ea z hz
  · refine rising_asc ys so ?_
    rw [p.nodup_iff]
    refine List.pairwise_map.mpr (List.Pairwise.imp ?_ nd)
    intro a b ne e
    exact ne (SS_inj e)
  · rw [List.map_map]
    have : (SS ∘ fun y : Str => y.cps.toList) = id := by
      funext y
      rfl
    rw [this, List.map_id]
end K14
namespace K14
open PySem PySem.Spec PyProof.Rows L2
theorem let_get {j : Nat} (h : j < 26) : ("abcdefghijklmnopqrstuvwxyz" : Str).cps.toList[j]? = some (97 + j) := by
  have e : ("abcdefghijklmnopqrstuvwxyz" : Str) = SS (List.range' 97 26) := by decide +kernel
  rw [e]
  show (List.range' 97 26)[j]? = _
  rw [List.getElem?_range' h]
  congr 1
  omega
theorem SS_app (a b : List Nat) : SS a ++ SS b = SS (a ++ b) := by
  show (⟨a.toArray ++ b.toArray⟩ : Str) = ⟨(a ++ b).toArray⟩
  rw [List.append_toArray]
theorem szS5 {F : List Nat} (h : F.length ≤ 5) : (SS F).length ≤ sizeLine := by rw [SS_len]; exact sz5 (by omega)
theorem ixN_zero {m : Nat} (h : 0 < m) : ixN m 0 = some 0 := by
  unfold ixN
  rw [if_pos (by decide), if_pos (by omega)]
  rfl
def VN (ns : List (List Nat)) : List V := ns.map fun s => V.str (SS s)
theorem VN_eq (ns : List (List Nat)) : VN ns = (ns.map SS).map V.str := by simp [VN]
def spNames : Sp := fun vs H Q _ => ∃ (h l : Addr) (many : Nat), vs = [.ref h, .int many] ∧ Src H h l ∧ 0 < many ∧ many ≤ 26 ∧
  ∀ (r : Addr) (ns : List (List Nat)) (H' : Hp), NamesOk many ns → Src H' h l → Bar h l H H' → H r = none → H' r = some (.tup (VN ns)) → Q (.ref r) H'
theorem scNames : FnScope ["heap", "many", "letters", "front", "first", "found", "at"] ["heap", "many"] (defScope sNames) := ⟨rfl, rfl, rfl, by decide +kernel, rfl, by decide +kernel, by decide +kernel⟩
section
variable {P : Program} {w : World} {K : PySem.W.Frag} {mg : Str → Option Value} {base : Heap}
theorem ok_names {f g p : Addr} {fd gd pd : FuncData} {k : Nat} (F : Fun K "_law_names" "_law_names" sNames f fd) (G : FnOk P w K mg base CX0 k g gd ["heap", "many"] spDraw) (bG : Binds K gd ["heap", "many"] []) (kG : PySem.W.keepIn K (.ref g) = true) (mG : mg "_law_draw" = some (.ref g))
    (R : FnOk P w K mg base CX0 k p pd ["heap", "some"] spPick) (bR : Binds K pd ["heap", "some"] []) (kR : PySem.W.keepIn K (.ref p) = true) (mR : mg "_law_pick" = some (.ref p)) (mi : mg "int" = none) (ml : mg "len" = none) (mr : mg "range" = none) (ms : mg "sorted" = none) (mt : mg "tuple" = none) :
    FnOk P w K mg base CX0 (k + 1) f fd ["heap", "many"] spNames := by
  refine F.ok scNames (fun vs H Q E h => ?_) (fun cdv A outer s H vs Q E hr h => ?_)
  · obtain ⟨h, l, many, rfl, _⟩ := h
    rfl
  · obtain ⟨h, l, many, rfl, src, m0, m1, q⟩ := h
    refine ⟨_, pss_cons (ps_asg (pe_tup (pa_cons pe_str (pa_cons (pe_call R hr rfl mR kR bR .nil pass0 (pa_cons (pv 0) (pa_cons (pe_lst (pa_cons pe_str (pa_cons pe_str (pa_cons pe_str (pa_cons pe_str (pa_cons pe_str pa_nil)))))) pa_nil))) (pa_cons (pe_call G hr rfl mG kG bG .nil pass0 (pa_cons (pv 0) (pa_cons pe_int pa_nil))) pa_nil)))) (pg_tup (by rfl) (pgs_cons (pg_name (i := 2) scNames.nd rfl (.inr rfl)) (pgs_cons (pg_name (i := 3) scNames.nd rfl (.inr rfl)) (pgs_cons (pg_name (i := 4) scNames.nd rfl (.inr rfl)) pgs_nil)))))
      (pss_cons (ps_setLc (i := 5) (own := [("at", 6)]) (g := gName 6) (tt := tYes) rfl scNames.nd rfl rfl (sw_true rfl rfl rfl (by decide +kernel)) (pi_range1 rfl mr (pa_cons (pv 1) pa_nil))
          (blkOk_by (own := [("at", 6)]) (N := ["heap", "many", "letters", "front", "first", "found", "at"]) (sc := defScope sNames) (by decide +kernel)) (fun _ _ _ _ _ => pg_name (i := 6) scNames.nd rfl (Or.inl rfl)) (fun _ _ _ _ _ => pts_nil)
          (fun _ _ _ _ _ => pe_op op_add_str (pv 3) (pe_ix ix_str (pv 2) (pe_op op_mod (pe_callTy call_int1 (by rfl) mi (by decide +kernel) (pa_cons (pe_op op_add (pv 4) (pe_op op_mul pe_int (pv 6))) pa_nil)) pe_int) (fun _ _ => rfl))))
      (pss_cons (ps_if (PW.pt (pw_and (pt_cmpR op_lt (pe_callB call_len_str (by rfl) ml PySem.boot_len (pa_cons (pv 3) pa_nil)) pe_int (nomark _)) (pw_and1 (pt_cmpR op_eq (pe_call G hr rfl mG kG bG .nil pass0 (pa_cons (pv 0) (pa_cons pe_int pa_nil))) pe_int (nomark _)))))
        (pss_one (ps_asg (pe_op op_add_str (pe_ix ix_list (pv 5) pe_int (fun _ _ => rfl)) pe_str) (pg_sub (pv 5) pe_int set_list))) pss_nil)
      (pss_one (ps_ret (pe_callTy call_tuple_of (by rfl) mt (by decide +kernel) (pa_cons (pe_callB cr_sortedS (by rfl) ms (by decide +kernel) (pa_cons (pv 5) pa_nil)) pa_nil)))))), ?_⟩
    refine ⟨_, rfl, (by show 5 ≤ sizeLine; decide), fun u nu => ?_⟩
    obtain ⟨nuh, nul⟩ := src.new nu
    refine ⟨h, l, u, _, rfl, src.updn nu, .inl upd_same, nuh, nul, by simp, by simp, fun j v H1 hv src1 bar1 => ?_⟩
    obtain ⟨F0, rfl, f5, fl⟩ : ∃ F0 : List Nat, v = .str (SS F0) ∧ F0.length ≤ 5 ∧ ∀ c ∈ F0, 97 ≤ c ∧ c ≤ 122 := by
      match j, hv with
      | 0, hv => exact ⟨[], (Option.some.inj hv).symm, by decide, by decide⟩
      | 1, hv => exact ⟨[], (Option.some.inj hv).symm, by decide, by decide⟩
      | 2, hv => exact ⟨[98], (Option.some.inj hv).symm, by decide, by decide⟩
      | 3, hv => exact ⟨[122, 122], (Option.some.inj hv).symm, by decide, by decide⟩
      | 4, hv => exact ⟨[109, 110, 111, 112, 113], (Option.some.inj hv).symm, by decide, by decide⟩
    have bar01 : Bar h l H H1 := (Bar.refl.fresh nu).trans bar1
    refine ⟨_, rfl, h, l, 26, rfl, src1, by decide, by decide, fun x H2 x0 x1 src2 bar2 => ?_⟩
    obtain ⟨a, rfl⟩ : ∃ a : Nat, x = (a : Int) := ⟨x.toNat, by omega⟩
    have bar02 : Bar h l H H2 := bar01.trans bar2
    refine ⟨(by show 3 ≤ sizeLine; decide), fun t nt => ?_⟩
    have nt0 := bar02.free src2 nt
    refine ⟨t, _, rfl, SqT.of upd_same, rfl, ?_⟩
    have bar03 := bar02.fresh (o := .tup [.str "abcdefghijklmnopqrstuvwxyz", .str (SS F0), .int a]) nt0
    have src3 := src2.updn (o := .tup [.str "abcdefghijklmnopqrstuvwxyz", .str (SS F0), .int a]) nt
    generalize upd H2 t (.tup [.str "abcdefghijklmnopqrstuvwxyz", .str (SS F0), .int a]) = H3 at bar03 src3
    refine ⟨_, _, rfl, gn ⟨_, _, rfl, gn ⟨_, _, rfl, gn ⟨rfl, ?_⟩⟩⟩⟩
    dsimp only [List.set]
    refine ⟨_, rfl, _, rfl, by omega, by omega, fun D nD => ?_⟩
    have nD0 := bar03.free src3 nD
    obtain ⟨nDh, nDl⟩ := src3.new nD
    refine lc_range (lo := 0) (n := many) (fun i H' => H' D = some (.lst ((nms F0 a i).map fun s => V.str (SS s))) ∧ Src H' h l ∧ Bar h l H H')
      ⟨upd_same, src3.updn nD, bar03.fresh nD0⟩ ?_ ?_
    · rintro i H4 hi ⟨eD, sr, br⟩
      have hm : (a + 7 * i) % 26 < 26 := Nat.mod_lt _ (by decide)
      refine gn ⟨rfl, yes ?_⟩
      refine ⟨_, rfl, _, rfl, _, rfl, _, rfl, _, _, rfl, rfl, .inl ⟨by decide, by decide⟩, _, _, rfl, rfl, .inl ⟨_, rfl, _, _, rfl, rfl, (show (0 : Int) < 26 by decide), ?_⟩⟩
      have em : ((a : Int) + 7 * (0 + (i : Int))) % 26 = ((a + 7 * i) % 26 : Nat) := by omega
      dsimp only
      rw [em]
      refine ⟨_, _, 97 + (a + 7 * i) % 26, rfl, rfl, (by decide), atI_nat (let_get hm), _, _, rfl, rfl, ?_, _, eD, ?_, ?_, sr.put nDh nDl, br.fresh nD0⟩
      · rw [SS_len]
        show F0.length + 1 ≤ sizeLine
        exact sz5 (by omega)
      · rw [List.length_map, nms_len]
        exact sz6 (by omega)
      · rw [upd_same, nms_succ, List.map_append]
        have e : SS F0 ++ (⟨#[97 + (a + 7 * i) % 26]⟩ : Str) = SS (nmAt F0 a i) := SS_app F0 [97 + (a + 7 * i) % 26]
        rw [e]
        rfl
    · rintro H4 ⟨eD, sr, br⟩
      dsimp only
      refine seqcut (fun σ' H' => ∃ zs : List (List Nat), σ' = [some (.ref h), some (.int many), some (.str "abcdefghijklmnopqrstuvwxyz"), some (.str (SS F0)), some (.int a), some (.ref D), none] ∧ H' D = some (.lst (zs.map fun s => V.str (SS s))) ∧ zs.length = many ∧ zs.Nodup ∧ (∀ s ∈ zs, 1 ≤ s.length ∧ s.length ≤ 6 ∧ ∀ c ∈ s, 97 ≤ c ∧ c ≤ 122) ∧ Src H' h l ∧ Bar h l H H') ?_ (fun out => ?_)
      · rintro σ' H' ⟨zs, rfl, eD', lz, nd, ea, sr', br'⟩
        refine ⟨_, rfl, D, zs.map SS, rfl, SqL.of (by rw [eD']; simp), by simp [lz]; omega, fun ys p' pm so np => ?_⟩
        obtain ⟨ns, ok, rfl⟩ := names_of lz nd ea pm so
        have np0 := br'.free sr' np
        refine ⟨p', _, rfl, .inl ⟨SqL.of upd_same, fun r nr => ?_⟩⟩
        have nr0 := (br'.fresh (o := .lst ((ns.map SS).map V.str)) np0).free (sr'.updn np) nr
        refine q r ns _ ok ((sr'.updn np).updn nr) ((br'.fresh np0).fresh nr0) nr0 ?_
        rw [upd_same, VN_eq]
      · have eaN := nms_each (n := many) (a := a) f5 fl
        have same : (∃ zs : List (List Nat), zs = nms F0 a many) := ⟨_, rfl⟩
        refine ⟨_, rfl, _, rfl, szS5 f5, _, _, rfl, rfl, _, rfl, ?_⟩
        refine ite2 (fun c1 => ?_) (fun c1 => ?_)
        · refine ⟨_, rfl, h, l, 2, rfl, sr, by decide, by decide, fun y H5 y0 y1 src5 bar5 => ?_⟩
          have eD5 := bar5 _ _ nDh nDl eD
          refine ⟨rfl, _, rfl, ?_⟩
          refine ite2 (fun c2 => ?_) (fun c2 => ?_)
          · have hz : ((nms F0 a many).map fun s => V.str (SS s))[0]? = some (V.str (SS (nmAt F0 a 0))) := by
              rw [List.getElem?_map]
              unfold nms
              rw [List.getElem?_map, List.getElem?_range m0]
              rfl
            refine ⟨_, rfl, D, _, 0, _, rfl, rfl, SqL.of eD5, atI_nat (j := 0) hz, _, _, rfl, rfl, ?_, _, rfl, D, _, _, 0, rfl, rfl, eD5, ?_, ?_⟩
            · rw [SS_len]
              simp only [nmAt, List.length_append, List.length_singleton]
              show F0.length + 1 + 1 ≤ sizeLine
              exact sz5 (by omega)
            · rw [List.length_map, nms_len]
              exact ixN_zero m0
            · refine out _ _ ⟨(nms F0 a many).set 0 (nmAt F0 a 0 ++ [111]), rfl, ?_, by simp [nms_len], nms_set m1 m0, ?_, src5.put nDh nDl, (br.trans bar5).fresh nD0⟩
              · rw [upd_same, List.map_set]
                have e : SS (nmAt F0 a 0) ++ ("o" : Str) = SS (nmAt F0 a 0 ++ [111]) := SS_app (nmAt F0 a 0) [111]
                rw [e]
              · intro s hs
                have lt4 : F0.length < 5 := by
                  rw [SS_len] at c1
                  exact Int.ofNat_lt.mp (of_decide_eq_true c1)
                rcases List.mem_or_eq_of_mem_set hs with hs | rfl
                · obtain ⟨a1, a2, a3⟩ := eaN s hs
                  exact ⟨a1, by omega, a3⟩
                · refine ⟨by simp, by simp [nmAt]; omega, fun c hc => ?_⟩
                  rcases List.mem_append.mp hc with hc | hc
                  · rcases List.mem_append.mp hc with hc | hc
                    · exact fl c hc
                    · rw [List.mem_singleton.mp hc]
                      omega
                  · rw [List.mem_singleton.mp hc]
                    decide
          · exact out _ _ ⟨nms F0 a many, rfl, eD5, nms_len _ _ _, nms_nodup m1, fun s hs => ⟨(eaN s hs).1, by have := (eaN s hs).2.1; omega, (eaN s hs).2.2⟩, src5, br.trans bar5⟩
        · exact out _ _ ⟨nms F0 a many, rfl, eD, nms_len _ _ _, nms_nodup m1, fun s hs => ⟨(eaN s hs).1, by have := (eaN s hs).2.1; omega, (eaN s hs).2.2⟩, sr, br⟩
end
end K14
namespace K14
open PySem PySem.Spec PyProof.Rows L2
def VI (s : List Nat) : List V := s.map fun j => V.int (j : Nat)
theorem VI_len (s : List Nat) : (VI s).length = s.length := List.length_map _
theorem VI_app (s t : List Nat) : VI (s ++ t) = VI s ++ VI t := List.map_append
theorem VI_get {s : List Nat} {i j : Nat} (h : s[i]? = some j) : (VI s)[i]? = some (.int (j : Nat)) := by unfold VI; rw [List.getElem?_map, h]; rfl
def VI1 : V → Nat
  | .int i => i.toNat
  | _ => 0
theorem perm_VI {ys : List V} {s : List Nat} (p : ys.Perm (VI s)) : ∃ t, ys = VI t ∧ t.Perm s := by
  have e1 : ys = VI (ys.map VI1) := by
    unfold VI
    rw [List.map_map]
    symm
    refine (List.map_congr_left ?_).trans (List.map_id ys)
    intro y hy
    obtain ⟨j, _, rfl⟩ := List.mem_map.mp (p.mem_iff.mp hy)
    rfl
  refine ⟨ys.map VI1, e1, ?_⟩
  have h := p.map VI1
  have e2 : (VI s).map VI1 = s := by
    unfold VI
    rw [List.map_map]
    refine (List.map_congr_left ?_).trans (List.map_id s)
    intro y _
    rfl
  rwa [e2] at h
/-- a row of tuples of numbers, at these places -/
def Rws (H : Hp) (as : List Addr) (ls : List (List Nat)) : Prop := as.length = ls.length ∧ ∀ (i : Nat) (a : Addr) (s : List Nat), as[i]? = some a → ls[i]? = some s → Tp H a (VI s)
/-- a tuple of tuples of numbers -/
def LT (H : Hp) (r : Addr) (ls : List (List Nat)) : Prop := ∃ as : List Addr, H r = some (.tup (as.map V.ref)) ∧ Rws H as ls
theorem tup_bar {H H' : Hp} {h l p : Addr} {xs : List V} (s : Src H h l) (b : Bar h l H H') (e : H p = some (.tup xs)) : H' p = some (.tup xs) := by
  obtain ⟨n1, n2⟩ := s.ne e (fun _ z => by cases z)
  exact b p _ n1 n2 e
theorem Rws.bar {H H' : Hp} {h l : Addr} {as : List Addr} {ls : List (List Nat)} (t : Rws H as ls) (s : Src H h l) (b : Bar h l H H') : Rws H' as ls := ⟨t.1, fun i a x e1 e2 => (t.2 i a x e1 e2).imp (tup_bar s b) (fun e => e.bar s b)⟩
theorem LT.bar {H H' : Hp} {h l r : Addr} {ls : List (List Nat)} (t : LT H r ls) (s : Src H h l) (b : Bar h l H H') : LT H' r ls := by
  obtain ⟨as, e, q⟩ := t
  exact ⟨as, tup_bar s b e, q.bar s b⟩
theorem Rws.same {H H' : Hp} {as : List Addr} {ls : List (List Nat)} (t : Rws H as ls) (b : Same H H') : Rws H' as ls := ⟨t.1, fun i a x e1 e2 => (t.2 i a x e1 e2).same b⟩
theorem LT.same {H H' : Hp} {r : Addr} {ls : List (List Nat)} (t : LT H r ls) (b : Same H H') : LT H' r ls := by
  obtain ⟨as, e, q⟩ := t
  exact ⟨as, b _ _ e, q.same b⟩
theorem LT.updn {H : Hp} {r p : Addr} {o : HO} {ls : List (List Nat)} (t : LT H r ls) (n : H p = none) : LT (upd H p o) r ls := t.same (same_upd n)
/-- a tuple of tuples of numbers, each known whole -/
def LX (H : Hp) (r : Addr) (ls : List (List Nat)) : Prop := ∃ as : List Addr, H r = some (.tup (as.map V.ref)) ∧ as.length = ls.length ∧ ∀ (i : Nat) (a : Addr) (s : List Nat), as[i]? = some a → ls[i]? = some s → Ex H a (VI s)
theorem LX.lt {H : Hp} {r : Addr} {ls : List (List Nat)} (t : LX H r ls) : LT H r ls := let ⟨as, e, l, q⟩ := t; ⟨as, e, l, fun i a s e1 e2 => .inr (q i a s e1 e2)⟩
theorem LX.same {H H' : Hp} {r : Addr} {ls : List (List Nat)} (t : LX H r ls) (b : Same H H') : LX H' r ls := let ⟨as, e, l, q⟩ := t; ⟨as, b _ _ e, l, fun i a s e1 e2 => (q i a s e1 e2).same b⟩
theorem LX.bar {H H' : Hp} {h l r : Addr} {ls : List (List Nat)} (t : LX H r ls) (s : Src H h l) (b : Bar h l H H') : LX H' r ls := let ⟨as, e, le, q⟩ := t; ⟨as, tup_bar s b e, le, fun i a x e1 e2 => (q i a x e1 e2).bar s b⟩
/-- lists both ways -/
structure ListsOk (many : Nat) (ls : List (List Nat)) : Prop where
  len : ls.length = many
  nd : ∀ (i : Nat) (s : List Nat), ls[i]? = some s → s.Nodup
  both : ∀ (i : Nat) (s : List Nat) (j : Nat), ls[i]? = some s → j ∈ s → j < many ∧ j ≠ i ∧ ∃ t : List Nat, ls[j]? = some t ∧ i ∈ t
/-- lists while they grow: all pairs of whom the lesser one is below a, or is a, and the greater one below b, are behind -/
structure Grow (many a b : Nat) (L : Nat → List Nat) : Prop where
  nd : ∀ i, (L i).Nodup
  both : ∀ i j, j ∈ L i → j < many ∧ i < many ∧ j ≠ i ∧ i ∈ L j
  past : ∀ i j, i < j → j ∈ L i → i < a ∨ (i = a ∧ j < b)
def putL (L : Nat → List Nat) (i x : Nat) : Nat → List Nat := fun k => if k = i then L i ++ [x] else L k
theorem Grow.nil {many a b : Nat} : Grow many a b (fun _ => []) := ⟨fun _ => List.nodup_nil, fun _ _ h => (by cases h), fun _ _ _ h => (by cases h)⟩
theorem Grow.mono {many a b a' b' : Nat} {L : Nat → List Nat} (g : Grow many a b L) (h : ∀ i j, i < j → j < many → (i < a ∨ (i = a ∧ j < b)) → (i < a' ∨ (i = a' ∧ j < b'))) : Grow many a' b' L :=
  ⟨g.nd, g.both, fun i j ij m => h i j ij (g.both i j m).1 (g.past i j ij m)⟩
theorem mem_putL {L : Nat → List Nat} {i x k y : Nat} : y ∈ putL L i x k ↔ y ∈ L k ∨ (k = i ∧ y = x) := by
  unfold putL
  split
  · rename_i e
    subst e
    simp
  · rename_i e
    simp [e]
theorem Grow.put {many a b : Nat} {L : Nat → List Nat} (g : Grow many a b L) (ab : a < b) (bm : b < many) : Grow many a (b + 1) (putL (putL L a b) b a) := by
  have n1 : b ∉ L a := fun h => by
    have := g.past a b ab h
    omega
  have n2 : a ∉ L b := fun h => n1 (g.both b a h).2.2.2
  refine ⟨fun i => ?_, fun i j h => ?_, fun i j ij h => ?_⟩
  · unfold putL
    split
    · rename_i e
      subst e
      rw [if_neg (by omega)]
      rw [List.nodup_append]
      refine ⟨g.nd _, by simp, fun x hx y hy e => ?_⟩
      rw [List.mem_singleton.mp hy] at e
      subst e
      exact n2 hx
    · split
      · rename_i e
        subst e
        rw [List.nodup_append]
        refine ⟨g.nd _, by simp, fun x hx y hy e => ?_⟩
        rw [List.mem_singleton.mp hy] at e
        subst e
        exact n1 hx
      · exact g.nd _
  · rw [mem_putL, mem_putL] at h
    have e : i ∈ putL (putL L a b) b a j ↔ (i ∈ L j ∨ (j = a ∧ i = b)) ∨ (j = b ∧ i = a) := by rw [mem_putL, mem_putL]
    rw [e]
    rcases h with (h | ⟨rfl, rfl⟩) | ⟨rfl, rfl⟩
    · obtain ⟨h1, h2, h3, h4⟩ := g.both i j h
      exact ⟨h1, h2, h3, .inl (.inl h4)⟩
    · exact ⟨bm, by omega, by omega, .inr ⟨rfl, rfl⟩⟩
    · exact ⟨by omega, bm, by omega, .inl (.inr ⟨rfl, rfl⟩)⟩
  · rw [mem_putL, mem_putL] at h
    rcases h with (h | ⟨rfl, rfl⟩) | ⟨rfl, rfl⟩
    · have := g.past i j ij h
      omega
    · right
      omega
    · omega
theorem Grow.ok {many a b : Nat} {L : Nat → List Nat} {ls : List (List Nat)} (g : Grow many a b L) (l : ls.length = many) (p : ∀ (i : Nat) (s : List Nat), ls[i]? = some s → s.Perm (L i)) : ListsOk many ls := by
  refine ⟨l, fun i s e => (p i s e).nodup_iff.mpr (g.nd i), fun i s j e hj => ?_⟩
  obtain ⟨h1, h2, h3, h4⟩ := g.both i j ((p i s e).mem_iff.mp hj)
  have hl : j < ls.length := by omega
  exact ⟨h1, h3, ls[j], List.getElem?_eq_getElem hl, (p j _ (List.getElem?_eq_getElem hl)).mem_iff.mpr h4⟩
theorem nodup_ix {α : Type} : ∀ {rs : List α} {i j : Nat} {r : α}, rs.Nodup → rs[i]? = some r → rs[j]? = some r → i = j
  | [], i, j, r, _, e, _ => by simp at e
  | a :: t, 0, 0, r, _, _, _ => rfl
  | a :: t, i + 1, j + 1, r, nd, e1, e2 => by
    exact congrArg (· + 1) (nodup_ix (List.nodup_cons.mp nd).2 (by simpa using e1 : t[i]? = some r) (by simpa using e2 : t[j]? = some r))
  | a :: t, 0, j + 1, r, nd, e1, e2 => by
    have h1 : a = r := by simpa using e1
    have h2 : t[j]? = some r := by simpa using e2
    subst h1
    exact absurd (List.mem_of_getElem? h2) (List.nodup_cons.mp nd).1
  | a :: t, i + 1, 0, r, nd, e1, e2 => by
    have h1 : a = r := by simpa using e2
    have h2 : t[i]? = some r := by simpa using e1
    subst h1
    exact absurd (List.mem_of_getElem? h2) (List.nodup_cons.mp nd).1
theorem _root_.List.Nodup.length_le_card_of_sub : ∀ {n : Nat} {s : List Nat}, s.Nodup → (∀ x ∈ s, x < n) → s.length ≤ n := by
  intro n
  induction n with
  | zero =>
    intro s _ h
    cases s with
    | nil => exact Nat.le_refl _
    | cons a r => exact absurd (h a (by simp)) (by omega)
  | succ n ih =>
    intro s nd h
    have h1 : (s.erase n).length ≤ n := by
      refine ih (nd.erase n) fun x hx => ?_
      have hx' := (List.Nodup.mem_erase_iff nd).mp hx
      have := h x hx'.2
      omega
    have h2 := List.length_erase (a := n) (l := s)
    split at h2 <;> omega
theorem row_put {H : Hp} {rs : List Addr} {L : Nat → List Nat} {i x : Nat} {r : Addr} (nd : rs.Nodup) (e : rs[i]? = some r) (h : ∀ k q, rs[k]? = some q → H q = some (.lst (VI (L k)))) : ∀ k q, rs[k]? = some q → (upd H r (.lst (VI (L i) ++ [V.int (x : Nat)]))) q = some (.lst (VI (putL L i x k))) := by
  intro k q ek
  unfold putL
  by_cases c : k = i
  · subst c
    rw [e] at ek
    cases ek
    rw [upd_same, if_pos rfl, VI_app]
    rfl
  · rw [if_neg c, upd_ne, h k q ek]
    intro z
    subst z
    exact c (nodup_ix nd ek e)
end K14
namespace K14
open PySem PySem.Spec PyProof.Rows L2
/-- plain values -/
inductive Pl (H : Hp) : V → Prop where
  | non : Pl H .non
  | bl (b : Bool) : Pl H (.bl b)
  | int (i : Int) : Pl H (.int i)
  | str (s : Str) : Pl H (.str s)
  | lst {a : Addr} {xs : List V} (e : H a = some (.lst xs)) : Pl H (.ref a)
  | tup {a : Addr} {xs : List V} (e : H a = some (.tup xs)) : Pl H (.ref a)
def isNum : V → Bool
  | .int i => decide (0 ≤ i)
  | _ => false
def isBel (v : V) (n : Nat) : Bool := match v with
  | .int i => decide (0 ≤ i) && decide (i < n)
  | _ => false
def tupOf (H : Hp) : V → Option (List V)
  | .ref a => match H a with
    | some (.tup xs) => some xs
    | _ => none
  | _ => none
def spIsNumber : Sp := fun vs H Q _ => ∃ v : V, vs = [v] ∧ Pl H v ∧ Q (.bl (isNum v)) H
def spIsBelow : Sp := fun vs H Q _ => ∃ (v : V) (n : Nat), vs = [v, .int n] ∧ Pl H v ∧ Q (.bl (isBel v n)) H
def spIsTupleOf : Sp := fun vs H Q _ => ∃ (v : V) (n : Nat), vs = [v, .int n] ∧ Pl H v ∧ (∀ xs, tupOf H v = some xs → xs.length ≤ 100000) ∧ Q (.bl (match tupOf H v with | some xs => decide (xs.length = n) | none => false)) H
theorem scIsNumber : FnScope ["value"] ["value"] (defScope sIsNumber) := ⟨rfl, rfl, rfl, by decide +kernel, rfl, by decide +kernel, by decide +kernel⟩
theorem scIsBelow : FnScope ["value", "bound"] ["value", "bound"] (defScope sIsBelow) := ⟨rfl, rfl, rfl, by decide +kernel, rfl, by decide +kernel, by decide +kernel⟩
theorem scIsTupleOf : FnScope ["value", "many"] ["value", "many"] (defScope sIsTupleOf) := ⟨rfl, rfl, rfl, by decide +kernel, rfl, by decide +kernel, by decide +kernel⟩
section
variable {P : Program} {w : World} {K : PySem.W.Frag} {mg : Str → Option Value} {base : Heap}
theorem ok_is_number {f : Addr} {fd : FuncData} {k : Nat} (F : Fun K "is_number" "is_number" sIsNumber f fd) (mis : mg "isinstance" = none) (mi : mg "int" = none) (mb : mg "bool" = none) : FnOk P w K mg base CX0 (k + 1) f fd ["value"] spIsNumber := by
  refine F.ok scIsNumber (fun vs H Q E h => ?_) (fun cdv A outer s H vs Q E hr h => ?_)
  · obtain ⟨v, rfl, _⟩ := h
    rfl
  · obtain ⟨v, rfl, pl, q⟩ := h
    refine ⟨_, pss_one (ps_ret (pe_and (pe_callB call_isi (by rfl) mis (by decide +kernel) (pa_cons (pv 0) (pa_cons (pe_bltn (v := .ty "int") (by rfl) mi (by decide +kernel) rfl) pa_nil)))
      (pe_and (pe_not (pe_callB call_isi (by rfl) mis (by decide +kernel) (pa_cons (pv 0) (pa_cons (pe_bltn (v := .ty "bool") (by rfl) mb (by decide +kernel) rfl) pa_nil))))
      (pe_one (pe_cmp (pc_ge (pv 0) pe_int) rfl))))), ?_⟩
    cases pl with
    | non => exact (⟨_, rfl, _, _, _, _, false, rfl, .ty _, .base .non, kit_ty (by decide +kernel), ⟨false, rfl, q⟩⟩)
    | bl b => exact (⟨_, rfl, _, _, _, _, true, rfl, .ty _, .base (.bl b), kit_ty (by decide +kernel), ⟨true, rfl, iteT ((⟨_, rfl, _, _, _, _, true, rfl, .ty _, .base (.bl b), kit_ty (by decide +kernel), ⟨_, rfl, _, rfl, q⟩⟩))⟩⟩)
    | int i => exact (⟨_, rfl, _, _, _, _, true, rfl, .ty _, .base (.int i), kit_ty (by decide +kernel), ⟨true, rfl, iteT ((⟨_, rfl, _, _, _, _, false, rfl, .ty _, .base (.int i), kit_ty (by decide +kernel), ⟨_, rfl, _, rfl, iteT ⟨_, rfl, _, _, rfl, rfl, q⟩⟩⟩))⟩⟩)
    | str s => exact (⟨_, rfl, _, _, _, _, false, rfl, .ty _, .base (.str s), kit_ty (by decide +kernel), ⟨false, rfl, q⟩⟩)
    | lst e => exact (⟨_, rfl, _, _, _, _, false, rfl, .ty _, .base (.lst e), kit_ty (by decide +kernel), ⟨false, rfl, q⟩⟩)
    | tup e => exact (⟨_, rfl, _, _, _, _, false, rfl, .ty _, .base (.tup e), kit_ty (by decide +kernel), ⟨false, rfl, q⟩⟩)
theorem ok_is_below {f g : Addr} {fd gd : FuncData} {k : Nat} (F : Fun K "is_below" "is_below" sIsBelow f fd) (G : FnOk P w K mg base CX0 k g gd ["value"] spIsNumber) (bG : Binds K gd ["value"] []) (kG : PySem.W.keepIn K (.ref g) = true) (mG : mg "is_number" = some (.ref g)) : FnOk P w K mg base CX0 (k + 1) f fd ["value", "bound"] spIsBelow := by
  refine F.ok scIsBelow (fun vs H Q E h => ?_) (fun cdv A outer s H vs Q E hr h => ?_)
  · obtain ⟨v, n, rfl, _⟩ := h
    rfl
  · obtain ⟨v, n, rfl, pl, q⟩ := h
    refine ⟨_, pss_one (ps_ret (pe_and (pe_call G hr rfl mG kG bG .nil pass0 (pa_cons (pv 0) pa_nil)) (pe_one (pe_cmp (pc_lt (pv 0) (pv 1)) rfl)))), ?_⟩
    refine ⟨_, rfl, v, rfl, pl, isNum v, rfl, ?_⟩
    cases v with
    | int i =>
      refine ite2 (fun c => ?_) (fun c => ?_)
      · refine ⟨_, rfl, _, rfl, _, _, rfl, rfl, ?_⟩
        have e : isBel (.int i) n = decide (i < n) := by
          show (decide (0 ≤ i) && decide (i < n)) = _
          rw [show decide (0 ≤ i) = true from c]
          rfl
        rw [e] at q
        exact q
      · have e : isBel (.int i) n = false := by
          show (decide (0 ≤ i) && decide (i < n)) = _
          rw [show decide (0 ≤ i) = false from (by simpa [isNum] using c)]
          rfl
        rw [e] at q
        exact q
    | non => exact q
    | bl b => exact q
    | str s => exact q
    | ref a => exact q
    | byt b => exact q
    | flt b => exact q
    | ty n => exact q
theorem ok_is_tuple_of {f : Addr} {fd : FuncData} {k : Nat} (F : Fun K "is_tuple_of" "is_tuple_of" sIsTupleOf f fd) (mis : mg "isinstance" = none) (mt : mg "tuple" = none) (ml : mg "len" = none) : FnOk P w K mg base CX0 (k + 1) f fd ["value", "many"] spIsTupleOf := by
  refine F.ok scIsTupleOf (fun vs H Q E h => ?_) (fun cdv A outer s H vs Q E hr h => ?_)
  · obtain ⟨v, n, rfl, _⟩ := h
    rfl
  · obtain ⟨v, n, rfl, pl, le, q⟩ := h
    refine ⟨_, pss_one (ps_ret (pe_and (pe_callB call_isi (by rfl) mis (by decide +kernel) (pa_cons (pv 0) (pa_cons (pe_bltn (v := .ty "tuple") (by rfl) mt (by decide +kernel) rfl) pa_nil)))
      (pe_one (pe_cmp (pc_eqI (pe_callB call_len_seq (by rfl) ml PySem.boot_len (pa_cons (pv 0) pa_nil)) (pv 1)) rfl)))), ?_⟩
    cases pl with
    | non => exact (⟨_, rfl, _, _, _, _, false, rfl, .ty _, .base .non, kit_ty (by decide +kernel), ⟨false, rfl, q⟩⟩)
    | bl b => exact (⟨_, rfl, _, _, _, _, false, rfl, .ty _, .base (.bl b), kit_ty (by decide +kernel), ⟨false, rfl, q⟩⟩)
    | int i => exact (⟨_, rfl, _, _, _, _, false, rfl, .ty _, .base (.int i), kit_ty (by decide +kernel), ⟨false, rfl, q⟩⟩)
    | str s => exact (⟨_, rfl, _, _, _, _, false, rfl, .ty _, .base (.str s), kit_ty (by decide +kernel), ⟨false, rfl, q⟩⟩)
    | @lst a xs e =>
      refine (⟨_, rfl, _, _, _, _, false, rfl, .ty _, .base (.lst e), kit_ty (by decide +kernel), ⟨false, rfl, ?_⟩⟩)
      have t : tupOf H (.ref a) = none := by simp [tupOf, e]
      rw [t] at q
      exact q
    | @tup a xs e =>
      have t : tupOf H (.ref a) = some xs := by simp [tupOf, e]
      refine (⟨_, rfl, _, _, _, _, true, rfl, .ty _, .base (.tup e), kit_ty (by decide +kernel), ⟨true, rfl, iteT ⟨_, rfl, a, xs, rfl, .inr (SqT.of e), _, rfl, _, _, rfl, rfl, ?_⟩⟩⟩)
      rw [t] at q
      have e2 : decide ((xs.length : Int) = (n : Int)) = decide (xs.length = n) := by
        rw [decide_eq_decide]
        omega
      show Q (.bl (decide ((xs.length : Int) = (n : Int)))) H
      rw [e2]
      exact q
end
end K14
namespace K14
open PySem PySem.Spec PyProof.Rows L2
theorem _root_.L2.Same.fresh {H H' : Hp} {p : Addr} {o : HO} (s : Same H H') (n : H p = none) : Same H (upd H' p o) := fun b x e => by
  rw [upd_ne (ne_of_none e n)]
  exact s b x e
theorem sz6' {n : Nat} (h : n ≤ 100000) : n < sizeLine := Nat.lt_of_le_of_lt h (by decide)
theorem range_snoc (f : Nat → V) (i : Nat) : (List.range (i + 1)).map f = (List.range i).map f ++ [f i] := by simp [List.range_succ]
section
variable {J : It} {n : Nat} {G : Hp → Prop} {Y : Nat → Hp → V → Hp → Prop}
/-- a comprehension that leaves all as it stood -/
theorem lc_same (w : Walk J n G Y) {g : TG} {te : TE} {vs : List Nat} {σ : L2.St} {H0 : Hp} {D : Addr} {Qd : Hp → Prop} (hn : n ≤ 100000) (f : Nat → V) (nD : H0 D = none) (hG : ∀ H, Same H0 H → G H)
    (hs : ∀ (i : Nat) (x : V) (H H' : Hp) (Z : V → Hp → Prop), (∀ H3, Same H H3 → Z (f i) H3) → i < n → Same H0 H → Y i H x H' → g x (wipe σ vs) H' fun σ2 H2 => wipe σ2 vs = wipe σ vs ∧ te σ2 H2 Z)
    (hd : ∀ H, Same H0 H → H D = some (.lst ((List.range n).map f)) → Qd H) :
    ∃ W : Nat → Nat → Hp → Prop, (∃ m, W 0 m (upd H0 D (.lst []))) ∧ ∀ i m H, W i m H →
      (J.stop i H ∧ Qd H) ∨ (J.go i H ∧ ∃ Nx : Hp → Prop, (∀ H', Nx H' → ∃ m', m' < m ∧ W (i + 1) m' H') ∧ ∀ x H', J.yld i H x H' → g x (wipe σ vs) H' fun σ2 H2 => wipe σ2 vs = wipe σ vs ∧ tYes σ2 H2 fun b H3 =>
        if b = true then te σ2 H3 fun y H4 => ∃ acc, H4 D = some (.lst acc) ∧ acc.length < sizeLine ∧ Nx (upd H4 D (.lst (acc ++ [y]))) else Nx H3) := by
  refine lc_it w (fun i H => Same H0 H ∧ H D = some (.lst ((List.range i).map f))) ⟨same_upd nD, upd_same⟩ (fun i H _ h => hG H h.1) (fun i x H H' hi h y => ?_) (fun H h => hd H h.1 h.2)
  refine hs i x H H' (fun v H3 => ∃ acc, H3 D = some (.lst acc) ∧ acc.length < sizeLine ∧ (fun H => Same H0 H ∧ H D = some (.lst ((List.range (i + 1)).map f))) (upd H3 D (.lst (acc ++ [v])))) (fun H3 z => ?_) hi h.1 y
  refine ⟨_, z _ _ h.2, ?_, (h.1.trans z).fresh nD, ?_⟩
  · rw [List.length_map, List.length_range]
    exact sz6' (by omega)
  · rw [upd_same, range_snoc]
end
end K14
namespace K14
open PySem PySem.Spec PyProof.Rows L2
def spIsName : Sp := fun vs H Q _ => ∃ s : List Nat, vs = [.str (SS s)] ∧ 1 ≤ s.length ∧ s.length ≤ 6 ∧ (∀ c ∈ s, 97 ≤ c ∧ c ≤ 122) ∧ ∀ H', Same H H' → Q (.bl true) H'
theorem scIsName : FnScope ["value", "sign"] ["value"] (defScope sIsName) := ⟨rfl, rfl, rfl, by decide +kernel, rfl, by decide +kernel, by decide +kernel⟩
theorem all_true (n : Nat) : ((List.range n).map fun _ => true).all id = true := by simp
theorem bl_true (n : Nat) : ((List.range n).map fun _ => V.bl true) = ((List.range n).map fun _ => true).map V.bl := by simp
theorem le_one {a c : Nat} (h : a ≤ c) : (!decide ([c] < [a])) = true := by
  rw [Bool.not_eq_true', decide_eq_false_iff_not]
  intro z
  rw [List.cons_lt_cons_iff] at z
  rcases z with z | ⟨_, z⟩
  · omega
  · exact absurd z (List.not_lt_nil _)
def spArePersons : Sp := fun vs H Q _ => ∃ (a : Addr) (s : List Nat) (n : Nat), vs = [.ref a, .int n] ∧ Tp H a (VI s) ∧ s.length ≤ 1000 ∧ (∀ j ∈ s, j < n) ∧ ∀ H', Same H H' → Q (.bl true) H'
theorem scArePersons : FnScope ["value", "many", "person"] ["value", "many"] (defScope sArePersons) := ⟨rfl, rfl, rfl, by decide +kernel, rfl, by decide +kernel, by decide +kernel⟩
def spAreUnlike : Sp := fun vs H Q _ => ∃ (a : Addr) (s : List Nat) (n : Nat), vs = [.ref a, .int n] ∧ Tp H a (VI s) ∧ s.length ≤ 1000 ∧ s.Nodup ∧ (∀ j ∈ s, j < n) ∧ ∀ H', Same H H' → Q (.bl true) H'
theorem scAreUnlike : FnScope ["value", "many"] ["value", "many"] (defScope sAreUnlike) := ⟨rfl, rfl, rfl, by decide +kernel, rfl, by decide +kernel, by decide +kernel⟩
theorem Tp.ty {K : PySem.W.Frag} {H : Hp} {a : Addr} {xs : List V} (t : Tp H a xs) : TyX K H (.ref a) (.type "tuple") := by
  rcases t with e | ⟨o, _, _, e⟩
  · exact .base (.tup e)
  · exact .fTuple e
theorem VI_ints (s : List Nat) : VI s = (s.map fun j => ((j : Nat) : Int)).map V.int := by simp [VI]
section
variable {P : Program} {w : World} {K : PySem.W.Frag} {mg : Str → Option Value} {base : Heap}
theorem ok_is_name {f : Addr} {fd : FuncData} {k : Nat} {t6 : Tok} (F : Fun K "is_name" "is_name" sIsName f fd) (mis : mg "isinstance" = none) (ms : mg "str" = none) (ml : mg "len" = none) (ma : mg "all" = none) (m6 : mg "MOST_LETTERS" = some (.int 6 t6)) : FnOk P w K mg base CX0 (k + 1) f fd ["value"] spIsName := by
  refine F.ok scIsName (fun vs H Q E h => ?_) (fun cdv A outer s H vs Q E hr h => ?_)
  · obtain ⟨s, rfl, _⟩ := h
    rfl
  · obtain ⟨s, rfl, l1, l6, let_, q⟩ := h
    refine ⟨_, pss_cons (ps_if (PW.pt (pw_or (pt_not (pt_val (pe_callB call_isi (by rfl) mis (by decide +kernel) (pa_cons (pv 0) (pa_cons (pe_bltn (v := .ty "str") (by rfl) ms (by decide +kernel) rfl) pa_nil)))))
        (pw_or1 (pt_not (pt_chain op_le op_le pe_int (pe_callB call_len_str (by rfl) ml PySem.boot_len (pa_cons (pv 0) pa_nil)) (pe_glob (v := .int 6) rfl m6 ⟨_, rfl⟩)))))) (pss_one ps_never) pss_nil)
      (pss_one (ps_ret (pe_callB (cr_all rfl) (by rfl) ma (by decide +kernel) (pa_cons (pe_lc (own := [("sign", 1)]) (g := gName 1) (tt := tYes) rfl scIsName.nd (pi_str (pv 0))
          (blkOk_by (own := [("sign", 1)]) (N := ["value", "sign"]) (sc := defScope sIsName) (by decide +kernel)) (fun _ _ _ _ _ => pg_name (i := 1) scIsName.nd rfl (Or.inl rfl)) (fun _ _ _ _ _ => pts_nil)
          (fun _ _ _ _ _ => pe_chain op_le_str op_le_str pe_str (pv 1) pe_str)) pa_nil)))), ?_⟩
    refine (⟨_, rfl, _, _, _, _, true, rfl, .ty _, .base (.str _), kit_ty (by decide +kernel), ⟨_, rfl, iteF ?_⟩⟩)
    refine ⟨_, rfl, _, rfl, by rw [SS_len]; exact sz5 (by omega), _, _, rfl, rfl, _, rfl, ?_⟩
    rw [SS_len]
    have c1 : decide ((1 : Int) ≤ (s.length : Nat)) = true := by simp; omega
    rw [c1]
    refine iteT ⟨_, _, rfl, rfl, ?_⟩
    have c2 : decide (((s.length : Nat) : Int) ≤ 6) = true := by simp; omega
    refine ⟨_, rfl, ?_⟩
    dsimp only
    rw [c2]
    refine iteF ⟨_, rfl, _, rfl, fun D nD => ?_⟩
    refine lc_same walk_str (by show s.length ≤ 100000; omega) (fun _ => .bl true) nD (fun _ _ => trivial) ?_ ?_
    · rintro i x H1 H2 Z out hi sm ⟨rfl, c, ec, rfl⟩
      have hc := let_ c (List.mem_of_getElem? (by simpa using ec))
      refine gn ⟨rfl, _, rfl, _, _, rfl, rfl, true, ?_, iteT ⟨_, _, rfl, rfl, ?_⟩⟩
      · exact congrArg V.bl (le_one hc.1)
      · have e : (!decide (("z" : Str).cps.toList < (⟨#[c]⟩ : Str).cps.toList)) = true := le_one hc.2
        rw [e]
        exact out _ (fun _ _ e => e)
    · intro H1 sm e1
      refine ⟨D, _, rfl, SqL.of (by rw [e1, bl_true]), ?_⟩
      rw [all_true]
      exact q _ sm
theorem ok_are_persons {f g : Addr} {fd gd : FuncData} {k : Nat} (F : Fun K "are_persons" "are_persons" sArePersons f fd) (G : FnOk P w K mg base CX0 k g gd ["value", "bound"] spIsBelow) (bG : Binds K gd ["value", "bound"] []) (kG : PySem.W.keepIn K (.ref g) = true) (mG : mg "is_below" = some (.ref g)) (mis : mg "isinstance" = none) (mt : mg "tuple" = none) (ma : mg "all" = none) : FnOk P w K mg base CX0 (k + 1) f fd ["value", "many"] spArePersons := by
  refine F.ok scArePersons (fun vs H Q E h => ?_) (fun cdv A outer s H vs Q E hr h => ?_)
  · obtain ⟨a, s, n, rfl, _⟩ := h
    rfl
  · obtain ⟨a, s, n, rfl, es, l6, lt, q⟩ := h
    refine ⟨_, pss_one (ps_ret (pe_and (pe_callB call_isi (by rfl) mis (by decide +kernel) (pa_cons (pv 0) (pa_cons (pe_bltn (v := .ty "tuple") (by rfl) mt (by decide +kernel) rfl) pa_nil)))
      (pe_one (pe_callB (cr_all rfl) (by rfl) ma (by decide +kernel) (pa_cons (pe_lc (own := [("person", 2)]) (g := gName 2) (tt := tYes) rfl scArePersons.nd (pi_tup (pv 0))
          (blkOk_by (own := [("person", 2)]) (N := ["value", "many", "person"]) (sc := defScope sArePersons) (by decide +kernel)) (fun _ _ _ _ _ => pg_name (i := 2) scArePersons.nd rfl (Or.inl rfl)) (fun _ _ _ _ _ => pts_nil)
          (fun _ _ _ _ _ => pe_call G hr rfl mG kG bG .nil pass0 (pa_cons (pv 2) (pa_cons (pv 1) pa_nil)))) pa_nil))))), ?_⟩
    refine (⟨_, rfl, _, _, _, _, true, rfl, .ty _, Tp.ty es, kit_ty (by decide +kernel), ⟨_, rfl, iteT ⟨_, rfl, a, rfl, ⟨_, es.sq⟩, fun D nD => ?_⟩⟩⟩)
    refine lc_same (walk_tup (K := K) (a := a) (xs := VI s)) (by rw [VI_len]; omega) (fun _ => .bl true) nD (fun _ sm => (es.same sm).sq) ?_ ?_
    · rintro i x H1 H2 Z out hi sm ⟨rfl, ex⟩
      obtain ⟨j, hj, rfl⟩ := List.mem_map.mp (List.mem_of_getElem? ex)
      refine gn ⟨rfl, _, rfl, _, rfl, .int j, n, rfl, .int _, ?_⟩
      have e : isBel (.int (j : Nat)) n = true := by
        have := lt j hj
        simp [isBel]
        exact this
      rw [e]
      exact out _ (fun _ _ e => e)
    · intro H1 sm e1
      refine ⟨D, _, rfl, SqL.of (by rw [e1, bl_true]), ?_⟩
      rw [all_true]
      exact q _ sm
theorem ok_are_unlike {f g : Addr} {fd gd : FuncData} {k : Nat} (F : Fun K "are_unlike_persons" "are_unlike_persons" sAreUnlike f fd) (G : FnOk P w K mg base CX0 k g gd ["value", "many"] spArePersons) (bG : Binds K gd ["value", "many"] []) (kG : PySem.W.keepIn K (.ref g) = true) (mG : mg "are_persons" = some (.ref g)) (ml : mg "len" = none) (ms : mg "set" = none) : FnOk P w K mg base CX0 (k + 1) f fd ["value", "many"] spAreUnlike := by
  refine F.ok scAreUnlike (fun vs H Q E h => ?_) (fun cdv A outer s H vs Q E hr h => ?_)
  · obtain ⟨a, s, n, rfl, _⟩ := h
    rfl
  · obtain ⟨a, s, n, rfl, es, l6, nd, lt, q⟩ := h
    refine ⟨_, pss_one (ps_ret (pe_and (pe_call G hr rfl mG kG bG .nil pass0 (pa_cons (pv 0) (pa_cons (pv 1) pa_nil)))
      (pe_one (pe_cmp (pc_eqI (pe_lenSetT (by rfl) ml (by rfl) ms (pv 0)) (pe_callB call_len_seq (by rfl) ml PySem.boot_len (pa_cons (pv 0) pa_nil))) rfl)))), ?_⟩
    refine ⟨_, rfl, _, rfl, a, s, n, rfl, es, l6, lt, fun H1 sm => ⟨true, rfl, iteT ?_⟩⟩
    refine ⟨_, rfl, a, s.map (fun j => ((j : Nat) : Int)), rfl, by rw [← VI_ints]; exact (es.same sm).sq, ?_, by simpa using l6, ?_⟩
    · exact List.pairwise_map.mpr (List.Pairwise.imp (fun ne e => ne (by omega)) nd)
    · refine ⟨_, rfl, a, VI s, rfl, .inr (es.same sm).sq, _, _, rfl, rfl, ?_⟩
      have e : decide (((s.map (fun j => ((j : Nat) : Int))).length : Int) = ((VI s).length : Nat)) = true := by
        rw [VI_len, List.length_map]
        simp
      show Q (.bl (decide (((s.map (fun j => ((j : Nat) : Int))).length : Int) = ((VI s).length : Nat)))) H1
      rw [e]
      exact q _ sm
end
end K14
namespace K14
open PySem PySem.Spec PyProof.Rows L2
def spLists : Sp := fun vs H Q _ => ∃ (h l : Addr) (many : Nat) (share : Int), vs = [.ref h, .int many, .int share] ∧ Src H h l ∧ many ≤ 100 ∧ 0 < share ∧ share < 1000 ∧
  ∀ (r : Addr) (ls : List (List Nat)) (H' : Hp), ListsOk many ls → Src H' h l → Bar h l H H' → H r = none → LX H' r ls → Q (.ref r) H'
theorem scLists : FnScope ["heap", "many", "share", "found", "one", "other", "person", "row"] ["heap", "many", "share"] (defScope sLists) := ⟨rfl, rfl, rfl, by decide +kernel, rfl, by decide +kernel, by decide +kernel⟩
def RwX (H : Hp) (as : List Addr) (ls : List (List Nat)) : Prop := as.length = ls.length ∧ ∀ (i : Nat) (a : Addr) (s : List Nat), as[i]? = some a → ls[i]? = some s → Ex H a (VI s)
theorem RwX.bar {H H' : Hp} {h l : Addr} {as : List Addr} {ls : List (List Nat)} (t : RwX H as ls) (s : Src H h l) (b : Bar h l H H') : RwX H' as ls := ⟨t.1, fun i a x e1 e2 => (t.2 i a x e1 e2).bar s b⟩
/-- what stands while the lists grow -/
structure RowsAt (H : Hp) (D : Addr) (rs : List Addr) (L : Nat → List Nat) : Prop where
  top : H D = some (.lst (rs.map V.ref))
  row : ∀ (k : Nat) (q : Addr), rs[k]? = some q → H q = some (.lst (VI (L k)))
section
variable {P : Program} {w : World} {K : PySem.W.Frag} {mg : Str → Option Value} {base : Heap}
theorem ok_lists {f g p : Addr} {fd gd pd : FuncData} {k : Nat} (F : Fun K "_law_lists" "_law_lists" sLists f fd) (G : FnOk P w K mg base CX0 k g gd ["heap", "many"] spDraw) (bG : Binds K gd ["heap", "many"] []) (kG : PySem.W.keepIn K (.ref g) = true) (mG : mg "_law_draw" = some (.ref g))
    (R : FnOk P w K mg base CX0 k p pd ["heap", "some"] spShuffled) (bR : Binds K pd ["heap", "some"] []) (kR : PySem.W.keepIn K (.ref p) = true) (mR : mg "_law_shuffled" = some (.ref p)) (mr : mg "range" = none) (mt : mg "tuple" = none) :
    FnOk P w K mg base CX0 (k + 1) f fd ["heap", "many", "share"] spLists := by
  refine F.ok scLists (fun vs H Q E h => ?_) (fun cdv A outer s H vs Q E hr h => ?_)
  · obtain ⟨h, l, many, share, rfl, _⟩ := h
    rfl
  · obtain ⟨h, l, many, share, rfl, src, m1, s0, s1, q⟩ := h
    refine ⟨_, pss_cons (ps_setLc (i := 3) (own := [("person", 6)]) (g := gName 6) (tt := tYes) rfl scLists.nd rfl rfl (sw_true rfl rfl rfl (by decide +kernel)) (pi_range1 rfl mr (pa_cons (pv 1) pa_nil))
          (blkOk_by (own := [("person", 6)]) (N := ["heap", "many", "share", "found", "one", "other", "person", "row"]) (sc := defScope sLists) (by decide +kernel)) (fun _ _ _ _ _ => pg_name (i := 6) scLists.nd rfl (Or.inl rfl)) (fun _ _ _ _ _ => pts_nil)
          (fun _ _ _ _ _ => pe_lst pa_nil))
      (pss_cons (ps_for PassesOwn.never rfl (pi_range1 rfl mr (pa_cons (pv 1) pa_nil)) (pg_name (i := 4) scLists.nd rfl (.inl rfl))
        (pss_one (ps_for PassesOwn.never rfl (pi_range2 (by rfl) mr (pa_cons (pe_op op_add (pv 4) pe_int) (pa_cons (pv 1) pa_nil))) (pg_name (i := 5) scLists.nd rfl (.inl rfl))
          (pss_one (ps_if (pt_cmpR op_gt (pe_call G hr rfl mG kG bG .nil pass0 (pa_cons (pv 0) (pa_cons (pv 2) pa_nil))) pe_int (nomark _))
            (pss_cons (ps_expr (pe_bm PySem.F.plainAttrs_list PySem.F.slot_list_append PySem.F.type_list_append mt_append (pe_ix ix_list (pv 3) (pv 4) (fun _ _ => rfl)) (pa_cons (pv 5) pa_nil)))
            (pss_one (ps_expr (pe_bm PySem.F.plainAttrs_list PySem.F.slot_list_append PySem.F.type_list_append mt_append (pe_ix ix_list (pv 3) (pv 5) (fun _ _ => rfl)) (pa_cons (pv 4) pa_nil)))))
            pss_nil)))))
      (pss_one (ps_ret (pe_callTy call_tuple_of (by rfl) mt (by decide +kernel) (pa_cons (pe_lc (own := [("row", 7)]) (g := gName 7) (tt := tYes) rfl scLists.nd (pi_list (pv 3))
          (blkOk_by (own := [("row", 7)]) (N := ["heap", "many", "share", "found", "one", "other", "person", "row"]) (sc := defScope sLists) (by decide +kernel)) (fun _ _ _ _ _ => pg_name (i := 7) scLists.nd rfl (Or.inl rfl)) (fun _ _ _ _ _ => pts_nil)
          (fun _ _ _ _ _ => pe_call R hr rfl mR kR bR .nil pass0 (pa_cons (pv 0) (pa_cons (pv 7) pa_nil)))) pa_nil))))), ?_⟩
    refine ⟨_, rfl, _, rfl, by omega, by omega, fun D nD => ?_⟩
    obtain ⟨nDh, nDl⟩ := src.new nD
    refine lc_range (lo := 0) (n := many) (fun i H' => ∃ rs : List Addr, RowsAt H' D rs (fun _ => []) ∧ rs.length = i ∧ rs.Nodup ∧ (∀ r ∈ rs, H r = none ∧ r ≠ D) ∧ Src H' h l ∧ Bar h l H H')
      ⟨[], ⟨upd_same, fun k q e => by simp at e⟩, rfl, List.nodup_nil, by simp, src.updn nD, Bar.refl.fresh nD⟩ ?_ ?_
    · rintro i H4 hi ⟨rs, ra, rl, nd, rn, sr, br⟩
      refine gn ⟨rfl, yes ?_⟩
      refine ⟨Nat.zero_le _, fun r nr => ?_⟩
      have nr0 := br.free sr nr
      obtain ⟨nrh, nrl⟩ := sr.new nr
      have nrD : r ≠ D := fun e => by rw [e, ra.top] at nr; cases nr
      have nrr : r ∉ rs := fun e => by
        obtain ⟨k, hk, ek⟩ := List.mem_iff_getElem.mp e
        have := ra.row k r (by rw [List.getElem?_eq_getElem hk, ek])
        rw [nr] at this
        cases this
      have nDr : D ≠ r := Ne.symm nrD
      refine ⟨_, by rw [upd_ne nDr]; exact ra.top, by rw [List.length_map]; exact sz6 (by omega), rs ++ [r], ⟨by rw [upd_same]; simp, ?_⟩, by simp [rl], ?_, ?_, (sr.updn nr).put nDh nDl, (br.fresh nr0).fresh nD⟩
      · intro k q ek
        rw [List.getElem?_append] at ek
        split at ek
        · rename_i hk
          have hq : q ∈ rs := List.mem_of_getElem? ek
          rw [upd_ne (rn q hq).2, upd_ne (fun z => nrr (by rw [← z]; exact hq))]
          exact ra.row k q ek
        · have : q = r := by
            rw [List.getElem?_singleton] at ek
            split at ek
            · exact (Option.some.inj ek).symm
            · cases ek
          subst this
          rw [upd_ne nrD, upd_same]
          rfl
      · rw [List.nodup_append]
        refine ⟨nd, by simp, fun x hx y hy e => ?_⟩
        rw [List.mem_singleton.mp hy] at e
        subst e
        exact nrr hx
      · intro x hx
        rcases List.mem_append.mp hx with hx | hx
        · exact rn x hx
        · rw [List.mem_singleton.mp hx]
          exact ⟨nr0, nrD⟩
    · rintro H4 ⟨rs, ra0, rl, nd, rn, sr0, br0⟩
      refine gn ?_
      dsimp only [List.set, L2.start]
      have rq : ∀ r ∈ rs, r ≠ h ∧ r ≠ l ∧ r ≠ D := fun r hr => ⟨(src.new (rn r hr).1).1, (src.new (rn r hr).1).2, (rn r hr).2⟩
      have rix : ∀ i, i < many → ∃ r, rs[i]? = some r ∧ r ∈ rs := fun i hi => ⟨rs[i]'(by omega), List.getElem?_eq_getElem (by omega), List.getElem_mem _⟩
      refine ⟨_, rfl, _, rfl, by omega, by omega, for_range (lo := 0) (n := many) (fun i σ H' => ∃ (L : Nat → List Nat) (y z : Option V), σ = [some (.ref h), some (.int many), some (.int share), some (.ref D), y, z, none, none] ∧ RowsAt H' D rs L ∧ Grow many i 0 L ∧ Src H' h l ∧ Bar h l H H')
        ⟨fun _ => [], none, none, rfl, ra0, .nil, sr0, br0⟩ ?_ ?_⟩
      · rintro i σ H5 hi ⟨L, y, z, rfl, ra, gw, sr, br⟩
        rw [Int.zero_add]
        refine gn ?_
        dsimp only [List.set]
        refine ⟨_, rfl, _, _, rfl, rfl, _, rfl, _, _, rfl, ⟨by omega, by omega, by omega, by omega⟩, ?_⟩
        have en : ((many : Int) - ((i : Int) + 1)).toNat = many - (i + 1) := by omega
        rw [en]
        refine for_range (lo := (i : Int) + 1) (n := many - (i + 1)) (fun j σ H' => ∃ (L : Nat → List Nat) (z : Option V), σ = [some (.ref h), some (.int many), some (.int share), some (.ref D), some (.int (i : Nat)), z, none, none] ∧ RowsAt H' D rs L ∧ Grow many i (i + 1 + j) L ∧ Src H' h l ∧ Bar h l H H')
          ⟨L, z, rfl, ra, gw.mono fun a b ab bm h => by omega, sr, br⟩ ?_ ?_
        · rintro j σ H6 hj ⟨L, z, rfl, ra, gw, sr, br⟩
          have ej : (i : Int) + 1 + (j : Int) = ((i + 1 + j : Nat) : Int) := by omega
          rw [ej]
          refine gn ?_
          dsimp only [List.set]
          refine ⟨_, rfl, _, rfl, h, l, _, rfl, sr, s0, by omega, fun x H7 x0 x1 sr7 br7 => ⟨_, _, rfl, rfl, _, rfl, ?_⟩⟩
          have ra7 : RowsAt H7 D rs L := ⟨br7 _ _ nDh nDl ra.top, fun k q e => br7 _ _ (rq q (List.mem_of_getElem? e)).1 (rq q (List.mem_of_getElem? e)).2.1 (ra.row k q e)⟩
          refine ite2 (fun c => ?_) (fun c => ?_)
          · obtain ⟨r1, e1, m1'⟩ := rix i hi
            obtain ⟨r2, e2, m2⟩ := rix (i + 1 + j) (by omega)
            have f1 : (rs.map V.ref)[i]? = some (V.ref r1) := by rw [List.getElem?_map, e1]; rfl
            have f2 : (rs.map V.ref)[i + 1 + j]? = some (V.ref r2) := by rw [List.getElem?_map, e2]; rfl
            have bnd : ∀ L, Grow many i (i + 1 + j) L → ∀ k, (L k).length ≤ many := fun L g k => by
              have := List.Nodup.length_le_card_of_sub (g.nd k) (fun x hx => (g.both k x hx).1)
              exact this
            refine ⟨_, rfl, _, rfl, D, _, _, _, rfl, rfl, SqL.of ra7.top, atI_nat f1, .inl ⟨rfl, _, SqL.of (ra7.row i r1 e1)⟩, _, rfl, r1, _, _, rfl, rfl, ra7.row i r1 e1, by rw [VI_len]; exact sz6 (Nat.le_trans (bnd L gw i) (by omega)), ?_⟩
            have ra8 : RowsAt (upd H7 r1 (.lst (VI (L i) ++ [V.int ((i + 1 + j : Nat) : Int)]))) D rs (putL L i (i + 1 + j)) := ⟨by rw [upd_ne (Ne.symm (rq r1 m1').2.2)]; exact ra7.top, row_put nd e1 ra7.row⟩
            have sr8 := sr7.put (o := .lst (VI (L i) ++ [V.int ((i + 1 + j : Nat) : Int)])) (rq r1 m1').1 (rq r1 m1').2.1
            have br8 := (br.trans br7).fresh (o := .lst (VI (L i) ++ [V.int ((i + 1 + j : Nat) : Int)])) (rn r1 m1').1
            generalize upd H7 r1 (.lst (VI (L i) ++ [V.int ((i + 1 + j : Nat) : Int)])) = H8 at ra8 sr8 br8
            refine ⟨_, rfl, _, rfl, D, _, _, _, rfl, rfl, SqL.of ra8.top, atI_nat f2, .inl ⟨rfl, _, SqL.of (ra8.row _ r2 e2)⟩, _, rfl, r2, _, _, rfl, rfl, ra8.row _ r2 e2, ?_, ?_⟩
            · rw [VI_len]
              refine sz6 (Nat.le_trans (m := many + 1) ?_ (by omega))
              unfold putL
              split
              · rw [List.length_append]
                have := bnd L gw i
                simp
                exact this
              · have := bnd L gw (i + 1 + j)
                omega
            · refine ⟨putL (putL L i (i + 1 + j)) (i + 1 + j) i, _, rfl, ⟨by rw [upd_ne (Ne.symm (rq r2 m2).2.2)]; exact ra8.top, row_put nd e2 ra8.row⟩, gw.put (by omega) (by omega), sr8.put (rq r2 m2).1 (rq r2 m2).2.1, br8.fresh (rn r2 m2).1⟩
          · exact ⟨L, _, rfl, ra7, gw.mono fun a b ab bm h => by omega, sr7, br.trans br7⟩
        · rintro σ H6 ⟨L, z, rfl, ra, gw, sr, br⟩
          exact ⟨L, _, z, rfl, ra, gw.mono fun a b ab bm h => by omega, sr, br⟩
      · rintro σ H5 ⟨L, y, z, rfl, ra, gw, sr, br⟩
        refine ⟨_, rfl, D, rfl, ⟨_, SqL.of ra.top⟩, fun C nC => ?_⟩
        have nC0 := br.free sr nC
        obtain ⟨nCh, nCl⟩ := sr.new nC
        have nDC : D ≠ C := ne_of_none ra.top nC
        have rC : ∀ r ∈ rs, r ≠ C := fun r hr e => by
          obtain ⟨k, hk, ek⟩ := List.mem_iff_getElem.mp hr
          have := ra.row k r (by rw [List.getElem?_eq_getElem hk, ek])
          rw [e, nC] at this
          cases this
        refine lc_list (K := K) (a := D) (xs := rs.map V.ref) (fun i H' => ∃ (ts : List Addr) (ls : List (List Nat)), H' C = some (.lst (ts.map V.ref)) ∧ ls.length = i ∧ RwX H' ts ls ∧ (∀ (j : Nat) (s : List Nat), ls[j]? = some s → s.Perm (L j)) ∧ RowsAt H' D rs L ∧ Src H' h l ∧ Bar h l H H')
          ⟨[], [], upd_same, rfl, ⟨rfl, fun _ _ _ e => by simp at e⟩, fun _ _ e => (by simp at e), ⟨by rw [upd_ne nDC]; exact ra.top, fun k q e => by rw [upd_ne (rC q (List.mem_of_getElem? e))]; exact ra.row k q e⟩, sr.updn nC, br.fresh nC0⟩ (fun i H' _ ⟨_, _, _, _, _, _, r, _⟩ => SqL.of r.top) ?_ ?_
        · rintro i x H6 hx ⟨ts, ls, eC, ll, rw6, pm, ra6, sr6, br6⟩
          obtain ⟨r, er, rfl⟩ : ∃ r, rs[i]? = some r ∧ x = V.ref r := by
            rw [List.getElem?_map] at hx
            cases e : rs[i]? with
            | none => rw [e] at hx; cases hx
            | some r => rw [e] at hx; exact ⟨r, rfl, (Option.some.inj hx).symm⟩
          have hr' := List.mem_of_getElem? er
          have hi : i < many := by have := (List.getElem?_eq_some_iff.mp er).1; omega
          refine gn ⟨rfl, yes ?_⟩
          refine ⟨_, rfl, _, rfl, h, l, r, VI (L i), rfl, sr6, .inl (ra6.row i r er), (rq r hr').1, (rq r hr').2.1, ?_, fun t ys H7 py sr7 br7 nt et => ?_⟩
          · rw [VI_len]
            exact Nat.le_trans (List.Nodup.length_le_card_of_sub (gw.nd i) fun x hx => (gw.both i x hx).1) (by omega)
          · obtain ⟨s, rfl, ps⟩ := perm_VI py
            have eC7 := br7 _ _ nCh nCl eC
            have ra7 : RowsAt H7 D rs L := ⟨br7 _ _ nDh nDl ra6.top, fun k q e => br7 _ _ (rq q (List.mem_of_getElem? e)).1 (rq q (List.mem_of_getElem? e)).2.1 (ra6.row k q e)⟩
            have tl : ts.length = i := by rw [rw6.1, ll]
            have nCt : t ≠ C := et.ne_lst eC7
            refine ⟨_, eC7, by rw [List.length_map, tl]; exact sz6 (by omega), ts ++ [t], ls ++ [s], by rw [upd_same]; simp, by simp [ll], ⟨by simp [rw6.1], ?_⟩, ?_, ⟨by rw [upd_ne nDC]; exact ra7.top, fun k q e => by rw [upd_ne (rC q (List.mem_of_getElem? e))]; exact ra7.row k q e⟩, sr7.put nCh nCl, (br6.trans br7).fresh nC0⟩
            · intro j a s' ea es
              have old := (RwX.bar rw6 sr6 br7).2
              by_cases c : j < ts.length
              · rw [List.getElem?_append_left c] at ea
                rw [List.getElem?_append_left (by rw [← rw6.1]; exact c)] at es
                have e7 := old j a s' ea es
                exact e7.put (e7.ne_lst eC7)
              · rw [List.getElem?_append_right (by omega), List.getElem?_singleton] at ea
                rw [List.getElem?_append_right (by rw [← rw6.1]; omega), List.getElem?_singleton] at es
                split at ea
                · split at es
                  · cases ea
                    cases es
                    exact et.put nCt
                  · cases es
                · cases ea
            · intro j s' es
              by_cases c : j < ls.length
              · rw [List.getElem?_append_left c] at es
                exact pm j s' es
              · rw [List.getElem?_append_right (by omega), List.getElem?_singleton] at es
                split at es
                · cases es
                  have : j = i := by omega
                  subst this
                  exact ps
                · cases es
        · rintro H6 ⟨ts, ls, eC, ll, rw6, pm, ra6, sr6, br6⟩
          rw [List.length_map, rl] at ll
          refine ⟨C, _, rfl, .inl ⟨SqL.of eC, fun r nr => ?_⟩⟩
          exact q r ls _ (gw.ok ll pm) (sr6.updn nr) (br6.fresh (br6.free sr6 nr)) (br6.free sr6 nr) ⟨ts, upd_same, rw6.1, fun i a s e1 e2 => (rw6.2 i a s e1 e2).same (same_upd nr)⟩
end
end K14
namespace K14
open PySem PySem.Spec PyProof.Rows L2
/-! ### ranks -/
def rkV (s : List Nat) (j : Nat) : V := if j ∈ s then .int (s.idxOf j : Nat) else .non
def VR (n : Nat) (s : List Nat) : List V := (List.range n).map (rkV s)
theorem VR_len (n : Nat) (s : List Nat) : (VR n s).length = n := by simp [VR]
theorem VR_get {n : Nat} {s : List Nat} {j : Nat} (h : j < n) : (VR n s)[j]? = some (rkV s j) := by simp [VR, h]
def RT (H : Hp) (r : Addr) (ls : List (List Nat)) : Prop := ∃ as : List Addr, H r = some (.tup (as.map V.ref)) ∧ as.length = ls.length ∧ ∀ (i : Nat) (a : Addr) (s : List Nat), as[i]? = some a → ls[i]? = some s → H a = some (.tup (VR ls.length s))
theorem RT.same {H H' : Hp} {r : Addr} {ls : List (List Nat)} (t : RT H r ls) (b : Same H H') : RT H' r ls := by
  obtain ⟨as, e, l, q⟩ := t
  exact ⟨as, b _ _ e, l, fun i a x e1 e2 => b _ _ (q i a x e1 e2)⟩
theorem LT.at {H : Hp} {r : Addr} {ls : List (List Nat)} (t : LT H r ls) {i : Nat} {s : List Nat} (e : ls[i]? = some s) : ∃ xs a, H r = some (.tup xs) ∧ xs[i]? = some (.ref a) ∧ Tp H a (VI s) := by
  obtain ⟨as, e1, l, q⟩ := t
  have hi := (List.getElem?_eq_some_iff.mp e).1
  have ha : i < as.length := by omega
  exact ⟨_, as[i], e1, by rw [List.getElem?_map, List.getElem?_eq_getElem ha]; rfl, q i _ s (List.getElem?_eq_getElem ha) e⟩
theorem LT.len {H : Hp} {r : Addr} {ls : List (List Nat)} (t : LT H r ls) : ∃ xs, H r = some (.tup xs) ∧ xs.length = ls.length := by
  obtain ⟨as, e1, l, q⟩ := t
  exact ⟨_, e1, by rw [List.length_map, l]⟩
theorem RT.at {H : Hp} {r : Addr} {ls : List (List Nat)} (t : RT H r ls) {i : Nat} {s : List Nat} (e : ls[i]? = some s) : ∃ xs a, H r = some (.tup xs) ∧ xs[i]? = some (.ref a) ∧ H a = some (.tup (VR ls.length s)) := by
  obtain ⟨as, e1, l, q⟩ := t
  have hi := (List.getElem?_eq_some_iff.mp e).1
  have ha : i < as.length := by omega
  exact ⟨_, as[i], e1, by rw [List.getElem?_map, List.getElem?_eq_getElem ha]; rfl, q i _ s (List.getElem?_eq_getElem ha) e⟩
theorem inV_VI (p : Nat) (s : List Nat) : inV (.int (p : Nat)) (VI s) = decide (p ∈ s) := by
  unfold inV VI
  rw [List.any_map, Bool.eq_iff_iff, List.any_eq_true, decide_eq_true_eq]
  constructor
  · rintro ⟨y, hy, e⟩
    have : ((y : Nat) : Int) = (p : Nat) := eq_of_beq e
    have : y = p := by omega
    rwa [← this]
  · intro h
    exact ⟨p, h, beq_self_eq_true ((p : Nat) : Int)⟩
theorem flat_VI (s : List Nat) : (VI s).all flatV = true := by
  unfold VI
  rw [List.all_map, List.all_eq_true]
  intro x _
  rfl
theorem rkV_take {s : List Nat} (nd : s.Nodup) {i x : Nat} (e : s[i]? = some x) (j : Nat) : rkV (s.take (i + 1)) j = if j = x then .int (i : Nat) else rkV (s.take i) j := by
  have hi := (List.getElem?_eq_some_iff.mp e).1
  have e1 : s.take (i + 1) = s.take i ++ [x] := by
    rw [List.take_succ, e]
    rfl
  have nx : x ∉ s.take i := by
    intro h
    obtain ⟨k, hk, ek⟩ := List.mem_iff_getElem.mp h
    rw [List.getElem_take] at ek
    rw [List.length_take] at hk
    have := nodup_ix nd (show s[k]? = some x by rw [List.getElem?_eq_getElem (by omega), ek]) e
    omega
  unfold rkV
  rw [e1]
  by_cases c : j = x
  · subst c
    rw [if_pos (by simp), if_pos rfl, List.idxOf_append, if_neg nx]
    simp
    omega
  · rw [if_neg c]
    by_cases d : j ∈ s.take i
    · rw [if_pos (by simp [d]), if_pos d, List.idxOf_append, if_pos d]
    · rw [if_neg (by simp [d, c]), if_neg d]
def spRanksOfList : Sp := fun vs H Q _ => ∃ (a : Addr) (s : List Nat) (n : Nat), vs = [.ref a, .int n] ∧ Tp H a (VI s) ∧ n ≤ 100 ∧ s.Nodup ∧ (∀ j ∈ s, j < n) ∧ ∀ (r : Addr) (H' : Hp), Same H H' → H r = none → H' r = some (.tup (VR n s)) → Q (.ref r) H'
theorem scRanksOfList : FnScope ["some", "many", "ranks", "rank", "other"] ["some", "many"] (defScope sRanksOfList) := ⟨rfl, rfl, rfl, by decide +kernel, rfl, by decide +kernel, by decide +kernel⟩
def spRanksOfLists : Sp := fun vs H Q _ => ∃ (a : Addr) (ls : List (List Nat)), vs = [.ref a] ∧ LT H a ls ∧ ls.length ≤ 100 ∧ ListsOk ls.length ls ∧ ∀ (r : Addr) (H' : Hp), Same H H' → H r = none → RT H' r ls → Q (.ref r) H'
theorem scRanksOfLists : FnScope ["lists", "some"] ["lists"] (defScope sRanksOfLists) := ⟨rfl, rfl, rfl, by decide +kernel, rfl, by decide +kernel, by decide +kernel⟩
theorem ixN_nat {m j : Nat} (h : j < m) : ixN m (j : Nat) = some j := by
  unfold ixN
  rw [if_pos (by omega), if_pos (by omega)]
  rfl
theorem map_set_at (f g : Nat → V) (n x : Nat) (v : V) (hx : x < n) (h : ∀ j, g j = if j = x then v else f j) : ((List.range n).map f).set x v = (List.range n).map g := by
  apply List.ext_getElem?
  intro j
  rw [List.getElem?_set]
  by_cases c : x = j
  · subst c
    rw [if_pos rfl, if_pos (by simpa using hx), List.getElem?_map, List.getElem?_range hx]
    show some v = some (g x)
    rw [h x, if_pos rfl]
  · rw [if_neg c, List.getElem?_map, List.getElem?_map]
    by_cases d : j < n
    · rw [List.getElem?_range d]
      show some (f j) = some (g j)
      rw [h j, if_neg (fun z => c z.symm)]
    · rw [List.getElem?_eq_none (by simpa using d)]
      rfl
theorem rep_flat (n : Nat) (v : V) : (List.replicate n [v]).flatten = List.replicate n v := by
  induction n with
  | zero => rfl
  | succ m ih => rw [List.replicate_succ, List.flatten_cons, ih]; rfl
theorem same_rfl {H : Hp} : Same H H := fun _ _ e => e
theorem VI_at {s : List Nat} {i : Nat} {x : V} (e : (VI s)[i]? = some x) : ∃ j, s[i]? = some j ∧ x = V.int (j : Nat) := by
  unfold VI at e
  rw [List.getElem?_map] at e
  cases h : s[i]? with
  | none => rw [h] at e; cases e
  | some j => rw [h] at e; exact ⟨j, rfl, (Option.some.inj e).symm⟩
abbrev rLenS (K : PySem.W.Frag) : List V → Hp → VK → Prop := fun xs H Q => ∃ p ys, xs = [V.ref p] ∧ (SqL K H p ys ∨ SqT K H p ys) ∧ Q (.int (ys.length : Nat)) H
section
variable {P : Program} {w : World} {K : PySem.W.Frag} {mg : Str → Option Value} {base : Heap}
theorem ok_ranks_of_list {f : Addr} {fd : FuncData} {k : Nat} (F : Fun K "_ranks_of_list" "_ranks_of_list" sRanksOfList f fd) (me : mg "enumerate" = none) (mt : mg "tuple" = none) : FnOk P w K mg base CX0 (k + 1) f fd ["some", "many"] spRanksOfList := by
  refine F.ok scRanksOfList (fun vs H Q E h => ?_) (fun cdv A outer s H vs Q E hr h => ?_)
  · obtain ⟨a, s, n, rfl, _⟩ := h
    rfl
  · obtain ⟨a, s, n, rfl, es, hn, nd, lt, q⟩ := h
    refine ⟨_, pss_cons (ps_set (i := 2) scRanksOfList.nd rfl (.inl rfl) (pe_op op_rep (pe_lst (pa_cons pe_non pa_nil)) (pv 1)))
      (pss_cons (ps_for PassesOwn.never rfl (pi_enumT (by rfl) me (pa_cons (pv 0) pa_nil)) (pg_tup rfl (pgs_cons (pg_name (i := 3) scRanksOfList.nd rfl (.inl rfl)) (pgs_cons (pg_name (i := 4) scRanksOfList.nd rfl (.inl rfl)) pgs_nil)))
        (pss_one (ps_asg (pv 3) (pg_sub (pv 2) (pv 4) set_list))))
      (pss_one (ps_ret (pe_callTy call_tuple_of (by rfl) mt (by decide +kernel) (pa_cons (pv 2) pa_nil))))), ?_⟩
    refine ⟨(by show 1 ≤ sizeLine; decide), fun u nu => ⟨_, rfl, u, n, [.non], rfl, rfl, upd_same, by omega, by omega, ?_, fun p np => ?_⟩⟩
    · show 1 * n ≤ sizeLine
      exact sz5 (by omega)
    have np0 : H p = none := by
      have nup : u ≠ p := ne_of_none upd_same np
      rw [upd_ne (Ne.symm nup)] at np
      exact np
    have e0 : (List.replicate (n : Int).toNat [V.non]).flatten = (List.range n).map (rkV (s.take 0)) := by
      show (List.replicate n [V.non]).flatten = _
      rw [rep_flat]
      symm
      refine List.eq_replicate_iff.mpr ⟨by simp, fun b hb => ?_⟩
      obtain ⟨j, _, rfl⟩ := List.mem_map.mp hb
      unfold rkV
      rw [List.take_zero, if_neg (by simp)]
    rw [e0]
    have s1 : Same H (upd (upd H u (.lst [.non])) p (.lst ((List.range n).map (rkV (s.take 0))))) := (same_rfl.fresh nu).fresh np0
    refine ⟨_, rfl, a, VI s, rfl, (es.same s1).sq, ?_⟩
    refine for_it (walk_enumT (K := K) (a := a) (xs := VI s)) (fun i σ H' => ∃ y z : Option V, σ = [some (.ref a), some (.int n), some (.ref p), y, z] ∧ Same H H' ∧ H' p = some (.lst ((List.range n).map (rkV (s.take i)))))
      ⟨none, none, rfl, s1, upd_same⟩ (fun i σ H' _ ⟨_, _, _, sm, _⟩ => (es.same sm).sq) ?_ ?_
    · rintro i x σ H1 H2 hi ⟨y, z, rfl, sm, ep⟩ ⟨T, x0, x1, rfl, nT, rfl, e1, e2⟩
      cases e1
      obtain ⟨j, hj, rfl⟩ := VI_at e2
      have npT : p ≠ T := ne_of_none ep nT
      refine ⟨T, _, rfl, SqT.of upd_same, rfl, _, _, rfl, gn ⟨_, _, rfl, gn ⟨rfl, ?_⟩⟩⟩
      dsimp only [List.set]
      have hjn := lt j (List.mem_of_getElem? hj)
      refine ⟨_, rfl, _, rfl, _, rfl, p, _, (j : Int), j, rfl, rfl, by rw [upd_ne npT]; exact ep, by rw [List.length_map, List.length_range]; exact ixN_nat hjn, ?_⟩
      refine ⟨_, _, rfl, (sm.fresh (sm.free nT)).fresh np0, ?_⟩
      rw [upd_same, map_set_at _ (rkV (s.take (i + 1))) n j _ hjn (rkV_take nd hj)]
    · rintro σ H1 ⟨y, z, rfl, sm, ep⟩
      refine ⟨_, rfl, p, _, rfl, .inl ⟨SqL.of ep, fun r nr => q r _ (sm.fresh (sm.free nr)) (sm.free nr) ?_⟩⟩
      rw [upd_same, VI_len, List.take_length]
      rfl
theorem ok_ranks_of_lists {f g : Addr} {fd gd : FuncData} {k : Nat} (F : Fun K "_ranks_of_lists" "_ranks_of_lists" sRanksOfLists f fd) (G : FnOk P w K mg base CX0 k g gd ["some", "many"] spRanksOfList) (bG : Binds K gd ["some", "many"] []) (kG : PySem.W.keepIn K (.ref g) = true) (mG : mg "_ranks_of_list" = some (.ref g)) (ml : mg "len" = none) (mt : mg "tuple" = none) : FnOk P w K mg base CX0 (k + 1) f fd ["lists"] spRanksOfLists := by
  refine F.ok scRanksOfLists (fun vs H Q E h => ?_) (fun cdv A outer s H vs Q E hr h => ?_)
  · obtain ⟨a, ls, rfl, _⟩ := h
    rfl
  · obtain ⟨a, ls, rfl, lt, hn, ok, q⟩ := h
    refine ⟨_, pss_one (ps_ret (pe_callTy call_tuple_of (by rfl) mt (by decide +kernel) (pa_cons (pe_lc (own := [("some", 1)]) (g := gName 1) (tt := tYes) (te := tCall spRanksOfList [] E0 (tCons (tVar 1) (tCons (tCB (rLenS K) (tCons (tVar 0) tNil)) tNil))) rfl scRanksOfLists.nd (pi_tup (pv 0))
          (blkOk_by (own := [("some", 1)]) (N := ["lists", "some"]) (sc := defScope sRanksOfLists) (by decide +kernel)) (fun _ _ _ _ _ => pg_name (i := 1) scRanksOfLists.nd rfl (Or.inl rfl)) (fun _ _ _ _ _ => pts_nil)
          (fun _ _ _ _ _ => pe_call G hr rfl mG kG bG .nil pass0 (pa_cons (pv 1) (pa_cons (pe_callB call_len_seq (by rfl) ml PySem.boot_len (pa_cons (pv 0) pa_nil)) pa_nil)))) pa_nil))), ?_⟩
    obtain ⟨as, ea, al, rows⟩ := lt
    refine ⟨_, rfl, a, rfl, ⟨_, SqT.of ea⟩, fun D nD => ?_⟩
    refine lc_it (walk_tup (K := K) (a := a) (xs := as.map V.ref)) (fun i H' => ∃ rs : List Addr, H' D = some (.lst (rs.map V.ref)) ∧ rs.length = i ∧ Same H H' ∧ ∀ (j : Nat) (r : Addr) (s : List Nat), rs[j]? = some r → ls[j]? = some s → H' r = some (.tup (VR ls.length s)))
      ⟨[], upd_same, rfl, same_upd nD, fun _ _ _ e => by simp at e⟩ (fun i H' _ ⟨_, _, _, sm, _⟩ => SqT.of (sm _ _ ea)) ?_ ?_
    · rintro i x H1 H2 hi ⟨rs, eD, rl, sm, old⟩ ⟨rfl, ex⟩
      rw [List.length_map] at hi
      have hx : (as.map V.ref)[i]? = some (V.ref as[i]) := by rw [List.getElem?_map, List.getElem?_eq_getElem hi]; rfl
      rw [hx] at ex
      cases ex
      have hl : i < ls.length := by omega
      have el : (as.map V.ref).length = ls.length := by rw [List.length_map, al]
      have er := rows i as[i] ls[i] (List.getElem?_eq_getElem hi) (List.getElem?_eq_getElem hl)
      refine gn ⟨rfl, yes ⟨_, rfl, _, rfl, a, _, rfl, .inr (SqT.of (sm _ _ ea)), as[i], ls[i], ls.length, (by rw [el]; rfl), er.same sm, hn, ok.nd i _ (List.getElem?_eq_getElem hl), fun j hj => (ok.both i _ j (List.getElem?_eq_getElem hl) hj).1, fun r H3 sm3 nr er3 => ?_⟩⟩
      have nDr : D ≠ r := ne_of_none eD nr
      refine ⟨_, sm3 _ _ eD, by rw [List.length_map]; exact sz6 (by omega), rs ++ [r], by rw [upd_same]; simp, by simp [rl], (sm.trans sm3).fresh nD, ?_⟩
      intro j r' s' e1 e2
      by_cases c : j < rs.length
      · rw [List.getElem?_append_left c] at e1
        have e7 := sm3 _ _ (old j r' s' e1 e2)
        have nd' : D ≠ r' := fun z => by
          rw [← z, sm3 _ _ eD] at e7
          cases e7
        rw [upd_ne (Ne.symm nd')]
        exact e7
      · rw [List.getElem?_append_right (by omega), List.getElem?_singleton] at e1
        split at e1
        · cases e1
          have : j = i := by omega
          subst this
          rw [List.getElem?_eq_getElem hl] at e2
          cases e2
          rw [upd_ne (Ne.symm nDr)]
          exact er3
        · cases e1
    · rintro H1 ⟨rs, eD, rl, sm, old⟩
      rw [List.length_map] at rl
      refine ⟨D, _, rfl, .inl ⟨SqL.of eD, fun r nr => q r _ (sm.fresh (sm.free nr)) (sm.free nr) ⟨rs, upd_same, by omega, fun j r' s' e1 e2 => ofN nr (old j r' s' e1 e2)⟩⟩⟩
end
end K14
/-! t.index(n) of a tuple of whole numbers -/
namespace K14
open PySem PySem.Spec PyProof.Rows L2
theorem idx_none {s : List Nat} {j m : Nat} (h : m < s.idxOf j) : s[m]? ≠ some j := by
  intro e
  have hm := (List.getElem?_eq_some_iff.mp e)
  obtain ⟨hl, he⟩ := hm
  have := List.not_of_lt_findIdx (p := (· == j)) (xs := s) h
  simp [he] at this
section
variable {X : Cx}
theorem mt_tupIdx : MtR X "tuple.index" (fun x xs H Q => ∃ (p : Addr) (s : List Nat) (j : Nat), x = .ref p ∧ xs = [.int (j : Nat)] ∧ SqT X.K H p (VI s) ∧ j ∈ s ∧ Q (.int (s.idxOf j : Nat)) H) := by
  intro pins st σ H x xs v us Q I rx rs h
  obtain ⟨p, s, j, rfl, rfl, hq, hm, q⟩ := h
  cases rx
  obtain ⟨u, rfl, t, rfl⟩ := vals1 rs
  obtain ⟨its, r, pl, _⟩ := I.tuple hq
  obtain ⟨⟨cls, dd, dt, sl⟩, ho, hc, n, hd⟩ := pl
  simp only at hc hd
  subst hc hd
  have ln : its.toArray.size = s.length := by rw [List.size_toArray, ← r.length, VI_len]
  have hj : s.idxOf j < its.toArray.size := by rw [ln]; exact List.idxOf_lt_length_of_mem hm
  have item : ∀ (m : Nat) (hm : m < its.toArray.size), ∃ y t', s[m]? = some y ∧ its.toArray[m] = Value.int (y : Nat) t' := fun m hlt => by
    have h2 : m < s.length := by omega
    obtain ⟨a, ea, t', et⟩ := r.get (i := m) (x := .int (s[m] : Nat)) (VI_get (List.getElem?_eq_getElem h2))
    refine ⟨s[m], t', List.getElem?_eq_getElem h2, ?_⟩
    have e3 := (List.getElem?_eq_some_iff.mp ea).2
    rw [← et, ← e3]
    simp
  refine call_meets PySem.F.slot_tuple_index ⟨_, ho, rfl⟩ PySem.F.entry_tuple_index (PySem.F.args_tuple_index_2 _ _) (TI.tuple_indexAt p its.toArray n dd sl (.int (j : Nat) t) (eqU (.int (j : Nat))) (s.idxOf j) hj ?_ ?_) ⟨ho, fun a ha => mem_eqAt (x := .int (j : Nat)) ⟨t, rfl⟩ rfl r (flat_VI s) a (by simpa using ha), ⟨.int (s.idxOf j : Nat), H, I.tok _, ⟨_, rfl⟩, q⟩⟩
  · obtain ⟨y, t', h1, h2⟩ := item _ hj
    have e : s[s.idxOf j]? = some j := by rw [List.getElem?_eq_getElem (List.idxOf_lt_length_of_mem hm), List.getElem_idxOf]
    rw [e] at h1
    cases h1
    rw [h2]
    exact beq_self_eq_true ((j : Nat) : Int)
  · intro m hlt hmj
    obtain ⟨y, t', h1, h2⟩ := item m hlt
    rw [h2]
    refine beq_eq_false_iff_ne.mpr fun e => idx_none hmj ?_
    rw [h1]
    congr 1
    have : ((y : Nat) : Int) = (j : Nat) := e
    omega
end
end K14
namespace K14
open PySem PySem.Spec PyProof.Rows L2
def spAreNames : Sp := fun vs H Q _ => ∃ (a : Addr) (ns : List (List Nat)) (n : Nat), vs = [.ref a] ∧ H a = some (.tup (VN ns)) ∧ NamesOk n ns ∧ 1 ≤ n ∧ n ≤ 60 ∧ ∀ H', Same H H' → Q (.bl true) H'
theorem scAreNames : FnScope ["value", "name", "at"] ["value"] (defScope sAreNames) := ⟨rfl, rfl, rfl, by decide +kernel, rfl, by decide +kernel, by decide +kernel⟩
def spCheckLists : Sp := fun vs H Q _ => ∃ (a : Addr) (ls : List (List Nat)), vs = [.ref a] ∧ LT H a ls ∧ ls.length ≤ 100 ∧ ListsOk ls.length ls ∧ ∀ H', Same H H' → Q .non H'
theorem scCheckLists : FnScope ["lists", "person", "some"] ["lists"] (defScope sCheckLists) := ⟨rfl, rfl, rfl, by decide +kernel, rfl, by decide +kernel, by decide +kernel⟩
def spCheckBoth : Sp := fun vs H Q _ => ∃ (a r : Addr) (ls : List (List Nat)), vs = [.ref a, .ref r] ∧ LT H a ls ∧ RT H r ls ∧ ls.length ≤ 100 ∧ ListsOk ls.length ls ∧ ∀ H', Same H H' → Q .non H'
theorem scCheckBoth : FnScope ["lists", "ranks", "person", "some", "other"] ["lists", "ranks"] (defScope sCheckBoth) := ⟨rfl, rfl, rfl, by decide +kernel, rfl, by decide +kernel, by decide +kernel⟩
theorem VN_len (ns : List (List Nat)) : (VN ns).length = ns.length := by simp [VN]
theorem VN_at {ns : List (List Nat)} {i : Nat} {x : V} (e : (VN ns)[i]? = some x) : ∃ s, ns[i]? = some s ∧ x = V.str (SS s) := by
  unfold VN at e
  rw [List.getElem?_map] at e
  cases h : ns[i]? with
  | none => rw [h] at e; cases e
  | some j => rw [h] at e; exact ⟨j, rfl, (Option.some.inj e).symm⟩
theorem VN_get {ns : List (List Nat)} {i : Nat} {s : List Nat} (e : ns[i]? = some s) : (VN ns)[i]? = some (V.str (SS s)) := by
  unfold VN
  rw [List.getElem?_map, e]
  rfl
theorem LT.row {H : Hp} {a : Addr} {ls : List (List Nat)} {xs : List V} {i : Nat} {x : V} (t : LT H a ls) (e : H a = some (.tup xs)) (ex : xs[i]? = some x) : ∃ q s, x = .ref q ∧ ls[i]? = some s ∧ Tp H q (VI s) := by
  obtain ⟨as, e1, l, q⟩ := t
  rw [e1] at e
  cases e
  rw [List.getElem?_map] at ex
  cases h : as[i]? with
  | none => rw [h] at ex; cases ex
  | some b =>
    rw [h] at ex
    have hi := (List.getElem?_eq_some_iff.mp h).1
    have hl : i < ls.length := by omega
    exact ⟨b, ls[i], (Option.some.inj ex).symm, List.getElem?_eq_getElem hl, q i b _ h (List.getElem?_eq_getElem hl)⟩
theorem ListsOk.each {n : Nat} {ls : List (List Nat)} (ok : ListsOk n ls) {i : Nat} {s : List Nat} (e : ls[i]? = some s) : s.length ≤ n := List.Nodup.length_le_card_of_sub (ok.nd i s e) fun x hx => (ok.both i s x e hx).1
theorem walk_range0 {n : Nat} : Walk (Itr 0 n) n (fun _ => True) (YFn fun i => .int (i : Nat)) :=
  walk_range.mono (fun _ h => h) fun i H x H' _ _ y => ⟨y.1, y.2.trans (congrArg V.int (Int.zero_add _))⟩
section
variable {P : Program} {w : World} {K : PySem.W.Frag} {mg : Str → Option Value} {base : Heap}
theorem ok_are_names {f g : Addr} {fd gd : FuncData} {k : Nat} {t6 : Tok} (F : Fun K "_are_names" "_are_names" sAreNames f fd) (G : FnOk P w K mg base CX0 k g gd ["value"] spIsName) (bG : Binds K gd ["value"] []) (kG : PySem.W.keepIn K (.ref g) = true) (mG : mg "is_name" = some (.ref g)) (mis : mg "isinstance" = none) (mt : mg "tuple" = none) (ml : mg "len" = none) (ma : mg "all" = none) (mr : mg "range" = none) (m6 : mg "MOST_PERSONS" = some (.int 60 t6)) : FnOk P w K mg base CX0 (k + 1) f fd ["value"] spAreNames := by
  refine F.ok scAreNames (fun vs H Q E h => ?_) (fun cdv A outer s H vs Q E hr h => ?_)
  · obtain ⟨a, ns, n, rfl, _⟩ := h
    rfl
  · obtain ⟨a, ns, n, rfl, ea, ok, n1, n60, q⟩ := h
    refine ⟨_, pss_cons (ps_if (PW.pt (pw_or (pt_not (pt_val (pe_callB call_isi (by rfl) mis (by decide +kernel) (pa_cons (pv 0) (pa_cons (pe_bltn (v := .ty "tuple") (by rfl) mt (by decide +kernel) rfl) pa_nil)))))
        (pw_or1 (pt_not (pt_chain op_le op_le pe_int (pe_callB call_len_seq (by rfl) ml PySem.boot_len (pa_cons (pv 0) pa_nil)) (pe_glob (v := .int 60) rfl m6 ⟨_, rfl⟩)))))) (pss_one ps_never) pss_nil)
      (pss_cons (ps_if (pt_not (pt_val (pe_callB (cr_all rfl) (by rfl) ma (by decide +kernel) (pa_cons (pe_lc (own := [("name", 1)]) (g := gName 1) (tt := tYes) rfl scAreNames.nd (pi_tup (pv 0))
          (blkOk_by (own := [("name", 1)]) (N := ["value", "name", "at"]) (sc := defScope sAreNames) (by decide +kernel)) (fun _ _ _ _ _ => pg_name (i := 1) scAreNames.nd rfl (Or.inl rfl)) (fun _ _ _ _ _ => pts_nil)
          (fun _ _ _ _ _ => pe_call G hr rfl mG kG bG .nil pass0 (pa_cons (pv 1) pa_nil))) pa_nil)))) (pss_one ps_never) pss_nil)
      (pss_one (ps_ret (pe_callB (cr_all rfl) (by rfl) ma (by decide +kernel) (pa_cons (pe_lc (own := [("at", 2)]) (g := gName 2) (tt := tYes) (te := tOp (fun x y H Q => ∃ i j, x = V.str i ∧ y = V.str j ∧ Q (V.bl (decide (i.cps.toList < j.cps.toList))) H) (tOp (rIxT K) (tVar 0) (tVar 2)) (tOp (rIxT K) (tVar 0) (tOp (rI0 fun i j => V.int (i + j)) (tVar 2) (tC (.int 1))))) rfl scAreNames.nd (pi_range1 rfl mr (pa_cons (pe_op op_sub (pe_callB call_len_seq (by rfl) ml PySem.boot_len (pa_cons (pv 0) pa_nil)) pe_int) pa_nil))
          (blkOk_by (own := [("at", 2)]) (N := ["value", "name", "at"]) (sc := defScope sAreNames) (by decide +kernel)) (fun _ _ _ _ _ => pg_name (i := 2) scAreNames.nd rfl (Or.inl rfl)) (fun _ _ _ _ _ => pts_nil)
          (fun _ _ _ _ _ => pe_cmpR op_lt_str (pe_ix ix_tup (pv 0) (pv 2) (fun _ _ => rfl)) (pe_ix ix_tup (pv 0) (pe_op op_add (pv 2) pe_int) (fun _ _ => rfl)) (nomark _))) pa_nil))))), ?_⟩
    have ln : (VN ns).length = n := by rw [VN_len, ok.len]
    refine (⟨_, rfl, _, _, _, _, true, rfl, .ty _, .base (.tup ea), kit_ty (by decide +kernel), ⟨_, rfl, iteF ?_⟩⟩)
    refine ⟨_, rfl, a, _, rfl, .inr (SqT.of ea), _, _, rfl, rfl, _, rfl, ?_⟩
    rw [ln]
    have c1 : decide ((1 : Int) ≤ (n : Nat)) = true := by simp; omega
    have c2 : decide (((n : Nat) : Int) ≤ 60) = true := by simp; omega
    rw [c1]
    refine iteT ⟨_, _, rfl, rfl, _, rfl, ?_⟩
    dsimp only
    rw [c2]
    refine iteF ?_
    refine ⟨_, rfl, a, rfl, ⟨_, SqT.of ea⟩, fun D nD => ?_⟩
    refine lc_same (walk_tup (K := K) (a := a) (xs := VN ns)) (by omega) (fun _ => .bl true) nD (fun _ sm => SqT.of (sm _ _ ea)) ?_ ?_
    · rintro i x H1 H2 Z out hi sm ⟨rfl, ex⟩
      obtain ⟨s0, es, rfl⟩ := VN_at ex
      obtain ⟨q1, q2, q3⟩ := ok.each s0 (List.mem_of_getElem? es)
      exact gn ⟨rfl, _, rfl, s0, rfl, q1, q2, q3, fun H3 sm3 => out _ sm3⟩
    · intro H1 sm e1
      refine ⟨D, _, rfl, SqL.of (by rw [e1, bl_true]), true, ?_, ?_⟩
      · rw [all_true]
      refine iteF ?_
      have ea1 := sm _ _ ea
      refine ⟨_, rfl, a, _, rfl, .inr (SqT.of ea1), _, _, rfl, rfl, _, rfl, by omega, by omega, fun D2 nD2 => ?_⟩
      rw [ln]
      have em : ((n : Int) - 1).toNat = n - 1 := by omega
      refine lc_same (J := Itr 0 ((n : Int) - 1).toNat) (n := n - 1) (by rw [em]; exact walk_range0) (by omega) (fun _ => .bl true) nD2 (fun _ _ => trivial) ?_ ?_
      · rintro i x H2 H3 Z out hi sm2 ⟨rfl, rfl⟩
        have h1 : i < ns.length := by rw [ok.len]; omega
        have h2 : i + 1 < ns.length := by rw [ok.len]; omega
        have g1 := List.getElem?_eq_getElem h1
        have g2 := List.getElem?_eq_getElem h2
        have ea3 := sm2 _ _ ea1
        refine gn ⟨rfl, _, rfl, _, rfl, a, _, _, _, rfl, rfl, SqT.of ea3, atI_nat (VN_get g1), _, rfl, _, rfl, _, _, rfl, rfl, a, _, _, _, rfl, rfl, SqT.of ea3, atI_nat (j := i + 1) (VN_get g2), _, _, rfl, rfl, ?_⟩
        rw [decide_eq_true (ok.asc i _ _ g1 g2 : (SS ns[i]).cps.toList < (SS ns[i + 1]).cps.toList)]
        exact out _ same_rfl
      · intro H2 sm2 e2
        refine ⟨D2, _, rfl, SqL.of (by rw [e2, bl_true]), ?_⟩
        rw [all_true]
        exact q _ (sm.trans sm2)
theorem ok_check_lists {f g : Addr} {fd gd : FuncData} {k : Nat} (F : Fun K "_check_lists" "_check_lists" sCheckLists f fd) (G : FnOk P w K mg base CX0 k g gd ["value", "many"] spAreUnlike) (bG : Binds K gd ["value", "many"] []) (kG : PySem.W.keepIn K (.ref g) = true) (mG : mg "are_unlike_persons" = some (.ref g)) (me : mg "enumerate" = none) (ml : mg "len" = none) : FnOk P w K mg base CX0 (k + 1) f fd ["lists"] spCheckLists := by
  refine F.ok scCheckLists (fun vs H Q E h => ?_) (fun cdv A outer s H vs Q E hr h => ?_)
  · obtain ⟨a, ls, rfl, _⟩ := h
    rfl
  · obtain ⟨a, ls, rfl, lt, hn, ok, q⟩ := h
    refine ⟨_, pss_one (ps_for PassesOwn.never rfl (pi_enumT (by rfl) me (pa_cons (pv 0) pa_nil)) (pg_tup rfl (pgs_cons (pg_name (i := 1) scCheckLists.nd rfl (.inl rfl)) (pgs_cons (pg_name (i := 2) scCheckLists.nd rfl (.inl rfl)) pgs_nil)))
        (pss_one (ps_if (PW.pt (pw_or (pt_not (pt_val (pe_call G hr rfl mG kG bG .nil pass0 (pa_cons (pv 2) (pa_cons (pe_callB call_len_seq (by rfl) ml PySem.boot_len (pa_cons (pv 0) pa_nil)) pa_nil))))) (pw_or1 (pt_cmpR op_in_seq (pv 1) (pv 2) rfl)))) (pss_one ps_never) pss_nil))), ?_⟩
    obtain ⟨xs, ea, xl⟩ := lt.len
    refine ⟨_, rfl, a, xs, rfl, SqT.of ea, ?_⟩
    refine for_it (walk_enumT (K := K) (a := a) (xs := xs)) (fun i σ H' => ∃ y z : Option V, σ = [some (.ref a), y, z] ∧ Same H H')
      ⟨none, none, rfl, same_rfl⟩ (fun i σ H' _ ⟨_, _, _, sm⟩ => SqT.of (sm _ _ ea)) ?_ ?_
    · rintro i x σ H1 H2 hi ⟨y, z, rfl, sm⟩ ⟨T, x0, x1, rfl, nT, rfl, e1, e2⟩
      cases e1
      obtain ⟨b, s1, rfl, es, eb⟩ := lt.row ea e2
      have sm2 := sm.fresh (o := .tup [.int (i : Nat), .ref b]) (sm.free nT)
      refine ⟨T, _, rfl, SqT.of upd_same, rfl, _, _, rfl, gn ⟨_, _, rfl, gn ⟨rfl, ?_⟩⟩⟩
      dsimp only [List.set]
      generalize upd H1 T (.tup [.int (i : Nat), .ref b]) = H3 at sm2
      refine ⟨_, rfl, _, rfl, a, xs, rfl, .inr (SqT.of (sm2 _ _ ea)), b, s1, ls.length, by rw [xl]; rfl, eb.same sm2, by have := ok.each es; omega, ok.nd i _ es, fun j hj => (ok.both i _ j es hj).1, fun H4 sm4 => ⟨true, rfl, iteF ?_⟩⟩
      refine ⟨_, rfl, _, rfl, b, _, rfl, .inr (((eb.same sm2).same sm4).sq), rfl, flat_VI s1, _, rfl, ?_⟩
      dsimp only
      rw [inV_VI, decide_eq_false (fun hm => (ok.both i _ i es hm).2.1 rfl)]
      exact iteF ⟨_, _, rfl, sm2.trans sm4⟩
    · rintro σ H1 ⟨y, z, rfl, sm⟩
      exact q _ sm
theorem ok_check_both {f : Addr} {fd : FuncData} {k : Nat} (F : Fun K "_check_both_ways" "_check_both_ways" sCheckBoth f fd) (me : mg "enumerate" = none) : FnOk P w K mg base CX0 (k + 1) f fd ["lists", "ranks"] spCheckBoth := by
  refine F.ok scCheckBoth (fun vs H Q E h => ?_) (fun cdv A outer s H vs Q E hr h => ?_)
  · obtain ⟨a, r, ls, rfl, _⟩ := h
    rfl
  · obtain ⟨a, r, ls, rfl, lt, rt, hn, ok, q⟩ := h
    refine ⟨_, pss_one (ps_for PassesOwn.never rfl (pi_enumT (by rfl) me (pa_cons (pv 0) pa_nil)) (pg_tup rfl (pgs_cons (pg_name (i := 2) scCheckBoth.nd rfl (.inl rfl)) (pgs_cons (pg_name (i := 3) scCheckBoth.nd rfl (.inl rfl)) pgs_nil)))
        (pss_one (ps_for PassesOwn.never rfl (pi_tup (pv 3)) (pg_name (i := 4) scCheckBoth.nd rfl (.inl rfl))
          (pss_one (ps_if (pt_cmpR op_isN (pe_ix ix_tup (pe_ix ix_tup (pv 1) (pv 4) (fun _ _ => rfl)) (pv 2) (fun _ _ => rfl)) pe_non (nomark _)) (pss_one ps_never) pss_nil))))), ?_⟩
    obtain ⟨xs, ea, xl⟩ := lt.len
    refine ⟨_, rfl, a, xs, rfl, SqT.of ea, ?_⟩
    refine for_it (walk_enumT (K := K) (a := a) (xs := xs)) (fun i σ H' => ∃ x y z : Option V, σ = [some (.ref a), some (.ref r), x, y, z] ∧ Same H H')
      ⟨none, none, none, rfl, same_rfl⟩ (fun i σ H' _ ⟨_, _, _, _, sm⟩ => SqT.of (sm _ _ ea)) ?_ ?_
    · rintro i x σ H1 H2 hi ⟨x', y, z, rfl, sm⟩ ⟨T, x0, x1, rfl, nT, rfl, e1, e2⟩
      cases e1
      obtain ⟨b, s1, rfl, es, eb⟩ := lt.row ea e2
      have sm2 := sm.fresh (o := .tup [.int (i : Nat), .ref b]) (sm.free nT)
      refine ⟨T, _, rfl, SqT.of upd_same, rfl, _, _, rfl, gn ⟨_, _, rfl, gn ⟨rfl, ?_⟩⟩⟩
      dsimp only [List.set]
      generalize upd H1 T (.tup [.int (i : Nat), .ref b]) = H3 at sm2
      refine ⟨_, rfl, b, rfl, ⟨_, (eb.same sm2).sq⟩, for_it (walk_tup (K := K) (a := b) (xs := VI s1)) (fun j σ H' => ∃ z : Option V, σ = [some (.ref a), some (.ref r), some (.int (i : Nat)), some (.ref b), z] ∧ Same H H') ⟨z, rfl, sm2⟩ (fun j σ H' _ ⟨_, _, sm⟩ => (eb.same sm).sq) ?_ ?_⟩
      · rintro j x σ H4 H5 hj ⟨z, rfl, sm4⟩ ⟨rfl, ex⟩
        obtain ⟨o, eo, rfl⟩ := VI_at ex
        refine gn ?_
        dsimp only [List.set]
        obtain ⟨h1, h2, t, et, hm⟩ := ok.both i s1 o es (List.mem_of_getElem? eo)
        obtain ⟨rows, c, er, ec, ev⟩ := rt.at et
        have hi' : i < ls.length := by omega
        refine ⟨_, rfl, _, rfl, r, rows, _, _, rfl, rfl, SqT.of (sm4 _ _ er), atI_nat ec, _, rfl, c, _, _, _, rfl, rfl, SqT.of (sm4 _ _ ev), atI_nat (VR_get hi'), rfl, _, rfl, ?_⟩
        have e0 : decide (rkV t i = V.non) = false := by
          unfold rkV
          rw [if_pos hm]
          rfl
        rw [e0]
        exact iteF ⟨_, rfl, sm4⟩
      · rintro σ H4 ⟨z, rfl, sm4⟩
        exact ⟨_, _, _, rfl, sm4⟩
    · rintro σ H1 ⟨x, y, z, rfl, sm⟩
      exact q _ sm
end
end K14
namespace K14
open PySem PySem.Spec PyProof.Rows L2
/-! ### wishes -/
theorem fne1 : ¬ (("names" : Str) = "lists") := by decide +kernel
theorem fne2 : ¬ (("names" : Str) = "_ranks") := by decide +kernel
theorem fne3 : ¬ (("lists" : Str) = "_ranks") := by decide +kernel
def wf (n l r : Addr) : List (Str × V) := putF "_ranks" (.ref r) (putF "lists" (.ref l) (putF "names" (.ref n) []))
theorem wf_names (n l r : Addr) : (wf n l r).lookup ("names" : Str) = some (.ref n) := by
  unfold wf
  rw [lookup_putF, if_neg fne2, lookup_putF, if_neg fne1, lookup_putF, if_pos rfl]
theorem wf_lists (n l r : Addr) : (wf n l r).lookup ("lists" : Str) = some (.ref l) := by
  unfold wf
  rw [lookup_putF, if_neg fne3, lookup_putF, if_pos rfl]
theorem wf_ranks (n l r : Addr) : (wf n l r).lookup ("_ranks" : Str) = some (.ref r) := by
  unfold wf
  rw [lookup_putF, if_pos rfl]
theorem wf2_len (n l : Addr) : (putF "lists" (.ref l) (putF "names" (.ref n) [])).length < 1000 := by
  show (if ("names" : Str) = "lists" then _ else (("names" : Str), V.ref n) :: putF "lists" (.ref l) []).length < 1000
  rw [if_neg fne1]
  show 2 < 1000
  decide
structure WAt (C : Addr) (H : Hp) (wi : Addr) (ns ls : List (List Nat)) : Prop where
  n60 : 1 ≤ ls.length ∧ ls.length ≤ 60
  nok : NamesOk ls.length ns
  ok : ListsOk ls.length ls
  ex : ∃ dx n l r, H wi = some (.ins C dx (wf n l r)) ∧ H n = some (.tup (VN ns)) ∧ LT H l ls ∧ RT H r ls
theorem WAt.same {C wi : Addr} {H H' : Hp} {ns ls : List (List Nat)} (W : WAt C H wi ns ls) (s : Same H H') : WAt C H' wi ns ls := by
  obtain ⟨dx, n, l, r, e1, e2, e3, e4⟩ := W.ex
  exact ⟨W.n60, W.nok, W.ok, dx, n, l, r, s _ _ e1, s _ _ e2, e3.same s, e4.same s⟩
theorem RT.bar {H H' : Hp} {h l r : Addr} {ls : List (List Nat)} (t : RT H r ls) (s : Src H h l) (b : Bar h l H H') : RT H' r ls := by
  obtain ⟨as, e, le, q⟩ := t
  exact ⟨as, tup_bar s b e, le, fun i a x e1 e2 => tup_bar s b (q i a x e1 e2)⟩
theorem WAt.bar {C wi h l : Addr} {H H' : Hp} {ns ls : List (List Nat)} (W : WAt C H wi ns ls) (s : Src H h l) (b : Bar h l H H') : WAt C H' wi ns ls := by
  obtain ⟨dx, n, l', r, e1, e2, e3, e4⟩ := W.ex
  have nn := s.ne e1 (fun _ z => by cases z)
  exact ⟨W.n60, W.nok, W.ok, dx, n, l', r, b _ _ nn.1 nn.2 e1, tup_bar s b e2, e3.bar s b, e4.bar s b⟩
structure Txt (K : PySem.W.Frag) (mg : Str → Option Value) (C : Addr) : Prop where
  cl : Cls K C
  nN : NoAttr K C "names"
  nL : NoAttr K C "lists"
  nR : NoAttr K C "_ranks"
  mgC : mg "Wishes" = some (.ref C)
def spWInit (C : Addr) : Sp := fun vs H Q _ => ∃ (p dx n l : Addr) (ns ls : List (List Nat)), vs = [.ref p, .ref n, .ref l] ∧ H p = some (.ins C dx []) ∧ H n = some (.tup (VN ns)) ∧ LT H l ls ∧ 1 ≤ ls.length ∧ ls.length ≤ 60 ∧ NamesOk ls.length ns ∧ ListsOk ls.length ls ∧
  ∀ H', WAt C H' p ns ls → (∀ b o, H b = some o → b ≠ p → H' b = some o) → Q .non H'
theorem scWInit : FnScope ["self", "names", "lists", "ranks"] ["self", "names", "lists"] (defScope sWInit) := ⟨rfl, rfl, rfl, by decide +kernel, rfl, by decide +kernel, by decide +kernel⟩
section
variable {P : Program} {w : World} {K : PySem.W.Frag} {mg : Str → Option Value} {base : Heap}
theorem ok_winit {f fn ft fl fr fb C : Addr} {fd dn dt dl dr db : FuncData} {k : Nat} (F : Fun K "__init__" "Wishes.__init__" sWInit f fd) (T : Txt K mg C)
    (Gn : FnOk P w K mg base CX0 k fn dn ["value"] spAreNames) (bn : Binds K dn ["value"] []) (kn : PySem.W.keepIn K (.ref fn) = true) (mn : mg "_are_names" = some (.ref fn))
    (Gt : FnOk P w K mg base CX0 k ft dt ["value", "many"] spIsTupleOf) (bt : Binds K dt ["value", "many"] []) (kt : PySem.W.keepIn K (.ref ft) = true) (mt : mg "is_tuple_of" = some (.ref ft))
    (Gl : FnOk P w K mg base CX0 k fl dl ["lists"] spCheckLists) (bl : Binds K dl ["lists"] []) (kl : PySem.W.keepIn K (.ref fl) = true) (ml : mg "_check_lists" = some (.ref fl))
    (Gr : FnOk P w K mg base CX0 k fr dr ["lists"] spRanksOfLists) (br : Binds K dr ["lists"] []) (kr : PySem.W.keepIn K (.ref fr) = true) (mr : mg "_ranks_of_lists" = some (.ref fr))
    (Gb : FnOk P w K mg base CX0 k fb db ["lists", "ranks"] spCheckBoth) (bb : Binds K db ["lists", "ranks"] []) (kb : PySem.W.keepIn K (.ref fb) = true) (mb : mg "_check_both_ways" = some (.ref fb)) (mlen : mg "len" = none) :
    FnOk P w K mg base CX0 (k + 1) f fd ["self", "names", "lists"] (spWInit C) := by
  refine F.ok scWInit (fun vs H Q E h => ?_) (fun cdv A outer s H vs Q E hr h => ?_)
  · obtain ⟨p, dx, n, l, ns, ls, rfl, _⟩ := h
    rfl
  · obtain ⟨p, dx, n, l, ns, ls, rfl, ep, en, lt, n1, n60, nok, ok, q⟩ := h
    refine ⟨_, pss_cons (ps_if (pt_not (pt_val (pe_call Gn hr rfl mn kn bn .nil pass0 (pa_cons (pv 1) pa_nil)))) (pss_one ps_never) pss_nil)
      (pss_cons (ps_if (pt_not (pt_val (pe_call Gt hr rfl mt kt bt .nil pass0 (pa_cons (pv 2) (pa_cons (pe_callB call_len_seq (by rfl) mlen PySem.boot_len (pa_cons (pv 1) pa_nil)) pa_nil))))) (pss_one ps_never) pss_nil)
      (pss_cons (ps_expr (pe_call Gl hr rfl ml kl bl .nil pass0 (pa_cons (pv 2) pa_nil)))
      (pss_cons (ps_set (i := 3) scWInit.nd rfl (.inl rfl) (pe_call Gr hr rfl mr kr br .nil pass0 (pa_cons (pv 2) pa_nil)))
      (pss_cons (ps_expr (pe_call Gb hr rfl mb kb bb .nil pass0 (pa_cons (pv 2) (pa_cons (pv 3) pa_nil))))
      (pss_cons (ps_fld (pv 0) (pv 1) rfl)
      (pss_cons (ps_fld (pv 0) (pv 2) rfl)
      (pss_one (ps_fld (pv 0) (pv 3) rfl)))))))), ?_⟩
    refine ⟨_, rfl, n, ns, ls.length, rfl, en, nok, n1, n60, fun H1 s1 => ⟨true, rfl, iteF ?_⟩⟩
    obtain ⟨xs, el, xl⟩ := lt.len
    have el1 := s1 _ _ el
    have t1 : tupOf H1 (.ref l) = some xs := by simp [tupOf, el1]
    refine ⟨_, rfl, _, rfl, n, _, rfl, .inr (SqT.of (s1 _ _ en)), .ref l, (VN ns).length, rfl, .tup el1, fun ys e => ?_, ?_⟩
    · rw [t1] at e
      cases e
      omega
    rw [t1]
    have c1 : decide (xs.length = (VN ns).length) = true := by
      rw [decide_eq_true_eq, xl, VN_len, nok.len]
    refine ⟨true, congrArg V.bl c1, iteF ?_⟩
    refine ⟨_, rfl, l, ls, rfl, lt.same s1, by omega, ok, fun H2 s2 => ?_⟩
    refine ⟨_, rfl, l, ls, rfl, (lt.same s1).same s2, by omega, ok, fun r H3 s3 nr rt => ?_⟩
    have s03 : Same H H3 := s1.trans (s2.trans s3)
    refine ⟨_, rfl, _, rfl, l, r, ls, rfl, lt.same s03, rt, by omega, ok, fun H4 s4 => ?_⟩
    have s04 : Same H H4 := s03.trans s4
    have ep4 := s04 _ _ ep
    refine ⟨_, rfl, _, rfl, p, C, dx, [], rfl, ep4, T.cl, T.nN, (by decide), ?_⟩
    refine ⟨_, rfl, _, rfl, p, C, dx, _, rfl, upd_same, T.cl, T.nL, (by show 1 < 1000; decide), ?_⟩
    refine ⟨_, rfl, _, rfl, p, C, dx, _, rfl, upd_same, T.cl, T.nR, wf2_len n l, ?_⟩
    have keep : ∀ b o, H b = some o → b ≠ p → (upd (upd (upd H4 p (.ins C dx (putF "names" (.ref n) []))) p (.ins C dx (putF "lists" (.ref l) (putF "names" (.ref n) [])))) p (.ins C dx (wf n l r))) b = some o := fun b o e nb => by
      rw [upd_ne nb, upd_ne nb, upd_ne nb]
      exact s04 b o e
    have keep3 : ∀ b xs, H4 b = some (.tup xs) → (upd (upd (upd H4 p (.ins C dx (putF "names" (.ref n) []))) p (.ins C dx (putF "lists" (.ref l) (putF "names" (.ref n) [])))) p (.ins C dx (wf n l r))) b = some (.tup xs) := fun b xs e => by
      have nb : b ≠ p := fun z => by rw [z, ep4] at e; cases e
      rw [upd_ne nb, upd_ne nb, upd_ne nb]
      exact e
    have nep : ∀ a xs, Tp H4 a xs → a ≠ p := fun a xs t z => by
      rcases t with e | ⟨o, _, _, e⟩ <;> (rw [z, ep4] at e; cases e)
    refine q _ ⟨⟨n1, n60⟩, nok, ok, dx, n, l, r, upd_same, keep3 _ _ (s04 _ _ en), ?_, ?_⟩ keep
    · obtain ⟨as, ea, al, rows⟩ := lt.same s04
      exact ⟨as, keep3 _ _ ea, al, fun i a x e1 e2 => ((((rows i a x e1 e2).put (nep _ _ (rows i a x e1 e2))).put (nep _ _ (rows i a x e1 e2))).put (nep _ _ (rows i a x e1 e2)))⟩
    · obtain ⟨as, ea, al, rows⟩ := rt.same s4
      exact ⟨as, keep3 _ _ ea, al, fun i a x e1 e2 => keep3 _ _ (rows i a x e1 e2)⟩
end
end K14
namespace K14
open PySem PySem.Spec PyProof.Rows L2
/-! ### holds -/
def hv : Option Nat → V
  | none => .non
  | some j => .int (j : Nat)
def VH (hs : List (Option Nat)) : List V := hs.map hv
theorem VH_len (hs : List (Option Nat)) : (VH hs).length = hs.length := List.length_map _
theorem VH_get {hs : List (Option Nat)} {i : Nat} {o : Option Nat} (e : hs[i]? = some o) : (VH hs)[i]? = some (hv o) := by unfold VH; rw [List.getElem?_map, e]; rfl
theorem VH_at {hs : List (Option Nat)} {i : Nat} {x : V} (e : (VH hs)[i]? = some x) : ∃ o, hs[i]? = some o ∧ x = hv o := by
  unfold VH at e
  rw [List.getElem?_map] at e
  cases h : hs[i]? with
  | none => rw [h] at e; cases e
  | some j => rw [h] at e; exact ⟨j, rfl, (Option.some.inj e).symm⟩
def rkO (s : List Nat) : Option Nat → V
  | none => .int (s.length : Nat)
  | some j => rkV s j
def rkN (s : List Nat) : Option Nat → Nat
  | none => s.length
  | some j => s.idxOf j
theorem rkO_N {s : List Nat} {o : Option Nat} (h : ∀ j, o = some j → j ∈ s) : rkO s o = .int (rkN s o : Nat) := by
  cases o with
  | none => rfl
  | some j =>
    show rkV s j = _
    unfold rkV
    rw [if_pos (h j rfl)]
    rfl
/-- the list of a person, the one it holds -/
def la (ls : List (List Nat)) (p : Nat) : List Nat := ls.getD p []
def ha (hs : List (Option Nat)) (p : Nat) : Option Nat := hs.getD p none
theorem la_get {ls : List (List Nat)} {p : Nat} (h : p < ls.length) : ls[p]? = some (la ls p) := by
  unfold la
  rw [List.getD_eq_getElem?_getD, List.getElem?_eq_getElem h]
  rfl
theorem ha_get {hs : List (Option Nat)} {p : Nat} (h : p < hs.length) : hs[p]? = some (ha hs p) := by
  unfold ha
  rw [List.getD_eq_getElem?_getD, List.getElem?_eq_getElem h]
  rfl
structure HoldsOk (ls : List (List Nat)) (hs : List (Option Nat)) : Prop where
  len : hs.length = ls.length
  on : ∀ p j, ha hs p = some j → p < ls.length ∧ j ∈ la ls p
def most (ls : List (List Nat)) (hs : List (Option Nat)) (p : Nat) : Nat := rkN (la ls p) (ha hs p)
def spIsWished (C : Addr) : Sp := fun vs H Q _ => ∃ (wi : Addr) (ns ls : List (List Nat)) (p o : Nat), vs = [.ref wi, .int p, .int o] ∧ WAt C H wi ns ls ∧ p < ls.length ∧ o < ls.length ∧ Q (.bl (decide (o ∈ la ls p))) H
def spRankOf (C : Addr) : Sp := fun vs H Q _ => ∃ (wi : Addr) (ns ls : List (List Nat)) (p : Nat) (o : Option Nat), vs = [.ref wi, .int p, hv o] ∧ WAt C H wi ns ls ∧ p < ls.length ∧ (∀ j, o = some j → j < ls.length) ∧ Q (rkO (la ls p) o) H
theorem scRankOf : FnScope ["wishes", "person", "other"] ["wishes", "person", "other"] (defScope sRankOf) := ⟨rfl, rfl, rfl, by decide +kernel, rfl, by decide +kernel, by decide +kernel⟩
def spRanksIn (C : Addr) : Sp := fun vs H Q _ => ∃ (wi : Addr) (ns ls : List (List Nat)), vs = [.ref wi] ∧ WAt C H wi ns ls ∧ ∀ r, RT H r ls → Q (.ref r) H
theorem scRanksIn : FnScope ["wishes"] ["wishes"] (defScope sRanksIn) := ⟨rfl, rfl, rfl, by decide +kernel, rfl, by decide +kernel, by decide +kernel⟩
theorem hv_non (o : Option Nat) : decide (hv o = V.non) = o.isNone := by cases o <;> rfl
section
variable {P : Program} {w : World} {K : PySem.W.Frag} {mg : Str → Option Value} {base : Heap}
theorem ok_rank_of {f C : Addr} {fd : FuncData} {k : Nat} (F : Fun K "rank_of" "rank_of" sRankOf f fd) (T : Txt K mg C) (ml : mg "len" = none) : FnOk P w K mg base CX0 (k + 1) f fd ["wishes", "person", "other"] (spRankOf C) := by
  refine F.ok scRankOf (fun vs H Q E h => ?_) (fun cdv A outer s H vs Q E hr h => ?_)
  · obtain ⟨wi, ns, ls, p, o, rfl, _⟩ := h
    rfl
  · obtain ⟨wi, ns, ls, p, o, rfl, W, hp, ho, q⟩ := h
    refine ⟨_, pss_cons (ps_if (pt_cmpR op_isN (pv 2) pe_non (nomark _)) (pss_one (ps_ret (pe_callB call_len_seq (by rfl) ml PySem.boot_len (pa_cons (pe_ix ix_tup (pe_fld (pv 0) rfl) (pv 1) (fun _ _ => rfl)) pa_nil)))) pss_nil)
      (pss_one (ps_ret (pe_ix ix_tup (pe_ix ix_tup (pe_fld (pv 0) rfl) (pv 1) (fun _ _ => rfl)) (pv 2) (fun _ _ => rfl)))), ?_⟩
    obtain ⟨dx, n, l, r, e1, e2, e3, e4⟩ := W.ex
    refine ⟨_, rfl, rfl, _, rfl, ?_⟩
    cases o with
    | none =>
      refine iteT ?_
      obtain ⟨rows, c, er, ec, ev⟩ := e3.at (la_get hp)
      refine ⟨_, rfl, wi, C, dx, _, _, rfl, e1, T.cl, T.nL, wf_lists n l r, _, rfl, l, rows, _, _, rfl, rfl, SqT.of er, atI_nat ec, c, _, rfl, .inr ev.sq, ?_⟩
      rw [VI_len]
      exact q
    | some j =>
      refine iteF ?_
      obtain ⟨rows, c, er, ec, ev⟩ := e4.at (la_get hp)
      exact ⟨_, rfl, wi, C, dx, _, _, rfl, e1, T.cl, T.nR, wf_ranks n l r, _, rfl, r, rows, _, _, rfl, rfl, SqT.of er, atI_nat ec, _, rfl, c, _, _, _, rfl, rfl, SqT.of ev, atI_nat (VR_get (ho j rfl)), q⟩
theorem ok_ranks_in {f C : Addr} {fd : FuncData} {k : Nat} (F : Fun K "ranks_in" "ranks_in" sRanksIn f fd) (T : Txt K mg C) : FnOk P w K mg base CX0 (k + 1) f fd ["wishes"] (spRanksIn C) := by
  refine F.ok scRanksIn (fun vs H Q E h => ?_) (fun cdv A outer s H vs Q E hr h => ?_)
  · obtain ⟨wi, ns, ls, rfl, _⟩ := h
    rfl
  · obtain ⟨wi, ns, ls, rfl, W, q⟩ := h
    refine ⟨_, pss_one (ps_ret (pe_fld (pv 0) rfl)), ?_⟩
    obtain ⟨dx, n, l, r, e1, e2, e3, e4⟩ := W.ex
    exact ⟨_, rfl, wi, C, dx, _, _, rfl, e1, T.cl, T.nR, wf_ranks n l r, q r e4⟩
end
end K14
namespace K14
open PySem PySem.Spec PyProof.Rows L2
def mayV (n : Nat) (s : List Nat) : V → Bool
  | .non => true
  | .int i => decide (0 ≤ i) && decide (i < n) && decide (i.toNat ∈ s)
  | _ => false
def holdsV (H : Hp) (ls : List (List Nat)) (v : V) : Bool := match tupOf H v with
  | some xs => decide (xs.length = ls.length) && (List.range xs.length).all fun i => mayV ls.length (la ls i) (xs.getD i .non)
  | none => false
def spMayHold (C : Addr) : Sp := fun vs H Q _ => ∃ (wi : Addr) (ns ls : List (List Nat)) (p : Nat) (v : V), vs = [.ref wi, .int p, v] ∧ WAt C H wi ns ls ∧ p < ls.length ∧ Pl H v ∧ Q (.bl (mayV ls.length (la ls p) v)) H
def spAreHolds (C : Addr) : Sp := fun vs H Q _ => ∃ (wi : Addr) (ns ls : List (List Nat)) (v : V), vs = [.ref wi, v] ∧ WAt C H wi ns ls ∧ Pl H v ∧ (∀ xs, tupOf H v = some xs → xs.length ≤ 1000 ∧ ∀ x ∈ xs, Pl H x) ∧ ∀ H', Same H H' → Q (.bl (holdsV H ls v)) H'
theorem Pl.same {H H' : Hp} {v : V} (p : Pl H v) (s : Same H H') : Pl H' v := by
  cases p with
  | non => exact .non
  | bl b => exact .bl b
  | int i => exact .int i
  | str s => exact .str s
  | lst e => exact .lst (s _ _ e)
  | tup e => exact .tup (s _ _ e)
theorem tupOf_some {H : Hp} {v : V} {xs : List V} (e : tupOf H v = some xs) : ∃ a, v = .ref a ∧ H a = some (.tup xs) := by
  unfold tupOf at e
  split at e
  · rename_i a
    split at e
    · rename_i ys h
      cases e
      exact ⟨a, rfl, h⟩
    · cases e
  · cases e
theorem bl_map (n : Nat) (g : Nat → Bool) : ((List.range n).map fun i => V.bl (g i)) = ((List.range n).map g).map V.bl := by simp
theorem all_map_id (n : Nat) (g : Nat → Bool) : ((List.range n).map g).all id = (List.range n).all g := by
  rw [List.all_map]
  rfl
section
variable {P : Program} {w : World} {K : PySem.W.Frag} {mg : Str → Option Value} {base : Heap}
end
end K14
namespace K14
open PySem PySem.Spec PyProof.Rows L2
section
variable {J : It} {n : Nat} {G : Hp → Prop} {Y : Nat → Hp → V → Hp → Prop}
/-- a comprehension of new tuples, that leaves all else as it stood -/
theorem lc_rows (w : Walk J n G Y) {g : TG} {te : TE} {vs : List Nat} {σ : L2.St} {H0 : Hp} {D : Addr} {Qd : Hp → Prop} (hn : n ≤ 100000) (X : Nat → List V) (nD : H0 D = none) (hG : ∀ H, Same H0 H → G H)
    (hs : ∀ (i : Nat) (x : V) (H H' : Hp) (Z : V → Hp → Prop), (∀ r H3, Same H H3 → H3 r = some (.tup (X i)) → Z (.ref r) H3) → i < n → Same H0 H → Y i H x H' → g x (wipe σ vs) H' fun σ2 H2 => wipe σ2 vs = wipe σ vs ∧ te σ2 H2 Z)
    (hd : ∀ (rs : List Addr) H, Same H0 H → H D = some (.lst (rs.map V.ref)) → rs.length = n → (∀ (j : Nat) (r : Addr), rs[j]? = some r → H r = some (.tup (X j))) → Qd H) :
    ∃ W : Nat → Nat → Hp → Prop, (∃ m, W 0 m (upd H0 D (.lst []))) ∧ ∀ i m H, W i m H →
      (J.stop i H ∧ Qd H) ∨ (J.go i H ∧ ∃ Nx : Hp → Prop, (∀ H', Nx H' → ∃ m', m' < m ∧ W (i + 1) m' H') ∧ ∀ x H', J.yld i H x H' → g x (wipe σ vs) H' fun σ2 H2 => wipe σ2 vs = wipe σ vs ∧ tYes σ2 H2 fun b H3 =>
        if b = true then te σ2 H3 fun y H4 => ∃ acc, H4 D = some (.lst acc) ∧ acc.length < sizeLine ∧ Nx (upd H4 D (.lst (acc ++ [y]))) else Nx H3) := by
  refine lc_it w (fun i H => ∃ rs : List Addr, Same H0 H ∧ H D = some (.lst (rs.map V.ref)) ∧ rs.length = i ∧ ∀ (j : Nat) (r : Addr), rs[j]? = some r → H r = some (.tup (X j))) ⟨[], same_upd nD, upd_same, rfl, fun _ _ e => by simp at e⟩ (fun i H _ ⟨_, h, _⟩ => hG H h) (fun i x H H' hi ⟨rs, sm, eD, rl, old⟩ y => ?_) (fun H ⟨rs, sm, eD, rl, old⟩ => hd rs H sm eD rl old)
  refine hs i x H H' (fun v H3 => ∃ acc, H3 D = some (.lst acc) ∧ acc.length < sizeLine ∧ (fun H => ∃ rs : List Addr, Same H0 H ∧ H D = some (.lst (rs.map V.ref)) ∧ rs.length = i + 1 ∧ ∀ (j : Nat) (r : Addr), rs[j]? = some r → H r = some (.tup (X j))) (upd H3 D (.lst (acc ++ [v])))) (fun r H3 s3 er => ?_) hi sm y
  have eD3 := s3 _ _ eD
  refine ⟨_, eD3, ?_, rs ++ [r], (sm.trans s3).fresh nD, by rw [upd_same]; simp, by simp [rl], ?_⟩
  · rw [List.length_map, rl]
    exact sz6' (by omega)
  · intro j q e
    have ne : ∀ q xs, H3 q = some (.tup xs) → q ≠ D := fun q xs e z => by
      rw [z, eD3] at e
      cases e
    by_cases c : j < rs.length
    · rw [List.getElem?_append_left c] at e
      have e7 := s3 _ _ (old j q e)
      rw [upd_ne (ne _ _ e7)]
      exact e7
    · rw [List.getElem?_append_right (by omega), List.getElem?_singleton] at e
      split at e
      · cases e
        have : j = i := by omega
        subst this
        rw [upd_ne (ne _ _ er)]
        exact er
      · cases e
end
def VM (ls : List (List Nat)) (hs : List (Option Nat)) : List V := (List.range ls.length).map fun p => V.int (most ls hs p : Nat)
theorem VM_get {ls : List (List Nat)} {hs : List (Option Nat)} {p : Nat} (h : p < ls.length) : (VM ls hs)[p]? = some (.int (most ls hs p : Nat)) := by simp [VM, h]
/-- the ranks of those held, in a tuple or in a list -/
def VMat (H : Hp) (m : Addr) (ls : List (List Nat)) (hs : List (Option Nat)) : Prop := H m = some (.tup (VM ls hs)) ∨ H m = some (.lst (VM ls hs))
theorem VMat.same {H H' : Hp} {m : Addr} {ls : List (List Nat)} {hs : List (Option Nat)} (v : VMat H m ls hs) (s : Same H H') : VMat H' m ls hs := v.imp (s _ _) (s _ _)
theorem rIx_vm {K : PySem.W.Frag} {H : Hp} {m : Addr} {ls : List (List Nat)} {hs : List (Option Nat)} {p : Nat} {Q : VK} (v : VMat H m ls hs) (hp : p < ls.length) (q : Q (.int (most ls hs p : Nat)) H) : rIx K (.ref m) (.int (p : Nat)) H Q := by
  rcases v with e | e
  · exact .inr (.inl ⟨m, _, _, _, rfl, rfl, SqT.of e, atI_nat (VM_get hp), q⟩)
  · exact .inl ⟨m, _, _, _, rfl, rfl, SqL.of e, atI_nat (VM_get hp), q⟩
def keepF (ls : List (List Nat)) (hs : List (Option Nat)) (p o : Nat) : Bool := decide ((la ls o).idxOf p ≤ most ls hs o)
def leftL (ls : List (List Nat)) (hs : List (Option Nat)) (p : Nat) : List Nat := ((la ls p).take (most ls hs p + 1)).filter (keepF ls hs p)
def leftA (ls : List (List Nat)) (hs : List (Option Nat)) : List (List Nat) := (List.range ls.length).map (leftL ls hs)
theorem slA {K : PySem.W.Frag} {H : Hp} {a : Addr} {s : List Nat} {m : Nat} {Q : VK} (e : Tp H a (VI s)) (q : ∀ b H', Same H H' → Tp H' b (VI (s.take (m + 1))) → Q (.ref b) H') : rSlA K (.ref a) none (some ((m : Nat) + 1 : Int)) H Q := by
  have ek : HT.sIx (VI s).length (VI s).length (some ((m : Nat) + 1 : Int)) = min (m + 1) (VI s).length := HT.sIx_nat _ _ (m + 1)
  have e0 : HT.sIx (VI s).length 0 none = 0 := HT.sIx_none _ _
  refine ⟨a, VI s, rfl, e.sq, fun h => ?_, fun h p np => ?_⟩
  · have hm : (VI s).length ≤ m + 1 := by
      have := h.2
      rw [ek] at this
      omega
    rw [VI_len] at hm
    refine q a H same_rfl ?_
    rw [List.take_of_length_le hm]
    exact e
  · refine q p _ (same_upd np) (.inl ?_)
    rw [upd_same]
    unfold cutV
    rw [e0, ek, List.drop_zero, Nat.sub_zero]
    congr 2
    unfold VI
    rw [List.length_map, List.map_take]
    by_cases c : m + 1 ≤ s.length
    · rw [Nat.min_eq_left c]
    · rw [Nat.min_eq_right (by omega), List.take_of_length_le (by simp), List.take_of_length_le (by simp; omega)]
def spHeldRanks (C : Addr) : Sp := fun vs H Q _ => ∃ (wi b : Addr) (ns ls : List (List Nat)) (hs : List (Option Nat)), vs = [.ref wi, .ref b] ∧ WAt C H wi ns ls ∧ H b = some (.tup (VH hs)) ∧ HoldsOk ls hs ∧ ∀ r H', Same H H' → H' r = some (.tup (VM ls hs)) → Q (.ref r) H'
theorem scHeldRanks : FnScope ["wishes", "holds", "person", "held"] ["wishes", "holds"] (defScope sHeldRanks) := ⟨rfl, rfl, rfl, by decide +kernel, rfl, by decide +kernel, by decide +kernel⟩
def spLeftList (C : Addr) : Sp := fun vs H Q _ => ∃ (wi m : Addr) (ns ls : List (List Nat)) (hs : List (Option Nat)) (p : Nat), vs = [.ref wi, .ref m, .int p] ∧ WAt C H wi ns ls ∧ H m = some (.tup (VM ls hs)) ∧ p < ls.length ∧ ∀ r H', Same H H' → H' r = some (.tup (VI (leftL ls hs p))) → Q (.ref r) H'
theorem scLeftList : FnScope ["wishes", "most", "person", "ranks", "kept", "other"] ["wishes", "most", "person"] (defScope sLeftList) := ⟨rfl, rfl, rfl, by decide +kernel, rfl, by decide +kernel, by decide +kernel⟩
def spLeftLists (C : Addr) : Sp := fun vs H Q _ => ∃ (wi b : Addr) (ns ls : List (List Nat)) (hs : List (Option Nat)), vs = [.ref wi, .ref b] ∧ WAt C H wi ns ls ∧ H b = some (.tup (VH hs)) ∧ HoldsOk ls hs ∧ ∀ r H', Same H H' → LT H' r (leftA ls hs) → Q (.ref r) H'
theorem scLeftLists : FnScope ["wishes", "holds", "most", "person"] ["wishes", "holds"] (defScope sLeftLists) := ⟨rfl, rfl, rfl, by decide +kernel, rfl, by decide +kernel, by decide +kernel⟩
def spFirstLeft (C : Addr) : Sp := fun vs H Q _ => ∃ (wi m : Addr) (ns ls : List (List Nat)) (hs : List (Option Nat)) (p : Nat), vs = [.ref wi, .ref m, .int p] ∧ WAt C H wi ns ls ∧ VMat H m ls hs ∧ p < ls.length ∧ ∀ H', Same H H' → Q (hv (leftL ls hs p).head?) H'
theorem scFirstLeft : FnScope ["wishes", "most", "person", "ranks", "other"] ["wishes", "most", "person"] (defScope sFirstLeft) := ⟨rfl, rfl, rfl, by decide +kernel, rfl, by decide +kernel, by decide +kernel⟩
def firsts (ls : List (List Nat)) (hs : List (Option Nat)) : List (Option Nat) := (List.range ls.length).map fun p => (leftL ls hs p).head?
def spFirstsLeft (C : Addr) : Sp := fun vs H Q _ => ∃ (wi b : Addr) (ns ls : List (List Nat)) (hs : List (Option Nat)), vs = [.ref wi, .ref b] ∧ WAt C H wi ns ls ∧ H b = some (.tup (VH hs)) ∧ HoldsOk ls hs ∧ ∀ r H', Same H H' → H' r = some (.tup (VH (firsts ls hs))) → Q (.ref r) H'
section
variable {P : Program} {w : World} {K : PySem.W.Frag} {mg : Str → Option Value} {base : Heap}
theorem ok_held_ranks {f fr C : Addr} {fd dr : FuncData} {k : Nat} (F : Fun K "held_ranks" "held_ranks" sHeldRanks f fd)
    (Gr : FnOk P w K mg base CX0 k fr dr ["wishes", "person", "other"] (spRankOf C)) (br : Binds K dr ["wishes", "person", "other"] []) (kr : PySem.W.keepIn K (.ref fr) = true) (mr : mg "rank_of" = some (.ref fr)) (mt : mg "tuple" = none) (me : mg "enumerate" = none) : FnOk P w K mg base CX0 (k + 1) f fd ["wishes", "holds"] (spHeldRanks C) := by
  refine F.ok scHeldRanks (fun vs H Q E h => ?_) (fun cdv A outer s H vs Q E hr h => ?_)
  · obtain ⟨wi, b, ns, ls, hs, rfl, _⟩ := h
    rfl
  · obtain ⟨wi, b, ns, ls, hs, rfl, W, eb, ho, q⟩ := h
    refine ⟨_, pss_one (ps_ret (pe_callTy call_tuple_of (by rfl) mt (by decide +kernel) (pa_cons (pe_lc (own := [("person", 2), ("held", 3)]) (tt := tYes) rfl scHeldRanks.nd (pi_enumT (by rfl) me (pa_cons (pv 1) pa_nil))
          (blkOk_by (own := [("person", 2), ("held", 3)]) (N := ["wishes", "holds", "person", "held"]) (sc := defScope sHeldRanks) (by decide +kernel)) (g := gTup K 2 (gCons (gName 2) (gCons (gName 3) gNil))) (fun _ _ _ _ _ => pg_tup rfl (pgs_cons (pg_name (i := 2) scHeldRanks.nd rfl (Or.inl rfl)) (pgs_cons (pg_name (i := 3) scHeldRanks.nd rfl (Or.inl rfl)) pgs_nil))) (fun _ _ _ _ _ => pts_nil)
          (fun _ _ _ _ _ => pe_call Gr hr rfl mr kr br .nil pass0 (pa_cons (pv 0) (pa_cons (pv 2) (pa_cons (pv 3) pa_nil))))) pa_nil))), ?_⟩
    refine ⟨_, rfl, b, _, rfl, SqT.of eb, fun D nD => ?_⟩
    have n60 := W.n60.2
    refine lc_same (walk_enumT (K := K) (a := b) (xs := VH hs)) (by rw [VH_len, ho.len]; omega) (fun i => .int (most ls hs i : Nat)) nD (fun _ sm => SqT.of (sm _ _ eb)) ?_ ?_
    · rintro i x H1 H2 Z out hi sm ⟨U, x0, x1, rfl, nU, rfl, y1, y2⟩
      cases y1
      have s2 : Same H1 (upd H1 U (.tup [.int (i : Nat), x1])) := same_upd nU
      rw [VH_len] at hi
      have il : i < ls.length := by rw [← ho.len]; exact hi
      have y3 : (VH hs)[i]? = some x1 := y2
      rw [VH_get (ha_get hi)] at y3
      cases y3
      refine ⟨U, _, rfl, SqT.of upd_same, rfl, _, _, rfl, gn ⟨_, _, rfl, gn ⟨rfl, rfl, ?_⟩⟩⟩
      refine ⟨_, rfl, _, rfl, _, rfl, wi, ns, ls, i, ha hs i, rfl, (W.same sm).same s2, il, fun j ej => ?_, ?_⟩
      · exact (W.ok.both i _ j (la_get il) (ho.on i j ej).2).1
      · rw [rkO_N fun j ej => (ho.on i j ej).2]
        exact out _ s2
    · intro H1 sm e5
      refine ⟨D, _, rfl, .inl ⟨SqL.of e5, fun r nr => q r _ (sm.fresh (sm.free nr)) ?_⟩⟩
      rw [upd_same, VH_len, ho.len]
      rfl
theorem ok_left_list {f fr C : Addr} {fd dr : FuncData} {k : Nat} (F : Fun K "_left_list" "_left_list" sLeftList f fd) (T : Txt K mg C)
    (Gr : FnOk P w K mg base CX0 k fr dr ["wishes"] (spRanksIn C)) (br : Binds K dr ["wishes"] []) (kr : PySem.W.keepIn K (.ref fr) = true) (mr : mg "ranks_in" = some (.ref fr)) (mt : mg "tuple" = none) : FnOk P w K mg base CX0 (k + 1) f fd ["wishes", "most", "person"] (spLeftList C) := by
  refine F.ok scLeftList (fun vs H Q E h => ?_) (fun cdv A outer s H vs Q E hr h => ?_)
  · obtain ⟨wi, m, ns, ls, hs, p, rfl, _⟩ := h
    rfl
  · obtain ⟨wi, m, ns, ls, hs, p, rfl, W, em, hp, q⟩ := h
    refine ⟨_, pss_cons (ps_set (i := 3) scLeftList.nd rfl (.inr rfl) (pe_call Gr hr rfl mr kr br .nil pass0 (pa_cons (pv 0) pa_nil)))
      (pss_cons (ps_set (i := 4) scLeftList.nd rfl (.inl rfl) (pe_slice sl_tupA (pe_ix ix_tup (pe_fld (pv 0) rfl) (pv 2) (fun _ _ => rfl)) po_none (po_some (pe_op op_add (pe_ix ix_tup (pv 1) (pv 2) (fun _ _ => rfl)) pe_int))))
      (pss_one (ps_ret (pe_callTy call_tuple_of (by rfl) mt (by decide +kernel) (pa_cons (pe_lc (own := [("other", 5)]) (g := gName 5) (tt := tTest (tOp (rI0 fun i j => V.bl (decide (i ≤ j))) (tOp (rIxT K) (tOp (rIxT K) (tVar 3) (tVar 5)) (tVar 2)) (tOp (rIxT K) (tVar 1) (tVar 5)))) rfl scLeftList.nd (pi_tup (pv 4))
          (blkOk_by (own := [("other", 5)]) (N := ["wishes", "most", "person", "ranks", "kept", "other"]) (sc := defScope sLeftList) (by decide +kernel)) (fun _ _ _ _ _ => pg_name (i := 5) scLeftList.nd rfl (Or.inl rfl)) (fun _ _ _ _ _ => pts_one (pt_cmpR op_le (pe_ix ix_tup (pe_ix ix_tup (pv 3) (pv 5) (fun _ _ => rfl)) (pv 2) (fun _ _ => rfl)) (pe_ix ix_tup (pv 1) (pv 5) (fun _ _ => rfl)) (nomark _)))
          (fun _ _ _ _ _ => pv 5)) pa_nil))))), ?_⟩
    obtain ⟨dx, n, l, r0, e1, e2, e3, e4⟩ := W.ex
    obtain ⟨rows, c, er, ec, ev⟩ := e3.at (la_get hp)
    refine ⟨_, rfl, wi, ns, ls, rfl, W, fun r rt => ?_⟩
    refine ⟨_, rfl, wi, C, dx, _, _, rfl, e1, T.cl, T.nL, wf_lists n l r0, _, rfl, l, rows, _, _, rfl, rfl, SqT.of er, atI_nat ec, _, rfl, _, rfl, m, _, _, _, rfl, rfl, SqT.of em, atI_nat (VM_get hp), _, _, rfl, rfl, _, rfl, slA ev fun b H1 s1 eb => ?_⟩
    refine ⟨_, rfl, b, rfl, ⟨_, eb.sq⟩, fun D nD => ?_⟩
    have sub : ∀ o ∈ (la ls p).take (most ls hs p + 1), o < ls.length ∧ p ∈ la ls o := fun o ho => by
      obtain ⟨h1, h2, t, et, hm⟩ := W.ok.both p _ o (la_get hp) (List.mem_of_mem_take ho)
      rw [la_get h1] at et
      cases et
      exact ⟨h1, hm⟩
    have lk : ((la ls p).take (most ls hs p + 1)).length ≤ 60 := by
      have h1 := W.ok.each (la_get hp)
      have h2 := W.n60.2
      rw [List.length_take]
      omega
    refine lc_it (walk_tup (K := K) (a := b) (xs := VI ((la ls p).take (most ls hs p + 1)))) (fun i H' => Same H1 H' ∧ H' D = some (.lst (VI ((((la ls p).take (most ls hs p + 1)).take i).filter (keepF ls hs p)))))
      ⟨same_upd nD, by rw [upd_same, List.take_zero]; rfl⟩ (fun i H' _ h => (eb.same h.1).sq) ?_ ?_
    · rintro i x H2 H3 hi ⟨s2, eD⟩ ⟨rfl, ex⟩
      obtain ⟨o, eo, rfl⟩ := VI_at ex
      obtain ⟨h1, h2⟩ := sub o (List.mem_of_getElem? eo)
      obtain ⟨rows2, c2, er2, ec2, ev2⟩ := rt.at (la_get h1)
      have s02 := s1.trans s2
      have e6 : rkV (la ls o) p = .int ((la ls o).idxOf p : Nat) := by
        unfold rkV
        rw [if_pos h2]
      have e7 := VR_get (s := la ls o) hp
      rw [e6] at e7
      refine gn ⟨rfl, _, rfl, _, rfl, r, rows2, _, _, rfl, rfl, SqT.of (s02 _ _ er2), atI_nat ec2, _, rfl, c2, _, _, _, rfl, rfl, SqT.of (s02 _ _ ev2), atI_nat e7, _, rfl, _, rfl, m, _, _, _, rfl, rfl, SqT.of (s02 _ _ em), atI_nat (VM_get h1), _, _, rfl, rfl, keepF ls hs p o, ?_, ?_⟩
      · refine congrArg V.bl ?_
        unfold keepF
        rw [decide_eq_decide]
        omega
      · have tk : ((la ls p).take (most ls hs p + 1)).take (i + 1) = ((la ls p).take (most ls hs p + 1)).take i ++ [o] := by
          rw [List.take_succ, eo]
          rfl
        refine ite2 (fun c => ?_) (fun c => ?_)
        · refine ⟨_, rfl, _, eD, ?_, s2.fresh nD, ?_⟩
          · rw [VI_len]
            refine sz6' (Nat.le_trans (List.length_filter_le _ _) ?_)
            rw [List.length_take]
            omega
          · rw [upd_same, tk, List.filter_append, VI_app]
            have : [o].filter (keepF ls hs p) = [o] := by rw [List.filter_cons, if_pos c, List.filter_nil]
            rw [this]
            rfl
        · refine ⟨s2, ?_⟩
          rw [eD, tk, List.filter_append]
          have : [o].filter (keepF ls hs p) = [] := by rw [List.filter_cons, if_neg c, List.filter_nil]
          rw [this, List.append_nil]
    · rintro H2 ⟨s2, eD⟩
      rw [VI_len, List.take_length] at eD
      refine ⟨D, _, rfl, .inl ⟨SqL.of eD, fun r' nr => q r' _ ((s1.trans s2).fresh ((s1.trans s2).free nr)) upd_same⟩⟩
theorem ok_left_lists {f fr fl C : Addr} {fd dr dl : FuncData} {k : Nat} (F : Fun K "left_lists" "left_lists" sLeftLists f fd)
    (Gr : FnOk P w K mg base CX0 k fr dr ["wishes", "holds"] (spHeldRanks C)) (br : Binds K dr ["wishes", "holds"] []) (kr : PySem.W.keepIn K (.ref fr) = true) (mr : mg "held_ranks" = some (.ref fr))
    (Gl : FnOk P w K mg base CX0 k fl dl ["wishes", "most", "person"] (spLeftList C)) (bl : Binds K dl ["wishes", "most", "person"] []) (kl : PySem.W.keepIn K (.ref fl) = true) (mll : mg "_left_list" = some (.ref fl))
    (mt : mg "tuple" = none) (ml : mg "len" = none) (mrg : mg "range" = none) : FnOk P w K mg base CX0 (k + 1) f fd ["wishes", "holds"] (spLeftLists C) := by
  refine F.ok scLeftLists (fun vs H Q E h => ?_) (fun cdv A outer s H vs Q E hr h => ?_)
  · obtain ⟨wi, b, ns, ls, hs, rfl, _⟩ := h
    rfl
  · obtain ⟨wi, b, ns, ls, hs, rfl, W, eb, ho, q⟩ := h
    refine ⟨_, pss_cons (ps_set (i := 2) scLeftLists.nd rfl (.inr rfl) (pe_call Gr hr rfl mr kr br .nil pass0 (pa_cons (pv 0) (pa_cons (pv 1) pa_nil))))
      (pss_one (ps_ret (pe_callTy call_tuple_of (by rfl) mt (by decide +kernel) (pa_cons (pe_lc (own := [("person", 3)]) (g := gName 3) (tt := tYes) rfl scLeftLists.nd (pi_range1 rfl mrg (pa_cons (pe_callB call_len_seq (by rfl) ml PySem.boot_len (pa_cons (pv 1) pa_nil)) pa_nil))
          (blkOk_by (own := [("person", 3)]) (N := ["wishes", "holds", "most", "person"]) (sc := defScope sLeftLists) (by decide +kernel)) (fun _ _ _ _ _ => pg_name (i := 3) scLeftLists.nd rfl (Or.inl rfl)) (fun _ _ _ _ _ => pts_nil)
          (fun _ _ _ _ _ => pe_call Gl hr rfl mll kl bl .nil pass0 (pa_cons (pv 0) (pa_cons (pv 2) (pa_cons (pv 3) pa_nil))))) pa_nil)))), ?_⟩
    have n60 := W.n60.2
    refine ⟨_, rfl, _, rfl, wi, b, ns, ls, hs, rfl, W, eb, ho, fun m H1 s1 em => ?_⟩
    refine ⟨_, rfl, b, VH hs, rfl, .inr (SqT.of (s1 _ _ eb)), ?_⟩
    have lh : (VH hs).length = ls.length := by rw [VH_len, ho.len]
    rw [lh]
    refine ⟨_, rfl, by omega, by omega, fun D nD => ?_⟩
    refine lc_rows (J := Itr 0 ls.length) (n := ls.length) walk_range0 (by omega) (fun i => VI (leftL ls hs i)) nD (fun _ _ => trivial) ?_ ?_
    · rintro i x H2 H3 Z out hi sm ⟨rfl, rfl⟩
      exact gn ⟨rfl, _, rfl, _, rfl, _, rfl, wi, m, ns, ls, hs, i, rfl, (W.same s1).same sm, sm _ _ em, hi, fun r H4 s4 er => out r H4 s4 er⟩
    · intro rs H2 sm eD rl rows
      refine ⟨D, _, rfl, .inl ⟨SqL.of eD, fun r nr => q r _ ((s1.trans sm).fresh ((s1.trans sm).free nr)) ⟨rs, upd_same, ?_, ?_⟩⟩⟩
      · rw [rl]
        simp [leftA]
      · intro i a x e1 e2
        have : x = leftL ls hs i := by
          unfold leftA at e2
          rw [List.getElem?_map] at e2
          have hi := (List.getElem?_eq_some_iff.mp e1).1
          rw [List.getElem?_range (by omega)] at e2
          exact (Option.some.inj e2).symm
        rw [this]
        exact .inl (ofN nr (rows i a e1))
end
end K14
namespace K14
open PySem PySem.Spec PyProof.Rows L2
theorem head_at {f : Nat → Bool} {xs : List Nat} {i o : Nat} (e : xs[i]? = some o) (no : (xs.take i).filter f = []) (c : f o = true) : (xs.filter f).head? = some o := by
  have h : xs = xs.take i ++ (o :: xs.drop (i + 1)) := by
    have hi := (List.getElem?_eq_some_iff.mp e)
    obtain ⟨hl, rfl⟩ := hi
    rw [List.getElem_cons_drop, List.take_append_drop]
  rw [h, List.filter_append, no, List.nil_append, List.filter_cons, if_pos c]
  rfl
def hitB (xs : List (Option Nat)) (o : Option Nat) (p : Nat) : Bool := match o with
  | none => true
  | some j => decide (ha xs j = some p)
def steadyB (ls : List (List Nat)) (hs : List (Option Nat)) : Bool :=
  ((List.range ls.length).all fun p => hitB (firsts ls hs) (ha hs p) p) && ((List.range ls.length).all fun p => hitB hs (ha (firsts ls hs) p) p)
def spIsSteady (C : Addr) : Sp := fun vs H Q _ => ∃ (wi : Addr) (ns ls : List (List Nat)) (v : V), vs = [.ref wi, v] ∧ WAt C H wi ns ls ∧ Pl H v ∧ (∀ xs, tupOf H v = some xs → xs.length ≤ 1000 ∧ ∀ x ∈ xs, Pl H x) ∧
  (holdsV H ls v = false → ∀ H', Same H H' → Q (.bl false) H') ∧ (∀ hs, tupOf H v = some (VH hs) → HoldsOk ls hs → ∀ H', Same H H' → Q (.bl (steadyB ls hs)) H')
def withinB (ls : List (List Nat)) (h1 h2 : List (Option Nat)) : Bool := (List.range ls.length).all fun p => decide (most ls h1 p ≤ most ls h2 p)
def spAreWithin (C : Addr) : Sp := fun vs H Q _ => ∃ (wi a b : Addr) (ns ls : List (List Nat)) (h1 h2 : List (Option Nat)), vs = [.ref wi, .ref a, .ref b] ∧ WAt C H wi ns ls ∧ H a = some (.tup (VH h1)) ∧ H b = some (.tup (VH h2)) ∧ HoldsOk ls h1 ∧ HoldsOk ls h2 ∧ ∀ H', Same H H' → Q (.bl (withinB ls h1 h2)) H'
def spLeftWishes (C : Addr) : Sp := fun vs H Q _ => ∃ (wi b : Addr) (ns ls : List (List Nat)) (hs : List (Option Nat)), vs = [.ref wi, .ref b] ∧ WAt C H wi ns ls ∧ H b = some (.tup (VH hs)) ∧ HoldsOk ls hs ∧ ∀ r H', Same H H' → WAt C H' r ns (leftA ls hs) → Q (.ref r) H'
theorem firsts_len (ls : List (List Nat)) (hs : List (Option Nat)) : (firsts ls hs).length = ls.length := by simp [firsts]
theorem leftA_len (ls : List (List Nat)) (hs : List (Option Nat)) : (leftA ls hs).length = ls.length := by simp [leftA]
/-- the lists left are lists both ways -/
theorem la_of {ls : List (List Nat)} {p : Nat} {t : List Nat} (e : ls[p]? = some t) : la ls p = t := by
  unfold la
  rw [List.getD_eq_getElem?_getD, e]
  rfl
theorem ListsOk.mate {n : Nat} {ls : List (List Nat)} (ok : ListsOk n ls) {p o : Nat} (hp : p < n) (h : o ∈ la ls p) : o < n ∧ o ≠ p ∧ p ∈ K14.la ls o := by
  obtain ⟨h1, h2, t, et, hm⟩ := ok.both p _ o (la_get (by rw [ok.len]; exact hp)) h
  exact ⟨h1, h2, by rw [la_of et]; exact hm⟩
theorem ListsOk.nda {n : Nat} {ls : List (List Nat)} (ok : ListsOk n ls) {p : Nat} (hp : p < n) : (la ls p).Nodup := ok.nd p _ (la_get (by rw [ok.len]; exact hp))
theorem mem_take_idx {s : List Nat} (nd : s.Nodup) {m o : Nat} : o ∈ s.take (m + 1) ↔ o ∈ s ∧ s.idxOf o ≤ m := by
  constructor
  · intro h
    have hs := List.mem_of_mem_take h
    refine ⟨hs, ?_⟩
    obtain ⟨k, hk, ek⟩ := List.mem_iff_getElem.mp h
    rw [List.getElem_take] at ek
    rw [List.length_take] at hk
    have hl := List.idxOf_lt_length_of_mem hs
    have e1 : s[s.idxOf o]? = some o := by rw [List.getElem?_eq_getElem hl, List.getElem_idxOf]
    have e2 : s[k]? = some o := by rw [List.getElem?_eq_getElem (by omega), ek]
    have := nodup_ix nd e1 e2
    omega
  · rintro ⟨h, hm⟩
    have hl := List.idxOf_lt_length_of_mem h
    rw [List.mem_iff_getElem]
    refine ⟨s.idxOf o, by rw [List.length_take]; omega, ?_⟩
    rw [List.getElem_take, List.getElem_idxOf]
theorem mem_left {n : Nat} {ls : List (List Nat)} (ok : ListsOk n ls) {hs : List (Option Nat)} {p : Nat} (hp : p < n) {o : Nat} : o ∈ leftL ls hs p ↔ o ∈ la ls p ∧ (la ls p).idxOf o ≤ most ls hs p ∧ (la ls o).idxOf p ≤ most ls hs o := by
  unfold leftL keepF
  rw [List.mem_filter, mem_take_idx (ok.nda hp), decide_eq_true_eq, and_assoc]
theorem leftA_at {ls : List (List Nat)} {hs : List (Option Nat)} {p : Nat} {t : List Nat} (e : (leftA ls hs)[p]? = some t) : p < ls.length ∧ t = leftL ls hs p := by
  unfold leftA at e
  rw [List.getElem?_map] at e
  by_cases c : p < ls.length
  · rw [List.getElem?_range c] at e
    exact ⟨c, (Option.some.inj e).symm⟩
  · rw [List.getElem?_eq_none (by simpa using c)] at e
    cases e
theorem leftA_ok {n : Nat} {ls : List (List Nat)} (ok : ListsOk n ls) (hs : List (Option Nat)) : ListsOk n (leftA ls hs) := by
  refine ⟨by rw [leftA_len, ok.len], fun i s e => ?_, fun i s j e hj => ?_⟩
  · obtain ⟨h1, rfl⟩ := leftA_at e
    rw [ok.len] at h1
    unfold leftL
    exact List.Pairwise.filter _ ((List.take_sublist _ _).nodup (ok.nda h1))
  · obtain ⟨h1, rfl⟩ := leftA_at e
    rw [ok.len] at h1
    obtain ⟨a1, a2, a3⟩ := (mem_left ok h1).mp hj
    obtain ⟨b1, b2, b3⟩ := ok.mate h1 a1
    refine ⟨b1, b2, leftL ls hs j, ?_, (mem_left ok b1).mpr ⟨b3, a3, a2⟩⟩
    unfold leftA
    rw [List.getElem?_map, List.getElem?_range (by rw [ok.len]; exact b1)]
    rfl
section
variable {P : Program} {w : World} {K : PySem.W.Frag} {mg : Str → Option Value} {base : Heap}
theorem ok_first_left {f fr C : Addr} {fd dr : FuncData} {k : Nat} (F : Fun K "first_left" "first_left" sFirstLeft f fd) (T : Txt K mg C)
    (Gr : FnOk P w K mg base CX0 k fr dr ["wishes"] (spRanksIn C)) (br : Binds K dr ["wishes"] []) (kr : PySem.W.keepIn K (.ref fr) = true) (mr : mg "ranks_in" = some (.ref fr)) : FnOk P w K mg base CX0 (k + 1) f fd ["wishes", "most", "person"] (spFirstLeft C) := by
  refine F.ok scFirstLeft (fun vs H Q E h => ?_) (fun cdv A outer s H vs Q E hr h => ?_)
  · obtain ⟨wi, m, ns, ls, hs, p, rfl, _⟩ := h
    rfl
  · obtain ⟨wi, m, ns, ls, hs, p, rfl, W, em, hp, q⟩ := h
    refine ⟨_, pss_cons (ps_set (i := 3) scFirstLeft.nd rfl (.inl rfl) (pe_call Gr hr rfl mr kr br .nil pass0 (pa_cons (pv 0) pa_nil)))
      (pss_cons (ps_for PassesOwn.never rfl (pi_tup (pe_slice sl_tupA (pe_ix ix_tup (pe_fld (pv 0) rfl) (pv 2) (fun _ _ => rfl)) po_none (po_some (pe_op op_add (pe_ix ix_seq (pv 1) (pv 2) (fun _ _ => rfl)) pe_int)))) (pg_name (i := 4) scFirstLeft.nd rfl (.inl rfl))
        (pss_one (ps_if (pt_cmpR op_le (pe_ix ix_tup (pe_ix ix_tup (pv 3) (pv 4) (fun _ _ => rfl)) (pv 2) (fun _ _ => rfl)) (pe_ix ix_seq (pv 1) (pv 4) (fun _ _ => rfl)) (nomark _)) (pss_one (ps_ret (pv 4))) pss_nil)))
      (pss_one (ps_ret pe_non))), ?_⟩
    obtain ⟨dx, n, l, r0, e1, e2, e3, e4⟩ := W.ex
    obtain ⟨rows, c, er, ec, ev⟩ := e3.at (la_get hp)
    refine ⟨_, rfl, wi, ns, ls, rfl, W, fun r rt => ?_⟩
    refine ⟨_, rfl, wi, C, dx, _, _, rfl, e1, T.cl, T.nL, wf_lists n l r0, _, rfl, l, rows, _, _, rfl, rfl, SqT.of er, atI_nat ec, _, rfl, _, rfl, rIx_vm em hp ⟨_, _, rfl, rfl, _, rfl, slA ev fun b H1 s1 eb => ?_⟩⟩
    refine ⟨b, rfl, ⟨_, eb.sq⟩, for_it (walk_tup (K := K) (a := b) (xs := VI ((la ls p).take (most ls hs p + 1)))) (fun i σ H' => H' = H1 ∧ (∃ y : Option V, σ = [some (.ref wi), some (.ref m), some (.int p), some (.ref r), y]) ∧ (((la ls p).take (most ls hs p + 1)).take i).filter (keepF ls hs p) = [])
      ⟨rfl, ⟨none, rfl⟩, by rw [List.take_zero]; rfl⟩ (fun i σ H' _ h => by rw [h.1]; exact eb.sq) ?_ ?_⟩
    · rintro i x σ H2 H3 hi ⟨rfl, ⟨y, rfl⟩, no⟩ ⟨rfl, ex⟩
      obtain ⟨o, eo, rfl⟩ := VI_at ex
      have ho := (mem_take_idx (W.ok.nda hp)).mp (List.mem_of_getElem? eo)
      obtain ⟨h1, _, h2⟩ := W.ok.mate hp ho.1
      obtain ⟨rows2, c2, er2, ec2, ev2⟩ := rt.at (la_get h1)
      have e6 : rkV (la ls o) p = .int ((la ls o).idxOf p : Nat) := by
        unfold rkV
        rw [if_pos h2]
      have e7 := VR_get (s := la ls o) hp
      rw [e6] at e7
      refine gn ?_
      dsimp only [List.set]
      refine ⟨_, rfl, _, rfl, r, rows2, _, _, rfl, rfl, SqT.of (s1 _ _ er2), atI_nat ec2, _, rfl, c2, _, _, _, rfl, rfl, SqT.of (s1 _ _ ev2), atI_nat e7, _, rfl, _, rfl, rIx_vm (em.same s1) h1 ⟨_, _, rfl, rfl, keepF ls hs p o, ?_, ?_⟩⟩
      · refine congrArg V.bl ?_
        unfold keepF
        rw [decide_eq_decide]
        omega
      · refine ite2 (fun c => ?_) (fun c => ?_)
        · refine ⟨_, rfl, ?_⟩
          have := head_at eo no c
          have hq := q _ s1
          unfold leftL at hq
          rw [this] at hq
          exact hq
        · refine ⟨rfl, ⟨_, rfl⟩, ?_⟩
          have tk : ((la ls p).take (most ls hs p + 1)).take (i + 1) = ((la ls p).take (most ls hs p + 1)).take i ++ [o] := by
            rw [List.take_succ, eo]
            rfl
          rw [tk, List.filter_append, no, List.nil_append, List.filter_cons, if_neg c, List.filter_nil]
    · rintro σ H2 ⟨rfl, ⟨y, rfl⟩, no⟩
      rw [VI_len, List.take_length] at no
      have hq := q _ s1
      unfold leftL at hq
      rw [no] at hq
      exact hq
end
end K14
namespace K14
open PySem PySem.Spec PyProof.Rows L2
/-! ### data -/
def dN (ns : List (List Nat)) : PyData := .tuple (ns.map fun s => .str (SS s))
def dI (s : List Nat) : PyData := .tuple (s.map fun j => .int (j : Nat))
def dL (ls : List (List Nat)) : PyData := .tuple (ls.map dI)
def dH (hs : List (Option Nat)) : PyData := .tuple (hs.map fun o => match o with | none => .none | some j => .int (j : Nat))
theorem layAll {xs : List PyData} (h : ∀ x ∈ xs, PyData.canLay0 x = true) : PyData.canLayAll0 xs = true := by
  induction xs with
  | nil => rfl
  | cons c r ih => simp only [PyData.canLayAll0, h c (by simp), ih (fun x hx => h x (by simp [hx])), Bool.and_self]
theorem depAll {xs : List PyData} {d : Nat} (h : ∀ x ∈ xs, PyData.depth x ≤ d) : PyData.depthAll xs ≤ d := by
  induction xs with
  | nil => simp [PyData.depthAll]
  | cons c r ih =>
    have h1 := h c (by simp)
    have h2 := ih (fun x hx => h x (by simp [hx]))
    simp only [PyData.depthAll]
    omega
theorem shaped_of {x : PyData} (h : PyData.canLay0 x = true) (d : PyData.depth x ≤ 64) : SeqAt.shaped x = true := by
  show (PyData.canLay0 x && decide (PyData.depth x ≤ 64)) = true
  rw [h, decide_eq_true d]
  rfl
theorem lay_dI (s : List Nat) : PyData.canLay0 (dI s) = true ∧ PyData.depth (dI s) ≤ 2 := by
  unfold dI
  constructor
  · simp only [PyData.canLay0]
    refine layAll fun x hx => ?_
    obtain ⟨j, _, rfl⟩ := List.mem_map.mp hx
    rfl
  · simp only [PyData.depth]
    have := depAll (xs := s.map fun j => PyData.int (j : Nat)) (d := 1) fun x hx => by
      obtain ⟨j, _, rfl⟩ := List.mem_map.mp hx
      simp [PyData.depth]
    omega
theorem sh_dL (ls : List (List Nat)) : SeqAt.shaped (dL ls) = true := by
  unfold dL
  refine shaped_of ?_ ?_
  · simp only [PyData.canLay0]
    refine layAll fun x hx => ?_
    obtain ⟨j, _, rfl⟩ := List.mem_map.mp hx
    exact (lay_dI j).1
  · simp only [PyData.depth]
    have := depAll (xs := ls.map dI) (d := 2) fun x hx => by
      obtain ⟨j, _, rfl⟩ := List.mem_map.mp hx
      exact (lay_dI j).2
    omega
theorem ok_str {s : List Nat} (h : s.length ≤ 6) (hc : ∀ c ∈ s, 97 ≤ c ∧ c ≤ 122) : PyData.canLay0 (.str (SS s)) = true := by
  simp only [PyData.canLay0]
  unfold PyData.strOk
  rw [Array.all_eq_true]
  intro i hi
  have := hc ((SS s).cps[i]) (by simp)
  rw [decide_eq_true_eq]
  omega
theorem sh_dN (ns : List (List Nat)) (h6 : ∀ s ∈ ns, s.length ≤ 6 ∧ ∀ c ∈ s, 97 ≤ c ∧ c ≤ 122) : SeqAt.shaped (dN ns) = true := by
  unfold dN
  refine shaped_of ?_ ?_
  · simp only [PyData.canLay0]
    refine layAll fun x hx => ?_
    obtain ⟨j, hj, rfl⟩ := List.mem_map.mp hx
    exact ok_str (h6 j hj).1 (h6 j hj).2
  · simp only [PyData.depth]
    have := depAll (xs := ns.map fun s => PyData.str (SS s)) (d := 1) fun x hx => by
      obtain ⟨j, _, rfl⟩ := List.mem_map.mp hx
      simp [PyData.depth]
    omega
theorem sh_dH (hs : List (Option Nat)) : SeqAt.shaped (dH hs) = true := by
  unfold dH
  refine shaped_of ?_ ?_
  · simp only [PyData.canLay0]
    refine layAll fun x hx => ?_
    obtain ⟨j, _, rfl⟩ := List.mem_map.mp hx
    cases j <;> rfl
  · simp only [PyData.depth]
    have := depAll (xs := hs.map fun o => match o with | none => PyData.none | some j => .int (j : Nat)) (d := 1) fun x hx => by
      obtain ⟨j, _, rfl⟩ := List.mem_map.mp hx
      cases j <;> simp [PyData.depth]
    omega
theorem dp_dI {K : PySem.W.Frag} {H : Hp} {a : Addr} {s : List Nat} (e : Tp H a (VI s)) : Dp K H (.ref a) (dI s) := by
  refine .tup e.sq ?_
  unfold VI
  clear e
  induction s with
  | nil => exact .nil
  | cons c r ih => exact .cons (.int _) ih
theorem dp_dN {K : PySem.W.Frag} {H : Hp} {a : Addr} {ns : List (List Nat)} (e : H a = some (.tup (VN ns))) : Dp K H (.ref a) (dN ns) := by
  refine .tup (SqT.of e) ?_
  unfold VN
  clear e
  induction ns with
  | nil => exact .nil
  | cons c r ih => exact .cons (.str _) ih
theorem dp_dH {K : PySem.W.Frag} {H : Hp} {a : Addr} {hs : List (Option Nat)} (e : H a = some (.tup (VH hs))) : Dp K H (.ref a) (dH hs) := by
  refine .tup (SqT.of e) ?_
  unfold VH
  clear e
  induction hs with
  | nil => exact .nil
  | cons c r ih =>
    cases c with
    | none => exact .cons .non ih
    | some j => exact .cons (.int _) ih
theorem dp_dL {K : PySem.W.Frag} {H : Hp} {a : Addr} {ls : List (List Nat)} (e : LT H a ls) : Dp K H (.ref a) (dL ls) := by
  obtain ⟨as, e1, al, rows⟩ := e
  refine .tup (SqT.of e1) ?_
  clear e1
  induction ls generalizing as with
  | nil =>
    cases as with
    | nil => exact .nil
    | cons b t => cases al
  | cons c r ih =>
    cases as with
    | nil => cases al
    | cons b t =>
      exact .cons (dp_dI (rows 0 b c rfl rfl)) (ih t (by simpa using al) fun i a s e1 e2 => rows (i + 1) a s (by simpa using e1) (by simpa using e2))
end K14
namespace K14
open PySem PySem.Spec PyProof.Rows L2
def spWEq (C : Addr) : Sp := spEq fun a b H => ∃ ns ls, WAt C H a ns ls ∧ WAt C H b ns ls
theorem scWEq : FnScope ["self", "other"] ["self", "other"] (defScope sWEq) := ⟨rfl, rfl, rfl, by decide +kernel, rfl, by decide +kernel, by decide +kernel⟩
theorem eq_dN (ns : List (List Nat)) (h : ∀ s ∈ ns, s.length ≤ 6 ∧ ∀ c ∈ s, 97 ≤ c ∧ c ≤ 122) : PyData.eqv (dN ns) (dN ns) = true := by
  refine SeqAt.eqv_refl _ ?_
  have := sh_dN ns h
  unfold SeqAt.shaped at this
  rw [Bool.and_eq_true] at this
  exact this.1
theorem eq_dL (ls : List (List Nat)) : PyData.eqv (dL ls) (dL ls) = true := by
  refine SeqAt.eqv_refl _ ?_
  have := sh_dL ls
  unfold SeqAt.shaped at this
  rw [Bool.and_eq_true] at this
  exact this.1
theorem mayV_hold {n : Nat} {s : List Nat} {v : V} (h : mayV n s v = true) : ∃ o, v = hv o ∧ ∀ j, o = some j → j < n ∧ j ∈ s := by
  cases v with
  | non => exact ⟨none, rfl, fun _ e => by cases e⟩
  | int i =>
    simp only [mayV, Bool.and_eq_true, decide_eq_true_eq] at h
    refine ⟨some i.toNat, ?_, fun j e => ?_⟩
    · show V.int i = V.int (i.toNat : Int)
      congr 1
      omega
    · cases e
      exact ⟨by omega, h.2⟩
  | bl b => cases h
  | str s => cases h
  | ref a => cases h
  | byt b => cases h
  | flt b => cases h
  | ty n => cases h
theorem holdsV_true {H : Hp} {ls : List (List Nat)} {v : V} (h : holdsV H ls v = true) : ∃ hs, tupOf H v = some (VH hs) ∧ HoldsOk ls hs := by
  unfold holdsV at h
  cases tv : tupOf H v with
  | none => rw [tv] at h; cases h
  | some xs =>
    rw [tv] at h
    dsimp only at h
    rw [Bool.and_eq_true, decide_eq_true_eq, List.all_eq_true] at h
    have each : ∀ i, i < xs.length → ∃ o, xs[i]? = some (hv o) ∧ ∀ j, o = some j → j < ls.length ∧ j ∈ la ls i := fun i hi => by
      obtain ⟨o, eo, ho⟩ := mayV_hold (h.2 i (List.mem_range.mpr hi))
      refine ⟨o, ?_, ho⟩
      rw [← eo, List.getD_eq_getElem?_getD, List.getElem?_eq_getElem hi]
      rfl
    let g : V → Option Nat := fun v => match v with | .int i => some i.toNat | _ => none
    have gv : ∀ o, g (hv o) = o := fun o => by
      cases o with
      | none => rfl
      | some j => exact congrArg some (Int.toNat_natCast j)
    refine ⟨xs.map g, ?_, ?_, ?_⟩
    · congr 1
      apply List.ext_getElem?
      intro i
      by_cases c : i < xs.length
      · obtain ⟨o, e, _⟩ := each i c
        unfold VH
        rw [List.getElem?_map, List.getElem?_map, e]
        show some (hv o) = some (hv (g (hv o)))
        rw [gv]
      · rw [List.getElem?_eq_none (by omega), List.getElem?_eq_none (by simpa [VH] using c)]
    · rw [List.length_map, h.1]
    · intro p j e
      unfold ha at e
      rw [List.getD_eq_getElem?_getD, List.getElem?_map] at e
      by_cases c : p < xs.length
      · obtain ⟨o, eo, ho⟩ := each p c
        rw [eo] at e
        have e' : g (hv o) = some j := e
        rw [gv] at e'
        exact ⟨by omega, (ho j e').2⟩
      · rw [List.getElem?_eq_none (by omega)] at e
        cases e
theorem first_lt {ls : List (List Nat)} {hs : List (Option Nat)} {p j : Nat} (ok : ListsOk ls.length ls) (hp : p < ls.length) (e : ha (firsts ls hs) p = some j) : j < ls.length := by
  unfold ha firsts at e
  rw [List.getD_eq_getElem?_getD, List.getElem?_map, List.getElem?_range hp] at e
  have e' : (leftL ls hs p).head? = some j := e
  have := List.mem_of_mem_head? (show j ∈ (leftL ls hs p).head? from e')
  exact (ok.mate hp ((mem_left ok hp).mp this).1).1
theorem scal_hv (o : Option Nat) (i : Int) : scal (hv o) (.int i) = true := by cases o <;> rfl
theorem dec_hv (o : Option Nat) (i : Nat) : decide (hv o = V.int (i : Nat)) = decide (o = some i) := by
  rw [decide_eq_decide]
  cases o with
  | none => exact ⟨fun e => (by cases e), fun e => (by cases e)⟩
  | some j =>
    constructor
    · intro e
      have : ((j : Nat) : Int) = (i : Nat) := V.int.inj e
      congr 1
      omega
    · intro e
      cases e
      rfl
section
variable {P : Program} {w : World} {K : PySem.W.Frag} {mg : Str → Option Value} {base : Heap}
theorem ok_weq {f C : Addr} {fd : FuncData} {k : Nat} (F : Fun K "__eq__" "Wishes.__eq__" sWEq f fd) (T : Txt K mg C) (ic : C8.InsC K C) (mis : mg "isinstance" = none) : FnOk P w K mg base CX0 (k + 1) f fd ["self", "other"] (spWEq C) := by
  refine F.ok scWEq (fun vs H Q E h => ?_) (fun cdv A outer s H vs Q E hr h => ?_)
  · obtain ⟨a, b, rfl, _⟩ := h
    rfl
  · obtain ⟨a, b, rfl, ⟨ns, ls, Wa, Wb⟩, q⟩ := h
    refine ⟨_, pss_one (ps_ret (pe_and (pe_callB (C8.call_isC ic) (by rfl) mis (by decide +kernel) (pa_cons (pv 1) (pa_cons (pe_glob (v := .ref C) rfl T.mgC rfl) pa_nil)))
      (pe_and (pe_cmpR (op_eqD hr.units) (pe_fld (pv 0) rfl) (pe_fld (pv 1) rfl) (nomark _)) (pe_one (pe_cmpR (op_eqD hr.units) (pe_fld (pv 0) rfl) (pe_fld (pv 1) rfl) (nomark _)))))), ?_⟩
    obtain ⟨dx, n, l, r, e1, e2, e3, e4⟩ := Wa.ex
    obtain ⟨dx', n', l', r', e1', e2', e3', e4'⟩ := Wb.ex
    have h6 : ∀ s ∈ ns, s.length ≤ 6 ∧ ∀ c ∈ s, 97 ≤ c ∧ c ≤ 122 := fun s hs => (Wa.nok.each s hs).2
    refine ⟨_, rfl, b, _, _, rfl, e1', true, rfl, iteT ?_⟩
    refine ⟨_, rfl, a, C, dx, _, _, rfl, e1, T.cl, T.nN, wf_names n l r, _, rfl, b, C, dx', _, _, rfl, e1', T.cl, T.nN, wf_names n' l' r', dN ns, dN ns, dp_dN e2, dp_dN e2', sh_dN ns h6, sh_dN ns h6, true, congrArg V.bl (eq_dN ns h6), iteT ?_⟩
    refine ⟨_, rfl, a, C, dx, _, _, rfl, e1, T.cl, T.nL, wf_lists n l r, _, rfl, b, C, dx', _, _, rfl, e1', T.cl, T.nL, wf_lists n' l' r', dL ls, dL ls, dp_dL e3, dp_dL e3', sh_dL ls, sh_dL ls, ?_⟩
    rw [eq_dL]
    exact q H fun _ _ e => e
end
end K14
namespace K14
open PySem PySem.Spec PyProof.Rows L2
/-! ### the law's own reading: ranks, lists left -/
def spRank : Sp := fun vs H Q _ => ∃ (a : Addr) (ls : List (List Nat)) (p : Nat) (o : Option Nat), vs = [.ref a, .int p, hv o] ∧ LX H a ls ∧ p < ls.length ∧ (∀ j, o = some j → j ∈ la ls p) ∧ Q (.int (rkN (la ls p) o : Nat)) H
theorem scRank : FnScope ["lists", "person", "other"] ["lists", "person", "other"] (defScope sRank) := ⟨rfl, rfl, rfl, by decide +kernel, rfl, by decide +kernel, by decide +kernel⟩
def spLeft : Sp := fun vs H Q _ => ∃ (a b : Addr) (ls : List (List Nat)) (hs : List (Option Nat)), vs = [.ref a, .ref b] ∧ LX H a ls ∧ H b = some (.tup (VH hs)) ∧ HoldsOk ls hs ∧ ListsOk ls.length ls ∧ ls.length ≤ 100 ∧ ∀ r H', Same H H' → LT H' r (leftA ls hs) → Q (.ref r) H'
theorem scLeft : FnScope ["lists", "holds", "person", "bounds", "found", "some", "other"] ["lists", "holds"] (defScope sLeft) := ⟨rfl, rfl, rfl, by decide +kernel, rfl, by decide +kernel, by decide +kernel⟩
theorem take_filter {s : List Nat} (nd : s.Nodup) (m : Nat) : s.filter (fun o => decide (s.idxOf o ≤ m)) = s.take (m + 1) := by
  have key : ∀ (k : Nat), k ≤ s.length → (s.take k).filter (fun o => decide (s.idxOf o ≤ m)) = s.take (min k (m + 1)) := by
    intro k
    induction k with
    | zero => intro _; simp
    | succ k ih =>
      intro hk
      have hl : k < s.length := hk
      have e : s[k]? = some s[k] := List.getElem?_eq_getElem hl
      have ix : s.idxOf s[k] = k := by
        have hm := List.getElem_mem hl
        have hl2 := List.idxOf_lt_length_of_mem hm
        exact nodup_ix nd (by rw [List.getElem?_eq_getElem hl2, List.getElem_idxOf]) e
      rw [List.take_succ, e, List.filter_append, ih (by omega)]
      show s.take (min k (m + 1)) ++ [s[k]].filter _ = _
      rw [List.filter_cons, ix]
      by_cases c : k ≤ m
      · rw [if_pos (by simpa using c), List.filter_nil, Nat.min_eq_left (by omega), Nat.min_eq_left (by omega), List.take_succ, e]
        rfl
      · rw [if_neg (by simpa using c), List.filter_nil, List.append_nil, Nat.min_eq_right (by omega), Nat.min_eq_right (by omega)]
  have h := key s.length (Nat.le_refl _)
  rw [List.take_length] at h
  rw [h]
  by_cases c : m + 1 ≤ s.length
  · rw [Nat.min_eq_right c]
  · rw [Nat.min_eq_left (by omega), List.take_length, List.take_of_length_le (by omega)]
theorem LX.at {H : Hp} {r : Addr} {ls : List (List Nat)} (t : LX H r ls) {i : Nat} {s : List Nat} (e : ls[i]? = some s) : ∃ xs a, H r = some (.tup xs) ∧ xs[i]? = some (.ref a) ∧ Ex H a (VI s) := by
  obtain ⟨as, e1, l, q⟩ := t
  have hi := (List.getElem?_eq_some_iff.mp e).1
  have ha : i < as.length := by omega
  exact ⟨_, as[i], e1, by rw [List.getElem?_map, List.getElem?_eq_getElem ha]; rfl, q i _ s (List.getElem?_eq_getElem ha) e⟩
section
variable {P : Program} {w : World} {K : PySem.W.Frag} {mg : Str → Option Value} {base : Heap}
theorem ok_rank {f : Addr} {fd : FuncData} {k : Nat} (F : Fun K "_law_rank" "_law_rank" sRank f fd) (ml : mg "len" = none) : FnOk P w K mg base CX0 (k + 1) f fd ["lists", "person", "other"] spRank := by
  refine F.ok scRank (fun vs H Q E h => ?_) (fun cdv A outer s H vs Q E hr h => ?_)
  · obtain ⟨a, ls, p, o, rfl, _⟩ := h
    rfl
  · obtain ⟨a, ls, p, o, rfl, lt, hp, ho, q⟩ := h
    refine ⟨_, pss_one (ps_ret (pe_ifExp (pt_cmpR op_isN (pv 2) pe_non (nomark _)) (pe_callB call_len_seq (by rfl) ml PySem.boot_len (pa_cons (pe_ix ix_tup (pv 0) (pv 1) (fun _ _ => rfl)) pa_nil)) (pe_bmT PySem.F.plainAttrs_tuple PySem.F.slot_tuple_index PySem.F.type_tuple_index mt_tupIdx (pe_ix ix_tup (pv 0) (pv 1) (fun _ _ => rfl)) (pa_cons (pv 2) pa_nil)))), ?_⟩
    obtain ⟨rows, c, er, ec, ev⟩ := LX.at lt (la_get hp)
    refine ⟨_, rfl, rfl, _, rfl, ?_⟩
    cases o with
    | none =>
      refine iteT ⟨_, rfl, _, rfl, a, rows, _, _, rfl, rfl, SqT.of er, atI_nat ec, c, _, rfl, .inr (Tp.sq (.inr ev)), ?_⟩
      rw [VI_len]
      exact q
    | some j =>
      refine iteF ⟨_, rfl, _, rfl, a, rows, _, _, rfl, rfl, SqT.of er, atI_nat ec, ⟨c, _, rfl, ev⟩, _, rfl, c, la ls p, j, rfl, rfl, Tp.sq (.inr ev), ho j rfl, q⟩
end
end K14
namespace K14
open PySem PySem.Spec PyProof.Rows L2
section
variable {J : It} {n : Nat} {G : Hp → Prop} {Y : Nat → Hp → V → Hp → Prop}
/-- a comprehension with a test that leaves all as it stood: the items at which the test is true -/
theorem lc_sel (w : Walk J n G Y) {g : TG} {tt : TT} {te : TE} {vs : List Nat} {σ : L2.St} {H0 : Hp} {D : Addr} {Qd : Hp → Prop} (hn : n ≤ 100000) (xs : List V) (f : V → Bool) (xl : xs.length = n) (nD : H0 D = none) (hG : ∀ H, Same H0 H → G H)
    (hs : ∀ (i : Nat) (x : V) (H H' : Hp) (R : Hp → Prop) (Z : V → Hp → Prop), (∀ H3, Same H H3 → f (xs.getD i .non) = true → Z (xs.getD i .non) H3) → (∀ H3, Same H H3 → f (xs.getD i .non) = false → R H3) → i < n → Same H0 H → Y i H x H' → g x (wipe σ vs) H' fun σ2 H2 => wipe σ2 vs = wipe σ vs ∧ tt σ2 H2 fun b H3 => if b = true then te σ2 H3 Z else R H3)
    (hd : ∀ H, Same H0 H → H D = some (.lst (xs.filter f)) → Qd H) :
    ∃ W : Nat → Nat → Hp → Prop, (∃ m, W 0 m (upd H0 D (.lst []))) ∧ ∀ i m H, W i m H →
      (J.stop i H ∧ Qd H) ∨ (J.go i H ∧ ∃ Nx : Hp → Prop, (∀ H', Nx H' → ∃ m', m' < m ∧ W (i + 1) m' H') ∧ ∀ x H', J.yld i H x H' → g x (wipe σ vs) H' fun σ2 H2 => wipe σ2 vs = wipe σ vs ∧ tt σ2 H2 fun b H3 =>
        if b = true then te σ2 H3 fun y H4 => ∃ acc, H4 D = some (.lst acc) ∧ acc.length < sizeLine ∧ Nx (upd H4 D (.lst (acc ++ [y]))) else Nx H3) := by
  refine lc_it w (fun i H => Same H0 H ∧ H D = some (.lst ((xs.take i).filter f))) ⟨same_upd nD, by rw [upd_same, List.take_zero]; rfl⟩ (fun i H _ h => hG H h.1) (fun i x H H' hi h y => ?_) (fun H h => hd H h.1 (by rw [← xl, List.take_length] at h; exact h.2))
  have tk : xs.take (i + 1) = xs.take i ++ [xs.getD i .non] := by
    rw [List.take_succ, List.getD_eq_getElem?_getD, List.getElem?_eq_getElem (by omega)]
    rfl
  refine hs i x H H' (fun H => Same H0 H ∧ H D = some (.lst ((xs.take (i + 1)).filter f))) (fun v H3 => ∃ acc, H3 D = some (.lst acc) ∧ acc.length < sizeLine ∧ (fun H => Same H0 H ∧ H D = some (.lst ((xs.take (i + 1)).filter f))) (upd H3 D (.lst (acc ++ [v])))) (fun H3 z ft => ?_) (fun H3 z ff => ?_) hi h.1 y
  · refine ⟨_, z _ _ h.2, ?_, (h.1.trans z).fresh nD, ?_⟩
    · refine sz6' (Nat.le_trans (List.length_filter_le _ _) ?_)
      rw [List.length_take]
      omega
    · rw [upd_same, tk, List.filter_append, List.filter_cons, if_pos ft, List.filter_nil]
  · refine ⟨h.1.trans z, ?_⟩
    rw [z _ _ h.2, tk, List.filter_append, List.filter_cons, if_neg (by rw [ff]; decide), List.filter_nil, List.append_nil]
end
theorem VI_getD {s : List Nat} {i : Nat} (h : i < s.length) : (VI s).getD i .non = .int (s[i] : Nat) := by
  rw [List.getD_eq_getElem?_getD, VI_get (List.getElem?_eq_getElem h)]
  rfl
def fV (g : Nat → Bool) : V → Bool
  | .int i => g i.toNat
  | _ => false
theorem VI_filter (s : List Nat) (g : Nat → Bool) : (VI s).filter (fV g) = VI (s.filter g) := by
  unfold VI
  rw [List.filter_map]
  rfl
section
variable {P : Program} {w : World} {K : PySem.W.Frag} {mg : Str → Option Value} {base : Heap}
theorem ok_left {f fr : Addr} {fd dr : FuncData} {k : Nat} (F : Fun K "_law_left" "_law_left" sLeft f fd)
    (Gr : FnOk P w K mg base CX0 k fr dr ["lists", "person", "other"] spRank) (br : Binds K dr ["lists", "person", "other"] []) (kr : PySem.W.keepIn K (.ref fr) = true) (mr : mg "_law_rank" = some (.ref fr)) (ml : mg "len" = none) (mrg : mg "range" = none) (mt : mg "tuple" = none) : FnOk P w K mg base CX0 (k + 1) f fd ["lists", "holds"] spLeft := by
  refine F.ok scLeft (fun vs H Q E h => ?_) (fun cdv A outer s H vs Q E hr h => ?_)
  · obtain ⟨a, b, ls, hs, rfl, _⟩ := h
    rfl
  · obtain ⟨a, b, ls, hs, rfl, lx, eb, ho, ok, hn, q⟩ := h
    refine ⟨_, pss_cons (ps_set (i := 3) scLeft.nd rfl (.inr rfl) (pe_lc (own := [("person", 2)]) (g := gName 2) (tt := tYes) (te := tCall spRank [] E0 (tCons (tVar 0) (tCons (tVar 2) (tCons (tOp (rIxT K) (tVar 1) (tVar 2)) tNil)))) rfl scLeft.nd (pi_range1 rfl mrg (pa_cons (pe_callB call_len_seq (by rfl) ml PySem.boot_len (pa_cons (pv 0) pa_nil)) pa_nil))
          (blkOk_by (own := [("person", 2)]) (N := ["lists", "holds", "person", "bounds", "found", "some", "other"]) (sc := defScope sLeft) (by decide +kernel)) (fun _ _ _ _ _ => pg_name (i := 2) scLeft.nd rfl (Or.inl rfl)) (fun _ _ _ _ _ => pts_nil)
          (fun _ _ _ _ _ => pe_call Gr hr rfl mr kr br .nil pass0 (pa_cons (pv 0) (pa_cons (pv 2) (pa_cons (pe_ix ix_tup (pv 1) (pv 2) (fun _ _ => rfl)) pa_nil))))))
      (pss_cons (ps_set (i := 4) scLeft.nd rfl (.inl rfl) (pe_lst pa_nil))
      (pss_cons (ps_for PassesOwn.never rfl (pi_range1 rfl mrg (pa_cons (pe_callB call_len_seq (by rfl) ml PySem.boot_len (pa_cons (pv 0) pa_nil)) pa_nil)) (pg_name (i := 2) scLeft.nd rfl (.inr rfl))
        (pss_cons (ps_setLc (i := 5) (own := [("other", 6)]) (g := gName 6) (tt := tTest (tOp (rI0 fun i j => V.bl (decide (i ≤ j))) (tCall spRank [] E0 (tCons (tVar 0) (tCons (tVar 2) (tCons (tVar 6) tNil)))) (tOp (rIxL K) (tVar 3) (tVar 2)))) rfl scLeft.nd rfl rfl (sw_true rfl rfl rfl (by decide +kernel)) (pi_tup (pe_ix ix_tup (pv 0) (pv 2) (fun _ _ => rfl)))
            (blkOk_by (own := [("other", 6)]) (N := ["lists", "holds", "person", "bounds", "found", "some", "other"]) (sc := defScope sLeft) (by decide +kernel)) (fun _ _ _ _ _ => pg_name (i := 6) scLeft.nd rfl (Or.inl rfl)) (fun _ _ _ _ _ => pts_one (pt_cmpR op_le (pe_call Gr hr rfl mr kr br .nil pass0 (pa_cons (pv 0) (pa_cons (pv 2) (pa_cons (pv 6) pa_nil)))) (pe_ix ix_list (pv 3) (pv 2) (fun _ _ => rfl)) (nomark _)))
            (fun _ _ _ _ _ => pv 6))
        (pss_one (ps_expr (pe_bm PySem.F.plainAttrs_list PySem.F.slot_list_append PySem.F.type_list_append mt_append (pv 4) (pa_cons (pe_callTy call_tuple_of (by rfl) mt (by decide +kernel) (pa_cons (pe_lc (own := [("other", 6)]) (g := gName 6) (tt := tTest (tOp (rI0 fun i j => V.bl (decide (i ≤ j))) (tCall spRank [] E0 (tCons (tVar 0) (tCons (tVar 6) (tCons (tVar 2) tNil)))) (tOp (rIxL K) (tVar 3) (tVar 6)))) rfl scLeft.nd (pi_list (pv 5))
            (blkOk_by (own := [("other", 6)]) (N := ["lists", "holds", "person", "bounds", "found", "some", "other"]) (sc := defScope sLeft) (by decide +kernel)) (fun _ _ _ _ _ => pg_name (i := 6) scLeft.nd rfl (Or.inl rfl)) (fun _ _ _ _ _ => pts_one (pt_cmpR op_le (pe_call Gr hr rfl mr kr br .nil pass0 (pa_cons (pv 0) (pa_cons (pv 6) (pa_cons (pv 2) pa_nil)))) (pe_ix ix_list (pv 3) (pv 6) (fun _ _ => rfl)) (nomark _)))
            (fun _ _ _ _ _ => pv 6)) pa_nil)) pa_nil))))))
      (pss_one (ps_ret (pe_callTy call_tuple_of (by rfl) mt (by decide +kernel) (pa_cons (pv 4) pa_nil)))))), ?_⟩
    obtain ⟨xs, ea, xl⟩ := lx.lt.len
    refine ⟨_, rfl, a, xs, rfl, .inr (SqT.of ea), ?_⟩
    rw [xl]
    refine ⟨_, rfl, by omega, by omega, fun B nB => ?_⟩
    refine lc_same (J := Itr 0 ls.length) (n := ls.length) walk_range0 (by omega) (fun i => .int (most ls hs i : Nat)) nB (fun _ _ => trivial) ?_ ?_
    · rintro i x H2 H3 Z out hi sm ⟨rfl, rfl⟩
      exact gn ⟨rfl, _, rfl, _, rfl, _, rfl, _, rfl, b, _, _, _, rfl, rfl, SqT.of (sm _ _ eb), atI_nat (VH_get (ha_get (by rw [ho.len]; exact hi))), a, ls, i, ha hs i, rfl, lx.same sm, hi, fun j ej => (ho.on i j ej).2, out _ same_rfl⟩
    · intro H1 s1 eB
      refine gn ⟨Nat.zero_le _, fun D nD => ?_⟩
      have s2 : Same H (upd H1 D (.lst [])) := s1.fresh (s1.free nD)
      have nBD : B ≠ D := ne_of_none eB nD
      have eB2 : (upd H1 D (.lst [])) B = some (.lst (VM ls hs)) := by rw [upd_ne nBD]; exact eB
      have eD2 : (upd H1 D (.lst [])) D = some (.lst []) := upd_same
      have nD0 := s1.free nD
      generalize upd H1 D (.lst []) = H2 at s2 eB2 eD2
      dsimp only [List.set, L2.start]
      refine ⟨_, rfl, a, xs, rfl, .inr (SqT.of (s2 _ _ ea)), ?_⟩
      rw [xl]
      refine ⟨_, rfl, by omega, by omega, for_it (J := Itr 0 ls.length) (n := ls.length) walk_range0 (fun i σ H' => ∃ (ts : List Addr) (y z : Option V), σ = [some (.ref a), some (.ref b), y, some (.ref B), some (.ref D), z, none] ∧ Same H H' ∧ H' B = some (.lst (VM ls hs)) ∧ H' D = some (.lst (ts.map V.ref)) ∧ ts.length = i ∧ ∀ (j : Nat) (t : Addr), ts[j]? = some t → H' t = some (.tup (VI (leftL ls hs j))))
        ⟨[], none, none, rfl, s2, eB2, eD2, rfl, fun _ _ e => by simp at e⟩ (fun _ _ _ _ _ => trivial) ?_ ?_⟩
      · rintro i x σ H3 H4 hi ⟨ts, y, z, rfl, s3, eB3, eD3, tl, old⟩ ⟨rfl, rfl⟩
        refine gn ?_
        dsimp only [List.set]
        obtain ⟨rows, c, er, ec, ev⟩ := lx.at (la_get hi)
        have len60 := ok.each (la_get hi)
        refine ⟨_, rfl, _, rfl, a, rows, _, _, rfl, rfl, SqT.of (s3 _ _ er), atI_nat ec, c, rfl, ⟨_, Tp.sq (.inr (ev.same s3))⟩, fun S nS => ?_⟩
        refine lc_sel (walk_tup (K := K) (a := c) (xs := VI (la ls i))) (by rw [VI_len]; omega) (VI (la ls i)) (fV fun o => decide ((la ls i).idxOf o ≤ most ls hs i)) rfl nS (fun _ sm => Tp.sq (.inr ((ev.same s3).same sm))) ?_ ?_
        · rintro m x H5 H6 R Z yes' no' hm sm ⟨rfl, ex⟩
          rw [VI_len] at hm
          have ex2 : (VI (la ls i))[m]? = some x := ex
          rw [VI_get (List.getElem?_eq_getElem hm)] at ex2
          cases ex2
          have hin := List.getElem_mem hm
          rw [VI_getD hm] at yes' no'
          refine gn ⟨rfl, _, rfl, _, rfl, _, rfl, a, ls, i, some (la ls i)[m], rfl, (lx.same s3).same sm, hi, fun j e => by cases e; exact hin, _, rfl, _, rfl, B, _, _, _, rfl, rfl, SqL.of (sm _ _ eB3), atI_nat (VM_get hi), _, _, rfl, rfl, decide ((la ls i).idxOf (la ls i)[m] ≤ most ls hs i), ?_, ?_⟩
          · refine congrArg V.bl ?_
            rw [decide_eq_decide]
            show (((la ls i).idxOf (la ls i)[m] : Nat) : Int) ≤ _ ↔ _
            omega
          · refine ite2 (fun c => ?_) (fun c => ?_)
            · exact ⟨_, rfl, yes' _ same_rfl (by show decide _ = true; exact c)⟩
            · exact no' _ same_rfl (by show decide _ = false; exact decide_eq_false (fun h => c (decide_eq_true h)))
        · intro H5 s5 eS
          rw [VI_filter, take_filter (ok.nda hi)] at eS
          refine gn ?_
          dsimp only [List.set]
          refine ⟨_, rfl, .inl ⟨rfl, _, SqL.of (s5 _ _ eD3)⟩, _, rfl, S, rfl, ⟨_, SqL.of eS⟩, fun U nU => ?_⟩
          refine lc_sel (walk_list (K := K) (a := S) (xs := VI ((la ls i).take (most ls hs i + 1)))) (by rw [VI_len, List.length_take]; omega) (VI ((la ls i).take (most ls hs i + 1))) (fV (keepF ls hs i)) rfl nU (fun _ sm => SqL.of (sm _ _ eS)) ?_ ?_
          · rintro m x H6 H7 R Z yes' no' hm sm ⟨rfl, ex⟩
            rw [VI_len] at hm
            have ex2 : (VI ((la ls i).take (most ls hs i + 1)))[m]? = some x := ex
            rw [VI_get (List.getElem?_eq_getElem hm)] at ex2
            cases ex2
            have hin := List.mem_of_mem_take (List.getElem_mem hm)
            obtain ⟨h1, h2, h3⟩ := ok.mate hi hin
            rw [VI_getD hm] at yes' no'
            have s6 := (s3.trans s5).trans sm
            refine gn ⟨rfl, _, rfl, _, rfl, _, rfl, a, ls, _, some i, rfl, lx.same s6, h1, fun j e => by cases e; exact h3, _, rfl, _, rfl, B, _, _, _, rfl, rfl, SqL.of ((s5.trans sm) _ _ eB3), atI_nat (VM_get h1), _, _, rfl, rfl, keepF ls hs i ((la ls i).take (most ls hs i + 1))[m], ?_, ?_⟩
            · refine congrArg V.bl ?_
              unfold keepF
              rw [decide_eq_decide]
              show (((la ls _).idxOf i : Nat) : Int) ≤ _ ↔ _
              omega
            · refine ite2 (fun c => ?_) (fun c => ?_)
              · exact ⟨_, rfl, yes' _ same_rfl c⟩
              · rw [Bool.not_eq_true] at c
                exact no' _ same_rfl c
          · intro H6 s6 eU
            rw [VI_filter] at eU
            refine ⟨U, _, rfl, .inl ⟨SqL.of eU, fun t nt => ?_⟩⟩
            have nDt : D ≠ t := ne_of_none ((s5.trans s6) _ _ eD3) nt
            have s7 : Same H6 (upd H6 t (.tup (VI (leftL ls hs i)))) := same_upd nt
            have e7 : (upd H6 t (.tup (VI (leftL ls hs i)))) t = some (.tup (VI (leftL ls hs i))) := upd_same
            have s37 : Same H4 (upd H6 t (.tup (VI (leftL ls hs i)))) := (s5.trans s6).trans s7
            refine ⟨D, _, _, rfl, rfl, s37 _ _ eD3, by rw [List.length_map]; exact sz6' (by omega), ts ++ [t], _, _, rfl, (s3.trans s37).fresh nD0, by rw [upd_ne nBD]; exact s37 _ _ eB3, by rw [upd_same]; simp, by simp [tl], fun j u e => ?_⟩
            by_cases c : j < ts.length
            · rw [List.getElem?_append_left c] at e
              have e8 := s37 _ _ (old j u e)
              rw [upd_ne (fun z => by rw [z, s37 _ _ eD3] at e8; cases e8)]
              exact e8
            · rw [List.getElem?_append_right (by omega), List.getElem?_singleton] at e
              split at e
              · cases e
                have : j = i := by omega
                subst this
                rw [upd_ne (Ne.symm nDt)]
                exact e7
              · cases e
      · rintro σ H3 ⟨ts, y, z, rfl, s3, eB3, eD3, tl, old⟩
        refine ⟨_, rfl, D, _, rfl, .inl ⟨SqL.of eD3, fun r nr => q r _ (s3.fresh (s3.free nr)) ⟨ts, upd_same, by rw [tl, leftA_len], fun i' a' x' e1 e2 => ?_⟩⟩⟩
        obtain ⟨_, rfl⟩ := leftA_at e2
        exact .inl (ofN nr (old i' a' e1))
end
end K14
namespace K14
open PySem PySem.Spec PyProof.Rows L2
/-! ### all partings -/
def ext (ls : List (List Nat)) (k : Nat) (row : List Nat) : List (List Nat) := ((la ls k ++ [k]).filter (fun o => decide (o ∉ row))).map (fun o => row ++ [o])
def parts (ls : List (List Nat)) : Nat → List (List Nat)
  | 0 => [[]]
  | k + 1 => (parts ls k).flatMap (ext ls k)
theorem ext_len {ls : List (List Nat)} {k n : Nat} {row : List Nat} (h : (la ls k).length ≤ n) : (ext ls k row).length ≤ n + 1 := by
  unfold ext
  rw [List.length_map]
  refine Nat.le_trans (List.length_filter_le _ _) ?_
  simp
  exact h
theorem flat_len {α β : Type} {xs : List α} {f : α → List β} {n : Nat} (h : ∀ x ∈ xs, (f x).length ≤ n) : (xs.flatMap f).length ≤ xs.length * n := by
  induction xs with
  | nil => simp
  | cons a r ih =>
    rw [List.flatMap_cons, List.length_append, List.length_cons, Nat.succ_mul]
    have h1 := h a (by simp)
    have h2 := ih (fun x hx => h x (by simp [hx]))
    omega
theorem parts_len {ls : List (List Nat)} (h : ∀ k, (la ls k).length ≤ 5) : ∀ k, (parts ls k).length ≤ 6 ^ k
  | 0 => by simp [parts]
  | k + 1 => by
    rw [parts, Nat.pow_succ]
    exact Nat.le_trans (flat_len fun x _ => ext_len (h k)) (Nat.mul_le_mul_right 6 (parts_len h k))
theorem parts_row {ls : List (List Nat)} : ∀ k row, row ∈ parts ls k → row.length = k
  | 0, row, h => by
    rw [parts, List.mem_singleton] at h
    rw [h]
    rfl
  | k + 1, row, h => by
    rw [parts, List.mem_flatMap] at h
    obtain ⟨r, hr, hm⟩ := h
    unfold ext at hm
    obtain ⟨o, _, rfl⟩ := List.mem_map.mp hm
    rw [List.length_append, parts_row k r hr]
    rfl
/-- tuples of numbers at these places -/
def RsT (H : Hp) (us : List Addr) (rows : List (List Nat)) : Prop := us.length = rows.length ∧ ∀ (j : Nat) (u : Addr) (r : List Nat), us[j]? = some u → rows[j]? = some r → H u = some (.tup (VI r))
theorem RsT.same {H H' : Hp} {us : List Addr} {rows : List (List Nat)} (t : RsT H us rows) (s : Same H H') : RsT H' us rows := ⟨t.1, fun j u r e1 e2 => s _ _ (t.2 j u r e1 e2)⟩
theorem RsT.nil {H : Hp} : RsT H [] [] := ⟨rfl, fun _ _ _ e => by simp at e⟩
theorem RsT.put {H : Hp} {D : Addr} {xs : List V} {o : HO} {us : List Addr} {rows : List (List Nat)} (t : RsT H us rows) (e : H D = some (.lst xs)) : RsT (upd H D o) us rows := ⟨t.1, fun j u r e1 e2 => by
  have e3 := t.2 j u r e1 e2
  rw [upd_ne (fun z => by rw [z, e] at e3; cases e3)]
  exact e3⟩
theorem RsT.app {H : Hp} {us us' : List Addr} {rows rows' : List (List Nat)} (t : RsT H us rows) (t' : RsT H us' rows') : RsT H (us ++ us') (rows ++ rows') := by
  refine ⟨by rw [List.length_append, List.length_append, t.1, t'.1], fun j u r e1 e2 => ?_⟩
  by_cases c : j < us.length
  · rw [List.getElem?_append_left c] at e1
    rw [List.getElem?_append_left (by rw [← t.1]; exact c)] at e2
    exact t.2 j u r e1 e2
  · rw [List.getElem?_append_right (by omega)] at e1
    rw [List.getElem?_append_right (by rw [← t.1]; omega), ← t.1] at e2
    exact t'.2 _ u r e1 e2
theorem RsT.one {H : Hp} {u : Addr} {r : List Nat} (e : H u = some (.tup (VI r))) : RsT H [u] [r] := ⟨rfl, fun j v q e1 e2 => by
  rw [List.getElem?_singleton] at e1 e2
  split at e1
  · rename_i c
    subst c
    cases e1
    cases e2
    exact e
  · cases e1⟩
theorem RsT.at {H : Hp} {us : List Addr} {rows : List (List Nat)} {j : Nat} {x : V} (t : RsT H us rows) (e : (us.map V.ref)[j]? = some x) : ∃ u r, x = .ref u ∧ rows[j]? = some r ∧ H u = some (.tup (VI r)) := by
  rw [List.getElem?_map] at e
  cases h : us[j]? with
  | none => rw [h] at e; cases e
  | some u =>
    rw [h] at e
    have hj := (List.getElem?_eq_some_iff.mp h).1
    have hr : j < rows.length := by rw [← t.1]; exact hj
    exact ⟨u, rows[j], (Option.some.inj e).symm, List.getElem?_eq_getElem hr, t.2 j u _ h (List.getElem?_eq_getElem hr)⟩
theorem catA {K : PySem.W.Frag} {H : Hp} {a b : Addr} {s t : List Nat} {Q : VK} (ea : Tp H a (VI s)) (eb : H b = some (.tup (VI t))) (nt : t ≠ []) (le : s.length + t.length ≤ 1000) (q : ∀ c H', Same H H' → H' c = some (.tup (VI (s ++ t))) → Q (.ref c) H') : rCatA K (.ref a) (.ref b) H Q := by
  refine ⟨a, b, VI s, VI t, rfl, rfl, ea.sq, SqT.of eb, by rw [VI_len, VI_len]; exact sz5 (by omega), fun h => ?_, fun _ h => ?_, fun _ _ p np => q p _ (same_upd np) (by rw [upd_same, VI_app])⟩
  · have : s = [] := by
      cases s with
      | nil => rfl
      | cons x r => cases h
    subst this
    exact q b H same_rfl eb
  · exfalso
    cases t with
    | nil => exact nt rfl
    | cons x r => cases h
def spPartings : Sp := fun vs H Q _ => ∃ (a : Addr) (ls : List (List Nat)), vs = [.ref a] ∧ LT H a ls ∧ ls.length ≤ 5 ∧ ListsOk ls.length ls ∧ ∀ r us H', Same H H' → H' r = some (.lst (us.map V.ref)) → RsT H' us (parts ls ls.length) → Q (.ref r) H'
theorem la_len {ls : List (List Nat)} (ok : ListsOk ls.length ls) (k : Nat) : (la ls k).length ≤ ls.length := by
  by_cases c : k < ls.length
  · exact ok.each (la_get c)
  · unfold la
    rw [List.getD_eq_getElem?_getD, List.getElem?_eq_none (by omega)]
    exact Nat.zero_le _
end K14
namespace K14
open PySem PySem.Spec PyProof.Rows L2
section
variable {P : Program} {w : World} {K : PySem.W.Frag} {mg : Str → Option Value} {base : Heap}
end
end K14
namespace K14
open PySem PySem.Spec PyProof.Rows L2
structure RowOk (n : Nat) (row : List Nat) : Prop where
  len : row.length = n
  nd : row.Nodup
  lt : ∀ j ∈ row, j < n
def befI (row : List Nat) (i j : Nat) : Option Nat := if j ∈ row.take i ∧ row.idxOf j ≠ j then some (row.idxOf j) else none
def bef (row : List Nat) (j : Nat) : Option Nat := if j ∈ row ∧ row.idxOf j ≠ j then some (row.idxOf j) else none
def befs (row : List Nat) : List (Option Nat) := (List.range row.length).map (bef row)
def nxt (row : List Nat) (p : Nat) : Option Nat := if row.getD p p = p then none else some (row.getD p p)
def nxts (row : List Nat) : List (Option Nat) := (List.range row.length).map (nxt row)
def spBefore : Sp := fun vs H Q _ => ∃ (t : Addr) (n : Nat) (row : List Nat), vs = [.ref t] ∧ H t = some (.tup (VI row)) ∧ RowOk n row ∧ n ≤ 100 ∧ ∀ r H', Same H H' → H' r = some (.tup (VH (befs row))) → Q (.ref r) H'
def spNext : Sp := fun vs H Q _ => ∃ (t : Addr) (n : Nat) (row : List Nat), vs = [.ref t] ∧ H t = some (.tup (VI row)) ∧ RowOk n row ∧ n ≤ 100 ∧ ∀ r H', Same H H' → H' r = some (.tup (VH (nxts row))) → Q (.ref r) H'
theorem idx_at {row : List Nat} (nd : row.Nodup) {i x : Nat} (e : row[i]? = some x) : row.idxOf x = i := by
  have hm := List.mem_of_getElem? e
  have hl := List.idxOf_lt_length_of_mem hm
  exact nodup_ix nd (by rw [List.getElem?_eq_getElem hl, List.getElem_idxOf]) e
theorem befI_succ {row : List Nat} (nd : row.Nodup) {i x : Nat} (e : row[i]? = some x) (j : Nat) : befI row (i + 1) j = if x ≠ i ∧ j = x then some i else befI row i j := by
  unfold befI
  have tk : row.take (i + 1) = row.take i ++ [x] := by
    rw [List.take_succ, e]
    rfl
  rw [tk]
  have ix := idx_at nd e
  by_cases c : j = x
  · subst c
    rw [ix]
    by_cases d : j = i
    · have hn : j ∉ row.take i := by
        intro h
        obtain ⟨k, hk, ek⟩ := List.mem_iff_getElem.mp h
        rw [List.getElem_take] at ek
        rw [List.length_take] at hk
        have := nodup_ix nd (show row[k]? = some j by rw [List.getElem?_eq_getElem (by omega), ek]) e
        omega
      rw [if_neg (fun h => h.2 d.symm), if_neg (fun h => h.1 d), if_neg (fun h => hn h.1)]
    · rw [if_pos ⟨by simp, fun h => d h.symm⟩, if_pos ⟨d, rfl⟩]
  · rw [if_neg (fun (h : x ≠ i ∧ j = x) => c h.2)]
    by_cases d : j ∈ row.take i ∧ row.idxOf j ≠ j
    · rw [if_pos ⟨by simp [d.1], d.2⟩, if_pos d]
    · rw [if_neg d, if_neg (fun h => d ⟨by simpa [c] using h.1, h.2⟩)]
section
variable {P : Program} {w : World} {K : PySem.W.Frag} {mg : Str → Option Value} {base : Heap}
end
end K14
namespace K14
open PySem PySem.Spec PyProof.Rows L2
structure PRow (ls : List (List Nat)) (row : List Nat) : Prop where
  ok : RowOk ls.length row
  on : ∀ (i x : Nat), row[i]? = some x → x ∈ la ls i ∨ x = i
theorem nodup_snoc {row : List Nat} {o : Nat} (h : row.Nodup) (n : o ∉ row) : (row ++ [o]).Nodup := by
  rw [List.nodup_append]
  refine ⟨h, by simp, fun x hx y hy e => ?_⟩
  rw [List.mem_singleton.mp hy] at e
  subst e
  exact n hx
theorem parts_ok {ls : List (List Nat)} : ∀ k row, row ∈ parts ls k → row.length = k ∧ row.Nodup ∧ ∀ (i x : Nat), row[i]? = some x → x ∈ la ls i ∨ x = i
  | 0, row, h => by
    rw [parts, List.mem_singleton] at h
    subst h
    exact ⟨rfl, List.nodup_nil, fun i x e => by simp at e⟩
  | k + 1, row, h => by
    rw [parts, List.mem_flatMap] at h
    obtain ⟨r, hr, hm⟩ := h
    unfold ext at hm
    obtain ⟨o, ho, rfl⟩ := List.mem_map.mp hm
    obtain ⟨h1, h2, h3⟩ := parts_ok k r hr
    rw [List.mem_filter, decide_eq_true_eq] at ho
    refine ⟨by simp [h1], nodup_snoc h2 ho.2, fun i x e => ?_⟩
    by_cases c : i < r.length
    · rw [List.getElem?_append_left c] at e
      exact h3 i x e
    · rw [List.getElem?_append_right (by omega), List.getElem?_singleton] at e
      split at e
      · cases e
        have : i = k := by omega
        subst this
        rcases List.mem_append.mp ho.1 with h | h
        · exact .inl h
        · exact .inr (List.mem_singleton.mp h)
      · cases e
theorem parts_all {ls : List (List Nat)} : ∀ (k : Nat) (row : List Nat), row.length = k → row.Nodup → (∀ (i x : Nat), row[i]? = some x → x ∈ la ls i ∨ x = i) → row ∈ parts ls k
  | 0, row, h, _, _ => by
    rw [parts, List.mem_singleton]
    exact List.eq_nil_of_length_eq_zero h
  | k + 1, row, h, nd, on => by
    rcases list_end row with rfl | ⟨r, o, rfl⟩
    · simp at h
    · rw [parts, List.mem_flatMap]
      have lr : r.length = k := by simpa using h
      rw [List.nodup_append] at nd
      refine ⟨r, parts_all k r lr nd.1 (fun i x e => on i x (by rw [List.getElem?_append_left (List.getElem?_eq_some_iff.mp e).1]; exact e)), ?_⟩
      unfold ext
      refine List.mem_map.mpr ⟨o, ?_, rfl⟩
      rw [List.mem_filter, decide_eq_true_eq]
      refine ⟨?_, fun hm => nd.2.2 o hm o (by simp) rfl⟩
      have := on k o (by rw [List.getElem?_append_right (by omega), lr]; simp)
      rcases this with h | h
      · exact List.mem_append.mpr (.inl h)
      · exact List.mem_append.mpr (.inr (by rw [h]; simp))
theorem parts_row_ok {ls : List (List Nat)} (ok : ListsOk ls.length ls) {row : List Nat} (h : row ∈ parts ls ls.length) : PRow ls row := by
  obtain ⟨h1, h2, h3⟩ := parts_ok _ _ h
  refine ⟨⟨h1, h2, fun j hj => ?_⟩, h3⟩
  obtain ⟨i, hi, e⟩ := List.mem_iff_getElem.mp hj
  have hi' : i < ls.length := by omega
  rcases h3 i j (by rw [List.getElem?_eq_getElem hi, e]) with h | h
  · exact (ok.mate hi' h).1
  · omega
theorem befs_get {row : List Nat} {p : Nat} (h : p < row.length) : ha (befs row) p = bef row p := by
  unfold ha befs
  rw [List.getD_eq_getElem?_getD, List.getElem?_map, List.getElem?_range h]
  rfl
theorem nxts_get {row : List Nat} {p : Nat} (h : p < row.length) : ha (nxts row) p = nxt row p := by
  unfold ha nxts
  rw [List.getD_eq_getElem?_getD, List.getElem?_map, List.getElem?_range h]
  rfl
theorem ha_lt {hs : List (Option Nat)} {p j : Nat} (e : ha hs p = some j) : p < hs.length := by
  unfold ha at e
  rw [List.getD_eq_getElem?_getD] at e
  by_cases c : p < hs.length
  · exact c
  · rw [List.getElem?_eq_none (by omega)] at e
    cases e
theorem bef_some {row : List Nat} {j i : Nat} (e : bef row j = some i) : row[i]? = some j ∧ i ≠ j := by
  unfold bef at e
  split at e
  · rename_i h
    cases e
    have hl := List.idxOf_lt_length_of_mem h.1
    exact ⟨by rw [List.getElem?_eq_getElem hl, List.getElem_idxOf], h.2⟩
  · cases e
theorem befs_ok {ls : List (List Nat)} (ok : ListsOk ls.length ls) {row : List Nat} (r : PRow ls row) : HoldsOk ls (befs row) := by
  refine ⟨by simp [befs, r.ok.len], fun p j e => ?_⟩
  have hp : p < row.length := by
    have := ha_lt e
    simpa [befs] using this
  rw [befs_get hp] at e
  obtain ⟨h1, h2⟩ := bef_some e
  have hj : j < ls.length := by
    have := (List.getElem?_eq_some_iff.mp h1).1
    rw [r.ok.len] at this
    exact this
  refine ⟨by rw [← r.ok.len]; exact hp, ?_⟩
  rcases r.on j p h1 with h | h
  · exact (ok.mate hj h).2.2
  · exact absurd h.symm h2
theorem nxts_ok {ls : List (List Nat)} {row : List Nat} (r : PRow ls row) : HoldsOk ls (nxts row) := by
  refine ⟨by simp [nxts, r.ok.len], fun p j e => ?_⟩
  have hp : p < row.length := by
    have := ha_lt e
    simpa [nxts] using this
  rw [nxts_get hp] at e
  unfold nxt at e
  split at e
  · cases e
  · rename_i h
    cases e
    have hx : row[p]? = some (row.getD p p) := by
      rw [List.getD_eq_getElem?_getD, List.getElem?_eq_getElem hp]
      rfl
    refine ⟨by rw [← r.ok.len]; exact hp, ?_⟩
    rcases r.on p _ hx with h' | h'
    · exact h'
    · exact absurd h' h
/-- nobody would rather have the one before than the next one, and no two bar -/
def Fit1 (ls : List (List Nat)) (row : List Nat) (es : List (Option Nat)) (p : Nat) : Prop :=
  ¬ (most ls (befs row) p < most ls (nxts row) p) ∧ ∀ o ∈ la ls p, ¬ ((la ls p).idxOf o < most ls es p ∧ (la ls o).idxOf p < most ls (befs row) o)
def Fits (ls : List (List Nat)) (row : List Nat) (es : List (Option Nat)) : Prop := ∀ p < ls.length, Fit1 ls row es p
def spFits : Sp := fun vs H Q _ => ∃ (a t e : Addr) (ls : List (List Nat)) (row : List Nat) (es : List (Option Nat)), vs = [.ref a, .ref t, .ref e] ∧ LX H a ls ∧ ListsOk ls.length ls ∧ ls.length ≤ 100 ∧ H t = some (.tup (VI row)) ∧ PRow ls row ∧ H e = some (.tup (VH es)) ∧ HoldsOk ls es ∧
  ∀ (b : Bool) H', Same H H' → (b = true ↔ Fits ls row es) → Q (.bl b) H'
section
variable {P : Program} {w : World} {K : PySem.W.Frag} {mg : Str → Option Value} {base : Heap}
end
end K14
namespace K14
open PySem PySem.Spec PyProof.Rows L2
/-! ### the mathematics of steady holds -/
theorem head_min : ∀ {s : List Nat} {g : Nat → Bool} {j o : Nat}, (s.filter g).head? = some j → o ∈ s.filter g → s.idxOf j ≤ s.idxOf o
  | [], g, j, o, h, _ => by simp at h
  | a :: t, g, j, o, h, ho => by
    rw [List.filter_cons] at h ho
    by_cases c : g a = true
    · rw [if_pos c] at h
      have e : a = j := by simpa using h
      subst e
      simp
    · rw [if_neg c] at h ho
      have ih := head_min h ho
      have hj : j ≠ a := fun e => by
        have := List.mem_of_mem_head? (show j ∈ (t.filter g).head? from h)
        rw [List.mem_filter, e] at this
        exact c this.2
      have ho' : o ≠ a := fun e => by
        rw [List.mem_filter, e] at ho
        exact c ho.2
      have e1 : (a == j) = false := beq_eq_false_iff_ne.mpr (Ne.symm hj)
      have e2 : (a == o) = false := beq_eq_false_iff_ne.mpr (Ne.symm ho')
      rw [List.idxOf_cons, List.idxOf_cons, e1, e2]
      show t.idxOf j + 1 ≤ t.idxOf o + 1
      omega
def fst (ls : List (List Nat)) (hs : List (Option Nat)) (p : Nat) : Option Nat := (leftL ls hs p).head?
theorem ha_firsts {ls : List (List Nat)} {hs : List (Option Nat)} {p : Nat} (h : p < ls.length) : ha (firsts ls hs) p = fst ls hs p := by
  unfold ha firsts fst
  rw [List.getD_eq_getElem?_getD, List.getElem?_map, List.getElem?_range h]
  rfl
section
variable {ls : List (List Nat)} {hs : List (Option Nat)} (ok : ListsOk ls.length ls)
include ok in
theorem leftL_filter {p : Nat} (hp : p < ls.length) : leftL ls hs p = (la ls p).filter (fun o => decide ((la ls p).idxOf o ≤ most ls hs p) && keepF ls hs p o) := by
  have tf := take_filter (ok.nda hp) (most ls hs p)
  unfold leftL
  rw [← tf, List.filter_filter]
  refine List.filter_congr fun x _ => ?_
  rw [Bool.and_comm]
theorem fst_mem {p j : Nat} (e : fst ls hs p = some j) : j ∈ leftL ls hs p := List.mem_of_mem_head? (show j ∈ (leftL ls hs p).head? from e)
include ok in
theorem fst_min {p j o : Nat} (hp : p < ls.length) (e : fst ls hs p = some j) (ho : o ∈ leftL ls hs p) : (la ls p).idxOf j ≤ (la ls p).idxOf o := by
  unfold fst at e
  rw [leftL_filter ok hp] at e ho
  exact head_min e ho
theorem fst_none {p : Nat} : fst ls hs p = none ↔ leftL ls hs p = [] := by
  unfold fst
  rw [List.head?_eq_none_iff]
include ok in
theorem left_sym {p o : Nat} (hp : p < ls.length) (h : o ∈ leftL ls hs p) : o < ls.length ∧ p ∈ leftL ls hs o := by
  obtain ⟨h1, h2, h3⟩ := (mem_left ok hp).mp h
  obtain ⟨k1, k2, k3⟩ := ok.mate hp h1
  exact ⟨k1, (mem_left ok k1).mpr ⟨k3, h3, h2⟩⟩
theorem idx_inj {p a b : Nat} (h1 : a ∈ la ls p) (h2 : b ∈ la ls p) (e : (la ls p).idxOf a = (la ls p).idxOf b) : a = b := by
  have l1 := List.idxOf_lt_length_of_mem h1
  have l2 := List.idxOf_lt_length_of_mem h2
  have e1 : (la ls p)[(la ls p).idxOf a]? = some a := by rw [List.getElem?_eq_getElem l1, List.getElem_idxOf]
  have e2 : (la ls p)[(la ls p).idxOf b]? = some b := by rw [List.getElem?_eq_getElem l2, List.getElem_idxOf]
  rw [e] at e1
  rw [e1] at e2
  exact Option.some.inj e2
/-- steady: whom one holds has one as its first one, and the other way round -/
structure Std (ls : List (List Nat)) (hs : List (Option Nat)) : Prop where
  a : ∀ p j, p < ls.length → ha hs p = some j → fst ls hs j = some p
  b : ∀ p j, p < ls.length → fst ls hs p = some j → ha hs j = some p
theorem hitB_iff {xs : List (Option Nat)} {o : Option Nat} {p : Nat} : hitB xs o p = true ↔ ∀ j, o = some j → ha xs j = some p := by
  cases o with
  | none => exact ⟨fun _ j e => (by cases e), fun _ => rfl⟩
  | some j =>
    unfold hitB
    rw [decide_eq_true_eq]
    exact ⟨fun h k e => (by cases e; exact h), fun h => h j rfl⟩
include ok in
theorem steadyB_iff (ho : HoldsOk ls hs) : steadyB ls hs = true ↔ Std ls hs := by
  unfold steadyB
  rw [Bool.and_eq_true, List.all_eq_true, List.all_eq_true]
  constructor
  · rintro ⟨h1, h2⟩
    refine ⟨fun p j hp e => ?_, fun p j hp e => ?_⟩
    · have := hitB_iff.mp (h1 p (List.mem_range.mpr hp)) j e
      have hj := (ok.mate hp (ho.on p j e).2).1
      rw [ha_firsts hj] at this
      exact this
    · exact hitB_iff.mp (h2 p (List.mem_range.mpr hp)) j (by rw [ha_firsts hp]; exact e)
  · intro h
    refine ⟨fun p hp => hitB_iff.mpr fun j e => ?_, fun p hp => hitB_iff.mpr fun j e => ?_⟩
    · have hp' := List.mem_range.mp hp
      have hj := (ok.mate hp' (ho.on p j e).2).1
      rw [ha_firsts hj]
      exact h.a p j hp' e
    · have hp' := List.mem_range.mp hp
      rw [ha_firsts hp'] at e
      exact h.b p j hp' e
theorem most_some {p j : Nat} (e : ha hs p = some j) : most ls hs p = (la ls p).idxOf j := by
  unfold most
  rw [e]
  rfl
theorem most_none {p : Nat} (e : ha hs p = none) : most ls hs p = (la ls p).length := by
  unfold most
  rw [e]
  rfl
theorem nodup_sub_len : ∀ {s t : List Nat}, s.Nodup → (∀ x ∈ s, x ∈ t) → s.length ≤ t.length
  | [], t, _, _ => Nat.zero_le _
  | a :: r, t, nd, h => by
    have h1 := nodup_sub_len (s := r) (t := t.erase a) (List.nodup_cons.mp nd).2 fun x hx => by
      have ne : x ≠ a := fun e => (List.nodup_cons.mp nd).1 (e ▸ hx)
      exact (List.mem_erase_of_ne ne).mpr (h x (by simp [hx]))
    have h2 := List.length_erase_of_mem (h a (by simp))
    have h3 : 0 < t.length := List.length_pos_of_mem (h a (by simp))
    rw [List.length_cons]
    omega
/-- pigeons -/
theorem pigeon : ∀ {n : Nat} {A B : Nat → Prop} [DecidablePred A] [DecidablePred B] (f : Nat → Nat), (∀ p < n, A p → f p < n ∧ B (f p)) → (∀ p q, p < n → q < n → A p → A q → f p = f q → p = q) → (∀ p, B p → A p) → ∀ p < n, A p → B p := by
  intro n A B _ _ f h1 h2 h3 p hp ha
  refine Classical.byContradiction fun hb => ?_
  have sub : ((List.range n).filter fun x => decide (A x)).length ≤ ((List.range n).filter fun x => decide (B x)).length := by
    have hm : (((List.range n).filter fun x => decide (A x)).map f).Nodup := by
      refine List.pairwise_map.mpr (List.Pairwise.imp_of_mem ?_ (List.Pairwise.filter _ (List.nodup_range (n := n))))
      intro x y hx hy ne e
      rw [List.mem_filter, List.mem_range, decide_eq_true_eq] at hx hy
      exact ne (h2 x y hx.1 hy.1 hx.2 hy.2 e)
    have := nodup_sub_len hm (t := (List.range n).filter fun x => decide (B x)) fun y hy => by
      obtain ⟨x, hx, rfl⟩ := List.mem_map.mp hy
      rw [List.mem_filter, List.mem_range, decide_eq_true_eq] at hx
      rw [List.mem_filter, List.mem_range, decide_eq_true_eq]
      exact h1 x hx.1 hx.2
    rwa [List.length_map] at this
  have less : (p :: ((List.range n).filter fun x => decide (B x))).length ≤ ((List.range n).filter fun x => decide (A x)).length := by
    refine nodup_sub_len ?_ fun y hy => ?_
    · rw [List.nodup_cons]
      refine ⟨fun h => ?_, List.Pairwise.filter _ (List.nodup_range (n := n))⟩
      rw [List.mem_filter, decide_eq_true_eq] at h
      exact hb h.2
    · rw [List.mem_filter, List.mem_range, decide_eq_true_eq]
      rcases List.mem_cons.mp hy with rfl | h
      · exact ⟨hp, ha⟩
      · rw [List.mem_filter, List.mem_range, decide_eq_true_eq] at h
        exact ⟨h.1, h3 y h.2⟩
  rw [List.length_cons] at less
  omega
end
end K14
namespace K14
open PySem PySem.Spec PyProof.Rows L2
section
variable {ls : List (List Nat)} {hs : List (Option Nat)} (ok : ListsOk ls.length ls)
include ok in
/-- in steady holds just those hold somebody who have somebody left -/
theorem std_held (ho : HoldsOk ls hs) (st : Std ls hs) {p : Nat} (hp : p < ls.length) : (ha hs p ≠ none ↔ leftL ls hs p ≠ []) := by
  have lt : ∀ p j, p < ls.length → ha hs p = some j → j < ls.length := fun p j hp e => (ok.mate hp (ho.on p j e).2).1
  have one : ∀ p, p < ls.length → ha hs p ≠ none → leftL ls hs p ≠ [] := fun p hp h => by
    cases e : ha hs p with
    | none => exact absurd e h
    | some j =>
      have h1 := fst_mem (st.a p j hp e)
      have h2 := (left_sym ok (lt p j hp e) h1).2
      exact List.ne_nil_of_mem h2
  refine ⟨one p hp, fun h => ?_⟩
  have key := pigeon (n := ls.length) (A := fun p => p < ls.length ∧ leftL ls hs p ≠ []) (B := fun p => p < ls.length ∧ ha hs p ≠ none) (fun p => (fst ls hs p).getD 0) (fun p hp h => ?_) (fun p q hp hq h1 h2 e => ?_) (fun p h => ⟨h.1, one p h.1 h.2⟩) p hp ⟨hp, h⟩
  · exact key.2
  · cases e : fst ls hs p with
    | none => exact absurd (fst_none.mp e) h.2
    | some j =>
      have hj := (left_sym ok hp (fst_mem e)).1
      refine ⟨hj, hj, ?_⟩
      show ha hs j ≠ none
      rw [st.b p j hp e]
      exact fun z => by cases z
  · cases e1 : fst ls hs p with
    | none => exact absurd (fst_none.mp e1) h1.2
    | some j =>
      cases e2 : fst ls hs q with
      | none => exact absurd (fst_none.mp e2) h2.2
      | some k =>
        rw [e1, e2] at e
        have : j = k := e
        subst this
        have a1 := st.b p j hp e1
        have a2 := st.b q j hq e2
        rw [a1] at a2
        exact Option.some.inj a2
def rowOf (ls : List (List Nat)) (hs : List (Option Nat)) : List Nat := (List.range ls.length).map fun p => (fst ls hs p).getD p
theorem rowOf_at {p : Nat} (hp : p < ls.length) : (rowOf ls hs)[p]? = some ((fst ls hs p).getD p) := by
  unfold rowOf
  rw [List.getElem?_map, List.getElem?_range hp]
  rfl
theorem rowOf_len : (rowOf ls hs).length = ls.length := by simp [rowOf]
include ok in
theorem row_parts (ho : HoldsOk ls hs) (st : Std ls hs) : rowOf ls hs ∈ parts ls ls.length := by
  have inj : ∀ p q, p < ls.length → q < ls.length → (fst ls hs p).getD p = (fst ls hs q).getD q → p = q := by
    intro p q hp hq e
    cases e1 : fst ls hs p with
    | none =>
      cases e2 : fst ls hs q with
      | none => rw [e1, e2] at e; exact e
      | some k =>
        rw [e1, e2] at e
        have e' : p = k := e
        have hk := st.b q k hq e2
        rw [← e'] at hk
        exact absurd (fst_none.mp e1) ((std_held ok ho st hp).mp (by rw [hk]; exact fun z => by cases z))
    | some j =>
      cases e2 : fst ls hs q with
      | none =>
        rw [e1, e2] at e
        have e' : j = q := e
        have hj := st.b p j hp e1
        rw [e'] at hj
        exact absurd (fst_none.mp e2) ((std_held ok ho st hq).mp (by rw [hj]; exact fun z => by cases z))
      | some k =>
        rw [e1, e2] at e
        have e' : j = k := e
        subst e'
        have a1 := st.b p j hp e1
        have a2 := st.b q j hq e2
        rw [a1] at a2
        exact Option.some.inj a2
  refine parts_all _ _ rowOf_len ?_ fun i x e => ?_
  · unfold rowOf
    refine List.pairwise_map.mpr (List.Pairwise.imp_of_mem ?_ (List.nodup_range (n := ls.length)))
    intro p q hp hq ne e
    exact ne (inj p q (List.mem_range.mp hp) (List.mem_range.mp hq) e)
  · have hi : i < ls.length := by
      have := (List.getElem?_eq_some_iff.mp e).1
      rwa [rowOf_len] at this
    rw [rowOf_at hi] at e
    have e := Option.some.inj e
    cases e1 : fst ls hs i with
    | none => rw [e1] at e; exact .inr e.symm
    | some j =>
      rw [e1] at e
      have : j = x := e
      subst this
      exact .inl ((mem_left ok hi).mp (fst_mem e1)).1
theorem bef_iff {row : List Nat} (nd : row.Nodup) {j i : Nat} : bef row j = some i ↔ row[i]? = some j ∧ i ≠ j := by
  refine ⟨bef_some, fun h => ?_⟩
  unfold bef
  have hm := List.mem_of_getElem? h.1
  have ix := idx_at nd h.1
  rw [if_pos ⟨hm, by rw [ix]; exact h.2⟩, ix]
theorem opt_ext {a b : Option Nat} (h : ∀ x, a = some x ↔ b = some x) : a = b := by
  cases a with
  | none =>
    cases b with
    | none => rfl
    | some y => exact absurd ((h y).mpr rfl) (fun z => by cases z)
  | some x => exact ((h x).mp rfl).symm
include ok in
theorem row_bef (ho : HoldsOk ls hs) (st : Std ls hs) {j : Nat} (hj : j < ls.length) : bef (rowOf ls hs) j = ha hs j := by
  have pr := parts_row_ok ok (row_parts ok ho st)
  refine opt_ext fun i => ?_
  rw [bef_iff pr.ok.nd]
  constructor
  · rintro ⟨h1, h2⟩
    have hi : i < ls.length := by
      have := (List.getElem?_eq_some_iff.mp h1).1
      rwa [rowOf_len] at this
    rw [rowOf_at hi] at h1
    have h1 := Option.some.inj h1
    cases e : fst ls hs i with
    | none => rw [e] at h1; exact absurd h1 h2
    | some k =>
      rw [e] at h1
      have : k = j := h1
      subst this
      exact st.b i k hi e
  · intro e
    have hi := (ok.mate hj (ho.on j i e).2)
    refine ⟨?_, hi.2.1⟩
    rw [rowOf_at hi.1, st.a j i hj e]
    rfl
theorem row_nxt {p : Nat} (ok : ListsOk ls.length ls) (hp : p < ls.length) : nxt (rowOf ls hs) p = fst ls hs p := by
  unfold nxt
  have e : (rowOf ls hs).getD p p = (fst ls hs p).getD p := by
    rw [List.getD_eq_getElem?_getD, rowOf_at hp]
    rfl
  rw [e]
  cases e1 : fst ls hs p with
  | none => exact if_pos rfl
  | some j =>
    have := (ok.mate hp ((mem_left ok hp).mp (fst_mem e1)).1).2.1
    rw [if_neg (show ¬ (some j).getD p = p from this)]
    rfl
theorem most_eq {h1 h2 : List (Option Nat)} {p : Nat} (e : ha h1 p = ha h2 p) : most ls h1 p = most ls h2 p := by
  unfold most
  rw [e]
include ok in
theorem std_fits (ho : HoldsOk ls hs) (st : Std ls hs) : Fits ls (rowOf ls hs) (nxts (rowOf ls hs)) := by
  intro p hp
  have hb : ∀ q, q < ls.length → most ls (befs (rowOf ls hs)) q = most ls hs q := fun q hq => most_eq (by rw [befs_get (by rw [rowOf_len]; exact hq), row_bef ok ho st hq])
  have hn : ha (nxts (rowOf ls hs)) p = fst ls hs p := by rw [nxts_get (by rw [rowOf_len]; exact hp), row_nxt ok hp]
  refine ⟨?_, fun o hom => ?_⟩
  · rw [hb p hp]
    cases e : fst ls hs p with
    | none =>
      have h0 : ha hs p = none := Classical.byContradiction fun z => (std_held ok ho st hp).mp z (fst_none.mp e)
      rw [most_none h0, most_none (hn.trans e)]
      omega
    | some j =>
      rw [most_some (hn.trans e)]
      have := ((mem_left ok hp).mp (fst_mem e)).2.1
      omega
  · obtain ⟨k1, _, k3⟩ := ok.mate hp hom
    rw [hb o k1]
    rintro ⟨h1, h2⟩
    cases e : fst ls hs p with
    | none =>
      have h0 : ha hs p = none := Classical.byContradiction fun z => (std_held ok ho st hp).mp z (fst_none.mp e)
      have hl := List.idxOf_lt_length_of_mem hom
      have : o ∈ leftL ls hs p := (mem_left ok hp).mpr ⟨hom, by rw [most_none h0]; omega, by omega⟩
      rw [fst_none.mp e] at this
      cases this
    | some j =>
      rw [most_some (hn.trans e)] at h1
      have hj := ((mem_left ok hp).mp (fst_mem e)).2.1
      have : o ∈ leftL ls hs p := (mem_left ok hp).mpr ⟨hom, by omega, by omega⟩
      have := fst_min ok hp e this
      omega
include ok in
/-- a parting in which nobody bars tells steady holds -/
theorem fits_std {row : List Nat} (hr : row ∈ parts ls ls.length) (ft : Fits ls row (nxts row)) : Std ls (befs row) := by
  have pr := parts_row_ok ok hr
  have rl := pr.ok.len
  have hb : ∀ q, q < ls.length → ha (befs row) q = bef row q := fun q hq => befs_get (by rw [rl]; exact hq)
  have hn : ∀ q, q < ls.length → ha (nxts row) q = nxt row q := fun q hq => nxts_get (by rw [rl]; exact hq)
  have nx : ∀ p j, p < ls.length → (nxt row p = some j ↔ row[p]? = some j ∧ j ≠ p) := fun p j hp => by
    have e : row[p]? = some (row.getD p p) := by rw [List.getD_eq_getElem?_getD, List.getElem?_eq_getElem (by omega)]; rfl
    unfold nxt
    rw [e]
    by_cases c : row.getD p p = p
    · rw [if_pos c, c]
      exact ⟨fun z => (by cases z), fun z => absurd (Option.some.inj z.1).symm z.2⟩
    · rw [if_neg c]
      exact ⟨fun z => ⟨z, by rw [← Option.some.inj z]; exact c⟩, fun z => z.1⟩
  have bf : ∀ p j, (bef row j = some p ↔ row[p]? = some j ∧ p ≠ j) := fun p j => bef_iff pr.ok.nd
  have ff : ∀ p, p < ls.length → fst ls (befs row) p = nxt row p := by
    intro p hp
    have fp := ft p hp
    cases e : nxt row p with
    | none =>
      rw [fst_none]
      refine List.eq_nil_iff_forall_not_mem.mpr fun o hom => ?_
      obtain ⟨m1, m2, m3⟩ := (mem_left ok hp).mp hom
      obtain ⟨k1, k2, k3⟩ := ok.mate hp m1
      refine fp.2 o m1 ⟨?_, ?_⟩
      · rw [most_none ((hn p hp).trans e)]
        exact List.idxOf_lt_length_of_mem m1
      · refine Nat.lt_of_le_of_ne m3 fun z => ?_
        cases eo : bef row o with
        | none =>
          rw [most_none ((hb o k1).trans eo)] at z
          have := List.idxOf_lt_length_of_mem k3
          omega
        | some q =>
          rw [most_some ((hb o k1).trans eo)] at z
          obtain ⟨r1, r2⟩ := (bf q o).mp eo
          have qm : q ∈ la ls o := (befs_ok ok pr).on o q ((hb o k1).trans eo) |>.2
          have : p = q := idx_inj k3 qm z
          subst this
          have := (nx p o hp).mpr ⟨r1, Ne.symm r2⟩
          rw [e] at this
          cases this
    | some j =>
      obtain ⟨r1, r2⟩ := (nx p j hp).mp e
      have hbj : bef row j = some p := (bf p j).mpr ⟨r1, Ne.symm r2⟩
      have jm : j ∈ la ls p := (pr.on p j r1).resolve_right r2
      obtain ⟨j1, _, j3⟩ := ok.mate hp jm
      have nm := most_some (ls := ls) ((hn p hp).trans e)
      have bm := most_some (ls := ls) ((hb j j1).trans hbj)
      have jl : j ∈ leftL ls (befs row) p := (mem_left ok hp).mpr ⟨jm, by have := fp.1; rw [nm] at this; omega, by rw [bm]; omega⟩
      cases ef : fst ls (befs row) p with
      | none =>
        rw [fst_none.mp ef] at jl
        cases jl
      | some o =>
        congr 1
        have om := fst_mem ef
        obtain ⟨m1, m2, m3⟩ := (mem_left ok hp).mp om
        obtain ⟨k1, k2, k3⟩ := ok.mate hp m1
        have le := fst_min ok hp ef jl
        refine Classical.byContradiction fun ne => ?_
        have lt : (la ls p).idxOf o < (la ls p).idxOf j := Nat.lt_of_le_of_ne le fun z => ne (idx_inj m1 jm z)
        refine fp.2 o m1 ⟨by rw [nm]; exact lt, Nat.lt_of_le_of_ne m3 fun z => ?_⟩
        cases eo : bef row o with
        | none =>
          rw [most_none ((hb o k1).trans eo)] at z
          have := List.idxOf_lt_length_of_mem k3
          omega
        | some q =>
          rw [most_some ((hb o k1).trans eo)] at z
          obtain ⟨r3, r4⟩ := (bf q o).mp eo
          have qm : q ∈ la ls o := ((befs_ok ok pr).on o q ((hb o k1).trans eo)).2
          have : p = q := idx_inj k3 qm z
          subst this
          rw [r1] at r3
          exact ne (Option.some.inj r3).symm
  refine ⟨fun p j hp e => ?_, fun p j hp e => ?_⟩
  · rw [hb p hp] at e
    obtain ⟨r1, r2⟩ := (bf j p).mp e
    have hj : j < ls.length := by
      have := (List.getElem?_eq_some_iff.mp r1).1
      omega
    rw [ff j hj]
    exact (nx j p hj).mpr ⟨r1, Ne.symm r2⟩
  · rw [ff p hp] at e
    obtain ⟨r1, r2⟩ := (nx p j hp).mp e
    have hj := pr.ok.lt j (List.mem_of_getElem? r1)
    rw [hb j hj]
    exact (bf p j).mpr ⟨r1, Ne.symm r2⟩
end
end K14
namespace K14
open PySem PySem.Spec PyProof.Rows L2
/-! ### there are steady holds: asking ends -/
def sumM (ls : List (List Nat)) (hs : List (Option Nat)) : Nat := ((List.range ls.length).map (most ls hs)).sum
theorem sum_lt {n : Nat} {f g : Nat → Nat} (h : ∀ i < n, f i ≤ g i) {j : Nat} (hj : j < n) (lt : f j < g j) : ((List.range n).map f).sum < ((List.range n).map g).sum := by
  have le : ∀ m, m ≤ n → ((List.range m).map f).sum ≤ ((List.range m).map g).sum := by
    intro m
    induction m with
    | zero => intro _; exact Nat.le_refl _
    | succ m ih =>
      intro hm
      rw [List.range_succ, List.map_append, List.map_append, List.sum_append, List.sum_append]
      have := ih (by omega)
      have := h m (by omega)
      simp
      omega
  have key : ∀ m, m ≤ n → j < m → ((List.range m).map f).sum < ((List.range m).map g).sum := by
    intro m
    induction m with
    | zero => intro _ h; omega
    | succ m ih =>
      intro hm hjm
      rw [List.range_succ, List.map_append, List.map_append, List.sum_append, List.sum_append]
      have h1 := h m (by omega)
      by_cases c : j = m
      · subst c
        have := le j (by omega)
        simp
        omega
      · have := ih (by omega) (by omega)
        simp
        omega
  exact key n (Nat.le_refl _) hj
/-- holds in which whom one holds has one as its first one -/
structure Half (ls : List (List Nat)) (hs : List (Option Nat)) : Prop where
  ok : HoldsOk ls hs
  a : ∀ p j, p < ls.length → ha hs p = some j → fst ls hs j = some p
theorem ha_set {hs : List (Option Nat)} {j p q : Nat} (hj : j < hs.length) : ha (hs.set j (some p)) q = if q = j then some p else ha hs q := by
  unfold ha
  rw [List.getD_eq_getElem?_getD, List.getElem?_set, List.getD_eq_getElem?_getD]
  by_cases c : j = q
  · subst c
    rw [if_pos rfl, if_pos hj, if_pos rfl]
    rfl
  · rw [if_neg c, if_neg (fun z => c z.symm)]
section
variable {ls : List (List Nat)} {hs : List (Option Nat)} (ok : ListsOk ls.length ls)
include ok in
theorem ask (h : Half ls hs) {p j : Nat} (hp : p < ls.length) (e : fst ls hs p = some j) (free : ∀ q, q < ls.length → ha hs q ≠ some p) : Half ls (hs.set j (some p)) ∧ sumM ls (hs.set j (some p)) < sumM ls hs := by
  have jm := fst_mem e
  obtain ⟨m1, m2, m3⟩ := (mem_left ok hp).mp jm
  obtain ⟨j1, j2, j3⟩ := ok.mate hp m1
  have jl : j < hs.length := by rw [h.ok.len]; exact j1
  have hset := fun q => ha_set (hs := hs) (j := j) (p := p) (q := q) jl
  have mj : most ls (hs.set j (some p)) j = (la ls j).idxOf p := most_some (by rw [hset, if_pos rfl])
  have mo : ∀ q, q ≠ j → most ls (hs.set j (some p)) q = most ls hs q := fun q nq => most_eq (by rw [hset, if_neg nq])
  have lt : (la ls j).idxOf p < most ls hs j := by
    refine Nat.lt_of_le_of_ne m3 fun z => ?_
    cases ej : ha hs j with
    | none =>
      rw [most_none ej] at z
      have := List.idxOf_lt_length_of_mem j3
      omega
    | some q =>
      rw [most_some ej] at z
      have qm := (h.ok.on j q ej).2
      have : p = q := idx_inj j3 qm z
      subst this
      exact free j j1 ej
  have le : ∀ q, q < ls.length → most ls (hs.set j (some p)) q ≤ most ls hs q := fun q _ => by
    by_cases c : q = j
    · subst c
      rw [mj]
      omega
    · rw [mo q c]
      exact Nat.le_refl _
  have okk : HoldsOk ls (hs.set j (some p)) := by
    refine ⟨by rw [List.length_set]; exact h.ok.len, fun q k ek => ?_⟩
    rw [hset] at ek
    by_cases c : q = j
    · rw [if_pos c] at ek
      cases ek
      rw [c]
      exact ⟨j1, j3⟩
    · rw [if_neg c] at ek
      exact h.ok.on q k ek
  have sub : ∀ q o, q < ls.length → o ∈ leftL ls (hs.set j (some p)) q → o ∈ leftL ls hs q := fun q o hq ho => by
    obtain ⟨a1, a2, a3⟩ := (mem_left ok hq).mp ho
    have k1 := (ok.mate hq a1).1
    exact (mem_left ok hq).mpr ⟨a1, Nat.le_trans a2 (le q hq), Nat.le_trans a3 (le o k1)⟩
  -- whoever stays left and was the first one is so still
  have stay : ∀ q k, q < ls.length → fst ls hs q = some k → k ∈ leftL ls (hs.set j (some p)) q → fst ls (hs.set j (some p)) q = some k := fun q k hq eq hk => by
    cases e2 : fst ls (hs.set j (some p)) q with
    | none => rw [fst_none.mp e2] at hk; cases hk
    | some o =>
      have om := fst_mem e2
      have h1 := fst_min ok hq e2 hk
      have h2 := fst_min ok hq eq (sub q o hq om)
      have a1 := ((mem_left ok hq).mp om).1
      have a2 := ((mem_left ok hq).mp hk).1
      rw [idx_inj a1 a2 (by omega)]
  refine ⟨⟨okk, fun q k hq ek => ?_⟩, sum_lt (fun q hq => le q hq) j1 (by rw [mj]; exact lt)⟩
  rw [hset] at ek
  by_cases c : q = j
  · rw [if_pos c] at ek
    cases ek
    rw [c]
    refine stay p j hp e ((mem_left ok hp).mpr ⟨m1, ?_, by rw [mj]; exact Nat.le_refl _⟩)
    rw [mo p (fun z => j2 z.symm)]
    exact m2
  · rw [if_neg c] at ek
    have eq := h.a q k hq ek
    have kl := (ok.mate hq (h.ok.on q k ek).2).1
    have qm := fst_mem eq
    obtain ⟨b1, b2, b3⟩ := (mem_left ok kl).mp qm
    refine stay k q kl eq ((mem_left ok kl).mpr ⟨b1, ?_, by rw [mo q c]; exact b3⟩)
    by_cases d : k = j
    · subst d
      rw [mj]
      have := fst_min ok kl eq ((left_sym ok hp jm).2)
      exact this
    · rw [mo k d]
      exact b2
include ok in
theorem std_ex : ∀ (n : Nat) (hs : List (Option Nat)), Half ls hs → sumM ls hs ≤ n → ∃ hs', HoldsOk ls hs' ∧ Std ls hs' := by
  intro n
  induction n with
  | zero =>
    intro hs h hn
    by_cases c : ∃ p j, p < ls.length ∧ fst ls hs p = some j ∧ ∀ q, q < ls.length → ha hs q ≠ some p
    · obtain ⟨p, j, hp, e, fr⟩ := c
      have := (ask ok h hp e fr).2
      omega
    · refine ⟨hs, h.ok, h.a, fun p j hp e => ?_⟩
      refine Classical.byContradiction fun ne => c ⟨p, j, hp, e, fun q hq eq => ?_⟩
      have := h.a q p hq eq
      rw [e] at this
      cases this
      exact ne eq
  | succ n ih =>
    intro hs h hn
    by_cases c : ∃ p j, p < ls.length ∧ fst ls hs p = some j ∧ ∀ q, q < ls.length → ha hs q ≠ some p
    · obtain ⟨p, j, hp, e, fr⟩ := c
      obtain ⟨h1, h2⟩ := ask ok h hp e fr
      exact ih _ h1 (by omega)
    · refine ⟨hs, h.ok, h.a, fun p j hp e => ?_⟩
      refine Classical.byContradiction fun ne => c ⟨p, j, hp, e, fun q hq eq => ?_⟩
      have := h.a q p hq eq
      rw [e] at this
      cases this
      exact ne eq
include ok in
theorem steady_ex : ∃ row, row ∈ parts ls ls.length ∧ Fits ls row (nxts row) := by
  have h0 : Half ls (List.replicate ls.length none) := by
    have hn : ∀ q, ha (List.replicate ls.length (none : Option Nat)) q = none := fun q => by
      unfold ha
      rw [List.getD_eq_getElem?_getD, List.getElem?_replicate]
      split <;> rfl
    exact ⟨⟨by simp, fun p j e => by rw [hn] at e; cases e⟩, fun p j _ e => by rw [hn] at e; cases e⟩
  obtain ⟨hs, ho, st⟩ := std_ex ok _ _ h0 (Nat.le_refl _)
  exact ⟨rowOf ls hs, row_parts ok ho st, std_fits ok ho st⟩
include ok in
/-- which holds are steady: those before of the partings in which nobody bars -/
theorem steady_iff (ho : HoldsOk ls hs) : steadyB ls hs = true ↔ ∃ row, row ∈ parts ls ls.length ∧ Fits ls row (nxts row) ∧ befs row = hs := by
  rw [steadyB_iff ok ho]
  constructor
  · intro st
    refine ⟨rowOf ls hs, row_parts ok ho st, std_fits ok ho st, ?_⟩
    apply List.ext_getElem?
    intro j
    by_cases c : j < ls.length
    · rw [ha_get (hs := befs (rowOf ls hs)) (by simp [befs, rowOf_len]; exact c), ha_get (by rw [ho.len]; exact c), befs_get (by rw [rowOf_len]; exact c), row_bef ok ho st c]
    · rw [List.getElem?_eq_none (by simp [befs, rowOf_len]; omega), List.getElem?_eq_none (by rw [ho.len]; omega)]
  · rintro ⟨row, h1, h2, rfl⟩
    exact fits_std ok h1 h2
theorem last_max : ∀ {s : List Nat} {g : Nat → Bool} {j : Nat}, s.Nodup → j ∈ s.filter g → (∀ o ∈ s.filter g, s.idxOf o ≤ s.idxOf j) → (s.filter g).getLast? = some j
  | [], g, j, _, h, _ => by simp at h
  | a :: t, g, j, nd, h, mx => by
    have tail : ∀ o, o ≠ a → (a :: t).idxOf o = t.idxOf o + 1 := fun o no => by
      have e : (a == o) = false := beq_eq_false_iff_ne.mpr (Ne.symm no)
      rw [List.idxOf_cons, e]
      rfl
    have na : ∀ o ∈ t, o ≠ a := fun o ho z => (List.nodup_cons.mp nd).1 (z ▸ ho)
    rw [List.filter_cons] at h mx ⊢
    by_cases c : g a = true
    · rw [if_pos c] at h mx ⊢
      by_cases d : j = a
      · subst d
        have emp : t.filter g = [] := by
          refine List.eq_nil_iff_forall_not_mem.mpr fun o ho => ?_
          have h1 := mx o (by simp [ho])
          have ht := (List.mem_filter.mp ho).1
          rw [tail o (na o ht)] at h1
          simp at h1
        rw [emp]
        rfl
      · have hj : j ∈ t.filter g := by
          rcases List.mem_cons.mp h with z | z
          · exact absurd z d
          · exact z
        have ih := last_max (List.nodup_cons.mp nd).2 hj fun o ho => by
          have h1 := mx o (by simp [ho])
          rw [tail o (na o (List.mem_filter.mp ho).1), tail j d] at h1
          omega
        rw [List.getLast?_cons, ih]
        rfl
    · rw [if_neg c] at h mx ⊢
      exact last_max (List.nodup_cons.mp nd).2 h fun o ho => by
        have h1 := mx o ho
        rw [tail o (na o (List.mem_filter.mp ho).1), tail j (na j (List.mem_filter.mp h).1)] at h1
        omega
include ok in
/-- steady holds leave as last ones those that are held -/
theorem last_held (ho : HoldsOk ls hs) (st : Std ls hs) {p : Nat} (hp : p < ls.length) : (leftL ls hs p).getLast? = ha hs p := by
  cases e : ha hs p with
  | none =>
    have : leftL ls hs p = [] := Classical.byContradiction fun z => (std_held ok ho st hp).mpr z e
    rw [this]
    rfl
  | some j =>
    obtain ⟨_, jm⟩ := ho.on p j e
    obtain ⟨j1, _, j3⟩ := ok.mate hp jm
    have h1 := fst_mem (st.a p j hp e)
    have h2 := (left_sym ok j1 h1).2
    rw [leftL_filter ok hp] at h2 ⊢
    refine last_max (ok.nda hp) h2 fun o hom => ?_
    have := (List.mem_filter.mp hom).2
    rw [Bool.and_eq_true, decide_eq_true_eq, most_some e] at this
    exact this.1
end
end K14
namespace K14
open PySem PySem.Spec PyProof.Rows L2
/-! ### rings turned out: steady holds that leave somebody three or more have lesser ones -/
theorem min_ex (f : Nat → Nat) : ∀ (l : List Nat), l ≠ [] → ∃ m, m ∈ l ∧ ∀ o ∈ l, f m ≤ f o
  | [], h => absurd rfl h
  | [a], _ => ⟨a, by simp, fun o ho => by rw [List.mem_singleton.mp ho]; exact Nat.le_refl _⟩
  | a :: b :: t, _ => by
    obtain ⟨m, hm, h⟩ := min_ex f (b :: t) (by simp)
    by_cases c : f a ≤ f m
    · refine ⟨a, by simp, fun o ho => ?_⟩
      rcases List.mem_cons.mp ho with rfl | ho
      · exact Nat.le_refl _
      · exact Nat.le_trans c (h o ho)
    · refine ⟨m, List.mem_cons_of_mem _ hm, fun o ho => ?_⟩
      rcases List.mem_cons.mp ho with rfl | ho
      · omega
      · exact h o ho
section
variable {ls : List (List Nat)} {hs : List (Option Nat)} (ok : ListsOk ls.length ls)
include ok in
theorem left_nd {p : Nat} (hp : p < ls.length) : (leftL ls hs p).Nodup := by
  unfold leftL
  exact List.Pairwise.filter _ ((ok.nda hp).sublist (List.take_sublist _ _))
/-- the second one -/
structure Snd (ls : List (List Nat)) (hs : List (Option Nat)) (p s : Nat) : Prop where
  mem : s ∈ leftL ls hs p
  ne : fst ls hs p ≠ some s
  min : ∀ o ∈ leftL ls hs p, fst ls hs p ≠ some o → (la ls p).idxOf s ≤ (la ls p).idxOf o
include ok in
theorem snd_ex {p : Nat} (hp : p < ls.length) (h2 : 2 ≤ (leftL ls hs p).length) : ∃ s, Snd ls hs p s := by
  have nd := left_nd (hs := hs) ok hp
  cases e : leftL ls hs p with
  | nil => rw [e] at h2; simp at h2
  | cons a r =>
    have ef : fst ls hs p = some a := by unfold fst; rw [e]; rfl
    rw [e] at nd h2
    have hr : r ≠ [] := fun z => by rw [z] at h2; simp at h2
    obtain ⟨m, hm, hmin⟩ := min_ex (fun o => (la ls p).idxOf o) r hr
    refine ⟨m, by rw [e]; exact List.mem_cons_of_mem _ hm, fun z => ?_, fun o ho ne => ?_⟩
    · rw [ef] at z
      cases z
      exact (List.nodup_cons.mp nd).1 hm
    · rw [e] at ho
      rcases List.mem_cons.mp ho with rfl | ho
      · exact absurd ef ne
      · exact hmin o ho
theorem two_of {l : List Nat} {a b : Nat} (ha : a ∈ l) (hb : b ∈ l) (ne : a ≠ b) : 2 ≤ l.length := by
  have := nodup_sub_len (s := [a, b]) (t := l) (by simp [ne]) fun x hx => by
    rcases List.mem_cons.mp hx with rfl | hx
    · exact ha
    · rw [List.mem_singleton.mp hx]; exact hb
  simpa using this
theorem left_le {p o : Nat} {hs' : List (Option Nat)} (le : ∀ q, q < ls.length → most ls hs' q ≤ most ls hs q) (okk : ListsOk ls.length ls) (hp : p < ls.length) (h : o ∈ leftL ls hs' p) : o ∈ leftL ls hs p := by
  obtain ⟨a1, a2, a3⟩ := (mem_left okk hp).mp h
  exact (mem_left okk hp).mpr ⟨a1, Nat.le_trans a2 (le p hp), Nat.le_trans a3 (le o (okk.mate hp a1).1)⟩
/-- the giver behind: whom the second one holds -/
structure Giv (ls : List (List Nat)) (hs : List (Option Nat)) (p s q : Nat) : Prop where
  sn : Snd ls hs p s
  ps : p ∈ leftL ls hs s
  sl : s < ls.length
  held : ha hs s = some q
  fq : fst ls hs q = some s
  ql : q < ls.length
  ne : q ≠ p
  two : 2 ≤ (leftL ls hs q).length
include ok in
theorem giv_ex (ho : HoldsOk ls hs) (st : Std ls hs) {p : Nat} (hp : p < ls.length) (h2 : 2 ≤ (leftL ls hs p).length) : ∃ s q, Giv ls hs p s q := by
  obtain ⟨s, sn⟩ := snd_ex (hs := hs) ok hp h2
  obtain ⟨sl, ps⟩ := left_sym ok hp sn.mem
  have hne : ha hs s ≠ none := (std_held ok ho st sl).mpr (List.ne_nil_of_mem ps)
  cases eh : ha hs s with
  | none => exact absurd eh hne
  | some q =>
    have fq := st.a s q sl eh
    have ql := (ok.mate sl (ho.on s q eh).2).1
    have nq : q ≠ p := fun z => by
      rw [z] at fq
      exact sn.ne fq
    refine ⟨s, q, sn, ps, sl, eh, fq, ql, nq, ?_⟩
    -- whom q holds is not s
    have sq := fst_mem fq
    have hq : ha hs q ≠ none := (std_held ok ho st ql).mpr (List.ne_nil_of_mem sq)
    cases ek : ha hs q with
    | none => exact absurd ek hq
    | some k =>
      have kl := (ok.mate ql (ho.on q k ek).2).1
      have fk := st.a q k ql ek
      have kq := (left_sym ok kl (fst_mem fk)).2
      refine two_of sq kq fun z => ?_
      rw [← z] at fk
      -- then q is the first one of s, and the last one, but p is left, too
      have h1 := fst_min ok sl fk ps
      obtain ⟨m1, m2, m3⟩ := (mem_left ok sl).mp ps
      rw [most_some eh] at m2
      exact nq (idx_inj (ho.on s q eh).2 m1 (by omega))
end
end K14
namespace K14
open PySem PySem.Spec PyProof.Rows L2
/-- givers on rings: closed under the giver behind, each the giver behind of one, none barred -/
structure Rng (ls : List (List Nat)) (hs : List (Option Nat)) (s g : Nat → Nat) (X : Nat → Prop) : Prop where
  giv : ∀ p, X p → Giv ls hs p (s p) (g p)
  lt : ∀ p, X p → p < ls.length
  nx : ∀ p, X p → X (g p)
  pr : ∀ p, X p → ∃ z, X z ∧ g z = p
  inj : ∀ p z, X p → X z → g p = g z → p = z
  good : ∀ z, X z → X (s z) → fst ls hs (s z) ≠ some z
  ne : ∃ p, X p
section
variable {ls : List (List Nat)} {hs : List (Option Nat)} {s g : Nat → Nat} {X : Nat → Prop} (ok : ListsOk ls.length ls)
open Classical in
/-- the holds behind such a ring turned out -/
noncomputable def outOf (ls : List (List Nat)) (hs : List (Option Nat)) (s : Nat → Nat) (X : Nat → Prop) : List (Option Nat) :=
  (List.range ls.length).map fun y => if h : ∃ x, X x ∧ s x = y then some (Classical.choose h) else ha hs y
theorem out_at {y : Nat} (hy : y < ls.length) : ha (outOf ls hs s X) y = (open Classical in if h : ∃ x, X x ∧ s x = y then some (Classical.choose h) else ha hs y) := by
  unfold ha outOf
  rw [List.getD_eq_getElem?_getD, List.getElem?_map, List.getElem?_range hy]
  rfl
theorem out_yes (R : Rng ls hs s g X) {x : Nat} (hx : X x) : ha (outOf ls hs s X) (s x) = some x := by
  have G := R.giv x hx
  rw [out_at G.sl]
  have h : ∃ x', X x' ∧ s x' = s x := ⟨x, hx, rfl⟩
  rw [dif_pos h]
  have c := Classical.choose_spec h
  have G2 := R.giv _ c.1
  have e1 := G2.held
  rw [c.2, G.held] at e1
  rw [R.inj _ x c.1 hx (Option.some.inj e1).symm]
theorem out_no {y : Nat} (hy : y < ls.length) (h : ∀ x, X x → s x ≠ y) : ha (outOf ls hs s X) y = ha hs y := by
  rw [out_at hy, dif_neg (fun ⟨x, h1, h2⟩ => h x h1 h2)]
include ok in
theorem turn (ho : HoldsOk ls hs) (st : Std ls hs) (R : Rng ls hs s g X) : ∃ hs', HoldsOk ls hs' ∧ Std ls hs' ∧ (∀ q, q < ls.length → most ls hs' q ≤ most ls hs q) ∧ sumM ls hs' < sumM ls hs := by
  -- ranks
  have my : ∀ x, X x → most ls (outOf ls hs s X) (s x) = (la ls (s x)).idxOf x := fun x hx => most_some (out_yes R hx)
  have lt : ∀ x, X x → (la ls (s x)).idxOf x < most ls hs (s x) := fun x hx => by
    have G := R.giv x hx
    obtain ⟨m1, m2, m3⟩ := (mem_left ok G.sl).mp G.ps
    refine Nat.lt_of_le_of_ne m2 fun z => ?_
    rw [most_some G.held] at z
    exact G.ne (idx_inj (ho.on _ _ G.held).2 m1 z.symm)
  have mn : ∀ y, y < ls.length → (∀ x, X x → s x ≠ y) → most ls (outOf ls hs s X) y = most ls hs y := fun y hy h => most_eq (out_no hy h)
  have le : ∀ q, q < ls.length → most ls (outOf ls hs s X) q ≤ most ls hs q := fun q hq => by
    by_cases c : ∃ x, X x ∧ s x = q
    · obtain ⟨x, hx, ex⟩ := c; subst ex
      rw [my x hx]
      exact Nat.le_of_lt (lt x hx)
    · rw [mn q hq fun x hx z => c ⟨x, hx, z⟩]
      exact Nat.le_refl _
  have sub : ∀ {p o : Nat}, p < ls.length → o ∈ leftL ls (outOf ls hs s X) p → o ∈ leftL ls hs p := fun hp h => left_le le ok hp h
  have okk : HoldsOk ls (outOf ls hs s X) := by
    refine ⟨by simp [outOf], fun p j e => ?_⟩
    have hp : p < ls.length := by
      have := ha_lt e
      simpa [outOf] using this
    by_cases c : ∃ x, X x ∧ s x = p
    · obtain ⟨x, hx, ex⟩ := c; subst ex
      rw [out_yes R hx] at e
      cases e
      have G := R.giv j hx
      exact ⟨hp, ((mem_left ok hp).mp G.ps).1⟩
    · rw [out_no hp fun x hx z => c ⟨x, hx, z⟩] at e
      exact ho.on p j e
  -- who has its first one as such: whose first one is a taker
  have fstX : ∀ x, X x → ∃ z, X z ∧ g z = x ∧ fst ls hs x = some (s z) := fun x hx => by
    obtain ⟨z, hz, e⟩ := R.pr x hx
    refine ⟨z, hz, e, ?_⟩
    have := (R.giv z hz).fq
    rw [e] at this
    exact this
  -- the first one is the only possible one that is least
  have fst_is : ∀ {p k : Nat}, p < ls.length → k ∈ leftL ls (outOf ls hs s X) p → (∀ o ∈ leftL ls (outOf ls hs s X) p, (la ls p).idxOf k ≤ (la ls p).idxOf o) → fst ls (outOf ls hs s X) p = some k := fun {p k} hp hk hmin => by
    cases e : fst ls (outOf ls hs s X) p with
    | none => rw [fst_none.mp e] at hk; cases hk
    | some o =>
      have om := fst_mem e
      have h1 := fst_min ok hp e hk
      have h2 := hmin o om
      rw [idx_inj ((mem_left ok hp).mp om).1 ((mem_left ok hp).mp hk).1 (by omega)]
  have fA : ∀ x, X x → fst ls (outOf ls hs s X) x = some (s x) := fun x hx => by
    have G := R.giv x hx
    have xl := R.lt x hx
    obtain ⟨m1, m2, m3⟩ := (mem_left ok xl).mp G.sn.mem
    have bound : (la ls x).idxOf (s x) ≤ most ls (outOf ls hs s X) x := by
      by_cases c : ∃ z, X z ∧ s z = x
      · obtain ⟨z, hz, e⟩ := c
        have h1 := my z hz
        rw [e] at h1
        rw [h1]
        have Gz := R.giv z hz
        have zm := Gz.ps
        rw [e] at zm
        refine G.sn.min z zm ?_
        have := R.good z hz (by rw [e]; exact hx)
        rw [e] at this
        exact this
      · rw [mn x xl fun z hz e => c ⟨z, hz, e⟩]
        exact m2
    refine fst_is xl ((mem_left ok xl).mpr ⟨m1, bound, by rw [my x hx]; exact Nat.le_refl _⟩) fun o hom => ?_
    refine G.sn.min o (sub xl hom) fun ef => ?_
    obtain ⟨z, hz, e, ef2⟩ := fstX x hx
    rw [ef] at ef2
    cases ef2
    have b3 := ((mem_left ok xl).mp hom).2.2
    rw [my z hz] at b3
    have h4 := lt z hz
    rw [most_some (R.giv z hz).held, e] at h4
    omega
  have noS : ∀ p f, p < ls.length → ¬ X p → fst ls hs p = some f → ∀ x, X x → s x ≠ f := fun p f hp hx ef x hxx e => by
    have h1 := st.b p f hp ef
    have h2 := (R.giv x hxx).held
    rw [e, h1] at h2
    exact hx (by rw [Option.some.inj h2]; exact R.nx x hxx)
  have fB : ∀ p f, p < ls.length → ¬ X p → fst ls hs p = some f → fst ls (outOf ls hs s X) p = some f := fun p f hp hx ef => by
    have fm := fst_mem ef
    obtain ⟨m1, m2, m3⟩ := (mem_left ok hp).mp fm
    have fl := (ok.mate hp m1).1
    refine fst_is hp ((mem_left ok hp).mpr ⟨m1, ?_, by rw [mn f fl (noS p f hp hx ef)]; exact m3⟩) fun o hom => fst_min ok hp ef (sub hp hom)
    by_cases c : ∃ z, X z ∧ s z = p
    · obtain ⟨z, hz, e⟩ := c
      have h1 := my z hz
      rw [e] at h1
      rw [h1]
      have zm := (R.giv z hz).ps
      rw [e] at zm
      exact fst_min ok hp ef zm
    · rw [mn p hp fun z hz e => c ⟨z, hz, e⟩]
      exact m2
  have fC : ∀ p j, p < ls.length → fst ls (outOf ls hs s X) p = some j → ¬ X p → fst ls hs p = some j := fun p j hp e hx => by
    cases ef : fst ls hs p with
    | none =>
      have := sub hp (fst_mem e)
      rw [fst_none.mp ef] at this
      cases this
    | some f =>
      rw [fB p f hp hx ef] at e
      exact e
  refine ⟨_, okk, ⟨fun p j hp e => ?_, fun p j hp e => ?_⟩, le, ?_⟩
  · by_cases c : ∃ x, X x ∧ s x = p
    · obtain ⟨x, hx, ex⟩ := c; subst ex
      rw [out_yes R hx] at e
      cases e
      exact fA j hx
    · rw [out_no hp fun x hx z => c ⟨x, hx, z⟩] at e
      have h1 := st.a p j hp e
      have jl := (ok.mate hp (ho.on p j e).2).1
      refine fB j p jl (fun hx => ?_) h1
      obtain ⟨z, hz, _, ef⟩ := fstX j hx
      rw [h1] at ef
      exact c ⟨z, hz, (Option.some.inj ef).symm⟩
  · by_cases hx : X p
    · rw [fA p hx] at e
      cases e
      exact out_yes R hx
    · have e1 := fC p j hp e hx
      have jl := (ok.mate hp ((mem_left ok hp).mp (fst_mem e1)).1).1
      rw [out_no jl (noS p j hp hx e1)]
      exact st.b p j hp e1
  · obtain ⟨x, hx⟩ := R.ne
    exact sum_lt (fun q hq => le q hq) (R.giv x hx).sl (by rw [my x hx]; exact lt x hx)
end
end K14
namespace K14
open PySem PySem.Spec PyProof.Rows L2
def it (g : Nat → Nat) : Nat → Nat → Nat
  | 0, p => p
  | m + 1, p => g (it g m p)
theorem it_add (g : Nat → Nat) (a b p : Nat) : it g (a + b) p = it g a (it g b p) := by
  induction a with
  | zero => rw [Nat.zero_add]; rfl
  | succ a ih => rw [Nat.succ_add]; show g (it g (a + b) p) = g (it g a (it g b p)); rw [ih]
theorem meets {n : Nat} {x : Nat → Nat} (h : ∀ m, x m < n) : ∃ i j, i < j ∧ x i = x j := by
  refine Classical.byContradiction fun c => ?_
  have nd : ((List.range (n + 1)).map x).Nodup := by
    refine List.pairwise_map.mpr (List.Pairwise.imp ?_ (List.pairwise_lt_range (n := n + 1)))
    intro a b lt e
    exact c ⟨a, b, lt, e⟩
  have := nodup_sub_len nd (t := List.range n) fun y hy => by
    obtain ⟨m, _, rfl⟩ := List.mem_map.mp hy
    exact List.mem_range.mpr (h m)
  simp at this
  omega
section
variable {ls : List (List Nat)} {hs : List (Option Nat)} (ok : ListsOk ls.length ls)
include ok in
theorem ring_ex (ho : HoldsOk ls hs) (st : Std ls hs) {p0 : Nat} (hp : p0 < ls.length) (h3 : 3 ≤ (leftL ls hs p0).length) : ∃ s g X, Rng ls hs s g X := by
  have ch : ∃ f : Nat → Nat × Nat, ∀ p, p < ls.length → 2 ≤ (leftL ls hs p).length → Giv ls hs p (f p).1 (f p).2 := by
    classical
    refine ⟨fun p => if h : ∃ s q, Giv ls hs p s q then (Classical.choose h, Classical.choose (Classical.choose_spec h)) else (0, 0), fun p hp h2 => ?_⟩
    have h := giv_ex ok ho st hp h2
    dsimp only
    rw [dif_pos h]
    exact Classical.choose_spec (Classical.choose_spec h)
  obtain ⟨f, hf⟩ := ch
  have well : ∀ m, it (fun p => (f p).2) m p0 < ls.length ∧ 2 ≤ (leftL ls hs (it (fun p => (f p).2) m p0)).length := by
    intro m
    induction m with
    | zero => exact ⟨hp, by show 2 ≤ (leftL ls hs p0).length; omega⟩
    | succ m ih =>
      have G := hf _ ih.1 ih.2
      exact ⟨G.ql, G.two⟩
  obtain ⟨i, j, lt, eij⟩ := meets fun m => (well m).1
  have per : ∀ m, i ≤ m → it (fun p => (f p).2) (m + (j - i)) p0 = it (fun p => (f p).2) m p0 := fun m hm => by
    have e1 : m + (j - i) = (m - i) + j := by omega
    have e2 : m = (m - i) + i := by omega
    rw [e1, it_add, ← eij, ← it_add, ← e2]
  refine ⟨fun p => (f p).1, fun p => (f p).2, fun a => ∃ m, i ≤ m ∧ a = it (fun p => (f p).2) m p0, ?_⟩
  have giv : ∀ p, (∃ m, i ≤ m ∧ p = it (fun p => (f p).2) m p0) → Giv ls hs p (f p).1 (f p).2 := by
    rintro p ⟨m, hm, rfl⟩
    exact hf _ (well m).1 (well m).2
  have lt' : ∀ p, (∃ m, i ≤ m ∧ p = it (fun p => (f p).2) m p0) → p < ls.length := by
    rintro p ⟨m, hm, rfl⟩
    exact (well m).1
  have pr : ∀ p, (∃ m, i ≤ m ∧ p = it (fun p => (f p).2) m p0) → ∃ z, (∃ m, i ≤ m ∧ z = it (fun p => (f p).2) m p0) ∧ (f z).2 = p := by
    rintro p ⟨m, hm, rfl⟩
    refine ⟨it (fun p => (f p).2) (m + (j - i) - 1) p0, ⟨_, by omega, rfl⟩, ?_⟩
    have := per m hm
    have e : m + (j - i) = (m + (j - i) - 1) + 1 := by omega
    rw [e] at this
    exact this
  refine ⟨giv, lt', ?_, pr, ?_, ?_, ⟨_, i, Nat.le_refl _, rfl⟩⟩
  · rintro p ⟨m, hm, rfl⟩
    exact ⟨m + 1, by omega, rfl⟩
  · rintro a b ⟨m, hm, rfl⟩ ⟨l, hl, rfl⟩ e
    have back : ∀ m, i ≤ m → it (fun p => (f p).2) m p0 = it (fun p => (f p).2) (j - i - 1) (it (fun p => (f p).2) (m + 1) p0) := fun m hm => by
      rw [← it_add]
      have e : j - i - 1 + (m + 1) = m + (j - i) := by omega
      rw [e, per m hm]
    have e' : it (fun p => (f p).2) (m + 1) p0 = it (fun p => (f p).2) (l + 1) p0 := e
    rw [back m hm, back l hl, e']
  · -- no giver is the first one of its second one, if this is a giver, too
    intro b0 hb0 hs0 hf0
    have one : ∀ b, (∃ m, i ≤ m ∧ b = it (fun p => (f p).2) m p0) → (∃ m, i ≤ m ∧ (f b).1 = it (fun p => (f p).2) m p0) → fst ls hs (f b).1 = some b →
        ∃ a, ((∃ m, i ≤ m ∧ a = it (fun p => (f p).2) m p0) ∧ (∃ m, i ≤ m ∧ (f a).1 = it (fun p => (f p).2) m p0) ∧ fst ls hs (f a).1 = some a) ∧ fst ls hs b = some a ∧ ∀ o ∈ leftL ls hs b, o = a ∨ o = (f b).1 := by
      intro b hb ha hfb
      have Gb := giv b hb
      have bl := lt' b hb
      have Sb := st.b _ b Gb.sl hfb
      have two : ∀ o ∈ leftL ls hs b, fst ls hs b = some o ∨ o = (f b).1 := fun o hom => by
        by_cases c : fst ls hs b = some o
        · exact .inl c
        · refine .inr ?_
          have h1 := Gb.sn.min o hom c
          obtain ⟨m1, m2, m3⟩ := (mem_left ok bl).mp hom
          rw [most_some Sb] at m2
          exact (idx_inj m1 (ho.on b _ Sb).2 (by omega))
      obtain ⟨a, hxa, ea⟩ := pr _ ha
      have Ga := giv a hxa
      have e1 := Ga.fq
      rw [ea, hfb] at e1
      have eb : b = (f a).1 := Option.some.inj e1
      have am := Ga.ps
      rw [← eb] at am
      have fb : fst ls hs b = some a := by
        rcases two a am with h | h
        · exact h
        · have := Ga.ne
          rw [ea] at this
          exact absurd h.symm this
      refine ⟨a, ⟨hxa, by rw [← eb]; exact hb, by rw [← eb]; exact fb⟩, fb, fun o hom => ?_⟩
      rcases two o hom with h | h
      · rw [fb] at h
        exact .inl (Option.some.inj h).symm
      · exact .inr h
    have back : ∀ q, q < ls.length → 2 ≤ (leftL ls hs q).length →
        ((∃ m, i ≤ m ∧ (f q).2 = it (fun p => (f p).2) m p0) ∧ (∃ m, i ≤ m ∧ (f (f q).2).1 = it (fun p => (f p).2) m p0) ∧ fst ls hs (f (f q).2).1 = some (f q).2) →
        ((∃ m, i ≤ m ∧ q = it (fun p => (f p).2) m p0) ∧ (∃ m, i ≤ m ∧ (f q).1 = it (fun p => (f p).2) m p0) ∧ fst ls hs (f q).1 = some q) := by
      rintro q hq h2 ⟨z1, z2, z3⟩
      have G := hf q hq h2
      obtain ⟨a, ⟨a1, a2, a3⟩, fa, _⟩ := one _ z1 z2 z3
      have e1 := G.fq
      rw [fa] at e1
      have ea : a = (f q).1 := Option.some.inj e1
      subst ea
      obtain ⟨c, ⟨c1, c2, c3⟩, fc, all⟩ := one _ a1 a2 a3
      rcases all q G.ps with h | h
      · rw [h]
        exact ⟨c1, c2, c3⟩
      · have Gt := giv _ a1
        have h1 := st.b _ _ Gt.sl a3
        rw [G.held] at h1
        exact absurd ((Option.some.inj h1).trans h.symm) G.ne
    have down : ∀ m, ((∃ l, i ≤ l ∧ it (fun p => (f p).2) m p0 = it (fun p => (f p).2) l p0) ∧ (∃ l, i ≤ l ∧ (f (it (fun p => (f p).2) m p0)).1 = it (fun p => (f p).2) l p0) ∧ fst ls hs (f (it (fun p => (f p).2) m p0)).1 = some (it (fun p => (f p).2) m p0)) →
        ((∃ l, i ≤ l ∧ p0 = it (fun p => (f p).2) l p0) ∧ (∃ l, i ≤ l ∧ (f p0).1 = it (fun p => (f p).2) l p0) ∧ fst ls hs (f p0).1 = some p0) := by
      intro m
      induction m with
      | zero => exact fun h => h
      | succ m ih => exact fun h => ih (back _ (well m).1 (well m).2 h)
    obtain ⟨m, hm, em⟩ := hb0
    subst em
    obtain ⟨z1, z2, z3⟩ := down m ⟨⟨m, hm, rfl⟩, hs0, hf0⟩
    obtain ⟨a, _, _, all⟩ := one p0 z1 z2 z3
    have := nodup_sub_len (left_nd (hs := hs) ok hp) (t := [a, (f p0).1]) fun o hom => by
      rcases all o hom with h | h <;> simp [h]
    simp at this
    omega
include ok in
/-- steady holds within any others that leave nobody more than two -/
theorem two_ex : ∀ (n : Nat) (hs : List (Option Nat)), HoldsOk ls hs → Std ls hs → sumM ls hs ≤ n → ∃ hs', HoldsOk ls hs' ∧ Std ls hs' ∧ (∀ q, q < ls.length → most ls hs' q ≤ most ls hs q) ∧ ∀ p, p < ls.length → (leftL ls hs' p).length ≤ 2 := by
  intro n
  induction n with
  | zero =>
    intro hs ho st hn
    by_cases c : ∃ p, p < ls.length ∧ 3 ≤ (leftL ls hs p).length
    · obtain ⟨p, hp, h3⟩ := c
      obtain ⟨s, g, X, R⟩ := ring_ex ok ho st hp h3
      obtain ⟨hs', _, _, _, lt⟩ := turn ok ho st R
      omega
    · exact ⟨hs, ho, st, fun q _ => Nat.le_refl _, fun p hp => Nat.le_of_not_lt fun h => c ⟨p, hp, h⟩⟩
  | succ n ih =>
    intro hs ho st hn
    by_cases c : ∃ p, p < ls.length ∧ 3 ≤ (leftL ls hs p).length
    · obtain ⟨p, hp, h3⟩ := c
      obtain ⟨s, g, X, R⟩ := ring_ex ok ho st hp h3
      obtain ⟨hs', ho', st', le, lt⟩ := turn ok ho st R
      obtain ⟨h2, o2, s2, l2, t2⟩ := ih hs' ho' st' (by omega)
      exact ⟨h2, o2, s2, fun q hq => Nat.le_trans (l2 q hq) (le q hq), t2⟩
    · exact ⟨hs, ho, st, fun q _ => Nat.le_refl _, fun p hp => Nat.le_of_not_lt fun h => c ⟨p, hp, h⟩⟩
end
end K14
namespace K14
open PySem PySem.Spec PyProof.Rows L2
/-- within these are all steady holds -/
def Top (ls : List (List Nat)) (hs : List (Option Nat)) : Prop := ∀ S, HoldsOk ls S → Std ls S → ∀ q, q < ls.length → most ls S q ≤ most ls hs q
structure Great (ls : List (List Nat)) (hs : List (Option Nat)) : Prop where
  ok : HoldsOk ls hs
  st : Std ls hs
  top : Top ls hs
section
variable {ls : List (List Nat)} {hs : List (Option Nat)} (ok : ListsOk ls.length ls)
include ok in
theorem ask_top (h : Half ls hs) (t : Top ls hs) {p j : Nat} (hp : p < ls.length) (e : fst ls hs p = some j) : Top ls (hs.set j (some p)) := by
  intro S so ss q hq
  have jm := fst_mem e
  obtain ⟨m1, m2, m3⟩ := (mem_left ok hp).mp jm
  obtain ⟨j1, j2, j3⟩ := ok.mate hp m1
  have jl : j < hs.length := by rw [h.ok.len]; exact j1
  have hset := fun q => ha_set (hs := hs) (j := j) (p := p) (q := q) jl
  by_cases c : q = j
  · subst c
    rw [most_some (show ha (hs.set q (some p)) q = some p by rw [hset, if_pos rfl])]
    refine Nat.le_of_not_lt fun lt => ?_
    have sub : ∀ o, o ∈ leftL ls S p → o ∈ leftL ls hs p := fun o ho => left_le (fun q hq => t S so ss q hq) ok hp ho
    have bound : (la ls p).idxOf q ≤ most ls S p := by
      cases ek : ha S p with
      | none =>
        rw [most_none ek]
        exact Nat.le_of_lt (List.idxOf_lt_length_of_mem m1)
      | some k =>
        rw [most_some ek]
        have kl := (ok.mate hp (so.on p k ek).2).1
        have km := (left_sym ok kl (fst_mem (ss.a p k hp ek))).2
        exact fst_min ok hp e (sub k km)
    have qm : q ∈ leftL ls S p := (mem_left ok hp).mpr ⟨m1, bound, by omega⟩
    cases ef : fst ls S p with
    | none => rw [fst_none.mp ef] at qm; cases qm
    | some f =>
      have fm := fst_mem ef
      have h1 := fst_min ok hp ef qm
      have h2 := fst_min ok hp e (sub f fm)
      have : f = q := idx_inj ((mem_left ok hp).mp fm).1 m1 (by omega)
      subst this
      rw [most_some (ss.b p f hp ef)] at lt
      omega
  · rw [most_eq (show ha (hs.set j (some p)) q = ha hs q by rw [hset, if_neg c])]
    exact t S so ss q hq
theorem half_none : Half ls (List.replicate ls.length none) := by
  have hn : ∀ q, ha (List.replicate ls.length (none : Option Nat)) q = none := fun q => by
    unfold ha
    rw [List.getD_eq_getElem?_getD, List.getElem?_replicate]
    split <;> rfl
  exact ⟨⟨by simp, fun p j e => by rw [hn] at e; cases e⟩, fun p j _ e => by rw [hn] at e; cases e⟩
theorem ha_none {n q : Nat} : ha (List.replicate n (none : Option Nat)) q = none := by
  unfold ha
  rw [List.getD_eq_getElem?_getD, List.getElem?_replicate]
  split <;> rfl
theorem most_le (ho : HoldsOk ls hs) {q : Nat} : most ls hs q ≤ (la ls q).length := by
  cases e : ha hs q with
  | none => rw [most_none e]; exact Nat.le_refl _
  | some j =>
    rw [most_some e]
    exact Nat.le_of_lt (List.idxOf_lt_length_of_mem (ho.on q j e).2)
theorem top_none : Top ls (List.replicate ls.length none) := fun S so _ q _ => by
  rw [most_none ha_none]
  exact most_le so
theorem great_of (h : Half ls hs) (t : Top ls hs) (no : ∀ p j, p < ls.length → fst ls hs p = some j → ∃ q, q < ls.length ∧ ha hs q = some p) : Great ls hs := by
  refine ⟨h.ok, ⟨h.a, fun p j hp e => ?_⟩, t⟩
  obtain ⟨q, hq, eq⟩ := no p j hp e
  have := h.a q p hq eq
  rw [e] at this
  rw [Option.some.inj this]
  exact eq
theorem most_inj {h1 h2 : List (Option Nat)} (o1 : HoldsOk ls h1) (o2 : HoldsOk ls h2) {q : Nat} (e : most ls h1 q = most ls h2 q) : ha h1 q = ha h2 q := by
  cases e1 : ha h1 q with
  | none =>
    cases e2 : ha h2 q with
    | none => rfl
    | some j =>
      rw [most_none e1, most_some e2] at e
      have := List.idxOf_lt_length_of_mem (o2.on q j e2).2
      omega
  | some i =>
    cases e2 : ha h2 q with
    | none =>
      rw [most_some e1, most_none e2] at e
      have := List.idxOf_lt_length_of_mem (o1.on q i e1).2
      omega
    | some j =>
      rw [most_some e1, most_some e2] at e
      rw [idx_inj (o1.on q i e1).2 (o2.on q j e2).2 e]
theorem great_one {h1 h2 : List (Option Nat)} (g1 : Great ls h1) (g2 : Great ls h2) : h1 = h2 := by
  apply List.ext_getElem?
  intro q
  by_cases c : q < ls.length
  · rw [ha_get (hs := h1) (by rw [g1.ok.len]; exact c), ha_get (hs := h2) (by rw [g2.ok.len]; exact c)]
    rw [most_inj g1.ok g2.ok (Nat.le_antisymm (g2.top h1 g1.ok g1.st q c) (g1.top h2 g2.ok g2.st q c))]
  · rw [List.getElem?_eq_none (by rw [g1.ok.len]; omega), List.getElem?_eq_none (by rw [g2.ok.len]; omega)]
include ok in
theorem great_go : ∀ (n : Nat) (hs : List (Option Nat)), Half ls hs → Top ls hs → sumM ls hs ≤ n → ∃ g, Great ls g := by
  intro n
  induction n with
  | zero =>
    intro hs h t hn
    by_cases c : ∃ p j, p < ls.length ∧ fst ls hs p = some j ∧ ∀ q, q < ls.length → ha hs q ≠ some p
    · obtain ⟨p, j, hp, e, fr⟩ := c
      have := (ask ok h hp e fr).2
      omega
    · exact ⟨hs, great_of h t fun p j hp e => Classical.byContradiction fun ne => c ⟨p, j, hp, e, fun q hq eq => ne ⟨q, hq, eq⟩⟩⟩
  | succ n ih =>
    intro hs h t hn
    by_cases c : ∃ p j, p < ls.length ∧ fst ls hs p = some j ∧ ∀ q, q < ls.length → ha hs q ≠ some p
    · obtain ⟨p, j, hp, e, fr⟩ := c
      obtain ⟨h1, h2⟩ := ask ok h hp e fr
      exact ih _ h1 (ask_top ok h t hp e) (by omega)
    · exact ⟨hs, great_of h t fun p j hp e => Classical.byContradiction fun ne => c ⟨p, j, hp, e, fun q hq eq => ne ⟨q, hq, eq⟩⟩⟩
include ok in
theorem great_ex : ∃ g, Great ls g := great_go ok _ _ half_none top_none (Nat.le_refl _)
/-! ### lasting partings -/
theorem nxt_bef {row : List Nat} (r : RowOk ls.length row) {p j : Nat} (hp : p < ls.length) : nxt row p = some j ↔ bef row j = some p := by
  rw [bef_iff r.nd]
  have hl : p < row.length := by rw [r.len]; exact hp
  unfold nxt
  rw [List.getD_eq_getElem?_getD, List.getElem?_eq_getElem hl]
  show (if row[p] = p then none else some row[p]) = some j ↔ _
  split
  · rename_i c
    constructor
    · intro e; cases e
    · rintro ⟨e1, e2⟩
      exact absurd ((Option.some.inj e1).symm.trans c).symm e2
  · rename_i c
    constructor
    · intro e
      cases e
      exact ⟨rfl, fun z => c z.symm⟩
    · rintro ⟨e1, e2⟩
      exact e1
include ok in
theorem fst_nxt {row : List Nat} (pr : PRow ls row) (st : Std ls (befs row)) {p : Nat} (hp : p < ls.length) : fst ls (befs row) p = nxt row p := by
  have ho := befs_ok ok pr
  refine opt_ext fun x => ?_
  constructor
  · intro e
    have h1 := st.b p x hp e
    have xl : x < ls.length := (ho.on x p h1).1
    rw [befs_get (by rw [pr.ok.len]; exact xl)] at h1
    exact (nxt_bef pr.ok hp).mpr h1
  · intro e
    have h1 := (nxt_bef pr.ok hp).mp e
    obtain ⟨h2, h3⟩ := (bef_iff pr.ok.nd).mp h1
    have xl : x < ls.length := pr.ok.lt x (List.mem_of_getElem? h2)
    refine st.a x p xl ?_
    rw [befs_get (by rw [pr.ok.len]; exact xl)]
    exact h1
include ok in
theorem firsts_nxt {row : List Nat} (pr : PRow ls row) (st : Std ls (befs row)) : firsts ls (befs row) = nxts row := by
  apply List.ext_getElem?
  intro p
  by_cases c : p < ls.length
  · rw [ha_get (hs := firsts ls (befs row)) (by rw [firsts_len]; exact c), ha_get (hs := nxts row) (by simp [nxts, pr.ok.len]; exact c), ha_firsts c, nxts_get (by rw [pr.ok.len]; exact c), fst_nxt ok pr st c]
  · rw [List.getElem?_eq_none (by rw [firsts_len]; omega), List.getElem?_eq_none (by simp [nxts, pr.ok.len]; omega)]
include ok in
theorem held_is {p o : Nat} (ho : HoldsOk ls hs) (h : o ∈ la ls p) (e : (la ls p).idxOf o = most ls hs p) : ha hs p = some o := by
  cases ek : ha hs p with
  | none =>
    rw [most_none ek] at e
    have := List.idxOf_lt_length_of_mem h
    omega
  | some k =>
    rw [most_some ek] at e
    rw [idx_inj h (ho.on p k ek).2 e]
include ok in
theorem lasts_iff {row : List Nat} (hr : row ∈ parts ls ls.length) : Fits ls row (befs row) ↔ Fits ls row (nxts row) ∧ ∀ p, p < ls.length → (leftL ls (befs row) p).length ≤ 2 := by
  have pr := parts_row_ok ok hr
  have ho := befs_ok ok pr
  constructor
  · intro ft
    refine ⟨fun p hp => ⟨(ft p hp).1, fun o om ⟨h1, h2⟩ => (ft p hp).2 o om ⟨?_, h2⟩⟩, fun p hp => ?_⟩
    · have := (ft p hp).1
      omega
    · have all : ∀ o ∈ leftL ls (befs row) p, o ∈ (ha (befs row) p).toList ++ (nxt row p).toList := fun o hom => by
        obtain ⟨m1, m2, m3⟩ := (mem_left ok hp).mp hom
        obtain ⟨o1, o2, o3⟩ := ok.mate hp m1
        rw [List.mem_append]
        by_cases c : (la ls p).idxOf o = most ls (befs row) p
        · rw [held_is ok ho m1 c]
          exact .inl (by simp)
        · by_cases d : (la ls o).idxOf p = most ls (befs row) o
          · have := held_is ok ho o3 d
            rw [befs_get (by rw [pr.ok.len]; exact o1)] at this
            rw [(nxt_bef pr.ok hp).mpr this]
            exact .inr (by simp)
          · exact absurd ⟨by omega, by omega⟩ ((ft p hp).2 o m1)
      have := nodup_sub_len (left_nd (hs := befs row) ok hp) all
      rw [List.length_append] at this
      have h1 : ∀ x : Option Nat, x.toList.length ≤ 1 := fun x => by cases x <;> simp
      have := h1 (ha (befs row) p)
      have := h1 (nxt row p)
      omega
  · rintro ⟨ft, two⟩ p hp
    refine ⟨(ft p hp).1, fun o om ⟨h1, h2⟩ => ?_⟩
    have st := fits_std ok hr ft
    obtain ⟨o1, o2, o3⟩ := ok.mate hp om
    have hom : o ∈ leftL ls (befs row) p := (mem_left ok hp).mpr ⟨om, by omega, by omega⟩
    cases eb : ha (befs row) p with
    | none => exact (std_held ok ho st hp).mpr (List.ne_nil_of_mem hom) eb
    | some b =>
      have bl := (ok.mate hp (ho.on p b eb).2).1
      have bm := (left_sym ok bl (fst_mem (st.a p b hp eb))).2
      have nb : o ≠ b := fun z => by rw [most_some eb, z] at h1; omega
      cases ef : fst ls (befs row) p with
      | none => rw [fst_none.mp ef] at hom; cases hom
      | some f =>
        have fm := fst_mem ef
        have hf := st.b p f hp ef
        have nf : o ≠ f := fun z => by
          rw [z, most_some hf] at h2
          omega
        by_cases c : f = b
        · subst c
          have i1 := fst_min ok hp ef hom
          rw [most_some eb] at h1
          omega
        · have := nodup_sub_len (s := [o, b, f]) (t := leftL ls (befs row) p) (by simp [nb, nf]; exact fun z => c z.symm) fun x hx => by
            simp only [List.mem_cons, List.not_mem_nil, or_false] at hx
            rcases hx with rfl | rfl | rfl
            · exact hom
            · exact bm
            · exact fm
          have h2 := two p hp
          simp at this
          omega
include ok in
theorem lasting_ex : ∃ row, row ∈ parts ls ls.length ∧ Fits ls row (befs row) := by
  obtain ⟨g, G⟩ := great_ex ok
  obtain ⟨S, so, ss, _, two⟩ := two_ex ok _ g G.ok G.st (Nat.le_refl _)
  have hr := row_parts ok so ss
  refine ⟨rowOf ls S, hr, (lasts_iff ok hr).mpr ⟨std_fits ok so ss, ?_⟩⟩
  have e : befs (rowOf ls S) = S := by
    apply List.ext_getElem?
    intro j
    by_cases c : j < ls.length
    · rw [ha_get (hs := befs (rowOf ls S)) (by simp [befs, rowOf_len]; exact c), ha_get (by rw [so.len]; exact c), befs_get (by rw [rowOf_len]; exact c), row_bef ok so ss c]
    · rw [List.getElem?_eq_none (by simp [befs, rowOf_len]; omega), List.getElem?_eq_none (by rw [so.len]; omega)]
  rw [e]
  exact two
include ok in
/-- the same persons hold in all steady holds -/
theorem single_same {g : List (Option Nat)} (G : Great ls g) (ho : HoldsOk ls hs) (st : Std ls hs) {p : Nat} (hp : p < ls.length) : leftL ls hs p = [] ↔ leftL ls g p = [] := by
  constructor
  · intro h
    refine Classical.byContradiction fun c => ?_
    have h1 := (std_held ok G.ok G.st hp).mpr c
    have h2 : ha hs p = none := Classical.byContradiction fun z => (std_held ok ho st hp).mp z h
    have le := G.top hs ho st p hp
    rw [most_none h2] at le
    cases ek : ha g p with
    | none => exact h1 ek
    | some k =>
      rw [most_some ek] at le
      have := List.idxOf_lt_length_of_mem (G.ok.on p k ek).2
      omega
  · intro h
    refine Classical.byContradiction fun c => ?_
    obtain ⟨o, t, e⟩ := List.exists_cons_of_ne_nil c
    have : o ∈ leftL ls g p := left_le (fun q hq => G.top hs ho st q hq) ok hp (by rw [e]; simp)
    rw [h] at this
    cases this
end
end K14
namespace K14
open PySem PySem.Spec PyProof.Rows L2
/-! ### pairings told by mates, and those that last -/
structure Pairg (ls : List (List Nat)) (mu : List (Option Nat)) : Prop where
  ok : HoldsOk ls mu
  sym : ∀ p j, ha mu p = some j → ha mu j = some p
def Lasts (ls : List (List Nat)) (mu : List (Option Nat)) : Prop := ∀ p, p < ls.length → ∀ o ∈ la ls p, ¬ ((la ls p).idxOf o < most ls mu p ∧ (la ls o).idxOf p < most ls mu o)
section
variable {ls : List (List Nat)} {mu : List (Option Nat)} (ok : ListsOk ls.length ls)
include ok in
theorem pair_left (pg : Pairg ls mu) (la_ : Lasts ls mu) {p o : Nat} (hp : p < ls.length) (h : o ∈ leftL ls mu p) : ha mu p = some o := by
  obtain ⟨m1, m2, m3⟩ := (mem_left ok hp).mp h
  obtain ⟨o1, o2, o3⟩ := ok.mate hp m1
  by_cases c : (la ls p).idxOf o = most ls mu p
  · exact held_is ok pg.ok m1 c
  · by_cases d : (la ls o).idxOf p = most ls mu o
    · exact pg.sym o p (held_is ok pg.ok o3 d)
    · exact absurd ⟨by omega, by omega⟩ (la_ p hp o m1)
include ok in
theorem pair_std (pg : Pairg ls mu) (la_ : Lasts ls mu) : Std ls mu := by
  have inl : ∀ p j, p < ls.length → ha mu p = some j → j ∈ leftL ls mu p := fun p j hp e => by
    have jm := (pg.ok.on p j e).2
    obtain ⟨j1, j2, j3⟩ := ok.mate hp jm
    exact (mem_left ok hp).mpr ⟨jm, by rw [most_some e]; exact Nat.le_refl _, by rw [most_some (pg.sym p j e)]; exact Nat.le_refl _⟩
  refine ⟨fun p j hp e => ?_, fun p j hp e => ?_⟩
  · have j1 := (ok.mate hp (pg.ok.on p j e).2).1
    have hm := inl j p j1 (pg.sym p j e)
    cases ef : fst ls mu j with
    | none => rw [fst_none.mp ef] at hm; cases hm
    | some f =>
      have := pair_left ok pg la_ j1 (fst_mem ef)
      rw [pg.sym p j e] at this
      exact this.symm
  · exact pg.sym p j (pair_left ok pg la_ hp (fst_mem e))
/-- the bounds of a mate in all lasting pairings -/
structure Mid (ls : List (List Nat)) (g mu : List (Option Nat)) (p : Nat) : Prop where
  up : most ls mu p ≤ most ls g p
  single : ha mu p = none ↔ leftL ls g p = []
  low : ∀ f, fst ls g p = some f → (la ls p).idxOf f ≤ most ls mu p
include ok in
theorem mid {g : List (Option Nat)} (G : Great ls g) (pg : Pairg ls mu) (la_ : Lasts ls mu) {p : Nat} (hp : p < ls.length) : Mid ls g mu p := by
  have st := pair_std ok pg la_
  have hs := single_same ok G pg.ok st hp
  have hh := std_held ok pg.ok st hp
  refine ⟨G.top mu pg.ok st p hp, ?_, fun f ef => ?_⟩
  · rw [← hs]
    constructor
    · intro e
      exact Classical.byContradiction fun c => hh.mpr c e
    · intro e
      cases eh : ha mu p with
      | none => rfl
      | some j => exact absurd e (hh.mp (by rw [eh]; exact fun z => by cases z))
  · cases eh : ha mu p with
    | none =>
      rw [most_none eh]
      exact Nat.le_of_lt (List.idxOf_lt_length_of_mem ((mem_left ok hp).mp (fst_mem ef)).1)
    | some j =>
      rw [most_some eh]
      have jm := (pg.ok.on p j eh).2
      have j1 := (ok.mate hp jm).1
      have : j ∈ leftL ls mu p := (left_sym ok j1 (fst_mem (st.a p j hp eh))).2
      exact fst_min ok hp ef (left_le (fun q hq => G.top mu pg.ok st q hq) ok hp this)
/-! ### two sides -/
/-- who is on one's list is on the other side -/
structure Sided (ls : List (List Nat)) (sd : List Nat) : Prop where
  len : sd.length = ls.length
  two : ∀ p, p < ls.length → sd.getD p 0 ≤ 1
  apart : ∀ p o, p < ls.length → o ∈ la ls p → sd.getD o 0 ≠ sd.getD p 0
/-- the persons of a side with their first ones -/
def sideM (ls : List (List Nat)) (g : List (Option Nat)) (sd : List Nat) (s : Nat) : List (Option Nat) := (List.range ls.length).map fun p => if sd.getD p 0 = s then fst ls g p else ha g p
theorem sideM_len {g : List (Option Nat)} {sd : List Nat} {s : Nat} : (sideM ls g sd s).length = ls.length := by simp [sideM]
theorem sideM_at {g : List (Option Nat)} {sd : List Nat} {s p : Nat} (hp : p < ls.length) : ha (sideM ls g sd s) p = if sd.getD p 0 = s then fst ls g p else ha g p := by
  unfold ha sideM
  rw [List.getD_eq_getElem?_getD, List.getElem?_map, List.getElem?_range hp]
  rfl
include ok in
theorem side_pair {g : List (Option Nat)} {sd : List Nat} {s : Nat} (G : Great ls g) (S : Sided ls sd) (hs : s ≤ 1) : Pairg ls (sideM ls g sd s) := by
  have at_ : ∀ p j, ha (sideM ls g sd s) p = some j → p < ls.length ∧ (if sd.getD p 0 = s then fst ls g p else ha g p) = some j := fun p j e => by
    have hp : p < ls.length := by
      have := ha_lt e
      rwa [sideM_len] at this
    rw [sideM_at hp] at e
    exact ⟨hp, e⟩
  have on : ∀ p j, ha (sideM ls g sd s) p = some j → p < ls.length ∧ j ∈ la ls p := fun p j e => by
    obtain ⟨hp, e⟩ := at_ p j e
    refine ⟨hp, ?_⟩
    split at e
    · exact ((mem_left ok hp).mp (fst_mem e)).1
    · exact (G.ok.on p j e).2
  refine ⟨⟨sideM_len, on⟩, fun p j e => ?_⟩
  obtain ⟨hp, jm⟩ := on p j e
  obtain ⟨_, e⟩ := at_ p j e
  have j1 := (ok.mate hp jm).1
  have ap := S.apart p j hp jm
  have t1 := S.two p hp
  have t2 := S.two j j1
  rw [sideM_at j1]
  split at e
  · rename_i c
    rw [if_neg (by omega)]
    exact G.st.b p j hp e
  · rename_i c
    rw [if_pos (by omega)]
    exact G.st.a p j hp e
include ok in
theorem side_lasts {g : List (Option Nat)} {sd : List Nat} {s : Nat} (G : Great ls g) (S : Sided ls sd) (hs : s ≤ 1) : Lasts ls (sideM ls g sd s) := by
  -- nobody of the side blocks with one of the other side
  have key : ∀ p o, p < ls.length → o ∈ la ls p → sd.getD p 0 = s → (la ls p).idxOf o < most ls (sideM ls g sd s) p → (la ls o).idxOf p < most ls (sideM ls g sd s) o → False := by
    intro p o hp om sp h1 h2
    obtain ⟨o1, o2, o3⟩ := ok.mate hp om
    have ap := S.apart p o hp om
    have mo : most ls (sideM ls g sd s) o = most ls g o := most_eq (by rw [sideM_at o1, if_neg (by omega)])
    rw [mo] at h2
    have ep : ha (sideM ls g sd s) p = fst ls g p := by rw [sideM_at hp, if_pos sp]
    have bound : (la ls p).idxOf o ≤ most ls g p := by
      cases ef : fst ls g p with
      | none =>
        have : ha g p = none := Classical.byContradiction fun c => (std_held ok G.ok G.st hp).mp c (fst_none.mp ef)
        rw [most_none this]
        exact Nat.le_of_lt (List.idxOf_lt_length_of_mem om)
      | some f =>
        rw [ef] at ep
        rw [most_some ep] at h1
        have := ((mem_left ok hp).mp (fst_mem ef)).2.1
        omega
    have hom : o ∈ leftL ls g p := (mem_left ok hp).mpr ⟨om, bound, by omega⟩
    cases ef : fst ls g p with
    | none => rw [fst_none.mp ef] at hom; cases hom
    | some f =>
      rw [ef] at ep
      rw [most_some ep] at h1
      have := fst_min ok hp ef hom
      omega
  intro p hp o om ⟨h1, h2⟩
  obtain ⟨o1, o2, o3⟩ := ok.mate hp om
  have ap := S.apart p o hp om
  have t1 := S.two p hp
  have t2 := S.two o o1
  by_cases c : sd.getD p 0 = s
  · exact key p o hp om c h1 h2
  · exact key o p o1 o3 (by omega) h2 h1
include ok in
/-- for the side it is the best of all, for the other side the worst -/
theorem side_best {g : List (Option Nat)} {sd : List Nat} {s : Nat} (G : Great ls g) (S : Sided ls sd) (hs : s ≤ 1) (pg : Pairg ls mu) (la_ : Lasts ls mu) {p : Nat} (hp : p < ls.length) :
    if sd.getD p 0 = s then most ls (sideM ls g sd s) p ≤ most ls mu p else most ls mu p ≤ most ls (sideM ls g sd s) p := by
  have M := mid ok G pg la_ hp
  split
  · rename_i c
    have ep : ha (sideM ls g sd s) p = fst ls g p := by rw [sideM_at hp, if_pos c]
    cases ef : fst ls g p with
    | none =>
      rw [ef] at ep
      have : ha mu p = none := M.single.mpr (fst_none.mp ef)
      rw [most_none ep, most_none this]
      exact Nat.le_refl _
    | some f =>
      rw [ef] at ep
      rw [most_some ep]
      exact M.low f ef
  · rename_i c
    have ep : ha (sideM ls g sd s) p = ha g p := by rw [sideM_at hp, if_neg c]
    rw [most_eq ep]
    exact M.up
end
end K14
namespace K14
open PySem PySem.Spec PyProof.Rows L2
/-! ### asking with those who wait in a row -/
structure AO (ls : List (List Nat)) (hs : List (Option Nat)) (ws : List Nat) : Prop where
  half : Half ls hs
  top : Top ls hs
  nd : ws.Nodup
  fr : ∀ p ∈ ws, p < ls.length ∧ ∀ q, q < ls.length → ha hs q ≠ some p
  done : ∀ p, p < ls.length → p ∉ ws → (∀ q, q < ls.length → ha hs q ≠ some p) → fst ls hs p = none
section
variable {ls : List (List Nat)} {hs : List (Option Nat)} (ok : ListsOk ls.length ls)
theorem ao_start : AO ls (List.replicate ls.length none) (List.range ls.length) :=
  ⟨half_none, top_none, List.nodup_range, fun p hp => ⟨List.mem_range.mp hp, fun q _ e => by rw [ha_none] at e; cases e⟩, fun p hp h => absurd (List.mem_range.mpr hp) h⟩
theorem ao_pop {us : List Nat} {p : Nat} (a : AO ls hs (us ++ [p])) (e : fst ls hs p = none) : AO ls hs us := by
  refine ⟨a.half, a.top, (List.nodup_append.mp a.nd).1, fun x hx => a.fr x (by simp [hx]), fun x hx hn hf => ?_⟩
  by_cases c : x = p
  · rw [c]; exact e
  · exact a.done x hx (by simp [hn, c]) hf
include ok in
theorem ao_ask {us : List Nat} {p j : Nat} (a : AO ls hs (us ++ [p])) (e : fst ls hs p = some j) :
    AO ls (hs.set j (some p)) (us ++ (ha hs j).toList) ∧ sumM ls (hs.set j (some p)) < sumM ls hs := by
  obtain ⟨hp, free⟩ := a.fr p (by simp)
  obtain ⟨h1, h2⟩ := ask ok a.half hp e free
  have jm := fst_mem e
  obtain ⟨m1, m2, m3⟩ := (mem_left ok hp).mp jm
  obtain ⟨j1, j2, j3⟩ := ok.mate hp m1
  have jl : j < hs.length := by rw [a.half.ok.len]; exact j1
  have hset := fun q => ha_set (hs := hs) (j := j) (p := p) (q := q) jl
  have le : ∀ q, q < ls.length → most ls (hs.set j (some p)) q ≤ most ls hs q := fun q _ => by
    by_cases c : q = j
    · subst c
      rw [most_some (show ha (hs.set q (some p)) q = some p by rw [hset, if_pos rfl])]
      exact m3
    · rw [most_eq (show ha (hs.set j (some p)) q = ha hs q by rw [hset, if_neg c])]
      exact Nat.le_refl _
  have nd := List.nodup_append.mp a.nd
  have one : ∀ q, ha hs j = some q → q < ls.length ∧ q ≠ p ∧ ∀ k, k < ls.length → ha hs k = some q → k = j := fun q eq => by
    refine ⟨(ok.mate j1 (a.half.ok.on j q eq).2).1, fun z => free j j1 (by rw [← z]; exact eq), fun k hk ek => ?_⟩
    have f1 := a.half.a j q j1 eq
    have f2 := a.half.a k q hk ek
    rw [f1] at f2
    exact (Option.some.inj f2).symm
  refine ⟨⟨h1, ask_top ok a.half a.top hp e, ?_, ?_, ?_⟩, h2⟩
  · cases eq : ha hs j with
    | none => simpa using nd.1
    | some q =>
      rw [List.nodup_append]
      refine ⟨nd.1, by simp, fun x hx y hy z => ?_⟩
      have hy' : y = q := by simpa using hy
      subst hy'
      subst z
      exact (a.fr x (by simp [hx])).2 j j1 eq
  · intro x hx
    rcases List.mem_append.mp hx with hx | hx
    · have f := a.fr x (by simp [hx])
      refine ⟨f.1, fun q hq z => ?_⟩
      rw [hset] at z
      by_cases c : q = j
      · rw [if_pos c] at z
        cases z
        exact nd.2.2 p hx p (by simp) rfl
      · rw [if_neg c] at z
        exact f.2 q hq z
    · cases eq : ha hs j with
      | none => rw [eq] at hx; simp at hx
      | some y =>
        rw [eq] at hx
        have hx' : x = y := by simpa using hx
        subst hx'
        obtain ⟨b1, b2, b3⟩ := one x eq
        refine ⟨b1, fun q hq z => ?_⟩
        rw [hset] at z
        by_cases c : q = j
        · rw [if_pos c] at z
          exact b2 (Option.some.inj z).symm
        · rw [if_neg c] at z
          exact c (b3 q hq z)
  · intro x hx hn hf
    have xp : x ≠ p := fun z => hf j j1 (by rw [hset, if_pos rfl, z])
    have hf' : ∀ q, q < ls.length → ha hs q ≠ some x := fun q hq z => by
      by_cases c : q = j
      · subst c
        exact hn (by rw [z]; simp)
      · exact hf q hq (by rw [hset, if_neg c]; exact z)
    have hn' : x ∉ us ++ [p] := fun z => by
      rcases List.mem_append.mp z with z | z
      · exact hn (by simp [z])
      · exact xp (by simpa using z)
    have f0 := a.done x hx hn' hf'
    cases ef : fst ls (hs.set j (some p)) x with
    | none => rfl
    | some k =>
      have := left_le le ok hx (fst_mem ef)
      rw [fst_none.mp f0] at this
      cases this
theorem ao_end (a : AO ls hs []) : Great ls hs := great_of a.half a.top fun p j hp e => Classical.byContradiction fun c => by
  have := a.done p hp (by simp) fun q hq z => c ⟨q, hq, z⟩
  rw [e] at this
  cases this
end
end K14
namespace K14
open PySem PySem.Spec PyProof.Rows L2
/-! ### defs that ask repr of data: their promise, where no repr is under way -/
def RunG (P : Program) (w : World) (K : PySem.W.Frag) (mg : Str → Option Value) (base : Heap) (k : Nat) (f : Addr) (fd : FuncData) (ps : List Str) (sp : Sp) : Prop :=
  ∀ (A : Around) (outer : List Env) (s : Shared) (H : Hp) (args : Args) (us : List Value) (vs : List V) (Q : VK) (E : XK), A.guards = some [] → Room k A → Env0 P w K mg base A outer s H →
    BindsTo s fd args (ps.zip us) → Vals vs us → sp vs H Q E → codeAny (model P w) A (.call (.ref f) args) (CR CX0 outer P w H s Q E) s
theorem call_repr {X : Cx} (hg : X.A.guards = some []) (hu : X.A.units + 64 < cLine) :
    CallR X (.builtin "repr") (fun xs H Q => ∃ a d, xs = [.ref a] ∧ Dp X.K H (.ref a) d ∧ d.showable = true ∧ d.hasDict = false ∧ d.depth ≤ 60 ∧ d.shown.length ≤ sizeLine ∧ Q (.str d.shown) H) := by
  intro pins s σ H xs us Q I r h
  obtain ⟨a, d, rfl, hd, hs, hn, hz, hl, q⟩ := h
  obtain ⟨u, rfl, ru⟩ := vals1 r
  obtain ⟨as, rd⟩ := Dp.reads I d _ _ hd ru
  cases ru
  exact repr_of_reads' rd hs (PyData.noDict_hsm hn) hg (by omega) (fun _ _ e => e) (fun h' t tk keep => ⟨.str d.shown, H, I.kept keep, ⟨t, rfl⟩, q⟩) hl
section
variable {P : Program} {w : World} {K : PySem.W.Frag} {mg : Str → Option Value} {base : Heap}
theorem okG {x qual : Str} {st : Stmt} {f : Addr} {fd : FuncData} {N ps : List Str} {k : Nat} {sp : Sp} (F : Fun K x qual st f fd) (S : FnScope N ps (defScope st)) (len : ∀ vs H Q E, sp vs H Q E → vs.length = ps.length)
    (body : ∀ (cdv : Value) (A : Around) (outer : List Env) (s : Shared) (H : Hp) (vs : List V) (Q : VK) (E : XK), A.guards = some [] → Room k (A.deeper (envOfC qual (defScope st) s.heap.objs.size f cdv)) → sp vs H Q E →
      ∃ t, PSs (cxOf CX0 P w K mg base N qual (defScope st) f cdv A outer s H E).nox (defBody st) t ∧ t { nx := fun _ H' => Q .non H', rt := Q } (start N vs) H) : RunG P w K mg base (k + 1) f fd ps sp := by
  obtain ⟨oc, od, kV, doc, pm, an, cdv, ct, osl, rfl, lk, hcd⟩ := F.ex
  intro A outer s H args us vs Q E hA room e0 bind rel promise
  have KX := e0.mod.kin.keeps (h' := s.heap) fun b o e => (e0.bs b o e).1
  have lim := e0.mod.nolimit.keeps (h' := s.heap) fun b o e => (e0.bs b o e).1
  have kinds : ∀ y ∈ ps.zip us, (defScope st).names.lookup y.1 = some .local ∨ ((defScope st).names.lookup y.1 = some .cell ∧ ((cellsFrom (s.heap.objs.size + 1) (defScope st).names []).lookup y.1).isSome = true) := by
    intro y hy
    cases S.par y.1 (List.of_mem_zip (show (y.1, y.2) ∈ ps.zip us from hy)).1 with
    | inl q => exact .inl q
    | inr q => exact .inr ⟨q, PySem.W.cellsFrom_some _ _ _ (.inl q)⟩
  apply codeAny_call_function room.depth (KX _ _ lk) rfl S.co S.gen rfl (PySem.W.codeRec_of KX hcd) (bind _ _ _ _ _)
  apply wpAny_newFunctionEnv_cells S.kind kinds
  intro env he s1 x
  subst he
  obtain ⟨t, ht, hq⟩ := body cdv A outer s H vs Q E hA (room.deeper _) promise
  have I := inv_start (CX := CX0) (E := E) S room.hd e0 (len _ _ _ _ promise) rel x
  refine ⟨lim.keeps x.toInCall.keep, codeAny_func (wpAny_mono (ht.nox.run [] s1 (start N vs) H _ I hq) ?_ (fun _ _ z => z))⟩
  intro fl s' z
  cases fl with
  | ret u => exact let ⟨v, _, H', J, rv, q⟩ := z; ⟨v, H', J.os, J.bare, J.base, J.hok, rv, q⟩
  | next => exact let ⟨_, H', J, q⟩ := z; ⟨V.non, H', J.os, J.bare, J.base, J.hok, rfl, q⟩
  | brk => exact let ⟨_, _, _, q⟩ := z; q.elim
  | cont => exact let ⟨_, _, _, q⟩ := z; q.elim
end
section
variable {P : Program} {w : World} {K : PySem.W.Frag} {mg mb : Str → Option Value} {s₁ : Shared} {a : Addr} {vs : List Value} {H : Hp}
/-- the call of the law: nothing is tracked but the script at a -/
theorem env_law (KX : K.In s₁.heap) (hns : s₁.heap.Ns mainGlobals mg) (hb : s₁.heap.Ns builtinsNs mb) (hbb : ∀ x : Str, x ≠ "__name__" → mb x = bootBuiltins x) (hlim : s₁.heap.NoLimit) (hg : s₁.gens = #[])
    (ha : s₁.heap.get? a = some { cls := .type "list", data := .seq vs.toArray }) (hok : HOk P w H s₁.heap) (one : ∀ b u, H b = some u → b = a) (apart : ∀ u, H a = some u → K.lookup a = none) :
    K.In (hidT s₁.heap H) ∧ (hidT s₁.heap H).Ns mainGlobals mg ∧ Env0 P w K mg (hidT s₁.heap H) callerA [] s₁ H := by
  have free : ∀ b, b ≠ a → H b = none := by
    intro b n
    cases e : H b with
    | none => rfl
    | some u => exact (n (one b u e)).elim
  have low : ∀ {b : Addr} {o : Obj}, s₁.heap.get? b = some o → b ≠ a → (hidT s₁.heap H).get? b = some o := fun e n => hidT_get e (free _ n)
  have ns : ∀ {b : Addr} {m : Str → Option Value}, s₁.heap.Ns b m → (hidT s₁.heap H).Ns b m := by
    rintro b m ⟨o, es, ep, e, d, r⟩
    refine ⟨o, es, ep, low e ?_, d, r⟩
    intro z
    rw [z, ha] at e
    cases e
    cases d
  have kin : K.In (hidT s₁.heap H) := by
    intro b o e
    by_cases n : b = a
    · subst n
      cases q : H b with
      | none => exact hidT_get (KX _ _ e) q
      | some u =>
        have z := apart u q
        rw [z] at e
        cases e
    · exact low (KX _ _ e) n
  obtain ⟨mc, l1, l2⟩ := hlim
  exact ⟨kin, ns hns, ⟨rfl, ⟨kin, ns hns, ⟨mb, ns hb, hbb⟩, ⟨mc, ns l1, l2⟩⟩, fun b o e => of_hidT e, Nat.le_of_eq (hidT_size _ _), trivial, (fun b z => nomatch z), hok, .of_eq hg⟩⟩
theorem run_law {k : Nat} {fa : Addr} {fd : FuncData} {x : Str} {sp : Sp} (env : Env0 P w K mg (hidT s₁.heap H) callerA [] s₁ H) (F : RunG P w K mg (hidT s₁.heap H) k fa fd [x] sp) (hr : Room k callerA)
    (hbind : ∀ (s : Shared) (u : Value), BindsTo s fd ⟨[u], []⟩ [(x, u)]) (hO : Only H) (hok : HOk P w H s₁.heap) (hsp : sp [.ref a] H (fun v _ => v = .bl true) fun _ _ _ => False) :
    codeAny (model P w) callerA (.call (.ref fa) ⟨[.ref a], []⟩) (fun r s' => r = .ok (.ret (.bool true)) ∧ OldK s₁.heap s'.heap ∧ s'.os = s₁.os ∧ AllBare s'.gens) s₁ := by
  have run := F callerA [] s₁ H ⟨[.ref a], []⟩ [.ref a] [.ref a] _ _ rfl hr env (hbind s₁ (.ref a)) (.cons rfl .nil) hsp
  refine codeAny_mono run ?_
  intro r s' h
  match r, h with
  | .ok (.ret u), h =>
    obtain ⟨v, H', os, bare, un, hok', r', q⟩ := h
    have q2 : v = V.bl true := q
    subst q2
    obtain rfl : u = Value.bool true := r'
    refine ⟨rfl, OldK.of_keep ?_, os, bare⟩
    intro b o e
    cases q : H b with
    | none => exact un.keep b o e q (fun z => nomatch z) (fun z => nomatch z)
    | some u =>
      rcases hO b with z | ⟨ob, xs, z⟩
      · rw [q] at z
        cases z
      · have e1 := (hok b _ z).1
        have e2 := (hok' b _ (un.frzs b ob _ z)).1
        rw [e] at e1
        cases e1
        exact e2
end
/-- the goal behind k_head, from such a promise of the law -/
theorem walkG {l : PySem.W.OpenLaw} {n k : Nat} {q : Program} {loose : List Str} {XP : (Str → Option Value) → Heap → Prop} {YP : World → Heap → Prop} {d : DefRec} {K : Params → PySem.W.Frag} {sp : PySem.W.Frag → Sp} {x : Str}
    (hn : l.most = some n) (hn2 : n ≤ sizeLine) (hdf : d.params.defaults = []) (hr : Room k callerA) (hY : ∀ (w : World) (h : Heap), YP w h → (K w.params).In h)
    (F : ∀ (w : World) (mg : Str → Option Value) (fa : Addr) (h : Heap), (K w.params).In h → h.Ns mainGlobals mg → mg d.name = some (.ref fa) →
      ∃ fd : FuncData, (∀ (s : Shared) (u : Value), BindsTo s fd ⟨[u], []⟩ [(x, u)]) ∧ ∀ base : Heap, (K w.params).In base → base.Ns mainGlobals mg → RunG l.prog w (K w.params) mg base k fa fd [x] (sp (K w.params)))
    (hsp : ∀ (K : PySem.W.Frag) (H : Hp) (a : Addr) (ns : List Int), ns.length ≤ n → SqL K H a (ns.map V.int) → sp K [.ref a] H (fun v _ => v = .bl true) fun _ _ _ => False) :
    PySem.W.WalkO q loose XP YP l.row.toRowW d [] (fun f vs => PySem.call f vs) := by
  apply Att.attach_call hn hdf
  intro w s₀ s₁ mg mb fa o pm cd doc a vs ns G Y ho hd hcd hmg hobj hints hlen hg
  have KX := hY w _ Y
  obtain ⟨fd, hb, hF⟩ := F w mg fa _ KX G.T.g hmg
  have rel := vals_ints hints
  have hz : (ns.map V.int).length ≤ sizeLine := by rw [List.length_map]; exact Nat.le_trans hlen hn2
  cases hk : (K w.params).lookup a with
  | some o' =>
    have e := KX a o' hk
    rw [hobj] at e
    cases e
    have ok0 : HOk l.prog w (fun _ => none) s₁.heap := fun b u z => nomatch z
    obtain ⟨k1, k2, k3⟩ := env_law (P := l.prog) (w := w) (H := fun _ => none) KX G.T.g G.T.b G.T.builtins G.T.nolimit hg hobj ok0 (fun b u z => nomatch z) (fun u z => nomatch z)
    refine run_law k3 (hF _ k1 k2) hr hb (fun b => .inl rfl) ok0 (hsp _ _ a ns hlen ?_)
    exact .inr ⟨_, vs.toArray, _, hk, rfl, rfl, rfl, by rw [List.size_toArray, ← rel.length]; exact hz, by simpa using rel⟩
  | none =>
    have at_ : (upd (fun _ => none) a (.frz { cls := .type "list", data := .seq vs.toArray } (.lst (ns.map V.int)))) a = some (.frz { cls := .type "list", data := .seq vs.toArray } (.lst (ns.map V.int))) := upd_same
    have off : ∀ b, b ≠ a → (upd (fun _ => none) a (.frz { cls := .type "list", data := .seq vs.toArray } (.lst (ns.map V.int)))) b = none := fun b n => upd_ne n
    generalize upd (fun _ => none) a (.frz { cls := .type "list", data := .seq vs.toArray } (.lst (ns.map V.int))) = H at at_ off
    have only : Only H := by
      intro b
      by_cases n : b = a
      · exact .inr ⟨_, _, by rw [n]; exact at_⟩
      · exact .inl (off b n)
    have ok1 : HOk l.prog w H s₁.heap := by
      intro b u z
      by_cases n : b = a
      · rw [n, at_] at z
        cases z
        rw [n]
        exact ⟨hobj, hz, vs, _, rel, hobj⟩
      · rw [off b n] at z
        cases z
    have one : ∀ b u, H b = some u → b = a := by
      intro b u z
      by_cases n : b = a
      · exact n
      · rw [off b n] at z
        cases z
    obtain ⟨k1, k2, k3⟩ := env_law (P := l.prog) (w := w) (H := H) KX G.T.g G.T.b G.T.builtins G.T.nolimit hg hobj ok1 one (fun u z => hk)
    exact run_law k3 (hF _ k1 k2) hr hb only ok1 (hsp _ _ a ns hlen (.inl (.inr ⟨_, at_⟩)))
/-! ### a def called with all its arguments by keywords -/
section
variable {X : Cx} {CX : CXT} {k : Nat} {f : Addr} {fd : FuncData} {ps ks : List Str} {sp : Sp} {E : XK} {x : Str} {p pos : Pos} {kws : List Keyword} {tk : TA} {g : List Value → List Value → List Value} {gV : List V → List V → List V}
theorem pe_named (F : FnOk X.prog X.w X.K X.mg X.base CX k f fd ps sp) (hr : Room k X.A) (hg : Gl X x) (hm : X.mg x = some (.ref f)) (kp : PySem.W.keepIn X.K (.ref f) = true) (b : KBinds X.K fd ps ks g gV) (hx : Passes CX X E) (hkw : PK X kws tk)
    (h1 : (backToKw pos (keywordEach kws X.env)).all (·.1.isSome) = true := by rfl) (h2 : (backToKw pos (keywordEach kws X.env)).filterMap (·.1) = ks := by rfl) (h3 : (x == ("__debug__" : Str)) = false := by decide)
    (h4 : ((backTo pos (starEach [] X.env)).any (·.1) || (backToKw pos (keywordEach kws X.env)).any (·.1.isNone)) = false := by rfl) :
    PE X (.Call (.Name x p) [] kws pos) (tCallK sp gV E tNil tk) := by
  constructor
  intro pins s σ H Q I h
  apply wpAny_Call_Name_kw (ld_glob I hg hm _ h3)
  apply PySem.W.callWith_KW0 (h₀ := X.base) I.ok.mod.kin kp h1 _ h4
  refine thn (hkw.run pos pins s σ H _ I h) ?_
  rintro ws s2 ⟨zs, H2, I2, rz, q2⟩
  refine ⟨I2.kIn, ?_⟩
  rw [h2]
  exact run_fnk (us := []) (vs := []) F hr b hx I2 .nil rz q2
end

/-! ### calls of defs that ask repr of data -/
theorem call_repr_bl {X : Cx} : CallR X (.builtin "repr") (fun xs H Q => ∃ b, xs = [.bl b] ∧ Q (.str (if b then "True" else "False")) H) := by
  intro pins s σ H xs us Q I r h
  obtain ⟨b, rfl, q⟩ := h
  obtain ⟨u, rfl, ru⟩ := vals1 r
  cases ru
  exact PySem.P.repr_of_bool ⟨.str (if b then "True" else "False"), H, I.tok _, ⟨_, rfl⟩, q⟩
section
variable {X : Cx} {k : Nat} {f : Addr} {fd : FuncData} {ps : List Str} {sp : Sp} {x : Str} {p pos : Pos} {e : Expr} {es : List Expr} {t : TA}
theorem pe_callG (F : RunG X.prog X.w X.K X.mg X.base k f fd ps sp) (len : ∀ vs H Q E, sp vs H Q E → vs.length = ps.length) (hA : X.A.guards = some []) (hr : Room k X.A) (hg : Gl X x) (hm : X.mg x = some (.ref f)) (hk : PySem.W.keepIn X.K (.ref f) = true) (hb : Binds X.K fd ps []) {E : XK} (hx : Passes CX0 X E)
    (ha : PA X (e :: es) t) (hdb : (x == ("__debug__" : Str)) = false := by decide) (he : starEach (e :: es) X.env = (false, eval e X.env) :: starEach es X.env := by rfl) (hpl : (backTo pos (starEach es X.env)).any (·.1) = false := by rfl) :
    PE X (.Call (.Name x p) (e :: es) [] pos) (tCall sp [] E t) := by
  refine ⟨fun pins s σ H Q I h => wpAny_Call_Name_kw (ld_glob I hg hm ?_ hdb)⟩
  refine PySem.W.callWith_K (h₀ := X.base) I.ok.mod.kin hk (thn (ha.run pos pins s σ H _ I h) fun us s1 ⟨vs, H1, I1, r, q⟩ => ⟨I1.kIn, ?_⟩) he hpl
  have r2 : Vals (vs ++ []) (us ++ []) := r.append .nil
  have hl : (us ++ []).length = ps.length := by rw [← r2.length]; exact len _ _ _ _ q
  refine wpAny_call (codeAny_mono (F X.A X.stack s1 H1 ⟨us, []⟩ (us ++ []) (vs ++ []) _ E hA hr I1.env0 (hb s1 us I1.kIn hl) r2 q) fun r s' hq => ?_)
  cases r with
  | error e => exact hx pins σ H1 s1 e s' I1 hq
  | ok fl =>
    cases fl with
    | ret u => exact I1.after hq
    | next => exact False.elim hq
    | brk => exact False.elim hq
    | cont => exact False.elim hq
end
end K14
namespace K14
open PySem PySem.Spec PyProof.Rows L2
theorem vals_rev : ∀ {zs : List V} {ws : List Value}, Vals zs ws → Vals zs.reverse ws.reverse
  | [], _, .nil => .nil
  | z :: zs, _, .cons (b := w) r t => by
    rw [List.reverse_cons, List.reverse_cons]
    exact (vals_rev t).append (.cons r .nil)
/-- a def of two parameters called by keywords, the last one first -/
theorem named2 {K : PySem.W.Frag} {x qual : Str} {st : Stmt} {f : Addr} {fd : FuncData} {n m : Str} (F : Fun K x qual st f fd)
    (h0 : ∀ (kV doc pm : Value) (an : Option Addr) (cdv ct u v : Value), bindArgs (PySem.W.fnOf x qual (defArgs st) (defBody st) (defScope st) .none kV doc pm an cdv ct) ⟨[u, v], []⟩ = pure [(n, u), (m, v)])
    (h1 : ∀ (kV doc pm : Value) (an : Option Addr) (cdv ct u v : Value), bindArgs (PySem.W.fnOf x qual (defArgs st) (defBody st) (defScope st) .none kV doc pm an cdv ct) ⟨[u], [(m, v)]⟩ = pure [(n, u), (m, v)])
    (h2 : ∀ (kV doc pm : Value) (an : Option Addr) (cdv ct u v : Value), bindArgs (PySem.W.fnOf x qual (defArgs st) (defBody st) (defScope st) .none kV doc pm an cdv ct) ⟨[], [(m, v), (n, u)]⟩ = pure [(n, u), (m, v)]) :
    KBinds K fd [n, m] [m, n] (fun us ws => us ++ ws.reverse) (fun vs zs => vs ++ zs.reverse) := by
  obtain ⟨oc, od, kV, doc, pm, an, cdv, ct, osl, rfl, lk, hcd⟩ := F.ex
  refine ⟨fun s us ws _ hl => ?_, fun a b => a.append (vals_rev b)⟩
  have hl' : ws.length + us.length = 2 := by simpa [Nat.add_comm] using hl
  match us, ws, hl' with
  | [u, v], [], _ => exact .of_eq (h0 kV doc pm an cdv ct u v)
  | [u], [v], _ => exact .of_eq (h1 kV doc pm an cdv ct u v)
  | [], [v, u], _ => exact .of_eq (h2 kV doc pm an cdv ct u v)
/-- .. of three parameters -/
theorem named3 {K : PySem.W.Frag} {x qual : Str} {st : Stmt} {f : Addr} {fd : FuncData} {n m o : Str} (F : Fun K x qual st f fd)
    (h0 : ∀ (kV doc pm : Value) (an : Option Addr) (cdv ct u v t : Value), bindArgs (PySem.W.fnOf x qual (defArgs st) (defBody st) (defScope st) .none kV doc pm an cdv ct) ⟨[u, v, t], []⟩ = pure [(n, u), (m, v), (o, t)])
    (h1 : ∀ (kV doc pm : Value) (an : Option Addr) (cdv ct u v t : Value), bindArgs (PySem.W.fnOf x qual (defArgs st) (defBody st) (defScope st) .none kV doc pm an cdv ct) ⟨[u, v], [(o, t)]⟩ = pure [(n, u), (m, v), (o, t)])
    (h2 : ∀ (kV doc pm : Value) (an : Option Addr) (cdv ct u v t : Value), bindArgs (PySem.W.fnOf x qual (defArgs st) (defBody st) (defScope st) .none kV doc pm an cdv ct) ⟨[u], [(o, t), (m, v)]⟩ = pure [(n, u), (m, v), (o, t)])
    (h3 : ∀ (kV doc pm : Value) (an : Option Addr) (cdv ct u v t : Value), bindArgs (PySem.W.fnOf x qual (defArgs st) (defBody st) (defScope st) .none kV doc pm an cdv ct) ⟨[], [(o, t), (m, v), (n, u)]⟩ = pure [(n, u), (m, v), (o, t)]) :
    KBinds K fd [n, m, o] [o, m, n] (fun us ws => us ++ ws.reverse) (fun vs zs => vs ++ zs.reverse) := by
  obtain ⟨oc, od, kV, doc, pm, an, cdv, ct, osl, rfl, lk, hcd⟩ := F.ex
  refine ⟨fun s us ws _ hl => ?_, fun a b => a.append (vals_rev b)⟩
  have hl' : ws.length + us.length = 3 := by simpa [Nat.add_comm] using hl
  match us, ws, hl' with
  | [u, v, t], [], _ => exact .of_eq (h0 kV doc pm an cdv ct u v t)
  | [u, v], [t], _ => exact .of_eq (h1 kV doc pm an cdv ct u v t)
  | [u], [t, v], _ => exact .of_eq (h2 kV doc pm an cdv ct u v t)
  | [], [t, v, u], _ => exact .of_eq (h3 kV doc pm an cdv ct u v t)
theorem left_sub {n : Nat} {ls : List (List Nat)} (ok : ListsOk n ls) (hn : ls.length = n) {h1 h2 : List (Option Nat)} (le : withinB ls h1 h2 = true) {p o : Nat} (hp : p < n) (h : o ∈ leftL ls h1 p) : o ∈ leftL ls h2 p := by
  unfold withinB at le
  rw [List.all_eq_true] at le
  have le' : ∀ q, q < n → most ls h1 q ≤ most ls h2 q := fun q hq => of_decide_eq_true (le q (List.mem_range.mpr (by omega)))
  obtain ⟨m1, m2, m3⟩ := (mem_left ok hp).mp h
  have k1 := (ok.mate hp m1).1
  exact (mem_left ok hp).mpr ⟨m1, Nat.le_trans m2 (le' p hp), Nat.le_trans m3 (le' o k1)⟩
theorem named1 {K : PySem.W.Frag} {x qual : Str} {st : Stmt} {f : Addr} {fd : FuncData} {n : Str} (F : Fun K x qual st f fd)
    (h0 : ∀ (kV doc pm : Value) (an : Option Addr) (cdv ct u : Value), bindArgs (PySem.W.fnOf x qual (defArgs st) (defBody st) (defScope st) .none kV doc pm an cdv ct) ⟨[u], []⟩ = pure [(n, u)])
    (h1 : ∀ (kV doc pm : Value) (an : Option Addr) (cdv ct u : Value), bindArgs (PySem.W.fnOf x qual (defArgs st) (defBody st) (defScope st) .none kV doc pm an cdv ct) ⟨[], [(n, u)]⟩ = pure [(n, u)]) :
    KBinds K fd [n] [n] (fun us ws => us ++ ws) (fun vs zs => vs ++ zs) := by
  obtain ⟨oc, od, kV, doc, pm, an, cdv, ct, osl, rfl, lk, hcd⟩ := F.ex
  refine ⟨fun s us ws _ hl => ?_, fun a b => a.append b⟩
  match us, ws, hl with
  | [u], [], _ => exact .of_eq (h0 kV doc pm an cdv ct u)
  | [], [u], _ => exact .of_eq (h1 kV doc pm an cdv ct u)
end K14
namespace K14
open PySem PySem.Spec PyProof.Rows L2
theorem int_len {n : Nat} (h : n < 2 ^ 20) : (((toString ((n : Nat) : Int) : String) : Str)).length ≤ 20 := by
  have h1 := nat_repr_length_le (n := n) (k := 20) (by decide) h
  rw [PySem.ofString_length]
  exact h1
/-- what repr asks of data -/
structure Rp (d : PyData) : Prop where
  sh : d.showable = true
  nd : d.hasDict = false
  dp : d.depth ≤ 60
  ln : d.shown.length ≤ sizeLine
structure RpI (d : PyData) (m B : Nat) : Prop where
  sh : d.showable = true
  nd : d.hasDict = false
  dp : d.depth ≤ m
  ln : d.shown.length ≤ B
theorem rp_tup {xs : List PyData} {m B : Nat} (h : ∀ x ∈ xs, RpI x m B) : RpI (.tuple xs) (m + 1) ((B + 2) * xs.length + 10) := by
  have all : ∀ xs : List PyData, (∀ x ∈ xs, RpI x m B) → PyData.showableAll xs = true ∧ PyData.hasDictAll xs = false ∧ PyData.depthAll xs ≤ m ∧ piled (PyData.shownAll xs) ≤ (B + 2) * xs.length := by
    intro xs
    induction xs with
    | nil => intro _; exact ⟨by simp [PyData.showableAll], by simp [PyData.hasDictAll], by simp [PyData.depthAll], by simp [PyData.shownAll, piled]⟩
    | cons c r ih =>
      intro h
      obtain ⟨a1, a2, a3, a4⟩ := ih fun x hx => h x (by simp [hx])
      have hc := h c (by simp)
      have h1 := hc.ln
      refine ⟨by simp only [PyData.showableAll, hc.sh, a1, Bool.and_self], by simp only [PyData.hasDictAll, hc.nd, a2, Bool.or_self], ?_, ?_⟩
      · simp only [PyData.depthAll]
        have := hc.dp
        omega
      · rw [PyData.shownAll, piled_cons, List.length_cons, Nat.mul_succ]
        omega
  obtain ⟨a1, a2, a3, a4⟩ := all xs h
  refine ⟨by simp only [PyData.showable]; exact a1, by simp only [PyData.hasDict]; exact a2, by simp only [PyData.depth]; omega, ?_⟩
  have e : (PyData.tuple xs).shown = tupleText (PyData.shownAll xs) := by simp only [PyData.shown]
  rw [e]
  have h1 := fmt_text (PyData.shownAll xs)
  omega
theorem rp_int {n : Nat} (h : n < 2 ^ 20) : RpI (.int (n : Nat)) 0 20 := by
  have lg : (n : Int).natAbs.log2 < 1920 := by
    rw [Int.natAbs_natCast]
    by_cases h0 : n = 0
    · subst h0; decide
    · have := (Nat.log2_lt h0).mpr h
      omega
  exact ⟨by simp only [PyData.showable, decide_eq_true lg], by simp only [PyData.hasDict], by simp only [PyData.depth]; omega, by simp only [PyData.shown]; exact int_len h⟩
theorem rp_none : RpI .none 0 20 := ⟨by simp only [PyData.showable], by simp only [PyData.hasDict], by simp only [PyData.depth]; omega, by simp only [PyData.shown]; decide⟩
theorem rp_dI {s : List Nat} (l : s.length ≤ 60) (h : ∀ j ∈ s, j < 60) : RpI (dI s) 1 2000 := by
  have := rp_tup (xs := s.map fun j => PyData.int (j : Nat)) (m := 0) (B := 20) fun x hx => by
    obtain ⟨j, hj, rfl⟩ := List.mem_map.mp hx
    exact rp_int (Nat.lt_of_lt_of_le (h j hj) (by decide))
  refine ⟨this.sh, this.nd, this.dp, Nat.le_trans this.ln ?_⟩
  rw [List.length_map]
  omega
theorem rp_dL {ls : List (List Nat)} (l : ls.length ≤ 60) (h : ∀ s ∈ ls, s.length ≤ 60 ∧ ∀ j ∈ s, j < 60) : Rp (dL ls) := by
  have := rp_tup (xs := ls.map dI) (m := 1) (B := 2000) fun x hx => by
    obtain ⟨s, hs, rfl⟩ := List.mem_map.mp hx
    exact rp_dI (h s hs).1 (h s hs).2
  refine ⟨this.sh, this.nd, Nat.le_trans this.dp (by decide), Nat.le_trans this.ln ?_⟩
  rw [List.length_map]
  exact Nat.le_trans (m := 200000) (by omega) (by decide)
theorem rp_dH {hs : List (Option Nat)} (l : hs.length ≤ 60) (h : ∀ j, some j ∈ hs → j < 60) : Rp (dH hs) := by
  have := rp_tup (xs := hs.map fun o => match o with | none => PyData.none | some j => .int (j : Nat)) (m := 0) (B := 20) fun x hx => by
    obtain ⟨o, ho, rfl⟩ := List.mem_map.mp hx
    cases o with
    | none => exact rp_none
    | some j => exact rp_int (Nat.lt_of_lt_of_le (h j ho) (by decide))
  refine ⟨this.sh, this.nd, Nat.le_trans this.dp (by decide), Nat.le_trans this.ln ?_⟩
  rw [List.length_map]
  exact Nat.le_trans (m := 200000) (by omega) (by decide)
end K14
set_option maxHeartbeats 4000000
/-! t * k of a tuple that is not empty, k from 1 on: t * 1 is t -/
namespace K14
open PySem PySem.Spec PyProof.Rows L2
theorem tup_mul1 (l : Addr) (items : Array Value) (n : Nat) (dd : Option Addr) (sl : Array (Option Value)) (u : Tok) :
    Meets (Builtin.«tuple.__mul__» ⟨[.ref l, .int 1 u], []⟩) (fun _ R s => s.heap.get? l = some { cls := .type "tuple", dict := dd, data := .seq items n, slots := sl } ∧ R (.ok (.ret (.ref l))) s) :=
  .of_wp fun prog w A R s h => by
    obtain ⟨hp, g, d, tk, os⟩ := s
    obtain ⟨hl, h⟩ := h
    have f1 := AutoSeq1.idx_int
    have hone : (items.isEmpty || (1 : Int) == 1) = true := by simp
    wp_walk using wpAny_loadPart' hl
    repeat (first
      | (refine wpAny_ite_false (decide_eq_false (by decide)) ?_; wp_walk using wpAny_loadPart' hl)
      | (refine wpAny_ite_true (by rw [hone]; rfl) ?_; wp_walk using wpAny_loadPart' hl)
      | (refine wpAny_ite_true (decide_eq_true hone) ?_; wp_walk using wpAny_loadPart' hl))
    exact ⟨_, rfl, h⟩
def rRepA (K : PySem.W.Frag) : R2 := fun x y H Q => (∃ l xs, x = .ref l ∧ y = .int 1 ∧ SqT K H l xs ∧ Q (.ref l) H) ∨ rRepT K x y H Q
theorem op_repA {X : Cx} : OpR X (binaryOp .Mult) (rRepA X.K) := by
  intro pins st σ H x y v u Q I rx ry h
  rcases h with ⟨l, xs, rfl, rfl, hT, q⟩ | h
  · cases rx
    obtain ⟨t, rfl⟩ := ry
    obtain ⟨its, r, ⟨⟨cls, dd, data, sl⟩, ho, hc, n, hd⟩, hs⟩ := I.tuple hT
    simp only at hc hd
    subst hc hd
    exact wpAny_binaryOp_repeat_ref (T := "tuple") (U := "int") (by decide) ⟨_, ho, rfl⟩ (fun s' => typeIs_int s' 1 t) noFill_tuple_mul F.fills_int_mul F.slot_int_rmul repeat_tuple F.slot_int_index.lookup
      (call_meets F.slot_int_rmul (typeIs_int st 1 t) F.entry_int_rmul (F.args_int_rmul_2 _ _) (int_rmul_tuple 1 t l its.toArray n dd sl)
        ⟨ho, rfl, ⟨_, ho, rfl⟩, call_meets F.slot_tuple_mul ⟨_, ho, rfl⟩ F.entry_tuple_mul (F.args_tuple_mul_2 _ _) (tup_mul1 l its.toArray n dd sl t) ⟨ho, ⟨.ref l, H, I, rfl, q⟩⟩⟩)
  · exact op_repT pins st σ H x y v u Q I rx ry h
end K14
namespace K14
open PySem PySem.Spec PyProof.Rows L2
theorem tupOf_same {H H' : Hp} {v : V} (p : Pl H v) (s : Same H H') : tupOf H' v = tupOf H v := by
  cases p with
  | non => rfl
  | bl b => rfl
  | int i => rfl
  | str z => rfl
  | lst e => simp [tupOf, e, s _ _ e]
  | tup e => simp [tupOf, e, s _ _ e]
theorem pl_VH {H : Hp} {hs : List (Option Nat)} : ∀ x ∈ VH hs, Pl H x := fun x hx => by
  obtain ⟨o, _, rfl⟩ := List.mem_map.mp hx
  cases o with
  | none => exact .non
  | some j => exact .int _
theorem catV {K : PySem.W.Frag} {H : Hp} {a b : Addr} {xs ys : List V} {Q : VK} (ea : H a = some (.tup xs)) (eb : H b = some (.tup ys)) (le : xs.length + ys.length ≤ 1000) (q : ∀ c H', Same H H' → H' c = some (.tup (xs ++ ys)) → Q (.ref c) H') : rCatA K (.ref a) (.ref b) H Q := by
  refine ⟨a, b, xs, ys, rfl, rfl, SqT.of ea, SqT.of eb, sz5 (by omega), fun h => ?_, fun _ h => ?_, fun _ _ p np => q p _ (same_upd np) upd_same⟩
  · subst h
    exact q b H same_rfl eb
  · subst h
    exact q a H same_rfl (by rw [List.append_nil]; exact ea)
theorem leftA_get {ls : List (List Nat)} {hs : List (Option Nat)} {p : Nat} (h : p < ls.length) : (leftA ls hs)[p]? = some (leftL ls hs p) := by
  unfold leftA
  rw [List.getElem?_map, List.getElem?_range h]
  rfl
theorem bstr_eq (b : Bool) : (!decide (V.str (if b then "True" else "False") = V.str (if b then "True" else "False"))) = false := by simp
theorem hv_inj {a b : Option Nat} (e : hv a = hv b) : a = b := by
  cases a with
  | none =>
    cases b with
    | none => rfl
    | some j => cases e
  | some i =>
    cases b with
    | none => cases e
    | some j =>
      have : ((i : Nat) : Int) = (j : Nat) := V.int.inj e
      congr 1
      omega
theorem VH_inj {a b : List (Option Nat)} (e : VH a = VH b) : a = b := by
  unfold VH at e
  exact List.map_inj_right (fun x y h => hv_inj h) |>.mp e
theorem holdsV_ok {H : Hp} {v : V} {ls : List (List Nat)} {hs : List (Option Nat)} (ho : HoldsOk ls hs) (ok : ListsOk ls.length ls) (e : tupOf H v = some (VH hs)) : holdsV H ls v = true := by
  unfold holdsV
  rw [e]
  show (decide ((VH hs).length = ls.length) && _) = true
  rw [Bool.and_eq_true, decide_eq_true_eq, List.all_eq_true]
  refine ⟨by rw [VH_len, ho.len], fun p hp => ?_⟩
  rw [List.mem_range, VH_len] at hp
  have eg : (VH hs).getD p .non = hv (ha hs p) := by
    rw [List.getD_eq_getElem?_getD, VH_get (ha_get hp)]
    rfl
  rw [eg]
  cases eh : ha hs p with
  | none => rfl
  | some j =>
    obtain ⟨h1, h2⟩ := ho.on p j eh
    have h3 := (ok.mate h1 h2).1
    show (decide ((0 : Int) ≤ (j : Nat)) && decide (((j : Nat) : Int) < (ls.length : Nat)) && decide (((j : Nat) : Int).toNat ∈ la ls p)) = true
    simp [h2, h3]
theorem eq_dH (hs : List (Option Nat)) : PyData.eqv (dH hs) (dH hs) = true := by
  refine SeqAt.eqv_refl _ ?_
  have := sh_dH hs
  unfold SeqAt.shaped at this
  rw [Bool.and_eq_true] at this
  exact this.1
def dLi (s : List Nat) : PyData := .list (s.map fun j => .int (j : Nat))
theorem sh_dLi (s : List Nat) : SeqAt.shaped (dLi s) = true := by
  have h := shaped_ints (s.map fun j => ((j : Nat) : Int))
  rw [List.map_map] at h
  exact h
theorem dp_dLi {K : PySem.W.Frag} {H : Hp} {a : Addr} {s : List Nat} (e : H a = some (.lst (VI s))) : Dp K H (.ref a) (dLi s) := by
  refine .lst (SqL.of e) ?_
  unfold VI
  clear e
  induction s with
  | nil => exact .nil
  | cons c r ih => exact .cons (.int _) ih
theorem eq_dLi (s : List Nat) : PyData.eqv (dLi s) (dLi s) = true := by
  refine SeqAt.eqv_refl _ ?_
  have := sh_dLi s
  unfold SeqAt.shaped at this
  rw [Bool.and_eq_true] at this
  exact this.1
theorem tup_its {H : Hp} {u : Addr} {hs : List (Option Nat)} (e : H u = some (.tup (VH hs))) (l : hs.length ≤ 100) : ∀ xs, tupOf H (.ref u) = some xs → xs.length ≤ 1000 ∧ ∀ x ∈ xs, Pl H x := fun xs ex => by
  have tu : tupOf H (.ref u) = some (VH hs) := by simp [tupOf, e]
  rw [tu] at ex
  cases ex
  exact ⟨by rw [VH_len]; omega, fun x hx => pl_VH x hx⟩
theorem holds_yes {H : Hp} {u : Addr} {ls : List (List Nat)} {hs : List (Option Nat)} (e : H u = some (.tup (VH hs))) (ho : HoldsOk ls hs) (ok : ListsOk ls.length ls) : holdsV H ls (.ref u) = true := holdsV_ok ho ok (by simp [tupOf, e])
theorem same_hs {H : Hp} {u : Addr} {hs hs' : List (Option Nat)} (e : H u = some (.tup (VH hs))) (e2 : tupOf H (.ref u) = some (VH hs')) : hs' = hs := by
  have tu : tupOf H (.ref u) = some (VH hs) := by simp [tupOf, e]
  rw [tu] at e2
  exact (VH_inj (Option.some.inj e2)).symm
theorem slC {K : PySem.W.Frag} {H : Hp} {a : Addr} {xs : List V} {lo hi : Option Int} {Q : VK} (ea : H a = some (.tup xs)) (q : ∀ c H', Same H H' → H' c = some (.tup (cutV xs lo hi)) → Q (.ref c) H') : rSlA K (.ref a) lo hi H Q := by
  refine ⟨a, xs, rfl, SqT.of ea, fun h => q a H same_rfl ?_, fun _ p np => q p _ (same_upd np) upd_same⟩
  unfold cutV
  rw [h.1, h.2, List.drop_zero, Nat.sub_zero, List.take_length]
  exact ea
theorem cut_take (xs : List V) (o : Nat) : cutV xs none (some ((o : Nat) : Int)) = xs.take o := by
  unfold cutV
  rw [HT.sIx_none, show HT.sIx xs.length xs.length (some ((o : Nat) : Int)) = min o xs.length from HT.sIx_nat _ _ o, List.drop_zero, Nat.sub_zero]
  by_cases c : o ≤ xs.length
  · rw [Nat.min_eq_left c]
  · rw [Nat.min_eq_right (by omega), List.take_length, List.take_of_length_le (by omega)]
theorem cut_drop (xs : List V) (o : Nat) : cutV xs (some ((o : Nat) + 1 : Int)) none = xs.drop (o + 1) := by
  unfold cutV
  rw [HT.sIx_none, show HT.sIx xs.length 0 (some ((o : Nat) + 1 : Int)) = min (o + 1) xs.length from HT.sIx_nat _ _ (o + 1)]
  by_cases c : o + 1 ≤ xs.length
  · rw [Nat.min_eq_left c, List.take_of_length_le (by simp)]
  · rw [Nat.min_eq_right (by omega), List.drop_eq_nil_of_le (Nat.le_refl _), List.drop_eq_nil_of_le (by omega)]
    simp
theorem set_cut : ∀ (xs : List V) (o : Nat) (v : V), o < xs.length → xs.take o ++ ([v] ++ xs.drop (o + 1)) = xs.set o v
  | [], o, v, h => by simp at h
  | x :: r, 0, v, h => by simp
  | x :: r, o + 1, v, h => by
    have := set_cut r o v (by simpa using h)
    simpa using this
def item (o : Option Nat) : PyData := match o with | none => .none | some j => .int (j : Nat)
theorem item_eqv (a b : Option Nat) : PyData.eqv (item a) (item b) = decide (a = b) := by
  cases a with
  | none =>
    cases b with
    | none => rfl
    | some j => rfl
  | some i =>
    cases b with
    | none => rfl
    | some j =>
      show ((i : Int) == (j : Int)) = _
      by_cases c : i = j
      · subst c; simp
      · rw [decide_eq_false (fun e => c (Option.some.inj e))]
        rw [beq_eq_false_iff_ne]
        omega
theorem eqvAll_items : ∀ (a b : List (Option Nat)), PyData.eqvAll (a.map item) (b.map item) = decide (a = b)
  | [], [] => rfl
  | [], y :: t => rfl
  | x :: s, [] => rfl
  | x :: s, y :: t => by
    simp only [List.map_cons, PyData.eqvAll, item_eqv, eqvAll_items s t]
    by_cases c : x = y
    · subst c
      by_cases d : s = t
      · subst d; simp
      · simp [d]
    · simp [c]
theorem eqv_dH (a b : List (Option Nat)) : PyData.eqv (dH a) (dH b) = decide (a = b) := by
  have := eqvAll_items a b
  show PyData.eqv (.tuple (a.map item)) (.tuple (b.map item)) = _
  simp only [PyData.eqv]
  exact this
def lookL (ls : List (List Nat)) : Bool := (List.range ls.length).all fun i => decide ((la ls i).Nodup) && (la ls i).all fun j => decide (j < ls.length) && decide (j ≠ i) && decide (i ∈ la ls j)
theorem lists_of {ls : List (List Nat)} (h : lookL ls = true) : ListsOk ls.length ls := by
  unfold lookL at h
  rw [List.all_eq_true] at h
  have g : ∀ (i : Nat) (s : List Nat), ls[i]? = some s → i < ls.length ∧ la ls i = s := fun i s e => by
    refine ⟨(List.getElem?_eq_some_iff.mp e).1, ?_⟩
    unfold la
    rw [List.getD_eq_getElem?_getD, e]
    rfl
  refine ⟨rfl, fun i s e => ?_, fun i s j e hj => ?_⟩
  · obtain ⟨hi, es⟩ := g i s e
    have := h i (List.mem_range.mpr hi)
    rw [Bool.and_eq_true, es] at this
    exact of_decide_eq_true this.1
  · obtain ⟨hi, es⟩ := g i s e
    have := h i (List.mem_range.mpr hi)
    rw [Bool.and_eq_true, es, List.all_eq_true] at this
    have z := this.2 j hj
    rw [Bool.and_eq_true, Bool.and_eq_true] at z
    have h1 := of_decide_eq_true z.1.1
    exact ⟨h1, of_decide_eq_true z.1.2, la ls j, la_get h1, of_decide_eq_true z.2⟩
def lookH (ls : List (List Nat)) (hs : List (Option Nat)) : Bool := decide (hs.length = ls.length) && (List.range hs.length).all fun p => match ha hs p with | none => true | some j => decide (j ∈ la ls p)
theorem holds_of {ls : List (List Nat)} {hs : List (Option Nat)} (h : lookH ls hs = true) : HoldsOk ls hs := by
  unfold lookH at h
  rw [Bool.and_eq_true, List.all_eq_true] at h
  have hl := of_decide_eq_true h.1
  refine ⟨hl, fun p j e => ?_⟩
  have hp : p < hs.length := ha_lt e
  have := h.2 p (List.mem_range.mpr hp)
  rw [e] at this
  exact ⟨by omega, of_decide_eq_true this⟩
def lookN (ns : List (List Nat)) : Bool := (ns.all fun s => decide (1 ≤ s.length) && decide (s.length ≤ 6) && s.all fun c => decide (97 ≤ c) && decide (c ≤ 122)) && (List.range ns.length).all fun i => match ns[i]?, ns[i + 1]? with | some s, some t => decide (s < t) | _, _ => true
theorem names_look {ns : List (List Nat)} (h : lookN ns = true) : NamesOk ns.length ns := by
  unfold lookN at h
  rw [Bool.and_eq_true, List.all_eq_true, List.all_eq_true] at h
  refine ⟨rfl, fun s hs => ?_, fun i s t e1 e2 => ?_⟩
  · have := h.1 s hs
    rw [Bool.and_eq_true, Bool.and_eq_true, List.all_eq_true] at this
    refine ⟨of_decide_eq_true this.1.1, of_decide_eq_true this.1.2, fun c hc => ?_⟩
    have z := this.2 c hc
    rw [Bool.and_eq_true] at z
    exact ⟨of_decide_eq_true z.1, of_decide_eq_true z.2⟩
  · have := h.2 i (List.mem_range.mpr (List.getElem?_eq_some_iff.mp e1).1)
    rw [e1, e2] at this
    exact of_decide_eq_true this
theorem repN {K : PySem.W.Frag} {H : Hp} {t : Addr} {m : Nat} {Q : VK} (e : H t = some (.tup [.non])) (h1 : 1 ≤ m) (h2 : m ≤ 1000) (q : ∀ c H', Same H H' → H' c = some (.tup (VH (List.replicate m none))) → Q (.ref c) H') : rRepA K (.ref t) (.int (m : Nat)) H Q := by
  by_cases c : m = 1
  · subst c
    exact .inl ⟨t, [.non], rfl, rfl, SqT.of e, q t H same_rfl e⟩
  · refine .inr ⟨t, (m : Int), [.non], rfl, rfl, SqT.of e, by simp, by omega, by omega, by simp, fun p np => q p _ (same_upd np) ?_⟩
    rw [upd_same]
    congr 2
    rw [Int.toNat_natCast]
    unfold VH
    rw [List.map_replicate]
    clear c h1 h2 q
    induction m with
    | zero => rfl
    | succ n ih => rw [List.replicate_succ, List.flatten_cons, ih, List.replicate_succ]; rfl
theorem none_ok {ls : List (List Nat)} {m : Nat} (h : ls.length = m) : HoldsOk ls (List.replicate m none) := by
  refine ⟨by simp [h], fun p j e => ?_⟩
  unfold ha at e
  rw [List.getD_eq_getElem?_getD, List.getElem?_replicate] at e
  split at e <;> cases e
theorem holdsV_same {H H' : Hp} {ls : List (List Nat)} {v : V} (p : Pl H v) (s : Same H H') : holdsV H' ls v = holdsV H ls v := by
  unfold holdsV
  rw [tupOf_same p s]
theorem lt_five {H : Hp} {t r1 r2 r3 r4 r5 : Addr} {s1 s2 s3 s4 s5 : List Nat} (e : H t = some (.tup [.ref r1, .ref r2, .ref r3, .ref r4, .ref r5]))
    (e1 : H r1 = some (.tup (VI s1))) (e2 : H r2 = some (.tup (VI s2))) (e3 : H r3 = some (.tup (VI s3))) (e4 : H r4 = some (.tup (VI s4))) (e5 : H r5 = some (.tup (VI s5))) : LT H t [s1, s2, s3, s4, s5] := by
  refine ⟨[r1, r2, r3, r4, r5], e, rfl, fun i a s h1 h2 => ?_⟩
  match i, h1, h2 with
  | 0, h1, h2 => cases h1; cases h2; exact .inl e1
  | 1, h1, h2 => cases h1; cases h2; exact .inl e2
  | 2, h1, h2 => cases h1; cases h2; exact .inl e3
  | 3, h1, h2 => cases h1; cases h2; exact .inl e4
  | 4, h1, h2 => cases h1; cases h2; exact .inl e5
  | _ + 5, h1, h2 => cases h1
theorem stays {H : Hp} {p : Addr} {o : HO} (n : H p = none) {b : Addr} {u : HO} (e : H b = some u) : (upd H p o) b = some u := same_upd n b u e
theorem repZ {K : PySem.W.Frag} {H : Hp} {t : Addr} {m : Nat} {z : Int} {Q : VK} (hz : z = (m : Nat)) (e : H t = some (.tup [.non])) (h1 : 1 ≤ m) (h2 : m ≤ 1000) (q : ∀ c H', Same H H' → H' c = some (.tup (VH (List.replicate m none))) → Q (.ref c) H') : rRepA K (.ref t) (.int z) H Q := by
  subst hz
  exact repN e h1 h2 q
end K14
namespace K14
open PySem PySem.Spec PyProof.Rows L2
def spNoHolds (C : Addr) : Sp := fun vs H Q _ => ∃ (wi : Addr) (ns ls : List (List Nat)), vs = [.ref wi] ∧ WAt C H wi ns ls ∧ ∀ r H', Same H H' → H' r = some (.tup (VH (List.replicate ls.length none))) → Q (.ref r) H'
theorem scNoHolds : FnScope ["wishes"] ["wishes"] (defScope sNoHolds) := ⟨rfl, rfl, rfl, by decide +kernel, rfl, by decide +kernel, by decide +kernel⟩
def spHeldRanksL (C : Addr) : Sp := fun vs H Q _ => ∃ (wi b : Addr) (ns ls : List (List Nat)) (hs : List (Option Nat)), vs = [.ref wi, .ref b] ∧ WAt C H wi ns ls ∧ H b = some (.lst (VH hs)) ∧ HoldsOk ls hs ∧ ∀ r H', Same H H' → H' r = some (.tup (VM ls hs)) → Q (.ref r) H'
def spAskedOut (C : Addr) : Sp := fun vs H Q _ => ∃ (wi : Addr) (ns ls : List (List Nat)), vs = [.ref wi] ∧ WAt C H wi ns ls ∧ ∀ r g H', Great ls g → Same H H' → H' r = some (.tup (VH g)) → Q (.ref r) H'
theorem scAskedOut : FnScope ["wishes", "holds", "most", "waiting", "person", "other"] ["wishes"] (defScope sAskedOut) := ⟨rfl, rfl, rfl, by decide +kernel, rfl, by decide +kernel, by decide +kernel⟩
theorem Same.keep {H H' : Hp} {D : Addr} {o : HO} (s : Same H H') (n : H D = none) : Same H (upd H' D o) := s.fresh n
theorem rg_VI (n : Nat) : rgV 0 (n : Nat) = VI (List.range n) := by
  unfold rgV VI
  rw [Int.sub_zero, Int.toNat_natCast]
  refine List.map_congr_left fun i _ => ?_
  rw [Int.zero_add]
theorem VH_set (hs : List (Option Nat)) (j p : Nat) : (VH hs).set j (.int (p : Nat)) = VH (hs.set j (some p)) := by
  unfold VH
  rw [List.map_set]
  rfl
theorem VM_set {ls : List (List Nat)} {hs : List (Option Nat)} {j p : Nat} (hj : j < hs.length) : (VM ls hs).set j (.int ((la ls j).idxOf p : Nat)) = VM ls (hs.set j (some p)) := by
  apply List.ext_getElem?
  intro i
  rw [List.getElem?_set]
  by_cases c : i < ls.length
  · rw [VM_get c]
    by_cases d : j = i
    · subst d
      rw [if_pos rfl, if_pos (by rw [VM, List.length_map, List.length_range]; exact c), VM_get (hs := hs.set j (some p)) c, most_some (show ha (hs.set j (some p)) j = some p by rw [ha_set hj, if_pos rfl])]
    · rw [if_neg d, VM_get c, most_eq (show ha (hs.set j (some p)) i = ha hs i by rw [ha_set hj, if_neg (fun z => d z.symm)])]
  · have l1 : (VM ls hs)[i]? = none := List.getElem?_eq_none (by rw [VM, List.length_map, List.length_range]; omega)
    have l2 : (VM ls (hs.set j (some p)))[i]? = none := List.getElem?_eq_none (by rw [VM, List.length_map, List.length_range]; omega)
    rw [l1, l2]
    split
    · rename_i z
      subst z
      rw [if_neg (by rw [VM, List.length_map, List.length_range]; omega)]
    · rfl
section
variable {P : Program} {w : World} {K : PySem.W.Frag} {mg : Str → Option Value} {base : Heap}
theorem ok_no_holds {f C : Addr} {fd : FuncData} {k : Nat} (F : Fun K "no_holds" "no_holds" sNoHolds f fd) (T : Txt K mg C) (ml : mg "len" = none) : FnOk P w K mg base CX0 (k + 1) f fd ["wishes"] (spNoHolds C) := by
  refine F.ok scNoHolds (fun vs H Q E h => ?_) (fun cdv A outer s H vs Q E hr h => ?_)
  · obtain ⟨wi, ns, ls, rfl, _⟩ := h
    rfl
  · obtain ⟨wi, ns, ls, rfl, W, q⟩ := h
    refine ⟨_, pss_one (ps_ret (pe_op op_repA (pe_tup (pa_cons pe_non pa_nil)) (pe_callB call_len_seq (by rfl) ml PySem.boot_len (pa_cons (pe_fld (pv 0) rfl) pa_nil)))), ?_⟩
    obtain ⟨dx, n, l, r, e1, e2, e3, e4⟩ := W.ex
    refine ⟨(by show 1 ≤ sizeLine; decide), fun t nt => ?_⟩
    have s1 := same_upd (o := .tup [.non]) nt
    have n60 := W.n60
    have nl := W.nok.len
    refine ⟨_, rfl, wi, C, dx, _, _, rfl, s1 _ _ e1, T.cl, T.nN, wf_names n l r, n, _, rfl, .inr (SqT.of (s1 _ _ e2)), ?_⟩
    have lv : (VN ns).length = ls.length := by rw [← nl]; simp [VN]
    refine repZ (m := ls.length) (by rw [lv]) upd_same (by omega) (by omega) fun c H' s2 ec => q c H' (s1.trans s2) ec
theorem ok_held_ranksL {f fr C : Addr} {fd dr : FuncData} {k : Nat} (F : Fun K "held_ranks" "held_ranks" sHeldRanks f fd)
    (Gr : FnOk P w K mg base CX0 k fr dr ["wishes", "person", "other"] (spRankOf C)) (br : Binds K dr ["wishes", "person", "other"] []) (kr : PySem.W.keepIn K (.ref fr) = true) (mr : mg "rank_of" = some (.ref fr)) (mt : mg "tuple" = none) (me : mg "enumerate" = none) : FnOk P w K mg base CX0 (k + 1) f fd ["wishes", "holds"] (spHeldRanksL C) := by
  refine F.ok scHeldRanks (fun vs H Q E h => ?_) (fun cdv A outer s H vs Q E hr h => ?_)
  · obtain ⟨wi, b, ns, ls, hs, rfl, _⟩ := h
    rfl
  · obtain ⟨wi, b, ns, ls, hs, rfl, W, eb, ho, q⟩ := h
    refine ⟨_, pss_one (ps_ret (pe_callTy call_tuple_of (by rfl) mt (by decide +kernel) (pa_cons (pe_lc (own := [("person", 2), ("held", 3)]) (tt := tYes) rfl scHeldRanks.nd (pi_enum (by rfl) me (pa_cons (pv 1) pa_nil))
          (blkOk_by (own := [("person", 2), ("held", 3)]) (N := ["wishes", "holds", "person", "held"]) (sc := defScope sHeldRanks) (by decide +kernel)) (g := gTup K 2 (gCons (gName 2) (gCons (gName 3) gNil))) (fun _ _ _ _ _ => pg_tup rfl (pgs_cons (pg_name (i := 2) scHeldRanks.nd rfl (Or.inl rfl)) (pgs_cons (pg_name (i := 3) scHeldRanks.nd rfl (Or.inl rfl)) pgs_nil))) (fun _ _ _ _ _ => pts_nil)
          (fun _ _ _ _ _ => pe_call Gr hr rfl mr kr br .nil pass0 (pa_cons (pv 0) (pa_cons (pv 2) (pa_cons (pv 3) pa_nil))))) pa_nil))), ?_⟩
    refine ⟨_, rfl, b, _, rfl, SqL.of eb, fun D nD => ?_⟩
    have n60 := W.n60.2
    refine lc_same (walk_enum (K := K) (a := b) (xs := VH hs)) (by rw [VH_len, ho.len]; omega) (fun i => .int (most ls hs i : Nat)) nD (fun _ sm => SqL.of (sm _ _ eb)) ?_ ?_
    · rintro i x H1 H2 Z out hi sm ⟨U, x0, x1, rfl, nU, rfl, y1, y2⟩
      cases y1
      have s2 : Same H1 (upd H1 U (.tup [.int (i : Nat), x1])) := same_upd nU
      rw [VH_len] at hi
      have il : i < ls.length := by rw [← ho.len]; exact hi
      have y3 : (VH hs)[i]? = some x1 := y2
      rw [VH_get (ha_get hi)] at y3
      cases y3
      refine ⟨U, _, rfl, SqT.of upd_same, rfl, _, _, rfl, gn ⟨_, _, rfl, gn ⟨rfl, rfl, ?_⟩⟩⟩
      refine ⟨_, rfl, _, rfl, _, rfl, wi, ns, ls, i, ha hs i, rfl, (W.same sm).same s2, il, fun j ej => ?_, ?_⟩
      · exact (W.ok.both i _ j (la_get il) (ho.on i j ej).2).1
      · rw [rkO_N fun j ej => (ho.on i j ej).2]
        exact out _ s2
    · intro H1 sm e5
      refine ⟨D, _, rfl, .inl ⟨SqL.of e5, fun r nr => q r _ (sm.fresh (sm.free nr)) ?_⟩⟩
      rw [upd_same, VH_len, ho.len]
      rfl
theorem ok_asked_out {f fn fh ff fr C : Addr} {fd dn dh df dr : FuncData} {k : Nat} (F : Fun K "asked_out" "asked_out" sAskedOut f fd)
    (Gn : FnOk P w K mg base CX0 k fn dn ["wishes"] (spNoHolds C)) (bn : Binds K dn ["wishes"] []) (kn : PySem.W.keepIn K (.ref fn) = true) (mn : mg "no_holds" = some (.ref fn))
    (Gh : FnOk P w K mg base CX0 k fh dh ["wishes", "holds"] (spHeldRanksL C)) (bh : Binds K dh ["wishes", "holds"] []) (kh : PySem.W.keepIn K (.ref fh) = true) (mh : mg "held_ranks" = some (.ref fh))
    (Gf : FnOk P w K mg base CX0 k ff df ["wishes", "most", "person"] (spFirstLeft C)) (bf : Binds K df ["wishes", "most", "person"] []) (kf : PySem.W.keepIn K (.ref ff) = true) (mf : mg "first_left" = some (.ref ff))
    (Gr : FnOk P w K mg base CX0 k fr dr ["wishes", "person", "other"] (spRankOf C)) (br : Binds K dr ["wishes", "person", "other"] []) (kr : PySem.W.keepIn K (.ref fr) = true) (mr : mg "rank_of" = some (.ref fr))
    (mli : mg "list" = none) (ml : mg "len" = none) (mrg : mg "range" = none) (mt : mg "tuple" = none) : FnOk P w K mg base CX0 (k + 1) f fd ["wishes"] (spAskedOut C) := by
  refine F.ok scAskedOut (fun vs H Q E h => ?_) (fun cdv A outer s H vs Q E hr h => ?_)
  · obtain ⟨wi, ns, ls, rfl, _⟩ := h
    rfl
  · obtain ⟨wi, ns, ls, rfl, W, q⟩ := h
    refine ⟨_, pss_cons (ps_set (i := 1) scAskedOut.nd rfl (.inl rfl) (pe_callTy call_list_of (by rfl) mli (by decide +kernel) (pa_cons (pe_call Gn hr rfl mn kn bn .nil pass0 (pa_cons (pv 0) pa_nil)) pa_nil)))
      (pss_cons (ps_set (i := 2) scAskedOut.nd rfl (.inl rfl) (pe_callTy call_list_of (by rfl) mli (by decide +kernel) (pa_cons (pe_call Gh hr rfl mh kh bh .nil pass0 (pa_cons (pv 0) (pa_cons (pv 1) pa_nil))) pa_nil)))
      (pss_cons (ps_set (i := 3) scAskedOut.nd rfl (.inl rfl) (pe_listRg rfl (by rfl) mli (prg_1 (by rfl) mrg (pe_callB call_len_seq (by rfl) ml PySem.boot_len (pa_cons (pv 1) pa_nil)))))
      (pss_cons (ps_while PassesOwn.never (pt_truth (pv 3) (fun _ => rfl))
        (pss_cons (ps_set (i := 4) scAskedOut.nd rfl (.inl rfl) (pe_bm0 PySem.F.plainAttrs_list PySem.F.slot_list_pop PySem.F.type_list_pop mt_pop (pv 3)))
        (pss_cons (ps_set (i := 5) scAskedOut.nd rfl (.inl rfl) (pe_call Gf hr rfl mf kf bf .nil pass0 (pa_cons (pv 0) (pa_cons (pv 2) (pa_cons (pv 4) pa_nil)))))
        (pss_one (ps_if (pt_cmpR op_notN (pv 5) pe_non (nomark _))
          (pss_cons (ps_if (pt_cmpR op_notN (pe_ix ix_list (pv 1) (pv 5) (fun _ _ => rfl)) pe_non (nomark _))
            (pss_one (ps_expr (pe_bm PySem.F.plainAttrs_list PySem.F.slot_list_append PySem.F.type_list_append mt_append (pv 3) (pa_cons (pe_ix ix_list (pv 1) (pv 5) (fun _ _ => rfl)) pa_nil)))) pss_nil)
          (pss_cons (ps_asg (pv 4) (pg_sub (pv 1) (pv 5) set_list))
          (pss_one (ps_asg (pe_call Gr hr rfl mr kr br .nil pass0 (pa_cons (pv 0) (pa_cons (pv 5) (pa_cons (pv 4) pa_nil)))) (pg_sub (pv 2) (pv 5) set_list))))) pss_nil)))))
      (pss_one (ps_ret (pe_callTy call_tuple_of (by rfl) mt (by decide +kernel) (pa_cons (pv 1) pa_nil))))))), ?_⟩
    have n60 := W.n60
    refine ⟨_, rfl, wi, ns, ls, rfl, W, fun t1 H1 s1 et1 => ⟨t1, _, rfl, .inr (SqT.of et1), fun D nD => gn ?_⟩⟩
    dsimp only [List.set, L2.start]
    have sD := same_upd (o := .lst (VH (List.replicate ls.length none))) nD
    refine ⟨_, rfl, _, rfl, wi, D, ns, ls, _, rfl, (W.same s1).same sD, upd_same, none_ok rfl, fun t2 H2 s2 et2 => ⟨t2, _, rfl, .inr (SqT.of et2), fun M nM => gn ?_⟩⟩
    dsimp only [List.set]
    have eD2 := s2 _ _ (upd_same (H := H1) (a := D) (o := .lst (VH (List.replicate ls.length none))))
    have nDM : D ≠ M := ne_of_none eD2 nM
    have sM := same_upd (o := .lst (VM ls (List.replicate ls.length none))) nM
    have eD3 := sM _ _ eD2
    refine ⟨_, rfl, D, _, rfl, .inl (SqL.of eD3), ?_⟩
    have lv : (VH (List.replicate ls.length (none : Option Nat))).length = ls.length := by rw [VH_len, List.length_replicate]
    refine ⟨_, rfl, RgOk.of_le (Int.le_refl 0) (by rw [lv]; omega) (by decide) (by omega), fun Wt nW => gn ?_⟩
    rw [lv, rg_VI]
    dsimp only [List.set]
    have eM3 : (upd H2 M (.lst (VM ls (List.replicate ls.length none)))) M = some (.lst (VM ls (List.replicate ls.length none))) := upd_same
    have nDW : D ≠ Wt := ne_of_none eD3 nW
    have nMW : M ≠ Wt := ne_of_none eM3 nW
    have sW := same_upd (o := .lst (VI (List.range ls.length))) nW
    have n0D : H D = none := s1.free nD
    have n0M : H M = none := (s1.trans (sD.trans s2)).free nM
    have n0W : H Wt = none := (s1.trans (sD.trans (s2.trans sM))).free nW
    refine tw (fun m σ H' => ∃ hs us y4 y5, σ = [some (.ref wi), some (.ref D), some (.ref M), some (.ref Wt), y4, y5] ∧ Same H H' ∧ H' D = some (.lst (VH hs)) ∧ H' M = some (.lst (VM ls hs)) ∧ H' Wt = some (.lst (VI us)) ∧ AO ls hs us ∧ m = sumM ls hs + us.length)
      (fun σ H' => ∃ g y4 y5, σ = [some (.ref wi), some (.ref D), some (.ref M), some (.ref Wt), y4, y5] ∧ Same H H' ∧ H' D = some (.lst (VH g)) ∧ Great ls g)
      ⟨_, _, none, none, rfl, s1.trans (sD.trans (s2.trans (sM.trans sW))), sW _ _ eD3, sW _ _ eM3, upd_same, ao_start, rfl⟩ ?_ (fun out => ?_)
    · rintro σ H' ⟨g, y4, y5, rfl, s', eD', G⟩
      refine ⟨_, rfl, D, _, rfl, .inl ⟨SqL.of eD', fun r nr => q r g _ G (s'.trans (same_upd nr)) ?_⟩⟩
      rw [upd_same]
    · rintro m σ H3 ⟨hs, ws, y4, y5, rfl, s3, eD, eM, eW, ao, rfl⟩
      refine ⟨_, rfl, _, .inl ⟨_, SqL.of eW, rfl⟩, ?_⟩
      rcases list_end ws with rfl | ⟨us, p, rfl⟩
      · refine iteF (out _ _ ⟨hs, y4, y5, rfl, s3, eD, ao_end ao⟩)
      · have ee : (!(VI (us ++ [p])).isEmpty) = true := by simp [VI]
        rw [ee]
        have eW1 : H3 Wt = some (.lst (VI us ++ [.int (p : Nat)])) := by rw [eW]; simp [VI]
        obtain ⟨hp, free⟩ := ao.fr p (by simp)
        refine iteT ⟨fun σ' H' => ∃ m', m' < sumM ls hs + (us ++ [p]).length ∧ ∃ hs us y4 y5, σ' = [some (.ref wi), some (.ref D), some (.ref M), some (.ref Wt), y4, y5] ∧ Same H H' ∧ H' D = some (.lst (VH hs)) ∧ H' M = some (.lst (VM ls hs)) ∧ H' Wt = some (.lst (VI us)) ∧ AO ls hs us ∧ m' = sumM ls hs + us.length, fun _ _ h => h, ?_⟩
        refine ⟨_, rfl, .inl ⟨rfl, _, SqL.of eW1⟩, Wt, _, .int (p : Nat), rfl, rfl, eW1, by simp, gn ?_⟩
        rw [List.dropLast_concat]
        dsimp only [List.set]
        have s4 : Same H (upd H3 Wt (.lst (VI us))) := s3.fresh n0W
        have eD4 : (upd H3 Wt (.lst (VI us))) D = some (.lst (VH hs)) := by rw [upd_ne nDW]; exact eD
        have eM4 : (upd H3 Wt (.lst (VI us))) M = some (.lst (VM ls hs)) := by rw [upd_ne nMW]; exact eM
        have eW4 : (upd H3 Wt (.lst (VI us))) Wt = some (.lst (VI us)) := upd_same
        generalize upd H3 Wt (.lst (VI us)) = H4 at s4 eD4 eM4 eW4
        refine ⟨_, rfl, _, rfl, _, rfl, wi, M, ns, ls, hs, p, rfl, W.same s4, .inr eM4, hp, fun H5 s5 => gn ?_⟩
        dsimp only [List.set]
        have s05 := s4.trans s5
        have eD5 := s5 _ _ eD4
        have eM5 := s5 _ _ eM4
        have eW5 := s5 _ _ eW4
        have hlen : hs.length = ls.length := ao.half.ok.len
        refine ⟨_, rfl, rfl, _, rfl, ?_⟩
        cases ef : fst ls hs p with
        | none =>
          have ef' : (leftL ls hs p).head? = none := ef
          rw [ef']
          refine iteF ⟨_, ?_, hs, us, _, _, rfl, s05, eD5, eM5, eW5, ao_pop ao ef, rfl⟩
          rw [List.length_append]
          simp
        | some j =>
          have ef' : (leftL ls hs p).head? = some j := ef
          rw [ef']
          obtain ⟨a1, a2⟩ := ao_ask W.ok ao ef
          obtain ⟨m1, m2, m3⟩ := (mem_left W.ok hp).mp (fst_mem ef)
          obtain ⟨j1, j2, j3⟩ := W.ok.mate hp m1
          have jl : j < hs.length := by omega
          refine iteT ?_
          refine seqcut (fun σ' H' => σ' = [some (.ref wi), some (.ref D), some (.ref M), some (.ref Wt), some (.int (p : Nat)), some (.int (j : Nat))] ∧ Same H H' ∧ H' D = some (.lst (VH hs)) ∧ H' M = some (.lst (VM ls hs)) ∧ H' Wt = some (.lst (VI (us ++ (ha hs j).toList)))) ?_ (fun out2 => ?_)
          · rintro σ' H6 ⟨rfl, s6, eD6, eM6, eW6⟩
            refine ⟨_, rfl, _, rfl, _, rfl, D, _, (j : Int), j, rfl, rfl, eD6, by rw [VH_len]; exact ixN_nat jl, ?_⟩
            rw [VH_set]
            have s7 : Same H (upd H6 D (.lst (VH (hs.set j (some p))))) := s6.fresh n0D
            have eD7 : (upd H6 D (.lst (VH (hs.set j (some p))))) D = some (.lst (VH (hs.set j (some p)))) := upd_same
            have eM7 : (upd H6 D (.lst (VH (hs.set j (some p))))) M = some (.lst (VM ls hs)) := by rw [upd_ne (Ne.symm nDM)]; exact eM6
            have eW7 : (upd H6 D (.lst (VH (hs.set j (some p))))) Wt = some (.lst (VI (us ++ (ha hs j).toList))) := by rw [upd_ne (Ne.symm nDW)]; exact eW6
            generalize upd H6 D (.lst (VH (hs.set j (some p)))) = H7 at s7 eD7 eM7 eW7
            refine ⟨_, rfl, _, rfl, _, rfl, wi, ns, ls, j, some p, rfl, W.same s7, j1, fun x e => by cases e; exact hp, ?_⟩
            rw [rkO_N fun x e => by cases e; exact j3]
            refine ⟨_, rfl, _, rfl, M, _, (j : Int), j, rfl, rfl, eM7, by rw [VM, List.length_map, List.length_range]; exact ixN_nat j1, ?_⟩
            have evm : (VM ls hs).set j (.int (rkN (la ls j) (some p) : Nat)) = VM ls (hs.set j (some p)) := VM_set jl
            rw [evm]
            refine ⟨_, ?_, hs.set j (some p), us ++ (ha hs j).toList, _, _, rfl, s7.fresh n0M, by rw [upd_ne nDM]; exact eD7, upd_same, by rw [upd_ne (Ne.symm nMW)]; exact eW7, a1, rfl⟩
            have : (ha hs j).toList.length ≤ 1 := by cases ha hs j <;> simp
            rw [List.length_append, List.length_append, List.length_singleton]
            omega
          · refine ⟨_, rfl, _, rfl, D, _, _, _, rfl, rfl, SqL.of eD5, atI_nat (VH_get (ha_get jl)), rfl, _, rfl, ?_⟩
            cases ek : ha hs j with
            | none =>
              refine iteF (out2 _ _ ⟨rfl, s05, eD5, eM5, ?_⟩)
              rw [ek]
              simpa using eW5
            | some x =>
              refine iteT ⟨_, rfl, .inl ⟨rfl, _, SqL.of eW5⟩, _, rfl, _, rfl, D, _, _, _, rfl, rfl, SqL.of eD5, atI_nat (VH_get (ha_get jl)), Wt, _, _, rfl, rfl, eW5, ?_, ?_⟩
              · rw [VI_len]
                exact sz6 (by
                  have nd := (List.nodup_append.mp ao.nd).1
                  have := nodup_sub_len nd (t := List.range ls.length) fun y hy => List.mem_range.mpr (ao.fr y (by simp [hy])).1
                  rw [List.length_range] at this
                  omega)
              · refine out2 _ _ ⟨rfl, s05.fresh n0W, by rw [upd_ne nDW]; exact eD5, by rw [upd_ne nMW]; exact eM5, ?_⟩
                rw [upd_same, ek]
                simp [VI, hv]
end
end K14
namespace K14
open PySem PySem.Spec PyProof.Rows L2
section
variable {J : It} {n : Nat} {G : Hp → Prop} {Y : Nat → Hp → V → Hp → Prop}
/-- a comprehension with a test, that leaves all as it stood -/
theorem lc_pick (w : Walk J n G Y) {g : TG} {tt : TT} {te : TE} {vs : List Nat} {σ : L2.St} {H0 : Hp} {D : Addr} {Qd : Hp → Prop} (hn : n ≤ 100000) (sel : Nat → Bool) (val : Nat → V) (nD : H0 D = none) (hG : ∀ H, Same H0 H → G H)
    (hs : ∀ (i : Nat) (x : V) (H H' : Hp) (R : Hp → Prop) (Z : V → Hp → Prop), (∀ H3, Same H H3 → sel i = true → Z (val i) H3) → (∀ H3, Same H H3 → sel i = false → R H3) → i < n → Same H0 H → Y i H x H' → g x (wipe σ vs) H' fun σ2 H2 => wipe σ2 vs = wipe σ vs ∧ tt σ2 H2 fun b H3 => if b = true then te σ2 H3 Z else R H3)
    (hd : ∀ H, Same H0 H → H D = some (.lst (((List.range n).filter sel).map val)) → Qd H) :
    ∃ W : Nat → Nat → Hp → Prop, (∃ m, W 0 m (upd H0 D (.lst []))) ∧ ∀ i m H, W i m H →
      (J.stop i H ∧ Qd H) ∨ (J.go i H ∧ ∃ Nx : Hp → Prop, (∀ H', Nx H' → ∃ m', m' < m ∧ W (i + 1) m' H') ∧ ∀ x H', J.yld i H x H' → g x (wipe σ vs) H' fun σ2 H2 => wipe σ2 vs = wipe σ vs ∧ tt σ2 H2 fun b H3 =>
        if b = true then te σ2 H3 fun y H4 => ∃ acc, H4 D = some (.lst acc) ∧ acc.length < sizeLine ∧ Nx (upd H4 D (.lst (acc ++ [y]))) else Nx H3) := by
  refine lc_it w (fun i H => Same H0 H ∧ H D = some (.lst (((List.range i).filter sel).map val))) ⟨same_upd nD, by rw [upd_same]; rfl⟩ (fun i H _ h => hG H h.1) (fun i x H H' hi h y => ?_) (fun H h => hd H h.1 h.2)
  refine hs i x H H' (fun H => Same H0 H ∧ H D = some (.lst (((List.range (i + 1)).filter sel).map val))) (fun v H3 => ∃ acc, H3 D = some (.lst acc) ∧ acc.length < sizeLine ∧ (fun H => Same H0 H ∧ H D = some (.lst (((List.range (i + 1)).filter sel).map val))) (upd H3 D (.lst (acc ++ [v])))) (fun H3 z ft => ?_) (fun H3 z ff => ?_) hi h.1 y
  · refine ⟨_, z _ _ h.2, ?_, (h.1.trans z).fresh nD, ?_⟩
    · rw [List.length_map]
      refine sz6' (Nat.le_trans (List.length_filter_le _ _) ?_)
      rw [List.length_range]
      omega
    · rw [upd_same, List.range_succ, List.filter_append, List.filter_cons, if_pos ft, List.filter_nil, List.map_append]
      rfl
  · refine ⟨h.1.trans z, ?_⟩
    rw [z _ _ h.2, List.range_succ, List.filter_append, List.filter_cons, if_neg (by rw [ff]; decide), List.filter_nil, List.append_nil]
/-- a tuple of numbers, or None -/
def OV (H : Hp) (v : V) : Option (List Nat) → Prop
  | none => v = .non
  | some s => ∃ t, v = .ref t ∧ H t = some (.tup (VI s))
theorem OV.same {H H' : Hp} {v : V} {o : Option (List Nat)} (h : OV H v o) (s : Same H H') : OV H' v o := by
  cases o with
  | none => exact h
  | some l => obtain ⟨t, e, et⟩ := h; exact ⟨t, e, s _ _ et⟩
theorem OV.put {H : Hp} {v : V} {o : Option (List Nat)} {D : Addr} {acc acc' : List V} (h : OV H v o) (eD : H D = some (.lst acc)) : OV (upd H D (.lst acc')) v o := by
  cases o with
  | none => exact h
  | some l =>
    obtain ⟨t, e, et⟩ := h
    refine ⟨t, e, ?_⟩
    rw [upd_ne (fun z => by rw [z, eD] at et; cases et)]
    exact et
/-- a comprehension of new tuples of numbers, or None, that leaves all else as it stood -/
theorem lc_opt (w : Walk J n G Y) {g : TG} {te : TE} {vs : List Nat} {σ : L2.St} {H0 : Hp} {D : Addr} {Qd : Hp → Prop} (hn : n ≤ 100000) (X : Nat → Option (List Nat)) (nD : H0 D = none) (hG : ∀ H, Same H0 H → G H)
    (hs : ∀ (i : Nat) (x : V) (H H' : Hp) (Z : V → Hp → Prop), (∀ v H3, Same H H3 → OV H3 v (X i) → Z v H3) → i < n → Same H0 H → Y i H x H' → g x (wipe σ vs) H' fun σ2 H2 => wipe σ2 vs = wipe σ vs ∧ te σ2 H2 Z)
    (hd : ∀ (rs : List V) H, Same H0 H → H D = some (.lst rs) → rs.length = n → (∀ (j : Nat) (v : V), rs[j]? = some v → OV H v (X j)) → Qd H) :
    ∃ W : Nat → Nat → Hp → Prop, (∃ m, W 0 m (upd H0 D (.lst []))) ∧ ∀ i m H, W i m H →
      (J.stop i H ∧ Qd H) ∨ (J.go i H ∧ ∃ Nx : Hp → Prop, (∀ H', Nx H' → ∃ m', m' < m ∧ W (i + 1) m' H') ∧ ∀ x H', J.yld i H x H' → g x (wipe σ vs) H' fun σ2 H2 => wipe σ2 vs = wipe σ vs ∧ tYes σ2 H2 fun b H3 =>
        if b = true then te σ2 H3 fun y H4 => ∃ acc, H4 D = some (.lst acc) ∧ acc.length < sizeLine ∧ Nx (upd H4 D (.lst (acc ++ [y]))) else Nx H3) := by
  refine lc_it w (fun i H => ∃ rs : List V, Same H0 H ∧ H D = some (.lst rs) ∧ rs.length = i ∧ ∀ (j : Nat) (v : V), rs[j]? = some v → OV H v (X j)) ⟨[], same_upd nD, upd_same, rfl, fun _ _ e => by simp at e⟩ (fun i H _ ⟨_, h, _⟩ => hG H h) (fun i x H H' hi ⟨rs, sm, eD, rl, old⟩ y => ?_) (fun H ⟨rs, sm, eD, rl, old⟩ => hd rs H sm eD rl old)
  refine hs i x H H' (fun v H3 => ∃ acc, H3 D = some (.lst acc) ∧ acc.length < sizeLine ∧ (fun H => ∃ rs : List V, Same H0 H ∧ H D = some (.lst rs) ∧ rs.length = i + 1 ∧ ∀ (j : Nat) (v : V), rs[j]? = some v → OV H v (X j)) (upd H3 D (.lst (acc ++ [v])))) (fun v H3 s3 ov => ?_) hi sm y
  have eD3 := s3 _ _ eD
  refine ⟨_, eD3, by rw [rl]; exact sz6' (by omega), rs ++ [v], (sm.trans s3).fresh nD, upd_same, by simp [rl], ?_⟩
  intro j u e
  by_cases c : j < rs.length
  · rw [List.getElem?_append_left c] at e
    exact ((old j u e).same s3).put eD3
  · rw [List.getElem?_append_right (by omega), List.getElem?_singleton] at e
    split at e
    · cases e
      have : j = i := by omega
      subst this
      exact ov.put eD3
    · cases e
end
/-- a tuple of those -/
def OT (H : Hp) (r : Addr) (xs : List (Option (List Nat))) : Prop := ∃ vs : List V, H r = some (.tup vs) ∧ vs.length = xs.length ∧ ∀ (j : Nat) (v : V) (o : Option (List Nat)), vs[j]? = some v → xs[j]? = some o → OV H v o
theorem OT.same {H H' : Hp} {r : Addr} {xs : List (Option (List Nat))} (t : OT H r xs) (s : Same H H') : OT H' r xs := let ⟨vs, e, l, q⟩ := t; ⟨vs, s _ _ e, l, fun j v o e1 e2 => (q j v o e1 e2).same s⟩
def dO1 : Option (List Nat) → PyData
  | none => .none
  | some s => dI s
def dO (xs : List (Option (List Nat))) : PyData := .tuple (xs.map dO1)
theorem dp_all {K : PySem.W.Frag} {H : Hp} : ∀ {vs : List V} {xs : List (Option (List Nat))}, vs.length = xs.length → (∀ (j : Nat) (v : V) (o : Option (List Nat)), vs[j]? = some v → xs[j]? = some o → OV H v o) → DpAll K H vs (xs.map dO1)
  | [], [], _, _ => .nil
  | [], _ :: _, l, _ => by cases l
  | _ :: _, [], l, _ => by cases l
  | v :: vs, o :: xs, l, h => by
    refine .cons ?_ (dp_all (by simpa using l) fun j u p e1 e2 => h (j + 1) u p (by simpa using e1) (by simpa using e2))
    have h0 := h 0 v o rfl rfl
    cases o with
    | none => cases h0; exact .non
    | some s => obtain ⟨t, rfl, et⟩ := h0; exact dp_dI (.inl et)
theorem dp_dO {K : PySem.W.Frag} {H : Hp} {r : Addr} {xs : List (Option (List Nat))} (t : OT H r xs) : Dp K H (.ref r) (dO xs) := by
  obtain ⟨vs, e, l, q⟩ := t
  exact .tup (SqT.of e) (dp_all l q)
theorem sh_dO (xs : List (Option (List Nat))) : SeqAt.shaped (dO xs) = true := by
  unfold dO
  refine shaped_of ?_ ?_
  · simp only [PyData.canLay0]
    refine layAll fun x hx => ?_
    obtain ⟨o, _, rfl⟩ := List.mem_map.mp hx
    cases o with
    | none => rfl
    | some s => exact (lay_dI s).1
  · simp only [PyData.depth]
    have := depAll (xs := xs.map dO1) (d := 2) fun x hx => by
      obtain ⟨o, _, rfl⟩ := List.mem_map.mp hx
      cases o with
      | none => simp [PyData.depth, dO1]
      | some s => exact (lay_dI s).2
    omega
theorem eq_dO (xs : List (Option (List Nat))) : PyData.eqv (dO xs) (dO xs) = true := by
  refine SeqAt.eqv_refl _ ?_
  have := sh_dO xs
  unfold SeqAt.shaped at this
  rw [Bool.and_eq_true] at this
  exact this.1
theorem eq_dI (s : List Nat) : PyData.eqv (dI s) (dI s) = true := by
  refine SeqAt.eqv_refl _ ?_
  exact (lay_dI s).1
theorem rp_of {d : PyData} {m B : Nat} (h : RpI d m B) (hm : m ≤ 60) (hB : B ≤ 1000000) : Rp d := ⟨h.sh, h.nd, Nat.le_trans h.dp hm, Nat.le_trans h.ln (Nat.le_trans hB (by decide))⟩
theorem rp_dO {xs : List (Option (List Nat))} (l : xs.length ≤ 60) (h : ∀ s, some s ∈ xs → s.length ≤ 60 ∧ ∀ j ∈ s, j < 60) : Rp (dO xs) := by
  unfold dO
  refine rp_of (rp_tup (m := 1) (B := 2000) fun x hx => ?_) (by decide) (by rw [List.length_map]; omega)
  obtain ⟨o, ho, rfl⟩ := List.mem_map.mp hx
  cases o with
  | none => exact ⟨rp_none.sh, rp_none.nd, Nat.le_trans rp_none.dp (by decide), Nat.le_trans rp_none.ln (by decide)⟩
  | some s => exact rp_dI (h s ho).1 (h s ho).2
theorem rp_dI' {s : List Nat} (l : s.length ≤ 60) (h : ∀ j ∈ s, j < 60) : Rp (dI s) := rp_of (rp_dI l h) (by decide) (by decide)
end K14
namespace K14
open PySem PySem.Spec PyProof.Rows L2
/-- the first and the last one -/
def endO : List Nat → Option (List Nat)
  | [] => none
  | a :: t => some [a, ((a :: t).getLast?).getD 0]
theorem endO_some {s : List Nat} {e : List Nat} (h : endO s = some e) : ∃ a b, e = [a, b] ∧ a ∈ s ∧ b ∈ s := by
  cases s with
  | nil => cases h
  | cons a t =>
    cases h
    refine ⟨a, _, rfl, by simp, ?_⟩
    cases e : (a :: t).getLast? with
    | none => simp at e
    | some z => exact List.mem_of_getLast? e
def endsA (ls : List (List Nat)) (hs : List (Option Nat)) : List (Option (List Nat)) := (List.range ls.length).map fun p => endO (leftL ls hs p)
theorem endsA_len {ls : List (List Nat)} {hs : List (Option Nat)} : (endsA ls hs).length = ls.length := by simp [endsA]
theorem endsA_at {ls : List (List Nat)} {hs : List (Option Nat)} {p : Nat} (h : p < ls.length) : (endsA ls hs)[p]? = some (endO (leftL ls hs p)) := by simp [endsA, h]
def singleL (ls : List (List Nat)) (hs : List (Option Nat)) : List Nat := (List.range ls.length).filter fun p => (ha hs p).isNone
/-- of a list left: the first and the last one, or None -/
abbrev teEnds (K : PySem.W.Frag) (i : Nat) : TE := tIf (fun σ H Q => tVar i σ H fun x H' => ∃ k, TruV K x H' k ∧ Q k H') (tTup (tCons (tOp (rIxT K) (tVar i) (tC (.int 0))) (tCons (tOp (rIxT K) (tVar i) (tUn (rU fun i => V.int (-i)) (tC (.int 1)))) tNil))) (tC .non)
theorem te_ends {K : PySem.W.Frag} {i : Nat} {σ : L2.St} {H : Hp} {c : Addr} {s : List Nat} {Q : VK} (es : σ[i]? = some (some (.ref c))) (ec : Tp H c (VI s)) (q : ∀ v H', Same H H' → OV H' v (endO s) → Q v H') : teEnds K i σ H Q := by
  refine ⟨_, es, _, .inr (.inl ⟨_, ec.sq, rfl⟩), ?_⟩
  cases s with
  | nil => exact iteF (q .non H same_rfl rfl)
  | cons a t =>
    refine iteT ?_
    have sq := ec.sq (K := K)
    refine ⟨_, es, c, _, 0, .int (a : Nat), rfl, rfl, sq, atI_nat (j := 0) rfl, _, es, _, rfl, c, _, -1, .int (((a :: t).getLast?).getD 0 : Nat), rfl, rfl, sq, ?_, (by show 2 ≤ sizeLine; decide), fun r nr => ?_⟩
    · rcases list_end (a :: t) with h | ⟨ys, z, h⟩
      · cases h
      · rw [h, VI_app, List.getLast?_append]
        exact atI_last _ _
    · exact q (.ref r) _ (same_upd nr) ⟨r, rfl, upd_same⟩
def spEndsLeft (C : Addr) : Sp := fun vs H Q _ => ∃ (wi : Addr) (ns ls : List (List Nat)), vs = [.ref wi] ∧ WAt C H wi ns ls ∧ ∀ r g H', Great ls g → Same H H' → OT H' r (endsA ls g) → Q (.ref r) H'
theorem scEndsLeft : FnScope ["wishes", "lists", "some"] ["wishes"] (defScope sEndsLeft) := ⟨rfl, rfl, rfl, by decide +kernel, rfl, by decide +kernel, by decide +kernel⟩
def spLeftSingle (C : Addr) : Sp := fun vs H Q _ => ∃ (wi : Addr) (ns ls : List (List Nat)), vs = [.ref wi] ∧ WAt C H wi ns ls ∧ ∀ r g H', Great ls g → Same H H' → H' r = some (.tup (VI (singleL ls g))) → Q (.ref r) H'
section
variable {P : Program} {w : World} {K : PySem.W.Frag} {mg : Str → Option Value} {base : Heap}
theorem ok_ends_left {f fl fa C : Addr} {fd dl da : FuncData} {k : Nat} (F : Fun K "ends_left" "ends_left" sEndsLeft f fd)
    (Gl : FnOk P w K mg base CX0 k fl dl ["wishes", "holds"] (spLeftLists C)) (bl : Binds K dl ["wishes", "holds"] []) (kl : PySem.W.keepIn K (.ref fl) = true) (mll : mg "left_lists" = some (.ref fl))
    (Ga : FnOk P w K mg base CX0 k fa da ["wishes"] (spAskedOut C)) (ba : Binds K da ["wishes"] []) (ka : PySem.W.keepIn K (.ref fa) = true) (ma : mg "asked_out" = some (.ref fa)) (mt : mg "tuple" = none) : FnOk P w K mg base CX0 (k + 1) f fd ["wishes"] (spEndsLeft C) := by
  refine F.ok scEndsLeft (fun vs H Q E h => ?_) (fun cdv A outer s H vs Q E hr h => ?_)
  · obtain ⟨wi, ns, ls, rfl, _⟩ := h
    rfl
  · obtain ⟨wi, ns, ls, rfl, W, q⟩ := h
    refine ⟨_, pss_cons (ps_set (i := 1) scEndsLeft.nd rfl (.inl rfl) (pe_call Gl hr rfl mll kl bl .nil pass0 (pa_cons (pv 0) (pa_cons (pe_call Ga hr rfl ma ka ba .nil pass0 (pa_cons (pv 0) pa_nil)) pa_nil))))
      (pss_one (ps_ret (pe_callTy call_tuple_of (by rfl) mt (by decide +kernel) (pa_cons (pe_lc (own := [("some", 2)]) (g := gName 2) (tt := tYes) (te := teEnds K 2) rfl scEndsLeft.nd (pi_tup (pv 1))
          (blkOk_by (own := [("some", 2)]) (N := ["wishes", "lists", "some"]) (sc := defScope sEndsLeft) (by decide +kernel)) (fun _ _ _ _ _ => pg_name (i := 2) scEndsLeft.nd rfl (Or.inl rfl)) (fun _ _ _ _ _ => pts_nil)
          (fun _ _ _ _ _ => pe_ifExp (pt_truth (pv 2) (fun _ => rfl)) (pe_tup (pa_cons (pe_ix ix_tup (pv 2) pe_int (fun _ _ => rfl)) (pa_cons (pe_ix ix_tup (pv 2) (pe_un un_neg pe_int) (fun _ _ => rfl)) pa_nil))) pe_non)) pa_nil)))), ?_⟩
    have n60 := W.n60
    refine ⟨_, rfl, _, rfl, wi, ns, ls, rfl, W, fun ra g H1 G s1 ea => ?_⟩
    refine ⟨wi, ra, ns, ls, g, rfl, W.same s1, ea, G.ok, fun r H2 s2 lt => gn ?_⟩
    dsimp only [List.set, L2.start]
    obtain ⟨xs, ex, xl⟩ := lt.len
    rw [leftA_len] at xl
    refine ⟨_, rfl, r, rfl, ⟨_, SqT.of ex⟩, fun D nD => ?_⟩
    refine lc_opt (walk_tup (K := K) (a := r) (xs := xs)) (by omega) (fun p => endO (leftL ls g p)) nD (fun _ sm => SqT.of (sm _ _ ex)) ?_ ?_
    · rintro m x H3 H4 Z out hm sm ⟨rfl, e⟩
      obtain ⟨c, s', rfl, es, ec⟩ := lt.row ex e
      obtain ⟨_, rfl⟩ := leftA_at es
      refine gn ⟨rfl, te_ends rfl (ec.same sm) fun v H' s' ov => out v H' s' ov⟩
    · intro rs H3 sm eD rl ov
      refine ⟨D, _, rfl, .inl ⟨SqL.of eD, fun t nt => ?_⟩⟩
      have st := same_upd (o := .tup rs) nt
      refine q t g _ G (s1.trans (s2.trans (sm.trans st))) ⟨rs, upd_same, by rw [endsA_len]; omega, fun j v o e1 e2 => ?_⟩
      have hj : j < ls.length := by
        have := (List.getElem?_eq_some_iff.mp e1).1
        omega
      rw [endsA_at hj] at e2
      cases e2
      exact (ov j v e1).same st
end
end K14
namespace K14
open PySem PySem.Spec PyProof.Rows L2
theorem eqv_dI_nil (s : List Nat) : PyData.eqv (dI s) (.tuple []) = s.isEmpty := by
  cases s with
  | nil => decide
  | cons c r => simp [dI, PyData.eqv, PyData.eqvAll]
theorem sh_dI (s : List Nat) : SeqAt.shaped (dI s) = true := shaped_of (lay_dI s).1 (Nat.le_trans (lay_dI s).2 (by decide))
theorem flat_VH (hs : List (Option Nat)) : (VH hs).all flatV = true := by
  unfold VH
  rw [List.all_map, List.all_eq_true]
  intro o _
  cases o <;> rfl
def spOut : Sp := fun vs H Q _ => ∃ (a : Addr) (ls : List (List Nat)), vs = [.ref a] ∧ LX H a ls ∧ 1 ≤ ls.length ∧ ls.length ≤ 60 ∧ ListsOk ls.length ls ∧ ∀ (r : Addr) (g : List (Option Nat)) (H' : Hp), Great ls g → Same H H' → H' r = some (.tup (VH g)) → Q (.ref r) H'
theorem inV_VH {hs : List (Option Nat)} {p : Nat} : inV (.int (p : Nat)) (VH hs) = true ↔ some p ∈ hs := by
  unfold inV VH
  rw [List.any_map, List.any_eq_true]
  constructor
  · rintro ⟨x, hx, e⟩
    cases x with
    | none => cases e
    | some j =>
      have : ((j : Nat) : Int) = (p : Int) := eq_of_beq e
      have : j = p := by omega
      rw [← this]
      exact hx
  · intro h
    exact ⟨some p, h, beq_self_eq_true _⟩
/-- whoever can ask -/
def askers (ls : List (List Nat)) (hs : List (Option Nat)) : List Nat := (List.range ls.length).filter fun p => !(leftL ls hs p).isEmpty && !inV (.int (p : Nat)) (VH hs)
theorem asker_iff {ls : List (List Nat)} {hs : List (Option Nat)} (hl : hs.length = ls.length) {p : Nat} : p ∈ askers ls hs ↔ p < ls.length ∧ (∃ j, fst ls hs p = some j) ∧ ∀ q, q < ls.length → ha hs q ≠ some p := by
  unfold askers
  rw [List.mem_filter, List.mem_range, Bool.and_eq_true]
  refine and_congr_right fun hp => and_congr ?_ ?_
  · unfold fst
    cases leftL ls hs p with
    | nil => simp
    | cons a t => simp
  · have : (!inV (.int (p : Nat)) (VH hs)) = true ↔ ¬ some p ∈ hs := by
      rw [← inV_VH (hs := hs)]
      cases inV (.int (p : Nat)) (VH hs) <;> simp
    rw [this]
    constructor
    · intro h q hq e
      have hq' : q < hs.length := by omega
      have := ha_get (hs := hs) hq'
      rw [e] at this
      exact h (List.mem_of_getElem? this)
    · intro h hm
      obtain ⟨q, hq, e⟩ := List.mem_iff_getElem.mp hm
      refine h q (by omega) ?_
      unfold ha
      rw [List.getD_eq_getElem?_getD, List.getElem?_eq_getElem hq, e]
      rfl
theorem great_no {ls : List (List Nat)} {g : List (Option Nat)} (G : Great ls g) : askers ls g = [] := by
  refine List.eq_nil_iff_forall_not_mem.mpr fun p hp => ?_
  obtain ⟨h1, ⟨j, h2⟩, h3⟩ := (asker_iff G.ok.len).mp hp
  have := G.st.b p j h1 h2
  exact h3 j (G.ok.on j p this).1 this
theorem no_great {ls : List (List Nat)} {hs : List (Option Nat)} (h : Half ls hs) (t : Top ls hs) (e : askers ls hs = []) : Great ls hs := great_of h t fun p j hp ef => Classical.byContradiction fun c => by
  have : p ∈ askers ls hs := (asker_iff h.ok.len).mpr ⟨hp, ⟨j, ef⟩, fun q hq z => c ⟨q, hq, z⟩⟩
  rw [e] at this
  cases this
section
variable {P : Program} {w : World} {K : PySem.W.Frag} {mg : Str → Option Value} {base : Heap}
end
end K14
namespace K14
open PySem PySem.Spec PyProof.Rows L2
/-- what a tuple of two numbers holds -/
def two (H : Hp) (x : V) : Int × Int := match x with
  | .ref t => match H t with
    | some (.tup [.int i, .int j]) => (i, j)
    | _ => (0, 0)
  | _ => (0, 0)
def rows2 (L : List (Nat × Nat)) : List (List Nat) := L.map fun x => [x.1, x.2]
theorem two_at {H : Hp} {t : Addr} {i j : Nat} (e : H t = some (.tup (VI [i, j]))) : two H (.ref t) = ((i : Int), (j : Int)) := by
  have e' : H t = some (.tup [.int (i : Nat), .int (j : Nat)]) := e
  unfold two
  simp only [e']
theorem sort_pairs {K : PySem.W.Frag} {H : Hp} {a : Addr} {us : List Addr} {L L' : List (Nat × Nat)} {Q : VK} (e : H a = some (.lst (us.map V.ref))) (t : RsT H us (rows2 L)) (pm : L'.Perm L) (asc : L'.Pairwise fun x y => x.1 < y.1)
    (q : ∀ us' p, H p = none → RsT H us' (rows2 L') → Q (.ref p) (upd H p (.lst (us'.map V.ref)))) : rSortedPO K [.ref a] H Q := by
  refine ⟨a, us.map V.ref, two H, rfl, SqL.of e, fun x hx => ?_, fun ys p so st np => ?_⟩
  · obtain ⟨j, hj, ej⟩ := List.mem_iff_getElem.mp hx
    obtain ⟨u, r, rfl, er, eu⟩ := t.at (by rw [List.getElem?_eq_getElem hj, ej])
    unfold rows2 at er
    rw [List.getElem?_map] at er
    cases el : L[j]? with
    | none => rw [el] at er; cases er
    | some y =>
      rw [el] at er
      cases er
      exact ⟨u, rfl, by rw [two_at eu]; exact eu⟩
  · have pys := st.perm
    -- the places, sorted
    have hys : ∃ us' : List Addr, ys = us'.map V.ref := by
      have all : ∀ y ∈ ys, ∃ u, y = V.ref u := fun y hy => by
        obtain ⟨u, _, rfl⟩ := List.mem_map.mp (pys.mem_iff.mp hy)
        exact ⟨u, rfl⟩
      clear so st pys
      induction ys with
      | nil => exact ⟨[], rfl⟩
      | cons y r ih =>
        obtain ⟨u, rfl⟩ := all y (by simp)
        obtain ⟨w, hw⟩ := ih fun z hz => all z (by simp [hz])
        exact ⟨u :: w, by rw [hw]; rfl⟩
    obtain ⟨us', rfl⟩ := hys
    have c0 : (us.map V.ref).map (two H) = L.map fun x => ((x.1 : Int), (x.2 : Int)) := by
      apply List.ext_getElem?
      intro j
      rw [List.getElem?_map, List.getElem?_map, List.getElem?_map]
      have tl := t.1
      unfold rows2 at tl
      rw [List.length_map] at tl
      by_cases c : j < us.length
      · have ex : (us.map V.ref)[j]? = some (.ref us[j]) := by rw [List.getElem?_map, List.getElem?_eq_getElem c]; rfl
        obtain ⟨u, r, eu0, er, eu⟩ := t.at ex
        cases eu0
        have hL : j < L.length := by omega
        unfold rows2 at er
        rw [List.getElem?_map, List.getElem?_eq_getElem hL] at er
        cases er
        rw [List.getElem?_eq_getElem c, List.getElem?_eq_getElem hL]
        show some (two H (.ref us[j])) = _
        rw [two_at eu]
        rfl
      · rw [List.getElem?_eq_none (by omega), List.getElem?_eq_none (by omega)]
        rfl
    have c1 : ((us'.map V.ref).map (two H)).Perm (L'.map fun x => ((x.1 : Int), (x.2 : Int))) := by
      refine (pys.map (two H)).trans ?_
      rw [c0]
      exact (pm.map _).symm
    have c2 : (us'.map V.ref).map (two H) = L'.map fun x => ((x.1 : Int), (x.2 : Int)) := by
      refine List.Perm.eq_of_pairwise (le := fun x y => SrtO.lexB y x = false) (fun x y _ _ h1 h2 => ?_) ?_ ?_ c1
      · have a1 := SrtO.lexB_no.mp h1
        have a2 := SrtO.lexB_no.mp h2
        apply Prod.ext <;> omega
      · exact List.pairwise_map.mpr so
      · refine List.pairwise_map.mpr (asc.imp fun {x y} h => ?_)
        refine SrtO.lexB_no.mpr ?_
        dsimp only
        omega
    refine q us' p np ⟨?_, fun j u r e1 e2 => ?_⟩
    · have := congrArg List.length c2
      simpa [rows2] using this
    · unfold rows2 at e2
      rw [List.getElem?_map] at e2
      cases el : L'[j]? with
      | none => rw [el] at e2; cases e2
      | some y =>
        rw [el] at e2
        cases e2
        -- u is one of the old places
        have hu : V.ref u ∈ us.map V.ref := pys.mem_iff.mp (List.mem_map.mpr ⟨u, List.mem_of_getElem? e1, rfl⟩)
        obtain ⟨i, hi, ei⟩ := List.mem_iff_getElem.mp hu
        obtain ⟨u2, r2, eu2, er2, eu3⟩ := t.at (show (us.map V.ref)[i]? = some (V.ref u) by rw [List.getElem?_eq_getElem hi, ei])
        cases eu2
        unfold rows2 at er2
        rw [List.getElem?_map] at er2
        cases el2 : L[i]? with
        | none => rw [el2] at er2; cases er2
        | some z =>
          rw [el2] at er2
          cases er2
          have h1 := two_at eu3
          have h2 : ((us'.map V.ref).map (two H))[j]? = some (two H (.ref u)) := by rw [List.getElem?_map, List.getElem?_map, e1]; rfl
          rw [c2, List.getElem?_map, el, h1] at h2
          have h3 := Option.some.inj h2
          have h4 : (y.1 : Int) = z.1 := congrArg Prod.fst h3
          have h5 : (y.2 : Int) = z.2 := congrArg Prod.snd h3
          show H u = some (.tup (VI [y.1, y.2]))
          rw [show y.1 = z.1 by omega, show y.2 = z.2 by omega]
          exact eu3
end K14
namespace K14
open PySem PySem.Spec PyProof.Rows L2
def lo (a b : Nat) : Nat := if b < a then b else a
def hi (a b : Nat) : Nat := if b > a then b else a
theorem perm_of {α : Type} [DecidableEq α] : ∀ {L L' : List α}, L.Nodup → L'.Nodup → (∀ x, x ∈ L ↔ x ∈ L') → L.Perm L'
  | [], L', _, _, h => by
    cases L' with
    | nil => exact .nil
    | cons a t => exact absurd ((h a).mpr (by simp)) (by simp)
  | a :: t, L', n1, n2, h => by
    have ha : a ∈ L' := (h a).mp (by simp)
    have nt := List.nodup_cons.mp n1
    refine ((perm_of nt.2 (n2.erase a) fun x => ?_).cons a).trans (List.perm_cons_erase ha).symm
    rw [n2.mem_erase_iff]
    constructor
    · intro hx
      exact ⟨fun e => nt.1 (e ▸ hx), (h x).mp (by simp [hx])⟩
    · rintro ⟨ne, hx⟩
      rcases List.mem_cons.mp ((h x).mpr hx) with e | e
      · exact absurd e ne
      · exact e
/-- the pairs as they come about, and in their sequence -/
def rawP (ls : List (List Nat)) (g : List (Option Nat)) (sd : List Nat) (s : Nat) (p : Nat) : Option (Nat × Nat) := if sd.getD p 0 = s then (fst ls g p).map fun j => (lo p j, hi p j) else none
def dueP (mu : List (Option Nat)) (p : Nat) : Option (Nat × Nat) := (ha mu p).bind fun j => if p < j then some (p, j) else none
def pairsOf (mu : List (Option Nat)) : List (Nat × Nat) := (List.range mu.length).filterMap (dueP mu)
theorem due_some {mu : List (Option Nat)} {p : Nat} {x : Nat × Nat} (h : dueP mu p = some x) : ha mu p = some x.2 ∧ x.1 = p ∧ p < x.2 := by
  unfold dueP at h
  cases e : ha mu p with
  | none => rw [e] at h; cases h
  | some j =>
    rw [e] at h
    by_cases c : p < j
    · have h' : (if p < j then some (p, j) else none) = some x := h
      rw [if_pos c] at h'
      cases h'
      exact ⟨rfl, rfl, c⟩
    · have h' : (if p < j then some (p, j) else none) = some x := h
      rw [if_neg c] at h'
      cases h'
theorem pairs_asc (mu : List (Option Nat)) : (pairsOf mu).Pairwise fun x y => x.1 < y.1 := by
  unfold pairsOf
  rw [List.pairwise_filterMap]
  refine List.pairwise_lt_range.imp fun {a b} lt x hx y hy => ?_
  have h1 := (due_some hx).2.1
  have h2 := (due_some hy).2.1
  omega
theorem raw_perm {ls : List (List Nat)} {g : List (Option Nat)} {sd : List Nat} {s : Nat} (ok : ListsOk ls.length ls) (G : Great ls g) (S : Sided ls sd) (hs : s ≤ 1) :
    (pairsOf (sideM ls g sd s)).Perm ((List.range ls.length).filterMap (rawP ls g sd s)) := by
  have pg := side_pair ok (s := s) G S hs
  have raw : ∀ p x, p < ls.length → rawP ls g sd s p = some x → sd.getD p 0 = s ∧ ∃ j, fst ls g p = some j ∧ x = (lo p j, hi p j) ∧ j < ls.length ∧ j ≠ p ∧ sd.getD j 0 ≠ s := fun p x hp h => by
    unfold rawP at h
    split at h
    · rename_i c
      cases ef : fst ls g p with
      | none => rw [ef] at h; cases h
      | some j =>
        rw [ef] at h
        cases h
        have jm := ((mem_left ok hp).mp (fst_mem ef)).1
        obtain ⟨j1, j2, _⟩ := ok.mate hp jm
        have := S.apart p j hp jm
        exact ⟨c, j, rfl, rfl, j1, j2, by omega⟩
    · cases h
  refine perm_of ((pairs_asc _).imp fun {x y} h e => by rw [e] at h; omega) ?_ fun x => ?_
  · show List.Pairwise _ _
    rw [List.pairwise_filterMap]
    refine List.Pairwise.imp_of_mem ?_ (List.pairwise_lt_range (n := ls.length))
    intro a b ha hb lt x hx y hy e
    have ha := List.mem_range.mp ha
    have hb := List.mem_range.mp hb
    obtain ⟨c1, j, e1, r1, l1, n1, d1⟩ := raw a x ha hx
    obtain ⟨c2, k, e2, r2, l2, n2, d2⟩ := raw b y hb hy
    rw [r1, r2] at e
    have q1 : lo a j = lo b k := congrArg Prod.fst e
    have q2 : hi a j = hi b k := congrArg Prod.snd e
    unfold lo at q1
    unfold hi at q2
    have : a = k ∨ a = b := by
      split at q1 <;> split at q1 <;> split at q2 <;> split at q2 <;> omega
    rcases this with z | z
    · exact d2 (by rw [← z]; exact c1)
    · omega
  · unfold pairsOf
    rw [List.mem_filterMap, List.mem_filterMap, sideM_len]
    constructor
    · rintro ⟨p, hp, h⟩
      obtain ⟨h1, h2, h3⟩ := due_some h
      have hp := List.mem_range.mp hp
      have jm := (pg.ok.on p x.2 h1).2
      obtain ⟨j1, j2, _⟩ := ok.mate hp jm
      have ap := S.apart p x.2 hp jm
      have t1 := S.two p hp
      have t2 := S.two x.2 j1
      have h1' := h1
      rw [sideM_at hp] at h1'
      by_cases c : sd.getD p 0 = s
      · rw [if_pos c] at h1'
        refine ⟨p, List.mem_range.mpr hp, ?_⟩
        unfold rawP
        rw [if_pos c, h1']
        show some (lo p x.2, hi p x.2) = some x
        unfold lo hi
        rw [if_neg (by omega), if_pos (by omega)]
        exact congrArg some (Prod.ext h2.symm rfl)
      · have h4 := pg.sym p x.2 h1
        rw [sideM_at j1, if_pos (by omega)] at h4
        refine ⟨x.2, List.mem_range.mpr j1, ?_⟩
        unfold rawP
        rw [if_pos (by omega), h4]
        show some (lo x.2 p, hi x.2 p) = some x
        unfold lo hi
        rw [if_pos (by omega), if_neg (by omega)]
        exact congrArg some (Prod.ext h2.symm rfl)
    · rintro ⟨p, hp, h⟩
      have hp := List.mem_range.mp hp
      obtain ⟨c, j, ef, rfl, j1, j2, d⟩ := raw p x hp h
      have mp : ha (sideM ls g sd s) p = some j := by rw [sideM_at hp, if_pos c]; exact ef
      have mj := pg.sym p j mp
      by_cases lt : p < j
      · refine ⟨p, List.mem_range.mpr hp, ?_⟩
        unfold dueP
        rw [mp]
        show (if p < j then some (p, j) else none) = _
        rw [if_pos lt]
        unfold lo hi
        rw [if_neg (by omega), if_pos (by omega)]
      · refine ⟨j, List.mem_range.mpr j1, ?_⟩
        unfold dueP
        rw [mj]
        show (if j < p then some (j, p) else none) = _
        rw [if_pos (by omega)]
        unfold lo hi
        rw [if_pos (by omega), if_neg (by omega)]
def spPairOf : Sp := fun vs H Q _ => ∃ a b : Nat, vs = [.int a, .int b] ∧ ∀ r H', Same H H' → H r = none → H' r = some (.tup (VI [lo a b, hi a b])) → Q (.ref r) H'
theorem scPairOf : FnScope ["one", "other"] ["one", "other"] (defScope sPairOf) := ⟨rfl, rfl, rfl, by decide +kernel, rfl, by decide +kernel, by decide +kernel⟩
def spSidePairing (C : Addr) : Sp := fun vs H Q _ => ∃ (wi sp : Addr) (ns ls : List (List Nat)) (sd : List Nat) (s : Nat), vs = [.ref wi, .ref sp, .int s] ∧ WAt C H wi ns ls ∧ Tp H sp (VI sd) ∧ Sided ls sd ∧ s ≤ 1 ∧
  ∀ r g H', Great ls g → Same H H' → LT H' r (rows2 (pairsOf (sideM ls g sd s))) → Q (.ref r) H'
theorem scSidePairing : FnScope ["wishes", "sides", "side", "pairs", "person", "ends"] ["wishes", "sides", "side"] (defScope sSidePairing) := ⟨rfl, rfl, rfl, by decide +kernel, rfl, by decide +kernel, by decide +kernel⟩
section
variable {P : Program} {w : World} {K : PySem.W.Frag} {mg : Str → Option Value} {base : Heap}
theorem ok_pair_of {f : Addr} {fd : FuncData} {k : Nat} (F : Fun K "pair_of" "pair_of" sPairOf f fd) (mmi : mg "min" = none) (mma : mg "max" = none) : FnOk P w K mg base CX0 (k + 1) f fd ["one", "other"] spPairOf := by
  refine F.ok scPairOf (fun vs H Q E h => ?_) (fun cdv A outer s H vs Q E hr h => ?_)
  · obtain ⟨a, b, rfl, _⟩ := h
    rfl
  · obtain ⟨a, b, rfl, q⟩ := h
    refine ⟨_, pss_one (ps_ret (pe_tup (pa_cons (pe_callB (call_min2 rfl) (by rfl) mmi (by decide +kernel) (pa_cons (pv 0) (pa_cons (pv 1) pa_nil))) (pa_cons (pe_callB (call_max2 rfl) (by rfl) mma (by decide +kernel) (pa_cons (pv 0) (pa_cons (pv 1) pa_nil))) pa_nil)))), ?_⟩
    refine ⟨_, rfl, _, rfl, _, _, rfl, _, rfl, _, rfl, _, _, rfl, (by show 2 ≤ sizeLine; decide), fun r nr => ?_⟩
    refine q r _ (same_upd nr) nr ?_
    rw [upd_same]
    have h1 : (if (b : Int) < a then (b : Int) else a) = ((lo a b : Nat) : Int) := by
      unfold lo
      split <;> split <;> omega
    have h2 : (if (b : Int) > a then (b : Int) else a) = ((hi a b : Nat) : Int) := by
      unfold hi
      split <;> split <;> omega
    rw [h1, h2]
    rfl
theorem ok_side_pairing {f fe fp C : Addr} {fd de dp : FuncData} {k : Nat} (F : Fun K "side_pairing" "side_pairing" sSidePairing f fd)
    (Ge : FnOk P w K mg base CX0 k fe de ["wishes"] (spEndsLeft C)) (be : Binds K de ["wishes"] []) (ke : PySem.W.keepIn K (.ref fe) = true) (me' : mg "ends_left" = some (.ref fe))
    (Gp : FnOk P w K mg base CX0 k fp dp ["one", "other"] spPairOf) (bp : Binds K dp ["one", "other"] []) (kp : PySem.W.keepIn K (.ref fp) = true) (mp : mg "pair_of" = some (.ref fp))
    (me : mg "enumerate" = none) (mt : mg "tuple" = none) (mso : mg "sorted" = none) : FnOk P w K mg base CX0 (k + 1) f fd ["wishes", "sides", "side"] (spSidePairing C) := by
  refine F.ok scSidePairing (fun vs H Q E h => ?_) (fun cdv A outer s' H vs Q E hr h => ?_)
  · obtain ⟨wi, sp, ns, ls, sd, s, rfl, _⟩ := h
    rfl
  · obtain ⟨wi, sp, ns, ls, sd, s, rfl, W, es, S, hs, q⟩ := h
    refine ⟨_, pss_cons (ps_set (i := 3) scSidePairing.nd rfl (.inl rfl) (pe_lst pa_nil))
      (pss_cons (ps_for PassesOwn.never rfl (pi_enumT (by rfl) me (pa_cons (pe_call Ge hr rfl me' ke be .nil pass0 (pa_cons (pv 0) pa_nil)) pa_nil)) (pg_tup rfl (pgs_cons (pg_name (i := 4) scSidePairing.nd rfl (.inl rfl)) (pgs_cons (pg_name (i := 5) scSidePairing.nd rfl (.inl rfl)) pgs_nil)))
        (pss_one (ps_if (PW.pt (pw_and (pt_cmpR op_eq (pe_ix ix_tup (pv 1) (pv 4) (fun _ _ => rfl)) (pv 2) (nomark _)) (pw_and1 (pt_cmpR op_notN (pv 5) pe_non (nomark _)))))
          (pss_one (ps_expr (pe_bm PySem.F.plainAttrs_list PySem.F.slot_list_append PySem.F.type_list_append mt_append (pv 3) (pa_cons (pe_call Gp hr rfl mp kp bp .nil pass0 (pa_cons (pv 4) (pa_cons (pe_ix ix_tup (pv 5) pe_int (fun _ _ => rfl)) pa_nil))) pa_nil)))) pss_nil)))
      (pss_one (ps_ret (pe_callTy call_tuple_of (by rfl) mt (by decide +kernel) (pa_cons (pe_callB cr_sortedPO (by rfl) mso (by decide +kernel) (pa_cons (pv 3) pa_nil)) pa_nil))))), ?_⟩
    refine ⟨Nat.zero_le _, fun D nD => gn ?_⟩
    dsimp only [List.set, L2.start]
    have sD := same_upd (o := .lst []) nD
    refine ⟨_, rfl, wi, ns, ls, rfl, W.same sD, fun ra g H1 G s1 oa => ?_⟩
    obtain ⟨xs, ev, lv, qv⟩ := oa
    rw [endsA_len] at lv
    have ok := W.ok
    have n60 := W.n60
    have eD1 := s1 _ _ (upd_same (H := H) (a := D) (o := .lst []))
    have sH : ∀ H', Bar D D H1 H' → Same H H' := fun H' b c o e => b c o (ne_of_none e nD) (ne_of_none e nD) (s1 _ _ (sD _ _ e))
    have nra : ra ≠ D := fun z => by rw [z, eD1] at ev; cases ev
    have rawS : ∀ i, i < ls.length → (List.range (i + 1)).filterMap (rawP ls g sd s) = (List.range i).filterMap (rawP ls g sd s) ++ (rawP ls g sd s i).toList := fun i _ => by
      rw [List.range_succ, List.filterMap_append]
      congr 1
    refine ⟨ra, _, rfl, SqT.of ev, for_it (walk_enumT (K := K) (a := ra) (xs := xs)) (fun i σ H' => ∃ (us : List Addr) (y4 y5 : Option V), σ = [some (.ref wi), some (.ref sp), some (.int (s : Nat)), some (.ref D), y4, y5] ∧ H' D = some (.lst (us.map V.ref)) ∧ RsT H' us (rows2 ((List.range i).filterMap (rawP ls g sd s))) ∧ Bar D D H1 H')
      ⟨[], none, none, rfl, eD1, RsT.nil, Bar.refl⟩ (fun i σ H' _ ⟨_, _, _, _, _, _, br⟩ => SqT.of (br _ _ nra nra ev)) ?_ ?_⟩
    · rintro i x σ H2 H3 hi ⟨us, y4, y5, rfl, eD2, rt, br⟩ ⟨U, x0, x1, rfl, nU, rfl, y1, y2⟩
      cases y1
      have il : i < ls.length := by omega
      have sU : Same H2 (upd H2 U (.tup [.int (i : Nat), x1])) := same_upd nU
      have nUD : D ≠ U := ne_of_none eD2 nU
      refine ⟨U, _, rfl, SqT.of upd_same, rfl, _, _, rfl, gn ⟨_, _, rfl, gn ⟨rfl, ?_⟩⟩⟩
      dsimp only [List.set]
      have br3 : Bar D D H1 (upd H2 U (.tup [.int (i : Nat), x1])) := br.trans (.same sU)
      have eD3 := sU _ _ eD2
      have rt3 := rt.same sU
      generalize upd H2 U (.tup [.int (i : Nat), x1]) = H4 at sU br3 eD3 rt3
      have sd_at : sd[i]? = some (sd.getD i 0) := by
        rw [List.getD_eq_getElem?_getD, List.getElem?_eq_getElem (by rw [S.len]; exact il)]
        rfl
      have es4 : Tp H4 sp (VI sd) := es.same (sH H4 br3)
      refine ⟨_, rfl, _, rfl, sp, _, _, _, rfl, rfl, es4.sq, atI_nat (VI_get sd_at), _, rfl, rfl, _, rfl, ?_⟩
      have e1 : decide (V.int (sd.getD i 0 : Nat) = V.int (s : Nat)) = decide (sd.getD i 0 = s) := by
        rw [decide_eq_decide]
        constructor
        · intro z
          have := V.int.inj z
          omega
        · intro z
          rw [z]
      rw [e1]
      have ov := qv i x1 _ y2 (endsA_at il)
      by_cases c : sd.getD i 0 = s
      · rw [decide_eq_true c]
        cases eo : leftL ls g i with
        | nil =>
          rw [eo] at ov
          have hx : x1 = .non := ov
          subst hx
          refine iteT ⟨_, rfl, rfl, _, rfl, iteF ⟨us, _, _, rfl, eD3, ?_, br3⟩⟩
          have : rawP ls g sd s i = none := by
            unfold rawP fst
            rw [if_pos c, eo]
            rfl
          rw [rawS i il, this]
          simpa using rt3
        | cons a t =>
          rw [eo] at ov
          obtain ⟨t1, rfl, et1⟩ := ov
          have nt1 : t1 ≠ D := fun z => by rw [z, eD1] at et1; cases et1
          have et4 := br3 _ _ nt1 nt1 et1
          refine iteT ⟨_, rfl, rfl, _, rfl, iteT ⟨_, rfl, .inl ⟨rfl, _, SqL.of eD3⟩, _, rfl, _, rfl, t1, _, _, _, rfl, rfl, SqT.of et4, atI_nat (j := 0) rfl, i, a, rfl, fun r H5 s5 nr er => ?_⟩⟩
          have eD5 := s5 _ _ eD3
          refine ⟨D, _, _, rfl, rfl, eD5, ?_, us ++ [r], _, _, rfl, by rw [upd_same]; simp, ?_, (br3.trans (.same s5)).trans .upd_h⟩
          · rw [List.length_map, rt3.1]
            unfold rows2
            rw [List.length_map]
            have := List.length_filterMap_le (rawP ls g sd s) (List.range i)
            rw [List.length_range] at this
            exact sz6' (by omega)
          · have : rawP ls g sd s i = some (lo i a, K14.hi i a) := by
              unfold rawP fst
              rw [if_pos c, eo]
              rfl
            rw [rawS i il, this]
            unfold rows2
            rw [List.map_append]
            exact ((rt3.same s5).app (RsT.one er)).put eD5
      · rw [decide_eq_false c]
        refine iteF (iteF ⟨us, _, _, rfl, eD3, ?_, br3⟩)
        have : rawP ls g sd s i = none := by
          unfold rawP
          rw [if_neg c]
        rw [rawS i il, this]
        simpa using rt3
    · rintro σ H2 ⟨us, y4, y5, rfl, eD2, rt, br⟩
      rw [lv] at rt
      refine ⟨_, rfl, ?_⟩
      dsimp only [tNil]
      refine sort_pairs (K := K) eD2 rt (raw_perm ok G S hs) (pairs_asc _) fun us' p np rt' => ?_
      have sp' := same_upd (o := .lst (us'.map V.ref)) np
      refine ⟨p, _, rfl, .inl ⟨SqL.of upd_same, fun r nr => ?_⟩⟩
      have sr := same_upd (o := .tup (us'.map V.ref)) nr
      refine q r g _ G ((sH H2 br).trans (sp'.trans sr)) ⟨us', upd_same, rt'.1, fun i a x h1 h2 => .inl ?_⟩
      exact sr _ _ (sp' _ _ (rt'.2 i a x h1 h2))
end
end K14
namespace K14
open PySem PySem.Spec PyProof.Rows L2
def spBetween : Sp := fun vs H Q _ => ∃ (h l sp : Addr) (sd : List Nat) (share : Int), vs = [.ref h, .ref sp, .int share] ∧ Src H h l ∧ Tp H sp (VI sd) ∧ (∀ p, p < sd.length → sd.getD p 0 ≤ 1) ∧ sd.length ≤ 100 ∧ 0 < share ∧ share < 1000 ∧
  ∀ (r : Addr) (ls : List (List Nat)) (H' : Hp), ListsOk sd.length ls → Sided ls sd → Src H' h l → Bar h l H H' → H r = none → LX H' r ls → Q (.ref r) H'
theorem scBetween : FnScope ["heap", "sides", "share", "found", "one", "other", "person", "row"] ["heap", "sides", "share"] (defScope sLBetween) := ⟨rfl, rfl, rfl, by decide +kernel, rfl, by decide +kernel, by decide +kernel⟩
/-- on lists while they grow are those of the other side alone -/
def Apart (sd : List Nat) (L : Nat → List Nat) : Prop := ∀ i j, j ∈ L i → sd.getD j 0 ≠ sd.getD i 0
theorem Apart.put {sd : List Nat} {L : Nat → List Nat} {a b : Nat} (h : Apart sd L) (ne : sd.getD a 0 ≠ sd.getD b 0) : Apart sd (putL (putL L a b) b a) := by
  intro i j hj
  rw [mem_putL, mem_putL] at hj
  rcases hj with (hj | ⟨rfl, rfl⟩) | ⟨rfl, rfl⟩
  · exact h i j hj
  · exact Ne.symm ne
  · exact ne
section
variable {P : Program} {w : World} {K : PySem.W.Frag} {mg : Str → Option Value} {base : Heap}
theorem ok_between {f g p : Addr} {fd gd pd : FuncData} {k : Nat} (F : Fun K "_law_between" "_law_between" sLBetween f fd) (G : FnOk P w K mg base CX0 k g gd ["heap", "many"] spDraw) (bG : Binds K gd ["heap", "many"] []) (kG : PySem.W.keepIn K (.ref g) = true) (mG : mg "_law_draw" = some (.ref g))
    (R : FnOk P w K mg base CX0 k p pd ["heap", "some"] spShuffled) (bR : Binds K pd ["heap", "some"] []) (kR : PySem.W.keepIn K (.ref p) = true) (mR : mg "_law_shuffled" = some (.ref p)) (mr : mg "range" = none) (mt : mg "tuple" = none) (mlen : mg "len" = none) :
    FnOk P w K mg base CX0 (k + 1) f fd ["heap", "sides", "share"] spBetween := by
  refine F.ok scBetween (fun vs H Q E h => ?_) (fun cdv A outer s H vs Q E hr h => ?_)
  · obtain ⟨h, l, sp, sd, share, rfl, _⟩ := h
    rfl
  · obtain ⟨h, l, sp, sd, share, rfl, src, esd, two, m1, s0, s1, q⟩ := h
    refine ⟨_, pss_cons (ps_setLc (i := 3) (own := [("person", 6)]) (g := gName 6) (tt := tYes) rfl scBetween.nd rfl rfl (sw_true rfl rfl rfl (by decide +kernel)) (pi_tup (pv 1))
          (blkOk_by (own := [("person", 6)]) (N := ["heap", "sides", "share", "found", "one", "other", "person", "row"]) (sc := defScope sLBetween) (by decide +kernel)) (fun _ _ _ _ _ => pg_name (i := 6) scBetween.nd rfl (Or.inl rfl)) (fun _ _ _ _ _ => pts_nil)
          (fun _ _ _ _ _ => pe_lst pa_nil))
      (pss_cons (ps_for PassesOwn.never rfl (pi_range1 rfl mr (pa_cons (pe_callB call_len_seq (by rfl) mlen PySem.boot_len (pa_cons (pv 1) pa_nil)) pa_nil)) (pg_name (i := 4) scBetween.nd rfl (.inl rfl))
        (pss_one (ps_for PassesOwn.never rfl (pi_range2 (by rfl) mr (pa_cons (pe_op op_add (pv 4) pe_int) (pa_cons (pe_callB call_len_seq (by rfl) mlen PySem.boot_len (pa_cons (pv 1) pa_nil)) pa_nil))) (pg_name (i := 5) scBetween.nd rfl (.inl rfl))
          (pss_one (ps_if (PW.pt (pw_and (pt_cmpR op_ne (pe_ix ix_tup (pv 1) (pv 4) (fun _ _ => rfl)) (pe_ix ix_tup (pv 1) (pv 5) (fun _ _ => rfl)) (nomark _)) (pw_and1 (pt_cmpR op_gt (pe_call G hr rfl mG kG bG .nil pass0 (pa_cons (pv 0) (pa_cons (pv 2) pa_nil))) pe_int (nomark _)))))
            (pss_cons (ps_expr (pe_bm PySem.F.plainAttrs_list PySem.F.slot_list_append PySem.F.type_list_append mt_append (pe_ix ix_list (pv 3) (pv 4) (fun _ _ => rfl)) (pa_cons (pv 5) pa_nil)))
            (pss_one (ps_expr (pe_bm PySem.F.plainAttrs_list PySem.F.slot_list_append PySem.F.type_list_append mt_append (pe_ix ix_list (pv 3) (pv 5) (fun _ _ => rfl)) (pa_cons (pv 4) pa_nil)))))
            pss_nil)))))
      (pss_one (ps_ret (pe_callTy call_tuple_of (by rfl) mt (by decide +kernel) (pa_cons (pe_lc (own := [("row", 7)]) (g := gName 7) (tt := tYes) rfl scBetween.nd (pi_list (pv 3))
          (blkOk_by (own := [("row", 7)]) (N := ["heap", "sides", "share", "found", "one", "other", "person", "row"]) (sc := defScope sLBetween) (by decide +kernel)) (fun _ _ _ _ _ => pg_name (i := 7) scBetween.nd rfl (Or.inl rfl)) (fun _ _ _ _ _ => pts_nil)
          (fun _ _ _ _ _ => pe_call R hr rfl mR kR bR .nil pass0 (pa_cons (pv 0) (pa_cons (pv 7) pa_nil)))) pa_nil))))), ?_⟩
    obtain ⟨many, hm⟩ : ∃ many : Nat, many = sd.length := ⟨_, rfl⟩
    rw [← hm] at q m1 two
    have vl : (VI sd).length = many := by rw [VI_len, hm]
    refine ⟨_, rfl, sp, rfl, ⟨_, esd.sq⟩, fun D nD => ?_⟩
    obtain ⟨nDh, nDl⟩ := src.new nD
    refine lc_it (walk_tup (K := K) (a := sp) (xs := VI sd)) (fun i H' => ∃ rs : List Addr, RowsAt H' D rs (fun _ => []) ∧ rs.length = i ∧ rs.Nodup ∧ (∀ r ∈ rs, H r = none ∧ r ≠ D) ∧ Src H' h l ∧ Bar h l H H')
      ⟨[], ⟨upd_same, fun k q e => by simp at e⟩, rfl, List.nodup_nil, by simp, src.updn nD, Bar.refl.fresh nD⟩ (fun i H' _ ⟨_, _, _, _, _, _, br⟩ => (esd.bar src br).sq) ?_ ?_
    · rintro i x H4 H4' hi ⟨rs, ra, rl, nd, rn, sr, br⟩ ⟨rfl, _⟩
      rw [vl] at hi
      refine gn ⟨rfl, yes ?_⟩
      refine ⟨Nat.zero_le _, fun r nr => ?_⟩
      have nr0 := br.free sr nr
      obtain ⟨nrh, nrl⟩ := sr.new nr
      have nrD : r ≠ D := fun e => by rw [e, ra.top] at nr; cases nr
      have nrr : r ∉ rs := fun e => by
        obtain ⟨k, hk, ek⟩ := List.mem_iff_getElem.mp e
        have := ra.row k r (by rw [List.getElem?_eq_getElem hk, ek])
        rw [nr] at this
        cases this
      have nDr : D ≠ r := Ne.symm nrD
      refine ⟨_, by rw [upd_ne nDr]; exact ra.top, by rw [List.length_map]; exact sz6 (by omega), rs ++ [r], ⟨by rw [upd_same]; simp, ?_⟩, by simp [rl], ?_, ?_, (sr.updn nr).put nDh nDl, (br.fresh nr0).fresh nD⟩
      · intro k q ek
        rw [List.getElem?_append] at ek
        split at ek
        · rename_i hk
          have hq : q ∈ rs := List.mem_of_getElem? ek
          rw [upd_ne (rn q hq).2, upd_ne (fun z => nrr (by rw [← z]; exact hq))]
          exact ra.row k q ek
        · have : q = r := by
            rw [List.getElem?_singleton] at ek
            split at ek
            · exact (Option.some.inj ek).symm
            · cases ek
          subst this
          rw [upd_ne nrD, upd_same]
          rfl
      · rw [List.nodup_append]
        refine ⟨nd, by simp, fun x hx y hy e => ?_⟩
        rw [List.mem_singleton.mp hy] at e
        subst e
        exact nrr hx
      · intro x hx
        rcases List.mem_append.mp hx with hx | hx
        · exact rn x hx
        · rw [List.mem_singleton.mp hx]
          exact ⟨nr0, nrD⟩
    · rintro H4 ⟨rs, ra0, rl, nd, rn, sr0, br0⟩
      rw [vl] at rl
      refine gn ?_
      dsimp only [List.set, L2.start]
      have rq : ∀ r ∈ rs, r ≠ h ∧ r ≠ l ∧ r ≠ D := fun r hr => ⟨(src.new (rn r hr).1).1, (src.new (rn r hr).1).2, (rn r hr).2⟩
      have rix : ∀ i, i < many → ∃ r, rs[i]? = some r ∧ r ∈ rs := fun i hi => ⟨rs[i]'(by omega), List.getElem?_eq_getElem (by omega), List.getElem_mem _⟩
      refine ⟨_, rfl, sp, _, rfl, .inr (esd.bar src br0).sq, ?_⟩
      rw [vl]
      refine ⟨_, rfl, by omega, by omega, for_range (lo := 0) (n := many) (fun i σ H' => ∃ (L : Nat → List Nat) (y z : Option V), σ = [some (.ref h), some (.ref sp), some (.int share), some (.ref D), y, z, none, none] ∧ RowsAt H' D rs L ∧ Grow many i 0 L ∧ Apart sd L ∧ Src H' h l ∧ Bar h l H H')
        ⟨fun _ => [], none, none, rfl, ra0, .nil, fun _ _ h => (by cases h), sr0, br0⟩ ?_ ?_⟩
      · rintro i σ H5 hi ⟨L, y, z, rfl, ra, gw, ap, sr, br⟩
        rw [Int.zero_add]
        refine gn ?_
        dsimp only [List.set]
        refine ⟨_, rfl, _, _, rfl, rfl, _, rfl, sp, _, rfl, .inr (esd.bar src br).sq, ?_⟩
        rw [vl]
        refine ⟨_, _, rfl, ⟨by omega, by omega, by omega, by omega⟩, ?_⟩
        have en : ((many : Int) - ((i : Int) + 1)).toNat = many - (i + 1) := by omega
        rw [en]
        refine for_range (lo := (i : Int) + 1) (n := many - (i + 1)) (fun j σ H' => ∃ (L : Nat → List Nat) (z : Option V), σ = [some (.ref h), some (.ref sp), some (.int share), some (.ref D), some (.int (i : Nat)), z, none, none] ∧ RowsAt H' D rs L ∧ Grow many i (i + 1 + j) L ∧ Apart sd L ∧ Src H' h l ∧ Bar h l H H')
          ⟨L, z, rfl, ra, gw.mono fun a b ab bm h => by omega, ap, sr, br⟩ ?_ ?_
        · rintro j σ H6 hj ⟨L, z, rfl, ra, gw, ap, sr, br⟩
          have ej : (i : Int) + 1 + (j : Int) = ((i + 1 + j : Nat) : Int) := by omega
          rw [ej]
          refine gn ?_
          dsimp only [List.set]
          have sdA : ∀ k, k < many → sd[k]? = some (sd.getD k 0) := fun k hk => by
            rw [List.getD_eq_getElem?_getD, List.getElem?_eq_getElem (by omega)]
            rfl
          have sq6 := (esd.bar src br).sq (K := K)
          refine ⟨_, rfl, _, rfl, sp, _, _, _, rfl, rfl, sq6, atI_nat (VI_get (sdA i hi)), _, rfl, _, rfl, sp, _, _, _, rfl, rfl, sq6, atI_nat (VI_get (sdA (i + 1 + j) (by omega))), rfl, _, rfl, ?_⟩
          have dv : (!decide (V.int (sd.getD i 0 : Nat) = V.int (sd.getD (i + 1 + j) 0 : Nat))) = decide (sd.getD i 0 ≠ sd.getD (i + 1 + j) 0) := by
            by_cases c : sd.getD i 0 = sd.getD (i + 1 + j) 0
            · rw [c]; simp
            · have c2 : ¬ (V.int (sd.getD i 0 : Nat) = V.int (sd.getD (i + 1 + j) 0 : Nat)) := fun z => c (by have := V.int.inj z; omega)
              rw [decide_eq_false c2, decide_eq_true c]
              rfl
          rw [dv]
          by_cases cs : sd.getD i 0 ≠ sd.getD (i + 1 + j) 0
          case neg =>
            rw [decide_eq_false cs]
            exact iteF (iteF ⟨L, _, rfl, ra, gw.mono fun a b ab bm h => by omega, ap, sr, br⟩)
          rw [decide_eq_true cs]
          refine iteT ?_
          refine ⟨_, rfl, _, rfl, h, l, _, rfl, sr, s0, by omega, fun x H7 x0 x1 sr7 br7 => ⟨_, _, rfl, rfl, _, rfl, ?_⟩⟩
          have ra7 : RowsAt H7 D rs L := ⟨br7 _ _ nDh nDl ra.top, fun k q e => br7 _ _ (rq q (List.mem_of_getElem? e)).1 (rq q (List.mem_of_getElem? e)).2.1 (ra.row k q e)⟩
          refine ite2 (fun c => ?_) (fun c => ?_)
          · obtain ⟨r1, e1, m1'⟩ := rix i hi
            obtain ⟨r2, e2, m2⟩ := rix (i + 1 + j) (by omega)
            have f1 : (rs.map V.ref)[i]? = some (V.ref r1) := by rw [List.getElem?_map, e1]; rfl
            have f2 : (rs.map V.ref)[i + 1 + j]? = some (V.ref r2) := by rw [List.getElem?_map, e2]; rfl
            have bnd : ∀ L, Grow many i (i + 1 + j) L → ∀ k, (L k).length ≤ many := fun L g k => by
              have := List.Nodup.length_le_card_of_sub (g.nd k) (fun x hx => (g.both k x hx).1)
              exact this
            refine ⟨_, rfl, _, rfl, D, _, _, _, rfl, rfl, SqL.of ra7.top, atI_nat f1, .inl ⟨rfl, _, SqL.of (ra7.row i r1 e1)⟩, _, rfl, r1, _, _, rfl, rfl, ra7.row i r1 e1, by rw [VI_len]; exact sz6 (Nat.le_trans (bnd L gw i) (by omega)), ?_⟩
            have ra8 : RowsAt (upd H7 r1 (.lst (VI (L i) ++ [V.int ((i + 1 + j : Nat) : Int)]))) D rs (putL L i (i + 1 + j)) := ⟨by rw [upd_ne (Ne.symm (rq r1 m1').2.2)]; exact ra7.top, row_put nd e1 ra7.row⟩
            have sr8 := sr7.put (o := .lst (VI (L i) ++ [V.int ((i + 1 + j : Nat) : Int)])) (rq r1 m1').1 (rq r1 m1').2.1
            have br8 := (br.trans br7).fresh (o := .lst (VI (L i) ++ [V.int ((i + 1 + j : Nat) : Int)])) (rn r1 m1').1
            generalize upd H7 r1 (.lst (VI (L i) ++ [V.int ((i + 1 + j : Nat) : Int)])) = H8 at ra8 sr8 br8
            refine ⟨_, rfl, _, rfl, D, _, _, _, rfl, rfl, SqL.of ra8.top, atI_nat f2, .inl ⟨rfl, _, SqL.of (ra8.row _ r2 e2)⟩, _, rfl, r2, _, _, rfl, rfl, ra8.row _ r2 e2, ?_, ?_⟩
            · rw [VI_len]
              refine sz6 (Nat.le_trans (m := many + 1) ?_ (by omega))
              unfold putL
              split
              · rw [List.length_append]
                have := bnd L gw i
                simp
                exact this
              · have := bnd L gw (i + 1 + j)
                omega
            · refine ⟨putL (putL L i (i + 1 + j)) (i + 1 + j) i, _, rfl, ⟨by rw [upd_ne (Ne.symm (rq r2 m2).2.2)]; exact ra8.top, row_put nd e2 ra8.row⟩, gw.put (by omega) (by omega), ap.put cs, sr8.put (rq r2 m2).1 (rq r2 m2).2.1, br8.fresh (rn r2 m2).1⟩
          · exact ⟨L, _, rfl, ra7, gw.mono fun a b ab bm h => by omega, ap, sr7, br.trans br7⟩
        · rintro σ H6 ⟨L, z, rfl, ra, gw, ap, sr, br⟩
          exact ⟨L, _, z, rfl, ra, gw.mono fun a b ab bm h => by omega, ap, sr, br⟩
      · rintro σ H5 ⟨L, y, z, rfl, ra, gw, ap, sr, br⟩
        refine ⟨_, rfl, D, rfl, ⟨_, SqL.of ra.top⟩, fun C nC => ?_⟩
        have nC0 := br.free sr nC
        obtain ⟨nCh, nCl⟩ := sr.new nC
        have nDC : D ≠ C := ne_of_none ra.top nC
        have rC : ∀ r ∈ rs, r ≠ C := fun r hr e => by
          obtain ⟨k, hk, ek⟩ := List.mem_iff_getElem.mp hr
          have := ra.row k r (by rw [List.getElem?_eq_getElem hk, ek])
          rw [e, nC] at this
          cases this
        refine lc_list (K := K) (a := D) (xs := rs.map V.ref) (fun i H' => ∃ (ts : List Addr) (ls : List (List Nat)), H' C = some (.lst (ts.map V.ref)) ∧ ls.length = i ∧ RwX H' ts ls ∧ (∀ (j : Nat) (s : List Nat), ls[j]? = some s → s.Perm (L j)) ∧ RowsAt H' D rs L ∧ Src H' h l ∧ Bar h l H H')
          ⟨[], [], upd_same, rfl, ⟨rfl, fun _ _ _ e => by simp at e⟩, fun _ _ e => (by simp at e), ⟨by rw [upd_ne nDC]; exact ra.top, fun k q e => by rw [upd_ne (rC q (List.mem_of_getElem? e))]; exact ra.row k q e⟩, sr.updn nC, br.fresh nC0⟩ (fun i H' _ ⟨_, _, _, _, _, _, r, _⟩ => SqL.of r.top) ?_ ?_
        · rintro i x H6 hx ⟨ts, ls, eC, ll, rw6, pm, ra6, sr6, br6⟩
          obtain ⟨r, er, rfl⟩ : ∃ r, rs[i]? = some r ∧ x = V.ref r := by
            rw [List.getElem?_map] at hx
            cases e : rs[i]? with
            | none => rw [e] at hx; cases hx
            | some r => rw [e] at hx; exact ⟨r, rfl, (Option.some.inj hx).symm⟩
          have hr' := List.mem_of_getElem? er
          have hi : i < many := by have := (List.getElem?_eq_some_iff.mp er).1; omega
          refine gn ⟨rfl, yes ?_⟩
          refine ⟨_, rfl, _, rfl, h, l, r, VI (L i), rfl, sr6, .inl (ra6.row i r er), (rq r hr').1, (rq r hr').2.1, ?_, fun t ys H7 py sr7 br7 nt et => ?_⟩
          · rw [VI_len]
            exact Nat.le_trans (List.Nodup.length_le_card_of_sub (gw.nd i) fun x hx => (gw.both i x hx).1) (by omega)
          · obtain ⟨s, rfl, ps⟩ := perm_VI py
            have eC7 := br7 _ _ nCh nCl eC
            have ra7 : RowsAt H7 D rs L := ⟨br7 _ _ nDh nDl ra6.top, fun k q e => br7 _ _ (rq q (List.mem_of_getElem? e)).1 (rq q (List.mem_of_getElem? e)).2.1 (ra6.row k q e)⟩
            have tl : ts.length = i := by rw [rw6.1, ll]
            have nCt : t ≠ C := et.ne_lst eC7
            refine ⟨_, eC7, by rw [List.length_map, tl]; exact sz6 (by omega), ts ++ [t], ls ++ [s], by rw [upd_same]; simp, by simp [ll], ⟨by simp [rw6.1], ?_⟩, ?_, ⟨by rw [upd_ne nDC]; exact ra7.top, fun k q e => by rw [upd_ne (rC q (List.mem_of_getElem? e))]; exact ra7.row k q e⟩, sr7.put nCh nCl, (br6.trans br7).fresh nC0⟩
            · intro j a s' ea es
              have old := (RwX.bar rw6 sr6 br7).2
              by_cases c : j < ts.length
              · rw [List.getElem?_append_left c] at ea
                rw [List.getElem?_append_left (by rw [← rw6.1]; exact c)] at es
                have e7 := old j a s' ea es
                exact e7.put (e7.ne_lst eC7)
              · rw [List.getElem?_append_right (by omega), List.getElem?_singleton] at ea
                rw [List.getElem?_append_right (by rw [← rw6.1]; omega), List.getElem?_singleton] at es
                split at ea
                · split at es
                  · cases ea
                    cases es
                    exact et.put nCt
                  · cases es
                · cases ea
            · intro j s' es
              by_cases c : j < ls.length
              · rw [List.getElem?_append_left c] at es
                exact pm j s' es
              · rw [List.getElem?_append_right (by omega), List.getElem?_singleton] at es
                split at es
                · cases es
                  have : j = i := by omega
                  subst this
                  exact ps
                · cases es
        · rintro H6 ⟨ts, ls, eC, ll, rw6, pm, ra6, sr6, br6⟩
          rw [List.length_map, rl] at ll
          refine ⟨C, _, rfl, .inl ⟨SqL.of eC, fun r nr => ?_⟩⟩
          have okL := gw.ok ll pm
          have sdd : Sided ls sd := ⟨by omega, fun p hp => two p (by omega), fun p o hp ho => by
            have e : ls[p]? = some (la ls p) := la_get hp
            exact ap p o ((pm p _ e).mem_iff.mp ho)⟩
          exact q r ls _ okL sdd (sr6.updn nr) (br6.fresh (br6.free sr6 nr)) (br6.free sr6 nr) ⟨ts, upd_same, rw6.1, fun i a s e1 e2 => (rw6.2 i a s e1 e2).same (same_upd nr)⟩
end
end K14
namespace K14
open PySem PySem.Spec PyProof.Rows L2
/-! ### all pairings, one pair after another -/
theorem ha_setO {hs : List (Option Nat)} {j q : Nat} {v : Option Nat} (hj : j < hs.length) : ha (hs.set j v) q = if q = j then v else ha hs q := by
  unfold ha
  rw [List.getD_eq_getElem?_getD, List.getElem?_set, List.getD_eq_getElem?_getD]
  by_cases c : j = q
  · subst c
    rw [if_pos rfl, if_pos hj, if_pos rfl]
    rfl
  · rw [if_neg c, if_neg (fun z => c z.symm)]
def set2 (r : List (Option Nat)) (a b : Nat) (v w : Option Nat) : List (Option Nat) := (r.set a v).set b w
theorem ha_set2 {r : List (Option Nat)} {a b q : Nat} {v w : Option Nat} (ha' : a < r.length) (hb : b < r.length) : ha (set2 r a b v w) q = if q = b then w else if q = a then v else ha r q := by
  unfold set2
  rw [ha_setO (by simpa using hb), ha_setO ha']
/-- those greater on a list -/
def up (ls : List (List Nat)) (p : Nat) : List Nat := (la ls p).filter fun o => decide (p < o)
/-- pairings of the pairs so far -/
structure PR (ls : List (List Nat)) (one j : Nat) (row : List (Option Nat)) : Prop where
  pg : Pairg ls row
  past : ∀ p o, ha row p = some o → p < o → p < one ∨ (p = one ∧ o ∈ (up ls one).take j)
section
variable {ls : List (List Nat)} (ok : ListsOk ls.length ls)
theorem pr_none : PR ls 0 0 (List.replicate ls.length none) := ⟨⟨⟨by simp, fun p j e => by rw [ha_none] at e; cases e⟩, fun p j e => by rw [ha_none] at e; cases e⟩, fun p o e => by rw [ha_none] at e; cases e⟩
include ok in
theorem pr_zero {row : List (Option Nat)} (h : PR ls 0 0 row) : row = List.replicate ls.length none := by
  have hn : ∀ q, ha row q = none := fun q => by
    cases e : ha row q with
    | none => rfl
    | some o =>
      rcases Nat.lt_trichotomy q o with lt | rfl | gt
      · rcases h.past q o e lt with h1 | h1
        · omega
        · simp at h1
      · obtain ⟨h1, h2⟩ := h.pg.ok.on q q e
        exact absurd rfl (ok.mate h1 h2).2.1
      · have s := h.pg.sym q o e
        rcases h.past o q s gt with h1 | h1
        · omega
        · simp at h1
  apply List.ext_getElem?
  intro q
  by_cases c : q < ls.length
  · rw [ha_get (hs := row) (by rw [h.pg.ok.len]; exact c), hn q, List.getElem?_replicate, if_pos c]
  · rw [List.getElem?_eq_none (by rw [h.pg.ok.len]; omega), List.getElem?_eq_none (by simp; omega)]
theorem up_mem {p o : Nat} : o ∈ up ls p ↔ o ∈ la ls p ∧ p < o := by
  unfold up
  rw [List.mem_filter, decide_eq_true_eq]
include ok in
theorem pr_step {one j o : Nat} (h1 : one < ls.length) (ho : (up ls one)[j]? = some o) (row : List (Option Nat)) :
    PR ls one (j + 1) row ↔ PR ls one j row ∨ ∃ r, PR ls one j r ∧ ha r one = none ∧ ha r o = none ∧ row = set2 r one o (some o) (some one) := by
  have tk : (up ls one).take (j + 1) = (up ls one).take j ++ [o] := by
    rw [List.take_succ, ho]
    rfl
  obtain ⟨om, lt⟩ := up_mem.mp (List.mem_of_getElem? ho)
  obtain ⟨o1, o2, o3⟩ := ok.mate h1 om
  have nd : (up ls one).Nodup := List.Pairwise.filter _ (ok.nda h1)
  have notin : o ∉ (up ls one).take j := fun hm => by
    obtain ⟨i, hi, ei⟩ := List.mem_iff_getElem.mp hm
    rw [List.length_take] at hi
    rw [List.getElem_take] at ei
    have e1 : (up ls one)[i]? = some o := by rw [List.getElem?_eq_getElem (by omega), ei]
    have := nodup_ix nd e1 ho
    omega
  constructor
  · intro h
    have len := h.pg.ok.len
    by_cases c : ha row one = some o
    · refine .inr ⟨set2 row one o none none, ?_, ?_, ?_, ?_⟩
      · have at_ : ∀ q, ha (set2 row one o none none) q = if q = o then none else if q = one then none else ha row q := fun q => ha_set2 (by omega) (by omega)
        have sub : ∀ q x, ha (set2 row one o none none) q = some x → ha row q = some x ∧ q ≠ o ∧ q ≠ one := fun q x e => by
          rw [at_] at e
          split at e
          · cases e
          · split at e
            · cases e
            · exact ⟨e, by assumption, by assumption⟩
        refine ⟨⟨⟨by simp [set2, len], fun q x e => h.pg.ok.on q x (sub q x e).1⟩, fun q x e => ?_⟩, fun q x e qx => ?_⟩
        · obtain ⟨e1, n1, n2⟩ := sub q x e
          have e2 := h.pg.sym q x e1
          rw [at_, if_neg, if_neg]
          · exact e2
          · intro z
            rw [z, c] at e2
            exact n1 (Option.some.inj e2).symm
          · intro z
            rw [z, h.pg.sym one o c] at e2
            exact n2 (Option.some.inj e2).symm
        · obtain ⟨e1, n1, n2⟩ := sub q x e
          rcases h.past q x e1 qx with z | z
          · exact .inl z
          · exact absurd z.1 n2
      · rw [ha_set2 (by omega) (by omega), if_neg (fun z => o2 z.symm), if_pos rfl]
      · rw [ha_set2 (by omega) (by omega), if_pos rfl]
      · apply List.ext_getElem?
        intro q
        by_cases d : q < ls.length
        · rw [ha_get (hs := row) (by omega), ha_get (hs := set2 (set2 row one o none none) one o (some o) (some one)) (by simp [set2]; omega)]
          rw [ha_set2 (by simp [set2]; omega) (by simp [set2]; omega), ha_set2 (by omega) (by omega)]
          by_cases q1 : q = o
          · rw [if_pos q1, q1, h.pg.sym one o c]
          · rw [if_neg q1]
            by_cases q2 : q = one
            · rw [if_pos q2, q2, c]
            · rw [if_neg q2, if_neg q1, if_neg q2]
        · rw [List.getElem?_eq_none (by omega), List.getElem?_eq_none (by simp [set2]; omega)]
    · refine .inl ⟨h.pg, fun p x e px => ?_⟩
      rcases h.past p x e px with z | ⟨z1, z2⟩
      · exact .inl z
      · rw [tk, List.mem_append, List.mem_singleton] at z2
        rcases z2 with z2 | z2
        · exact .inr ⟨z1, z2⟩
        · rw [z1, z2] at e
          exact absurd e c
  · rintro (h | ⟨r, h, n1, n2, rfl⟩)
    · refine ⟨h.pg, fun p x e px => ?_⟩
      rcases h.past p x e px with z | ⟨z1, z2⟩
      · exact .inl z
      · exact .inr ⟨z1, by rw [tk, List.mem_append]; exact .inl z2⟩
    · have len := h.pg.ok.len
      have at_ : ∀ q, ha (set2 r one o (some o) (some one)) q = if q = o then some one else if q = one then some o else ha r q := fun q => ha_set2 (by omega) (by omega)
      refine ⟨⟨⟨by simp [set2, len], fun q x e => ?_⟩, fun q x e => ?_⟩, fun q x e qx => ?_⟩
      · rw [at_] at e
        split at e
        · rename_i z
          cases e
          rw [z]
          exact ⟨o1, o3⟩
        · split at e
          · rename_i z
            cases e
            rw [z]
            exact ⟨h1, om⟩
          · exact h.pg.ok.on q x e
      · rw [at_] at e ⊢
        split at e
        · rename_i z
          cases e
          rw [if_neg (fun z => o2 z.symm), if_pos rfl, z]
        · split at e
          · rename_i z
            cases e
            rw [if_pos rfl, z]
          · rename_i z1 z2
            have s := h.pg.sym q x e
            rw [if_neg (fun z => by rw [z, n2] at s; cases s), if_neg (fun z => by rw [z, n1] at s; cases s)]
            exact s
      · rw [at_] at e
        split at e
        · rename_i z
          cases e
          omega
        · split at e
          · rename_i z
            cases e
            exact .inr ⟨z, by rw [tk, List.mem_append, List.mem_singleton]; exact .inr rfl⟩
          · rcases h.past q x e qx with z | ⟨z1, z2⟩
            · exact .inl z
            · exact .inr ⟨z1, by rw [tk, List.mem_append]; exact .inl z2⟩
include ok in
theorem pr_next {one : Nat} (h1 : one < ls.length) (row : List (Option Nat)) : PR ls (one + 1) 0 row ↔ PR ls one (up ls one).length row := by
  constructor
  · intro h
    refine ⟨h.pg, fun p o e po => ?_⟩
    rcases h.past p o e po with z | z
    · by_cases c : p = one
      · refine .inr ⟨c, ?_⟩
        rw [List.take_length, up_mem, ← c]
        exact ⟨(h.pg.ok.on p o e).2, po⟩
      · exact .inl (by omega)
    · simp at z
  · intro h
    refine ⟨h.pg, fun p o e po => .inl ?_⟩
    rcases h.past p o e po with z | z <;> omega
theorem pr_all (row : List (Option Nat)) : PR ls ls.length 0 row ↔ Pairg ls row := ⟨fun h => h.pg, fun h => ⟨h, fun p o e _ => .inl (h.ok.on p o e).1⟩⟩
/-! ### how many pairs there can be -/
def allL : Nat → List (List Nat)
  | 0 => [[]]
  | n + 1 => (allL n).flatMap fun t => [0 :: t, 1 :: t]
theorem mem_allL : ∀ (sd : List Nat), (∀ x ∈ sd, x ≤ 1) → sd ∈ allL sd.length
  | [], _ => by simp [allL]
  | a :: t, h => by
    show a :: t ∈ (allL t.length).flatMap _
    rw [List.mem_flatMap]
    refine ⟨t, mem_allL t fun x hx => h x (by simp [hx]), ?_⟩
    have := h a (by simp)
    have : a = 0 ∨ a = 1 := by omega
    rcases this with rfl | rfl <;> simp
def opp (sd : List Nat) (p : Nat) : List Nat := (List.range sd.length).filter fun o => decide (p < o) && decide (sd.getD o 0 ≠ sd.getD p 0)
def oppS (sd : List Nat) : Nat := ((List.range sd.length).map fun p => (opp sd p).length).sum
theorem opp16 {sd : List Nat} (h : ∀ x ∈ sd, x ≤ 1) (n : sd.length ≤ 8) : oppS sd ≤ 16 := by
  have all : ∀ n, n ≤ 8 → ((allL n).all fun sd => decide (oppS sd ≤ 16)) = true := by decide +kernel
  have := all sd.length n
  rw [List.all_eq_true] at this
  exact of_decide_eq_true (this sd (mem_allL sd h))
include ok in
theorem up_opp {sd : List Nat} (S : Sided ls sd) {p : Nat} (hp : p < ls.length) : (up ls p).length ≤ (opp sd p).length := by
  refine nodup_sub_len (List.Pairwise.filter _ (ok.nda hp)) fun o ho => ?_
  obtain ⟨om, lt⟩ := up_mem.mp ho
  unfold opp
  rw [List.mem_filter, List.mem_range, Bool.and_eq_true, decide_eq_true_eq, decide_eq_true_eq]
  exact ⟨by rw [S.len]; exact (ok.mate hp om).1, lt, S.apart p o hp om⟩
def upS (ls : List (List Nat)) (k : Nat) : Nat := ((List.range k).map fun p => (up ls p).length).sum
theorem upS_succ {k : Nat} : upS ls (k + 1) = upS ls k + (up ls k).length := by
  unfold upS
  rw [List.range_succ, List.map_append, List.sum_append]
  simp
include ok in
theorem up16 {sd : List Nat} (S : Sided ls sd) (n : ls.length ≤ 8) {k : Nat} (hk : k ≤ ls.length) : upS ls k ≤ 16 := by
  have h16 := opp16 (sd := sd) (fun x hx => by
    obtain ⟨p, hp, e⟩ := List.mem_iff_getElem.mp hx
    have := S.two p (by rw [← S.len]; exact hp)
    rw [List.getD_eq_getElem?_getD, List.getElem?_eq_getElem hp, e] at this
    exact this) (by rw [S.len]; exact n)
  have : ∀ k, k ≤ ls.length → upS ls k ≤ ((List.range k).map fun p => (opp sd p).length).sum := by
    intro k
    induction k with
    | zero => intro _; exact Nat.le_refl _
    | succ k ih =>
      intro hk
      rw [upS_succ, List.range_succ, List.map_append, List.sum_append]
      have h1 := ih (by omega)
      have h2 := up_opp ok S (show k < ls.length by omega)
      simp
      omega
  have mono : ∀ k m, k ≤ m → upS ls k ≤ upS ls m := by
    intro k m
    induction m with
    | zero => intro h; rw [show k = 0 by omega]; exact Nat.le_refl _
    | succ m ih =>
      intro h
      by_cases c : k = m + 1
      · rw [c]; exact Nat.le_refl _
      · rw [upS_succ]
        have := ih (by omega)
        omega
  have h1 := this ls.length (Nat.le_refl _)
  have h2 := mono k ls.length hk
  unfold oppS at h16
  rw [S.len] at h16
  omega
end
end K14
namespace K14
open PySem PySem.Spec PyProof.Rows L2
def HsT (H : Hp) (us : List Addr) (hss : List (List (Option Nat))) : Prop := us.length = hss.length ∧ ∀ (j : Nat) (u : Addr) (r : List (Option Nat)), us[j]? = some u → hss[j]? = some r → H u = some (.tup (VH r))
theorem HsT.same {H H' : Hp} {us : List Addr} {hss : List (List (Option Nat))} (t : HsT H us hss) (s : Same H H') : HsT H' us hss := ⟨t.1, fun j u r e1 e2 => s _ _ (t.2 j u r e1 e2)⟩
theorem HsT.at {H : Hp} {us : List Addr} {hss : List (List (Option Nat))} {j : Nat} {x : V} (t : HsT H us hss) (e : (us.map V.ref)[j]? = some x) : ∃ u r, x = .ref u ∧ us[j]? = some u ∧ hss[j]? = some r ∧ H u = some (.tup (VH r)) := by
  rw [List.getElem?_map] at e
  cases h : us[j]? with
  | none => rw [h] at e; cases e
  | some u =>
    rw [h] at e
    cases e
    have hl : j < hss.length := by
      rw [← t.1]
      exact (List.getElem?_eq_some_iff.mp h).1
    exact ⟨u, hss[j], rfl, rfl, List.getElem?_eq_getElem hl, t.2 j u _ h (List.getElem?_eq_getElem hl)⟩
theorem HsT.app {H : Hp} {us us' : List Addr} {hss hss' : List (List (Option Nat))} (t : HsT H us hss) (t' : HsT H us' hss') : HsT H (us ++ us') (hss ++ hss') := by
  refine ⟨by rw [List.length_append, List.length_append, t.1, t'.1], fun j u r e1 e2 => ?_⟩
  by_cases c : j < us.length
  · rw [List.getElem?_append_left c] at e1
    rw [List.getElem?_append_left (by rw [← t.1]; exact c)] at e2
    exact t.2 j u r e1 e2
  · rw [List.getElem?_append_right (by omega)] at e1
    rw [List.getElem?_append_right (by rw [← t.1]; omega), ← t.1] at e2
    exact t'.2 _ u r e1 e2
theorem HsT.bar {H H' : Hp} {h l : Addr} {us : List Addr} {hss : List (List (Option Nat))} (t : HsT H us hss) (s : Src H h l) (b : Bar h l H H') : HsT H' us hss := ⟨t.1, fun j u r e1 e2 => tup_bar s b (t.2 j u r e1 e2)⟩
theorem cut_mid (xs : List V) (a b : Nat) (h : a + 1 ≤ b) (hb : b ≤ xs.length) : cutV xs (some ((a : Nat) + 1 : Int)) (some ((b : Nat) : Int)) = (xs.take b).drop (a + 1) := by
  unfold cutV
  rw [show HT.sIx xs.length xs.length (some ((b : Nat) : Int)) = min b xs.length from HT.sIx_nat _ _ b, show HT.sIx xs.length 0 (some ((a : Nat) + 1 : Int)) = min (a + 1) xs.length from HT.sIx_nat _ _ (a + 1)]
  rw [Nat.min_eq_left hb, Nat.min_eq_left (by omega), List.drop_take]
theorem set2_cut (xs : List V) (a b : Nat) (v w : V) (h : a < b) (hb : b < xs.length) : xs.take a ++ ([v] ++ ((xs.take b).drop (a + 1) ++ ([w] ++ xs.drop (b + 1)))) = (xs.set a v).set b w := by
  have h1 := set_cut (xs.set a v) b w (by simpa using hb)
  have h2 := set_cut (xs.take b) a v (by simp; omega)
  rw [List.take_take, Nat.min_eq_left (by omega)] at h2
  rw [← h1, List.take_set, ← h2]
  have h3 : (xs.set a v).drop (b + 1) = xs.drop (b + 1) := by
    rw [List.drop_set, if_pos (by omega)]
  rw [h3]
  simp only [List.append_assoc]
def spPairings : Sp := fun vs H Q _ => ∃ (a : Addr) (ls : List (List Nat)) (sd : List Nat), vs = [.ref a] ∧ LX H a ls ∧ 1 ≤ ls.length ∧ ls.length ≤ 8 ∧ ListsOk ls.length ls ∧ Sided ls sd ∧
  ∀ (r : Addr) (us : List Addr) (hss : List (List (Option Nat))) H', Same H H' → H' r = some (.lst (us.map V.ref)) → HsT H' us hss → hss.length ≤ 65536 → (∀ row, row ∈ hss ↔ Pairg ls row) → Q (.ref r) H'
abbrev nPs : List Str := ["lists", "found", "one", "other", "longer", "row", "person"]
theorem scPs : FnScope ["lists", "found", "one", "other", "longer", "row", "person"] ["lists"] (defScope sLPairings) := ⟨rfl, rfl, rfl, by decide +kernel, rfl, by decide +kernel, by decide +kernel⟩
abbrev tGt (K : PySem.W.Frag) : TT := tTest (tOp (rI0 fun i j => V.bl (decide (i > j))) (tVar 6) (tVar 2))
abbrev rNone : R2 := fun x y H Q => y = V.non ∧ Q (V.bl (decide (x = V.non))) H
abbrev teSet2 (K : PySem.W.Frag) : TE := tOp (rCatA K) (tOp (rCatA K) (tOp (rCatA K) (tOp (rCatA K) (tSl (rSlA K) (tVar 5) tNoPart (tPart (tVar 2))) (tTup (tCons (tVar 3) tNil))) (tSl (rSlA K) (tVar 5) (tPart (tOp (rI0 fun i j => V.int (i + j)) (tVar 2) (tC (.int 1)))) (tPart (tVar 3)))) (tTup (tCons (tVar 2) tNil))) (tSl (rSlA K) (tVar 5) (tPart (tOp (rI0 fun i j => V.int (i + j)) (tVar 3) (tC (.int 1)))) tNoPart)
section
variable {P : Program} {w : World} {K : PySem.W.Frag} {mg : Str → Option Value} {base : Heap}
theorem te_set2 {σ : L2.St} {H : Hp} {t : Addr} {r : List (Option Nat)} {a b : Nat} {Q : VK} (e5 : σ[5]? = some (some (.ref t))) (e2 : σ[2]? = some (some (.int (a : Nat)))) (e3 : σ[3]? = some (some (.int (b : Nat)))) (et : H t = some (.tup (VH r))) (h : a < b) (hb : b < r.length) (n : r.length ≤ 100)
    (q : ∀ c H', Same H H' → H' c = some (.tup (VH (set2 r a b (some b) (some a)))) → Q (.ref c) H') : teSet2 K σ H Q := by
  have vl : (VH r).length = r.length := VH_len r
  refine ⟨_, e5, _, e2, _, rfl, slC et fun c1 H1 s1 e1' => ?_⟩
  refine ⟨_, e3, (by show 1 ≤ sizeLine; decide), fun u1 nu1 => ?_⟩
  have su1 := same_upd (o := .tup [.int (b : Nat)]) nu1
  refine catV (su1 _ _ e1') upd_same (by rw [cut_take, List.length_take, vl]; simp; omega) fun c2 H2 s2 e2' => ?_
  have s12 := s1.trans (su1.trans s2)
  refine ⟨_, e5, _, e2, _, _, rfl, rfl, _, rfl, _, e3, _, rfl, slC (s12 _ _ et) fun c3 H3 s3 e3' => ?_⟩
  have l1 : (cutV (VH r) none (some ((a : Nat) : Int)) ++ [V.int (b : Nat)]).length ≤ 101 := by
    rw [List.length_append, cut_take, List.length_take, vl]
    simp
    omega
  have l3 : (cutV (VH r) (some ((a : Nat) + 1 : Int)) (some ((b : Nat) : Int))).length ≤ 100 := by
    rw [cut_mid _ _ _ (by omega) (by omega), List.length_drop, List.length_take, vl]
    omega
  refine catV (s3 _ _ e2') e3' (by omega) fun c4 H4 s4 e4' => ?_
  refine ⟨_, e2, (by show 1 ≤ sizeLine; decide), fun u2 nu2 => ?_⟩
  have su2 := same_upd (o := .tup [.int (a : Nat)]) nu2
  refine catV (su2 _ _ e4') upd_same (by rw [List.length_append]; simp only [List.length_cons, List.length_nil]; omega) fun c5 H5 s5 e5' => ?_
  have s15 := s12.trans (s3.trans (s4.trans (su2.trans s5)))
  refine ⟨_, e5, _, e3, _, _, rfl, rfl, _, rfl, ?_⟩
  dsimp only [L2.tNoPart]
  refine slC (s15 _ _ et) fun c6 H6 s6 e6' => ?_
  have l6 : (cutV (VH r) (some ((b : Nat) + 1 : Int)) none).length ≤ 100 := by
    rw [cut_drop, List.length_drop, vl]
    omega
  refine catV (s6 _ _ e5') e6' (by simp only [List.length_append, List.length_cons, List.length_nil] at *; omega) fun c7 H7 s7 e7' => ?_
  refine q c7 H7 (s15.trans (s6.trans s7)) ?_
  rw [e7', cut_take, cut_drop, cut_mid _ _ _ (by omega) (by omega)]
  congr 2
  have := set2_cut (VH r) a b (V.int (b : Nat)) (V.int (a : Nat)) h (by omega)
  simp only [List.append_assoc] at this ⊢
  rw [this]
  unfold set2 VH
  rw [List.map_set, List.map_set]
  rfl
theorem ok_pairings {f : Addr} {fd : FuncData} {k : Nat} (F : Fun K "_law_pairings" "_law_pairings" sLPairings f fd) (ml : mg "len" = none) (mrg : mg "range" = none) : FnOk P w K mg base CX0 (k + 1) f fd ["lists"] spPairings := by
  refine F.ok scPs (fun vs H Q E h => ?_) (fun cdv A outer s H vs Q E hr h => ?_)
  · obtain ⟨a, ls, sd, rfl, _⟩ := h
    rfl
  · obtain ⟨a, ls, sd, rfl, lx, n1, n8, ok, S, q⟩ := h
    refine ⟨_, pss_cons (ps_set (i := 1) scPs.nd rfl (.inl rfl) (pe_lst (pa_cons (pe_op op_repA (pe_tup (pa_cons pe_non pa_nil)) (pe_callB call_len_seq (by rfl) ml PySem.boot_len (pa_cons (pv 0) pa_nil))) pa_nil)))
      (pss_cons (ps_for PassesOwn.never rfl (pi_range1 rfl mrg (pa_cons (pe_callB call_len_seq (by rfl) ml PySem.boot_len (pa_cons (pv 0) pa_nil)) pa_nil)) (pg_name (i := 2) scPs.nd rfl (.inr rfl))
        (pss_one (ps_for PassesOwn.never rfl (pi_list (pe_lc (own := [("person", 6)]) (g := gName 6) (tt := tGt K) rfl scPs.nd (pi_tup (pe_ix ix_tup (pv 0) (pv 2) (fun _ _ => rfl)))
            (blkOk_by (own := [("person", 6)]) (N := nPs) (sc := defScope sLPairings) (by decide +kernel)) (fun _ _ _ _ _ => pg_name (i := 6) scPs.nd rfl (Or.inl rfl)) (fun _ _ _ _ _ => pts_one (pt_cmpR op_gt (pv 6) (pv 2) (nomark _)))
            (fun _ _ _ _ _ => pv 6))) (pg_name (i := 3) scPs.nd rfl (.inr rfl))
          (pss_cons (ps_setLc (i := 4) (own := [("row", 5)]) (g := gName 5) (tt := tAnd (tTest (tOp rNone (tOp (rIxT K) (tVar 5) (tVar 2)) (tC .non))) (tTest (tOp rNone (tOp (rIxT K) (tVar 5) (tVar 3)) (tC .non)))) rfl scPs.nd rfl rfl (sw_true rfl rfl rfl (by decide +kernel)) (pi_list (pv 1))
            (blkOk_by (own := [("row", 5)]) (N := nPs) (sc := defScope sLPairings) (by decide +kernel)) (fun _ _ _ _ _ => pg_name (i := 5) scPs.nd rfl (Or.inl rfl)) (fun _ _ _ _ _ => pts_one (PW.pt (pw_and (pt_cmpR op_isN (pe_ix ix_tup (pv 5) (pv 2) (fun _ _ => rfl)) pe_non (nomark _)) (pw_and1 (pt_cmpR op_isN (pe_ix ix_tup (pv 5) (pv 3) (fun _ _ => rfl)) pe_non (nomark _))))))
            (fun _ _ _ _ _ => pv 5))
          (pss_one (ps_set (i := 1) scPs.nd rfl (.inl rfl) (pe_op op_cat (pv 1) (pe_lc (own := [("row", 5)]) (g := gName 5) (tt := tYes) (te := teSet2 K) rfl scPs.nd (pi_list (pv 4))
            (blkOk_by (own := [("row", 5)]) (N := nPs) (sc := defScope sLPairings) (by decide +kernel)) (fun _ _ _ _ _ => pg_name (i := 5) scPs.nd rfl (Or.inl rfl)) (fun _ _ _ _ _ => pts_nil)
            (fun _ _ _ _ _ => pe_op op_catA (pe_op op_catA (pe_op op_catA (pe_op op_catA (pe_slice sl_tupA (pv 5) po_none (po_some (pv 2))) (pe_tup (pa_cons (pv 3) pa_nil))) (pe_slice sl_tupA (pv 5) (po_some (pe_op op_add (pv 2) pe_int)) (po_some (pv 3)))) (pe_tup (pa_cons (pv 2) pa_nil))) (pe_slice sl_tupA (pv 5) (po_some (pe_op op_add (pv 3) pe_int)) po_none))))))))))
      (pss_one (ps_ret (pv 1)))), ?_⟩
    obtain ⟨xs, ea, xl⟩ := lx.lt.len
    refine ⟨(by show 1 ≤ sizeLine; decide), fun t nt => ?_⟩
    have st := same_upd (o := .tup [.non]) nt
    refine ⟨_, rfl, a, xs, rfl, .inr (SqT.of (st _ _ ea)), ?_⟩
    rw [xl]
    refine repZ (m := ls.length) rfl upd_same n1 (by omega) fun c0 H1 s1 ec0 => ⟨(by show 1 ≤ sizeLine; decide), fun D nD => gn ?_⟩
    dsimp only [List.set, L2.start]
    have sD := same_upd (o := .lst [.ref c0]) nD
    have eD : (upd H1 D (.lst [.ref c0])) D = some (.lst ([c0].map V.ref)) := upd_same
    have ec1 := sD _ _ ec0
    have s2 := st.trans (s1.trans sD)
    generalize upd H1 D (.lst [.ref c0]) = H2 at sD eD ec1 s2
    have hs1 : HsT H2 [c0] [List.replicate ls.length none] := ⟨rfl, fun j u r e1 e2 => by
      match j, e1, e2 with
      | 0, e1, e2 => cases e1; cases e2; exact ec1
      | _ + 1, e1, e2 => cases e1⟩
    refine ⟨_, rfl, a, xs, rfl, .inr (SqT.of (s2 _ _ ea)), ?_⟩
    rw [xl]
    refine ⟨_, rfl, by omega, by omega, for_it (J := Itr 0 ls.length) (n := ls.length) walk_range0 (fun one σ H' => ∃ (D : Addr) (us : List Addr) (hss : List (List (Option Nat))) (y2 y3 y4 : Option V), σ = [some (.ref a), some (.ref D), y2, y3, y4, none, none] ∧ Same H H' ∧ H' D = some (.lst (us.map V.ref)) ∧ HsT H' us hss ∧ (∀ row, row ∈ hss ↔ PR ls one 0 row) ∧ hss.length ≤ 2 ^ upS ls one)
      ⟨D, [c0], _, none, none, none, rfl, s2, eD, hs1, fun row => ⟨fun h => by rw [List.mem_singleton.mp h]; exact pr_none, fun h => by rw [pr_zero ok h]; simp⟩, by show 1 ≤ 2 ^ upS ls 0; exact Nat.one_le_two_pow⟩ (fun _ _ _ _ _ => trivial) ?_ ?_⟩
    · rintro one z σ H3 H4 h1 ⟨D, us, hss, y2, y3, y4, rfl, s3, eD3, hs3, mem3, sz3⟩ ⟨rfl, rfl⟩
      refine gn ?_
      dsimp only [List.set]
      obtain ⟨rows, c, er, ec, ev⟩ := (lx.same s3).at (la_get h1)
      refine ⟨_, rfl, _, rfl, a, rows, _, _, rfl, rfl, SqT.of er, atI_nat ec, c, rfl, ⟨_, Tp.sq (.inr ev)⟩, fun G nG => ?_⟩
      refine lc_sel (walk_tup (K := K) (a := c) (xs := VI (la ls one))) (by rw [VI_len]; have := ok.each (la_get h1); omega) (VI (la ls one)) (fV fun o => decide (one < o)) rfl nG (fun _ sm => Tp.sq (.inr (ev.same sm))) ?_ ?_
      · rintro j x Ha Hb R Z yes' no' hj sm ⟨rfl, ex⟩
        rw [VI_len] at hj
        rw [VI_getD hj] at yes' no'
        have e5 := VI_get (s := la ls one) (List.getElem?_eq_getElem hj)
        rw [e5] at ex
        cases ex
        have dv : decide (((la ls one)[j] : Int) > (one : Int)) = decide (one < (la ls one)[j]) := by rw [decide_eq_decide]; omega
        refine gn ⟨rfl, _, rfl, _, rfl, _, _, rfl, rfl, _, rfl, ?_⟩
        rw [dv]
        by_cases cc : one < (la ls one)[j]
        · rw [decide_eq_true cc]
          exact iteT ⟨_, rfl, yes' _ same_rfl (by show decide (one < _) = true; exact decide_eq_true cc)⟩
        · rw [decide_eq_false cc]
          exact iteF (no' _ same_rfl (by show decide (one < _) = false; exact decide_eq_false cc))
      · intro H5 s5 eG
        rw [VI_filter] at eG
        have eG' : H5 G = some (.lst (VI (up ls one))) := eG
        have s05 := s3.trans s5
        refine ⟨G, rfl, ⟨_, SqL.of eG'⟩, for_it (walk_list (K := K) (a := G) (xs := VI (up ls one))) (fun j σ H' => ∃ (D : Addr) (us : List Addr) (hss : List (List (Option Nat))) (y3 y4 : Option V), σ = [some (.ref a), some (.ref D), some (.int (one : Nat)), y3, y4, none, none] ∧ Same H5 H' ∧ H' D = some (.lst (us.map V.ref)) ∧ HsT H' us hss ∧ (∀ row, row ∈ hss ↔ PR ls one j row) ∧ hss.length ≤ 2 ^ (upS ls one + j))
          ⟨D, us, hss, y3, y4, rfl, same_rfl, s5 _ _ eD3, hs3.same s5, mem3, sz3⟩ (fun j σ H' _ ⟨_, _, _, _, _, _, s, _⟩ => SqL.of (s _ _ eG')) ?_ ?_⟩
        · rintro j x σ H6 H7 hj ⟨D, us, hss, y3, y4, rfl, s6, eD6, hs6, mem6, sz6'⟩ ⟨rfl, ex⟩
          obtain ⟨o, eo, rfl⟩ := VI_at ex
          rw [VI_len] at hj
          obtain ⟨om, olt⟩ := up_mem.mp (List.mem_of_getElem? eo)
          obtain ⟨o1, o2, o3⟩ := ok.mate h1 om
          have u16 := up16 ok S n8 (show one + 1 ≤ ls.length by omega)
          rw [upS_succ] at u16
          have p16 : 2 ^ (upS ls one + j) ≤ 32768 := Nat.le_trans (Nat.pow_le_pow_right (by decide) (show upS ls one + j ≤ 15 by omega)) (by decide)
          refine gn ?_
          dsimp only [List.set]
          have rowOk : ∀ i, i < hss.length → (hss.getD i []).length = ls.length := fun i hi => by
            have : hss.getD i [] ∈ hss := by
              rw [List.getD_eq_getElem?_getD, List.getElem?_eq_getElem hi]
              exact List.getElem_mem hi
            exact ((mem6 _).mp this).pg.ok.len
          have uAt : ∀ i, i < hss.length → us[i]? = some (us.getD i 0) := fun i hi => by
            rw [List.getD_eq_getElem?_getD, List.getElem?_eq_getElem (by rw [hs6.1]; exact hi)]
            rfl
          have hAt : ∀ i, i < hss.length → hss[i]? = some (hss.getD i []) := fun i hi => by
            rw [List.getD_eq_getElem?_getD, List.getElem?_eq_getElem hi]
            rfl
          -- longer
          refine ⟨_, rfl, D, rfl, ⟨_, SqL.of eD6⟩, fun E0 nE => ?_⟩
          refine lc_pick (walk_list (K := K) (a := D) (xs := us.map V.ref)) (by rw [List.length_map, hs6.1]; omega) (fun i => (ha (hss.getD i []) one).isNone && (ha (hss.getD i []) o).isNone) (fun i => .ref (us.getD i 0)) nE (fun _ sm => SqL.of (sm _ _ eD6)) ?_ ?_
          · rintro i x Ha Hb R Z yes' no' hi sm ⟨rfl, ex⟩
            rw [List.length_map, hs6.1] at hi
            obtain ⟨u, r, rfl, eu, erow, et⟩ := hs6.at ex
            rw [uAt i hi] at eu
            rw [hAt i hi] at erow
            cases eu
            cases erow
            have rl := rowOk i hi
            have etA := sm _ _ et
            refine gn ⟨rfl, _, rfl, _, rfl, _, _, _, _, rfl, rfl, SqT.of etA, atI_nat (VH_get (ha_get (by omega))), rfl, _, rfl, ?_⟩
            rw [hv_non]
            cases c1 : (ha (hss.getD i []) one).isNone with
            | false => exact iteF (iteF (no' _ same_rfl (by rw [c1]; rfl)))
            | true =>
              refine iteT ⟨_, rfl, _, rfl, _, _, _, _, rfl, rfl, SqT.of etA, atI_nat (VH_get (ha_get (by omega))), rfl, _, rfl, ?_⟩
              rw [hv_non]
              cases c2 : (ha (hss.getD i []) o).isNone with
              | false => exact iteF (no' _ same_rfl (by rw [c1, c2]; rfl))
              | true => exact iteT ⟨_, rfl, yes' _ same_rfl (by rw [c1, c2]; rfl)⟩
          · intro H8 s8 eE
            rw [List.length_map, hs6.1] at eE
            refine gn ?_
            dsimp only [List.set]
            generalize hL : (List.range hss.length).filter (fun i => (ha (hss.getD i []) one).isNone && (ha (hss.getD i []) o).isNone) = L at eE
            have Lm : ∀ i, i ∈ L ↔ i < hss.length ∧ ha (hss.getD i []) one = none ∧ ha (hss.getD i []) o = none := fun i => by
              rw [← hL, List.mem_filter, List.mem_range, Bool.and_eq_true, Option.isNone_iff_eq_none, Option.isNone_iff_eq_none]
            have Ll : L.length ≤ hss.length := by
              rw [← hL]
              refine Nat.le_trans (List.length_filter_le _ _) ?_
              rw [List.length_range]
              exact Nat.le_refl _
            -- the longer ones
            refine ⟨_, rfl, _, rfl, E0, rfl, ⟨_, SqL.of eE⟩, fun G2 nG2 => ?_⟩
            refine lc_rows (walk_list (K := K) (a := E0) (xs := L.map fun i => V.ref (us.getD i 0))) (by rw [List.length_map]; omega) (fun k => VH (set2 (hss.getD (L.getD k 0) []) one o (some o) (some one))) nG2 (fun _ sm => SqL.of (sm _ _ eE)) ?_ ?_
            · rintro k x Ha Hb Z out hk sm ⟨rfl, ex⟩
              rw [List.length_map] at hk
              rw [List.getElem?_map, List.getElem?_eq_getElem hk] at ex
              cases ex
              have eL : L.getD k 0 = L[k] := by rw [List.getD_eq_getElem?_getD, List.getElem?_eq_getElem hk]; rfl
              obtain ⟨i1, i2, i3⟩ := (Lm L[k]).mp (List.getElem_mem hk)
              have rl := rowOk L[k] i1
              have et := hs6.2 L[k] _ _ (uAt _ i1) (hAt _ i1)
              refine gn ⟨rfl, te_set2 rfl rfl rfl (sm _ _ (s8 _ _ et)) olt (by omega) (by omega) fun c' H' s' ec' => out c' H' s' ?_⟩
              rw [eL]
              exact ec'
            · intro rs H9 s9 eG2 rl rws
              rw [List.length_map] at rl
              have s69 := s8.trans s9
              refine ⟨D, G2, _, _, rfl, rfl, s69 _ _ eD6, eG2, by rw [List.length_map, List.length_map, rl, hs6.1]; exact sz5 (by omega), fun p np => gn ?_⟩
              have sp' := same_upd (o := .lst (us.map V.ref ++ rs.map V.ref)) np
              have hsN : HsT H9 rs (L.map fun i => set2 (hss.getD i []) one o (some o) (some one)) := ⟨by rw [rl, List.length_map], fun k u r e1 e2 => by
                have hk : k < L.length := by
                  have := (List.getElem?_eq_some_iff.mp e1).1
                  omega
                have e3 := rws k u e1
                rw [List.getElem?_map, List.getElem?_eq_getElem hk] at e2
                cases e2
                rw [show L.getD k 0 = L[k] by rw [List.getD_eq_getElem?_getD, List.getElem?_eq_getElem hk]; rfl] at e3
                exact e3⟩
              refine ⟨p, us ++ rs, hss ++ L.map (fun i => set2 (hss.getD i []) one o (some o) (some one)), _, _, rfl, s6.trans (s69.trans sp'), by rw [upd_same, List.map_append], ((hs6.same s69).app hsN).same sp', fun row => ?_, ?_⟩
              · rw [List.mem_append, mem6, pr_step ok h1 eo]
                refine or_congr Iff.rfl ?_
                rw [List.mem_map]
                constructor
                · rintro ⟨i, hi, rfl⟩
                  obtain ⟨i1, i2, i3⟩ := (Lm i).mp hi
                  exact ⟨_, (mem6 _).mp (List.mem_of_getElem? (hAt i i1)), i2, i3, rfl⟩
                · rintro ⟨r, hr', n1', n2', rfl⟩
                  obtain ⟨i, hi, ei⟩ := List.mem_iff_getElem.mp ((mem6 r).mpr hr')
                  have eg : hss.getD i [] = r := by rw [List.getD_eq_getElem?_getD, List.getElem?_eq_getElem hi, ei]; rfl
                  exact ⟨i, (Lm i).mpr ⟨hi, by rw [eg]; exact n1', by rw [eg]; exact n2'⟩, by rw [eg]⟩
              · rw [List.length_append, List.length_map, ← Nat.add_assoc, Nat.pow_succ]
                omega
        · rintro σ H6 ⟨D, us, hss, y3, y4, rfl, s6, eD6, hs6, mem6, sz6'⟩
          rw [VI_len] at mem6 sz6'
          exact ⟨D, us, hss, _, _, _, rfl, s05.trans s6, eD6, hs6, fun row => (mem6 row).trans (pr_next ok h1 row).symm, by rw [upS_succ]; exact sz6'⟩
    · rintro σ H3 ⟨D, us, hss, y2, y3, y4, rfl, s3, eD3, hs3, mem3, sz3⟩
      refine ⟨_, rfl, q D us hss H3 s3 eD3 hs3 (Nat.le_trans sz3 ?_) fun row => (mem3 row).trans (pr_all row)⟩
      exact Nat.le_trans (Nat.pow_le_pow_right (by decide) (up16 ok S n8 (Nat.le_refl _))) (by decide)
end
end K14
namespace K14
open PySem PySem.Spec PyProof.Rows L2
/-- the two would rather -/
def Blk (ls : List (List Nat)) (mu : List (Option Nat)) (p o : Nat) : Prop := (la ls p).idxOf o < most ls mu p ∧ (la ls o).idxOf p < most ls mu o
theorem lasts_up {ls : List (List Nat)} {mu : List (Option Nat)} (ok : ListsOk ls.length ls) (h : ∀ p, p < ls.length → ∀ o ∈ up ls p, ¬ Blk ls mu p o) : Lasts ls mu := by
  intro p hp o ho hb
  obtain ⟨o1, o2, o3⟩ := ok.mate hp ho
  rcases Nat.lt_or_gt_of_ne o2 with c | c
  · exact h o o1 p (up_mem.mpr ⟨o3, c⟩) ⟨hb.2, hb.1⟩
  · exact h p hp o (up_mem.mpr ⟨ho, c⟩) hb
def spLasts : Sp := fun vs H Q _ => ∃ (a t : Addr) (ls : List (List Nat)) (mu : List (Option Nat)), vs = [.ref a, .ref t] ∧ LX H a ls ∧ H t = some (.tup (VH mu)) ∧ HoldsOk ls mu ∧ ListsOk ls.length ls ∧ ls.length ≤ 100 ∧
  ∀ b H', Same H H' → (b = true ↔ Lasts ls mu) → Q (.bl b) H'
theorem scLasts : FnScope ["lists", "mates", "one", "other", "person"] ["lists", "mates"] (defScope sLLasts) := ⟨rfl, rfl, rfl, by decide +kernel, rfl, by decide +kernel, by decide +kernel⟩
abbrev tGt' (K : PySem.W.Frag) : TT := tTest (tOp (rI0 fun i j => V.bl (decide (i > j))) (tVar 4) (tVar 2))
section
variable {P : Program} {w : World} {K : PySem.W.Frag} {mg : Str → Option Value} {base : Heap}
theorem ok_lasts {f fr : Addr} {fd dr : FuncData} {k : Nat} (F : Fun K "_law_lasts" "_law_lasts" sLLasts f fd)
    (Gr : FnOk P w K mg base CX0 k fr dr ["lists", "person", "other"] spRank) (br : Binds K dr ["lists", "person", "other"] []) (kr : PySem.W.keepIn K (.ref fr) = true) (mr : mg "_law_rank" = some (.ref fr)) (ml : mg "len" = none) (mrg : mg "range" = none) : FnOk P w K mg base CX0 (k + 1) f fd ["lists", "mates"] spLasts := by
  refine F.ok scLasts (fun vs H Q E h => ?_) (fun cdv A outer s H vs Q E hr h => ?_)
  · obtain ⟨a, t, ls, mu, rfl, _⟩ := h
    rfl
  · obtain ⟨a, t, ls, mu, rfl, lx, et, ho, ok, n100, q⟩ := h
    refine ⟨_, pss_cons (ps_for PassesOwn.never rfl (pi_range1 rfl mrg (pa_cons (pe_callB call_len_seq (by rfl) ml PySem.boot_len (pa_cons (pv 0) pa_nil)) pa_nil)) (pg_name (i := 2) scLasts.nd rfl (.inr rfl))
        (pss_one (ps_for PassesOwn.never rfl (pi_list (pe_lc (own := [("person", 4)]) (g := gName 4) (tt := tGt' K) rfl scLasts.nd (pi_tup (pe_ix ix_tup (pv 0) (pv 2) (fun _ _ => rfl)))
            (blkOk_by (own := [("person", 4)]) (N := ["lists", "mates", "one", "other", "person"]) (sc := defScope sLLasts) (by decide +kernel)) (fun _ _ _ _ _ => pg_name (i := 4) scLasts.nd rfl (Or.inl rfl)) (fun _ _ _ _ _ => pts_one (pt_cmpR op_gt (pv 4) (pv 2) (nomark _)))
            (fun _ _ _ _ _ => pv 4))) (pg_name (i := 3) scLasts.nd rfl (.inl rfl))
          (pss_one (ps_if (pt_cmpR op_lt (pe_call Gr hr rfl mr kr br .nil pass0 (pa_cons (pv 0) (pa_cons (pv 2) (pa_cons (pv 3) pa_nil)))) (pe_call Gr hr rfl mr kr br .nil pass0 (pa_cons (pv 0) (pa_cons (pv 2) (pa_cons (pe_ix ix_tup (pv 1) (pv 2) (fun _ _ => rfl)) pa_nil)))) (nomark _))
            (pss_one (ps_if (pt_cmpR op_lt (pe_call Gr hr rfl mr kr br .nil pass0 (pa_cons (pv 0) (pa_cons (pv 3) (pa_cons (pv 2) pa_nil)))) (pe_call Gr hr rfl mr kr br .nil pass0 (pa_cons (pv 0) (pa_cons (pv 3) (pa_cons (pe_ix ix_tup (pv 1) (pv 3) (fun _ _ => rfl)) pa_nil)))) (nomark _)) (pss_one (ps_ret pe_bl)) pss_nil)) pss_nil)))))
      (pss_one (ps_ret pe_bl)), ?_⟩
    obtain ⟨xs, ea, xl⟩ := lx.lt.len
    refine ⟨_, rfl, a, xs, rfl, .inr (SqT.of ea), ?_⟩
    rw [xl]
    refine ⟨_, rfl, by omega, by omega, for_it (J := Itr 0 ls.length) (n := ls.length) walk_range0 (fun one σ H' => ∃ y2 y3 : Option V, σ = [some (.ref a), some (.ref t), y2, y3, none] ∧ Same H H' ∧ ∀ p, p < one → ∀ o ∈ up ls p, ¬ Blk ls mu p o)
      ⟨none, none, rfl, same_rfl, fun p hp => absurd hp (Nat.not_lt_zero p)⟩ (fun _ _ _ _ _ => trivial) ?_ ?_⟩
    · rintro one z σ H3 H4 h1 ⟨y2, y3, rfl, s3, old⟩ ⟨rfl, rfl⟩
      refine gn ?_
      dsimp only [List.set]
      obtain ⟨rows, c, er, ec, ev⟩ := (lx.same s3).at (la_get h1)
      refine ⟨_, rfl, _, rfl, a, rows, _, _, rfl, rfl, SqT.of er, atI_nat ec, c, rfl, ⟨_, Tp.sq (.inr ev)⟩, fun G nG => ?_⟩
      refine lc_sel (walk_tup (K := K) (a := c) (xs := VI (la ls one))) (by rw [VI_len]; have := ok.each (la_get h1); omega) (VI (la ls one)) (fV fun o => decide (one < o)) rfl nG (fun _ sm => Tp.sq (.inr (ev.same sm))) ?_ ?_
      · rintro j x Ha Hb R Z yes' no' hj sm ⟨rfl, ex⟩
        rw [VI_len] at hj
        rw [VI_getD hj] at yes' no'
        have e5 := VI_get (s := la ls one) (List.getElem?_eq_getElem hj)
        rw [e5] at ex
        cases ex
        have dv : decide (((la ls one)[j] : Int) > (one : Int)) = decide (one < (la ls one)[j]) := by rw [decide_eq_decide]; omega
        refine gn ⟨rfl, _, rfl, _, rfl, _, _, rfl, rfl, _, rfl, ?_⟩
        rw [dv]
        by_cases cc : one < (la ls one)[j]
        · rw [decide_eq_true cc]
          exact iteT ⟨_, rfl, yes' _ same_rfl (by show decide (one < _) = true; exact decide_eq_true cc)⟩
        · rw [decide_eq_false cc]
          exact iteF (no' _ same_rfl (by show decide (one < _) = false; exact decide_eq_false cc))
      · intro H5 s5 eG
        rw [VI_filter] at eG
        have eG' : H5 G = some (.lst (VI (up ls one))) := eG
        have s05 := s3.trans s5
        refine ⟨G, rfl, ⟨_, SqL.of eG'⟩, for_it (walk_list (K := K) (a := G) (xs := VI (up ls one))) (fun j σ H' => ∃ y3 : Option V, σ = [some (.ref a), some (.ref t), some (.int (one : Nat)), y3, none] ∧ Same H5 H' ∧ ∀ j' o, j' < j → (up ls one)[j']? = some o → ¬ Blk ls mu one o)
          ⟨y3, rfl, same_rfl, fun j' o hj => absurd hj (Nat.not_lt_zero j')⟩ (fun j σ H' _ ⟨_, _, s, _⟩ => SqL.of (s _ _ eG')) ?_ ?_⟩
        · rintro j x σ H6 H7 hj ⟨y3, rfl, s6, old6⟩ ⟨rfl, ex⟩
          obtain ⟨o, eo, rfl⟩ := VI_at ex
          obtain ⟨om, olt⟩ := up_mem.mp (List.mem_of_getElem? eo)
          obtain ⟨o1, o2, o3⟩ := ok.mate h1 om
          have s07 := s05.trans s6
          have lx7 := lx.same s07
          have et7 := s07 _ _ et
          have next : ¬ Blk ls mu one o → ∀ j' o', j' < j + 1 → (up ls one)[j']? = some o' → ¬ Blk ls mu one o' := fun nb j' o' h1' h2' => by
            by_cases e : j' = j
            · subst e
              rw [eo] at h2'
              cases h2'
              exact nb
            · exact old6 j' o' (by omega) h2'
          refine gn ?_
          dsimp only [List.set]
          refine ⟨_, rfl, _, rfl, _, rfl, a, ls, one, some o, rfl, lx7, h1, fun j e => by cases e; exact om, _, rfl, _, rfl, _, rfl, _, rfl, t, _, _, _, rfl, rfl, SqT.of et7, atI_nat (VH_get (ha_get (by rw [ho.len]; exact h1))), a, ls, one, ha mu one, rfl, lx7, h1, fun j e => (ho.on one j e).2, _, _, rfl, rfl, decide ((la ls one).idxOf o < most ls mu one), ?_, ?_⟩
          · refine congrArg V.bl ?_
            rw [decide_eq_decide]
            show (((la ls one).idxOf o : Nat) : Int) < ((most ls mu one : Nat) : Int) ↔ _
            omega
          · refine ite2 (fun c => ?_) (fun c => ?_)
            · refine ⟨_, rfl, _, rfl, _, rfl, a, ls, o, some one, rfl, lx7, o1, fun j e => by cases e; exact o3, _, rfl, _, rfl, _, rfl, _, rfl, t, _, _, _, rfl, rfl, SqT.of et7, atI_nat (VH_get (ha_get (by rw [ho.len]; exact o1))), a, ls, o, ha mu o, rfl, lx7, o1, fun j e => (ho.on o j e).2, _, _, rfl, rfl, decide ((la ls o).idxOf one < most ls mu o), ?_, ?_⟩
              · refine congrArg V.bl ?_
                rw [decide_eq_decide]
                show (((la ls o).idxOf one : Nat) : Int) < ((most ls mu o : Nat) : Int) ↔ _
                omega
              · refine ite2 (fun d => ?_) (fun d => ?_)
                · refine q false _ s07 ⟨fun h => (by cases h), fun h => absurd ⟨of_decide_eq_true c, of_decide_eq_true d⟩ (h one h1 o om)⟩
                · exact ⟨_, rfl, s6, next fun hb => d (decide_eq_true hb.2)⟩
            · exact ⟨_, rfl, s6, next fun hb => c (decide_eq_true hb.1)⟩
        · rintro σ H6 ⟨y3, rfl, s6, old6⟩
          rw [VI_len] at old6
          refine ⟨_, _, rfl, s05.trans s6, fun p hp o ho' => ?_⟩
          by_cases e : p = one
          · subst e
            obtain ⟨j, hj, ej⟩ := List.mem_iff_getElem.mp ho'
            exact old6 j o hj (by rw [List.getElem?_eq_getElem hj, ej])
          · exact old p (by omega) o ho'
    · rintro σ H3 ⟨y2, y3, rfl, s3, old⟩
      exact q true _ s3 ⟨fun _ => lasts_up ok old, fun _ => rfl⟩
end
end K14
namespace K14
open PySem PySem.Spec PyProof.Rows L2
section
variable {J : It} {n : Nat} {G : Hp → Prop} {Y : Nat → Hp → V → Hp → Prop}
/-- a comprehension of new tuples, known whole, that leaves all else as it stood -/
theorem lc_exs (w : Walk J n G Y) {g : TG} {te : TE} {vs : List Nat} {σ : L2.St} {H0 : Hp} {D : Addr} {Qd : Hp → Prop} (hn : n ≤ 100000) (X : Nat → List V) (nD : H0 D = none) (hG : ∀ H, Same H0 H → G H)
    (hs : ∀ (i : Nat) (x : V) (H H' : Hp) (Z : V → Hp → Prop), (∀ r H3, Same H H3 → Ex H3 r (X i) → Z (.ref r) H3) → i < n → Same H0 H → Y i H x H' → g x (wipe σ vs) H' fun σ2 H2 => wipe σ2 vs = wipe σ vs ∧ te σ2 H2 Z)
    (hd : ∀ (rs : List Addr) H, Same H0 H → H D = some (.lst (rs.map V.ref)) → rs.length = n → (∀ (j : Nat) (r : Addr), rs[j]? = some r → Ex H r (X j)) → Qd H) :
    ∃ W : Nat → Nat → Hp → Prop, (∃ m, W 0 m (upd H0 D (.lst []))) ∧ ∀ i m H, W i m H →
      (J.stop i H ∧ Qd H) ∨ (J.go i H ∧ ∃ Nx : Hp → Prop, (∀ H', Nx H' → ∃ m', m' < m ∧ W (i + 1) m' H') ∧ ∀ x H', J.yld i H x H' → g x (wipe σ vs) H' fun σ2 H2 => wipe σ2 vs = wipe σ vs ∧ tYes σ2 H2 fun b H3 =>
        if b = true then te σ2 H3 fun y H4 => ∃ acc, H4 D = some (.lst acc) ∧ acc.length < sizeLine ∧ Nx (upd H4 D (.lst (acc ++ [y]))) else Nx H3) := by
  refine lc_it w (fun i H => ∃ rs : List Addr, Same H0 H ∧ H D = some (.lst (rs.map V.ref)) ∧ rs.length = i ∧ ∀ (j : Nat) (r : Addr), rs[j]? = some r → Ex H r (X j)) ⟨[], same_upd nD, upd_same, rfl, fun _ _ e => by simp at e⟩ (fun i H _ ⟨_, h, _⟩ => hG H h) (fun i x H H' hi ⟨rs, sm, eD, rl, old⟩ y => ?_) (fun H ⟨rs, sm, eD, rl, old⟩ => hd rs H sm eD rl old)
  refine hs i x H H' (fun v H3 => ∃ acc, H3 D = some (.lst acc) ∧ acc.length < sizeLine ∧ (fun H => ∃ rs : List Addr, Same H0 H ∧ H D = some (.lst (rs.map V.ref)) ∧ rs.length = i + 1 ∧ ∀ (j : Nat) (r : Addr), rs[j]? = some r → Ex H r (X j)) (upd H3 D (.lst (acc ++ [v])))) (fun r H3 s3 er => ?_) hi sm y
  have eD3 := s3 _ _ eD
  refine ⟨_, eD3, ?_, rs ++ [r], (sm.trans s3).fresh nD, by rw [upd_same]; simp, by simp [rl], ?_⟩
  · rw [List.length_map, rl]
    exact sz6' (by omega)
  · intro j q e
    by_cases c : j < rs.length
    · rw [List.getElem?_append_left c] at e
      have e7 := (old j q e).same s3
      exact e7.put (e7.ne_lst eD3)
    · rw [List.getElem?_append_right (by omega), List.getElem?_singleton] at e
      split at e
      · cases e
        have : j = i := by omega
        subst this
        exact er.put (er.ne_lst eD3)
      · cases e
end
/-- two sides that wish round -/
def rowA (n one : Nat) : List Nat := (List.range n).map fun at_ => n + (one + at_) % n
def rowB (n s one : Nat) : List Nat := (List.range n).map fun at_ => (one + 1 + s + at_) % n
def ladder (n s : Nat) : List (List Nat) := (List.range n).map (rowA n) ++ (List.range n).map (rowB n s)
def sidesOf (n : Nat) : List Nat := (List.range (2 * n)).map fun p => if n ≤ p then 1 else 0
theorem ladder_ok {n s : Nat} (h2 : 2 ≤ n) (h4 : n ≤ 4) (hs : s ≤ 2) : ListsOk (ladder n s).length (ladder n s) := by
  have key : ∀ n : Fin 5, ∀ s : Fin 3, 2 ≤ n.1 → lookL (ladder n.1 s.1) = true := by decide +kernel
  exact lists_of (key ⟨n, by omega⟩ ⟨s, by omega⟩ h2)
def lookS (ls : List (List Nat)) (sd : List Nat) : Bool := decide (sd.length = ls.length) && (List.range ls.length).all fun p => decide (sd.getD p 0 ≤ 1) && (la ls p).all fun o => decide (sd.getD o 0 ≠ sd.getD p 0)
theorem sided_of {ls : List (List Nat)} {sd : List Nat} (h : lookS ls sd = true) : Sided ls sd := by
  unfold lookS at h
  rw [Bool.and_eq_true, List.all_eq_true] at h
  have k : ∀ p, p < ls.length → sd.getD p 0 ≤ 1 ∧ ∀ o ∈ la ls p, sd.getD o 0 ≠ sd.getD p 0 := fun p hp => by
    have := h.2 p (List.mem_range.mpr hp)
    rw [Bool.and_eq_true, List.all_eq_true] at this
    exact ⟨of_decide_eq_true this.1, fun o ho => of_decide_eq_true (this.2 o ho)⟩
  exact ⟨of_decide_eq_true h.1, fun p hp => (k p hp).1, fun p o hp ho => (k p hp).2 o ho⟩
theorem ladder_sided {n s : Nat} (h2 : 2 ≤ n) (h4 : n ≤ 4) (hs : s ≤ 2) : Sided (ladder n s) (sidesOf n) := by
  have key : ∀ n : Fin 5, ∀ s : Fin 3, 2 ≤ n.1 → lookS (ladder n.1 s.1) (sidesOf n.1) = true := by decide +kernel
  exact sided_of (key ⟨n, by omega⟩ ⟨s, by omega⟩ h2)
theorem ladder_len {n s : Nat} : (ladder n s).length = 2 * n := by
  unfold ladder
  simp
  omega
def spLadder : Sp := fun vs H Q _ => ∃ (h l : Addr), vs = [.ref h] ∧ Src H h l ∧
  ∀ (r : Addr) (us : List Addr) (n s : Nat) (H' : Hp), 2 ≤ n → n ≤ 4 → s ≤ 2 → Src H' h l → Bar h l H H' → H' r = some (.lst (us.map V.ref)) → RwX H' us (ladder n s) → Q (.ref r) H'
theorem scLadder : FnScope ["heap", "many", "step", "lists", "one", "at"] ["heap"] (defScope sLLadder) := ⟨rfl, rfl, rfl, by decide +kernel, rfl, by decide +kernel, by decide +kernel⟩
abbrev rTupX (K : PySem.W.Frag) : List V → Hp → VK → Prop := fun xs H Q => ∃ p ys, xs = [.ref p] ∧ SqL K H p ys ∧ ∀ l H', H l = none → Same H H' → Ex H' l ys → (∀ b o, b ≠ l → H' b = some o → H b = some o) → Q (.ref l) H'
abbrev rInt1 : List V → Hp → VK → Prop := fun xs H Q => (∃ i, xs = [.int i] ∧ Q (.int i) H) ∨ ∃ k, xs = [.bl k] ∧ Q (.int (if k then 1 else 0)) H
abbrev rPlus : R2 := rI0 fun i j => V.int (i + j)
abbrev rMod : R2 := rI (fun _ j => 0 < j) fun i j => V.int (i % j)
abbrev teA : TE := tOp rPlus (tVar 1) (tOp rMod (tCB rInt1 (tCons (tOp rPlus (tVar 4) (tVar 5)) tNil)) (tVar 1))
abbrev teB : TE := tOp rMod (tCB rInt1 (tCons (tOp rPlus (tOp rPlus (tOp rPlus (tVar 4) (tC (.int 1))) (tVar 2)) (tVar 5)) tNil)) (tVar 1)
abbrev teRow (K : PySem.W.Frag) (e : TE) : TE := tCB (rTupX K) (tCons (tLc (iRng1 (tCons (tVar 1) tNil)) (gName 5) tYes e [5]) tNil)
section
variable {P : Program} {w : World} {K : PySem.W.Frag} {mg : Str → Option Value} {base : Heap}
theorem ok_ladder {f g : Addr} {fd gd : FuncData} {k : Nat} (F : Fun K "_law_ladder" "_law_ladder" sLLadder f fd) (G : FnOk P w K mg base CX0 k g gd ["heap", "many"] spDraw) (bG : Binds K gd ["heap", "many"] []) (kG : PySem.W.keepIn K (.ref g) = true) (mG : mg "_law_draw" = some (.ref g))
    (mr : mg "range" = none) (mt : mg "tuple" = none) (mi : mg "int" = none) : FnOk P w K mg base CX0 (k + 1) f fd ["heap"] spLadder := by
  refine F.ok scLadder (fun vs H Q E h => ?_) (fun cdv A outer s H vs Q E hr h => ?_)
  · obtain ⟨h, l, rfl, _⟩ := h
    rfl
  · obtain ⟨h, l, rfl, src, q⟩ := h
    refine ⟨_, pss_cons (ps_asg (pe_tup (pa_cons (pe_op op_add pe_int (pe_call G hr rfl mG kG bG .nil pass0 (pa_cons (pv 0) (pa_cons pe_int pa_nil)))) (pa_cons (pe_call G hr rfl mG kG bG .nil pass0 (pa_cons (pv 0) (pa_cons pe_int pa_nil))) pa_nil))) (pg_tup (by rfl) (pgs_cons (pg_name (i := 1) scLadder.nd rfl (.inr rfl)) (pgs_cons (pg_name (i := 2) scLadder.nd rfl (.inr rfl)) pgs_nil))))
      (pss_cons (ps_setLc (i := 3) (own := [("one", 4)]) (g := gName 4) (tt := tYes) (te := teRow K teA) rfl scLadder.nd rfl rfl (sw_true rfl rfl rfl (by decide +kernel)) (pi_range1 rfl mr (pa_cons (pv 1) pa_nil))
          (blkOk_by (own := [("one", 4)]) (N := ["heap", "many", "step", "lists", "one", "at"]) (sc := defScope sLLadder) (by decide +kernel)) (fun _ _ _ _ _ => pg_name (i := 4) scLadder.nd rfl (Or.inr rfl)) (fun _ _ _ _ _ => pts_nil)
          (fun _ _ _ _ _ => pe_callTy call_tupleX (by rfl) mt (by decide +kernel) (pa_cons (pe_lc (own := [("at", 5)]) (g := gName 5) (tt := tYes) (te := teA) rfl scLadder.nd (pi_range1 (by rfl) mr (pa_cons (pv 1) pa_nil))
              (blkOk_by (own := [("at", 5)]) (by rfl)) (fun _ _ _ _ _ => pg_name (i := 5) scLadder.nd rfl (Or.inl rfl)) (fun _ _ _ _ _ => pts_nil)
              (fun _ _ _ _ _ => pe_op op_add (pv 1) (pe_op op_mod (pe_callTy call_int1 (by rfl) mi (by decide +kernel) (pa_cons (pe_op op_add (pv 4) (pv 5)) pa_nil)) (pv 1)))) pa_nil)))
      (pss_one (ps_ret (pe_op op_cat (pv 3) (pe_lc (own := [("one", 4)]) (g := gName 4) (tt := tYes) (te := teRow K teB) rfl scLadder.nd (pi_range1 rfl mr (pa_cons (pv 1) pa_nil))
          (blkOk_by (own := [("one", 4)]) (N := ["heap", "many", "step", "lists", "one", "at"]) (sc := defScope sLLadder) (by decide +kernel)) (fun _ _ _ _ _ => pg_name (i := 4) scLadder.nd rfl (Or.inr rfl)) (fun _ _ _ _ _ => pts_nil)
          (fun _ _ _ _ _ => pe_callTy call_tupleX (by rfl) mt (by decide +kernel) (pa_cons (pe_lc (own := [("at", 5)]) (g := gName 5) (tt := tYes) (te := teB) rfl scLadder.nd (pi_range1 (by rfl) mr (pa_cons (pv 1) pa_nil))
              (blkOk_by (own := [("at", 5)]) (by rfl)) (fun _ _ _ _ _ => pg_name (i := 5) scLadder.nd rfl (Or.inl rfl)) (fun _ _ _ _ _ => pts_nil)
              (fun _ _ _ _ _ => pe_op op_mod (pe_callTy call_int1 (by rfl) mi (by decide +kernel) (pa_cons (pe_op op_add (pe_op op_add (pe_op op_add (pv 4) pe_int) (pv 2)) (pv 5)) pa_nil)) (pv 1))) pa_nil))))))), ?_⟩
    refine ⟨_, rfl, h, l, 3, rfl, src, by decide, by decide, fun d1 H1 a0 a1 sr1 br1 => ⟨_, _, rfl, rfl, ?_⟩⟩
    refine ⟨_, rfl, h, l, 3, rfl, sr1, by decide, by decide, fun d2 H2 b0 b1 sr2 br2 => ⟨(by show 2 ≤ sizeLine; decide), fun U nU => ⟨U, _, rfl, SqT.of upd_same, rfl, _, _, rfl, gn ⟨_, _, rfl, gn ⟨rfl, ?_⟩⟩⟩⟩⟩
    dsimp only [List.set, L2.start]
    replace br1 := br1.trans (br2.trans (.same (same_upd (o := .tup [.int (2 + d1), .int d2]) nU)))
    have sr3 := sr2.same (same_upd (o := .tup [.int (2 + d1), .int d2]) nU)
    generalize upd H2 U (.tup [.int (2 + d1), .int d2]) = Hu at br1 sr3
    obtain ⟨n, hn⟩ : ∃ n : Nat, (2 : Int) + d1 = (n : Nat) := ⟨(2 + d1).toNat, by omega⟩
    obtain ⟨st, hst⟩ : ∃ st : Nat, d2 = (st : Nat) := ⟨d2.toNat, by omega⟩
    subst hst
    rw [hn]
    have n2 : 2 ≤ n := by omega
    have n4 : n ≤ 4 := by omega
    have m1 : ∀ a : Nat, ((a : Nat) : Int) % (n : Nat) = ((a % n : Nat) : Int) := fun a => by simp
    refine ⟨_, rfl, _, rfl, by omega, by omega, fun B nB => ?_⟩
    refine lc_exs (J := Itr 0 n) (n := n) walk_range0 (by omega) (fun one => VI (rowA n one)) nB (fun _ _ => trivial) ?_ ?_
    · rintro one x H3 H4 Z out hi sm ⟨rfl, rfl⟩
      refine gn ⟨rfl, _, rfl, _, rfl, by omega, by omega, fun C nC => ?_⟩
      refine lc_same (J := Itr 0 n) (n := n) walk_range0 (by omega) (fun at_ => .int ((n + (one + at_) % n : Nat) : Nat)) nC (fun _ _ => trivial) ?_ ?_
      · rintro at_ x H5 H6 Z' out' hi' sm' ⟨rfl, rfl⟩
        refine gn ⟨rfl, _, rfl, _, rfl, _, rfl, _, _, rfl, rfl, .inl ⟨_, rfl, _, rfl, _, _, rfl, rfl, by omega, _, _, rfl, rfl, ?_⟩⟩
        have e : (n : Int) + ((one : Nat) + (at_ : Nat) : Int) % (n : Nat) = ((n + (one + at_) % n : Nat) : Nat) := by simp
        show Z' (.int ((n : Int) + ((one : Nat) + (at_ : Nat) : Int) % (n : Nat))) _
        rw [e]
        exact out' _ same_rfl
      · intro H5 s5 eC
        refine ⟨C, VI (rowA n one), rfl, SqL.of (by rw [eC]; unfold rowA VI; rw [List.map_map]; rfl), fun r H6 nr s6 er _ => out r H6 (s5.trans s6) er⟩
    · intro us1 H3 s3 eB l1 rw1
      refine gn ?_
      dsimp only [List.set]
      refine ⟨_, rfl, _, rfl, _, rfl, by omega, by omega, fun D nD => ?_⟩
      refine lc_exs (J := Itr 0 n) (n := n) walk_range0 (by omega) (fun one => VI (rowB n st one)) nD (fun _ _ => trivial) ?_ ?_
      · rintro one x H4 H4' Z out hi sm ⟨rfl, rfl⟩
        refine gn ⟨rfl, _, rfl, _, rfl, by omega, by omega, fun C nC => ?_⟩
        refine lc_same (J := Itr 0 n) (n := n) walk_range0 (by omega) (fun at_ => .int (((one + 1 + st + at_) % n : Nat) : Nat)) nC (fun _ _ => trivial) ?_ ?_
        · rintro at_ x H5 H6 Z' out' hi' sm' ⟨rfl, rfl⟩
          refine gn ⟨rfl, _, rfl, _, _, rfl, rfl, _, rfl, _, _, rfl, rfl, _, rfl, _, _, rfl, rfl, .inl ⟨_, rfl, _, rfl, _, _, rfl, rfl, by omega, ?_⟩⟩
          have e : ((one : Nat) + 1 + (st : Nat) + (at_ : Nat) : Int) % (n : Nat) = (((one + 1 + st + at_) % n : Nat) : Nat) := by simp
          show Z' (.int (((one : Nat) + 1 + (st : Nat) + (at_ : Nat) : Int) % (n : Nat))) _
          rw [e]
          exact out' _ same_rfl
        · intro H5 s5 eC
          refine ⟨C, VI (rowB n st one), rfl, SqL.of (by rw [eC]; unfold rowB VI; rw [List.map_map]; rfl), fun r H6 nr s6 er _ => out r H6 (s5.trans s6) er⟩
      · intro us2 H4 s4 eD l2 rw2
        have eB4 := s4 _ _ eB
        refine ⟨B, D, _, _, rfl, rfl, eB4, eD, by rw [List.length_map, List.length_map, l1, l2]; exact sz5 (by omega), fun p np => ?_⟩
        have sp' := same_upd (o := .lst (us1.map V.ref ++ us2.map V.ref)) np
        have sA := s3.trans (s4.trans sp')
        refine q p (us1 ++ us2) n st _ n2 n4 (by omega) (sr3.same sA) (br1.trans (.same sA)) (by rw [upd_same, List.map_append]) ⟨by rw [List.length_append, l1, l2, ladder_len]; omega, fun i a x e1 e2 => ?_⟩
        unfold ladder at e2
        by_cases c : i < n
        · rw [List.getElem?_append_left (by omega)] at e1
          rw [List.getElem?_append_left (by simp; omega)] at e2
          have : (rowA n i) = x := by simpa [c] using e2
          rw [← this]
          exact (rw1 i a e1).same (s4.trans sp')
        · rw [List.getElem?_append_right (by omega), l1] at e1
          rw [List.getElem?_append_right (by simp; omega)] at e2
          have lt : i - n < n := by
            have := (List.getElem?_eq_some_iff.mp e1).1
            omega
          have : (rowB n st (i - n)) = x := by simpa [lt] using e2
          rw [← this]
          exact (rw2 _ a e1).same sp'
end
end K14
namespace K14
open PySem PySem.Spec PyProof.Rows L2
theorem units65 {k : Nat} {A : Around} (r : Room k A) : A.units + 65 < cLine := by
  have := r.un
  omega
structure Has (P : Program) (w : World) (K : PySem.W.Frag) (mg : Str → Option Value) (base : Heap) (k : Nat) (x : Str) (ps : List Str) (sp : Sp) (f : Addr) (fd : FuncData) : Prop where
  ok : FnOk P w K mg base CX0 k f fd ps sp
  b : Binds K fd ps []
  k : PySem.W.keepIn K (.ref f) = true
  m : mg x = some (.ref f)
structure HasG (P : Program) (w : World) (K : PySem.W.Frag) (mg : Str → Option Value) (base : Heap) (k : Nat) (x : Str) (ps : List Str) (sp : Sp) (f : Addr) (fd : FuncData) : Prop where
  ok : RunG P w K mg base k f fd ps sp
  b : Binds K fd ps []
  k : PySem.W.keepIn K (.ref f) = true
  m : mg x = some (.ref f)
def dLH (hss : List (List (Option Nat))) : PyData := .list (hss.map dH)
theorem dp_dLH {K : PySem.W.Frag} {H : Hp} {a : Addr} {us : List Addr} {hss : List (List (Option Nat))} (e : H a = some (.lst (us.map V.ref))) (t : HsT H us hss) : Dp K H (.ref a) (dLH hss) := by
  refine .lst (SqL.of e) ?_
  obtain ⟨l, rows⟩ := t
  clear e
  induction hss generalizing us with
  | nil =>
    cases us with
    | nil => exact .nil
    | cons b t => cases l
  | cons c r ih =>
    cases us with
    | nil => cases l
    | cons b t => exact .cons (dp_dH (rows 0 b c rfl rfl)) (ih (by simpa using l) fun j u s e1 e2 => rows (j + 1) u s (by simpa using e1) (by simpa using e2))
def itemH (o : Option Nat) : PyData := match o with | none => .none | some j => .int (j : Nat)
theorem lay_dH (hs : List (Option Nat)) : PyData.canLay0 (dH hs) = true ∧ PyData.depth (dH hs) ≤ 2 := by
  have h := sh_dH hs
  refine ⟨?_, ?_⟩
  · unfold SeqAt.shaped at h
    rw [Bool.and_eq_true] at h
    exact h.1
  · show PyData.depth (.tuple (hs.map itemH)) ≤ 2
    simp only [PyData.depth]
    have := depAll (xs := hs.map itemH) (d := 1) fun x hx => by
      obtain ⟨j, _, rfl⟩ := List.mem_map.mp hx
      cases j <;> simp [PyData.depth, itemH]
    omega
theorem sh_dLH (hss : List (List (Option Nat))) : SeqAt.shaped (dLH hss) = true := by
  unfold dLH
  refine shaped_of ?_ ?_
  · simp only [PyData.canLay0]
    refine layAll fun x hx => ?_
    obtain ⟨j, _, rfl⟩ := List.mem_map.mp hx
    exact (lay_dH j).1
  · simp only [PyData.depth]
    have := depAll (xs := hss.map dH) (d := 2) fun x hx => by
      obtain ⟨j, _, rfl⟩ := List.mem_map.mp hx
      exact (lay_dH j).2
    omega
theorem any_dH (hss : List (List (Option Nat))) (hs : List (Option Nat)) : ((hss.map dH).any fun z => PyData.eqv z (dH hs)) = decide (hs ∈ hss) := by
  induction hss with
  | nil => rfl
  | cons c r ih =>
    rw [List.map_cons, List.any_cons, ih, eqv_dH]
    by_cases e : c = hs
    · subst e; simp
    · have : ¬ hs = c := fun z => e z.symm
      simp [e, this]
/-- the ranks of all that last, and of the best one -/
def AllLast (ls : List (List Nat)) (hss : List (List (Option Nat))) : Prop := ∀ row, row ∈ hss ↔ Pairg ls row ∧ Lasts ls row
theorem best_is {ls : List (List Nat)} {hss : List (List (Option Nat))} {g : List (Option Nat)} {sd : List Nat} {s p : Nat} (ok : ListsOk ls.length ls) (G : Great ls g) (S : Sided ls sd) (hs : s ≤ 1) (al : AllLast ls hss) (hp : p < ls.length) {m : Int} (hm : m ∈ hss.map fun row => ((most ls row p : Nat) : Int))
    (c : if sd.getD p 0 = s then ∀ y ∈ (hss.map fun row => ((most ls row p : Nat) : Int)), m ≤ y else ∀ y ∈ (hss.map fun row => ((most ls row p : Nat) : Int)), y ≤ m) : m = ((most ls (sideM ls g sd s) p : Nat) : Int) := by
  obtain ⟨row, hr, rfl⟩ := List.mem_map.mp hm
  obtain ⟨pg, la_⟩ := (al row).mp hr
  have b := side_best ok G S hs pg la_ hp
  have mem : ((most ls (sideM ls g sd s) p : Nat) : Int) ∈ hss.map fun row => ((most ls row p : Nat) : Int) := List.mem_map.mpr ⟨_, (al _).mpr ⟨side_pair ok G S hs, side_lasts ok G S hs⟩, rfl⟩
  split at c <;> rename_i d
  · rw [if_pos d] at b
    have := c _ mem
    omega
  · rw [if_neg d] at b
    have := c _ mem
    omega
def spSideRight (C : Addr) : Sp := fun vs H Q _ => ∃ (wi a sp L : Addr) (ns ls : List (List Nat)) (sd : List Nat) (us : List Addr) (hss : List (List (Option Nat))) (s : Nat), vs = [.ref wi, .ref a, .ref sp, .ref L, .int s] ∧ WAt C H wi ns ls ∧ LX H a ls ∧ Tp H sp (VI sd) ∧ Sided ls sd ∧ s ≤ 1 ∧
  H L = some (.lst (us.map V.ref)) ∧ HsT H us hss ∧ hss.length ≤ 65536 ∧ AllLast ls hss ∧ ∀ H', Same H H' → Q (.bl true) H'
theorem spSideRight_len (C : Addr) : ∀ vs H Q E, spSideRight C vs H Q E → vs.length = (["wishes", "lists", "sides", "lasting", "side"] : List Str).length := by
  rintro vs H Q E ⟨wi, a, sp, L, ns, ls, sd, us, hss, s, rfl, _⟩
  rfl
theorem scSR : FnScope ["wishes", "lists", "sides", "lasting", "side", "due", "person", "ranks", "best", "told", "pairs", "mates"] ["wishes", "lists", "sides", "lasting", "side"] (defScope sLSideRight) := ⟨rfl, rfl, rfl, by decide +kernel, rfl, by decide +kernel, by decide +kernel⟩
abbrev teBest (K : PySem.W.Frag) : TE := tIf (tTest (tOp rEq (tOp (rIxT K) (tVar 2) (tVar 6)) (tVar 4))) (tCB (rMin K) (tCons (tVar 7) tNil)) (tCB (rMax K) (tCons (tVar 7) tNil))
abbrev teDue (K : PySem.W.Frag) : TE := tIf (tTest (tOp rEq (tVar 8) (tCB (fun xs H Q => ∃ p ys, xs = [V.ref p] ∧ (SqL K H p ys ∨ SqT K H p ys) ∧ Q (V.int ys.length) H) (tCons (tOp (rIxT K) (tVar 1) (tVar 6)) tNil)))) (tC .non) (tOp (rIxT K) (tOp (rIxT K) (tVar 1) (tVar 6)) (tVar 8))
abbrev rNotNone : R2 := fun x y H Q => y = V.non ∧ Q (V.bl (!decide (x = V.non))) H
section
variable {P : Program} {w : World} {K : PySem.W.Frag} {mg : Str → Option Value} {base : Heap}
theorem te_best {σ : L2.St} {H : Hp} {sp R : Addr} {sd : List Nat} {s p : Nat} {ns : List Int} {v : Int} {Q : VK} (e2 : σ[2]? = some (some (.ref sp))) (e6 : σ[6]? = some (some (.int (p : Nat)))) (e4 : σ[4]? = some (some (.int (s : Nat)))) (e7 : σ[7]? = some (some (.ref R))) (es : Tp H sp (VI sd)) (hp : p < sd.length)
    (eR : SqL K H R (ns.map V.int)) (pos : 0 < ns.length) (hv : ∀ m ∈ ns, (if sd.getD p 0 = s then ∀ y ∈ ns, m ≤ y else ∀ y ∈ ns, y ≤ m) → m = v) (q : Q (.int v) H) : teBest K σ H Q := by
  have sd_at : sd[p]? = some (sd.getD p 0) := by
    rw [List.getD_eq_getElem?_getD, List.getElem?_eq_getElem hp]
    rfl
  refine ⟨_, e2, _, e6, sp, _, _, _, rfl, rfl, es.sq, atI_nat (VI_get sd_at), _, e4, rfl, _, rfl, ?_⟩
  have e1 : decide (V.int (sd.getD p 0 : Nat) = V.int (s : Nat)) = decide (sd.getD p 0 = s) := by
    rw [decide_eq_decide]
    constructor
    · intro z
      have := V.int.inj z
      omega
    · intro z
      rw [z]
  rw [e1]
  by_cases c : sd.getD p 0 = s
  · rw [decide_eq_true c]
    refine iteT ⟨_, e7, R, ns, rfl, eR, pos, fun m hm hle => ?_⟩
    rw [hv m hm (by rw [if_pos c]; exact hle)]
    exact q
  · rw [decide_eq_false c]
    refine iteF ⟨_, e7, R, ns, rfl, eR, pos, fun m hm hle => ?_⟩
    rw [hv m hm (by rw [if_neg c]; exact hle)]
    exact q
theorem te_due {σ : L2.St} {H : Hp} {a : Addr} {ls : List (List Nat)} {mu : List (Option Nat)} {p : Nat} {Q : VK} (e8 : σ[8]? = some (some (.int (most ls mu p : Nat)))) (e1 : σ[1]? = some (some (.ref a))) (e6 : σ[6]? = some (some (.int (p : Nat)))) (lx : LX H a ls) (hp : p < ls.length) (ho : HoldsOk ls mu) (q : Q (hv (ha mu p)) H) : teDue K σ H Q := by
  obtain ⟨rows, c, er, ec, ev⟩ := lx.at (la_get hp)
  refine ⟨_, e8, _, e1, _, e6, a, rows, _, _, rfl, rfl, SqT.of er, atI_nat ec, c, _, rfl, .inr (Tp.sq (.inr ev)), rfl, _, rfl, ?_⟩
  rw [VI_len]
  cases em : ha mu p with
  | none =>
    rw [most_none em, decide_eq_true rfl]
    rw [em] at q
    exact iteT q
  | some j =>
    have jm := (ho.on p j em).2
    have lt := List.idxOf_lt_length_of_mem jm
    rw [most_some em]
    have ne : decide (V.int ((la ls p).idxOf j : Nat) = V.int ((la ls p).length : Nat)) = false := decide_eq_false fun z => by
      have := V.int.inj z
      omega
    rw [ne]
    rw [em] at q
    rw [most_some em] at e8
    have ej : (la ls p)[(la ls p).idxOf j]? = some j := by rw [List.getElem?_eq_getElem lt, List.getElem_idxOf]
    exact iteF ⟨_, e1, _, e6, a, rows, _, _, rfl, rfl, SqT.of er, atI_nat ec, _, e8, c, _, _, _, rfl, rfl, Tp.sq (.inr ev), atI_nat (VI_get ej), q⟩
theorem ok_side_right {f f1 f2 C : Addr} {fd d1 d2 : FuncData} {k : Nat} (F : Fun K "_law_side_right" "_law_side_right" sLSideRight f fd)
    (Rk : Has P w K mg base k "_law_rank" ["lists", "person", "other"] spRank f1 d1) (Si : Has P w K mg base k "side_pairing" ["wishes", "sides", "side"] (spSidePairing C) f2 d2) (nSi : KBinds K d2 ["wishes", "sides", "side"] ["side", "sides", "wishes"] (fun us ws => us ++ ws.reverse) (fun vs zs => vs ++ zs.reverse))
    (ml : mg "len" = none) (mrg : mg "range" = none) (mmi : mg "min" = none) (mma : mg "max" = none) (mt : mg "tuple" = none) (mrp : mg "repr" = none) : RunG P w K mg base (k + 1) f fd ["wishes", "lists", "sides", "lasting", "side"] (spSideRight C) := by
  refine okG F scSR (spSideRight_len C) (fun cdv A outer s' H vs Q E hA hr h => ?_)
  obtain ⟨wi, a, sp, L, ns, ls, sd, us, hss, s, rfl, W, lx, es, S, hs, eL, hst, n16, al, q⟩ := h
  refine ⟨_, pss_cons (ps_set (i := 5) scSR.nd rfl (.inr rfl) (pe_lst pa_nil))
    (pss_cons (ps_for PassesOwn.never rfl (pi_range1 rfl mrg (pa_cons (pe_callB call_len_seq (by rfl) ml PySem.boot_len (pa_cons (pv 1) pa_nil)) pa_nil)) (pg_name (i := 6) scSR.nd rfl (.inr rfl))
      (pss_cons (ps_setLc (i := 7) (own := [("mates", 11)]) (g := gName 11) (tt := tYes) (te := tCall spRank [] E0 (tCons (tVar 1) (tCons (tVar 6) (tCons (tOp (rIxT K) (tVar 11) (tVar 6)) tNil)))) rfl scSR.nd rfl rfl (sw_true rfl rfl rfl (by decide +kernel)) (pi_list (pv 3))
          (blkOk_by (own := [("mates", 11)]) (N := ["wishes", "lists", "sides", "lasting", "side", "due", "person", "ranks", "best", "told", "pairs", "mates"]) (sc := defScope sLSideRight) (by decide +kernel)) (fun _ _ _ _ _ => pg_name (i := 11) scSR.nd rfl (Or.inl rfl)) (fun _ _ _ _ _ => pts_nil)
          (fun _ _ _ _ _ => pe_call Rk.ok hr rfl Rk.m Rk.k Rk.b .nil pass0 (pa_cons (pv 1) (pa_cons (pv 6) (pa_cons (pe_ix ix_tup (pv 11) (pv 6) (fun _ _ => rfl)) pa_nil)))))
      (pss_cons (ps_set (i := 8) scSR.nd rfl (.inl rfl) (pe_ifExp (pt_cmpR op_eq (pe_ix ix_tup (pv 2) (pv 6) (fun _ _ => rfl)) (pv 4) (nomark _)) (pe_callB (cr_min rfl) (by rfl) mmi (by decide +kernel) (pa_cons (pv 7) pa_nil)) (pe_callB (cr_max rfl) (by rfl) mma (by decide +kernel) (pa_cons (pv 7) pa_nil))))
      (pss_one (ps_expr (pe_bm PySem.F.plainAttrs_list PySem.F.slot_list_append PySem.F.type_list_append mt_append (pv 5) (pa_cons (pe_ifExp (pt_cmpR op_eq (pv 8) (pe_callB call_len_seq (by rfl) ml PySem.boot_len (pa_cons (pe_ix ix_tup (pv 1) (pv 6) (fun _ _ => rfl)) pa_nil)) (nomark _)) pe_non (pe_ix ix_tup (pe_ix ix_tup (pv 1) (pv 6) (fun _ _ => rfl)) (pv 8) (fun _ _ => rfl))) pa_nil)))))))
    (pss_cons (ps_set (i := 9) scSR.nd rfl (.inl rfl) (pe_call Si.ok hr rfl Si.m Si.k Si.b .nil pass0 (pa_cons (pv 0) (pa_cons (pv 2) (pa_cons (pv 4) pa_nil)))))
    (pss_cons (ps_set (i := 10) scSR.nd rfl (.inl rfl) (pe_callTy call_tuple_of (by rfl) mt (by decide +kernel) (pa_cons (pe_lc (own := [("person", 6)]) (g := gName 6) (tt := tAnd (tTest (tOp rNotNone (tOp (rIxL K) (tVar 5) (tVar 6)) (tC .non))) (tTest (tOp (rI0 fun i j => V.bl (decide (i > j))) (tOp (rIxL K) (tVar 5) (tVar 6)) (tVar 6)))) (te := tTup (tCons (tVar 6) (tCons (tOp (rIxL K) (tVar 5) (tVar 6)) tNil))) rfl scSR.nd (pi_range1 rfl mrg (pa_cons (pe_callB call_len_seq (by rfl) ml PySem.boot_len (pa_cons (pv 1) pa_nil)) pa_nil))
          (blkOk_by (own := [("person", 6)]) (N := ["wishes", "lists", "sides", "lasting", "side", "due", "person", "ranks", "best", "told", "pairs", "mates"]) (sc := defScope sLSideRight) (by decide +kernel)) (fun _ _ _ _ _ => pg_name (i := 6) scSR.nd rfl (Or.inl rfl)) (fun _ _ _ _ _ => pts_one (PW.pt (pw_and (pt_cmpR op_notN (pe_ix ix_list (pv 5) (pv 6) (fun _ _ => rfl)) pe_non (nomark _)) (pw_and1 (pt_cmpR op_gt (pe_ix ix_list (pv 5) (pv 6) (fun _ _ => rfl)) (pv 6) (nomark _))))))
          (fun _ _ _ _ _ => pe_tup (pa_cons (pv 6) (pa_cons (pe_ix ix_list (pv 5) (pv 6) (fun _ _ => rfl)) pa_nil)))) pa_nil)))
    (pss_cons (ps_if (PW.pt (pw_or (pt_cmpR op_ne (pe_callB (call_repr hA hr.units) (by rfl) mrp (by decide +kernel) (pa_cons (pv 9) pa_nil)) (pe_callB (call_repr hA hr.units) (by rfl) mrp (by decide +kernel) (pa_cons (pv 10) pa_nil)) (nomark _)) (pw_or1 (pt_cmpR (op_neD hr.units) (pe_named Si.ok hr rfl Si.m Si.k nSi pass0 (pk_cons (pv 4) (pk_cons (pv 2) (pk_cons (pv 0) pk_nil)))) (pv 10) (nomark _))))) (pss_one (ps_ret pe_bl)) pss_nil)
    (pss_one (ps_ret (pe_cmpR (op_inD (units65 hr)) (pe_callTy call_tuple_of (by rfl) mt (by decide +kernel) (pa_cons (pv 5) pa_nil)) (pv 3) rfl))))))), ?_⟩
  have ok := W.ok
  have n60 := W.n60.2
  obtain ⟨g, G⟩ := great_ex ok
  obtain ⟨mu, hmu⟩ : ∃ mu, mu = sideM ls g sd s := ⟨_, rfl⟩
  have pm := side_pair ok G S hs
  have lm := side_lasts ok G S hs
  rw [← hmu] at pm lm
  have mul : mu.length = ls.length := by rw [hmu]; exact sideM_len
  have mem : mu ∈ hss := (al mu).mpr ⟨pm, lm⟩
  refine ⟨Nat.zero_le _, fun D nD => gn ?_⟩
  dsimp only [List.set, L2.start]
  have sD := same_upd (o := .lst []) nD
  have eD0 := upd_same (H := H) (a := D) (o := .lst [])
  have sH : ∀ H', Bar D D (upd H D (.lst [])) H' → Same H H' := fun H' b c o e => b c o (ne_of_none e nD) (ne_of_none e nD) (sD _ _ e)
  generalize upd H D (.lst []) = H1 at sD eD0 sH
  obtain ⟨xs, ea, xl⟩ := (lx.same sD).lt.len
  refine ⟨_, rfl, a, xs, rfl, .inr (SqT.of ea), ?_⟩
  rw [xl]
  refine ⟨_, rfl, by omega, by omega, for_it (J := Itr 0 ls.length) (n := ls.length) walk_range0 (fun p σ H' => ∃ y6 y7 y8 : Option V, σ = [some (.ref wi), some (.ref a), some (.ref sp), some (.ref L), some (.int (s : Nat)), some (.ref D), y6, y7, y8, none, none, none] ∧ H' D = some (.lst ((VH mu).take p)) ∧ Bar D D H1 H')
    ⟨none, none, none, rfl, by simpa using eD0, Bar.refl⟩ (fun _ _ _ _ _ => trivial) ?_ ?_⟩
  · rintro p x σ H2 H3 hp ⟨y6, y7, y8, rfl, eD2, br⟩ ⟨rfl, rfl⟩
    refine gn ?_
    dsimp only [List.set]
    have s2 := sH _ br
    have rowOk : ∀ i, i < hss.length → HoldsOk ls (hss.getD i []) := fun i hi => by
      have : hss.getD i [] ∈ hss := by
        rw [List.getD_eq_getElem?_getD, List.getElem?_eq_getElem hi]
        exact List.getElem_mem hi
      exact ((al _).mp this).1.ok
    refine ⟨_, rfl, L, rfl, ⟨_, SqL.of (s2 _ _ eL)⟩, fun R nR => ?_⟩
    refine lc_same (walk_list (K := K) (a := L) (xs := us.map V.ref)) (by rw [List.length_map, hst.1]; omega) (fun i => .int (most ls (hss.getD i []) p : Nat)) nR (fun _ sm => SqL.of (sm _ _ (s2 _ _ eL))) ?_ ?_
    · rintro i x Ha Hb Z out hi sm ⟨rfl, ex⟩
      rw [List.length_map, hst.1] at hi
      obtain ⟨u, r, rfl, eu, er, et⟩ := hst.at ex
      have ei : hss.getD i [] = r := by rw [List.getD_eq_getElem?_getD, er]; rfl
      have ro := rowOk i hi
      rw [ei] at ro
      have et' := sm _ _ (s2 _ _ et)
      refine gn ⟨rfl, _, rfl, _, rfl, _, rfl, _, rfl, u, _, _, _, rfl, rfl, SqT.of et', atI_nat (VH_get (ha_get (by rw [ro.len]; exact hp))), a, ls, p, ha r p, rfl, (lx.same s2).same sm, hp, fun j ej => (ro.on p j ej).2, ?_⟩
      have := out _ same_rfl
      rw [ei] at this
      exact this
    · intro H4 s4 eR
      rw [List.length_map, hst.1] at eR
      refine gn ?_
      dsimp only [List.set]
      have nsE : (List.range hss.length).map (fun i => V.int ((most ls (hss.getD i []) p : Nat) : Int)) = (hss.map fun row => ((most ls row p : Nat) : Int)).map V.int := by
        apply List.ext_getElem
        · simp
        · intro i h1 h2
          simp at h1
          simp [List.getD_eq_getElem?_getD, h1]
      rw [nsE] at eR
      have s24 := s2.trans s4
      have br4 := br.trans (.same s4)
      have nn : 0 < (hss.map fun row => ((most ls row p : Nat) : Int)).length := by
        rw [List.length_map]
        exact List.length_pos_of_mem mem
      refine te_best (K := K) rfl rfl rfl rfl (es.same s24) (by rw [S.len]; exact hp) (SqL.of eR) nn (fun m hm c => best_is ok G S hs al hp hm c) (gn ?_)
      dsimp only [List.set]
      rw [← hmu]
      refine ⟨_, rfl, .inl ⟨rfl, _, SqL.of (s4 _ _ eD2)⟩, te_due (K := K) (mu := mu) rfl rfl rfl (lx.same s24) hp pm.ok ?_⟩
      refine ⟨D, _, _, rfl, rfl, s4 _ _ eD2, ?_, _, _, _, rfl, ?_, br4.trans .upd_h⟩
      · rw [List.length_take]
        exact sz6' (by omega)
      · rw [upd_same, List.take_succ, VH_get (ha_get (by omega))]
        rfl
  · rintro σ H2 ⟨y6, y7, y8, rfl, eD2, br⟩
    have s2 := sH _ br
    have eD2' : H2 D = some (.lst (VH mu)) := by
      rw [eD2, List.take_of_length_le (by rw [VH_len]; omega)]
    refine ⟨_, rfl, _, rfl, _, rfl, wi, sp, ns, ls, sd, s, rfl, W.same s2, es.same s2, S, hs, fun r g1 H3 G1 s3 lt3 => gn ?_⟩
    obtain rfl := great_one G1 G
    rw [← hmu] at lt3
    dsimp only [List.set]
    have s23 := s2.trans s3
    have eD3 := s3 _ _ eD2'
    obtain ⟨xs3, ea3, xl3⟩ := (lx.same s23).lt.len
    refine ⟨_, rfl, a, xs3, rfl, .inr (SqT.of ea3), ?_⟩
    rw [xl3]
    refine ⟨_, rfl, by omega, by omega, fun E nE => ?_⟩
    have dS : ∀ i, (List.range (i + 1)).filterMap (dueP mu) = (List.range i).filterMap (dueP mu) ++ (dueP mu i).toList := fun i => by
      rw [List.range_succ, List.filterMap_append]
      congr 1
    refine lc_it (J := Itr 0 ls.length) (n := ls.length) walk_range0 (fun i H' => ∃ ts : List Addr, Same H3 H' ∧ H' E = some (.lst (ts.map V.ref)) ∧ RsT H' ts (rows2 ((List.range i).filterMap (dueP mu)))) ⟨[], same_upd nE, upd_same, RsT.nil⟩ (fun _ _ _ _ => trivial) ?_ ?_
    · rintro i x Ha Hb hi ⟨ts, sm, eE, rt⟩ ⟨rfl, rfl⟩
      have eDa := sm _ _ eD3
      have at_ : atI (VH mu) ((i : Nat) : Int) = some (hv (ha mu i)) := atI_nat (VH_get (ha_get (by omega)))
      refine gn ⟨rfl, _, rfl, _, rfl, D, _, _, _, rfl, rfl, SqL.of eDa, at_, rfl, _, rfl, ?_⟩
      rw [hv_non]
      cases em : ha mu i with
      | none =>
        have dn : dueP mu i = none := by unfold dueP; rw [em]; rfl
        refine iteF (iteF ⟨ts, sm, eE, ?_⟩)
        rw [dS, dn]
        simpa using rt
      | some j =>
        rw [em] at at_
        refine iteT ⟨_, rfl, _, rfl, D, _, _, _, rfl, rfl, SqL.of eDa, at_, _, rfl, _, _, rfl, rfl, decide (i < j), ?_, ?_⟩
        · refine congrArg V.bl ?_
          rw [decide_eq_decide]
          show ((j : Nat) : Int) > ((i : Nat) : Int) ↔ _
          omega
        · by_cases c : i < j
          · have dn : dueP mu i = some (i, j) := by unfold dueP; rw [em]; simp [c]
            rw [decide_eq_true c]
            refine iteT ⟨_, rfl, _, rfl, _, rfl, D, _, _, _, rfl, rfl, SqL.of eDa, at_, (by show 2 ≤ sizeLine; decide), fun t nt => ?_⟩
            have s_t := same_upd (o := .tup [.int (i : Nat), hv (some j)]) nt
            have eE' := s_t _ _ eE
            refine ⟨_, eE', ?_, ts ++ [t], ?_, by rw [upd_same]; simp, ?_⟩
            · rw [List.length_map, rt.1]
              unfold rows2
              rw [List.length_map]
              have := List.length_filterMap_le (dueP mu) (List.range i)
              rw [List.length_range] at this
              exact sz6' (by omega)
            · exact (sm.trans s_t).fresh nE
            · rw [dS, dn]
              unfold rows2
              rw [List.map_append]
              exact ((rt.same s_t).app (RsT.one upd_same)).put eE'
          · have dn : dueP mu i = none := by unfold dueP; rw [em]; simp [c]
            rw [decide_eq_false c]
            refine iteF ⟨ts, sm, eE, ?_⟩
            rw [dS, dn]
            simpa using rt
    · rintro H4 ⟨ts, s4, eE, rt⟩
      rw [← mul] at rt
      refine ⟨E, _, rfl, .inl ⟨SqL.of eE, fun pa npa => gn ?_⟩⟩
      dsimp only [List.set]
      have spa := same_upd (o := .tup (ts.map V.ref)) npa
      have ltp : LT (upd H4 pa (.tup (ts.map V.ref))) pa (rows2 (pairsOf mu)) := ⟨ts, upd_same, rt.1, fun i a x h1 h2 => .inl (spa _ _ (rt.2 i a x h1 h2))⟩
      have s34 := s4.trans spa
      have eD5 := s34 _ _ eD3
      have s25 := s23.trans s34
      have ltr := lt3.same s34
      generalize upd H4 pa (.tup (ts.map V.ref)) = H5 at *
      have rp : Rp (dL (rows2 (pairsOf mu))) := by
        refine rp_dL ?_ ?_
        · unfold rows2 pairsOf
          rw [List.length_map]
          have := List.length_filterMap_le (dueP mu) (List.range mu.length)
          rw [List.length_range] at this
          omega
        · intro t ht
          unfold rows2 at ht
          obtain ⟨x, hx, rfl⟩ := List.mem_map.mp ht
          refine ⟨by simp, fun j hj => ?_⟩
          obtain ⟨i, hi, e⟩ := List.mem_filterMap.mp hx
          obtain ⟨d1, d2, d3⟩ := due_some e
          have i1 := List.mem_range.mp hi
          have j1 := (ok.mate (show i < ls.length by omega) (pm.ok.on i _ d1).2).1
          simp only [List.mem_cons, List.not_mem_nil, or_false] at hj
          rcases hj with rfl | rfl <;> omega
      refine ⟨_, rfl, r, _, rfl, dp_dL ltr, rp.sh, rp.nd, rp.dp, rp.ln, _, rfl, pa, _, rfl, dp_dL ltp, rp.sh, rp.nd, rp.dp, rp.ln, rfl, false, congrArg V.bl (by simp), iteF ?_⟩
      refine ⟨_, rfl, _, rfl, _, rfl, wi, sp, ns, ls, sd, s, rfl, W.same s25, es.same s25, S, hs, fun r2 g2 H6 G2 s6 lt6 => ?_⟩
      obtain rfl := great_one G2 G
      rw [← hmu] at lt6
      refine ⟨_, rfl, dL (rows2 (pairsOf mu)), dL (rows2 (pairsOf mu)), dp_dL lt6, dp_dL (ltp.same s6), sh_dL _, sh_dL _, false, congrArg V.bl (by rw [eq_dL]; rfl), iteF ?_⟩
      have s26 := s25.trans s6
      refine ⟨_, rfl, D, _, rfl, .inl ⟨SqL.of (s6 _ _ eD5), fun z nz => ⟨_, rfl, dH mu, hss.map dH, dp_dH upd_same, dp_dLH ((s26.trans (same_upd nz)) _ _ eL) (hst.same (s26.trans (same_upd nz))), (by have := sh_dH mu; exact this), sh_dLH hss, ?_⟩⟩⟩
      rw [any_dH, decide_eq_true mem]
      exact q _ (s26.trans (same_upd nz))
end
end K14
namespace K14
open PySem PySem.Spec PyProof.Rows L2
/-! ### one side asks down its lists -/
/-- who holds whom: the one asked and the one held -/
structure GS (ls : List (List Nat)) (sd : List Nat) (s : Nat) (mu : List (Option Nat)) (R : Nat → Nat → Prop) (st : Nat → Nat) (fr : List Nat) : Prop where
  one : ∀ o p q, R o p → R o q → p = q
  own : ∀ o p, R o p → p < ls.length ∧ sd.getD p 0 = s ∧ 1 ≤ st p ∧ (la ls p)[st p - 1]? = some o
  free : ∀ p ∈ fr, p < ls.length ∧ sd.getD p 0 = s ∧ ∀ o, ¬ R o p
  nd : fr.Nodup
  out : ∀ p, p < ls.length → sd.getD p 0 = s → p ∈ fr ∨ (∃ o, R o p) ∨ st p = (la ls p).length
  le : ∀ p, p < ls.length → sd.getD p 0 = s → st p ≤ (la ls p).length
  asked : ∀ p, p < ls.length → sd.getD p 0 = s → ∀ o ∈ la ls p, (la ls p).idxOf o < st p → ∃ q, R o q ∧ (la ls o).idxOf q ≤ (la ls o).idxOf p
  good : ∀ p, p < ls.length → sd.getD p 0 = s → st p ≤ most ls mu p + 1 ∧ ∀ o, ha mu p = some o → st p = (la ls p).idxOf o + 1 → R o p
section
variable {ls : List (List Nat)} {sd : List Nat} {s : Nat} {mu : List (Option Nat)} {R : Nat → Nat → Prop} {st : Nat → Nat} {fr : List Nat} (ok : ListsOk ls.length ls)
theorem GS.inj (g : GS ls sd s mu R st fr) {o o' p : Nat} (h : R o p) (h' : R o' p) : o = o' := by
  have a := (g.own o p h).2.2.2
  have b := (g.own o' p h').2.2.2
  rw [a] at b
  exact Option.some.inj b
include ok in
theorem ix_at {p o i : Nat} (hp : p < ls.length) (e : (la ls p)[i]? = some o) : o ∈ la ls p ∧ (la ls p).idxOf o = i ∧ i < (la ls p).length := by
  have hm := List.mem_of_getElem? e
  have hl := List.idxOf_lt_length_of_mem hm
  refine ⟨hm, nodup_ix (ok.nd p _ (la_get hp)) (by rw [List.getElem?_eq_getElem hl, List.getElem_idxOf]) e, (List.getElem?_eq_some_iff.mp e).1⟩
include ok in
theorem GS.mem (g : GS ls sd s mu R st fr) {o p : Nat} (h : R o p) : p < ls.length ∧ sd.getD p 0 = s ∧ o ∈ la ls p ∧ (la ls p).idxOf o + 1 = st p ∧ o < ls.length ∧ p ∈ la ls o := by
  obtain ⟨h1, h2, h3, h4⟩ := g.own o p h
  obtain ⟨m1, m2, m3⟩ := ix_at ok h1 h4
  obtain ⟨o1, o2, o3⟩ := ok.mate h1 m1
  exact ⟨h1, h2, m1, by omega, o1, o3⟩
theorem GS.start (S : Sided ls sd) : GS ls sd s mu (fun _ _ => False) (fun _ => 0) ((List.range ls.length).filter fun p => decide (sd.getD p 0 = s)) where
  one := fun _ _ _ h => h.elim
  own := fun _ _ h => h.elim
  free := fun p hp => by
    rw [List.mem_filter, List.mem_range] at hp
    exact ⟨hp.1, of_decide_eq_true hp.2, fun _ h => h⟩
  nd := List.nodup_range.filter _
  out := fun p hp e => .inl (by rw [List.mem_filter, List.mem_range]; exact ⟨hp, decide_eq_true e⟩)
  le := fun p _ _ => Nat.zero_le _
  asked := fun p _ _ o _ h => absurd h (Nat.not_lt_zero _)
  good := fun p _ _ => ⟨Nat.zero_le _, fun o _ h => by omega⟩
include ok in
/-- the strict wish of one who has asked for no less than its mate -/
theorem less_most (pg : Pairg ls mu) {p o i : Nat} (hp : p < ls.length) (e : (la ls p)[i]? = some o) (ho : ha mu p ≠ some o) (h : i ≤ most ls mu p) : (la ls p).idxOf o < most ls mu p := by
  obtain ⟨m1, m2, m3⟩ := ix_at ok hp e
  rw [m2]
  refine Nat.lt_of_le_of_ne h fun z => ?_
  refine ho (held_is ok pg.ok m1 ?_)
  rw [m2]
  exact z
include ok in
theorem GS.below (g : GS ls sd s mu R st fr) {p : Nat} (hp : p ∈ fr) (hl : st p < (la ls p).length) : st p ≤ most ls mu p := by
  obtain ⟨f1, f2, f3⟩ := g.free p hp
  obtain ⟨g1, g2⟩ := g.good p f1 f2
  cases em : ha mu p with
  | none =>
    rw [most_none em]
    omega
  | some o =>
    have hne : st p ≠ (la ls p).idxOf o + 1 := fun z => f3 o (g2 o em z)
    rw [most_some em] at g1 ⊢
    omega
theorem GS.spent {p : Nat} (g : GS ls sd s mu R st (fr ++ [p])) (h : st p = (la ls p).length) : GS ls sd s mu R st fr where
  one := g.one
  own := g.own
  free := fun q hq => g.free q (by simp [hq])
  nd := (List.nodup_append.mp g.nd).1
  out := fun q hq e => by
    rcases g.out q hq e with h1 | h1
    · rw [List.mem_append, List.mem_singleton] at h1
      rcases h1 with h1 | rfl
      · exact .inl h1
      · exact .inr (.inr h)
    · exact .inr h1
  le := g.le
  asked := g.asked
  good := g.good
def up1 (st : Nat → Nat) (p : Nat) : Nat → Nat := fun q => if q = p then st p + 1 else st q
include ok in
/-- not taken -/
theorem GS.left {p o q : Nat} (pg : Pairg ls mu) (lm : Lasts ls mu) (g : GS ls sd s mu R st (fr ++ [p])) (e : (la ls p)[st p]? = some o) (ho : R o q) (h : ¬ (la ls o).idxOf p < (la ls o).idxOf q) : GS ls sd s mu R (up1 st p) (fr ++ [p]) := by
  have hp : p ∈ fr ++ [p] := by simp
  obtain ⟨f1, f2, f3⟩ := g.free p hp
  obtain ⟨m1, m2, m3⟩ := ix_at ok f1 e
  obtain ⟨o1, o2, o3⟩ := ok.mate f1 m1
  obtain ⟨q1, q2, q3, q4, q5, q6⟩ := g.mem ok ho
  have bel := g.below ok hp m3
  have qp : q ≠ p := fun z => f3 o (z ▸ ho)
  have other : ∀ r, r ≠ p → up1 st p r = st r := fun r hr => by simp [up1, hr]
  have self : up1 st p p = st p + 1 := by simp [up1]
  refine ⟨g.one, fun o' r hr => ?_, g.free, g.nd, fun r hr er => ?_, fun r hr er => ?_, fun r hr er o' ho' hlt => ?_, fun r hr er => ?_⟩
  · have : r ≠ p := fun z => f3 o' (z ▸ hr)
    rw [other r this]
    exact g.own o' r hr
  · by_cases c : r = p
    · subst c
      exact .inl hp
    · rw [other r c]
      exact g.out r hr er
  · by_cases c : r = p
    · subst c
      rw [self]
      omega
    · rw [other r c]
      exact g.le r hr er
  · by_cases c : r = p
    · subst c
      rw [self] at hlt
      by_cases d : o' = o
      · subst d
        exact ⟨q, ho, by omega⟩
      · refine g.asked r hr er o' ho' ?_
        have : (la ls r).idxOf o' ≠ st r := fun z => d (by
          have hl := List.idxOf_lt_length_of_mem ho'
          have : (la ls r)[(la ls r).idxOf o']? = some o' := by rw [List.getElem?_eq_getElem hl, List.getElem_idxOf]
          rw [z, e] at this
          exact (Option.some.inj this).symm)
        omega
    · rw [other r c] at hlt
      exact g.asked r hr er o' ho' hlt
  · by_cases c : r = p
    · subst c
      rw [self]
      refine ⟨by omega, fun o' em z => ?_⟩
      exfalso
      have eo : o' = o := by
        have hl := List.idxOf_lt_length_of_mem (pg.ok.on r o' em).2
        have : (la ls r)[(la ls r).idxOf o']? = some o' := by rw [List.getElem?_eq_getElem hl, List.getElem_idxOf]
        rw [show (la ls r).idxOf o' = st r by omega, e] at this
        exact (Option.some.inj this).symm
      subst eo
      have mo := pg.sym r o' em
      have gq := (g.good q q1 q2).1
      have lq := less_most ok pg (i := st q - 1) q1 (g.own o' q ho).2.2.2 (fun z => by
        have := pg.sym q o' z
        rw [mo] at this
        exact qp (Option.some.inj this).symm) (by omega)
      refine lm q q1 o' q3 ⟨lq, ?_⟩
      rw [most_some mo]
      refine Nat.lt_of_le_of_ne (by omega) fun z => ?_
      have h1 := List.idxOf_lt_length_of_mem q6
      have e1 : (la ls o')[(la ls o').idxOf q]? = some q := by rw [List.getElem?_eq_getElem h1, List.getElem_idxOf]
      have h2 := List.idxOf_lt_length_of_mem o3
      have e2 : (la ls o')[(la ls o').idxOf r]? = some r := by rw [List.getElem?_eq_getElem h2, List.getElem_idxOf]
      rw [z, e2] at e1
      exact qp (Option.some.inj e1).symm
    · rw [other r c]
      exact g.good r hr er
/-- held instead -/
def putR (R : Nat → Nat → Prop) (o p : Nat) : Nat → Nat → Prop := fun o' p' => if o' = o then p' = p else R o' p'
include ok in
/-- taken -/
theorem GS.taken {p o : Nat} {old : Option Nat} (pg : Pairg ls mu) (lm : Lasts ls mu) (g : GS ls sd s mu R st (fr ++ [p])) (e : (la ls p)[st p]? = some o) (ho : ∀ q, R o q ↔ old = some q) (h : ∀ q, old = some q → (la ls o).idxOf p < (la ls o).idxOf q) : GS ls sd s mu (putR R o p) (up1 st p) (fr ++ old.toList) := by
  have hp : p ∈ fr ++ [p] := by simp
  obtain ⟨f1, f2, f3⟩ := g.free p hp
  obtain ⟨m1, m2, m3⟩ := ix_at ok f1 e
  obtain ⟨o1, o2, o3⟩ := ok.mate f1 m1
  have bel := g.below ok hp m3
  have other : ∀ r, r ≠ p → up1 st p r = st r := fun r hr => by simp [up1, hr]
  have self : up1 st p p = st p + 1 := by simp [up1]
  have putO : ∀ p', putR R o p o p' ↔ p' = p := fun p' => by simp [putR]
  have putN : ∀ o' p', o' ≠ o → (putR R o p o' p' ↔ R o' p') := fun o' p' ne => by simp [putR, ne]
  have pfr : p ∉ fr := fun z => (List.nodup_append.mp g.nd).2.2 p z p (by simp) rfl
  refine ⟨fun o' a b ha' hb => ?_, fun o' r hr => ?_, fun r hr => ?_, ?_, fun r hr er => ?_, fun r hr er => ?_, fun r hr er o' ho' hlt => ?_, fun r hr er => ?_⟩
  · by_cases c : o' = o
    · subst c
      rw [putO] at ha' hb
      rw [ha', hb]
    · rw [putN _ _ c] at ha' hb
      exact g.one o' a b ha' hb
  · by_cases c : o' = o
    · subst c
      rw [putO] at hr
      subst hr
      rw [self]
      exact ⟨f1, f2, by omega, e⟩
    · rw [putN _ _ c] at hr
      have : r ≠ p := fun z => f3 o' (z ▸ hr)
      rw [other r this]
      exact g.own o' r hr
  · rw [List.mem_append] at hr
    rcases hr with hr | hr
    · obtain ⟨a1, a2, a3⟩ := g.free r (by simp [hr])
      refine ⟨a1, a2, fun o' ho' => ?_⟩
      by_cases c : o' = o
      · subst c
        rw [putO] at ho'
        exact pfr (ho' ▸ hr)
      · rw [putN _ _ c] at ho'
        exact a3 o' ho'
    · have eo : old = some r := by
        cases old with
        | none => simp at hr
        | some q => simp at hr; rw [hr]
      have ro := (ho r).mpr eo
      obtain ⟨q1, q2, _⟩ := g.mem ok ro
      refine ⟨q1, q2, fun o' ho' => ?_⟩
      by_cases c : o' = o
      · subst c
        rw [putO] at ho'
        exact f3 o' (ho' ▸ ro)
      · rw [putN _ _ c] at ho'
        exact c (g.inj ho' ro)
  · have h1 := (List.nodup_append.mp g.nd).1
    cases old with
    | none => simpa using h1
    | some q =>
      have ro := (ho q).mpr rfl
      rw [List.nodup_append]
      refine ⟨h1, by simp, fun a ha' b hb => ?_⟩
      simp at hb
      subst hb
      rintro rfl
      exact (g.free a (by simp [ha'])).2.2 o ro
  · by_cases c : r = p
    · subst c
      exact .inr (.inl ⟨o, (putO r).mpr rfl⟩)
    · rw [other r c]
      rcases g.out r hr er with h1 | ⟨o', h1⟩ | h1
      · rw [List.mem_append, List.mem_singleton] at h1
        rcases h1 with h1 | h1
        · exact .inl (by simp [h1])
        · exact absurd h1 c
      · by_cases d : o' = o
        · subst d
          have := (ho r).mp h1
          exact .inl (by rw [this]; simp)
        · exact .inr (.inl ⟨o', (putN _ _ d).mpr h1⟩)
      · exact .inr (.inr h1)
  · by_cases c : r = p
    · subst c
      rw [self]
      omega
    · rw [other r c]
      exact g.le r hr er
  · have keep : (∃ q, R o' q ∧ (la ls o').idxOf q ≤ (la ls o').idxOf r) → ∃ q, putR R o p o' q ∧ (la ls o').idxOf q ≤ (la ls o').idxOf r := by
      rintro ⟨q, hq, hle⟩
      by_cases d : o' = o
      · subst d
        have := h q ((ho q).mp hq)
        exact ⟨p, (putO p).mpr rfl, by omega⟩
      · exact ⟨q, (putN _ _ d).mpr hq, hle⟩
    by_cases c : r = p
    · subst c
      rw [self] at hlt
      by_cases d : o' = o
      · subst d
        exact ⟨r, (putO r).mpr rfl, Nat.le_refl _⟩
      · refine keep (g.asked r hr er o' ho' ?_)
        have : (la ls r).idxOf o' ≠ st r := fun z => d (by
          have hl := List.idxOf_lt_length_of_mem ho'
          have : (la ls r)[(la ls r).idxOf o']? = some o' := by rw [List.getElem?_eq_getElem hl, List.getElem_idxOf]
          rw [z, e] at this
          exact (Option.some.inj this).symm)
        omega
    · rw [other r c] at hlt
      exact keep (g.asked r hr er o' ho' hlt)
  · by_cases c : r = p
    · subst c
      rw [self]
      refine ⟨by omega, fun o' em z => ?_⟩
      have eo : o' = o := by
        have hl := List.idxOf_lt_length_of_mem (pg.ok.on r o' em).2
        have : (la ls r)[(la ls r).idxOf o']? = some o' := by rw [List.getElem?_eq_getElem hl, List.getElem_idxOf]
        rw [show (la ls r).idxOf o' = st r by omega, e] at this
        exact (Option.some.inj this).symm
      subst eo
      exact (putO r).mpr rfl
    · rw [other r c]
      obtain ⟨g1, g2⟩ := g.good r hr er
      refine ⟨g1, fun o' em z => ?_⟩
      have ro := g2 o' em z
      by_cases d : o' = o
      · subst d
        exfalso
        have mo := pg.sym r o' em
        have lt := h r ((ho r).mp ro)
        have lp := less_most ok pg f1 e (fun z => by
          have := pg.sym p o' z
          rw [mo] at this
          exact c (Option.some.inj this)) bel
        refine lm p f1 o' m1 ⟨lp, ?_⟩
        rw [most_some mo]
        exact lt
      · exact (putN _ _ d).mpr ro
end
end K14
namespace K14
open PySem PySem.Spec PyProof.Rows L2
def nuL (sd : List Nat) (s n : Nat) (L : List (Nat × Nat)) : List (Option Nat) := (List.range n).map fun p => if sd.getD p 0 = s then (L.find? fun x => decide (x.2 = p)).map (·.1) else (L.find? fun x => decide (x.1 = p)).map (·.2)
section
variable {ls : List (List Nat)} {sd : List Nat} {s : Nat} {mu : List (Option Nat)} {st : Nat → Nat} {L : List (Nat × Nat)} (ok : ListsOk ls.length ls)
abbrev RL (L : List (Nat × Nat)) : Nat → Nat → Prop := fun o p => (o, p) ∈ L
include ok in
theorem GS.side (g : GS ls sd s mu (RL L) st []) (S : Sided ls sd) {o p : Nat} (h : (o, p) ∈ L) : sd.getD p 0 = s ∧ sd.getD o 0 ≠ s := by
  obtain ⟨h1, h2, h3, h4, h5, h6⟩ := g.mem ok h
  exact ⟨h2, by rw [← h2]; exact S.apart p o h1 h3⟩
include ok in
theorem nu_in (g : GS ls sd s mu (RL L) st []) (S : Sided ls sd) {p o : Nat} (e : sd.getD p 0 = s) : ha (nuL sd s ls.length L) p = some o ↔ (o, p) ∈ L := by
  constructor
  · intro h
    have hp : p < ls.length := by
      have := ha_lt h
      simpa [nuL] using this
    unfold ha nuL at h
    rw [List.getD_eq_getElem?_getD, List.getElem?_map, List.getElem?_range hp] at h
    simp only [Option.map_some, Option.getD_some, e, if_true] at h
    cases f : L.find? fun x => decide (x.2 = p) with
    | none => rw [f] at h; cases h
    | some x =>
      rw [f] at h
      have m := List.mem_of_find?_eq_some f
      have t := List.find?_some f
      have t := of_decide_eq_true t
      cases h
      rw [← t]
      exact m
  · intro h
    have hp := (g.mem ok h).1
    unfold ha nuL
    rw [List.getD_eq_getElem?_getD, List.getElem?_map, List.getElem?_range hp]
    simp only [Option.map_some, Option.getD_some, e, if_true]
    cases f : L.find? fun x => decide (x.2 = p) with
    | none =>
      have := List.find?_eq_none.mp f _ h
      simp at this
    | some x =>
      have m := List.mem_of_find?_eq_some f
      have t := List.find?_some f
      have t := of_decide_eq_true t
      have m' : (x.1, p) ∈ L := by rw [← t]; exact m
      have := g.inj (R := RL L) m' h
      rw [← this]
      rfl
include ok in
theorem nu_out (g : GS ls sd s mu (RL L) st []) (S : Sided ls sd) {p o : Nat} (e : sd.getD o 0 ≠ s) : ha (nuL sd s ls.length L) o = some p ↔ (o, p) ∈ L := by
  constructor
  · intro h
    have hp : o < ls.length := by
      have := ha_lt h
      simpa [nuL] using this
    unfold ha nuL at h
    rw [List.getD_eq_getElem?_getD, List.getElem?_map, List.getElem?_range hp] at h
    simp only [Option.map_some, Option.getD_some, e, if_false] at h
    cases f : L.find? fun x => decide (x.1 = o) with
    | none => rw [f] at h; cases h
    | some x =>
      rw [f] at h
      have m := List.mem_of_find?_eq_some f
      have t := List.find?_some f
      have t := of_decide_eq_true t
      cases h
      rw [← t]
      exact m
  · intro h
    obtain ⟨h1, h2, h3, h4, h5, h6⟩ := g.mem ok h
    unfold ha nuL
    rw [List.getD_eq_getElem?_getD, List.getElem?_map, List.getElem?_range h5]
    simp only [Option.map_some, Option.getD_some, e, if_false]
    cases f : L.find? fun x => decide (x.1 = o) with
    | none =>
      have := List.find?_eq_none.mp f _ h
      simp at this
    | some x =>
      have m := List.mem_of_find?_eq_some f
      have t := List.find?_some f
      have t := of_decide_eq_true t
      have m' : (o, x.2) ∈ L := by rw [← t]; exact m
      have := g.one o _ _ m' h
      rw [← this]
      rfl
include ok in
theorem nu_pair (g : GS ls sd s mu (RL L) st []) (S : Sided ls sd) : Pairg ls (nuL sd s ls.length L) := by
  refine ⟨⟨by simp [nuL], fun p j e => ?_⟩, fun p j e => ?_⟩
  · by_cases c : sd.getD p 0 = s
    · obtain ⟨h1, h2, h3, h4, h5, h6⟩ := g.mem ok ((nu_in ok g S c).mp e)
      exact ⟨h1, h3⟩
    · obtain ⟨h1, h2, h3, h4, h5, h6⟩ := g.mem ok ((nu_out ok g S c).mp e)
      exact ⟨h5, h6⟩
  · by_cases c : sd.getD p 0 = s
    · have h := (nu_in ok g S c).mp e
      exact (nu_out ok g S (g.side ok S h).2).mpr h
    · have h := (nu_out ok g S c).mp e
      exact (nu_in ok g S (g.side ok S h).1).mpr h
include ok in
theorem nu_most (g : GS ls sd s mu (RL L) st []) (S : Sided ls sd) {p : Nat} (hp : p < ls.length) (e : sd.getD p 0 = s) : (∃ o, (o, p) ∈ L ∧ most ls (nuL sd s ls.length L) p + 1 = st p) ∨ ha (nuL sd s ls.length L) p = none ∧ most ls (nuL sd s ls.length L) p = st p ∧ st p = (la ls p).length := by
  cases en : ha (nuL sd s ls.length L) p with
  | some o =>
    have h := (nu_in ok g S e).mp en
    obtain ⟨h1, h2, h3, h4, h5, h6⟩ := g.mem ok h
    exact .inl ⟨o, h, by rw [most_some en]; exact h4⟩
  | none =>
    have : st p = (la ls p).length := by
      rcases g.out p hp e with h | ⟨o, h⟩ | h
      · cases h
      · rw [(nu_in ok g S e).mpr h] at en
        cases en
      · exact h
    exact .inr ⟨rfl, by rw [most_none en, this], this⟩
include ok in
theorem nu_lasts (g : GS ls sd s mu (RL L) st []) (S : Sided ls sd) (hs : s ≤ 1) : Lasts ls (nuL sd s ls.length L) := by
  have key : ∀ p, p < ls.length → ∀ o ∈ la ls p, sd.getD p 0 = s → ¬ ((la ls p).idxOf o < most ls (nuL sd s ls.length L) p ∧ (la ls o).idxOf p < most ls (nuL sd s ls.length L) o) := by
    rintro p hp o ho e ⟨b1, b2⟩
    have lt : (la ls p).idxOf o < st p := by
      rcases nu_most ok g S hp e with ⟨_, _, h⟩ | ⟨_, h, _⟩ <;> omega
    obtain ⟨q, hq, hle⟩ := g.asked p hp e o ho lt
    have en := (nu_out ok g S (g.side ok S hq).2).mpr hq
    rw [most_some en] at b2
    omega
  intro p hp o ho hb
  obtain ⟨o1, o2, o3⟩ := ok.mate hp ho
  have ap := S.apart p o hp ho
  have t1 := S.two p hp
  have t2 := S.two o o1
  by_cases c : sd.getD p 0 = s
  · exact key p hp o ho c hb
  · exact key o o1 p o3 (by omega) ⟨hb.2, hb.1⟩
include ok in
/-- behind the last asking: the pairing that is best for the side -/
theorem GS.done {gr : List (Option Nat)} (G : Great ls gr) (S : Sided ls sd) (hs : s ≤ 1) (g : GS ls sd s (sideM ls gr sd s) (RL L) st []) : nuL sd s ls.length L = sideM ls gr sd s := by
  have pn := nu_pair ok g S
  have pm := side_pair ok G S hs
  have inS : ∀ p, p < ls.length → sd.getD p 0 = s → ha (nuL sd s ls.length L) p = ha (sideM ls gr sd s) p := by
    intro p hp e
    refine most_inj pn.ok pm.ok ?_
    have b := side_best ok G S hs pn (nu_lasts ok g S hs) hp
    rw [if_pos e] at b
    refine Nat.le_antisymm ?_ b
    obtain ⟨g1, g2⟩ := g.good p hp e
    rcases nu_most ok g S hp e with ⟨o, h1, h2⟩ | ⟨h1, h2, h3⟩
    · omega
    · cases em : ha (sideM ls gr sd s) p with
      | none =>
        rw [most_none em]
        omega
      | some o =>
        rw [most_some em] at g1
        have hl := List.idxOf_lt_length_of_mem (pm.ok.on p o em).2
        have := g2 o em (by omega)
        rw [(nu_in ok g S e).mpr this] at h1
        cases h1
  apply List.ext_getElem?
  intro p
  by_cases hp : p < ls.length
  · rw [ha_get (by rw [pn.ok.len]; exact hp), ha_get (by rw [pm.ok.len]; exact hp)]
    congr 1
    by_cases c : sd.getD p 0 = s
    · exact inS p hp c
    · have two : ∀ j, j ∈ la ls p → sd.getD j 0 = s := fun j hj => by
        have t1 := S.two p hp
        have t2 := S.two j (ok.mate hp hj).1
        have := S.apart p j hp hj
        omega
      cases en : ha (nuL sd s ls.length L) p with
      | some j =>
        have jm := (pn.ok.on p j en).2
        have := pn.sym p j en
        rw [inS j (ok.mate hp jm).1 (two j jm)] at this
        exact (pm.sym j p this).symm
      | none =>
        cases em : ha (sideM ls gr sd s) p with
        | none => rfl
        | some j =>
          have jm := (pm.ok.on p j em).2
          have := pm.sym p j em
          rw [← inS j (ok.mate hp jm).1 (two j jm)] at this
          rw [pn.sym j p this] at en
          cases en
  · rw [List.getElem?_eq_none (by rw [pn.ok.len]; omega), List.getElem?_eq_none (by rw [pm.ok.len]; omega)]
theorem lo_hi {a b : Nat} : (a < b ∧ lo a b = a ∧ K14.hi a b = b) ∨ (b < a ∧ lo a b = b ∧ K14.hi a b = a) ∨ (a = b ∧ lo a b = b ∧ K14.hi a b = b) := by
  unfold lo K14.hi
  rcases Nat.lt_trichotomy a b with h | h | h
  · exact .inl ⟨h, by rw [if_neg (by omega)], by rw [if_pos h]⟩
  · subst h
    exact .inr (.inr ⟨rfl, by simp, by simp⟩)
  · exact .inr (.inl ⟨h, by rw [if_pos h], by rw [if_neg (by omega)]⟩)
def pairL (L : List (Nat × Nat)) : List (Nat × Nat) := L.map fun x => (lo x.2 x.1, K14.hi x.2 x.1)
include ok in
theorem GS.perm {gr : List (Option Nat)} (G : Great ls gr) (S : Sided ls sd) (hs : s ≤ 1) (g : GS ls sd s (sideM ls gr sd s) (RL L) st []) (nd : (L.map Prod.fst).Nodup) : (pairsOf (sideM ls gr sd s)).Perm (pairL L) := by
  have ndL : L.Nodup := by
    rw [List.nodup_iff_pairwise_ne, List.pairwise_map] at nd
    exact nd.imp fun {a b} h e => h (by rw [e])
  have hn := g.done ok G S hs
  have pn := nu_pair ok g S
  refine perm_of ?_ ?_ fun x => ?_
  · have := pairs_asc (sideM ls gr sd s)
    exact this.imp fun {a b} h e => by rw [e] at h; omega
  · unfold pairL
    rw [List.nodup_iff_pairwise_ne, List.pairwise_map]
    refine (List.Pairwise.and_mem.mp ndL).imp fun {a b} h e => ?_
    obtain ⟨ma, mb, ne⟩ := h
    obtain ⟨a1, a2⟩ := g.side ok S (show (a.1, a.2) ∈ L from ma)
    obtain ⟨b1, b2⟩ := g.side ok S (show (b.1, b.2) ∈ L from mb)
    have e1 := congrArg Prod.fst e
    have e2 := congrArg Prod.snd e
    simp only at e1 e2
    have : (a.1 = b.1 ∧ a.2 = b.2) ∨ (a.1 = b.2 ∧ a.2 = b.1) := by
      rcases lo_hi (a := a.2) (b := a.1) with ⟨h1, h2, h3⟩ | ⟨h1, h2, h3⟩ | ⟨h1, h2, h3⟩ <;> rcases lo_hi (a := b.2) (b := b.1) with ⟨k1, k2, k3⟩ | ⟨k1, k2, k3⟩ | ⟨k1, k2, k3⟩ <;> rw [h2, k2] at e1 <;> rw [h3, k3] at e2 <;> omega
    rcases this with ⟨h1, h2⟩ | ⟨h1, h2⟩
    · exact ne (Prod.ext h1 h2)
    · rw [h1] at a2
      exact a2 b1
  · constructor
    · intro h
      obtain ⟨i, hi, e⟩ := List.mem_filterMap.mp h
      obtain ⟨d1, d2, d3⟩ := due_some e
      rw [← hn] at d1
      have iv := pn.ok.on i _ d1
      unfold pairL
      rw [List.mem_map]
      by_cases c : sd.getD i 0 = s
      · have m := (nu_in ok g S c).mp d1
        refine ⟨_, m, ?_⟩
        rcases lo_hi (a := i) (b := x.2) with ⟨h1, h2, h3⟩ | ⟨h1, h2, h3⟩ | ⟨h1, h2, h3⟩
        · exact Prod.ext (by rw [h2]; exact d2.symm) h3
        · omega
        · omega
      · have m := (nu_out ok g S c).mp d1
        refine ⟨_, m, ?_⟩
        rcases lo_hi (a := x.2) (b := i) with ⟨h1, h2, h3⟩ | ⟨h1, h2, h3⟩ | ⟨h1, h2, h3⟩
        · omega
        · exact Prod.ext (by rw [h2]; exact d2.symm) h3
        · omega
    · intro h
      unfold pairL at h
      obtain ⟨y, hy, rfl⟩ := List.mem_map.mp h
      obtain ⟨h1, h2, h3, h4, h5, h6⟩ := g.mem ok (show (y.1, y.2) ∈ L from hy)
      obtain ⟨s1, s2⟩ := g.side ok S (show (y.1, y.2) ∈ L from hy)
      have e1 := (nu_in ok g S s1).mpr hy
      have e2 := (nu_out ok g S s2).mpr hy
      rw [hn] at e1 e2
      unfold pairsOf
      rw [List.mem_filterMap]
      rcases lo_hi (a := y.2) (b := y.1) with ⟨k1, k2, k3⟩ | ⟨k1, k2, k3⟩ | ⟨k1, k2, k3⟩
      · refine ⟨y.2, List.mem_range.mpr (by rw [sideM_len]; exact h1), ?_⟩
        unfold dueP
        rw [e1, k2, k3]
        simp [k1]
      · refine ⟨y.1, List.mem_range.mpr (by rw [sideM_len]; exact h5), ?_⟩
        unfold dueP
        rw [e2, k2, k3]
        simp [k1]
      · exact absurd (k1 ▸ s1) s2
end
/-! ### how often is asked -/
def remS (ls : List (List Nat)) (st : Nat → Nat) (n : Nat) : Nat := ((List.range n).map fun p => (la ls p).length - st p).sum
theorem remS_succ {ls : List (List Nat)} {st : Nat → Nat} {n : Nat} : remS ls st (n + 1) = remS ls st n + ((la ls n).length - st n) := by
  unfold remS
  rw [List.range_succ, List.map_append, List.sum_append]
  simp
theorem remS_same {ls : List (List Nat)} {st : Nat → Nat} {p : Nat} : ∀ n, n ≤ p → remS ls (up1 st p) n = remS ls st n
  | 0, _ => rfl
  | n + 1, h => by
    rw [remS_succ, remS_succ, remS_same n (by omega)]
    have : up1 st p n = st n := by simp [up1]; omega
    rw [this]
theorem remS_up {ls : List (List Nat)} {st : Nat → Nat} {p : Nat} (hl : st p < (la ls p).length) : ∀ n, p < n → remS ls (up1 st p) n + 1 = remS ls st n
  | 0, h => absurd h (Nat.not_lt_zero _)
  | n + 1, h => by
    rw [remS_succ, remS_succ]
    by_cases c : n = p
    · subst c
      rw [remS_same n (Nat.le_refl _)]
      have : up1 st n n = st n + 1 := by simp [up1]
      rw [this]
      omega
    · have := remS_up hl n (by omega)
      have e : up1 st p n = st n := by simp [up1, c]
      rw [e]
      omega
theorem remS_le {ls : List (List Nat)} {st : Nat → Nat} {m : Nat} (h : ∀ p, (la ls p).length ≤ m) : ∀ n, remS ls st n ≤ n * m
  | 0 => by simp [remS]
  | n + 1 => by
    rw [remS_succ, Nat.succ_mul]
    have := remS_le (st := st) h n
    have := h n
    omega
end K14
set_option maxHeartbeats 4000000
/-! t * 0 of a tuple that is not empty: a new empty one -/
namespace K14
open PySem PySem.Spec PyProof.Rows L2
theorem tup_mul0 (l : Addr) (items : Array Value) (n : Nat) (dd : Option Addr) (sl : Array (Option Value)) (u : Tok) (hi : items.isEmpty = false) :
    Meets (Builtin.«tuple.__mul__» ⟨[.ref l, .int 0 u], []⟩) (fun _ R s => s.heap.get? l = some { cls := .type "tuple", dict := dd, data := .seq items n, slots := sl } ∧
      R (.ok (.ret (Value.ref s.heap.objs.size))) { s with heap := s.heap.push { cls := Value.type "tuple", data := Data.seq #[] }, toks := s.toks }) :=
  .of_wp fun prog w A R s h => by
    obtain ⟨hp, g, d, tk, os⟩ := s
    obtain ⟨hl, h⟩ := h
    have f1 := AutoSeq1.idx_int
    have c1 : (items.isEmpty || (0 : Int) == 1) = false := by rw [hi]; rfl
    have c2 : (decide ((0 : Int) ≤ 0) || items.isEmpty) = true := by simp
    wp_walk using wpAny_loadPart' hl
    repeat (first
      | (refine wpAny_ite_false (decide_eq_false (by decide)) ?_; wp_walk using wpAny_loadPart' hl)
      | (refine wpAny_ite_false (decide_eq_false (by rw [c1]; exact Bool.false_ne_true)) ?_; wp_walk using wpAny_loadPart' hl)
      | (refine wpAny_ite_true (decide_eq_true c2) ?_; wp_walk using wpAny_loadPart' hl)
      | (refine wpAny_ite_true (by rw [c2]; rfl) ?_; wp_walk using wpAny_loadPart' hl))
    exact ⟨_, rfl, h⟩
def rRepB (K : PySem.W.Frag) : R2 := fun x y H Q => (∃ l xs, x = .ref l ∧ y = .int 0 ∧ SqT K H l xs ∧ xs ≠ [] ∧ ∀ p, H p = none → Q (.ref p) (upd H p (.tup []))) ∨ rRepA K x y H Q
theorem op_repB {X : Cx} : OpR X (binaryOp .Mult) (rRepB X.K) := by
  intro pins st σ H x y v u Q I rx ry h
  rcases h with ⟨l, xs, rfl, rfl, hT, hne, q⟩ | h
  · cases rx
    obtain ⟨t, rfl⟩ := ry
    obtain ⟨its, r, ⟨⟨cls, dd, data, sl⟩, ho, hc, n, hd⟩, hs⟩ := I.tuple hT
    simp only at hc hd
    subst hc hd
    have hi : its.toArray.isEmpty = false := by
      cases its with
      | nil => exact absurd (List.eq_nil_of_length_eq_zero r.length) hne
      | cons a b => rfl
    refine wpAny_binaryOp_repeat_ref (T := "tuple") (U := "int") (by decide) ⟨_, ho, rfl⟩ (fun s' => typeIs_int s' 0 t) noFill_tuple_mul F.fills_int_mul F.slot_int_rmul repeat_tuple F.slot_int_index.lookup
      (call_meets F.slot_int_rmul (typeIs_int st 0 t) F.entry_int_rmul (F.args_int_rmul_2 _ _) (int_rmul_tuple 0 t l its.toArray n dd sl)
        ⟨ho, rfl, ⟨_, ho, rfl⟩, call_meets F.slot_tuple_mul ⟨_, ho, rfl⟩ F.entry_tuple_mul (F.args_tuple_mul_2 _ _) (tup_mul0 l its.toArray n dd sl t hi) ⟨ho, ?_⟩⟩)
    refine ⟨.ref st.heap.objs.size, _, I.laid (t' := st.toks) (o := .tup []) (fun b ob q => Heap.get?_push_of_some _ q) (Nat.le_refl _) ?_, rfl, q _ (I.hok.fresh (Nat.le_refl _))⟩
    exact ⟨Nat.zero_le _, _, .nil, IsTup.new _ _⟩
  · exact op_repA pins st σ H x y v u Q I rx ry h
end K14
namespace K14
open PySem PySem.Spec PyProof.Rows L2
theorem repB {K : PySem.W.Frag} {H : Hp} {t : Addr} {v m : Nat} {z : Int} {Q : VK} (hz : z = (m : Nat)) (e : H t = some (.tup [.int (v : Nat)])) (h2 : m ≤ 1000) (q : ∀ c H', Same H H' → H' c = some (.tup (VI (List.replicate m v))) → Q (.ref c) H') : rRepB K (.ref t) (.int z) H Q := by
  subst hz
  by_cases c0 : m = 0
  · subst c0
    refine .inl ⟨t, _, rfl, rfl, SqT.of e, by simp, fun p np => q p _ (same_upd np) ?_⟩
    rw [upd_same]
    rfl
  · by_cases c : m = 1
    · subst c
      exact .inr (.inl ⟨t, _, rfl, rfl, SqT.of e, q t H same_rfl e⟩)
    · refine .inr (.inr ⟨t, (m : Int), _, rfl, rfl, SqT.of e, by simp, by omega, by omega, by simp, fun p np => q p _ (same_upd np) ?_⟩)
      rw [upd_same]
      congr 2
      rw [Int.toNat_natCast]
      unfold VI
      rw [List.map_replicate]
      clear c c0 h2 q
      induction m with
      | zero => rfl
      | succ n ih => rw [List.replicate_succ, List.flatten_cons, ih, List.replicate_succ]; rfl
def natOf : V → Nat
  | .int i => i.toNat
  | _ => 0
theorem sd_of {ys : List V} {xs : List Nat} (pm : ys.Perm (VI xs)) : ∃ sd : List Nat, ys = VI sd ∧ sd.Perm xs := by
  refine ⟨ys.map natOf, ?_, ?_⟩
  · have all : ∀ y ∈ ys, V.int ((natOf y : Nat) : Int) = y := fun y hy => by
      have h := pm.mem_iff.mp hy
      unfold VI at h
      obtain ⟨j, _, rfl⟩ := List.mem_map.mp h
      show V.int (((j : Int).toNat : Nat) : Int) = _
      simp
    unfold VI
    rw [List.map_map]
    conv => lhs; rw [← List.map_id ys]
    exact List.map_congr_left fun y hy => (all y hy).symm
  · have h := pm.map natOf
    have e : (VI xs).map natOf = xs := by
      unfold VI
      rw [List.map_map]
      conv => rhs; rw [← List.map_id xs]
      exact List.map_congr_left fun y _ => by show ((y : Int).toNat) = y; simp
    rw [e] at h
    exact h
theorem sd_two {sd : List Nat} {a b : Nat} (pm : sd.Perm (List.replicate a 0 ++ List.replicate b 1)) : sd.length = a + b ∧ ∀ p, p < sd.length → sd.getD p 0 ≤ 1 := by
  refine ⟨by rw [pm.length_eq]; simp, fun p hp => ?_⟩
  have h : sd.getD p 0 ∈ sd := by
    rw [List.getD_eq_getElem?_getD, List.getElem?_eq_getElem hp]
    exact List.getElem_mem hp
  have h := pm.mem_iff.mp h
  rw [List.mem_append] at h
  rcases h with h | h
  · rw [(List.mem_replicate.mp h).2]
    omega
  · rw [(List.mem_replicate.mp h).2]
    omega
/-! ### a dict of persons -/
def kvf (x : Nat × Nat) : Key × V := (Sum.inl (x.1 : Int), V.int (x.2 : Nat))
def kvO (L : List (Nat × Nat)) : List (Key × V) := L.map kvf
def getO (L : List (Nat × Nat)) (o : Nat) : Option Nat := (L.find? fun x => decide (x.1 = o)).map Prod.snd
theorem kvO_get {o : Nat} : ∀ (L : List (Nat × Nat)), (valV (kvO L) (Sum.inl (o : Int))).getD .non = hv (getO L o)
  | [] => rfl
  | x :: t => by
    show (valV (kvf x :: kvO t) _).getD .non = _
    by_cases c : x.1 = o
    · rw [valV_pos (by show (Sum.inl (x.1 : Int) : Key) = _; rw [c])]
      unfold getO
      rw [List.find?_cons_of_pos (by simpa using c)]
      rfl
    · rw [valV_neg (fun z => c (by have := Sum.inl.inj z; omega))]
      rw [kvO_get t]
      unfold getO
      rw [List.find?_cons_of_neg (by simpa using c)]
theorem getO_iff {L : List (Nat × Nat)} {o : Nat} (nd : (L.map Prod.fst).Nodup) (q : Nat) : (o, q) ∈ L ↔ getO L o = some q := by
  unfold getO
  induction L with
  | nil => simp
  | cons x t ih =>
    rw [List.map_cons, List.nodup_cons] at nd
    by_cases c : x.1 = o
    · rw [List.find?_cons_of_pos (by simpa using c)]
      constructor
      · intro h
        rcases List.mem_cons.mp h with h | h
        · rw [← h]
          rfl
        · exact absurd (List.mem_map.mpr ⟨_, h, c.symm⟩) nd.1
      · intro h
        cases h
        rw [← c]
        simp
    · rw [List.find?_cons_of_neg (by simpa using c), ← ih nd.2]
      constructor
      · intro h
        rcases List.mem_cons.mp h with h | h
        · exact absurd (by rw [← h]) c
        · exact h
      · intro h
        simp [h]
def putO (L : List (Nat × Nat)) (o p : Nat) : List (Nat × Nat) := if (L.any fun x => decide (x.1 = o)) = true then L.map (fun x => if x.1 = o then (x.1, p) else x) else L ++ [(o, p)]
theorem kvO_any {o : Nat} (L : List (Nat × Nat)) : ((kvO L).any fun kv => decide (kv.1 = Sum.inl (o : Int))) = L.any fun x => decide (x.1 = o) := by
  unfold kvO
  rw [List.any_map]
  congr 1
  funext x
  show decide ((Sum.inl (x.1 : Int) : Key) = Sum.inl (o : Int)) = _
  rw [decide_eq_decide]
  constructor
  · intro z
    have := Sum.inl.inj z
    omega
  · intro z
    rw [z]
theorem kvO_put {o p : Nat} (L : List (Nat × Nat)) : putK (kvO L) (Sum.inl (o : Int)) (.int (p : Nat)) = kvO (putO L o p) := by
  unfold putK putO
  rw [kvO_any]
  split
  · unfold kvO
    rw [List.map_map, List.map_map]
    refine List.map_congr_left fun x _ => ?_
    show (if (kvf x).1 = Sum.inl (o : Int) then ((kvf x).1, V.int (p : Nat)) else kvf x) = kvf (if x.1 = o then (x.1, p) else x)
    by_cases c : x.1 = o
    · rw [if_pos c, if_pos (by show (Sum.inl (x.1 : Int) : Key) = _; rw [c])]
      rfl
    · rw [if_neg c, if_neg (fun z => c (by have := Sum.inl.inj z; omega))]
  · unfold kvO
    rw [List.map_append]
    rfl
theorem putO_len {o p : Nat} (L : List (Nat × Nat)) : (putO L o p).length ≤ L.length + 1 := by
  unfold putO
  split <;> simp
theorem putO_nd {o p : Nat} {L : List (Nat × Nat)} (nd : (L.map Prod.fst).Nodup) : ((putO L o p).map Prod.fst).Nodup := by
  unfold putO
  split
  · rw [List.map_map]
    have e : (Prod.fst ∘ fun x : Nat × Nat => if x.1 = o then (x.1, p) else x) = Prod.fst := by
      funext x
      show (if x.1 = o then (x.1, p) else x).1 = x.1
      split <;> rfl
    rw [e]
    exact nd
  · rename_i c
    rw [List.map_append, List.nodup_append]
    refine ⟨nd, by simp, fun a ha b hb => ?_⟩
    simp at hb
    subst hb
    rintro rfl
    obtain ⟨x, hx, e⟩ := List.mem_map.mp ha
    exact c (List.any_eq_true.mpr ⟨x, hx, by simpa using e⟩)
theorem putO_mem {o p : Nat} {L : List (Nat × Nat)} (nd : (L.map Prod.fst).Nodup) : RL (putO L o p) = putR (RL L) o p := by
  funext o' p'
  apply propext
  show (o', p') ∈ putO L o p ↔ _
  rw [getO_iff (putO_nd nd)]
  unfold putR
  have key : getO (putO L o p) o' = if o' = o then some p else getO L o' := by
    unfold putO
    split
    · rename_i c
      clear nd
      unfold getO
      induction L with
      | nil => simp at c
      | cons x t ih =>
        rw [List.map_cons]
        by_cases d : x.1 = o
        · rw [if_pos d]
          by_cases e : o' = o
          · rw [List.find?_cons_of_pos (by simp [d, e]), if_pos e]
            rfl
          · rw [List.find?_cons_of_neg (by simp [d]; exact fun z => e z.symm), if_neg e, List.find?_cons_of_neg (by simp [d]; exact fun z => e z.symm)]
            by_cases f : (t.any fun x => decide (x.1 = o)) = true
            · have := ih f
              rw [if_neg e] at this
              exact this
            · have : t.map (fun x => if x.1 = o then (x.1, p) else x) = t := by
                conv => rhs; rw [← List.map_id t]
                refine List.map_congr_left fun y hy => ?_
                rw [if_neg fun z => f (List.any_eq_true.mpr ⟨y, hy, by simpa using z⟩)]
                rfl
              rw [this]
        · rw [if_neg d]
          have c' : (t.any fun x => decide (x.1 = o)) = true := by simpa [d] using c
          by_cases g : x.1 = o'
          · rw [List.find?_cons_of_pos (by simpa using g), if_neg (fun z => d (g.trans z)), List.find?_cons_of_pos (by simpa using g)]
          · rw [List.find?_cons_of_neg (by simpa using g), List.find?_cons_of_neg (by simpa using g)]
            exact ih c'
    · rename_i c
      unfold getO
      rw [List.find?_append]
      by_cases e : o' = o
      · subst e
        have : (L.find? fun x => decide (x.1 = o')) = none := List.find?_eq_none.mpr fun x hx z => c (List.any_eq_true.mpr ⟨x, hx, z⟩)
        rw [this, if_pos rfl]
        simp
      · rw [if_neg e]
        have : (List.find? (fun x => decide (x.1 = o')) [(o, p)]) = none := by simp; exact fun z => e z.symm
        rw [this]
        simp
  rw [key]
  split
  · exact ⟨fun h => (Option.some.inj h).symm, fun h => by rw [h]⟩
  · exact (getO_iff nd p').symm
theorem eqv_dLi_nil (s : List Nat) : PyData.eqv (dLi s) (.list []) = s.isEmpty := by
  cases s with
  | nil => decide
  | cons a t => simp [dLi, PyData.eqv, PyData.eqvAll]
theorem up1_set {ss : List Nat} {p : Nat} (hp : p < ss.length) : (fun q => (ss.set p (ss.getD p 0 + 1)).getD q 0) = up1 (fun q => ss.getD q 0) p := by
  funext q
  show (ss.set p (ss.getD p 0 + 1)).getD q 0 = if q = p then ss.getD p 0 + 1 else ss.getD q 0
  by_cases c : q = p
  · subst c
    rw [if_pos rfl, List.getD_eq_getElem?_getD, List.getElem?_set_self hp]
    rfl
  · rw [if_neg c, List.getD_eq_getElem?_getD, List.getElem?_set_ne (fun z => c z.symm), List.getD_eq_getElem?_getD]
/-- taken or not -/
def accB (ls : List (List Nat)) (o p : Nat) (old : Option Nat) : Bool := match old with | none => true | some q => decide ((la ls o).idxOf p < (la ls o).idxOf q)
abbrev ttTake : TT := tOr (tTest (tOp (fun x y H Q => y = V.non ∧ Q (V.bl (decide (x = V.non))) H) (tVar 10) (tC .non))) (tTest (tOp (rI0 fun i j => V.bl (decide (i < j))) (tCall spRank [] E0 (tCons (tVar 2) (tCons (tVar 9) (tCons (tVar 8) tNil)))) (tCall spRank [] E0 (tCons (tVar 2) (tCons (tVar 9) (tCons (tVar 10) tNil))))))
theorem tt_take {σ : L2.St} {H : Hp} {a : Addr} {ls : List (List Nat)} {o p : Nat} {old : Option Nat} {Q : Bool → Hp → Prop} (e2 : σ[2]? = some (some (.ref a))) (e9 : σ[9]? = some (some (.int (o : Nat)))) (e8 : σ[8]? = some (some (.int (p : Nat)))) (e10 : σ[10]? = some (some (hv old))) (lx : LX H a ls)
    (ho : o < ls.length) (hp : p ∈ la ls o) (hq : ∀ q, old = some q → q ∈ la ls o) (q : Q (accB ls o p old) H) : ttTake σ H Q := by
  refine ⟨_, e10, rfl, _, rfl, ?_⟩
  rw [hv_non]
  cases old with
  | none => exact iteT q
  | some r =>
    refine iteF ⟨_, e2, _, e9, _, e8, a, ls, o, some p, rfl, lx, ho, fun j e => by cases e; exact hp, _, e2, _, e9, _, e10, a, ls, o, some r, rfl, lx, ho, fun j e => hq j e, _, _, rfl, rfl, accB ls o p (some r), ?_, q⟩
    refine congrArg V.bl ?_
    unfold accB
    rw [decide_eq_decide]
    show (((la ls o).idxOf p : Nat) : Int) < (((la ls o).idxOf r : Nat) : Int) ↔ _
    omega
end K14
namespace K14
open PySem PySem.Spec PyProof.Rows L2
theorem units1 {k : Nat} {A : Around} (r : Room k A) : A.units + 1 < cLine := by
  have := r.un
  omega
abbrev rMin2 : List V → Hp → VK → Prop := fun xs H Q => ∃ i j, xs = [.int i, .int j] ∧ Q (.int (if j < i then j else i)) H
abbrev rMax2 : List V → Hp → VK → Prop := fun xs H Q => ∃ i j, xs = [.int i, .int j] ∧ Q (.int (if j > i then j else i)) H
def spGR : Sp := fun vs H Q _ => ∃ (h l : Addr), vs = [.ref h] ∧ Src H h l ∧ ∀ H', Src H' h l → Bar h l H H' → Q (.bl true) H'
theorem spGR_len : ∀ vs H Q E, spGR vs H Q E → vs.length = (["heap"] : List Str).length := by
  rintro vs H Q E ⟨h, l, rfl, _⟩
  rfl
abbrev nGR : List Str := ["heap", "sides", "lists", "side", "held", "starts", "free", "turn", "person", "other", "old", "due", "one"]
theorem scGR : FnScope ["heap", "sides", "lists", "side", "held", "starts", "free", "turn", "person", "other", "old", "due", "one"] ["heap"] (defScope sGreatRight) := ⟨rfl, rfl, rfl, by decide +kernel, rfl, by decide +kernel, by decide +kernel⟩
/-- what stands while one side asks -/
structure Ask (ls : List (List Nat)) (sd : List Nat) (s : Nat) (mu : List (Option Nat)) (H0 : Hp) (D1 D2 F : Addr) (H' : Hp) (L : List (Nat × Nat)) (ss fr : List Nat) (i : Nat) : Prop where
  sm : Same H0 H'
  e1 : H' D1 = some (.dK (kvO L))
  e2 : H' D2 = some (.lst (VI ss))
  eF : H' F = some (.lst (VI fr))
  nF : H0 F = none
  ne : F ≠ D2
  nd : (L.map Prod.fst).Nodup
  sl : ss.length = ls.length
  ll : L.length ≤ i
  gs : GS ls sd s mu (RL L) (fun p => ss.getD p 0) fr
  me : i + remS ls (fun p => ss.getD p 0) ls.length + fr.length ≤ 2 * ls.length * ls.length
section
variable {P : Program} {w : World} {K : PySem.W.Frag} {mg : Str → Option Value} {base : Heap}
theorem ok_great_right {f fi f1 f2 f3 f4 f5 f6 f7 C : Addr} {fd di d1 d2 d3 d4 d5 d6 d7 : FuncData} {k : Nat} (F : Fun K "_law_great_right" "_law_great_right" sGreatRight f fd) (T : Txt K mg C) (M : Mk K C fi)
    (Gi : FnOk P w K mg base CX0 (k + 1) fi di ["self", "names", "lists"] (spWInit C)) (bi : Binds K di ["self", "names", "lists"] [])
    (Sh : Has P w K mg base (k + 2) "_law_shuffled" ["heap", "some"] spShuffled f1 d1) (Dr : Has P w K mg base (k + 2) "_law_draw" ["heap", "many"] spDraw f2 d2) (Be : Has P w K mg base (k + 2) "_law_between" ["heap", "sides", "share"] spBetween f3 d3) (Pk : Has P w K mg base (k + 2) "_law_pick" ["heap", "some"] spPick f4 d4)
    (Rk : Has P w K mg base (k + 2) "_law_rank" ["lists", "person", "other"] spRank f5 d5) (Nm : Has P w K mg base (k + 2) "_law_names" ["heap", "many"] spNames f6 d6) (Si : Has P w K mg base (k + 2) "side_pairing" ["wishes", "sides", "side"] (spSidePairing C) f7 d7)
    (ml : mg "len" = none) (mrg : mg "range" = none) (mmi : mg "min" = none) (mma : mg "max" = none) (mt : mg "tuple" = none) (mso : mg "sorted" = none) (mrp : mg "repr" = none) : RunG P w K mg base (k + 3) f fd ["heap"] spGR := by
  refine okG F scGR spGR_len (fun cdv A outer s' H vs Q E hA hr h => ?_)
  obtain ⟨h, l, rfl, src, q⟩ := h
  refine ⟨_, pss_cons (ps_set (i := 1) scGR.nd rfl (.inr rfl) (pe_call Sh.ok hr rfl Sh.m Sh.k Sh.b .nil pass0 (pa_cons (pv 0) (pa_cons (pe_op op_catA
        (pe_op op_repB (pe_tup (pa_cons pe_int pa_nil)) (pe_op op_add pe_int (pe_call Dr.ok hr rfl Dr.m Dr.k Dr.b .nil pass0 (pa_cons (pv 0) (pa_cons pe_int pa_nil)))))
        (pe_op op_repB (pe_tup (pa_cons pe_int pa_nil)) (pe_op op_add pe_int (pe_call Dr.ok hr rfl Dr.m Dr.k Dr.b .nil pass0 (pa_cons (pv 0) (pa_cons pe_int pa_nil)))))) pa_nil))))
    (pss_cons (ps_asg (pe_tup (pa_cons (pe_call Be.ok hr rfl Be.m Be.k Be.b .nil pass0 (pa_cons (pv 0) (pa_cons (pv 1) (pa_cons (pe_call Pk.ok hr rfl Pk.m Pk.k Pk.b .nil pass0 (pa_cons (pv 0) (pa_cons (pe_lst (pa_cons pe_int (pa_cons pe_int (pa_cons pe_int pa_nil)))) pa_nil))) pa_nil)))) (pa_cons (pe_call Dr.ok hr rfl Dr.m Dr.k Dr.b .nil pass0 (pa_cons (pv 0) (pa_cons pe_int pa_nil))) pa_nil)))
        (pg_tup (by rfl) (pgs_cons (pg_name (i := 2) scGR.nd rfl (.inl rfl)) (pgs_cons (pg_name (i := 3) scGR.nd rfl (.inr rfl)) pgs_nil))))
    (pss_cons (ps_par3 (i := 4) (j := 5) (l := 6) rfl scGR.nd rfl rfl rfl (by decide) (by decide) (by decide) rfl rfl rfl (pa_cons pe_dnewK (pa_cons (pe_op op_rep (pe_lst (pa_cons pe_int pa_nil)) (pe_callB call_len_seq (by rfl) ml PySem.boot_len (pa_cons (pv 1) pa_nil))) (pa_cons (pe_lc (own := [("person", 8)]) (g := gName 8) (tt := tTest (tOp rEq (tOp (rIxT K) (tVar 1) (tVar 8)) (tVar 3))) rfl scGR.nd (pi_range1 rfl mrg (pa_cons (pe_callB call_len_seq (by rfl) ml PySem.boot_len (pa_cons (pv 1) pa_nil)) pa_nil))
            (blkOk_by (own := [("person", 8)]) (N := ["heap", "sides", "lists", "side", "held", "starts", "free", "turn", "person", "other", "old", "due", "one"]) (sc := defScope sGreatRight) (by decide +kernel)) (fun _ _ _ _ _ => pg_name (i := 8) scGR.nd rfl (Or.inl rfl)) (fun _ _ _ _ _ => pts_one (pt_cmpR op_eq (pe_ix ix_tup (pv 1) (pv 8) (fun _ _ => rfl)) (pv 3) (nomark _)))
            (fun _ _ _ _ _ => pv 8)) pa_nil))) (by rfl))
    (pss_cons (ps_for PassesOwn.never rfl (pi_range1 rfl mrg (pa_cons (pe_op op_mul (pe_op op_mul pe_int (pe_callB call_len_seq (by rfl) ml PySem.boot_len (pa_cons (pv 1) pa_nil))) (pe_callB call_len_seq (by rfl) ml PySem.boot_len (pa_cons (pv 1) pa_nil))) pa_nil)) (pg_name (i := 7) scGR.nd rfl (.inl rfl))
      (pss_cons (ps_if (pt_cmpR (op_eqD hr.units) (pv 6) (pe_lst pa_nil) (nomark _)) (pss_one ps_break) pss_nil)
      (pss_cons (ps_set (i := 8) scGR.nd rfl (.inl rfl) (pe_bm0 PySem.F.plainAttrs_list PySem.F.slot_list_pop PySem.F.type_list_pop mt_pop (pv 6)))
      (pss_one (ps_if (pt_cmpR op_lt (pe_ix ix_list (pv 5) (pv 8) (fun _ _ => rfl)) (pe_callB call_len_seq (by rfl) ml PySem.boot_len (pa_cons (pe_ix ix_tup (pv 2) (pv 8) (fun _ _ => rfl)) pa_nil)) (nomark _))
        (pss_cons (ps_set (i := 9) scGR.nd rfl (.inl rfl) (pe_ix ix_tup (pe_ix ix_tup (pv 2) (pv 8) (fun _ _ => rfl)) (pe_ix ix_list (pv 5) (pv 8) (fun _ _ => rfl)) (fun _ _ => rfl)))
        (pss_cons (ps_asg (pe_op op_add (pe_ix ix_list (pv 5) (pv 8) (fun _ _ => rfl)) pe_int) (pg_sub (pv 5) (pv 8) set_list))
        (pss_cons (ps_set (i := 10) scGR.nd rfl (.inl rfl) (pe_dget1 (units1 hr) (pv 4) (pv 9) ⟨rfl, rfl, rfl, rfl⟩))
        (pss_one (ps_if (PW.pt (pw_or (pt_cmpR op_isN (pv 10) pe_non (nomark _)) (pw_or1 (pt_cmpR op_lt (pe_call Rk.ok hr rfl Rk.m Rk.k Rk.b .nil pass0 (pa_cons (pv 2) (pa_cons (pv 9) (pa_cons (pv 8) pa_nil)))) (pe_call Rk.ok hr rfl Rk.m Rk.k Rk.b .nil pass0 (pa_cons (pv 2) (pa_cons (pv 9) (pa_cons (pv 10) pa_nil)))) (nomark _)))))
          (pss_cons (ps_asg (pv 8) (pg_sub (pv 4) (pv 9) (set_dict (units1 hr))))
          (pss_one (ps_set (i := 6) scGR.nd rfl (.inl rfl) (pe_op op_cat (pv 6) (pe_lc (own := [("one", 12)]) (g := gName 12) (tt := tTest (tOp rNotNone (tVar 12) (tC .non))) rfl scGR.nd (pi_list (pe_lst (pa_cons (pv 10) pa_nil)))
              (blkOk_by (own := [("one", 12)]) (N := ["heap", "sides", "lists", "side", "held", "starts", "free", "turn", "person", "other", "old", "due", "one"]) (sc := defScope sGreatRight) (by decide +kernel)) (fun _ _ _ _ _ => pg_name (i := 12) scGR.nd rfl (Or.inl rfl)) (fun _ _ _ _ _ => pts_one (pt_cmpR op_notN (pv 12) pe_non (nomark _)))
              (fun _ _ _ _ _ => pv 12))))))
          (pss_one (ps_expr (pe_bm PySem.F.plainAttrs_list PySem.F.slot_list_append PySem.F.type_list_append mt_append (pv 6) (pa_cons (pv 8) pa_nil)))))))))
        pss_nil)))))
    (pss_cons (ps_set (i := 11) scGR.nd rfl (.inl rfl) (pe_callB cr_sortedPO (by rfl) mso (by decide +kernel) (pa_cons (pe_lock (pe_lc (own := [("other", 9), ("one", 12)]) (g := gTup K 2 (gCons (gName 9) (gCons (gName 12) gNil))) (tt := tYes) (te := tTup (tCons (tCB rMin2 (tCons (tVar 12) (tCons (tVar 9) tNil))) (tCons (tCB rMax2 (tCons (tVar 12) (tCons (tVar 9) tNil))) tNil))) rfl scGR.nd (pi_items (pv 4))
        (blkOk_by (own := [("other", 9), ("one", 12)]) (N := ["heap", "sides", "lists", "side", "held", "starts", "free", "turn", "person", "other", "old", "due", "one"]) (sc := defScope sGreatRight) (by decide +kernel)) (fun _ _ _ _ _ => pg_tup rfl (pgs_cons (pg_name (i := 9) scGR.nd rfl (Or.inl rfl)) (pgs_cons (pg_name (i := 12) scGR.nd rfl (Or.inl rfl)) pgs_nil))) (fun _ _ _ _ _ => pts_nil)
        (fun _ _ _ _ _ => pe_tup (pa_cons (pe_callB (call_min2 rfl) (by rfl) mmi (by decide +kernel) (pa_cons (pv 12) (pa_cons (pv 9) pa_nil))) (pa_cons (pe_callB (call_max2 rfl) (by rfl) mma (by decide +kernel) (pa_cons (pv 12) (pa_cons (pv 9) pa_nil))) pa_nil))))) pa_nil)))
    (pss_one (ps_ret (pe_cmpR op_eq (pe_callB (call_repr hA hr.units) (by rfl) mrp (by decide +kernel) (pa_cons (pe_call Si.ok hr rfl Si.m Si.k Si.b .nil pass0 (pa_cons (pe_make M Gi hr rfl T.mgC bi .nil pass0 (pa_cons (pe_call Nm.ok hr rfl Nm.m Nm.k Nm.b .nil pass0 (pa_cons (pv 0) (pa_cons (pe_callB call_len_seq (by rfl) ml PySem.boot_len (pa_cons (pv 1) pa_nil)) pa_nil))) (pa_cons (pv 2) pa_nil))) (pa_cons (pv 1) (pa_cons (pv 3) pa_nil)))) pa_nil)) (pe_callB (call_repr hA hr.units) (by rfl) mrp (by decide +kernel) (pa_cons (pe_callTy call_tuple_of (by rfl) mt (by decide +kernel) (pa_cons (pv 11) pa_nil)) pa_nil)) (nomark _)))))))), ?_⟩
  refine ⟨_, rfl, (by show 1 ≤ sizeLine; decide), fun t1 nt1 => ?_⟩
  have st1 := same_upd (o := .tup [.int 0]) nt1
  refine ⟨_, rfl, h, l, 5, rfl, src.same st1, by decide, by decide, fun d1 H1 a0 a1 sr1 br1 => ⟨_, _, rfl, rfl, repB (m := (5 + d1).toNat) (v := 0) (by omega) (tup_bar (src.same st1) br1 upd_same) (by omega) fun c1 H2 s2 ec1 => ?_⟩⟩
  refine ⟨(by show 1 ≤ sizeLine; decide), fun t2 nt2 => ?_⟩
  have st2 := same_upd (o := .tup [.int 1]) nt2
  have sr2 := sr1.same (s2.trans st2)
  refine ⟨_, rfl, h, l, 5, rfl, sr2, by decide, by decide, fun d2 H3 b0 b1 sr3 br3 => ⟨_, _, rfl, rfl, repB (m := (5 + d2).toNat) (v := 1) (by omega) (tup_bar sr2 br3 upd_same) (by omega) fun c2 H4 s4 ec2 => ?_⟩⟩
  have ec1' := s4 _ _ (tup_bar sr2 br3 (st2 _ _ ec1))
  generalize hA' : (5 + d1).toNat = na at ec1'
  generalize hB' : (5 + d2).toNat = nb at ec2
  refine catV ec1' ec2 (by rw [VI_len, VI_len, List.length_replicate, List.length_replicate]; omega) fun c H5 s5 ec => ?_
  rw [← VI_app] at ec
  have sr5 := sr3.same (s4.trans s5)
  obtain ⟨nch, ncl⟩ := sr5.ne ec (fun _ z => by cases z)
  have br5 : Bar h l H H5 := (Bar.same st1).trans (br1.trans ((Bar.same (s2.trans st2)).trans (br3.trans (.same (s4.trans s5)))))
  refine ⟨h, l, c, _, rfl, sr5, .inr ec, nch, ncl, by rw [VI_len, List.length_append, List.length_replicate, List.length_replicate]; omega, fun r ys H6 pm sr6 br6 nr er => gn ?_⟩
  dsimp only [List.set, L2.start]
  obtain ⟨sd, rfl, pmd⟩ := sd_of pm
  obtain ⟨sdl, two⟩ := sd_two pmd
  have n10 : 10 ≤ sd.length := by omega
  have n18 : sd.length ≤ 18 := by omega
  have es6 : Tp H6 r (VI sd) := .inr er
  refine ⟨_, rfl, _, rfl, _, rfl, (by show 3 ≤ sizeLine; decide), fun v nv => ?_⟩
  obtain ⟨nvh, nvl⟩ := sr6.new nv
  refine ⟨h, l, v, _, rfl, sr6.updn nv, .inl upd_same, nvh, nvl, by simp, by simp, fun j y H7 hy sr7 br7 => ?_⟩
  obtain ⟨sh, rfl, sh0, sh1⟩ : ∃ sh : Int, y = .int sh ∧ 0 < sh ∧ sh < 1000 := by
    match j, hy with
    | 0, hy => exact ⟨4, (Option.some.inj hy).symm, by decide, by decide⟩
    | 1, hy => exact ⟨9, (Option.some.inj hy).symm, by decide, by decide⟩
    | 2, hy => exact ⟨2, (Option.some.inj hy).symm, by decide, by decide⟩
  have es7 : Tp H7 r (VI sd) := (es6.same (same_upd nv)).bar (sr6.updn nv) br7
  refine ⟨h, l, r, sd, sh, rfl, sr7, es7, two, by omega, sh0, sh1, fun a ls H8 ok S sr8 br8 na lx8 => ?_⟩
  have ll := ok.len
  rw [← ll] at ok n10 n18
  refine ⟨_, rfl, h, l, 2, rfl, sr8, by decide, by decide, fun d H9 e0 e1 sr9 br9 => ⟨(by show 2 ≤ sizeLine; decide), fun U nU => ⟨U, _, rfl, SqT.of upd_same, rfl, _, _, rfl, gn ⟨_, _, rfl, gn ⟨rfl, ?_⟩⟩⟩⟩⟩
  dsimp only [List.set]
  obtain ⟨s, rfl⟩ : ∃ s : Nat, d = (s : Nat) := ⟨d.toNat, by omega⟩
  have hs : s ≤ 1 := by omega
  have sU := same_upd (o := .tup [.ref a, .int (s : Nat)]) nU
  have lx := (lx8.bar sr8 br9).same sU
  have es := ((es7.bar sr7 br8).bar sr8 br9).same sU
  have sr := sr9.same sU
  have br : Bar h l H (upd H9 U (.tup [.ref a, .int (s : Nat)])) := br5.trans (br6.trans ((Bar.same (same_upd nv)).trans (br7.trans (br8.trans (br9.trans (.same sU))))))
  generalize upd H9 U (.tup [.ref a, .int (s : Nat)]) = G0 at lx es sr br
  obtain ⟨g, G⟩ := great_ex ok
  have pgm := side_pair ok G S hs
  have lam := side_lasts ok G S hs
  obtain ⟨mu, hmu⟩ : ∃ mu, mu = sideM ls g sd s := ⟨_, rfl⟩
  rw [← hmu] at pgm lam
  have lens : ∀ q, (la ls q).length ≤ ls.length := la_len ok
  -- the three
  intro D1 n1
  have s1 := same_upd (o := .dK []) n1
  have eD1 := upd_same (H := G0) (a := D1) (o := .dK [])
  refine ⟨(by show 1 ≤ sizeLine; decide), fun t nt => ?_⟩
  have s1t := same_upd (o := .lst [.int 0]) nt
  have es1 := (es.same s1).same s1t
  refine ⟨_, rfl, r, _, rfl, .inr es1.sq, ?_⟩
  rw [VI_len, ← ll]
  refine ⟨t, _, _, rfl, rfl, upd_same, by omega, by omega, ?_, fun D2 n2 => ?_⟩
  · rw [Int.toNat_natCast]
    exact Nat.le_trans (show 1 * ls.length ≤ 100000 by omega) (by decide)
  have zer : (List.replicate ((ls.length : Nat) : Int).toNat [V.int 0]).flatten = VI (List.replicate ls.length 0) := by
    rw [Int.toNat_natCast]
    unfold VI
    rw [List.map_replicate]
    generalize ls.length = m
    induction m with
    | zero => rfl
    | succ n ih => rw [List.replicate_succ, List.flatten_cons, ih, List.replicate_succ]; rfl
  rw [zer]
  have sx2 := same_upd (o := .lst (VI (List.replicate ls.length 0))) n2
  have eD1' := sx2 _ _ (s1t _ _ eD1)
  have eD2 := upd_same (H := upd (upd G0 D1 (.dK [])) t (.lst [.int 0])) (a := D2) (o := .lst (VI (List.replicate ls.length 0)))
  have s03 := s1.trans (s1t.trans sx2)
  have n2' : G0 D2 = none := (s1.trans s1t).free n2
  generalize upd (upd (upd G0 D1 (.dK [])) t (.lst [.int 0])) D2 (.lst (VI (List.replicate ls.length 0))) = G3 at eD1' eD2 s03
  refine ⟨_, rfl, r, _, rfl, .inr (es.same s03).sq, ?_⟩
  rw [VI_len, ← ll]
  refine ⟨_, rfl, by omega, by omega, fun Fr nF => ?_⟩
  refine lc_pick (J := Itr 0 ls.length) (n := ls.length) walk_range0 (by omega) (fun p => decide (sd.getD p 0 = s)) (fun p => .int (p : Nat)) nF (fun _ _ => trivial) ?_ ?_
  · rintro p x Ha Hb R Z yes' no' hp sm ⟨rfl, rfl⟩
    have sd_at : sd[p]? = some (sd.getD p 0) := by
      rw [List.getD_eq_getElem?_getD, List.getElem?_eq_getElem (by omega)]
      rfl
    refine gn ⟨rfl, _, rfl, _, rfl, r, _, _, _, rfl, rfl, ((es.same s03).same sm).sq, atI_nat (VI_get sd_at), _, rfl, rfl, _, rfl, ?_⟩
    have e1 : decide (V.int (sd.getD p 0 : Nat) = V.int (s : Nat)) = decide (sd.getD p 0 = s) := by
      rw [decide_eq_decide]
      constructor
      · intro z
        have := V.int.inj z
        omega
      · intro z
        rw [z]
    rw [e1]
    by_cases c : sd.getD p 0 = s
    · rw [decide_eq_true c]
      exact iteT ⟨_, rfl, yes' _ same_rfl (decide_eq_true c)⟩
    · rw [decide_eq_false c]
      exact iteF (no' _ same_rfl (decide_eq_false c))
  intro Hc sc eF
  refine ⟨_, _, _, rfl, ?_⟩
  dsimp only [List.set]
  have nF0 : G0 Fr = none := s03.free nF
  have zst : (fun p => (List.replicate ls.length 0).getD p 0) = fun _ : Nat => 0 := by
    funext p
    rw [List.getD_eq_getElem?_getD, List.getElem?_replicate]
    split <;> rfl
  have ask0 : Ask ls sd s mu G0 D1 D2 Fr Hc [] (List.replicate ls.length 0) ((List.range ls.length).filter fun p => decide (sd.getD p 0 = s)) 0 := by
    refine ⟨s03.trans sc, sc _ _ eD1', sc _ _ eD2, eF, nF0, fun z => ?_, List.nodup_nil, by simp, Nat.le_refl _, ?_, ?_⟩
    · rw [z, eD2] at nF
      cases nF
    · rw [zst]
      have e : RL [] = fun _ _ => False := by
        funext o p
        simp [RL]
      rw [e]
      exact GS.start S
    · have h1 := remS_le (st := fun p => (List.replicate ls.length 0).getD p 0) lens ls.length
      have h2 : ((List.range ls.length).filter fun p => decide (sd.getD p 0 = s)).length ≤ ls.length := by
        refine Nat.le_trans (List.length_filter_le _ _) ?_
        rw [List.length_range]
        exact Nat.le_refl _
      have h3 : ls.length ≤ ls.length * ls.length := Nat.le_mul_self _
      have h4 : 2 * ls.length * ls.length = ls.length * ls.length + ls.length * ls.length := by rw [Nat.mul_assoc]; omega
      omega
  refine seqcut (fun σ' H' => ∃ (F : Addr) (L : List (Nat × Nat)) (ss : List Nat) (i : Nat) (y7 y8 y9 y10 : Option V), σ' = [some (.ref h), some (.ref r), some (.ref a), some (.int (s : Nat)), some (.ref D1), some (.ref D2), some (.ref F), y7, y8, y9, y10, none, none] ∧ Ask ls sd s mu G0 D1 D2 F H' L ss [] i) ?_ (fun out => ?_)
  · rintro σ' H' ⟨F, L, ss, i, y7, y8, y9, y10, rfl, ak⟩
    obtain ⟨sm, e1, e2, eF1, nF1, ne, nd, sl, ll', gs, me⟩ := ak
    rw [hmu] at gs
    have L60 : L.length ≤ 100000 := by
      have n648 : 2 * ls.length * ls.length ≤ 648 := by
        have := Nat.mul_le_mul (Nat.mul_le_mul (Nat.le_refl 2) n18) n18
        omega
      omega
    refine ⟨D1, _, e1, trivial, fun od => ?_⟩
    have smL : Same G0 (upd H' D1 (.frz od (.dK (kvO L)))) := sm.fresh n1
    have e1L := upd_same (H := H') (a := D1) (o := .frz od (.dK (kvO L)))
    generalize hHL : upd H' D1 (.frz od (.dK (kvO L))) = HL at smL e1L
    refine ⟨_, rfl, D1, od, kvO L, rfl, e1L, fun E nE => ?_⟩
    refine lc_rows (walk_items (d := D1) (o := od) (kvs := kvO L)) (by unfold kvO; rw [List.length_map]; omega) (fun i => VI [lo (L.getD i (0, 0)).2 (L.getD i (0, 0)).1, K14.hi (L.getD i (0, 0)).2 (L.getD i (0, 0)).1]) nE (fun _ sm' => sm' _ _ e1L) ?_ ?_
    · rintro i x Ha Hb Z out' hi sm' ⟨T', x0, x1, rfl, nT, rfl, y1, y2⟩
      have hi' : i < L.length := by
        unfold kvO at hi
        rw [List.length_map] at hi
        exact hi
      have ei : L.getD i (0, 0) = L[i] := by rw [List.getD_eq_getElem?_getD, List.getElem?_eq_getElem hi']; rfl
      have ek : (kvO L)[i]? = some (kvf L[i]) := by
        unfold kvO
        rw [List.getElem?_map, List.getElem?_eq_getElem hi']
        rfl
      dsimp only at y1 y2
      rw [ek] at y1 y2
      cases y1
      cases y2
      rw [ei] at out'
      have sT := same_upd (o := .tup [.int (L[i].1 : Nat), .int (L[i].2 : Nat)]) nT
      refine ⟨T', _, rfl, SqT.of upd_same, rfl, _, _, rfl, gn ⟨_, _, rfl, gn ⟨rfl, rfl, ?_⟩⟩⟩
      refine ⟨_, rfl, _, rfl, _, _, rfl, _, rfl, _, rfl, _, _, rfl, (by show 2 ≤ sizeLine; decide), fun t' nt' => ?_⟩
      refine out' _ _ (sT.trans (same_upd nt')) ?_
      rw [upd_same]
      have h1 : (if ((L[i].1 : Nat) : Int) < ((L[i].2 : Nat) : Int) then ((L[i].1 : Nat) : Int) else ((L[i].2 : Nat) : Int)) = ((lo L[i].2 L[i].1 : Nat) : Int) := by
        unfold lo
        split <;> split <;> omega
      have h2 : (if ((L[i].1 : Nat) : Int) > ((L[i].2 : Nat) : Int) then ((L[i].1 : Nat) : Int) else ((L[i].2 : Nat) : Int)) = ((K14.hi L[i].2 L[i].1 : Nat) : Int) := by
        unfold K14.hi
        split <;> split <;> omega
      show some (HO.tup [V.int (if ((L[i].1 : Nat) : Int) < ((L[i].2 : Nat) : Int) then ((L[i].1 : Nat) : Int) else ((L[i].2 : Nat) : Int)), V.int (if ((L[i].1 : Nat) : Int) > ((L[i].2 : Nat) : Int) then ((L[i].1 : Nat) : Int) else ((L[i].2 : Nat) : Int))]) = _
      rw [h1, h2]
      rfl
    · intro us HA sA eE rl rws
      have e1A := sA _ _ e1L
      have smA : Same G0 (upd HA D1 (.dK (kvO L))) := (smL.trans sA).fresh n1
      have nED : E ≠ D1 := fun z => by rw [z, e1A] at eE; cases eE
      have eEA : (upd HA D1 (.dK (kvO L))) E = _ := (upd_ne nED).trans eE
      have rt : RsT (upd HA D1 (.dK (kvO L))) us (rows2 (pairL L)) := by
        unfold kvO at rl
        rw [List.length_map] at rl
        refine ⟨by unfold rows2 pairL; rw [List.length_map, List.length_map]; exact rl, fun j u x h1 h2 => ?_⟩
        have e3 := rws j u h1
        have nu : u ≠ D1 := fun z => by rw [z, e1A] at e3; cases e3
        rw [upd_ne nu, e3]
        unfold rows2 pairL at h2
        rw [List.map_map, List.getElem?_map] at h2
        have hj : j < L.length := by
          have := (List.getElem?_eq_some_iff.mp h1).1
          omega
        rw [List.getElem?_eq_getElem hj] at h2
        cases h2
        rw [List.getD_eq_getElem?_getD, List.getElem?_eq_getElem hj]
        rfl
      refine ⟨e1A, ?_⟩
      dsimp only [tNil]
      refine sort_pairs (K := K) eEA rt (gs.perm ok G S hs nd) (pairs_asc _) fun us' p np rt' => gn ?_
      dsimp only [List.set]
      obtain ⟨ep1, ep2⟩ := (sr.same smA).new np
      have sp' := same_upd (o := .lst (us'.map V.ref)) np
      have smB := smA.trans sp'
      have eP := upd_same (H := upd HA D1 (.dK (kvO L))) (a := p) (o := .lst (us'.map V.ref))
      have rtP := rt'.same sp'
      generalize upd (upd HA D1 (.dK (kvO L))) p (.lst (us'.map V.ref)) = HB at smB eP rtP
      have esB := es.same smB
      have lxB := lx.same smB
      have srB := sr.same smB
      have brB : Bar h l H HB := br.trans (.same smB)
      rw [← hmu] at rtP
      have mul : mu.length = ls.length := by rw [hmu]; exact sideM_len
      have rp : Rp (dL (rows2 (pairsOf mu))) := by
        refine rp_dL ?_ ?_
        · unfold rows2 pairsOf
          rw [List.length_map]
          have := List.length_filterMap_le (dueP mu) (List.range mu.length)
          rw [List.length_range] at this
          omega
        · intro t ht
          unfold rows2 at ht
          obtain ⟨x, hx, rfl⟩ := List.mem_map.mp ht
          refine ⟨by simp, fun j hj => ?_⟩
          obtain ⟨i, hi, e⟩ := List.mem_filterMap.mp hx
          obtain ⟨d1, d2, d3⟩ := due_some e
          have i1 := List.mem_range.mp hi
          have j1 := (ok.mate (show i < ls.length by omega) (pgm.ok.on i _ d1).2).1
          simp only [List.mem_cons, List.not_mem_nil, or_false] at hj
          rcases hj with rfl | rfl <;> omega
      refine ⟨_, rfl, _, rfl, r, _, rfl, .inr esB.sq, ?_⟩
      rw [VI_len, ← ll]
      refine ⟨h, l, ls.length, rfl, srB, by omega, by omega, fun nn ns' HC nok srC brC n6 en => ⟨_, rfl, ?_⟩⟩
      have lxC := lxB.bar srB brC
      have esC := esB.bar srB brC
      have ePC : HC p = some (.lst (us'.map V.ref)) := brC _ _ ep1 ep2 eP
      have rtC : RsT HC us' (rows2 (pairsOf mu)) := ⟨rtP.1, fun j u x h1 h2 => tup_bar srB brC (rtP.2 j u x h1 h2)⟩
      intro x dx nx ndx ne'
      have s6 : Same HC (upd (upd HC dx (.own x)) x (.ins C dx [])) := (same_rfl.fresh ndx).fresh nx
      refine ⟨x, dx, nn, a, ns', ls, rfl, upd_same, s6 _ _ en, lxC.lt.same s6, by omega, by omega, nok, ok, fun H7 W7 keep => ⟨rfl, ?_⟩⟩
      have s67 : Same HC H7 := fun b o e => keep b o (s6 _ _ e) (ne_of_none e nx)
      refine ⟨_, rfl, _, rfl, x, r, ns', ls, sd, s, rfl, W7, esC.same s67, S, hs, fun rr g' H8 G' s8 lt8 => ?_⟩
      obtain rfl := great_one G' G
      rw [← hmu] at lt8
      refine ⟨rr, _, rfl, dp_dL lt8, rp.sh, rp.nd, rp.dp, rp.ln, _, rfl, p, _, rfl, .inl ⟨SqL.of (s8 _ _ (s67 _ _ ePC)), fun z nz => ?_⟩⟩
      have sz := same_upd (o := .tup (us'.map V.ref)) nz
      have rtz := ((rtC.same s67).same s8).same sz
      refine ⟨z, _, rfl, dp_dL ⟨us', upd_same, rtz.1, fun i a x h1 h2 => .inl (rtz.2 i a x h1 h2)⟩, rp.sh, rp.nd, rp.dp, rp.ln, rfl, ?_⟩
      have eT : decide (V.str (dL (rows2 (pairsOf mu))).shown = V.str (dL (rows2 (pairsOf mu))).shown) = true := decide_eq_true rfl
      rw [eT]
      have s68 := s67.trans (s8.trans sz)
      exact q _ (srC.same s68) (brB.trans (brC.trans (.same s68)))
  · refine ⟨_, rfl, r, _, rfl, .inr ((es.same s03).same sc).sq, ?_⟩
    rw [VI_len, ← ll]
    refine ⟨_, _, rfl, rfl, .inl ⟨by omega, by omega⟩, _, rfl, r, _, rfl, .inr ((es.same s03).same sc).sq, ?_⟩
    rw [VI_len, ← ll]
    have nn : (2 * (ls.length : Int) * (ls.length : Int)) = ((2 * ls.length * ls.length : Nat) : Int) := by simp
    have n648 : 2 * ls.length * ls.length ≤ 648 := by
      have := Nat.mul_le_mul (Nat.mul_le_mul (Nat.le_refl 2) n18) n18
      omega
    refine ⟨_, _, rfl, rfl, .inl ⟨by omega, by omega⟩, _, rfl, by rw [nn]; omega, by rw [nn]; omega, ?_⟩
    rw [nn, Int.toNat_natCast]
    refine for_it (J := Itr 0 (2 * ls.length * ls.length)) (n := 2 * ls.length * ls.length) walk_range0 (fun i σ H' => ∃ (F : Addr) (L : List (Nat × Nat)) (ss fr : List Nat) (y7 y8 y9 y10 : Option V), σ = [some (.ref h), some (.ref r), some (.ref a), some (.int (s : Nat)), some (.ref D1), some (.ref D2), some (.ref F), y7, y8, y9, y10, none, none] ∧ Ask ls sd s mu G0 D1 D2 F H' L ss fr i)
      ⟨Fr, [], _, _, none, none, none, none, rfl, ask0⟩ (fun _ _ _ _ _ => trivial) ?_ ?_
    · rintro i x σ H1 H1' hi ⟨F, L, ss, fr, y7, y8, y9, y10, rfl, ak⟩ ⟨rfl, rfl⟩
      refine gn ?_
      dsimp only [List.set]
      obtain ⟨sm, e1, e2, eF1, nF1, ne, nd, sl, ll', gs, me⟩ := ak
      refine ⟨_, rfl, Nat.zero_le _, fun z nz => ?_⟩
      have sz := same_upd (o := .lst []) nz
      have smz := sm.trans sz
      have e1z := sz _ _ e1
      have e2z := sz _ _ e2
      have eFz := sz _ _ eF1
      refine ⟨dLi fr, .list [], dp_dLi eFz, .lst (SqL.of upd_same) .nil, sh_dLi _, by decide, _, rfl, ?_⟩
      rw [eqv_dLi_nil]
      generalize upd H1' z (.lst []) = Hz at smz e1z e2z eFz
      rcases list_end fr with rfl | ⟨fr', p, rfl⟩
      · exact iteT (out _ _ ⟨F, L, ss, i, _, y8, y9, y10, rfl, smz, e1z, e2z, eFz, nF1, ne, nd, sl, ll', gs, me⟩)
      · have ee : (fr' ++ [p]).isEmpty = false := by simp
        rw [ee]
        have eFz' : Hz F = some (.lst (VI fr' ++ [.int (p : Nat)])) := by rw [eFz]; simp [VI]
        refine iteF ⟨_, rfl, .inl ⟨rfl, _, SqL.of eFz'⟩, F, _, .int (p : Nat), rfl, rfl, eFz', by simp, gn ?_⟩
        rw [List.dropLast_concat]
        dsimp only [List.set]
        have n1F : D1 ≠ F := fun q => by rw [q, eFz] at e1z; cases e1z
        have n12 : D1 ≠ D2 := fun q => by rw [q, e2z] at e1z; cases e1z
        have sm4 := smz.fresh (o := .lst (VI fr')) nF1
        have e14 : (upd Hz F (.lst (VI fr'))) D1 = _ := (upd_ne n1F).trans e1z
        have e24 : (upd Hz F (.lst (VI fr'))) D2 = _ := (upd_ne (Ne.symm ne)).trans e2z
        have eF4 := upd_same (H := Hz) (a := F) (o := .lst (VI fr'))
        generalize upd Hz F (.lst (VI fr')) = H4 at sm4 e14 e24 eF4
        obtain ⟨p1, p2, p3⟩ := gs.free p (by simp)
        have pl : p < ss.length := by omega
        have ess : ss[p]? = some (ss.getD p 0) := by
          rw [List.getD_eq_getElem?_getD, List.getElem?_eq_getElem pl]
          rfl
        obtain ⟨rows, c', er', ec', ev⟩ := (lx.same sm4).at (la_get p1)
        refine ⟨_, rfl, _, rfl, D2, _, _, _, rfl, rfl, SqL.of e24, atI_nat (VI_get ess), _, rfl, _, rfl, a, rows, _, _, rfl, rfl, SqT.of er', atI_nat ec', c', _, rfl, .inr (Tp.sq (.inr ev)), _, _, rfl, rfl, decide (ss.getD p 0 < (la ls p).length), ?_, ?_⟩
        · refine congrArg V.bl ?_
          rw [VI_len, decide_eq_decide]
          omega
        · refine ite2 (fun lt => ?_) (fun nlt => ?_)
          · have lt := of_decide_eq_true lt
            obtain ⟨o, eo⟩ : ∃ o, (la ls p)[ss.getD p 0]? = some o := ⟨_, List.getElem?_eq_getElem lt⟩
            obtain ⟨om, ox, _⟩ := ix_at ok p1 eo
            obtain ⟨o1, o2, o3⟩ := ok.mate p1 om
            refine ⟨_, rfl, _, rfl, a, rows, _, _, rfl, rfl, SqT.of er', atI_nat ec', _, rfl, _, rfl, D2, _, _, _, rfl, rfl, SqL.of e24, atI_nat (VI_get ess), c', _, _, _, rfl, rfl, Tp.sq (.inr ev), atI_nat (VI_get eo), gn ?_⟩
            dsimp only [List.set]
            refine ⟨_, rfl, _, rfl, D2, _, _, _, rfl, rfl, SqL.of e24, atI_nat (VI_get ess), _, _, rfl, rfl, _, rfl, _, rfl, D2, _, (p : Int), p, rfl, rfl, e24, by rw [VI_len]; exact ixN_nat pl, ?_⟩
            have sev : (VI ss).set p (.int (((ss.getD p 0 : Nat) : Int) + 1)) = VI (ss.set p (ss.getD p 0 + 1)) := by
              unfold VI
              rw [List.map_set]
              rfl
            rw [sev]
            have sm5 := sm4.fresh (o := .lst (VI (ss.set p (ss.getD p 0 + 1)))) n2'
            have e15 : (upd H4 D2 (.lst (VI (ss.set p (ss.getD p 0 + 1))))) D1 = _ := (upd_ne n12).trans e14
            have e25 := upd_same (H := H4) (a := D2) (o := .lst (VI (ss.set p (ss.getD p 0 + 1))))
            have eF5 : (upd H4 D2 (.lst (VI (ss.set p (ss.getD p 0 + 1))))) F = _ := (upd_ne ne).trans eF4
            generalize upd H4 D2 (.lst (VI (ss.set p (ss.getD p 0 + 1)))) = H5 at sm5 e15 e25 eF5
            refine ⟨_, rfl, D1, rfl, .inl ⟨_, .inl e15⟩, _, rfl, _, DGet.k (k := Sum.inl (o : Int)) e15, gn ?_⟩
            rw [kvO_get]
            dsimp only [List.set]
            have gi := fun q => getO_iff (o := o) nd q
            generalize hold : getO L o = old at gi
            have hq : ∀ q, old = some q → q ∈ la ls o := fun q e => (gs.mem ok ((gi q).mpr e)).2.2.2.2.2
            have sl' : (ss.set p (ss.getD p 0 + 1)).length = ls.length := by rw [List.length_set]; exact sl
            have me' : i + 1 + remS ls (fun q => (ss.set p (ss.getD p 0 + 1)).getD q 0) ls.length + fr'.length + 1 ≤ 2 * ls.length * ls.length := by
              rw [up1_set pl]
              have := remS_up (st := fun q => ss.getD q 0) lt ls.length p1
              rw [List.length_append, List.length_singleton] at me
              omega
            refine tt_take (old := old) rfl rfl rfl rfl (lx.same sm5) o1 o3 hq ?_
            refine ite2 (fun acc => ?_) (fun nacc => ?_)
            · refine ⟨_, rfl, _, rfl, _, rfl, D1, _, rfl, DPut.k (k := Sum.inl (o : Int)) e15 ?_, ?_⟩
              · unfold kvO
                rw [List.length_map]
                exact sz6 (by omega)
              rw [kvO_put]
              have sm6 := sm5.fresh (o := .dK (kvO (putO L o p))) n1
              have e16 := upd_same (H := H5) (a := D1) (o := .dK (kvO (putO L o p)))
              have e26 : (upd H5 D1 (.dK (kvO (putO L o p)))) D2 = _ := (upd_ne (Ne.symm n12)).trans e25
              have eF6 : (upd H5 D1 (.dK (kvO (putO L o p)))) F = _ := (upd_ne (Ne.symm n1F)).trans eF5
              generalize upd H5 D1 (.dK (kvO (putO L o p))) = H6 at sm6 e16 e26 eF6
              refine ⟨_, rfl, _, rfl, (by show 1 ≤ sizeLine; decide), fun B nB => ⟨B, rfl, ⟨_, SqL.of upd_same⟩, fun Cl nCl => ?_⟩⟩
              have sB := same_upd (o := .lst [hv old]) nB
              refine lc_sel (walk_list (K := K) (a := B) (xs := [hv old])) (by simp) [hv old] (fun x => !decide (x = V.non)) rfl nCl (fun _ sm => SqL.of (sm _ _ upd_same)) ?_ ?_
              · rintro j x Ha Hb R Z yes' no' hj sm' ⟨rfl, ex⟩
                have j0 : j = 0 := by
                  have : j < 1 := hj
                  omega
                subst j0
                cases ex
                refine gn ⟨rfl, _, rfl, rfl, _, rfl, ?_⟩
                by_cases cc : (!decide (hv old = V.non)) = true
                · rw [cc]
                  exact iteT ⟨_, rfl, yes' _ same_rfl cc⟩
                · have cc' := Bool.eq_false_iff.mpr cc
                  rw [cc']
                  exact iteF (no' _ same_rfl cc')
              · intro H7 s7 eC
                have eC' : H7 Cl = some (.lst (VI old.toList)) := by
                  rw [eC]
                  cases old <;> rfl
                have s67 := sB.trans s7
                refine ⟨F, Cl, _, _, rfl, rfl, s67 _ _ eF6, eC', ?_, fun P' nP => gn ?_⟩
                · rw [VI_len, VI_len]
                  have : old.toList.length ≤ 1 := by cases old <;> simp
                  exact sz5 (by omega)
                · have s8 := same_upd (o := .lst (VI fr' ++ VI old.toList)) nP
                  have s68 := s67.trans s8
                  have tk := gs.taken ok (o := o) (old := old) pgm lam eo gi (fun q e => by subst e; exact of_decide_eq_true acc)
                  refine ⟨P', putO L o p, ss.set p (ss.getD p 0 + 1), fr' ++ old.toList, _, _, _, _, rfl, sm6.trans s68, s68 _ _ e16, s68 _ _ e26, by rw [upd_same, VI_app], ((sm6.trans s67).free nP), fun z => ?_, putO_nd nd, sl', ?_, ?_, ?_⟩
                  · have := s67 _ _ e26
                    rw [← z, nP] at this
                    cases this
                  · have := putO_len (o := o) (p := p) L
                    omega
                  · rw [up1_set pl, putO_mem nd]
                    exact tk
                  · have : old.toList.length ≤ 1 := by cases old <;> simp
                    rw [List.length_append]
                    omega
            · cases old with
              | none => exact absurd rfl nacc
              | some q =>
                refine ⟨_, rfl, .inl ⟨rfl, _, SqL.of eF5⟩, _, rfl, F, _, _, rfl, rfl, eF5, ?_, ?_⟩
                · rw [VI_len]
                  exact sz6 (by omega)
                · refine ⟨F, L, ss.set p (ss.getD p 0 + 1), fr' ++ [p], _, _, _, _, rfl, sm5.fresh nF1, (upd_ne n1F).trans e15, (upd_ne (Ne.symm ne)).trans e25, by rw [upd_same, VI_app]; rfl, nF1, ne, nd, sl', by omega, ?_, ?_⟩
                  · rw [up1_set pl]
                    exact gs.left ok pgm lam eo ((gi q).mpr rfl) (fun z => nacc (decide_eq_true z))
                  · rw [List.length_append, List.length_singleton]
                    omega
          · have nlt : ¬ ss.getD p 0 < (la ls p).length := fun z => nlt (decide_eq_true z)
            have le := gs.le p p1 p2
            refine ⟨F, L, ss, fr', _, _, y9, y10, rfl, sm4, e14, e24, eF4, nF1, ne, nd, sl, by omega, gs.spent (Nat.le_antisymm le (by show (la ls p).length ≤ ss.getD p 0; omega)), ?_⟩
            rw [List.length_append, List.length_singleton] at me
            omega
    · rintro σ H' ⟨F, L, ss, fr, y7, y8, y9, y10, rfl, ak⟩
      have : fr = [] := by
        have := ak.me
        exact List.eq_nil_of_length_eq_zero (by omega)
      subst this
      exact out _ _ ⟨F, L, ss, _, y7, y8, y9, y10, rfl, ak⟩
end
end K14
namespace K14
open PySem PySem.Spec PyProof.Rows L2
/-! ### the greatest steady holds of fixed wishes, by asking -/
def step1 (ls : List (List Nat)) (hs : List (Option Nat)) : List (Option Nat) :=
  match (List.range ls.length).find? (fun p => (fst ls hs p).isSome && !decide (some p ∈ hs)) with
  | some p => (match fst ls hs p with | some j => hs.set j (some p) | none => hs)
  | none => hs
def runs (ls : List (List Nat)) : Nat → List (Option Nat)
  | 0 => List.replicate ls.length none
  | m + 1 => step1 ls (runs ls m)
theorem not_in {hs : List (Option Nat)} {n p : Nat} (hl : hs.length = n) : (∀ q, q < n → ha hs q ≠ some p) ↔ ¬ some p ∈ hs := by
  constructor
  · intro h hm
    obtain ⟨q, hq, e⟩ := List.mem_iff_getElem.mp hm
    refine h q (by omega) ?_
    unfold ha
    rw [List.getD_eq_getElem?_getD, List.getElem?_eq_getElem hq, e]
    rfl
  · intro h q hq e
    have := ha_get (hs := hs) (p := q) (by omega)
    rw [e] at this
    exact h (List.mem_of_getElem? this)
theorem runs_ok {ls : List (List Nat)} (ok : ListsOk ls.length ls) : ∀ m, Half ls (runs ls m) ∧ Top ls (runs ls m)
  | 0 => ⟨half_none, top_none⟩
  | m + 1 => by
    obtain ⟨h, t⟩ := runs_ok ok m
    show Half ls (step1 ls (runs ls m)) ∧ Top ls (step1 ls (runs ls m))
    unfold step1
    split
    · rename_i p e
      have hp := List.mem_range.mp (List.mem_of_find?_eq_some e)
      have hc := List.find?_some e
      rw [Bool.and_eq_true] at hc
      split
      · rename_i j ef
        have free := (not_in (p := p) h.ok.len).mpr (by simpa using hc.2)
        exact ⟨(ask ok h hp ef free).1, ask_top ok h t hp ef⟩
      · exact ⟨h, t⟩
    · exact ⟨h, t⟩
theorem runs_great {ls : List (List Nat)} (ok : ListsOk ls.length ls) (m : Nat) (e : (List.range ls.length).find? (fun p => (fst ls (runs ls m) p).isSome && !decide (some p ∈ runs ls m)) = none) : Great ls (runs ls m) := by
  obtain ⟨h, t⟩ := runs_ok ok m
  refine great_of h t fun p j hp ef => Classical.byContradiction fun c => ?_
  have := List.find?_eq_none.mp e p (List.mem_range.mpr hp)
  rw [ef] at this
  have free := (not_in (p := p) h.ok.len).mp fun q hq z => c ⟨q, hq, z⟩
  simp [free] at this
def ls5 : List (List Nat) := [[1, 3], [2, 0], [3, 1], [0, 2, 4], [3]]
def ns5 : List (List Nat) := [[97], [98], [99], [100], [101]]
def ls4 : List (List Nat) := [[1, 2, 3], [2, 0, 3], [0, 1, 3], [0, 1, 2]]
def ns4 : List (List Nat) := [[97], [98], [99], [100]]
theorem ok5 : ListsOk ls5.length ls5 := lists_of (by decide +kernel)
theorem nok5 : NamesOk ls5.length ns5 := names_look (ns := ns5) (by decide +kernel)
theorem ok4 : ListsOk ls4.length ls4 := lists_of (by decide +kernel)
theorem nok4 : NamesOk ls4.length ns4 := names_look (ns := ns4) (by decide +kernel)
def hs5 : List (Option Nat) := [some 3, some 0, some 1, some 2, none]
def hs4 : List (Option Nat) := [some 2, some 0, some 1, none]
theorem great5 : Great ls5 hs5 := by
  have h := runs_great ok5 12 (by decide +kernel)
  rw [show runs ls5 12 = hs5 by decide +kernel] at h
  exact h
theorem great4 : Great ls4 hs4 := by
  have h := runs_great ok4 12 (by decide +kernel)
  rw [show runs ls4 12 = hs4 by decide +kernel] at h
  exact h
theorem ends5 : endsA ls5 hs5 = [some [1, 3], some [2, 0], some [3, 1], some [0, 2], none] := by decide +kernel
theorem ends4 : endsA ls4 hs4 = [some [1, 2], some [2, 0], some [0, 1], none] := by decide +kernel
theorem single5 : singleL ls5 hs5 = [4] := by decide +kernel
theorem single4 : singleL ls4 hs4 = [3] := by decide +kernel
theorem VN5 : VN ns5 = [.str "a", .str "b", .str "c", .str "d", .str "e"] := by
  unfold VN ns5
  have e : ∀ (s : List Nat) (x : Str), x = SS s → V.str (SS s) = V.str x := fun s x h => by rw [h]
  simp only [List.map_cons, List.map_nil]
  rw [e [97] "a" (by decide +kernel), e [98] "b" (by decide +kernel), e [99] "c" (by decide +kernel), e [100] "d" (by decide +kernel), e [101] "e" (by decide +kernel)]
theorem VN4 : VN ns4 = [.str "a", .str "b", .str "c", .str "d"] := by
  unfold VN ns4
  have e : ∀ (s : List Nat) (x : Str), x = SS s → V.str (SS s) = V.str x := fun s x h => by rw [h]
  simp only [List.map_cons, List.map_nil]
  rw [e [97] "a" (by decide +kernel), e [98] "b" (by decide +kernel), e [99] "c" (by decide +kernel), e [100] "d" (by decide +kernel)]
theorem OT.take {H H' : Hp} {r c : Addr} {xs : List (Option (List Nat))} {vs : List V} {m : Nat} (e : H r = some (.tup vs)) (t : OT H r xs) (s : Same H H') (ec : H' c = some (.tup (vs.take m))) : OT H' c (xs.take m) := by
  obtain ⟨vs', e', l, q⟩ := t
  rw [e] at e'
  cases e'
  refine ⟨_, ec, by rw [List.length_take, List.length_take, l], fun j v o e1 e2 => ?_⟩
  rw [List.getElem?_take] at e1 e2
  split at e1
  · rename_i h
    rw [if_pos h] at e2
    exact (q j v o e1 e2).same s
  · cases e1
theorem lt_four {H : Hp} {t r1 r2 r3 r4 : Addr} {s1 s2 s3 s4 : List Nat} (e : H t = some (.tup [.ref r1, .ref r2, .ref r3, .ref r4]))
    (e1 : H r1 = some (.tup (VI s1))) (e2 : H r2 = some (.tup (VI s2))) (e3 : H r3 = some (.tup (VI s3))) (e4 : H r4 = some (.tup (VI s4))) : LT H t [s1, s2, s3, s4] := by
  refine ⟨[r1, r2, r3, r4], e, rfl, fun i a s h1 h2 => ?_⟩
  match i, h1, h2 with
  | 0, h1, h2 => cases h1; cases h2; exact .inl e1
  | 1, h1, h2 => cases h1; cases h2; exact .inl e2
  | 2, h1, h2 => cases h1; cases h2; exact .inl e3
  | 3, h1, h2 => cases h1; cases h2; exact .inl e4
  | _ + 4, h1, h2 => cases h1
theorem ot_five {H : Hp} {t r1 r2 r3 r4 : Addr} {s1 s2 s3 s4 : List Nat} (e : H t = some (.tup [.ref r1, .ref r2, .ref r3, .ref r4, .non]))
    (e1 : H r1 = some (.tup (VI s1))) (e2 : H r2 = some (.tup (VI s2))) (e3 : H r3 = some (.tup (VI s3))) (e4 : H r4 = some (.tup (VI s4))) : OT H t [some s1, some s2, some s3, some s4, none] := by
  refine ⟨_, e, rfl, fun i a s h1 h2 => ?_⟩
  match i, h1, h2 with
  | 0, h1, h2 => cases h1; cases h2; exact ⟨_, rfl, e1⟩
  | 1, h1, h2 => cases h1; cases h2; exact ⟨_, rfl, e2⟩
  | 2, h1, h2 => cases h1; cases h2; exact ⟨_, rfl, e3⟩
  | 3, h1, h2 => cases h1; cases h2; exact ⟨_, rfl, e4⟩
  | 4, h1, h2 => cases h1; cases h2; rfl
  | _ + 5, h1, h2 => cases h1
theorem ot_three {H : Hp} {t r1 r2 r3 : Addr} {s1 s2 s3 : List Nat} (e : H t = some (.tup [.ref r1, .ref r2, .ref r3]))
    (e1 : H r1 = some (.tup (VI s1))) (e2 : H r2 = some (.tup (VI s2))) (e3 : H r3 = some (.tup (VI s3))) : OT H t [some s1, some s2, some s3] := by
  refine ⟨_, e, rfl, fun i a s h1 h2 => ?_⟩
  match i, h1, h2 with
  | 0, h1, h2 => cases h1; cases h2; exact ⟨_, rfl, e1⟩
  | 1, h1, h2 => cases h1; cases h2; exact ⟨_, rfl, e2⟩
  | 2, h1, h2 => cases h1; cases h2; exact ⟨_, rfl, e3⟩
  | _ + 3, h1, h2 => cases h1
end K14
namespace K14
open PySem PySem.Spec PyProof.Rows L2
theorem rows_lt {H : Hp} {t : Addr} {as : List Addr} {ls : List (List Nat)} (e : H t = some (.tup (as.map V.ref))) (r : RsT H as ls) : LT H t ls := ⟨as, e, r.1, fun i a x h1 h2 => .inl (r.2 i a x h1 h2)⟩
theorem lt_two {H : Hp} {t r1 r2 : Addr} {s1 s2 : List Nat} (e : H t = some (.tup [.ref r1, .ref r2])) (e1 : H r1 = some (.tup (VI s1))) (e2 : H r2 = some (.tup (VI s2))) : LT H t [s1, s2] := by
  refine ⟨[r1, r2], e, rfl, fun i a s h1 h2 => ?_⟩
  match i, h1, h2 with
  | 0, h1, h2 => cases h1; cases h2; exact .inl e1
  | 1, h1, h2 => cases h1; cases h2; exact .inl e2
  | _ + 2, h1, h2 => cases h1
theorem lt_one {H : Hp} {t r1 : Addr} {s1 : List Nat} (e : H t = some (.tup [.ref r1])) (e1 : H r1 = some (.tup (VI s1))) : LT H t [s1] := by
  refine ⟨[r1], e, rfl, fun i a s h1 h2 => ?_⟩
  match i, h1, h2 with
  | 0, h1, h2 => cases h1; cases h2; exact .inl e1
  | _ + 1, h1, h2 => cases h1
theorem lt_nil {H : Hp} {t : Addr} (e : H t = some (.tup [])) : LT H t [] := ⟨[], e, rfl, fun i a s h1 h2 => by cases h1⟩
def sd5 : List Nat := [0, 1, 0, 1, 0]
theorem sided5 : Sided ls5 sd5 := sided_of (by decide +kernel)
def ls1 : List (List Nat) := [[]]
def ns1 : List (List Nat) := [[120]]
theorem ok1 : ListsOk ls1.length ls1 := lists_of (by decide +kernel)
theorem nok1 : NamesOk ls1.length ns1 := names_look (ns := ns1) (by decide +kernel)
theorem great1 : Great ls1 [none] := by
  have h := runs_great ok1 1 (by decide +kernel)
  rw [show runs ls1 1 = [none] by decide +kernel] at h
  exact h
theorem sided1 : Sided ls1 [1] := sided_of (by decide +kernel)
theorem VN1 : VN ns1 = [.str "x"] := by
  unfold VN ns1
  have e : ∀ (s : List Nat) (x : Str), x = SS s → V.str (SS s) = V.str x := fun s x h => by rw [h]
  simp only [List.map_cons, List.map_nil]
  rw [e [120] "x" (by decide +kernel)]
theorem side50 : rows2 (pairsOf (sideM ls5 hs5 sd5 0)) = [[0, 1], [2, 3]] := by decide +kernel
theorem side51 : rows2 (pairsOf (sideM ls5 hs5 sd5 1)) = [[0, 3], [1, 2]] := by decide +kernel
theorem side11 : rows2 (pairsOf (sideM ls1 [none] [1] 1)) = [] := by decide +kernel
/-- the sides the other way round -/
def flip (sd : List Nat) : List Nat := sd.map fun x => 1 - x
theorem flip_at {sd : List Nat} {p : Nat} (hp : p < sd.length) : (flip sd).getD p 0 = 1 - sd.getD p 0 := by
  unfold flip
  rw [List.getD_eq_getElem?_getD, List.getD_eq_getElem?_getD, List.getElem?_map, List.getElem?_eq_getElem hp]
  rfl
theorem flip_sided {ls : List (List Nat)} {sd : List Nat} (S : Sided ls sd) (ok : ListsOk ls.length ls) : Sided ls (flip sd) := by
  refine ⟨by unfold flip; rw [List.length_map]; exact S.len, fun p hp => ?_, fun p o hp ho => ?_⟩
  · rw [flip_at (by rw [S.len]; exact hp)]
    omega
  · have o1 := (ok.mate hp ho).1
    rw [flip_at (by rw [S.len]; exact o1), flip_at (by rw [S.len]; exact hp)]
    have := S.two p hp
    have := S.two o o1
    have := S.apart p o hp ho
    omega
theorem flip_side {ls : List (List Nat)} {sd : List Nat} {g : List (Option Nat)} {s : Nat} (S : Sided ls sd) (hs : s ≤ 1) : sideM ls g (flip sd) s = sideM ls g sd (1 - s) := by
  unfold sideM
  refine List.map_congr_left fun p hp => ?_
  have hp := List.mem_range.mp hp
  rw [flip_at (by rw [S.len]; exact hp)]
  have := S.two p hp
  by_cases c : sd.getD p 0 = 1 - s
  · rw [if_pos c, if_pos (by omega)]
  · rw [if_neg c, if_neg (by omega)]
theorem eqv_dLH_nil (hss : List (List (Option Nat))) : PyData.eqv (dLH hss) (.list []) = hss.isEmpty := by
  cases hss with
  | nil => decide
  | cons a t => simp [dLH, PyData.eqv, PyData.eqvAll]
def spLaw (K : PySem.W.Frag) : Sp := fun vs H Q _ => ∃ (a : Addr) (ns : List Int), vs = [.ref a] ∧ SqL K H a (ns.map V.int) ∧ ns.length ≤ 63 ∧ ∀ H', Q (.bl true) H'
abbrev nL : List Str := ["script", "heap", "turn", "lists", "sides", "wishes", "lasting", "other", "side", "person", "mates"]
theorem scL : FnScope ["script", "heap", "turn", "lists", "sides", "wishes", "lasting", "other", "side", "person", "mates"] ["script"] (defScope sLaw) := ⟨rfl, rfl, rfl, by decide +kernel, rfl, by decide +kernel, by decide +kernel⟩
abbrev rLen (K : PySem.W.Frag) : List V → Hp → VK → Prop := fun xs H Q => ∃ p ys, xs = [V.ref p] ∧ (SqL K H p ys ∨ SqT K H p ys) ∧ Q (V.int ys.length) H
section
variable {P : Program} {w : World} {K : PySem.W.Frag} {mg : Str → Option Value} {base : Heap}
theorem ok_law {f fi C f1 f2 f3 f4 f5 f6 f7 f8 f9 f10 f11 f12 : Addr} {fd di d1 d2 d3 d4 d5 d6 d7 d8 d9 d10 d11 d12 : FuncData} {k : Nat} (F : Fun K "law" "law" sLaw f fd) (T : Txt K mg C) (M : Mk K C fi)
    (Gi : FnOk P w K mg base CX0 (k + 2) fi di ["self", "names", "lists"] (spWInit C)) (bi : Binds K di ["self", "names", "lists"] [])
    (Hp : Has P w K mg base (k + 3) "_law_heap" ["script"] (spHeap K) f1 d1) (Dr : Has P w K mg base (k + 3) "_law_draw" ["heap", "many"] spDraw f2 d2) (La : Has P w K mg base (k + 3) "_law_ladder" ["heap"] spLadder f3 d3)
    (Sh : Has P w K mg base (k + 3) "_law_shuffled" ["heap", "some"] spShuffled f4 d4) (Pk : Has P w K mg base (k + 3) "_law_pick" ["heap", "some"] spPick f5 d5) (Be : Has P w K mg base (k + 3) "_law_between" ["heap", "sides", "share"] spBetween f6 d6)
    (Nm : Has P w K mg base (k + 3) "_law_names" ["heap", "many"] spNames f7 d7) (Pa : Has P w K mg base (k + 3) "_law_pairings" ["lists"] spPairings f8 d8) (Lt : Has P w K mg base (k + 3) "_law_lasts" ["lists", "mates"] spLasts f9 d9)
    (Si : Has P w K mg base (k + 3) "side_pairing" ["wishes", "sides", "side"] (spSidePairing C) f10 d10)
    (Sr : HasG P w K mg base (k + 3) "_law_side_right" ["wishes", "lists", "sides", "lasting", "side"] (spSideRight C) f11 d11) (Gr : HasG P w K mg base (k + 3) "_law_great_right" ["heap"] spGR f12 d12)
    (mlen : mg "len" = none) (mi : mg "int" = none) (mrg : mg "range" = none) (mt : mg "tuple" = none) : RunG P w K mg base (k + 4) f fd ["script"] (spLaw K) := by
  refine okG F scL (by rintro vs H Q E ⟨a, ns, rfl, _⟩; rfl) (fun cdv A outer s' H vs Q E hA hr h => ?_)
  obtain ⟨a, ns, rfl, hS, hl, q⟩ := h
  refine ⟨_, (pss_cons (ps_set (i := 1) scL.nd rfl (.inl rfl) (pe_call Hp.ok hr rfl Hp.m Hp.k Hp.b .nil pass0 (pa_cons (pv 0) pa_nil)))
      (pss_cons (ps_for PassesOwn.never rfl (pi_range1 rfl mrg (pa_cons (pe_op op_add pe_int (pe_callTy call_int1 (by rfl) mi (by decide +kernel) (pa_cons (pe_cmp (pc_gt (pe_callB call_len_seq (by rfl) mlen PySem.boot_len (pa_cons (pv 0) pa_nil)) pe_int) rfl) pa_nil))) pa_nil)) (pg_name (i := 2) scL.nd rfl (.inl rfl))
      (pss_cons (ps_if (pt_cmpR op_eq (pe_call Dr.ok hr rfl Dr.m Dr.k Dr.b .nil pass0 (pa_cons (pv 1) (pa_cons pe_int pa_nil))) pe_int (nomark _))
        (pss_cons (ps_set (i := 3) scL.nd rfl (.inr rfl) (pe_callTy call_tuple_of (by rfl) mt (by decide +kernel) (pa_cons (pe_call La.ok hr rfl La.m La.k La.b .nil pass0 (pa_cons (pv 1) pa_nil)) pa_nil)))
      (pss_one (ps_set (i := 4) scL.nd rfl (.inl rfl) (pe_callTy call_tuple_of (by rfl) mt (by decide +kernel) (pa_cons (pe_lc (own := [("person", 9)]) (g := gName 9) (tt := tYes) (te := tCB rInt1 (tCons (tOp (rI0 fun i j => V.bl (decide (j ≤ i))) (tOp (rI CMul fun i j => V.int (i * j)) (tC (.int 2)) (tVar 9)) (tCB (rLen K) (tCons (tVar 3) tNil))) tNil)) rfl scL.nd (pi_range1 rfl mrg (pa_cons (pe_callB call_len_seq (by rfl) mlen PySem.boot_len (pa_cons (pv 3) pa_nil)) pa_nil)) (blkOk_by (own := [("person", 9)]) (N := ["script", "heap", "turn", "lists", "sides", "wishes", "lasting", "other", "side", "person", "mates"]) (sc := defScope sLaw) (by decide +kernel)) (fun _ _ _ _ _ => pg_name (i := 9) scL.nd rfl (Or.inl rfl)) (fun _ _ _ _ _ => pts_nil) (fun _ _ _ _ _ => pe_callTy call_int1 (by rfl) mi (by decide +kernel) (pa_cons (pe_cmpR op_ge (pe_op op_mul pe_int (pv 9)) (pe_callB call_len_seq (by rfl) mlen PySem.boot_len (pa_cons (pv 3) pa_nil)) (nomark _)) pa_nil))) pa_nil)))))
        (pss_cons (ps_set (i := 4) scL.nd rfl (.inl rfl) (pe_call Sh.ok hr rfl Sh.m Sh.k Sh.b .nil pass0 (pa_cons (pv 1) (pa_cons (pe_op op_catA (pe_op op_repB (pe_tup (pa_cons pe_int pa_nil)) (pe_call Pk.ok hr rfl Pk.m Pk.k Pk.b .nil pass0 (pa_cons (pv 1) (pa_cons (pe_lst (pa_cons pe_int (pa_cons pe_int (pa_cons pe_int (pa_cons pe_int (pa_cons pe_int pa_nil)))))) pa_nil)))) (pe_op op_repB (pe_tup (pa_cons pe_int pa_nil)) (pe_call Pk.ok hr rfl Pk.m Pk.k Pk.b .nil pass0 (pa_cons (pv 1) (pa_cons (pe_lst (pa_cons pe_int (pa_cons pe_int (pa_cons pe_int (pa_cons pe_int (pa_cons pe_int (pa_cons pe_int pa_nil))))))) pa_nil))))) pa_nil))))
      (pss_one (ps_set (i := 3) scL.nd rfl (.inr rfl) (pe_call Be.ok hr rfl Be.m Be.k Be.b .nil pass0 (pa_cons (pv 1) (pa_cons (pv 4) (pa_cons (pe_call Pk.ok hr rfl Pk.m Pk.k Pk.b .nil pass0 (pa_cons (pv 1) (pa_cons (pe_lst (pa_cons pe_int (pa_cons pe_int (pa_cons pe_int (pa_cons pe_int pa_nil))))) pa_nil))) pa_nil))))))))
      (pss_cons (ps_set (i := 5) scL.nd rfl (.inl rfl) (pe_make M Gi hr rfl T.mgC bi .nil pass0 (pa_cons (pe_call Nm.ok hr rfl Nm.m Nm.k Nm.b .nil pass0 (pa_cons (pv 1) (pa_cons (pe_callB call_len_seq (by rfl) mlen PySem.boot_len (pa_cons (pv 3) pa_nil)) pa_nil))) (pa_cons (pv 3) pa_nil))))
      (pss_cons (ps_setLc (i := 6) (own := [("mates", 10)]) (g := gName 10) (tt := tB (tCall spLasts [] E0 (tCons (tVar 3) (tCons (tVar 10) tNil))))  rfl scL.nd rfl rfl (sw_true rfl rfl rfl (by decide +kernel)) (pi_list (pe_call Pa.ok hr rfl Pa.m Pa.k Pa.b .nil pass0 (pa_cons (pv 3) pa_nil))) (blkOk_by (own := [("mates", 10)]) (N := ["script", "heap", "turn", "lists", "sides", "wishes", "lasting", "other", "side", "person", "mates"]) (sc := defScope sLaw) (by decide +kernel)) (fun _ _ _ _ _ => pg_name (i := 10) scL.nd rfl (Or.inl rfl)) (fun _ _ _ _ _ => pts_one (pt_val (pe_call Lt.ok hr rfl Lt.m Lt.k Lt.b .nil pass0 (pa_cons (pv 3) (pa_cons (pv 10) pa_nil))))) (fun _ _ _ _ _ => pv 10))
      (pss_cons (ps_set (i := 7) scL.nd rfl (.inl rfl) (pe_callTy call_tuple_of (by rfl) mt (by decide +kernel) (pa_cons (pe_lc (own := [("side", 8)]) (g := gName 8) (tt := tYes)  rfl scL.nd (pi_tup (pv 4)) (blkOk_by (own := [("side", 8)]) (N := ["script", "heap", "turn", "lists", "sides", "wishes", "lasting", "other", "side", "person", "mates"]) (sc := defScope sLaw) (by decide +kernel)) (fun _ _ _ _ _ => pg_name (i := 8) scL.nd rfl (Or.inl rfl)) (fun _ _ _ _ _ => pts_nil) (fun _ _ _ _ _ => pe_op op_sub pe_int (pv 8))) pa_nil)))
      (pss_one (ps_for PassesOwn.never rfl (pi_list (pe_lst (pa_cons pe_int (pa_cons pe_int pa_nil)))) (pg_name (i := 8) scL.nd rfl (.inl rfl))
      (pss_cons (ps_if (PW.pt (pw_or (pt_cmpR (op_eqD hr.units) (pv 6) (pe_lst pa_nil) (nomark _)) (pw_or1 (pt_not (pt_val (pe_callG Sr.ok (spSideRight_len C) hA hr (by rfl) Sr.m Sr.k Sr.b pass0 (pa_cons (pv 5) (pa_cons (pv 3) (pa_cons (pv 4) (pa_cons (pv 6) (pa_cons (pv 8) pa_nil))))))))))) (pss_one (ps_ret pe_bl)) pss_nil)
      (pss_one (ps_if (pt_cmpR (op_neD hr.units) (pe_call Si.ok hr rfl Si.m Si.k Si.b .nil pass0 (pa_cons (pv 5) (pa_cons (pv 7) (pa_cons (pv 8) pa_nil)))) (pe_call Si.ok hr rfl Si.m Si.k Si.b .nil pass0 (pa_cons (pv 5) (pa_cons (pv 4) (pa_cons (pe_op op_sub pe_int (pv 8)) pa_nil)))) (nomark _)) (pss_one (ps_ret pe_bl)) pss_nil))))))))))
      (pss_cons (ps_if (PW.pt (pw_and (pt_cmpR op_eq (pe_call Dr.ok hr rfl Dr.m Dr.k Dr.b .nil pass0 (pa_cons (pv 1) (pa_cons pe_int pa_nil))) pe_int (nomark _)) (pw_and1 (pt_not (pt_val (pe_callG Gr.ok spGR_len hA hr (by rfl) Gr.m Gr.k Gr.b pass0 (pa_cons (pv 1) pa_nil))))))) (pss_one (ps_ret pe_bl)) pss_nil)
      (pss_cons (ps_set (i := 5) scL.nd rfl (.inl rfl) (pe_make M Gi hr rfl T.mgC bi .nil pass0 (pa_cons (pe_tup (pa_cons pe_str (pa_cons pe_str (pa_cons pe_str (pa_cons pe_str (pa_cons pe_str pa_nil)))))) (pa_cons (pe_tup (pa_cons (pe_tup (pa_cons pe_int (pa_cons pe_int pa_nil))) (pa_cons (pe_tup (pa_cons pe_int (pa_cons pe_int pa_nil))) (pa_cons (pe_tup (pa_cons pe_int (pa_cons pe_int pa_nil))) (pa_cons (pe_tup (pa_cons pe_int (pa_cons pe_int (pa_cons pe_int pa_nil)))) (pa_cons (pe_tup (pa_cons pe_int pa_nil)) pa_nil)))))) pa_nil))))
      (pss_cons (ps_if (pt_cmpR (op_neD hr.units) (pe_call Si.ok hr rfl Si.m Si.k Si.b .nil pass0 (pa_cons (pv 5) (pa_cons (pe_tup (pa_cons pe_int (pa_cons pe_int (pa_cons pe_int (pa_cons pe_int (pa_cons pe_int pa_nil)))))) (pa_cons pe_int pa_nil)))) (pe_tup (pa_cons (pe_tup (pa_cons pe_int (pa_cons pe_int pa_nil))) (pa_cons (pe_tup (pa_cons pe_int (pa_cons pe_int pa_nil))) pa_nil))) (nomark _)) (pss_one (ps_ret pe_bl)) pss_nil)
      (pss_one (ps_ret (pe_and (pe_cmpR (op_eqD hr.units) (pe_call Si.ok hr rfl Si.m Si.k Si.b .nil pass0 (pa_cons (pv 5) (pa_cons (pe_tup (pa_cons pe_int (pa_cons pe_int (pa_cons pe_int (pa_cons pe_int (pa_cons pe_int pa_nil)))))) (pa_cons pe_int pa_nil)))) (pe_tup (pa_cons (pe_tup (pa_cons pe_int (pa_cons pe_int pa_nil))) (pa_cons (pe_tup (pa_cons pe_int (pa_cons pe_int pa_nil))) pa_nil))) (nomark _)) (pe_one (pe_cmpR (op_eqD hr.units) (pe_call Si.ok hr rfl Si.m Si.k Si.b .nil pass0 (pa_cons (pe_make M Gi hr rfl T.mgC bi .nil pass0 (pa_cons (pe_tup (pa_cons pe_str pa_nil)) (pa_cons (pe_tup (pa_cons (pe_tup pa_nil) pa_nil)) pa_nil))) (pa_cons (pe_tup (pa_cons pe_int pa_nil)) (pa_cons pe_int pa_nil)))) (pe_tup pa_nil) (nomark _))))))))))), ?_⟩
  refine ⟨_, rfl, a, ns, rfl, hS, fun h l H1 s1 nh nl src1 => ?_⟩
  have hS1 : SqL K H1 a (ns.map V.int) := s1.seq hS
  refine ⟨_, rfl, a, _, rfl, .inl hS1, _, _, rfl, rfl, .inr ⟨_, rfl, _, _, rfl, rfl, _, rfl, ?_, ?_, for_range (lo := 0) (n := _) (fun i σ H' => ∃ y2 y3 y4 y5 y6 y7 y8 : Option V, σ = [some (.ref a), some (.ref h), y2, y3, y4, y5, y6, y7, y8, none, none] ∧ Src H' h l)
      ⟨none, none, none, none, none, none, none, rfl, src1⟩ ?_ ?_⟩⟩
  · split <;> omega
  · split <;> omega
  · rintro i σ H2 hi ⟨y2, y3, y4, y5, y6, y7, y8, rfl, src2⟩
    refine gn ?_
    dsimp only [List.set]
    refine seqcut (fun σ' H' => ∃ (la0 sp : Addr) (ls : List (List Nat)) (sd : List Nat) (y5 y6 y7 y8 : Option V), σ' = [some (.ref a), some (.ref h), some (.int (0 + i)), some (.ref la0), some (.ref sp), y5, y6, y7, y8, none, none] ∧ Src H' h l ∧ LX H' la0 ls ∧ Tp H' sp (VI sd) ∧ ListsOk ls.length ls ∧ Sided ls sd ∧ 1 ≤ ls.length ∧ ls.length ≤ 8) ?_ (fun out => ?_)
    · rintro σ' H3 ⟨la0, sp, ls, sd, y5, y6, y7, y8, rfl, sr3, lx3, es3, ok, S, n1, n8⟩
      obtain ⟨xs3, ea3, xl3⟩ := lx3.lt.len
      refine ⟨_, rfl, _, rfl, la0, xs3, rfl, .inr (SqT.of ea3), ?_⟩
      rw [xl3]
      refine ⟨h, l, ls.length, rfl, sr3, by omega, by omega, fun nn ns' H4 nok sr4 br4 n4 en => ⟨_, rfl, ?_⟩⟩
      have lx4 := lx3.bar sr3 br4
      have es4 := es3.bar sr3 br4
      intro x dx nx ndx ne
      have s6 : Same H4 (upd (upd H4 dx (.own x)) x (.ins C dx [])) := (same_rfl.fresh ndx).fresh nx
      refine ⟨x, dx, nn, la0, ns', ls, rfl, upd_same, s6 _ _ en, lx4.lt.same s6, by omega, by omega, nok, ok, fun H7 W7 keep => ⟨rfl, gn ?_⟩⟩
      have s67 : Same H4 H7 := fun b o e => keep b o (s6 _ _ e) (ne_of_none e nx)
      have lx7 := lx4.same s67
      have es7 := es4.same s67
      have sr7 := sr4.same s67
      dsimp only [List.set]
      refine ⟨_, rfl, la0, ls, sd, rfl, lx7, n1, n8, ok, S, fun r us hss H8 s8 er hst n16 mem => ⟨r, rfl, ⟨_, SqL.of er⟩, fun D nD => ?_⟩⟩
      have uAt : ∀ i, i < hss.length → us[i]? = some (us.getD i 0) := fun i hi => by
        rw [List.getD_eq_getElem?_getD, List.getElem?_eq_getElem (by rw [hst.1]; exact hi)]
        rfl
      have hAt : ∀ i, i < hss.length → hss[i]? = some (hss.getD i []) := fun i hi => by
        rw [List.getD_eq_getElem?_getD, List.getElem?_eq_getElem hi]
        rfl
      refine lc_pick (walk_list (K := K) (a := r) (xs := us.map V.ref)) (by rw [List.length_map, hst.1]; omega) (fun i => @decide (Lasts ls (hss.getD i [])) (Classical.propDecidable _)) (fun i => .ref (us.getD i 0)) nD (fun _ sm => SqL.of (sm _ _ er)) ?_ ?_
      · rintro i x' Ha Hb R Z yes' no' hi sm ⟨rfl, ex⟩
        rw [List.length_map, hst.1] at hi
        obtain ⟨u, row, rfl, eu, erow, et⟩ := hst.at ex
        rw [uAt i hi] at eu
        rw [hAt i hi] at erow
        cases eu
        cases erow
        have pg := (mem _).mp (List.mem_of_getElem? (hAt i hi))
        refine gn ⟨rfl, _, rfl, _, rfl, la0, _, ls, _, rfl, (lx7.same s8).same sm, sm _ _ et, pg.ok, ok, by omega, fun b H' s' hb => ⟨b, rfl, ?_⟩⟩
        cases b with
        | true => exact iteT ⟨_, rfl, yes' _ s' (@decide_eq_true _ (Classical.propDecidable _) (hb.mp rfl))⟩
        | false => exact iteF (no' _ s' (@decide_eq_false _ (Classical.propDecidable _) fun z => by have := hb.mpr z; cases this))
      · intro H9 s9 eD
        rw [List.length_map, hst.1] at eD
        refine gn ?_
        dsimp only [List.set]
        generalize hL : (List.range hss.length).filter (fun i => @decide (Lasts ls (hss.getD i [])) (Classical.propDecidable _)) = L at eD
        have Lm : ∀ i, i ∈ L ↔ i < hss.length ∧ Lasts ls (hss.getD i []) := fun i => by
          rw [← hL, List.mem_filter, List.mem_range]
          exact and_congr Iff.rfl ⟨fun z => @of_decide_eq_true _ (Classical.propDecidable _) z, fun z => @decide_eq_true _ (Classical.propDecidable _) z⟩
        have Ll : L.length ≤ hss.length := by
          rw [← hL]
          refine Nat.le_trans (List.length_filter_le _ _) ?_
          rw [List.length_range]
          exact Nat.le_refl _
        obtain ⟨hss', hh⟩ : ∃ hss', hss' = L.map fun i => hss.getD i [] := ⟨_, rfl⟩
        obtain ⟨us', hu⟩ : ∃ us', us' = L.map fun i => us.getD i 0 := ⟨_, rfl⟩
        have eD9 : H9 D = some (.lst (us'.map V.ref)) := by
          rw [eD, hu, List.map_map]
          rfl
        have hst9 : HsT H9 us' hss' := by
          refine ⟨by rw [hu, hh, List.length_map, List.length_map], fun j u row e1 e2 => ?_⟩
          rw [hu, List.getElem?_map] at e1
          rw [hh, List.getElem?_map] at e2
          cases ej : L[j]? with
          | none => rw [ej] at e1; cases e1
          | some k' =>
            rw [ej] at e1 e2
            cases e1
            cases e2
            have hk := ((Lm k').mp (List.mem_of_getElem? ej)).1
            exact s9 _ _ (hst.2 k' _ _ (uAt k' hk) (hAt k' hk))
        have al : AllLast ls hss' := fun row => by
          rw [hh, List.mem_map]
          constructor
          · rintro ⟨k', hk, rfl⟩
            obtain ⟨k1, k2⟩ := (Lm k').mp hk
            exact ⟨(mem _).mp (List.mem_of_getElem? (hAt k' k1)), k2⟩
          · rintro ⟨p1, p2⟩
            obtain ⟨k', hk, ek⟩ := List.mem_iff_getElem.mp ((mem row).mpr p1)
            have eg : hss.getD k' [] = row := by rw [List.getD_eq_getElem?_getD, List.getElem?_eq_getElem hk, ek]; rfl
            exact ⟨k', (Lm k').mpr ⟨hk, by rw [eg]; exact p2⟩, eg⟩
        have n16' : hss'.length ≤ 65536 := by rw [hh, List.length_map]; omega
        obtain ⟨g, G⟩ := great_ex ok
        have ee : hss'.isEmpty = false := by
          have := (al _).mpr ⟨side_pair ok (s := 0) G S (by decide), side_lasts ok (s := 0) G S (by decide)⟩
          cases hss' with
          | nil => cases this
          | cons _ _ => rfl
        have s79 := s8.trans s9
        have es9 := es7.same s79
        refine ⟨_, rfl, sp, rfl, ⟨_, es9.sq⟩, fun E nE => ?_⟩
        refine lc_same (walk_tup (K := K) (a := sp) (xs := VI sd)) (by rw [VI_len, S.len]; omega) (fun i => .int ((1 - sd.getD i 0 : Nat) : Nat)) nE (fun _ sm => (es9.same sm).sq) ?_ ?_
        · rintro i x' Ha Hb Z out' hi sm ⟨rfl, ex⟩
          rw [VI_len] at hi
          have sd_at : sd[i]? = some (sd.getD i 0) := by
            rw [List.getD_eq_getElem?_getD, List.getElem?_eq_getElem hi]
            rfl
          have ex' : (VI sd)[i]? = some x' := ex
          rw [VI_get sd_at] at ex'
          cases ex'
          have t2 := S.two i (by rw [← S.len]; exact hi)
          refine gn ⟨rfl, _, rfl, _, _, rfl, rfl, ?_⟩
          show Z (.int ((1 : Int) - ((sd.getD i 0 : Nat) : Int))) _
          rw [show (1 : Int) - ((sd.getD i 0 : Nat) : Int) = ((1 - sd.getD i 0 : Nat) : Int) by omega]
          exact out' _ same_rfl
        · intro H10 s10 eE
          have eE' : H10 E = some (.lst (VI (flip sd))) := by
            rw [eE]
            congr 2
            unfold VI flip
            apply List.ext_getElem
            · simp
            · intro i h1 h2
              simp at h1
              simp [List.getD_eq_getElem?_getD, h1]
          refine ⟨E, _, rfl, .inl ⟨SqL.of eE', fun ot not_ => gn ?_⟩⟩
          dsimp only [List.set]
          have sot := same_upd (o := .tup (VI (flip sd))) not_
          have eot := upd_same (H := H10) (a := ot) (o := .tup (VI (flip sd)))
          have s9z := s10.trans sot
          generalize upd H10 ot (.tup (VI (flip sd))) = H11 at eot s9z
          refine ⟨(by show 2 ≤ sizeLine; decide), fun B nB => ⟨B, rfl, ⟨_, SqL.of upd_same⟩, ?_⟩⟩
          have sB := same_upd (o := .lst [.int 0, .int 1]) nB
          have eB := upd_same (H := H11) (a := B) (o := .lst [.int 0, .int 1])
          have s9B := s9z.trans sB
          have eotB := sB _ _ eot
          generalize upd H11 B (.lst [.int 0, .int 1]) = HB at eB s9B eotB
          have s7B := s79.trans s9B
          refine for_it (walk_list (K := K) (a := B) (xs := [.int 0, .int 1])) (fun j σ H' => ∃ y8 : Option V, σ = [some (.ref a), some (.ref h), some (.int (0 + i)), some (.ref la0), some (.ref sp), some (.ref x), some (.ref D), some (.ref ot), y8, none, none] ∧ Same HB H')
            ⟨y8, rfl, same_rfl⟩ (fun j σ H' _ ⟨_, _, s⟩ => SqL.of (s _ _ eB)) ?_ ?_
          · rintro j x' σ Hc Hd hj ⟨y8', rfl, sc⟩ ⟨rfl, ex⟩
            obtain ⟨s, rfl, hs⟩ : ∃ s : Nat, x' = .int (s : Nat) ∧ s ≤ 1 := by
              match j, ex with
              | 0, ex => exact ⟨0, (Option.some.inj ex).symm, by decide⟩
              | 1, ex => exact ⟨1, (Option.some.inj ex).symm, by decide⟩
              | _ + 2, ex => cases ex
            refine gn ?_
            dsimp only [List.set]
            have s9c := s9B.trans sc
            refine ⟨_, rfl, Nat.zero_le _, fun z nz => ?_⟩
            have sz := same_upd (o := .lst []) nz
            have s9e := s9c.trans sz
            refine ⟨dLH hss', .list [], dp_dLH (s9e _ _ eD9) (hst9.same s9e), .lst (SqL.of upd_same) .nil, sh_dLH _, by decide, _, rfl, ?_⟩
            rw [eqv_dLH_nil, ee]
            have scz := sc.trans sz
            generalize upd _ z (.lst []) = He at s9e scz
            have s7e := s79.trans s9e
            refine iteF ⟨_, rfl, _, rfl, _, rfl, _, rfl, _, rfl, x, la0, sp, D, ns', ls, sd, us', hss', s, rfl, W7.same s7e, lx7.same s7e, es7.same s7e, S, hs, s9e _ _ eD9, hst9.same s9e, n16', al, fun Hf sf => ⟨true, rfl, iteF ?_⟩⟩
            have s7f := s7e.trans sf
            have scf := scz.trans sf
            refine ⟨_, rfl, _, rfl, _, rfl, x, ot, ns', ls, flip sd, s, rfl, W7.same s7f, .inl (scf _ _ eotB), flip_sided S ok, hs, fun r1 g1 Hg G1 sg lt1 => ?_⟩
            refine ⟨_, rfl, _, rfl, _, rfl, _, _, rfl, rfl, x, sp, ns', ls, sd, 1 - s, ?_, W7.same (s7f.trans sg), es7.same (s7f.trans sg), S, by omega, fun r2 g2 Hk G2 sk lt2 => ?_⟩
            · show [V.ref x, V.ref sp, V.int ((1 : Int) - ((s : Nat) : Int))] = _
              rw [show (1 : Int) - ((s : Nat) : Int) = ((1 - s : Nat) : Int) by omega]
            · obtain rfl := great_one G1 G2
              rw [flip_side S hs] at lt1
              exact ⟨_, _, dp_dL (lt1.same sk), dp_dL lt2, sh_dL _, sh_dL _, false, congrArg V.bl (by rw [eq_dL]; rfl), iteF ⟨_, rfl, scf.trans (sg.trans sk)⟩⟩
          · rintro σ Hc ⟨y8', rfl, sc⟩
            exact ⟨_, _, _, _, _, _, _, rfl, sr7.same (s7B.trans sc)⟩
    · refine ⟨_, rfl, h, l, 3, rfl, src2, by decide, by decide, fun d H3 d0 d1 sr3 br3 => ⟨rfl, _, rfl, ?_⟩⟩
      refine ite2 (fun _ => ?_) (fun _ => ?_)
      · refine ⟨_, rfl, h, l, rfl, sr3, fun r us n st H4 n2 n4 hst sr4 br4 er rw' => ⟨r, _, rfl, .inl ⟨SqL.of er, fun ta nta => gn ?_⟩⟩⟩
        dsimp only [List.set]
        have sta := same_upd (o := .tup (us.map V.ref)) nta
        have eta := upd_same (H := H4) (a := ta) (o := .tup (us.map V.ref))
        have lx4 : LX (upd H4 ta (.tup (us.map V.ref))) ta (ladder n st) := ⟨us, eta, rw'.1, fun i a s e1 e2 => (rw'.2 i a s e1 e2).same sta⟩
        have sr5 := sr4.same sta
        generalize upd H4 ta (.tup (us.map V.ref)) = H5 at eta lx4 sr5
        have ul : (us.map V.ref).length = 2 * n := by rw [List.length_map, rw'.1, ladder_len]
        refine ⟨_, rfl, ta, _, rfl, .inr (SqT.of eta), ?_⟩
        rw [ul]
        refine ⟨_, rfl, by omega, by omega, fun D nD => ?_⟩
        refine lc_same (J := Itr 0 (2 * n)) (n := 2 * n) walk_range0 (by omega) (fun p => .int ((if n ≤ p then 1 else 0 : Nat) : Nat)) nD (fun _ _ => trivial) ?_ ?_
        · rintro p x Ha Hb Z out' hp sm ⟨rfl, rfl⟩
          refine gn ⟨rfl, _, rfl, _, _, rfl, rfl, .inl ⟨by decide, by decide⟩, _, rfl, ta, _, rfl, .inr (SqT.of (sm _ _ eta)), _, _, rfl, rfl, .inr ⟨_, rfl, ?_⟩⟩
          rw [ul]
          have e : (if decide (((2 * n : Nat) : Int) ≤ 2 * ((p : Nat) : Int)) = true then (1 : Int) else 0) = (((if n ≤ p then 1 else 0 : Nat) : Nat) : Int) := by
            by_cases c : n ≤ p
            · rw [if_pos c, if_pos (decide_eq_true (by omega))]
              rfl
            · rw [if_neg c, if_neg (fun z => c (by have := of_decide_eq_true z; omega))]
              rfl
          rw [e]
          exact out' _ same_rfl
        · intro H6 s6 eD
          have eD' : H6 D = some (.lst (VI (sidesOf n))) := by
            rw [eD]
            unfold VI sidesOf
            rw [List.map_map]
            rfl
          refine ⟨D, _, rfl, .inl ⟨SqL.of eD', fun u nu => gn (out _ _ ⟨ta, u, ladder n st, sidesOf n, _, _, _, _, rfl, ?_, ?_, .inl upd_same, ladder_ok n2 n4 (by omega), ladder_sided n2 n4 (by omega), ?_, ?_⟩)⟩⟩
          · exact sr5.same (s6.trans (same_upd nu))
          · exact lx4.same (s6.trans (same_upd nu))
          · rw [ladder_len]; omega
          · rw [ladder_len]; omega
      · refine ⟨_, rfl, (by show 1 ≤ sizeLine; decide), fun t1 nt1 => ⟨_, rfl, (by show 5 ≤ sizeLine; decide), fun v1 nv1 => ?_⟩⟩
        have st1 := same_upd (o := .tup [.int 0]) nt1
        have srt := sr3.same st1
        obtain ⟨nvh, nvl⟩ := srt.new nv1
        refine ⟨h, l, v1, _, rfl, srt.updn nv1, .inl upd_same, nvh, nvl, by simp, by simp, fun j y H4 hy sr4 br4 => ?_⟩
        obtain ⟨na, rfl, na1, na4⟩ : ∃ na : Nat, y = .int (na : Nat) ∧ 1 ≤ na ∧ na ≤ 4 := by
          match j, hy with
          | 0, hy => exact ⟨3, (Option.some.inj hy).symm, by decide, by decide⟩
          | 1, hy => exact ⟨2, (Option.some.inj hy).symm, by decide, by decide⟩
          | 2, hy => exact ⟨3, (Option.some.inj hy).symm, by decide, by decide⟩
          | 3, hy => exact ⟨4, (Option.some.inj hy).symm, by decide, by decide⟩
          | 4, hy => exact ⟨1, (Option.some.inj hy).symm, by decide, by decide⟩
        have et1 := tup_bar (srt.updn nv1) br4 (same_upd (o := .lst [.int 3, .int 2, .int 3, .int 4, .int 1]) nv1 _ _ (upd_same (H := H3) (a := t1) (o := .tup [.int 0])))
        refine repB (m := na) (v := 0) rfl et1 (by omega) fun c1 H5 s5 ec1 => ?_
        refine ⟨(by show 1 ≤ sizeLine; decide), fun t2 nt2 => ⟨_, rfl, (by show 6 ≤ sizeLine; decide), fun v2 nv2 => ?_⟩⟩
        have st2 := same_upd (o := .tup [.int 1]) nt2
        have sr5 := sr4.same (s5.trans st2)
        obtain ⟨nwh, nwl⟩ := sr5.new nv2
        refine ⟨h, l, v2, _, rfl, sr5.updn nv2, .inl upd_same, nwh, nwl, by simp, by simp, fun j2 y2' H6 hy2 sr6 br6 => ?_⟩
        obtain ⟨nb, rfl, nb3⟩ : ∃ nb : Nat, y2' = .int (nb : Nat) ∧ nb ≤ 3 := by
          match j2, hy2 with
          | 0, hy => exact ⟨3, (Option.some.inj hy).symm, by decide⟩
          | 1, hy => exact ⟨2, (Option.some.inj hy).symm, by decide⟩
          | 2, hy => exact ⟨3, (Option.some.inj hy).symm, by decide⟩
          | 3, hy => exact ⟨1, (Option.some.inj hy).symm, by decide⟩
          | 4, hy => exact ⟨0, (Option.some.inj hy).symm, by decide⟩
          | 5, hy => exact ⟨2, (Option.some.inj hy).symm, by decide⟩
        have sv2 := same_upd (o := .lst [.int 3, .int 2, .int 3, .int 1, .int 0, .int 2]) nv2
        have et2 := tup_bar (sr5.updn nv2) br6 (sv2 _ _ (upd_same (H := H5) (a := t2) (o := .tup [.int 1])))
        have ec1' := tup_bar (sr5.updn nv2) br6 (sv2 _ _ (st2 _ _ ec1))
        refine repB (m := nb) (v := 1) rfl et2 (by omega) fun c2 H7 s7 ec2 => ?_
        refine catV (s7 _ _ ec1') ec2 (by rw [VI_len, VI_len, List.length_replicate, List.length_replicate]; omega) fun c H8 s8 ec => ?_
        rw [← VI_app] at ec
        have sr8 := sr6.same (s7.trans s8)
        obtain ⟨nch, ncl⟩ := sr8.ne ec (fun _ z => by cases z)
        refine ⟨h, l, c, _, rfl, sr8, .inr ec, nch, ncl, by rw [VI_len, List.length_append, List.length_replicate, List.length_replicate]; omega, fun r ys H9 pm sr9 br9 nr er => gn ?_⟩
        dsimp only [List.set]
        obtain ⟨sd, rfl, pmd⟩ := sd_of pm
        obtain ⟨sdl, two⟩ := sd_two pmd
        have es9 : Tp H9 r (VI sd) := .inr er
        refine ⟨_, rfl, _, rfl, _, rfl, (by show 4 ≤ sizeLine; decide), fun v3 nv3 => ?_⟩
        obtain ⟨nxh, nxl⟩ := sr9.new nv3
        refine ⟨h, l, v3, _, rfl, sr9.updn nv3, .inl upd_same, nxh, nxl, by simp, by simp, fun j3 y3' H10 hy3 sr10 br10 => ?_⟩
        obtain ⟨sh, rfl, sh0, sh1⟩ : ∃ sh : Int, y3' = .int sh ∧ 0 < sh ∧ sh < 1000 := by
          match j3, hy3 with
          | 0, hy => exact ⟨6, (Option.some.inj hy).symm, by decide, by decide⟩
          | 1, hy => exact ⟨9, (Option.some.inj hy).symm, by decide, by decide⟩
          | 2, hy => exact ⟨99, (Option.some.inj hy).symm, by decide, by decide⟩
          | 3, hy => exact ⟨3, (Option.some.inj hy).symm, by decide, by decide⟩
        have es10 : Tp H10 r (VI sd) := (es9.same (same_upd nv3)).bar (sr9.updn nv3) br10
        refine ⟨h, l, r, sd, sh, rfl, sr10, es10, two, by omega, sh0, sh1, fun la0 ls H11 ok S sr11 br11 na' lx11 => gn (out _ _ ?_)⟩
        have ll := ok.len
        rw [← ll] at ok
        exact ⟨la0, r, ls, sd, _, _, _, _, rfl, sr11, lx11, es10.bar sr10 br11, ok, S, by omega, by omega⟩
  · rintro σ H0' ⟨y2, y3, y4, y5, y6, y7, y8, rfl, src2⟩
    dsimp only
    refine seqcut (fun σ' H' => σ' = [some (.ref a), some (.ref h), y2, y3, y4, y5, y6, y7, y8, none, none]) ?_ (fun out => ?_)
    · rintro σ' H0 rfl
      refine ⟨(by show 5 ≤ sizeLine; decide), fun n n_n => ?_⟩
      refine ⟨(by show 2 ≤ sizeLine; decide), fun r1 n_r1 => ?_⟩
      refine ⟨(by show 2 ≤ sizeLine; decide), fun r2 n_r2 => ?_⟩
      refine ⟨(by show 2 ≤ sizeLine; decide), fun r3 n_r3 => ?_⟩
      refine ⟨(by show 3 ≤ sizeLine; decide), fun r4 n_r4 => ?_⟩
      refine ⟨(by show 1 ≤ sizeLine; decide), fun r5 n_r5 => ?_⟩
      refine ⟨(by show 5 ≤ sizeLine; decide), fun t n_t => ?_⟩
      have e_n := upd_same (H := H0) (a := n) (o := .tup [.str "a", .str "b", .str "c", .str "d", .str "e"])
      have s_n := same_upd (o := .tup [.str "a", .str "b", .str "c", .str "d", .str "e"]) n_n
      have e_n := stays (o := .tup [.int 1, .int 3]) n_r1 e_n
      have e_r1 := upd_same (H := (upd H0 n (.tup [.str "a", .str "b", .str "c", .str "d", .str "e"]))) (a := r1) (o := .tup [.int 1, .int 3])
      have s_r1 := same_upd (o := .tup [.int 1, .int 3]) n_r1
      have e_n := stays (o := .tup [.int 2, .int 0]) n_r2 e_n
      have e_r1 := stays (o := .tup [.int 2, .int 0]) n_r2 e_r1
      have e_r2 := upd_same (H := (upd (upd H0 n (.tup [.str "a", .str "b", .str "c", .str "d", .str "e"])) r1 (.tup [.int 1, .int 3]))) (a := r2) (o := .tup [.int 2, .int 0])
      have s_r2 := same_upd (o := .tup [.int 2, .int 0]) n_r2
      have e_n := stays (o := .tup [.int 3, .int 1]) n_r3 e_n
      have e_r1 := stays (o := .tup [.int 3, .int 1]) n_r3 e_r1
      have e_r2 := stays (o := .tup [.int 3, .int 1]) n_r3 e_r2
      have e_r3 := upd_same (H := (upd (upd (upd H0 n (.tup [.str "a", .str "b", .str "c", .str "d", .str "e"])) r1 (.tup [.int 1, .int 3])) r2 (.tup [.int 2, .int 0]))) (a := r3) (o := .tup [.int 3, .int 1])
      have s_r3 := same_upd (o := .tup [.int 3, .int 1]) n_r3
      have e_n := stays (o := .tup [.int 0, .int 2, .int 4]) n_r4 e_n
      have e_r1 := stays (o := .tup [.int 0, .int 2, .int 4]) n_r4 e_r1
      have e_r2 := stays (o := .tup [.int 0, .int 2, .int 4]) n_r4 e_r2
      have e_r3 := stays (o := .tup [.int 0, .int 2, .int 4]) n_r4 e_r3
      have e_r4 := upd_same (H := (upd (upd (upd (upd H0 n (.tup [.str "a", .str "b", .str "c", .str "d", .str "e"])) r1 (.tup [.int 1, .int 3])) r2 (.tup [.int 2, .int 0])) r3 (.tup [.int 3, .int 1]))) (a := r4) (o := .tup [.int 0, .int 2, .int 4])
      have s_r4 := same_upd (o := .tup [.int 0, .int 2, .int 4]) n_r4
      have e_n := stays (o := .tup [.int 3]) n_r5 e_n
      have e_r1 := stays (o := .tup [.int 3]) n_r5 e_r1
      have e_r2 := stays (o := .tup [.int 3]) n_r5 e_r2
      have e_r3 := stays (o := .tup [.int 3]) n_r5 e_r3
      have e_r4 := stays (o := .tup [.int 3]) n_r5 e_r4
      have e_r5 := upd_same (H := (upd (upd (upd (upd (upd H0 n (.tup [.str "a", .str "b", .str "c", .str "d", .str "e"])) r1 (.tup [.int 1, .int 3])) r2 (.tup [.int 2, .int 0])) r3 (.tup [.int 3, .int 1])) r4 (.tup [.int 0, .int 2, .int 4]))) (a := r5) (o := .tup [.int 3])
      have s_r5 := same_upd (o := .tup [.int 3]) n_r5
      have e_n := stays (o := .tup [.ref r1, .ref r2, .ref r3, .ref r4, .ref r5]) n_t e_n
      have e_r1 := stays (o := .tup [.ref r1, .ref r2, .ref r3, .ref r4, .ref r5]) n_t e_r1
      have e_r2 := stays (o := .tup [.ref r1, .ref r2, .ref r3, .ref r4, .ref r5]) n_t e_r2
      have e_r3 := stays (o := .tup [.ref r1, .ref r2, .ref r3, .ref r4, .ref r5]) n_t e_r3
      have e_r4 := stays (o := .tup [.ref r1, .ref r2, .ref r3, .ref r4, .ref r5]) n_t e_r4
      have e_r5 := stays (o := .tup [.ref r1, .ref r2, .ref r3, .ref r4, .ref r5]) n_t e_r5
      have e_t := upd_same (H := (upd (upd (upd (upd (upd (upd H0 n (.tup [.str "a", .str "b", .str "c", .str "d", .str "e"])) r1 (.tup [.int 1, .int 3])) r2 (.tup [.int 2, .int 0])) r3 (.tup [.int 3, .int 1])) r4 (.tup [.int 0, .int 2, .int 4])) r5 (.tup [.int 3]))) (a := t) (o := .tup [.ref r1, .ref r2, .ref r3, .ref r4, .ref r5])
      have s_t := same_upd (o := .tup [.ref r1, .ref r2, .ref r3, .ref r4, .ref r5]) n_t
      have s_all := ((((((s_n).trans s_r1).trans s_r2).trans s_r3).trans s_r4).trans s_r5).trans s_t
      generalize (upd (upd (upd (upd (upd (upd (upd H0 n (.tup [.str "a", .str "b", .str "c", .str "d", .str "e"])) r1 (.tup [.int 1, .int 3])) r2 (.tup [.int 2, .int 0])) r3 (.tup [.int 3, .int 1])) r4 (.tup [.int 0, .int 2, .int 4])) r5 (.tup [.int 3])) t (.tup [.ref r1, .ref r2, .ref r3, .ref r4, .ref r5])) = H6 at *
      intro x dx nx ndx ne
      have s6 : Same H6 (upd (upd H6 dx (.own x)) x (.ins C dx [])) := (same_rfl.fresh ndx).fresh nx
      have lt5 : LT H6 t ls5 := lt_five e_t e_r1 e_r2 e_r3 e_r4 e_r5
      have en' : H6 n = some (.tup (VN ns5)) := by rw [VN5]; exact e_n
      refine ⟨x, dx, n, t, ns5, ls5, rfl, upd_same, s6 _ _ en', lt5.same s6, by decide, by decide, nok5, ok5, fun H7 W7 keep => ⟨rfl, gn ?_⟩⟩
      dsimp only [List.set]
      refine ⟨_, rfl, (by show 5 ≤ sizeLine; decide), fun u nu => ?_⟩
      have su := same_upd (o := .tup [.int 0, .int 1, .int 0, .int 1, .int 0]) nu
      refine ⟨x, u, ns5, ls5, sd5, 0, rfl, W7.same su, .inl upd_same, sided5, by decide, fun ra g1 H8 G1 s8 lt8 => ?_⟩
      obtain rfl := great_one G1 great5
      rw [side50] at lt8
      have W8 := (W7.same su).same s8
      refine ⟨(by show 2 ≤ sizeLine; decide), fun q1 nq1 => ⟨(by show 2 ≤ sizeLine; decide), fun q2 nq2 => ⟨(by show 2 ≤ sizeLine; decide), fun qt nqt => ?_⟩⟩⟩
      have sq1 := same_upd (o := .tup [.int 0, .int 1]) nq1
      have sq2 := same_upd (o := .tup [.int 2, .int 3]) nq2
      have sqt := same_upd (o := .tup [.ref q1, .ref q2]) nqt
      have ltq : LT (upd (upd (upd H8 q1 (.tup [.int 0, .int 1])) q2 (.tup [.int 2, .int 3])) qt (.tup [.ref q1, .ref q2])) qt [[0, 1], [2, 3]] := lt_two upd_same (sqt _ _ (sq2 _ _ upd_same)) (sqt _ _ upd_same)
      have s89 := sq1.trans (sq2.trans sqt)
      generalize upd (upd (upd H8 q1 (.tup [.int 0, .int 1])) q2 (.tup [.int 2, .int 3])) qt (.tup [.ref q1, .ref q2]) = H9 at ltq s89
      refine ⟨_, _, dp_dL (lt8.same s89), dp_dL ltq, sh_dL _, sh_dL _, false, congrArg V.bl (by rw [eq_dL]; rfl), iteF ?_⟩
      have W9 := W8.same s89
      refine ⟨_, rfl, (by show 5 ≤ sizeLine; decide), fun u2 nu2 => ?_⟩
      have su2 := same_upd (o := .tup [.int 0, .int 1, .int 0, .int 1, .int 0]) nu2
      refine ⟨x, u2, ns5, ls5, sd5, 1, rfl, W9.same su2, .inl upd_same, sided5, by decide, fun rb g2 Ha G2 sa lta => ?_⟩
      obtain rfl := great_one G2 great5
      rw [side51] at lta
      refine ⟨(by show 2 ≤ sizeLine; decide), fun v1 nv1 => ⟨(by show 2 ≤ sizeLine; decide), fun v2 nv2 => ⟨(by show 2 ≤ sizeLine; decide), fun vt nvt => ?_⟩⟩⟩
      have sv1 := same_upd (o := .tup [.int 0, .int 3]) nv1
      have sv2 := same_upd (o := .tup [.int 1, .int 2]) nv2
      have svt := same_upd (o := .tup [.ref v1, .ref v2]) nvt
      have ltv : LT (upd (upd (upd Ha v1 (.tup [.int 0, .int 3])) v2 (.tup [.int 1, .int 2])) vt (.tup [.ref v1, .ref v2])) vt [[0, 3], [1, 2]] := lt_two upd_same (svt _ _ (sv2 _ _ upd_same)) (svt _ _ upd_same)
      have sab := sv1.trans (sv2.trans svt)
      generalize upd (upd (upd Ha v1 (.tup [.int 0, .int 3])) v2 (.tup [.int 1, .int 2])) vt (.tup [.ref v1, .ref v2]) = Hb at ltv sab
      refine ⟨_, _, dp_dL (lta.same sab), dp_dL ltv, sh_dL _, sh_dL _, ?_⟩
      rw [eq_dL]
      refine ⟨true, rfl, iteT ?_⟩
      refine ⟨(by show 1 ≤ sizeLine; decide), fun nx1 nnx1 => ⟨(by show 0 ≤ sizeLine; decide), fun rx nrx => ⟨(by show 1 ≤ sizeLine; decide), fun tx ntx => ?_⟩⟩⟩
      have snx := same_upd (o := .tup [.str "x"]) nnx1
      have srx := same_upd (o := .tup []) nrx
      have stx := same_upd (o := .tup [.ref rx]) ntx
      have enx : (upd (upd (upd Hb nx1 (.tup [.str "x"])) rx (.tup [])) tx (.tup [.ref rx])) nx1 = some (.tup (VN ns1)) := by
        rw [VN1]
        exact stx _ _ (srx _ _ upd_same)
      have ltx : LT (upd (upd (upd Hb nx1 (.tup [.str "x"])) rx (.tup [])) tx (.tup [.ref rx])) tx ls1 := lt_one upd_same (stx _ _ upd_same)
      generalize upd (upd (upd Hb nx1 (.tup [.str "x"])) rx (.tup [])) tx (.tup [.ref rx]) = Hy at enx ltx
      intro x2 dx2 nx2 ndx2 ne2
      have s62 : Same Hy (upd (upd Hy dx2 (.own x2)) x2 (.ins C dx2 [])) := (same_rfl.fresh ndx2).fresh nx2
      refine ⟨x2, dx2, nx1, tx, ns1, ls1, rfl, upd_same, s62 _ _ enx, ltx.same s62, by decide, by decide, nok1, ok1, fun Hx Wx keepx => ⟨rfl, ?_⟩⟩
      refine ⟨(by show 1 ≤ sizeLine; decide), fun u3 nu3 => ?_⟩
      have su3 := same_upd (o := .tup [.int 1]) nu3
      refine ⟨x2, u3, ns1, ls1, [1], 1, rfl, Wx.same su3, .inl upd_same, sided1, by decide, fun rc g3 Hz G3 sz ltz => ?_⟩
      obtain rfl := great_one G3 great1
      rw [side11] at ltz
      refine ⟨(by show 0 ≤ sizeLine; decide), fun w3 nw3 => ?_⟩
      have sw3 := same_upd (o := .tup []) nw3
      refine ⟨_, _, dp_dL (ltz.same sw3), dp_dL (lt_nil upd_same), sh_dL _, sh_dL _, ?_⟩
      rw [eq_dL]
      exact q _
    · refine ⟨_, rfl, h, l, 4, rfl, src2, by decide, by decide, fun d H3 d0 d1 sr3 br3 => ⟨rfl, _, rfl, ?_⟩⟩
      cases hd : decide (V.int d = V.int 0) with
      | true => exact iteT ⟨_, rfl, h, l, rfl, sr3, fun Ha sra bra => ⟨true, rfl, iteF (out _ _ rfl)⟩⟩
      | false => exact iteF (iteF (out _ _ rfl))
end
end K14
namespace K14
open PySem PySem.Spec PyProof.Rows L2
theorem RunG.mono {P : Program} {w : World} {K : PySem.W.Frag} {mg : Str → Option Value} {base : Heap} {k j : Nat} {f : Addr} {fd : FuncData} {ps : List Str} {sp : Sp} (h : RunG P w K mg base k f fd ps sp) (le : k ≤ j) : RunG P w K mg base j f fd ps sp := fun A outer s H args us vs Q E hA r e b v p => h A outer s H args us vs Q E hA (r.mono le) e b v p
set_option maxHeartbeats 8000000 in
theorem all_mk {l : PySem.W.OpenLaw} {w : World} {K : PySem.W.Frag} {h : Heap} {mg : Str → Option Value} {fa C f1 f2 f3 f4 f5 f6 f7 f8 f9 f10 f11 f12 f13 f14 f15 f16 f17 f18 f19 f20 f21 f22 f23 f24 f25 f26 f27 f28 f29 f30 f31 f32 f33 f34 f35 f36 f37 f38 : Addr} {t_MOST_LETTERS t_MOST_PERSONS : Tok} (X : K.In h) (G : h.Ns mainGlobals mg) (hfa : mg "law" = some (.ref fa))
    {od1 an1 od2 an2 od3 an3 od4 an4 od5 an5 od6 an6 od7 an7 od8 an8 od9 an9 od10 an10 od11 an11 od12 an12 od13 an13 od14 an14 od15 an15 od16 an16 od17 an17 od18 an18 od19 an19 od20 an20 od21 an21 od22 an22 od23 an23 od24 an24 od25 an25 od26 an26 od27 an27 od28 an28 od29 an29 od30 an30 od31 an31 od32 an32 od33 an33 od34 an34 od35 an35 od36 an36 od37 an37 od38 an38 : Option Addr} {sl1 sl2 sl3 sl4 sl5 sl6 sl7 sl8 sl9 sl10 sl11 sl12 sl13 sl14 sl15 sl16 sl17 sl18 sl19 sl20 sl21 sl22 sl23 sl24 sl25 sl26 sl27 sl28 sl29 sl30 sl31 sl32 sl33 sl34 sl35 sl36 sl37 sl38 : Array (Option Value)} {oc1 kV1 dc1 pm1 cd1 ct1 oc2 kV2 dc2 pm2 cd2 ct2 oc3 kV3 dc3 pm3 cd3 ct3 oc4 kV4 dc4 pm4 cd4 ct4 oc5 kV5 dc5 pm5 cd5 ct5 oc6 kV6 dc6 pm6 cd6 ct6 oc7 kV7 dc7 pm7 cd7 ct7 oc8 kV8 dc8 pm8 cd8 ct8 oc9 kV9 dc9 pm9 cd9 ct9 oc10 kV10 dc10 pm10 cd10 ct10 oc11 kV11 dc11 pm11 cd11 ct11 oc12 kV12 dc12 pm12 cd12 ct12 oc13 kV13 dc13 pm13 cd13 ct13 oc14 kV14 dc14 pm14 cd14 ct14 oc15 kV15 dc15 pm15 cd15 ct15 oc16 kV16 dc16 pm16 cd16 ct16 oc17 kV17 dc17 pm17 cd17 ct17 oc18 kV18 dc18 pm18 cd18 ct18 oc19 kV19 dc19 pm19 cd19 ct19 oc20 kV20 dc20 pm20 cd20 ct20 oc21 kV21 dc21 pm21 cd21 ct21 oc22 kV22 dc22 pm22 cd22 ct22 oc23 kV23 dc23 pm23 cd23 ct23 oc24 kV24 dc24 pm24 cd24 ct24 oc25 kV25 dc25 pm25 cd25 ct25 oc26 kV26 dc26 pm26 cd26 ct26 oc27 kV27 dc27 pm27 cd27 ct27 oc28 kV28 dc28 pm28 cd28 ct28 oc29 kV29 dc29 pm29 cd29 ct29 oc30 kV30 dc30 pm30 cd30 ct30 oc31 kV31 dc31 pm31 cd31 ct31 oc32 kV32 dc32 pm32 cd32 ct32 oc33 kV33 dc33 pm33 cd33 ct33 oc34 kV34 dc34 pm34 cd34 ct34 oc35 kV35 dc35 pm35 cd35 ct35 oc36 kV36 dc36 pm36 cd36 ct36 oc37 kV37 dc37 pm37 cd37 ct37 oc38 kV38 dc38 pm38 cd38 ct38 : Value}
    (a1 : PySem.W.nsIn K mainGlobals "_law_draw" = some (some (.ref f1))) (l1 : K.lookup f1 = some ⟨oc1, od1, .func (PySem.W.fnOf "_law_draw" "_law_draw" (defArgs sDraw) (defBody sDraw) (defScope sDraw) .none kV1 dc1 pm1 an1 cd1 ct1), sl1⟩) (c1 : PySem.W.codeIn K cd1 "_law_draw" = true) (k1 : PySem.W.keepIn K (.ref f1) = true)
    (a2 : PySem.W.nsIn K mainGlobals "_law_pick" = some (some (.ref f2))) (l2 : K.lookup f2 = some ⟨oc2, od2, .func (PySem.W.fnOf "_law_pick" "_law_pick" (defArgs sPick) (defBody sPick) (defScope sPick) .none kV2 dc2 pm2 an2 cd2 ct2), sl2⟩) (c2 : PySem.W.codeIn K cd2 "_law_pick" = true) (k2 : PySem.W.keepIn K (.ref f2) = true)
    (a3 : PySem.W.nsIn K mainGlobals "_law_heap" = some (some (.ref f3))) (l3 : K.lookup f3 = some ⟨oc3, od3, .func (PySem.W.fnOf "_law_heap" "_law_heap" (defArgs sHeap) (defBody sHeap) (defScope sHeap) .none kV3 dc3 pm3 an3 cd3 ct3), sl3⟩) (c3 : PySem.W.codeIn K cd3 "_law_heap" = true) (k3 : PySem.W.keepIn K (.ref f3) = true)
    (a4 : PySem.W.nsIn K mainGlobals "_law_shuffled" = some (some (.ref f4))) (l4 : K.lookup f4 = some ⟨oc4, od4, .func (PySem.W.fnOf "_law_shuffled" "_law_shuffled" (defArgs sShuffled) (defBody sShuffled) (defScope sShuffled) .none kV4 dc4 pm4 an4 cd4 ct4), sl4⟩) (c4 : PySem.W.codeIn K cd4 "_law_shuffled" = true) (k4 : PySem.W.keepIn K (.ref f4) = true)
    (a5 : PySem.W.nsIn K mainGlobals "_law_names" = some (some (.ref f5))) (l5 : K.lookup f5 = some ⟨oc5, od5, .func (PySem.W.fnOf "_law_names" "_law_names" (defArgs sNames) (defBody sNames) (defScope sNames) .none kV5 dc5 pm5 an5 cd5 ct5), sl5⟩) (c5 : PySem.W.codeIn K cd5 "_law_names" = true) (k5 : PySem.W.keepIn K (.ref f5) = true)
    (a6 : PySem.W.nsIn K mainGlobals "is_number" = some (some (.ref f6))) (l6 : K.lookup f6 = some ⟨oc6, od6, .func (PySem.W.fnOf "is_number" "is_number" (defArgs sIsNumber) (defBody sIsNumber) (defScope sIsNumber) .none kV6 dc6 pm6 an6 cd6 ct6), sl6⟩) (c6 : PySem.W.codeIn K cd6 "is_number" = true) (k6 : PySem.W.keepIn K (.ref f6) = true)
    (a7 : PySem.W.nsIn K mainGlobals "is_below" = some (some (.ref f7))) (l7 : K.lookup f7 = some ⟨oc7, od7, .func (PySem.W.fnOf "is_below" "is_below" (defArgs sIsBelow) (defBody sIsBelow) (defScope sIsBelow) .none kV7 dc7 pm7 an7 cd7 ct7), sl7⟩) (c7 : PySem.W.codeIn K cd7 "is_below" = true) (k7 : PySem.W.keepIn K (.ref f7) = true)
    (a8 : PySem.W.nsIn K mainGlobals "is_tuple_of" = some (some (.ref f8))) (l8 : K.lookup f8 = some ⟨oc8, od8, .func (PySem.W.fnOf "is_tuple_of" "is_tuple_of" (defArgs sIsTupleOf) (defBody sIsTupleOf) (defScope sIsTupleOf) .none kV8 dc8 pm8 an8 cd8 ct8), sl8⟩) (c8 : PySem.W.codeIn K cd8 "is_tuple_of" = true) (k8 : PySem.W.keepIn K (.ref f8) = true)
    (a9 : PySem.W.nsIn K mainGlobals "is_name" = some (some (.ref f9))) (l9 : K.lookup f9 = some ⟨oc9, od9, .func (PySem.W.fnOf "is_name" "is_name" (defArgs sIsName) (defBody sIsName) (defScope sIsName) .none kV9 dc9 pm9 an9 cd9 ct9), sl9⟩) (c9 : PySem.W.codeIn K cd9 "is_name" = true) (k9 : PySem.W.keepIn K (.ref f9) = true)
    (a10 : PySem.W.nsIn K mainGlobals "are_persons" = some (some (.ref f10))) (l10 : K.lookup f10 = some ⟨oc10, od10, .func (PySem.W.fnOf "are_persons" "are_persons" (defArgs sArePersons) (defBody sArePersons) (defScope sArePersons) .none kV10 dc10 pm10 an10 cd10 ct10), sl10⟩) (c10 : PySem.W.codeIn K cd10 "are_persons" = true) (k10 : PySem.W.keepIn K (.ref f10) = true)
    (a11 : PySem.W.nsIn K mainGlobals "are_unlike_persons" = some (some (.ref f11))) (l11 : K.lookup f11 = some ⟨oc11, od11, .func (PySem.W.fnOf "are_unlike_persons" "are_unlike_persons" (defArgs sAreUnlike) (defBody sAreUnlike) (defScope sAreUnlike) .none kV11 dc11 pm11 an11 cd11 ct11), sl11⟩) (c11 : PySem.W.codeIn K cd11 "are_unlike_persons" = true) (k11 : PySem.W.keepIn K (.ref f11) = true)
    (a12 : PySem.W.nsIn K mainGlobals "_ranks_of_list" = some (some (.ref f12))) (l12 : K.lookup f12 = some ⟨oc12, od12, .func (PySem.W.fnOf "_ranks_of_list" "_ranks_of_list" (defArgs sRanksOfList) (defBody sRanksOfList) (defScope sRanksOfList) .none kV12 dc12 pm12 an12 cd12 ct12), sl12⟩) (c12 : PySem.W.codeIn K cd12 "_ranks_of_list" = true) (k12 : PySem.W.keepIn K (.ref f12) = true)
    (a13 : PySem.W.nsIn K mainGlobals "_ranks_of_lists" = some (some (.ref f13))) (l13 : K.lookup f13 = some ⟨oc13, od13, .func (PySem.W.fnOf "_ranks_of_lists" "_ranks_of_lists" (defArgs sRanksOfLists) (defBody sRanksOfLists) (defScope sRanksOfLists) .none kV13 dc13 pm13 an13 cd13 ct13), sl13⟩) (c13 : PySem.W.codeIn K cd13 "_ranks_of_lists" = true) (k13 : PySem.W.keepIn K (.ref f13) = true)
    (a14 : PySem.W.nsIn K mainGlobals "_are_names" = some (some (.ref f14))) (l14 : K.lookup f14 = some ⟨oc14, od14, .func (PySem.W.fnOf "_are_names" "_are_names" (defArgs sAreNames) (defBody sAreNames) (defScope sAreNames) .none kV14 dc14 pm14 an14 cd14 ct14), sl14⟩) (c14 : PySem.W.codeIn K cd14 "_are_names" = true) (k14 : PySem.W.keepIn K (.ref f14) = true)
    (a15 : PySem.W.nsIn K mainGlobals "_check_lists" = some (some (.ref f15))) (l15 : K.lookup f15 = some ⟨oc15, od15, .func (PySem.W.fnOf "_check_lists" "_check_lists" (defArgs sCheckLists) (defBody sCheckLists) (defScope sCheckLists) .none kV15 dc15 pm15 an15 cd15 ct15), sl15⟩) (c15 : PySem.W.codeIn K cd15 "_check_lists" = true) (k15 : PySem.W.keepIn K (.ref f15) = true)
    (a16 : PySem.W.nsIn K mainGlobals "_check_both_ways" = some (some (.ref f16))) (l16 : K.lookup f16 = some ⟨oc16, od16, .func (PySem.W.fnOf "_check_both_ways" "_check_both_ways" (defArgs sCheckBoth) (defBody sCheckBoth) (defScope sCheckBoth) .none kV16 dc16 pm16 an16 cd16 ct16), sl16⟩) (c16 : PySem.W.codeIn K cd16 "_check_both_ways" = true) (k16 : PySem.W.keepIn K (.ref f16) = true)
    (a17 : PySem.W.findIn K (.ref C) "__init__" = some (some (.ref f17))) (i17 : PySem.W.isFn K (.ref f17) = true) (l17 : K.lookup f17 = some ⟨oc17, od17, .func (PySem.W.fnOf "__init__" "Wishes.__init__" (defArgs sWInit) (defBody sWInit) (defScope sWInit) .none kV17 dc17 pm17 an17 cd17 ct17), sl17⟩) (c17 : PySem.W.codeIn K cd17 "Wishes.__init__" = true) (k17 : PySem.W.keepIn K (.ref f17) = true)
    (a18 : PySem.W.nsIn K mainGlobals "rank_of" = some (some (.ref f18))) (l18 : K.lookup f18 = some ⟨oc18, od18, .func (PySem.W.fnOf "rank_of" "rank_of" (defArgs sRankOf) (defBody sRankOf) (defScope sRankOf) .none kV18 dc18 pm18 an18 cd18 ct18), sl18⟩) (c18 : PySem.W.codeIn K cd18 "rank_of" = true) (k18 : PySem.W.keepIn K (.ref f18) = true)
    (a19 : PySem.W.nsIn K mainGlobals "ranks_in" = some (some (.ref f19))) (l19 : K.lookup f19 = some ⟨oc19, od19, .func (PySem.W.fnOf "ranks_in" "ranks_in" (defArgs sRanksIn) (defBody sRanksIn) (defScope sRanksIn) .none kV19 dc19 pm19 an19 cd19 ct19), sl19⟩) (c19 : PySem.W.codeIn K cd19 "ranks_in" = true) (k19 : PySem.W.keepIn K (.ref f19) = true)
    (a20 : PySem.W.nsIn K mainGlobals "held_ranks" = some (some (.ref f20))) (l20 : K.lookup f20 = some ⟨oc20, od20, .func (PySem.W.fnOf "held_ranks" "held_ranks" (defArgs sHeldRanks) (defBody sHeldRanks) (defScope sHeldRanks) .none kV20 dc20 pm20 an20 cd20 ct20), sl20⟩) (c20 : PySem.W.codeIn K cd20 "held_ranks" = true) (k20 : PySem.W.keepIn K (.ref f20) = true)
    (a21 : PySem.W.nsIn K mainGlobals "_left_list" = some (some (.ref f21))) (l21 : K.lookup f21 = some ⟨oc21, od21, .func (PySem.W.fnOf "_left_list" "_left_list" (defArgs sLeftList) (defBody sLeftList) (defScope sLeftList) .none kV21 dc21 pm21 an21 cd21 ct21), sl21⟩) (c21 : PySem.W.codeIn K cd21 "_left_list" = true) (k21 : PySem.W.keepIn K (.ref f21) = true)
    (a22 : PySem.W.nsIn K mainGlobals "left_lists" = some (some (.ref f22))) (l22 : K.lookup f22 = some ⟨oc22, od22, .func (PySem.W.fnOf "left_lists" "left_lists" (defArgs sLeftLists) (defBody sLeftLists) (defScope sLeftLists) .none kV22 dc22 pm22 an22 cd22 ct22), sl22⟩) (c22 : PySem.W.codeIn K cd22 "left_lists" = true) (k22 : PySem.W.keepIn K (.ref f22) = true)
    (a23 : PySem.W.nsIn K mainGlobals "first_left" = some (some (.ref f23))) (l23 : K.lookup f23 = some ⟨oc23, od23, .func (PySem.W.fnOf "first_left" "first_left" (defArgs sFirstLeft) (defBody sFirstLeft) (defScope sFirstLeft) .none kV23 dc23 pm23 an23 cd23 ct23), sl23⟩) (c23 : PySem.W.codeIn K cd23 "first_left" = true) (k23 : PySem.W.keepIn K (.ref f23) = true)
    (a24 : PySem.W.findIn K (.ref C) "__eq__" = some (some (.ref f24))) (i24 : PySem.W.isFn K (.ref f24) = true) (l24 : K.lookup f24 = some ⟨oc24, od24, .func (PySem.W.fnOf "__eq__" "Wishes.__eq__" (defArgs sWEq) (defBody sWEq) (defScope sWEq) .none kV24 dc24 pm24 an24 cd24 ct24), sl24⟩) (c24 : PySem.W.codeIn K cd24 "Wishes.__eq__" = true) (k24 : PySem.W.keepIn K (.ref f24) = true)
    (a25 : PySem.W.nsIn K mainGlobals "_law_rank" = some (some (.ref f25))) (l25 : K.lookup f25 = some ⟨oc25, od25, .func (PySem.W.fnOf "_law_rank" "_law_rank" (defArgs sRank) (defBody sRank) (defScope sRank) .none kV25 dc25 pm25 an25 cd25 ct25), sl25⟩) (c25 : PySem.W.codeIn K cd25 "_law_rank" = true) (k25 : PySem.W.keepIn K (.ref f25) = true)
    (a26 : PySem.W.nsIn K mainGlobals "no_holds" = some (some (.ref f26))) (l26 : K.lookup f26 = some ⟨oc26, od26, .func (PySem.W.fnOf "no_holds" "no_holds" (defArgs sNoHolds) (defBody sNoHolds) (defScope sNoHolds) .none kV26 dc26 pm26 an26 cd26 ct26), sl26⟩) (c26 : PySem.W.codeIn K cd26 "no_holds" = true) (k26 : PySem.W.keepIn K (.ref f26) = true)
    (a27 : PySem.W.nsIn K mainGlobals "held_ranks" = some (some (.ref f27))) (l27 : K.lookup f27 = some ⟨oc27, od27, .func (PySem.W.fnOf "held_ranks" "held_ranks" (defArgs sHeldRanks) (defBody sHeldRanks) (defScope sHeldRanks) .none kV27 dc27 pm27 an27 cd27 ct27), sl27⟩) (c27 : PySem.W.codeIn K cd27 "held_ranks" = true) (k27 : PySem.W.keepIn K (.ref f27) = true)
    (a28 : PySem.W.nsIn K mainGlobals "asked_out" = some (some (.ref f28))) (l28 : K.lookup f28 = some ⟨oc28, od28, .func (PySem.W.fnOf "asked_out" "asked_out" (defArgs sAskedOut) (defBody sAskedOut) (defScope sAskedOut) .none kV28 dc28 pm28 an28 cd28 ct28), sl28⟩) (c28 : PySem.W.codeIn K cd28 "asked_out" = true) (k28 : PySem.W.keepIn K (.ref f28) = true)
    (a29 : PySem.W.nsIn K mainGlobals "ends_left" = some (some (.ref f29))) (l29 : K.lookup f29 = some ⟨oc29, od29, .func (PySem.W.fnOf "ends_left" "ends_left" (defArgs sEndsLeft) (defBody sEndsLeft) (defScope sEndsLeft) .none kV29 dc29 pm29 an29 cd29 ct29), sl29⟩) (c29 : PySem.W.codeIn K cd29 "ends_left" = true) (k29 : PySem.W.keepIn K (.ref f29) = true)
    (a30 : PySem.W.nsIn K mainGlobals "pair_of" = some (some (.ref f30))) (l30 : K.lookup f30 = some ⟨oc30, od30, .func (PySem.W.fnOf "pair_of" "pair_of" (defArgs sPairOf) (defBody sPairOf) (defScope sPairOf) .none kV30 dc30 pm30 an30 cd30 ct30), sl30⟩) (c30 : PySem.W.codeIn K cd30 "pair_of" = true) (k30 : PySem.W.keepIn K (.ref f30) = true)
    (a31 : PySem.W.nsIn K mainGlobals "side_pairing" = some (some (.ref f31))) (l31 : K.lookup f31 = some ⟨oc31, od31, .func (PySem.W.fnOf "side_pairing" "side_pairing" (defArgs sSidePairing) (defBody sSidePairing) (defScope sSidePairing) .none kV31 dc31 pm31 an31 cd31 ct31), sl31⟩) (c31 : PySem.W.codeIn K cd31 "side_pairing" = true) (k31 : PySem.W.keepIn K (.ref f31) = true)
    (a32 : PySem.W.nsIn K mainGlobals "_law_between" = some (some (.ref f32))) (l32 : K.lookup f32 = some ⟨oc32, od32, .func (PySem.W.fnOf "_law_between" "_law_between" (defArgs sLBetween) (defBody sLBetween) (defScope sLBetween) .none kV32 dc32 pm32 an32 cd32 ct32), sl32⟩) (c32 : PySem.W.codeIn K cd32 "_law_between" = true) (k32 : PySem.W.keepIn K (.ref f32) = true)
    (a33 : PySem.W.nsIn K mainGlobals "_law_pairings" = some (some (.ref f33))) (l33 : K.lookup f33 = some ⟨oc33, od33, .func (PySem.W.fnOf "_law_pairings" "_law_pairings" (defArgs sLPairings) (defBody sLPairings) (defScope sLPairings) .none kV33 dc33 pm33 an33 cd33 ct33), sl33⟩) (c33 : PySem.W.codeIn K cd33 "_law_pairings" = true) (k33 : PySem.W.keepIn K (.ref f33) = true)
    (a34 : PySem.W.nsIn K mainGlobals "_law_lasts" = some (some (.ref f34))) (l34 : K.lookup f34 = some ⟨oc34, od34, .func (PySem.W.fnOf "_law_lasts" "_law_lasts" (defArgs sLLasts) (defBody sLLasts) (defScope sLLasts) .none kV34 dc34 pm34 an34 cd34 ct34), sl34⟩) (c34 : PySem.W.codeIn K cd34 "_law_lasts" = true) (k34 : PySem.W.keepIn K (.ref f34) = true)
    (a35 : PySem.W.nsIn K mainGlobals "_law_ladder" = some (some (.ref f35))) (l35 : K.lookup f35 = some ⟨oc35, od35, .func (PySem.W.fnOf "_law_ladder" "_law_ladder" (defArgs sLLadder) (defBody sLLadder) (defScope sLLadder) .none kV35 dc35 pm35 an35 cd35 ct35), sl35⟩) (c35 : PySem.W.codeIn K cd35 "_law_ladder" = true) (k35 : PySem.W.keepIn K (.ref f35) = true)
    (a36 : PySem.W.nsIn K mainGlobals "_law_side_right" = some (some (.ref f36))) (l36 : K.lookup f36 = some ⟨oc36, od36, .func (PySem.W.fnOf "_law_side_right" "_law_side_right" (defArgs sLSideRight) (defBody sLSideRight) (defScope sLSideRight) .none kV36 dc36 pm36 an36 cd36 ct36), sl36⟩) (c36 : PySem.W.codeIn K cd36 "_law_side_right" = true) (k36 : PySem.W.keepIn K (.ref f36) = true)
    (a37 : PySem.W.nsIn K mainGlobals "_law_great_right" = some (some (.ref f37))) (l37 : K.lookup f37 = some ⟨oc37, od37, .func (PySem.W.fnOf "_law_great_right" "_law_great_right" (defArgs sGreatRight) (defBody sGreatRight) (defScope sGreatRight) .none kV37 dc37 pm37 an37 cd37 ct37), sl37⟩) (c37 : PySem.W.codeIn K cd37 "_law_great_right" = true) (k37 : PySem.W.keepIn K (.ref f37) = true)
    (a38 : PySem.W.nsIn K mainGlobals "law" = some (some (.ref f38))) (l38 : K.lookup f38 = some ⟨oc38, od38, .func (PySem.W.fnOf "law" "law" (defArgs sLaw) (defBody sLaw) (defScope sLaw) .none kV38 dc38 pm38 an38 cd38 ct38), sl38⟩) (c38 : PySem.W.codeIn K cd38 "law" = true) (k38 : PySem.W.keepIn K (.ref f38) = true)
    (aC : PySem.W.nsIn K mainGlobals "Wishes" = some (some (.ref C))) (pg : PySem.W.plainGet K C Str.empty = true) (hd : PySem.W.hasDictIn K C = true) (po : PySem.W.plainOver K C = true) (sa : PySem.W.findIn K (.ref C) "__setattr__" = some (some (.builtin "object.__setattr__"))) (mk : PySem.W.makesIn K C = true) (kc : PySem.W.keepIn K (.ref C) = true)
    (nA0 : PySem.W.findIn K (.ref C) "names" = some none)    (nA1 : PySem.W.findIn K (.ref C) "lists" = some none)    (nA2 : PySem.W.findIn K (.ref C) "_ranks" = some none)
    (ic1 : PySem.W.findIn K (.ref C) "__class__" = some (some (.builtin "object.__class__"))) (ic2 : PySem.W.specialIn K (.builtin "object.__class__") "__get__" = some (some (.builtin "getset_descriptor.__get__"))) (ic3 : PySem.W.takesIn K (.builtin "object.__class__") = some true) (ic4 : PySem.W.mroIn K C (.type "object") = some true)
    (z_int : PySem.W.nsIn K mainGlobals "int" = some none)    (z_len : PySem.W.nsIn K mainGlobals "len" = some none)    (z_abs : PySem.W.nsIn K mainGlobals "abs" = some none)    (z_range : PySem.W.nsIn K mainGlobals "range" = some none)    (z_list : PySem.W.nsIn K mainGlobals "list" = some none)    (z_tuple : PySem.W.nsIn K mainGlobals "tuple" = some none)    (z_sorted : PySem.W.nsIn K mainGlobals "sorted" = some none)    (z_isinstance : PySem.W.nsIn K mainGlobals "isinstance" = some none)    (z_bool : PySem.W.nsIn K mainGlobals "bool" = some none)    (z_str : PySem.W.nsIn K mainGlobals "str" = some none)    (z_all : PySem.W.nsIn K mainGlobals "all" = some none)    (z_set : PySem.W.nsIn K mainGlobals "set" = some none)    (z_enumerate : PySem.W.nsIn K mainGlobals "enumerate" = some none)    (z_min : PySem.W.nsIn K mainGlobals "min" = some none)    (z_max : PySem.W.nsIn K mainGlobals "max" = some none)    (z_repr : PySem.W.nsIn K mainGlobals "repr" = some none)    (zi_MOST_LETTERS : PySem.W.nsIn K mainGlobals "MOST_LETTERS" = some (some (.int 6 t_MOST_LETTERS)))    (zi_MOST_PERSONS : PySem.W.nsIn K mainGlobals "MOST_PERSONS" = some (some (.int 60 t_MOST_PERSONS))) :
    ∃ fd : FuncData, (∀ (s : Shared) (v : Value), BindsTo s fd ⟨[v], []⟩ [("script", v)]) ∧ ∀ base : Heap, K.In base → base.Ns mainGlobals mg → RunG l.prog w K mg base 9 fa fd ["script"] (spLaw K) := by
  have e := hfa.symm.trans (PySem.W.mg_of X G a38)
  cases e
  have T : Txt K mg C := ⟨⟨pg, hd, po, sa⟩, nA0, nA1, nA2, PySem.W.mg_of X G aC⟩
  have M : Mk K C f17 := ⟨mk, a17, i17, kc⟩
  have IC : C8.InsC K C := ⟨⟨pg, hd, po, sa⟩, ic1, ic2, ic3, ic4, if_pos (beq_self_eq_true _)⟩
  have F1 := fun_mk (st := sDraw) l1 c1 k1
  have F2 := fun_mk (st := sPick) l2 c2 k2
  have F3 := fun_mk (st := sHeap) l3 c3 k3
  have F4 := fun_mk (st := sShuffled) l4 c4 k4
  have F5 := fun_mk (st := sNames) l5 c5 k5
  have F6 := fun_mk (st := sIsNumber) l6 c6 k6
  have F7 := fun_mk (st := sIsBelow) l7 c7 k7
  have F8 := fun_mk (st := sIsTupleOf) l8 c8 k8
  have F9 := fun_mk (st := sIsName) l9 c9 k9
  have F10 := fun_mk (st := sArePersons) l10 c10 k10
  have F11 := fun_mk (st := sAreUnlike) l11 c11 k11
  have F12 := fun_mk (st := sRanksOfList) l12 c12 k12
  have F13 := fun_mk (st := sRanksOfLists) l13 c13 k13
  have F14 := fun_mk (st := sAreNames) l14 c14 k14
  have F15 := fun_mk (st := sCheckLists) l15 c15 k15
  have F16 := fun_mk (st := sCheckBoth) l16 c16 k16
  have F17 := fun_mk (st := sWInit) l17 c17 k17
  have F18 := fun_mk (st := sRankOf) l18 c18 k18
  have F19 := fun_mk (st := sRanksIn) l19 c19 k19
  have F20 := fun_mk (st := sHeldRanks) l20 c20 k20
  have F21 := fun_mk (st := sLeftList) l21 c21 k21
  have F22 := fun_mk (st := sLeftLists) l22 c22 k22
  have F23 := fun_mk (st := sFirstLeft) l23 c23 k23
  have F24 := fun_mk (st := sWEq) l24 c24 k24
  have F25 := fun_mk (st := sRank) l25 c25 k25
  have F26 := fun_mk (st := sNoHolds) l26 c26 k26
  have F27 := fun_mk (st := sHeldRanks) l27 c27 k27
  have F28 := fun_mk (st := sAskedOut) l28 c28 k28
  have F29 := fun_mk (st := sEndsLeft) l29 c29 k29
  have F30 := fun_mk (st := sPairOf) l30 c30 k30
  have F31 := fun_mk (st := sSidePairing) l31 c31 k31
  have F32 := fun_mk (st := sLBetween) l32 c32 k32
  have F33 := fun_mk (st := sLPairings) l33 c33 k33
  have F34 := fun_mk (st := sLLasts) l34 c34 k34
  have F35 := fun_mk (st := sLLadder) l35 c35 k35
  have F36 := fun_mk (st := sLSideRight) l36 c36 k36
  have F37 := fun_mk (st := sGreatRight) l37 c37 k37
  have F38 := fun_mk (st := sLaw) l38 c38 k38
  have b1 := F1.binds (ps := ["heap", "many"]) fun _ _ _ _ _ _ us hl => match us, hl with | [_, _], _ => rfl
  have b2 := F2.binds (ps := ["heap", "some"]) fun _ _ _ _ _ _ us hl => match us, hl with | [_, _], _ => rfl
  have b3 := F3.binds (ps := ["script"]) fun _ _ _ _ _ _ us hl => match us, hl with | [_], _ => rfl
  have b4 := F4.binds (ps := ["heap", "some"]) fun _ _ _ _ _ _ us hl => match us, hl with | [_, _], _ => rfl
  have b5 := F5.binds (ps := ["heap", "many"]) fun _ _ _ _ _ _ us hl => match us, hl with | [_, _], _ => rfl
  have b6 := F6.binds (ps := ["value"]) fun _ _ _ _ _ _ us hl => match us, hl with | [_], _ => rfl
  have b7 := F7.binds (ps := ["value", "bound"]) fun _ _ _ _ _ _ us hl => match us, hl with | [_, _], _ => rfl
  have b8 := F8.binds (ps := ["value", "many"]) fun _ _ _ _ _ _ us hl => match us, hl with | [_, _], _ => rfl
  have b9 := F9.binds (ps := ["value"]) fun _ _ _ _ _ _ us hl => match us, hl with | [_], _ => rfl
  have b10 := F10.binds (ps := ["value", "many"]) fun _ _ _ _ _ _ us hl => match us, hl with | [_, _], _ => rfl
  have b11 := F11.binds (ps := ["value", "many"]) fun _ _ _ _ _ _ us hl => match us, hl with | [_, _], _ => rfl
  have b12 := F12.binds (ps := ["some", "many"]) fun _ _ _ _ _ _ us hl => match us, hl with | [_, _], _ => rfl
  have b13 := F13.binds (ps := ["lists"]) fun _ _ _ _ _ _ us hl => match us, hl with | [_], _ => rfl
  have b14 := F14.binds (ps := ["value"]) fun _ _ _ _ _ _ us hl => match us, hl with | [_], _ => rfl
  have b15 := F15.binds (ps := ["lists"]) fun _ _ _ _ _ _ us hl => match us, hl with | [_], _ => rfl
  have b16 := F16.binds (ps := ["lists", "ranks"]) fun _ _ _ _ _ _ us hl => match us, hl with | [_, _], _ => rfl
  have b17 := F17.binds (ps := ["self", "names", "lists"]) fun _ _ _ _ _ _ us hl => match us, hl with | [_, _, _], _ => rfl
  have b18 := F18.binds (ps := ["wishes", "person", "other"]) fun _ _ _ _ _ _ us hl => match us, hl with | [_, _, _], _ => rfl
  have b19 := F19.binds (ps := ["wishes"]) fun _ _ _ _ _ _ us hl => match us, hl with | [_], _ => rfl
  have b20 := F20.binds (ps := ["wishes", "holds"]) fun _ _ _ _ _ _ us hl => match us, hl with | [_, _], _ => rfl
  have b21 := F21.binds (ps := ["wishes", "most", "person"]) fun _ _ _ _ _ _ us hl => match us, hl with | [_, _, _], _ => rfl
  have b22 := F22.binds (ps := ["wishes", "holds"]) fun _ _ _ _ _ _ us hl => match us, hl with | [_, _], _ => rfl
  have b23 := F23.binds (ps := ["wishes", "most", "person"]) fun _ _ _ _ _ _ us hl => match us, hl with | [_, _, _], _ => rfl
  have b24 := F24.binds (ps := ["self", "other"]) fun _ _ _ _ _ _ us hl => match us, hl with | [_, _], _ => rfl
  have b25 := F25.binds (ps := ["lists", "person", "other"]) fun _ _ _ _ _ _ us hl => match us, hl with | [_, _, _], _ => rfl
  have b26 := F26.binds (ps := ["wishes"]) fun _ _ _ _ _ _ us hl => match us, hl with | [_], _ => rfl
  have b27 := F27.binds (ps := ["wishes", "holds"]) fun _ _ _ _ _ _ us hl => match us, hl with | [_, _], _ => rfl
  have b28 := F28.binds (ps := ["wishes"]) fun _ _ _ _ _ _ us hl => match us, hl with | [_], _ => rfl
  have b29 := F29.binds (ps := ["wishes"]) fun _ _ _ _ _ _ us hl => match us, hl with | [_], _ => rfl
  have b30 := F30.binds (ps := ["one", "other"]) fun _ _ _ _ _ _ us hl => match us, hl with | [_, _], _ => rfl
  have b31 := F31.binds (ps := ["wishes", "sides", "side"]) fun _ _ _ _ _ _ us hl => match us, hl with | [_, _, _], _ => rfl
  have n31 := named3 (n := "wishes") (m := "sides") (o := "side") F31 (fun _ _ _ _ _ _ _ _ _ => rfl) (fun _ _ _ _ _ _ _ _ _ => rfl) (fun _ _ _ _ _ _ _ _ _ => rfl) (fun _ _ _ _ _ _ _ _ _ => rfl)
  have b32 := F32.binds (ps := ["heap", "sides", "share"]) fun _ _ _ _ _ _ us hl => match us, hl with | [_, _, _], _ => rfl
  have b33 := F33.binds (ps := ["lists"]) fun _ _ _ _ _ _ us hl => match us, hl with | [_], _ => rfl
  have b34 := F34.binds (ps := ["lists", "mates"]) fun _ _ _ _ _ _ us hl => match us, hl with | [_, _], _ => rfl
  have b35 := F35.binds (ps := ["heap"]) fun _ _ _ _ _ _ us hl => match us, hl with | [_], _ => rfl
  have b36 := F36.binds (ps := ["wishes", "lists", "sides", "lasting", "side"]) fun _ _ _ _ _ _ us hl => match us, hl with | [_, _, _, _, _], _ => rfl
  have b37 := F37.binds (ps := ["heap"]) fun _ _ _ _ _ _ us hl => match us, hl with | [_], _ => rfl
  have m_int := PySem.W.mg_none_of X G z_int
  have m_len := PySem.W.mg_none_of X G z_len
  have m_abs := PySem.W.mg_none_of X G z_abs
  have m_range := PySem.W.mg_none_of X G z_range
  have m_list := PySem.W.mg_none_of X G z_list
  have m_tuple := PySem.W.mg_none_of X G z_tuple
  have m_sorted := PySem.W.mg_none_of X G z_sorted
  have m_isinstance := PySem.W.mg_none_of X G z_isinstance
  have m_bool := PySem.W.mg_none_of X G z_bool
  have m_str := PySem.W.mg_none_of X G z_str
  have m_all := PySem.W.mg_none_of X G z_all
  have m_set := PySem.W.mg_none_of X G z_set
  have m_enumerate := PySem.W.mg_none_of X G z_enumerate
  have m_min := PySem.W.mg_none_of X G z_min
  have m_max := PySem.W.mg_none_of X G z_max
  have m_repr := PySem.W.mg_none_of X G z_repr
  have mi_MOST_LETTERS := PySem.W.mg_of X G zi_MOST_LETTERS
  have mi_MOST_PERSONS := PySem.W.mg_of X G zi_MOST_PERSONS
  have m1 := PySem.W.mg_of X G a1
  have m2 := PySem.W.mg_of X G a2
  have m3 := PySem.W.mg_of X G a3
  have m4 := PySem.W.mg_of X G a4
  have m5 := PySem.W.mg_of X G a5
  have m6 := PySem.W.mg_of X G a6
  have m7 := PySem.W.mg_of X G a7
  have m8 := PySem.W.mg_of X G a8
  have m9 := PySem.W.mg_of X G a9
  have m10 := PySem.W.mg_of X G a10
  have m11 := PySem.W.mg_of X G a11
  have m12 := PySem.W.mg_of X G a12
  have m13 := PySem.W.mg_of X G a13
  have m14 := PySem.W.mg_of X G a14
  have m15 := PySem.W.mg_of X G a15
  have m16 := PySem.W.mg_of X G a16
  have m18 := PySem.W.mg_of X G a18
  have m19 := PySem.W.mg_of X G a19
  have m20 := PySem.W.mg_of X G a20
  have m21 := PySem.W.mg_of X G a21
  have m22 := PySem.W.mg_of X G a22
  have m23 := PySem.W.mg_of X G a23
  have m25 := PySem.W.mg_of X G a25
  have m26 := PySem.W.mg_of X G a26
  have m27 := PySem.W.mg_of X G a27
  have m28 := PySem.W.mg_of X G a28
  have m29 := PySem.W.mg_of X G a29
  have m30 := PySem.W.mg_of X G a30
  have m31 := PySem.W.mg_of X G a31
  have m32 := PySem.W.mg_of X G a32
  have m33 := PySem.W.mg_of X G a33
  have m34 := PySem.W.mg_of X G a34
  have m35 := PySem.W.mg_of X G a35
  have m36 := PySem.W.mg_of X G a36
  have m37 := PySem.W.mg_of X G a37
  refine ⟨PySem.W.fnOf "law" "law" (defArgs sLaw) (defBody sLaw) (defScope sLaw) .none kV38 dc38 pm38 an38 cd38 ct38, fun s v => .of_eq rfl, fun base _ _ => ?_⟩
  have g1 := ok_draw (P := l.prog) (w := w) (mg := mg) (base := base) (k := 0) F1 m_int
  have g2 := ok_pick (P := l.prog) (w := w) (mg := mg) (base := base) (k := 1) F2 (g1.mono (by decide)) b1 k1 m1 m_len
  have g3 := ok_heap (P := l.prog) (w := w) (mg := mg) (base := base) (k := 0) F3 m_int m_abs
  have g4 := ok_shuffled (P := l.prog) (w := w) (mg := mg) (base := base) (k := 1) F4 (g1.mono (by decide)) b1 k1 m1 m_len m_range m_list m_tuple
  have g5 := ok_names (P := l.prog) (w := w) (mg := mg) (base := base) (k := 2) F5 (g1.mono (by decide)) b1 k1 m1 (g2.mono (by decide)) b2 k2 m2 m_int m_len m_range m_sorted m_tuple
  have g6 := ok_is_number (P := l.prog) (w := w) (mg := mg) (base := base) (k := 0) F6 m_isinstance m_int m_bool
  have g7 := ok_is_below (P := l.prog) (w := w) (mg := mg) (base := base) (k := 1) F7 (g6.mono (by decide)) b6 k6 m6
  have g8 := ok_is_tuple_of (P := l.prog) (w := w) (mg := mg) (base := base) (k := 0) F8 m_isinstance m_tuple m_len
  have g9 := ok_is_name (P := l.prog) (w := w) (mg := mg) (base := base) (k := 0) F9 m_isinstance m_str m_len m_all mi_MOST_LETTERS
  have g10 := ok_are_persons (P := l.prog) (w := w) (mg := mg) (base := base) (k := 2) F10 (g7.mono (by decide)) b7 k7 m7 m_isinstance m_tuple m_all
  have g11 := ok_are_unlike (P := l.prog) (w := w) (mg := mg) (base := base) (k := 3) F11 (g10.mono (by decide)) b10 k10 m10 m_len m_set
  have g12 := ok_ranks_of_list (P := l.prog) (w := w) (mg := mg) (base := base) (k := 0) F12 m_enumerate m_tuple
  have g13 := ok_ranks_of_lists (P := l.prog) (w := w) (mg := mg) (base := base) (k := 1) F13 (g12.mono (by decide)) b12 k12 m12 m_len m_tuple
  have g14 := ok_are_names (P := l.prog) (w := w) (mg := mg) (base := base) (k := 1) F14 (g9.mono (by decide)) b9 k9 m9 m_isinstance m_tuple m_len m_all m_range mi_MOST_PERSONS
  have g15 := ok_check_lists (P := l.prog) (w := w) (mg := mg) (base := base) (k := 4) F15 (g11.mono (by decide)) b11 k11 m11 m_enumerate m_len
  have g16 := ok_check_both (P := l.prog) (w := w) (mg := mg) (base := base) (k := 0) F16 m_enumerate
  have g17 := ok_winit (P := l.prog) (w := w) (mg := mg) (base := base) (k := 5) F17 T (g14.mono (by decide)) b14 k14 m14 (g8.mono (by decide)) b8 k8 m8 (g15.mono (by decide)) b15 k15 m15 (g13.mono (by decide)) b13 k13 m13 (g16.mono (by decide)) b16 k16 m16 m_len
  have g18 := ok_rank_of (P := l.prog) (w := w) (mg := mg) (base := base) (k := 0) F18 T m_len
  have g19 := ok_ranks_in (P := l.prog) (w := w) (mg := mg) (base := base) (k := 0) F19 T
  have g20 := ok_held_ranks (P := l.prog) (w := w) (mg := mg) (base := base) (k := 1) F20 (g18.mono (by decide)) b18 k18 m18 m_tuple m_enumerate
  have g21 := ok_left_list (P := l.prog) (w := w) (mg := mg) (base := base) (k := 1) F21 T (g19.mono (by decide)) b19 k19 m19 m_tuple
  have g22 := ok_left_lists (P := l.prog) (w := w) (mg := mg) (base := base) (k := 2) F22 (g20.mono (by decide)) b20 k20 m20 (g21.mono (by decide)) b21 k21 m21 m_tuple m_len m_range
  have g23 := ok_first_left (P := l.prog) (w := w) (mg := mg) (base := base) (k := 1) F23 T (g19.mono (by decide)) b19 k19 m19
  have g24 := ok_weq (P := l.prog) (w := w) (mg := mg) (base := base) (k := 0) F24 T IC m_isinstance
  have g25 := ok_rank (P := l.prog) (w := w) (mg := mg) (base := base) (k := 0) F25 m_len
  have g26 := ok_no_holds (P := l.prog) (w := w) (mg := mg) (base := base) (k := 0) F26 T m_len
  have g27 := ok_held_ranksL (P := l.prog) (w := w) (mg := mg) (base := base) (k := 1) F27 (g18.mono (by decide)) b18 k18 m18 m_tuple m_enumerate
  have g28 := ok_asked_out (P := l.prog) (w := w) (mg := mg) (base := base) (k := 2) F28 (g26.mono (by decide)) b26 k26 m26 (g27.mono (by decide)) b27 k27 m27 (g23.mono (by decide)) b23 k23 m23 (g18.mono (by decide)) b18 k18 m18 m_list m_len m_range m_tuple
  have g29 := ok_ends_left (P := l.prog) (w := w) (mg := mg) (base := base) (k := 3) F29 (g22.mono (by decide)) b22 k22 m22 (g28.mono (by decide)) b28 k28 m28 m_tuple
  have g30 := ok_pair_of (P := l.prog) (w := w) (mg := mg) (base := base) (k := 0) F30 m_min m_max
  have g31 := ok_side_pairing (P := l.prog) (w := w) (mg := mg) (base := base) (k := 4) F31 (g29.mono (by decide)) b29 k29 m29 (g30.mono (by decide)) b30 k30 m30 m_enumerate m_tuple m_sorted
  have g32 := ok_between (P := l.prog) (w := w) (mg := mg) (base := base) (k := 2) F32 (g1.mono (by decide)) b1 k1 m1 (g4.mono (by decide)) b4 k4 m4 m_range m_tuple m_len
  have g33 := ok_pairings (P := l.prog) (w := w) (mg := mg) (base := base) (k := 0) F33 m_len m_range
  have g34 := ok_lasts (P := l.prog) (w := w) (mg := mg) (base := base) (k := 1) F34 (g25.mono (by decide)) b25 k25 m25 m_len m_range
  have g35 := ok_ladder (P := l.prog) (w := w) (mg := mg) (base := base) (k := 1) F35 (g1.mono (by decide)) b1 k1 m1 m_range m_tuple m_int
  have g36 := ok_side_right (P := l.prog) (w := w) (mg := mg) (base := base) (k := 5) F36 ⟨(g25.mono (by decide)), b25, k25, m25⟩ ⟨(g31.mono (by decide)), b31, k31, m31⟩ n31 m_len m_range m_min m_max m_tuple m_repr
  have g37 := ok_great_right (P := l.prog) (w := w) (mg := mg) (base := base) (k := 5) F37 T M (g17.mono (by decide)) b17 ⟨(g4.mono (by decide)), b4, k4, m4⟩ ⟨(g1.mono (by decide)), b1, k1, m1⟩ ⟨(g32.mono (by decide)), b32, k32, m32⟩ ⟨(g2.mono (by decide)), b2, k2, m2⟩ ⟨(g25.mono (by decide)), b25, k25, m25⟩ ⟨(g5.mono (by decide)), b5, k5, m5⟩ ⟨(g31.mono (by decide)), b31, k31, m31⟩ m_len m_range m_min m_max m_tuple m_sorted m_repr
  exact ok_law (P := l.prog) (w := w) (mg := mg) (base := base) (k := 5) F38 T M (g17.mono (by decide)) b17 ⟨(g3.mono (by decide)), b3, k3, m3⟩ ⟨(g1.mono (by decide)), b1, k1, m1⟩ ⟨(g35.mono (by decide)), b35, k35, m35⟩ ⟨(g4.mono (by decide)), b4, k4, m4⟩ ⟨(g2.mono (by decide)), b2, k2, m2⟩ ⟨(g32.mono (by decide)), b32, k32, m32⟩ ⟨(g5.mono (by decide)), b5, k5, m5⟩ ⟨(g33.mono (by decide)), b33, k33, m33⟩ ⟨(g34.mono (by decide)), b34, k34, m34⟩ ⟨(g31.mono (by decide)), b31, k31, m31⟩ ⟨(g36.mono (by decide)), b36, k36, m36⟩ ⟨(g37.mono (by decide)), b37, k37, m37⟩ m_len m_int m_range m_tuple
end K14
open PySem PySem.W PyProof.Rows
set_option maxHeartbeats 0 in
theorem PySem.Challenge.cw_lastpairs_k18_whole_best_for_a_side_holds : PySem.Challenge.rw_lastpairs_k18_whole_best_for_a_side.Holds := by
  w_on; o_law; k_head; (case hw => w_witness2)
  k_fill
  refine K14.walkG (l := PySem.Challenge.rw_lastpairs_k18_whole_best_for_a_side) (n := 63) (k := 9) (x := "script") (sp := K14.spLaw) rfl (by decide) rfl ⟨rfl, by decide, by decide⟩ (fun w h Y => PySem.W.kIn_of Y) ?F (fun _ _ a ns hl hS => ⟨a, ns, rfl, hS, hl, fun _ => rfl⟩)
  case F =>
    intro w mg fa h KX G hmg
    refine' K14.all_mk KX G hmg ?a1 ?l1 ?c1 ?k1 ?a2 ?l2 ?c2 ?k2 ?a3 ?l3 ?c3 ?k3 ?a4 ?l4 ?c4 ?k4 ?a5 ?l5 ?c5 ?k5 ?a6 ?l6 ?c6 ?k6 ?a7 ?l7 ?c7 ?k7 ?a8 ?l8 ?c8 ?k8 ?a9 ?l9 ?c9 ?k9 ?a10 ?l10 ?c10 ?k10 ?a11 ?l11 ?c11 ?k11 ?a12 ?l12 ?c12 ?k12 ?a13 ?l13 ?c13 ?k13 ?a14 ?l14 ?c14 ?k14 ?a15 ?l15 ?c15 ?k15 ?a16 ?l16 ?c16 ?k16 ?a17 ?i17 ?l17 ?c17 ?k17 ?a18 ?l18 ?c18 ?k18 ?a19 ?l19 ?c19 ?k19 ?a20 ?l20 ?c20 ?k20 ?a21 ?l21 ?c21 ?k21 ?a22 ?l22 ?c22 ?k22 ?a23 ?l23 ?c23 ?k23 ?a24 ?i24 ?l24 ?c24 ?k24 ?a25 ?l25 ?c25 ?k25 ?a26 ?l26 ?c26 ?k26 ?a27 ?l27 ?c27 ?k27 ?a28 ?l28 ?c28 ?k28 ?a29 ?l29 ?c29 ?k29 ?a30 ?l30 ?c30 ?k30 ?a31 ?l31 ?c31 ?k31 ?a32 ?l32 ?c32 ?k32 ?a33 ?l33 ?c33 ?k33 ?a34 ?l34 ?c34 ?k34 ?a35 ?l35 ?c35 ?k35 ?a36 ?l36 ?c36 ?k36 ?a37 ?l37 ?c37 ?k37 ?a38 ?l38 ?c38 ?k38 ?aC ?pg ?hd ?po ?sa ?mk ?kc ?nA0 ?nA1 ?nA2 ?ic1 ?ic2 ?ic3 ?ic4 ?z_int ?z_len ?z_abs ?z_range ?z_list ?z_tuple ?z_sorted ?z_isinstance ?z_bool ?z_str ?z_all ?z_set ?z_enumerate ?z_min ?z_max ?z_repr ?zi_MOST_LETTERS ?zi_MOST_PERSONS
    (case aC => k_is); (case a1 => k_is); (case l1 => k_is); (case c1 => k_is); (case k1 => k_is); (case a2 => k_is); (case l2 => k_is); (case c2 => k_is); (case k2 => k_is); (case a3 => k_is); (case l3 => k_is); (case c3 => k_is); (case k3 => k_is); (case a4 => k_is); (case l4 => k_is); (case c4 => k_is); (case k4 => k_is); (case a5 => k_is); (case l5 => k_is); (case c5 => k_is); (case k5 => k_is); (case a6 => k_is); (case l6 => k_is); (case c6 => k_is); (case k6 => k_is); (case a7 => k_is); (case l7 => k_is); (case c7 => k_is); (case k7 => k_is); (case a8 => k_is); (case l8 => k_is); (case c8 => k_is); (case k8 => k_is); (case a9 => k_is); (case l9 => k_is); (case c9 => k_is); (case k9 => k_is); (case a10 => k_is); (case l10 => k_is); (case c10 => k_is); (case k10 => k_is); (case a11 => k_is); (case l11 => k_is); (case c11 => k_is); (case k11 => k_is); (case a12 => k_is); (case l12 => k_is); (case c12 => k_is); (case k12 => k_is); (case a13 => k_is); (case l13 => k_is); (case c13 => k_is); (case k13 => k_is); (case a14 => k_is); (case l14 => k_is); (case c14 => k_is); (case k14 => k_is); (case a15 => k_is); (case l15 => k_is); (case c15 => k_is); (case k15 => k_is); (case a16 => k_is); (case l16 => k_is); (case c16 => k_is); (case k16 => k_is); (case a17 => k_is); (case i17 => k_is); (case l17 => k_is); (case c17 => k_is); (case k17 => k_is); (case a18 => k_is); (case l18 => k_is); (case c18 => k_is); (case k18 => k_is); (case a19 => k_is); (case l19 => k_is); (case c19 => k_is); (case k19 => k_is); (case a20 => k_is); (case l20 => k_is); (case c20 => k_is); (case k20 => k_is); (case a21 => k_is); (case l21 => k_is); (case c21 => k_is); (case k21 => k_is); (case a22 => k_is); (case l22 => k_is); (case c22 => k_is); (case k22 => k_is); (case a23 => k_is); (case l23 => k_is); (case c23 => k_is); (case k23 => k_is); (case a24 => k_is); (case i24 => k_is); (case l24 => k_is); (case c24 => k_is); (case k24 => k_is); (case a25 => k_is); (case l25 => k_is); (case c25 => k_is); (case k25 => k_is); (case a26 => k_is); (case l26 => k_is); (case c26 => k_is); (case k26 => k_is); (case a27 => k_is); (case l27 => k_is); (case c27 => k_is); (case k27 => k_is); (case a28 => k_is); (case l28 => k_is); (case c28 => k_is); (case k28 => k_is); (case a29 => k_is); (case l29 => k_is); (case c29 => k_is); (case k29 => k_is); (case a30 => k_is); (case l30 => k_is); (case c30 => k_is); (case k30 => k_is); (case a31 => k_is); (case l31 => k_is); (case c31 => k_is); (case k31 => k_is); (case a32 => k_is); (case l32 => k_is); (case c32 => k_is); (case k32 => k_is); (case a33 => k_is); (case l33 => k_is); (case c33 => k_is); (case k33 => k_is); (case a34 => k_is); (case l34 => k_is); (case c34 => k_is); (case k34 => k_is); (case a35 => k_is); (case l35 => k_is); (case c35 => k_is); (case k35 => k_is); (case a36 => k_is); (case l36 => k_is); (case c36 => k_is); (case k36 => k_is); (case a37 => k_is); (case l37 => k_is); (case c37 => k_is); (case k37 => k_is); (case a38 => k_is); (case l38 => k_is); (case c38 => k_is); (case k38 => k_is); (case pg => k_is); (case hd => k_is); (case po => k_is); (case sa => k_is); (case mk => k_is); (case kc => k_is); (case nA0 => k_is); (case nA1 => k_is); (case nA2 => k_is); (case ic1 => k_is); (case ic2 => k_is); (case ic3 => k_is); (case ic4 => k_is); (case z_int => k_is); (case z_len => k_is); (case z_abs => k_is); (case z_range => k_is); (case z_list => k_is); (case z_tuple => k_is); (case z_sorted => k_is); (case z_isinstance => k_is); (case z_bool => k_is); (case z_str => k_is); (case z_all => k_is); (case z_set => k_is); (case z_enumerate => k_is); (case z_min => k_is); (case z_max => k_is); (case z_repr => k_is); (case zi_MOST_LETTERS => k_is); (case zi_MOST_PERSONS => k_is)
