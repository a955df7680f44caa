import PyProof.Rows.All
import Wide.All
import OpenK.AllK
import Wide.FinOn
import KE.KNestM
import KE.KLam
import HandS.Lambda
import HandS.ExcIs
import HandS.ExcField
import HandS.ExcInit
import KE.KExcIs
import HandS.ForMost
import HandS.Style
import HandS.Codes
import PyProof.StrOps2
import HandS.Walk
import KE.GoesEnum
import HandS.SetFor
import HandS.IsInst
import HandS.Strs
import HandS.TupAny
import HandS.Zip
import HandS.OwnEq
import PyProof.ReprRoads
import PyProof.CallFns
import HandS.FStrTup
import HandS.TupMul
import HandS.Base
import HandS.Call
import HandS.List
import KE.KTupSum
import HandS.Sort
import HandS.SortOrd
import HandS.SortRule
import HandS.Dict
import HandS.Small
import HandS.Conv
import HandS.WordsExc
import HandS.EndTab
import HandS.Steps
import HandS.TupLe
import PySem.Challenge.RW_lastpairs_k20_whole_rings_turned_out
set_option Elab.async false
set_option linter.all false
set_option maxRecDepth 100000
namespace K14
open PySem PySem.Spec PyProof.Rows L2
def topS (i : Nat) : Stmt := PySem.Challenge.pw_lastpairs_k20_whole_rings_turned_out.main.body.getD i (.Pass ⟨0, 0, 0, 0⟩)
abbrev sMateError : Stmt := topS 1
abbrev sInvalidWishes : Stmt := topS 2
abbrev sInvalidWishesInit : Stmt := inClass sInvalidWishes 0
abbrev sRefused : Stmt := topS 3
abbrev sRefusedInit : Stmt := inClass sRefused 0
abbrev sIsNumber : Stmt := topS 6
abbrev sIsBelow : Stmt := topS 7
abbrev sIsName : Stmt := topS 8
abbrev sIsTupleOf : Stmt := topS 9
abbrev sArePersons : Stmt := topS 10
abbrev sAreUnlike : Stmt := topS 11
abbrev sWishes : Stmt := topS 14
abbrev sWInit : Stmt := inClass sWishes 0
abbrev sWEq : Stmt := inClass sWishes 1
abbrev sAreNames : Stmt := topS 15
abbrev sCheckLists : Stmt := topS 16
abbrev sCheckBoth : Stmt := topS 17
abbrev sRanksOfLists : Stmt := topS 18
abbrev sRanksOfList : Stmt := topS 19
abbrev sIsWished : Stmt := topS 20
abbrev sRankOf : Stmt := topS 21
abbrev sRanksIn : Stmt := topS 22
abbrev sAreHolds : Stmt := topS 24
abbrev sMayHold : Stmt := topS 25
abbrev sHeldRanks : Stmt := topS 26
abbrev sLeftLists : Stmt := topS 27
abbrev sLeftList : Stmt := topS 28
abbrev sFirstLeft : Stmt := topS 29
abbrev sFirstsLeft : Stmt := topS 30
abbrev sIsSteady : Stmt := topS 31
abbrev sAreWithin : Stmt := topS 32
abbrev sIsOddTurn : Stmt := topS 34
abbrev sIsOdd : Stmt := topS 35
abbrev sTurnedOut : Stmt := topS 36
abbrev sHoldsPast : Stmt := topS 37
abbrev sHeap : Stmt := topS 39
abbrev sDraw : Stmt := topS 40
abbrev sPick : Stmt := topS 41
abbrev sShuffled : Stmt := topS 42
abbrev sNames : Stmt := topS 43
abbrev sLists : Stmt := topS 44
abbrev sRank : Stmt := topS 45
abbrev sLeft : Stmt := topS 46
abbrev sLRound : Stmt := topS 47
abbrev sLSomeLists : Stmt := topS 48
abbrev sLOut : Stmt := topS 49
abbrev sLRings : Stmt := topS 50
abbrev sLTold : Stmt := topS 51
abbrev sLIsOdd : Stmt := topS 52
abbrev sLTurned : Stmt := topS 53
abbrev sLGood : Stmt := topS 54
abbrev sLStages : Stmt := topS 55
abbrev sLHeard : Stmt := topS 56
abbrev sLGoodRight : Stmt := topS 57
abbrev sLOddRight : Stmt := topS 58
abbrev sLaw : Stmt := topS 59
end K14
/-! enumerate of a tuple -/
namespace K14
open PySem PySem.Spec PyProof.Rows L2
abbrev enObj (n : Nat) : Obj := { cls := .type "enumerate", data := .fields #[.none, .bool false, .ref n, rawInt 0, .none, .none] }
set_option maxHeartbeats 1000000 in
theorem enum_make {v : Value} {o : Obj} {H : Heap → Prop} (B : Begins v o H) :
    Meets (Builtin.«enumerate.__new__» ⟨[.type "enumerate", v], []⟩) (fun _ R s => H s.heap ∧ R (.ok (.ret (.ref (s.heap.push o).objs.size))) { s with heap := (s.heap.push o).push (enObj s.heap.objs.size) }) :=
  .of_wp fun prog w A R s h => by
    obtain ⟨hp, gg, dd, tk, os⟩ := s
    obtain ⟨h1, h⟩ := h
    have isSub := sub_enumerate
    have goIt : ∀ {A' : Around} {E Q : Value → Shared → Prop}, Q (.ref hp.objs.size) ⟨hp.push o, gg, dd, tk, os⟩ → wpAny (model prog w) A' (pyIter v) Q E ⟨hp, gg, dd, tk, os⟩ := fun q => B.iter prog w _ _ ⟨hp, gg, dd, tk, os⟩ _ h1 q
    wp_walk using goIt
    refine wpAny_stack_any fun st => wpAny_pure ?_
    split
    · rename_i c _ _ _ _ _
      cases (c == Value.type "enumerate") <;> (wp_walk using goIt; exact ⟨_, rfl, h⟩)
    · wp_walk using goIt
      exact ⟨_, rfl, h⟩
section
variable {prog : Program} {w : World} {A : Around} {E : Value → Shared → Prop} {s : Shared}
theorem enum_call {v : Value} {o : Obj} {H : Heap → Prop} {Q : Value → Shared → Prop} (B : Begins v o H) (h1 : H s.heap)
    (h : ∀ h', IsEnum h' (s.heap.objs.size + 1) s.heap.objs.size 0 .none → h'.get? s.heap.objs.size = some o → (∀ b u, s.heap.get? b = some u → h'.get? b = some u) → Q (.ref (s.heap.objs.size + 1)) { s with heap := h' }) :
    wpAny (model prog w) A (call (.type "enumerate") [v]) Q E s := by
  refine callType_new F.called_enumerate (by decide) (F.typeCall_enumerate_1 _) (F.newCall_enumerate_1 _) (fun ob => F.args_object_init_2 ob _) F.entry_enumerate_new (enum_make B) ⟨h1, ?_⟩
  have sz : (s.heap.push o).objs.size = s.heap.objs.size + 1 := Heap.size_push ..
  show _ ∧ _
  rw [sz]
  have en : IsEnum ((s.heap.push o).push (enObj s.heap.objs.size)) (s.heap.objs.size + 1) s.heap.objs.size 0 .none := by
    have z := Heap.get?_push_size (s.heap.push o) (o := enObj s.heap.objs.size) rfl
    rw [sz] at z
    exact z
  exact ⟨⟨_, en, rfl⟩, h _ en (Heap.get?_push_of_some _ (Heap.get?_push_size _ B.free)) fun b u x => Heap.get?_push_of_some _ (Heap.get?_push_of_some _ x)⟩
end
/-- the tuple at a as it stands, each item in a new pair with its place -/
def IteT (K : PySem.W.Frag) (a : Addr) : It where
  go := fun i H => ∃ (xs : List V) (x : V), SqT K H a xs ∧ xs[i]? = some x
  yld := fun i H v H' => ∃ T x, v = .ref T ∧ H T = none ∧ H' = upd H T (.tup [.int (i : Nat), x]) ∧ ∀ xs, SqT K H a xs → xs[i]? = some x
  stop := fun i H => ∃ xs : List V, SqT K H a xs ∧ xs.length = i
theorem turn_enumT {P : Program} {w : World} {K : PySem.W.Frag} {elts : List Expr} {kk : Nat} {tpos : Pos} (a e it : Addr) (hai : a ≠ it) (hae : a ≠ e) :
    Turn P w K (.Tuple elts kk tpos) (IteT K a) [e, it] e (fun i h => (∃ old, IsEnum h e it ((i : Nat) : Int) old) ∧ h.IsTupleIter it a i ∧ e ≠ it) where
  mem := by simp
  obj := fun i h st b hb => by
    obtain ⟨⟨old, he⟩, ⟨o, ho, hc, hd⟩, _⟩ := st
    rcases (show b = e ∨ b = it by simpa using hb) with z | z <;> subst z
    · exact ⟨_, he, fun v q => nomatch q⟩
    · exact ⟨o, ho, fun v q => (by rw [hd] at q; cases q)⟩
  keep := fun i h h' st k => by
    obtain ⟨⟨old, he⟩, hi, hne⟩ := st
    exact ⟨⟨old, k e (by simp) _ he⟩, hi.at fun o q => k it (by simp) o q, hne⟩
  item := by
    intro X hP hw hK hc i pins s σ H E I hf st hg
    subst hP hw hK
    obtain ⟨⟨old, he⟩, hit, hne⟩ := st
    obtain ⟨xs, x, hq, hx⟩ := hg
    obtain ⟨its, rv, p, _⟩ := I.tuple hq
    obtain ⟨u, hu, ru⟩ := rv.get hx
    have hel : e < s.heap.objs.size := Heap.lt_size he
    have hil : it < s.heap.objs.size := by obtain ⟨_, q, _⟩ := hit; exact Heap.lt_size q
    have hat : a ≠ e ∧ a ≠ it := ⟨hae, hai⟩
    have hiz : i < its.toArray.size := by
      have := (List.getElem?_eq_some_iff.mp hu).1
      simpa using this
    refine wpAny_pyNext_enum_itemC (fp := [it, a]) (Draws.tuple (A := X.A.in1) (by rw [show X.A.in1.handled = X.A.handled from rfl]; exact I.ok.hd hc) it a hai its.toArray) he ⟨hit, p⟩ hiz hne (by simp; exact ⟨hne, Ne.symm hae⟩) fun x' h' tk hP' ho st' hT hsz hk => ?_
    have ex : x' = u := by
      have h1 : its[i]? = some x' := by simpa using hP'
      rw [hu] at h1
      exact (Option.some.inj h1).symm
    subst ex
    refine ⟨_, rfl, wpAny_letOwnedTupleGo_enum (s := { s with heap := h', toks := tk + 1 }) ho fun h2 he2 sb => ?_⟩
    have back : ∀ b, b ≠ e → h2.get? b = h'.get? b := fun b nb => sb.2 b nb
    have nTe : s.heap.objs.size ≠ e := Nat.ne_of_gt hel
    have isT : h2.get? s.heap.objs.size = some { cls := .type "tuple", data := .seq #[.int i tk, x'] } := (back _ nTe).trans hT
    have new : ObjOk X.prog X.w (upd H s.heap.objs.size (.tup [.int (i : Nat), x])) h2 s.heap.objs.size (.tup [.int (i : Nat), x]) :=
      ⟨(by show 2 ≤ sizeLine; decide), [.int i tk, x'], .cons ⟨_, rfl⟩ (.cons ru .nil), ⟨_, isT, rfl, _, rfl⟩⟩
    have kept : ∀ b ob, b ∉ [e, it] → s.heap.get? b = some ob → h2.get? b = some ob := fun b ob hb q => by
      have n1 : b ≠ e := fun z => hb (by rw [z]; simp)
      have n2 : b ≠ it := fun z => hb (by rw [z]; simp)
      exact (back b n1).trans (hk b ob n1 n2 q)
    have I1 : Inv X pins σ (upd H s.heap.objs.size (.tup [.int (i : Nat), x])) { s with heap := h2, toks := tk + 1 } := I.turnedNew (ch := [e, it]) kept hf (Nat.le_refl _) new
    refine ⟨.ref s.heap.objs.size, _, I1, rfl, ⟨_, x, rfl, I.hok.fresh (Nat.le_refl _), rfl, fun ys hy => by rw [I.tuple_inj hy hq]; exact hx⟩, ⟨⟨_, he2⟩, st'.1.at fun o q => (back it (Ne.symm hne)).trans q, hne⟩, fun b hb => ?_⟩
    have lt : b < s.heap.objs.size := by
      rcases (show b = e ∨ b = it by simpa using hb) with z | z <;> subst z
      · exact hel
      · exact hil
    rw [upd_ne (Nat.ne_of_lt lt)]
    exact (hf b hb).1
  done := by
    intro X hP hw hK hc i pins s σ H E I hf st hg
    subst hP hw hK
    obtain ⟨⟨old, he⟩, hit, hne⟩ := st
    obtain ⟨xs, hq, hx⟩ := hg
    obtain ⟨its, rv, p, _⟩ := I.tuple hq
    obtain ⟨f0, f1, f2, f3, f4, f5⟩ := hf it (by simp)
    have hl := rv.length
    have iz : i = its.toArray.size := by simp; omega
    subst iz
    refine wpAny_pyNext_enum_endD (fp := [it, a]) (Draws.tuple (A := X.A.in1) (by rw [show X.A.in1.handled = X.A.handled from rfl]; exact I.ok.hd hc) it a hai its.toArray) he ⟨hit, p⟩ fun h' eb => ⟨rfl, I.turned (t' := s.toks) (fun b o hb q => eb b o hb q) f0 f1 f3 f4 f5⟩
  self := fun A i s Q E st h => by
    obtain ⟨⟨_, he⟩, _⟩ := st
    exact wpAny_pyIter_enum he h
def iEnumT (K : PySem.W.Frag) (ta : TA) : TI := fun σ H R => ta σ H fun vs H1 => ∃ a xs, vs = [.ref a] ∧ SqT K H1 a xs ∧ R (IteT K a) H1
theorem pi_enumT {X : Cx} {e : Expr} {ta : TA} {p pos tpos : Pos} {elts : List Expr} {kk : Nat} (hg : Gl X "enumerate") (hm : X.mg "enumerate" = none) (ha : PA X [e] ta) (hs : starEach [e] X.env = [(false, eval e X.env)] := by rfl) : PI X (.Tuple elts kk tpos) (.Call (.Name "enumerate" p) [e] [] pos) (iEnumT X.K ta) := by
  refine ⟨fun pins s σ H R I h => ?_⟩
  refine Call_ (ld_blt I hg hm boot_enumerate (PyProof.Rows.callWith_type1 (thn (ha.run pos pins s σ H _ I h) fun us s1 ⟨vs, H1, I1, r1, q1⟩ => ?_) hs rfl))
  obtain ⟨a, xs, ex, hq, q⟩ := q1
  subst ex
  cases r1 with
  | cons r rr =>
    cases rr
    cases r
    obtain ⟨its, rv, pt, _⟩ := I1.tuple hq
    have la : a < s1.heap.objs.size := by obtain ⟨_, z, _⟩ := pt; exact Heap.lt_size z
    refine enum_call (begins_tuple a its.toArray) pt fun h' he hit hk => wpAny_pyIter_enum he ?_
    have I2 : Inv X pins σ H1 { s1 with heap := h' } := I1.kept (t' := s1.toks) hk
    refine ⟨s1.heap.objs.size + 1, [s1.heap.objs.size + 1, s1.heap.objs.size], _, _, H1, rfl, I2, turn_enumT a (s1.heap.objs.size + 1) s1.heap.objs.size (Nat.ne_of_lt la) (Nat.ne_of_lt (Nat.lt_succ_of_lt la)), ⟨⟨.none, he⟩, ⟨_, hit, rfl, rfl⟩, Nat.succ_ne_self _⟩, fun b hb => ?_, q⟩
    have le : s1.heap.objs.size ≤ b := by
      rcases (show b = s1.heap.objs.size + 1 ∨ b = s1.heap.objs.size by simpa using hb) with z | z <;> rw [z]
      · exact Nat.le_succ _
      · exact Nat.le_refl _
    exact I1.fpOk le (I1.hok.fresh le)
theorem walk_enumT {K : PySem.W.Frag} {a : Addr} {xs : List V} : Walk (IteT K a) xs.length (fun H => SqT K H a xs) (YPair (fun i => some (.int (i : Nat))) (fun i => xs[i]?)) where
  goes := fun i H hi q => ⟨xs, xs[i], q, List.getElem?_eq_getElem hi⟩
  stops := fun H q => ⟨xs, q, rfl⟩
  yields := fun i H v H' _ q y => by
    obtain ⟨T, x, h1, h2, h3, h4⟩ := y
    exact ⟨T, _, x, h1, h2, h3, rfl, h4 xs q⟩
end K14
/-! len(set(t)) of a tuple of unlike numbers; isinstance of plain values -/
namespace K14
open PySem PySem.Spec PyProof.Rows L2
def tLenSetT (K : PySem.W.Frag) (ta : TE) : TE := fun σ H Q => ta σ H fun x H1 => ∃ (l : Addr) (ns : List Int), x = .ref l ∧ SqT K H1 l (ns.map V.int) ∧ ns.Nodup ∧ ns.length ≤ 1000 ∧ Q (.int (ns.length : Nat)) H1
theorem pe_lenSetT {X : Cx} {a : Expr} {ta : TE} {p p2 q pos : Pos} (hg : Gl X "len") (hm : X.mg "len" = none) (hg2 : Gl X "set") (hm2 : X.mg "set" = none) (ha : PE X a ta) (hc : X.calm = true := by rfl)
    (na : starEach [a] X.env = (false, eval a X.env) :: starEach [] X.env := by rfl) : PE X (.Call (.Name "len" p) [.Call (.Name "set" p2) [a] [] q] [] pos) (tLenSetT X.K ta) := by
  refine ⟨fun pins s σ H Q I h => Call_ (ld_blt I hg hm boot_len (PyProof.Rows.callWith_builtin1 (PyProof.Rows.args_cons (Call_ (ld_blt I hg2 hm2 PyProof.Rows.boot_set ?_)) rfl) rfl rfl))⟩
  refine PyProof.Rows.callWith_type1 (PyProof.Rows.args_cons (thn (ha.run pins s σ H _ I h) fun v s1 ⟨x, H1, I1, r1, q1⟩ => PyProof.Rows.args_nil ?_) na) na rfl
  obtain ⟨l, ns, rfl, hq, nd, le, q1⟩ := q1
  cases r1
  obtain ⟨its, rv, pt, _⟩ := I1.tuple hq
  have his : IntsAre its.toArray.toList ns := ints_of_vals rv
  refine call_set_tupI ns (I1.ok.hd hc) (show s1.heap.IsTuple l its.toArray from pt) his (by unfold scanBound; omega) fun h' tk c R1 hcn k => PyProof.Rows.args_nil ?_
  obtain ⟨o, es, ep, t, ho, hex, hdt, g, nd2, mem, hb, hf, hn, hr, hl2⟩ := R1
  have I2 : Inv X pins σ H1 { s1 with heap := h', toks := tk } := I1.kept fun b o e => k b o e
  have pm : (es.toList.map keyOf).Perm ns := by
    refine (List.perm_ext_iff_of_nodup nd2 nd).mpr fun j => ?_
    rw [← mem j, decide_eq_true_eq]
  have sz : es.size = ns.length := by
    have := pm.length_eq
    rw [List.length_map, Array.length_toList] at this
    exact this
  exact call_len_set ho hex hdt hf (by rw [sz]; omega) ⟨.int ns.length, H1, I2.tok _, ⟨_, by rw [sz]⟩, q1⟩
end K14
namespace K14
open PySem PySem.Spec PyProof.Rows L2
theorem same_upd {H : Hp} {p : Addr} {o : HO} (h : H p = none) : Same H (upd H p o) := fun b x e => by
  rw [upd_ne (ne_of_none e h)]
  exact e

/-! ### the source of draws: a list of a list of great numbers and of a number -/
structure Src (H : Hp) (h l : Addr) : Prop where
  ex : ∃ (cs : List Int) (z : Int), H h = some (.lst [.ref l, .int z]) ∧ H l = some (.lst (cs.map V.int)) ∧ (∀ c ∈ cs, 0 ≤ c) ∧ cs.length ≤ 60 ∧ 0 ≤ z ∧ z < 2147483648
/-- all but the source stands -/
def Bar (h l : Addr) (H H' : Hp) : Prop := ∀ b o, b ≠ h → b ≠ l → H b = some o → H' b = some o
theorem Bar.refl {h l : Addr} {H : Hp} : Bar h l H H := fun _ _ _ _ e => e
theorem Bar.trans {h l : Addr} {H H1 H2 : Hp} (a : Bar h l H H1) (b : Bar h l H1 H2) : Bar h l H H2 := fun c o n1 n2 e => b c o n1 n2 (a c o n1 n2 e)
theorem Bar.same {h l : Addr} {H H' : Hp} (a : Same H H') : Bar h l H H' := fun c o _ _ e => a c o e
theorem Bar.upd_h {h l : Addr} {H : Hp} {o : HO} : Bar h l H (upd H h o) := fun c u n1 _ e => by rw [upd_ne n1]; exact e
theorem Bar.upd_l {h l : Addr} {H : Hp} {o : HO} : Bar h l H (upd H l o) := fun c u _ n2 e => by rw [upd_ne n2]; exact e
theorem src_ne {H : Hp} {h l : Addr} {cs : List Int} {z : Int} (a : H h = some (.lst [.ref l, .int z])) (b : H l = some (.lst (cs.map V.int))) : h ≠ l := by
  intro e
  rw [e, b] at a
  cases cs with
  | nil => cases a
  | cons c r => cases a
theorem Src.same {H H' : Hp} {h l : Addr} (s : Src H h l) (e : Same H H') : Src H' h l := by
  obtain ⟨cs, z, a, b, r⟩ := s.ex
  exact ⟨cs, z, e _ _ a, e _ _ b, r⟩
theorem Src.ne {H : Hp} {h l p : Addr} {o : HO} (s : Src H h l) (e : H p = some o) (n : ∀ xs, o ≠ .lst xs) : p ≠ h ∧ p ≠ l := by
  obtain ⟨cs, z, a, b, r⟩ := s.ex
  exact ⟨fun q => by rw [q, a] at e; cases e; exact n _ rfl, fun q => by rw [q, b] at e; cases e; exact n _ rfl⟩

/-- a while by its invariant and by what stands behind it -/
theorem tw {c : TT} {tb : TS} {D : Ends} {σ : L2.St} {H : Hp} (W : Nat → L2.St → Hp → Prop) (Y : L2.St → Hp → Prop) {m0 : Nat} (h0 : W m0 σ H) (out : ∀ σ H, Y σ H → D.nx σ H)
    (turn : (∀ σ H, Y σ H → D.nx σ H) → ∀ m σ H, W m σ H → c σ H fun b H1 => if b = true then ∃ N : L2.St → Hp → Prop, (∀ σ' H', N σ' H' → ∃ m', m' < m ∧ W m' σ' H') ∧ tb { D with nx := N, ct := N, bk := D.nx } σ H1 else D.nx σ H1) :
    tWhile c tb D σ H := ⟨W, ⟨m0, h0⟩, turn out⟩
theorem list_end {α : Type} (xs : List α) : xs = [] ∨ ∃ ys y, xs = ys ++ [y] := by
  rcases List.eq_nil_or_concat xs with h | ⟨ys, y, h⟩
  · exact .inl h
  · exact .inr ⟨ys, y, by rw [h]; simp⟩
def spDraw : Sp := fun vs H Q _ => ∃ (h l : Addr) (many : Int), vs = [.ref h, .int many] ∧ Src H h l ∧ 0 < many ∧ many < 1073741824 ∧
  ∀ (k : Int) (H' : Hp), 0 ≤ k → k < many → Src H' h l → Bar h l H H' → Q (.int k) H'

theorem dp_ints {K : PySem.W.Frag} {H : Hp} : ∀ cs : List Int, DpAll K H (cs.map V.int) (cs.map PyData.int)
  | [] => .nil
  | c :: r => .cons (.int c) (dp_ints r)
theorem shaped_ints (cs : List Int) : SeqAt.shaped (.list (cs.map PyData.int)) = true := by
  have h1 : ∀ cs : List Int, PyData.canLayAll0 (cs.map PyData.int) = true := by
    intro cs
    induction cs with
    | nil => rfl
    | cons c r ih => simp only [List.map_cons, PyData.canLayAll0, PyData.canLay0, ih, Bool.and_self]
  have h2 : ∀ cs : List Int, PyData.depthAll (cs.map PyData.int) ≤ 1 := by
    intro cs
    induction cs with
    | nil => simp [PyData.depthAll]
    | cons c r ih => simp only [List.map_cons, PyData.depthAll, PyData.depth]; omega
  have h3 := h2 cs
  have h4 : PyData.depth (.list (cs.map PyData.int)) ≤ 64 := by
    simp only [PyData.depth]
    omega
  have h5 : PyData.canLay0 (.list (cs.map PyData.int)) = true := by
    simp only [PyData.canLay0, h1]
  show (PyData.canLay0 (.list (cs.map PyData.int)) && decide (PyData.depth (.list (cs.map PyData.int)) ≤ 64)) = true
  rw [h5, decide_eq_true h4]
  rfl
theorem eqv_nil : ∀ cs : List Int, PyData.eqv (.list (cs.map PyData.int)) (.list []) = cs.isEmpty
  | [] => by decide
  | c :: r => by simp [PyData.eqv, PyData.eqvAll]
theorem scDraw : FnScope ["heap", "many", "rest"] ["heap", "many"] (defScope sDraw) := ⟨rfl, rfl, rfl, by decide +kernel, rfl, by decide +kernel, by decide +kernel⟩
section
variable {P : Program} {w : World} {K : PySem.W.Frag} {mg : Str → Option Value} {base : Heap}
theorem ok_draw {f : Addr} {fd : FuncData} {k : Nat} (F : Fun K "_law_draw" "_law_draw" sDraw f fd) (mi : mg "int" = none) : FnOk P w K mg base CX0 (k + 1) f fd ["heap", "many"] spDraw := by
  refine F.ok scDraw (fun vs H Q E h => ?_) (fun cdv A outer s H vs Q E hr h => ?_)
  · obtain ⟨h, l, many, rfl, _⟩ := h
    rfl
  · obtain ⟨h, l, many, rfl, src, m0, m1, q⟩ := h
    refine ⟨_, pss_cons (ps_while PassesOwn.never (PW.pt (pw_and (pt_cmpR (op_neD hr.units) (pe_ix ix_list (pv 0) pe_int (fun _ _ => rfl)) (pe_lst pa_nil) (nomark _)) (pw_and1 (pt_cmpR op_eq (pe_ix ix_list (pe_ix ix_list (pv 0) pe_int (fun _ _ => rfl)) (pe_un un_neg pe_int) (fun _ _ => rfl)) pe_int (nomark _)))))
        (pss_one (ps_expr (pe_bm0 PySem.F.plainAttrs_list PySem.F.slot_list_pop PySem.F.type_list_pop mt_pop (pe_ix ix_list (pv 0) pe_int (fun _ _ => rfl))))))
      (pss_cons (ps_if (pt_cmpR (op_neD hr.units) (pe_ix ix_list (pv 0) pe_int (fun _ _ => rfl)) (pe_lst pa_nil) (nomark _))
        (pss_cons (ps_set (i := 2) scDraw.nd rfl (.inl rfl) (pe_bm0 PySem.F.plainAttrs_list PySem.F.slot_list_pop PySem.F.type_list_pop mt_pop (pe_ix ix_list (pv 0) pe_int (fun _ _ => rfl))))
        (pss_cons (ps_expr (pe_bm PySem.F.plainAttrs_list PySem.F.slot_list_append PySem.F.type_list_append mt_append (pe_ix ix_list (pv 0) pe_int (fun _ _ => rfl)) (pa_cons (pe_op op_fdivN (pv 2) (pv 1)) pa_nil)))
        (pss_one (ps_ret (pe_op op_mod (pe_callTy call_int1 (by rfl) mi (by decide +kernel) (pa_cons (pv 2) pa_nil)) (pv 1)))))) pss_nil)
      (pss_cons (ps_asg (pe_op op_mod (pe_callTy call_int1 (by rfl) mi (by decide +kernel) (pa_cons (pe_op op_add (pe_op op_mul (pe_ix ix_list (pv 0) pe_int (fun _ _ => rfl)) pe_int) pe_int) pa_nil)) pe_int) (pg_sub (pv 0) pe_int set_list))
      (pss_one (ps_ret (pe_op op_mod (pe_callTy call_int1 (by rfl) mi (by decide +kernel) (pa_cons (pe_op op_fdivN (pe_ix ix_list (pv 0) pe_int (fun _ _ => rfl)) pe_int) pa_nil)) (pv 1)))))), ?_⟩
    obtain ⟨cs0, z0, a0, b0, p0, n0, y0, y1⟩ := src.ex
    refine tw (fun m σ H' => σ = [some (.ref h), some (.int many), none] ∧ ∃ (cs : List Int) (z : Int), H' h = some (.lst [.ref l, .int z]) ∧ H' l = some (.lst (cs.map V.int)) ∧ (∀ c ∈ cs, 0 ≤ c) ∧ cs.length ≤ 60 ∧ 0 ≤ z ∧ z < 2147483648 ∧ Bar h l H H' ∧ m = cs.length)
      (fun σ H' => σ = [some (.ref h), some (.int many), none] ∧ ∃ (cs : List Int) (z : Int), H' h = some (.lst [.ref l, .int z]) ∧ H' l = some (.lst (cs.map V.int)) ∧ (∀ c ∈ cs, 0 ≤ c) ∧ cs.length ≤ 60 ∧ 0 ≤ z ∧ z < 2147483648 ∧ Bar h l H H')
      ⟨rfl, cs0, z0, a0, b0, p0, n0, y0, y1, Bar.refl, rfl⟩ ?_ (fun out => ?_)
    · -- behind the loop
      rintro σ H1 ⟨rfl, cs, z, eh, el, pos, len, z1, z2, bar⟩
      have nhl := src_ne eh el
      refine ⟨_, rfl, h, _, 0, .ref l, rfl, rfl, SqL.of eh, atI_nat (j := 0) rfl, Nat.zero_le _, fun p hp => ?_⟩
      have nph : h ≠ p := ne_of_none eh hp
      have npl : l ≠ p := ne_of_none el hp
      have eh1 : (upd H1 p (.lst [])) h = some (.lst [.ref l, .int z]) := by rw [upd_ne nph]; exact eh
      have el1 : (upd H1 p (.lst [])) l = some (.lst (cs.map V.int)) := by rw [upd_ne npl]; exact el
      have bar1 : Bar h l H (upd H1 p (.lst [])) := bar.trans (.same (same_upd hp))
      refine ⟨.list (cs.map PyData.int), .list [], .lst (SqL.of el1) (dp_ints cs), .lst (SqL.of upd_same) .nil, shaped_ints cs, by decide, _, rfl, ?_⟩
      rw [eqv_nil]
      generalize upd H1 p (.lst []) = H2 at eh1 el1 bar1
      rcases list_end cs with rfl | ⟨ds, c, rfl⟩
      · -- no great number is left
        refine iteF ?_
        refine ⟨_, rfl, h, _, 1, .int z, rfl, rfl, SqL.of eh1, atI_nat (j := 1) rfl, _, _, rfl, rfl, .inl ⟨by omega, by omega⟩, _, _, rfl, rfl, .inl ⟨_, rfl, _, _, rfl, rfl, (show (0 : Int) < 2147483647 by decide), _, rfl, h, _, 1, 1, rfl, rfl, eh1, rfl, ?_⟩⟩
        have w0 : 0 ≤ (z * 48271 + 17) % 2147483647 := Int.emod_nonneg _ (by decide)
        have w1 : (z * 48271 + 17) % 2147483647 < 2147483647 := Int.emod_lt_of_pos _ (by decide)
        have eh2 : (upd H2 h (.lst ([V.ref l, .int z].set 1 (.int ((z * 48271 + 17) % 2147483647))))) h = some (.lst [.ref l, .int ((z * 48271 + 17) % 2147483647)]) := upd_same
        refine ⟨_, rfl, h, _, 1, .int ((z * 48271 + 17) % 2147483647), rfl, rfl, SqL.of eh2, atI_nat (j := 1) rfl, _, _, rfl, rfl, ⟨by decide, by decide⟩, .inl ⟨_, rfl, _, rfl, _, _, rfl, rfl, m0, ?_⟩⟩
        refine q _ _ (Int.emod_nonneg _ (by omega)) (Int.emod_lt_of_pos _ m0) ⟨[], _, eh2, ?_, by simp, by simp, w0, by omega⟩ (bar1.trans .upd_h)
        rw [upd_ne (Ne.symm nhl)]
        exact el1
      · have e1 : ((ds ++ [c]).isEmpty) = false := by simp
        rw [e1]
        refine iteT ?_
        have e2 : (ds ++ [c]).map V.int = ds.map V.int ++ [.int c] := by simp
        rw [e2] at el1
        have c0 : 0 ≤ c := pos c (by simp)
        refine ⟨_, rfl, h, _, 0, .ref l, rfl, rfl, SqL.of eh1, atI_nat (j := 0) rfl, .inl ⟨rfl, _, SqL.of el1⟩, l, _, .int c, rfl, rfl, el1, by simp, ?_⟩
        have el2 : (upd H2 l (.lst (ds.map V.int ++ [V.int c]).dropLast)) l = some (.lst (ds.map V.int)) := by
          rw [upd_same, List.dropLast_concat]
        have eh2 : (upd H2 l (.lst (ds.map V.int ++ [V.int c]).dropLast)) h = some (.lst [.ref l, .int z]) := by
          rw [upd_ne nhl]; exact eh1
        have bar2 : Bar h l H (upd H2 l (.lst (ds.map V.int ++ [V.int c]).dropLast)) := bar1.trans .upd_l
        generalize upd H2 l (.lst (ds.map V.int ++ [V.int c]).dropLast) = H3 at el2 eh2 bar2
        have len' : ds.length + 1 ≤ 60 := by simp at len; omega
        refine ⟨_, rfl, h, _, 0, .ref l, rfl, rfl, SqL.of eh2, atI_nat (j := 0) rfl, .inl ⟨rfl, _, SqL.of el2⟩, _, rfl, _, rfl, _, _, rfl, rfl, ⟨by omega, by omega⟩, l, _, _, rfl, rfl, el2, ?_, ?_⟩
        · rw [List.length_map]
          exact small1000 (by omega)
        have el3 : (upd H3 l (.lst (ds.map V.int ++ [.int (c.fdiv many)]))) l = some (.lst ((ds ++ [c.fdiv many]).map V.int)) := by
          rw [upd_same]; simp
        have eh3 : (upd H3 l (.lst (ds.map V.int ++ [.int (c.fdiv many)]))) h = some (.lst [.ref l, .int z]) := by
          rw [upd_ne nhl]; exact eh2
        refine ⟨_, rfl, .inl ⟨_, rfl, _, rfl, _, _, rfl, rfl, m0, ?_⟩⟩
        refine q _ _ (Int.emod_nonneg _ (by omega)) (Int.emod_lt_of_pos _ m0) ⟨_, z, eh3, el3, ?_, by simp; omega, z1, z2⟩ (bar2.trans .upd_l)
        intro x hx
        rcases List.mem_append.mp hx with hx | hx
        · exact pos x (by simp [hx])
        · rw [List.mem_singleton.mp hx, Int.fdiv_eq_ediv_of_nonneg _ (by omega)]
          exact Int.ediv_nonneg c0 (by omega)
    · rintro m σ H1 ⟨rfl, cs, z, eh, el, pos, len, z1, z2, bar, rfl⟩
      have nhl := src_ne eh el
      -- heap[0] != []
      refine ⟨_, rfl, h, _, 0, .ref l, rfl, rfl, SqL.of eh, atI_nat (j := 0) rfl, Nat.zero_le _, fun p hp => ?_⟩
      have nph : h ≠ p := ne_of_none eh hp
      have npl : l ≠ p := ne_of_none el hp
      have eh1 : (upd H1 p (.lst [])) h = some (.lst [.ref l, .int z]) := by rw [upd_ne nph]; exact eh
      have el1 : (upd H1 p (.lst [])) l = some (.lst (cs.map V.int)) := by rw [upd_ne npl]; exact el
      have bar1 : Bar h l H (upd H1 p (.lst [])) := bar.trans (.same (same_upd hp))
      refine ⟨.list (cs.map PyData.int), .list [], .lst (SqL.of el1) (dp_ints cs), .lst (SqL.of upd_same) .nil, shaped_ints cs, by decide, _, rfl, ?_⟩
      rw [eqv_nil]
      generalize upd H1 p (.lst []) = H2 at eh1 el1 bar1
      rcases list_end cs with rfl | ⟨ds, c, rfl⟩
      · -- no great number is left
        refine iteF (iteF ?_)
        exact out _ _ ⟨rfl, [], z, eh1, el1, pos, len, z1, z2, bar1⟩
      · have e1 : ((ds ++ [c]).isEmpty) = false := by simp
        rw [e1]
        refine iteT ?_
        have e2 : (ds ++ [c]).map V.int = ds.map V.int ++ [.int c] := by simp
        rw [e2] at el1
        refine ⟨_, rfl, h, _, 0, .ref l, rfl, rfl, SqL.of eh1, atI_nat (j := 0) rfl, 1, rfl, l, _, -1, .int c, rfl, rfl, SqL.of el1, atI_last _ _, rfl, _, rfl, ?_⟩
        refine ite2 (fun e => ?_) (fun e => ?_)
        · refine ⟨fun σ' H' => ∃ m', m' < (ds ++ [c]).length ∧ (σ' = [some (.ref h), some (.int many), none] ∧ ∃ (cs : List Int) (z : Int), H' h = some (.lst [.ref l, .int z]) ∧ H' l = some (.lst (cs.map V.int)) ∧ (∀ c ∈ cs, 0 ≤ c) ∧ cs.length ≤ 60 ∧ 0 ≤ z ∧ z < 2147483648 ∧ Bar h l H H' ∧ m' = cs.length), fun _ _ x => x, ?_⟩
          refine ⟨_, rfl, h, _, 0, .ref l, rfl, rfl, SqL.of eh1, atI_nat (j := 0) rfl, .inl ⟨rfl, _, SqL.of el1⟩, l, _, .int c, rfl, rfl, el1, by simp, ?_⟩
          refine ⟨ds.length, by simp, rfl, ds, z, ?_, ?_, fun c' h' => pos c' (by simp [h']), ?_, z1, z2, bar1.trans .upd_l, rfl⟩
          · rw [upd_ne nhl]; exact eh1
          · rw [upd_same, List.dropLast_concat]
          · simp at len; omega
        · refine out _ _ ⟨rfl, ds ++ [c], z, eh1, ?_, pos, len, z1, z2, bar1⟩
          rw [e2]; exact el1
end
end K14
namespace K14
open PySem PySem.Spec PyProof.Rows L2
/-- a tuple that is known whole: one that tuple(..) made -/
def Ex (H : Hp) (a : Addr) (xs : List V) : Prop := ∃ o : Obj, o.dict = none ∧ o.cls = .type "tuple" ∧ H a = some (.frz o (.tup xs))
/-- a tuple, known whole or not -/
def Tp (H : Hp) (a : Addr) (xs : List V) : Prop := H a = some (.tup xs) ∨ Ex H a xs
theorem Tp.sq {K : PySem.W.Frag} {H : Hp} {a : Addr} {xs : List V} (t : Tp H a xs) : SqT K H a xs := by
  rcases t with e | ⟨o, _, _, e⟩
  · exact SqT.of e
  · exact .inl (.inr ⟨o, e⟩)
theorem Ex.same {H H' : Hp} {a : Addr} {xs : List V} (t : Ex H a xs) (s : Same H H') : Ex H' a xs := let ⟨o, d, c, e⟩ := t; ⟨o, d, c, s _ _ e⟩
theorem Tp.same {H H' : Hp} {a : Addr} {xs : List V} (t : Tp H a xs) (s : Same H H') : Tp H' a xs := t.imp (fun e => s _ _ e) (fun e => e.same s)
theorem Ex.put {H : Hp} {a p : Addr} {xs : List V} {o : HO} (t : Ex H a xs) (n : a ≠ p) : Ex (upd H p o) a xs := let ⟨u, d, c, e⟩ := t; ⟨u, d, c, by rw [upd_ne n]; exact e⟩
theorem Tp.put {H : Hp} {a p : Addr} {xs : List V} {o : HO} (t : Tp H a xs) (n : a ≠ p) : Tp (upd H p o) a xs := t.imp (fun e => by rw [upd_ne n]; exact e) (fun e => e.put n)
theorem Ex.ne_lst {H : Hp} {a p : Addr} {xs ys : List V} (t : Ex H a xs) (e : H p = some (.lst ys)) : a ≠ p := fun z => by
  obtain ⟨u, d, c, e'⟩ := t
  rw [z, e] at e'
  cases e'
theorem Ex.bar {H H' : Hp} {h l a : Addr} {xs : List V} (t : Ex H a xs) (s : Src H h l) (b : Bar h l H H') : Ex H' a xs := by
  obtain ⟨u, d, c, e⟩ := t
  obtain ⟨n1, n2⟩ := s.ne e (fun _ z => by cases z)
  exact ⟨u, d, c, b a _ n1 n2 e⟩
theorem Tp.live {H : Hp} {a : Addr} {xs : List V} (t : Tp H a xs) : ∃ o, H a = some o := by
  rcases t with e | ⟨o, _, _, e⟩
  · exact ⟨_, e⟩
  · exact ⟨_, e⟩

theorem Tp.bar {H H' : Hp} {h l a : Addr} {xs : List V} (t : Tp H a xs) (s : Src H h l) (b : Bar h l H H') : Tp H' a xs := t.imp (fun e => by
  obtain ⟨n1, n2⟩ := s.ne e (fun _ z => by cases z)
  exact b a _ n1 n2 e) (fun e => e.bar s b)
end K14
namespace K14
open PySem PySem.Spec PyProof.Rows L2
def spPick : Sp := fun vs H Q _ => ∃ (h l s : Addr) (xs : List V), vs = [.ref h, .ref s] ∧ Src H h l ∧ (H s = some (.lst xs) ∨ Tp H s xs) ∧ s ≠ h ∧ s ≠ l ∧ 0 < xs.length ∧ xs.length < 10000 ∧
  ∀ (k : Nat) (v : V) (H' : Hp), xs[k]? = some v → Src H' h l → Bar h l H H' → Q v H'
theorem scPick : FnScope ["heap", "some"] ["heap", "some"] (defScope sPick) := ⟨rfl, rfl, rfl, by decide +kernel, rfl, by decide +kernel, by decide +kernel⟩
def spHeap (K : PySem.W.Frag) : Sp := fun vs H Q _ => ∃ (a : Addr) (ns : List Int), vs = [.ref a] ∧ SqL K H a (ns.map V.int) ∧
  ∀ (h l : Addr) (H' : Hp), Same H H' → H h = none → H l = none → Src H' h l → Q (.ref h) H'
theorem scHeap : FnScope ["script", "cell", "cells", "stir"] ["script"] (defScope sHeap) := ⟨rfl, rfl, rfl, by decide +kernel, rfl, by decide +kernel, by decide +kernel⟩
theorem yes {σ : L2.St} {H : Hp} {A : Hp → Prop} {B : Hp → Prop} (h : A H) : tYes σ H (fun b H3 => if b = true then A H3 else B H3) := by
  show (if true = true then A H else B H)
  exact iteT h
theorem cut60 (xs : List V) : cutV xs none (some 60) = xs.take 60 := by
  unfold cutV
  rw [HT.sIx_none, show HT.sIx xs.length xs.length (some 60) = min 60 xs.length from HT.sIx_nat xs.length xs.length 60, List.drop_zero, Nat.sub_zero]
  rw [Nat.min_def]
  split
  · rfl
  · rw [List.take_of_length_le (Nat.le_refl _), List.take_of_length_le (by omega)]
section
variable {P : Program} {w : World} {K : PySem.W.Frag} {mg : Str → Option Value} {base : Heap}
theorem ok_pick {f g : Addr} {fd gd : FuncData} {k : Nat} (F : Fun K "_law_pick" "_law_pick" sPick f fd) (G : FnOk P w K mg base CX0 k g gd ["heap", "many"] spDraw) (bG : Binds K gd ["heap", "many"] []) (kG : PySem.W.keepIn K (.ref g) = true) (mG : mg "_law_draw" = some (.ref g)) (ml : mg "len" = none) :
    FnOk P w K mg base CX0 (k + 1) f fd ["heap", "some"] spPick := by
  refine F.ok scPick (fun vs H Q E h => ?_) (fun cdv A outer s H vs Q E hr h => ?_)
  · obtain ⟨h, l, s, xs, rfl, _⟩ := h
    rfl
  · obtain ⟨h, l, s, xs, rfl, src, es, n1, n2, x0, x1, q⟩ := h
    have at' : ∀ H', Bar h l H H' → SqL K H' s xs ∨ SqT K H' s xs := fun H' b => es.imp (fun e => SqL.of (b _ _ n1 n2 e)) (fun e => (e.bar src b).sq)
    refine ⟨_, pss_one (ps_ret (pe_ix ix_seq (pv 1) (pe_call G hr rfl mG kG bG .nil pass0 (pa_cons (pv 0) (pa_cons (pe_callB call_len_seq (by rfl) ml PySem.boot_len (pa_cons (pv 1) pa_nil)) pa_nil))) (fun _ _ => rfl))), ?_⟩
    refine ⟨_, rfl, _, rfl, _, rfl, s, xs, rfl, at' H Bar.refl, h, l, _, rfl, src, by omega, by omega, fun i H' i0 i1 src' bar => ?_⟩
    obtain ⟨j, rfl⟩ : ∃ j : Nat, i = (j : Int) := ⟨i.toNat, by omega⟩
    have hj : j < xs.length := by omega
    rcases at' H' bar with e | e
    · exact .inl ⟨s, xs, _, _, rfl, rfl, e, atI_nat (List.getElem?_eq_getElem hj), q j _ H' (List.getElem?_eq_getElem hj) src' bar⟩
    · exact .inr (.inl ⟨s, xs, _, _, rfl, rfl, e, atI_nat (List.getElem?_eq_getElem hj), q j _ H' (List.getElem?_eq_getElem hj) src' bar⟩)
theorem ok_heap {f : Addr} {fd : FuncData} {k : Nat} (F : Fun K "_law_heap" "_law_heap" sHeap f fd) (mi : mg "int" = none) (ma : mg "abs" = none) : FnOk P w K mg base CX0 (k + 1) f fd ["script"] (spHeap K) := by
  refine F.ok scHeap (fun vs H Q E h => ?_) (fun cdv A outer s H vs Q E hr h => ?_)
  · obtain ⟨a, ns, rfl, _⟩ := h
    rfl
  · obtain ⟨a, ns, rfl, hS, q⟩ := h
    refine ⟨_, pss_cons (ps_par (i := 2) (j := 3) rfl scHeap.nd rfl rfl (by decide) rfl rfl (pa_cons (pe_lc (own := [("cell", 1)]) (g := gName 1) (tt := tYes) rfl scHeap.nd (pi_list (pe_slice sl_list (pv 0) po_none (po_some pe_int)))
          (blkOk_by (own := [("cell", 1)]) (N := ["script", "cell", "cells", "stir"]) (sc := defScope sHeap) (by decide +kernel)) (fun _ _ _ _ _ => pg_name (i := 1) scHeap.nd rfl (Or.inl rfl)) (fun _ _ _ _ _ => pts_nil)
          (fun _ _ _ _ _ => pe_op op_add (pe_op op_mul pe_int (pe_callB call_abs (by rfl) ma (by decide +kernel) (pa_cons (pv 1) pa_nil))) (pe_callTy call_int1 (by rfl) mi (by decide +kernel) (pa_cons (pe_cmp (pc_lt (pv 1) pe_int) rfl) pa_nil)))) (pa_cons pe_int pa_nil)) (by rfl))
      (pss_cons (ps_for PassesOwn.never rfl (pi_list (pv 2)) (pg_name (i := 1) scHeap.nd rfl (.inl rfl))
        (pss_one (ps_set (i := 3) scHeap.nd rfl (.inl rfl) (pe_op op_mod (pe_callTy call_int1 (by rfl) mi (by decide +kernel) (pa_cons (pe_op op_add (pe_op op_add (pe_op op_mul (pv 3) pe_int) (pe_op op_mod (pe_callTy call_int1 (by rfl) mi (by decide +kernel) (pa_cons (pv 1) pa_nil)) pe_int)) pe_int) pa_nil)) pe_int))))
      (pss_one (ps_ret (pe_lst (pa_cons (pe_revL (pe_lc (own := [("cell", 1)]) (g := gName 1) rfl scHeap.nd (pi_list (pv 2))
          (blkOk_by (own := [("cell", 1)]) (N := ["script", "cell", "cells", "stir"]) (sc := defScope sHeap) (by decide +kernel)) (fun _ _ _ _ _ => pg_name (i := 1) scHeap.nd rfl (Or.inl rfl)) (fun _ _ _ _ _ => pts_one (pt_cmpR op_ge (pv 1) (pe_op op_pow pe_int pe_int) (nomark _)))
          (fun _ _ _ _ _ => pv 1))) (pa_cons (pv 3) pa_nil)))))), ?_⟩
    refine ⟨.ref a, rfl, 60, rfl, a, _, rfl, hS, fun c nc => ?_⟩
    have s1 : Same H (upd H c (.lst (cutV (ns.map V.int) none (some 60)))) := same_upd nc
    have ec : (upd H c (.lst (cutV (ns.map V.int) none (some 60)))) c = some (.lst ((ns.take 60).map V.int)) := by
      rw [upd_same, cut60, List.map_take]
    generalize upd H c (.lst (cutV (ns.map V.int) none (some 60))) = H1 at s1 ec
    refine ⟨c, rfl, ⟨_, SqL.of ec⟩, fun D nD => ?_⟩
    have ncD : c ≠ D := ne_of_none ec nD
    have len60 : (ns.take 60).length ≤ 60 := by rw [List.length_take]; exact Nat.min_le_left _ _
    refine lc_list (K := K) (a := c) (xs := (ns.take 60).map V.int) (fun i H' => ∃ cs : List Int, H' D = some (.lst (cs.map V.int)) ∧ cs.length = i ∧ (∀ z ∈ cs, 0 ≤ z) ∧ H' c = some (.lst ((ns.take 60).map V.int)) ∧ ∀ b o, b ≠ D → H1 b = some o → H' b = some o)
      ⟨[], upd_same, rfl, by simp, by rw [upd_ne ncD]; exact ec, fun b o n e => by rw [upd_ne n]; exact e⟩ (fun i H' _ ⟨_, _, _, _, e, _⟩ => SqL.of e) ?_ ?_
    · rintro i x H' hx ⟨cs, eD, ei, pos, ec', keep⟩
      have hi : i < (ns.take 60).length := by
        have := (List.getElem?_eq_some_iff.mp hx).1
        rw [List.length_map] at this
        exact this
      obtain ⟨u, rfl⟩ : ∃ u, x = V.int u := by
        rw [List.getElem?_map, List.getElem?_eq_getElem hi] at hx
        exact ⟨_, (Option.some.inj hx).symm⟩
      refine ⟨rfl, yes ?_⟩
      refine ⟨_, rfl, _, rfl, _, _, rfl, rfl, .inl ⟨by decide, by decide⟩, _, rfl, u, 0, rfl, rfl, .inr ⟨_, rfl, _, _, rfl, rfl, _, eD, ?_, ?_⟩⟩
      · rw [List.length_map, ei]
        exact small1000 (by omega)
      · refine ⟨cs ++ [2 * (if u < 0 then -u else u) + (if decide (u < 0) = true then 1 else 0)], ?_, by simp [ei], ?_, ?_, fun b o n e => ?_⟩
        · rw [upd_same]
          simp
        · intro z hz
          rcases List.mem_append.mp hz with hz | hz
          · exact pos z hz
          · rw [List.mem_singleton.mp hz]
            split <;> split <;> omega
        · rw [upd_ne ncD]; exact ec'
        · rw [upd_ne n]; exact keep b o n e
    · rintro H2 ⟨cs, eD, ei, pos, ec', keep⟩
      have same2 : Same H H2 := fun b o e => keep b o (fun z => by rw [z] at e; have := s1 _ _ e; rw [nD] at this; cases this) (s1 b o e)
      rw [List.length_map] at ei
      have lc : cs.length ≤ 60 := by omega
      refine ⟨_, _, rfl, ?_⟩
      -- for cell in cells: stir = ..
      refine ⟨_, rfl, D, rfl, ⟨_, SqL.of eD⟩, for_list (K := K) (a := D) (xs := cs.map V.int) (fun i σ H' => ∃ (y : Option V) (z : Int), σ = [some (.ref a), y, some (.ref D), some (.int z)] ∧ 0 ≤ z ∧ z < 2147483648 ∧ H' = H2)
        ⟨none, 80021, rfl, by decide, by decide, rfl⟩ (fun i σ H' _ ⟨_, _, _, _, _, e⟩ => by rw [e]; exact SqL.of eD) ?_ ?_⟩
      · rintro i x σ H' hx ⟨y, z, rfl, z0, z1, rfl⟩
        obtain ⟨u, rfl⟩ : ∃ u, x = V.int u := by
          rw [List.getElem?_map] at hx
          cases e : cs[i]? with
          | none => rw [e] at hx; cases hx
          | some u => rw [e] at hx; exact ⟨u, (Option.some.inj hx).symm⟩
        refine ⟨_, rfl, _, _, rfl, rfl, .inl ⟨by omega, by omega⟩, _, rfl, .inl ⟨_, rfl, _, _, rfl, rfl, (show (0 : Int) < 2147483563 by decide), _, _, rfl, rfl, _, _, rfl, rfl, .inl ⟨_, rfl, _, _, rfl, rfl, (show (0 : Int) < 2147483647 by decide), ?_⟩⟩⟩
        have w0 : 0 ≤ (z * 69621 + u % 2147483563 + 29) % 2147483647 := Int.emod_nonneg _ (by decide)
        have w1 : (z * 69621 + u % 2147483563 + 29) % 2147483647 < 2147483647 := Int.emod_lt_of_pos _ (by decide)
        exact ⟨_, _, rfl, w0, by omega, rfl⟩
      · rintro σ H' ⟨y, z, rfl, z0, z1, rfl⟩
        -- return [[..][::-1], stir]
        refine ⟨_, rfl, D, rfl, ⟨_, SqL.of eD⟩, fun G nG => ?_⟩
        have nDG : D ≠ G := ne_of_none eD nG
        refine lc_list (K := K) (a := D) (xs := cs.map V.int) (fun i H3 => ∃ ds : List Int, H3 G = some (.lst (ds.map V.int)) ∧ ds.length ≤ i ∧ (∀ z ∈ ds, 0 ≤ z) ∧ H3 D = some (.lst (cs.map V.int)) ∧ ∀ b o, b ≠ G → H' b = some o → H3 b = some o)
          ⟨[], upd_same, by simp, by simp, by rw [upd_ne nDG]; exact eD, fun b o n e => by rw [upd_ne n]; exact e⟩ (fun i H3 _ ⟨_, _, _, _, e, _⟩ => SqL.of e) ?_ ?_
        · rintro i x H3 hx ⟨ds, eG, di, dp, eD3, keep3⟩
          have hi : i < cs.length := by
            have := (List.getElem?_eq_some_iff.mp hx).1
            rw [List.length_map] at this
            exact this
          have ex : x = V.int cs[i] := by
            rw [List.getElem?_map, List.getElem?_eq_getElem hi] at hx
            exact (Option.some.inj hx).symm
          subst ex
          refine ⟨rfl, _, rfl, _, _, rfl, rfl, ⟨by decide, by decide, by decide⟩, _, _, rfl, rfl, _, rfl, ?_⟩
          refine ite2 (fun c1 => ?_) (fun c1 => ?_)
          · refine ⟨_, rfl, _, eG, ?_, ds ++ [cs[i]], ?_, by simp; exact di, ?_, ?_, fun b o n e => ?_⟩
            · rw [List.length_map]
              exact small1000 (by omega)
            · rw [upd_same]; simp
            · intro z' hz
              rcases List.mem_append.mp hz with hz | hz
              · exact dp z' hz
              · rw [List.mem_singleton.mp hz]
                exact pos _ (List.getElem_mem hi)
            · rw [upd_ne nDG]; exact eD3
            · rw [upd_ne n]; exact keep3 b o n e
          · exact ⟨ds, eG, by omega, dp, eD3, keep3⟩
        · rintro H3 ⟨ds, eG, di, dp, eD3, keep3⟩
          rw [List.length_map] at di
          have same3 : Same H H3 := fun b o e => keep3 b o (fun z => by rw [z] at e; have := same2 _ _ e; rw [nG] at this; cases this) (same2 b o e)
          refine ⟨G, _, rfl, SqL.of eG, fun p np => ⟨_, rfl, (by show 2 ≤ sizeLine; decide), fun h nh => ?_⟩⟩
          have nhp : p ≠ h := fun e => by rw [← e, upd_same] at nh; cases nh
          have nh3 : H3 h = none := by rw [upd_ne (Ne.symm nhp)] at nh; exact nh
          refine q h p _ (same3.trans ((same_upd np).trans (same_upd nh))) (same3.free nh3) (same3.free np) ⟨ds.reverse, z, upd_same, ?_, ?_, ?_, z0, z1⟩
          · rw [upd_ne nhp, upd_same, List.map_reverse]
          · intro c hc
            exact dp c (List.mem_reverse.mp hc)
          · rw [List.length_reverse]; omega
end
end K14
namespace K14
open PySem PySem.Spec PyProof.Rows L2
theorem call_tupleX {X : Cx} : CallR X (.type "tuple") (fun xs H Q => ∃ p ys, xs = [.ref p] ∧ SqL X.K H p ys ∧ ∀ l H', H l = none → Same H H' → Ex H' l ys → (∀ b o, b ≠ l → H' b = some o → H b = some o) → Q (.ref l) H') := by
  intro pins st σ H xs us Q I r h
  obtain ⟨p, ys, rfl, hq, q⟩ := h
  obtain ⟨u, rfl, rx⟩ := vals1 r
  cases rx
  obtain ⟨its, rv, pl, le⟩ := I.list hq
  have ln := rv.length
  refine call_tuple_list pl.isList (fun h' kp => ?_) (by simp only [List.size_toArray] <;> omega)
  have I1 : Inv X pins σ H { st with heap := h' } := I.kept (t' := st.toks) kp
  have nw := I1.hok.fresh (Nat.le_refl h'.objs.size)
  have I2 : Inv X pins σ (upd H h'.objs.size (.frz { cls := .type "tuple", data := .seq its.toArray } (.tup ys))) { st with heap := h'.push { cls := .type "tuple", data := .seq its.toArray } } :=
    I1.laid (t' := st.toks) (fun b o e => Heap.get?_push_of_some _ e) (Nat.le_refl _) (show ObjOk X.prog X.w _ _ _ (.frz _ (.tup ys)) from ⟨Heap.get?_push_size _ rfl, le, its, rv, IsTup.new _ _⟩)
  exact ⟨.ref h'.objs.size, _, I2, rfl, q _ _ nw (same_upd nw) ⟨_, rfl, rfl, upd_same⟩ fun b o ne e => by rw [upd_ne ne] at e; exact e⟩
/-- the call of a tuple's method -/
def tBMT (r : V → List V → Hp → VK → Prop) (to : TE) (t : TA) : TE := fun σ H Q => to σ H fun x H1 => (∃ p xs, x = .ref p ∧ Ex H1 p xs) ∧ t σ H1 fun xs H2 => r x xs H2 Q
theorem pe_bmT {X : Cx} {o e : Expr} {es : List Expr} {to : TE} {t : TA} {name : Str} {apos cpos : Pos} {id : String} {r : V → List V → Hp → VK → Prop} (pa : PlainAttrs "tuple") (slot : Slot "tuple" name id) (hty : typeOf (.builtin id) = pure (.type "method_descriptor")) (hm : MtR X id r) (ho : PE X o to) (ha : PA X (e :: es) t)
    (hbase : attributeBase o name X.env (eval o X.env) = eval o X.env := by rfl) (hfew : ((backTo cpos (starEach (e :: es) X.env)).all (fun x => !x.1) && (backToKw cpos (keywordEach [] X.env)).all (fun x => x.1.isSome) && decide ((e :: es).length + ([] : List Keyword).length + (if ([] : List Keyword).isEmpty then 0 else 1) < 30)) = true := by rfl)
    (hline : (apos.endLine == cpos.line) = true := by rfl) (hs : starEach (e :: es) X.env = (false, eval e X.env) :: starEach es X.env := by rfl) (hplain : (backTo cpos (starEach es X.env)).any (·.1) = false := by rfl) : PE X (.Call (.Attribute o name apos) (e :: es) [] cpos) (tBMT r to t) := by
  refine ⟨fun pins s σ H Q I h => wpAny_Call_method_late hbase hfew hline rfl (thn (ho.run pins s σ H _ I h) fun v s1 ⟨x, H1, I1, r1, ty, q1⟩ => ?_)⟩
  obtain ⟨p, xs, rfl, ob, hd, hc, e1⟩ := ty
  cases r1
  have live := (I1.hok p _ e1).1
  refine ⟨"tuple", id, pa, slot, hty, ⟨ob, live, hc⟩, fun a ea => ?_, ?_⟩
  · cases ea
    exact ⟨ob, live, hd⟩
  · have hA := ha.run cpos pins s1 σ H1 _ I1 q1
    rw [hs] at hA ⊢
    refine Calls.callWith_builtin (by show (false || (backTo cpos (starEach es X.env)).any (·.1)) = false; rw [hplain] <;> rfl) (Calls.evalArgs_plain ?_)
    exact thn hA fun us s2 ⟨vs, H2, I2, r2, q2⟩ => hm pins s2 σ H2 (.ref p) vs (.ref p) us Q I2 rfl r2 q2
end K14
namespace K14
open PySem PySem.Spec PyProof.Rows L2
theorem seqcut {t u : TS} {D : Ends} {σ : L2.St} {H : Hp} (Y : L2.St → Hp → Prop) (out : ∀ σ H, Y σ H → u D σ H) (k : (∀ σ H, Y σ H → u D σ H) → t { D with nx := u D } σ H) : tSeq t u D σ H := k out
theorem gn {i : Nat} {v : V} {σ : L2.St} {H : Hp} {Q : L2.St → Hp → Prop} (h : Q (σ.set i (some v)) H) : gName i v σ H Q := h
theorem Src.new {H : Hp} {h l p : Addr} (s : Src H h l) (n : H p = none) : p ≠ h ∧ p ≠ l := by
  obtain ⟨cs, z, a, b, r⟩ := s.ex
  exact ⟨fun e => (by rw [e, a] at n; cases n), fun e => (by rw [e, b] at n; cases n)⟩
theorem Bar.free {h l p : Addr} {H H' : Hp} (b : Bar h l H H') (s : Src H' h l) (n : H' p = none) : H p = none := by
  obtain ⟨n1, n2⟩ := s.new n
  cases e : H p with
  | none => rfl
  | some o => rw [b p o n1 n2 e] at n; cases n
theorem Bar.fresh {h l p : Addr} {H H' : Hp} {o : HO} (b : Bar h l H H') (n : H p = none) : Bar h l H (upd H' p o) := fun c u n1 n2 e => by
  rw [upd_ne (ne_of_none e n)]
  exact b c u n1 n2 e
theorem Src.put {H : Hp} {h l p : Addr} {o : HO} (s : Src H h l) (n1 : p ≠ h) (n2 : p ≠ l) : Src (upd H p o) h l := by
  obtain ⟨cs, z, a, b, r⟩ := s.ex
  exact ⟨cs, z, by rw [upd_ne (Ne.symm n1)]; exact a, by rw [upd_ne (Ne.symm n2)]; exact b, r⟩
theorem Src.updn {H : Hp} {h l p : Addr} {o : HO} (s : Src H h l) (n : H p = none) : Src (upd H p o) h l := s.put (s.new n).1 (s.new n).2
theorem ofN {H : Hp} {p q : Addr} {o u : HO} (n : H p = none) (e : H q = some u) : (upd H p o) q = some u := by rw [upd_ne (ne_of_none e n)]; exact e
theorem sz5 {n : Nat} (h : n ≤ 100000) : n ≤ sizeLine := Nat.le_trans h (by decide)
theorem sz6 {n : Nat} (h : n ≤ 100000) : n < sizeLine := Nat.lt_of_le_of_lt h (by decide)

/-! ### the same things in a drawn sequence -/
def spShuffled : Sp := fun vs H Q _ => ∃ (h l s : Addr) (xs : List V), vs = [.ref h, .ref s] ∧ Src H h l ∧ (H s = some (.lst xs) ∨ H s = some (.tup xs)) ∧ s ≠ h ∧ s ≠ l ∧ xs.length ≤ 50000 ∧
  ∀ (r : Addr) (ys : List V) (H' : Hp), ys.Perm xs → Src H' h l → Bar h l H H' → H r = none → Ex H' r ys → Q (.ref r) H'
theorem scShuffled : FnScope ["heap", "some", "left", "found", "turn"] ["heap", "some"] (defScope sShuffled) := ⟨rfl, rfl, rfl, by decide +kernel, rfl, by decide +kernel, by decide +kernel⟩
theorem erase_perm {α : Type} : ∀ {us : List α} {k : Nat} {y : α}, us[k]? = some y → (y :: us.eraseIdx k).Perm us
  | [], k, y, e => by simp at e
  | u :: r, 0, y, e => by
    have : u = y := by simpa using e
    subst this
    exact List.Perm.refl _
  | u :: r, k + 1, y, e => by
    have e' : r[k]? = some y := by simpa using e
    exact (List.Perm.swap u y _).trans ((erase_perm e').cons u)
theorem perm_pop {xs us fs : List V} {k : Nat} {y : V} (p : (fs ++ us).Perm xs) (e : us[k]? = some y) : ((fs ++ [y]) ++ us.eraseIdx k).Perm xs := by
  refine List.Perm.trans ?_ p
  rw [List.append_assoc]
  refine List.Perm.append_left fs ?_
  exact erase_perm e
section
variable {P : Program} {w : World} {K : PySem.W.Frag} {mg : Str → Option Value} {base : Heap}
theorem ok_shuffled {f g : Addr} {fd gd : FuncData} {k : Nat} (F : Fun K "_law_shuffled" "_law_shuffled" sShuffled f fd) (G : FnOk P w K mg base CX0 k g gd ["heap", "many"] spDraw) (bG : Binds K gd ["heap", "many"] []) (kG : PySem.W.keepIn K (.ref g) = true) (mG : mg "_law_draw" = some (.ref g)) (ml : mg "len" = none) (mr : mg "range" = none) (mli : mg "list" = none) (mt : mg "tuple" = none) :
    FnOk P w K mg base CX0 (k + 1) f fd ["heap", "some"] spShuffled := by
  refine F.ok scShuffled (fun vs H Q E h => ?_) (fun cdv A outer s H vs Q E hr h => ?_)
  · obtain ⟨h, l, s, xs, rfl, _⟩ := h
    rfl
  · obtain ⟨h, l, s, xs, rfl, src, es, n1, n2, x1, q⟩ := h
    refine ⟨_, pss_cons (ps_par (i := 2) (j := 3) rfl scShuffled.nd rfl rfl (by decide) rfl rfl (pa_cons (pe_callTy call_list_of (by rfl) mli (by decide +kernel) (pa_cons (pv 1) pa_nil)) (pa_cons (pe_lst pa_nil) pa_nil)) (by rfl))
      (pss_cons (ps_for PassesOwn.never rfl (pi_range1 rfl mr (pa_cons (pe_callB call_len_seq (by rfl) ml PySem.boot_len (pa_cons (pv 1) pa_nil)) pa_nil)) (pg_name (i := 4) scShuffled.nd rfl (.inl rfl))
        (pss_one (ps_expr (pe_bm PySem.F.plainAttrs_list PySem.F.slot_list_append PySem.F.type_list_append mt_append (pv 3) (pa_cons
          (pe_bm PySem.F.plainAttrs_list PySem.F.slot_list_pop PySem.F.type_list_pop mt_popAt (pv 2) (pa_cons
            (pe_call G hr rfl mG kG bG .nil pass0 (pa_cons (pv 0) (pa_cons (pe_callB call_len_seq (by rfl) ml PySem.boot_len (pa_cons (pv 2) pa_nil)) pa_nil))) pa_nil)) pa_nil)))))
      (pss_one (ps_ret (pe_callTy call_tupleX (by rfl) mt (by decide +kernel) (pa_cons (pv 3) pa_nil))))), ?_⟩
    have key : ∃ o, H s = some o ∧ ∀ H' : Hp, H' s = some o → SqL K H' s xs ∨ SqT K H' s xs := by
      rcases es with e | e
      · exact ⟨_, e, fun H' e' => .inl (SqL.of e')⟩
      · exact ⟨_, e, fun H' e' => .inr (SqT.of e')⟩
    obtain ⟨so, eso, sqs⟩ := key
    refine ⟨_, rfl, s, xs, rfl, sqs H eso, fun p np => ⟨Nat.zero_le _, fun r nr => ?_⟩⟩
    have ep0 : (upd H p (.lst xs)) p = some (.lst xs) := upd_same
    have npr : p ≠ r := ne_of_none ep0 nr
    have nr0 : H r = none := by rw [upd_ne (Ne.symm npr)] at nr; exact nr
    obtain ⟨nph, npl⟩ := src.new np
    obtain ⟨nrh, nrl⟩ := src.new nr0
    have nsp : s ≠ p := ne_of_none eso np
    have nsr : s ≠ r := ne_of_none eso nr0
    have e1 : (upd (upd H p (.lst xs)) r (.lst [])) s = some so := by rw [upd_ne nsr, upd_ne nsp]; exact eso
    refine ⟨_, _, rfl, _, rfl, s, xs, rfl, sqs _ e1, xs.length, rfl, (by omega), (by omega), for_range (lo := 0) (n := xs.length) (fun i σ H' => ∃ (us fs : List V) (y : Option V), σ = [some (.ref h), some (.ref s), some (.ref p), some (.ref r), y] ∧ H' p = some (.lst us) ∧ H' r = some (.lst fs) ∧ (fs ++ us).Perm xs ∧ fs.length = i ∧ Src H' h l ∧ Bar h l H H')
      ⟨xs, [], none, rfl, by rw [upd_ne npr]; exact ep0, upd_same, .refl _, rfl, (src.updn np).put nrh nrl, (Bar.refl.fresh np).fresh nr0⟩ ?_ ?_⟩
    · rintro i σ H' hi ⟨us, fs, y, rfl, ep, er, pm, fl, sr, bar⟩
      have ln : fs.length + us.length = xs.length := by rw [← List.length_append]; exact pm.length_eq
      refine gn ?_
      dsimp only [List.set]
      refine ⟨_, rfl, .inl ⟨rfl, _, SqL.of er⟩, _, rfl, .inl ⟨rfl, _, SqL.of ep⟩, _, rfl, _, rfl, p, us, rfl, .inl (SqL.of ep), h, l, _, rfl, sr, by omega, by omega, fun j H2 j0 j1 sr2 bar2 => ?_⟩
      obtain ⟨j, rfl⟩ : ∃ j' : Nat, j = (j' : Int) := ⟨j.toNat, by omega⟩
      have hj : j < us.length := by omega
      obtain ⟨m, im, um, m0, _⟩ := atI_get (atI_nat (List.getElem?_eq_getElem hj))
      refine ⟨p, us, j, m, us[j], rfl, rfl, bar2 _ _ nph npl ep, by omega, by omega, im, um, ?_⟩
      · have lm := (erase_perm um).length_eq
        rw [List.length_cons] at lm
        have er2 : (upd H2 p (.lst (us.eraseIdx m))) r = some (.lst fs) := by rw [upd_ne (Ne.symm npr)]; exact bar2 _ _ nrh nrl er
        refine ⟨r, fs, _, rfl, rfl, er2, sz6 (by omega), us.eraseIdx m, fs ++ [us[j]], _, rfl, by rw [upd_ne npr, upd_same], upd_same, perm_pop pm um, by simp [fl], (sr2.put nph npl).put nrh nrl, ((bar.trans bar2).fresh np).fresh nr0⟩
    · rintro σ H' ⟨us, fs, y, rfl, ep, er, pm, fl, sr, bar⟩
      have ln : fs.length + us.length = xs.length := by rw [← List.length_append]; exact pm.length_eq
      have u0 : us = [] := List.eq_nil_of_length_eq_zero (by omega)
      subst u0
      rw [List.append_nil] at pm
      exact ⟨_, rfl, r, fs, rfl, SqL.of er, fun t H3 nt s3 ex _ => q t fs _ pm (sr.same s3) (bar.trans (.same s3)) (bar.free sr nt) ex⟩
end
end K14
namespace K14
open PySem PySem.Spec PyProof.Rows L2
abbrev SS (l : List Nat) : Str := ⟨l.toArray⟩
theorem SS_len (l : List Nat) : (SS l).length = l.length := by simp [SS, Str.length]
theorem SS_cps (l : List Nat) : (SS l).cps.toList = l := rfl
theorem SS_inj {a b : List Nat} (h : SS a = SS b) : a = b := by
  have : (SS a).cps.toList = (SS b).cps.toList := by rw [h]
  exact this
theorem SS_of (s : Str) : SS s.cps.toList = s := rfl
theorem ltCps_eq : ∀ a b : List Nat, ltCps a b = decide (a < b)
  | [], [] => rfl
  | [], _ :: _ => by simp [ltCps]
  | _ :: _, [] => by simp [ltCps]
  | a :: r, b :: t => by
    rw [ltCps, ltCps_eq r t, Bool.eq_iff_iff]
    simp [List.cons_lt_cons_iff]
/-- names: so many, ascending, of one to six letters -/
structure NamesOk (many : Nat) (ns : List (List Nat)) : Prop where
  len : ns.length = many
  each : ∀ s ∈ ns, 1 ≤ s.length ∧ s.length ≤ 6 ∧ ∀ c ∈ s, 97 ≤ c ∧ c ≤ 122
  asc : ∀ i s t, ns[i]? = some s → ns[i + 1]? = some t → s < t
theorem lt_of_not {a b : List Nat} (h : ¬ b < a) (n : a ≠ b) : a < b := by
  rcases List.le_total a b with h1 | h1
  · exact Classical.byContradiction fun z => n (List.le_antisymm h1 (List.not_lt.mp z))
  · exact Classical.byContradiction fun z => n (List.le_antisymm (List.not_lt.mp h) h1)
theorem rising_asc : ∀ (ys : List Str), sortedS ys = true → ys.Nodup → ∀ i s t, (ys.map fun y => y.cps.toList)[i]? = some s → (ys.map fun y => y.cps.toList)[i + 1]? = some t → s < t
  | [], _, _, i, s, t, e, _ => by simp at e
  | [x], _, _, i, s, t, e, e2 => by simp at e2
  | x :: y :: r, h, nd, i, s, t, e, e2 => by
    have h' : (!ltCps y.cps.toList x.cps.toList && risingS y r) = true := by
      have : risingS x (y :: r) = true := h
      rw [risingS] at this
      exact this
    rw [Bool.and_eq_true] at h'
    cases i with
    | zero =>
      have es : x.cps.toList = s := by simpa using e
      have et : y.cps.toList = t := by simpa using e2
      subst es
      subst et
      refine lt_of_not ?_ ?_
      · intro z
        have h1 := h'.1
        rw [ltCps_eq, decide_eq_true z] at h1
        cases h1
      · intro z
        have : x = y := by
          have z' : x.cps = y.cps := by
            apply Array.ext'
            exact z
          cases x; cases y; cases z'; rfl
        rw [List.nodup_cons] at nd
        exact nd.1 (by rw [this]; simp)
    | succ j =>
      exact rising_asc (y :: r) h'.2 (List.nodup_cons.mp nd).2 j s t (by simpa using e) (by simpa using e2)
def nmAt (F : List Nat) (a i : Nat) : List Nat := F ++ [97 + (a + 7 * i) % 26]
theorem nmAt_inj {F : List Nat} {a i j : Nat} (hi : i < 26) (hj : j < 26) (h : nmAt F a i = nmAt F a j) : i = j := by
  have h1 := List.append_cancel_left h
  have h2 : 97 + (a + 7 * i) % 26 = 97 + (a + 7 * j) % 26 := by simpa using h1
  omega
def nms (F : List Nat) (a n : Nat) : List (List Nat) := (List.range n).map (nmAt F a)
theorem nms_len (F : List Nat) (a n : Nat) : (nms F a n).length = n := by simp [nms]
theorem nms_succ (F : List Nat) (a n : Nat) : nms F a (n + 1) = nms F a n ++ [nmAt F a n] := by simp [nms, List.range_succ]
theorem nms_nodup {F : List Nat} {a n : Nat} (h : n ≤ 26) : (nms F a n).Nodup := by
  unfold nms
  refine List.pairwise_map.mpr ?_
  refine List.Pairwise.imp_of_mem ?_ (List.nodup_range (n := n))
  intro i j hi hj ne e
  rw [List.mem_range] at hi hj
  exact ne (nmAt_inj (by omega) (by omega) e)
theorem nms_each {F : List Nat} {a n : Nat} (h5 : F.length ≤ 5) (hF : ∀ c ∈ F, 97 ≤ c ∧ c ≤ 122) : ∀ s ∈ nms F a n, 1 ≤ s.length ∧ s.length ≤ F.length + 1 ∧ ∀ c ∈ s, 97 ≤ c ∧ c ≤ 122 := by
  intro s hs
  obtain ⟨i, _, rfl⟩ := List.mem_map.mp hs
  refine ⟨by simp [nmAt], by simp [nmAt], fun c hc => ?_⟩
  rcases List.mem_append.mp hc with hc | hc
  · exact hF c hc
  · rw [List.mem_singleton.mp hc]
    omega
/-- the first one longer by a letter -/
theorem nms_set {F : List Nat} {a n : Nat} (h : n ≤ 26) (n0 : 0 < n) : ((nms F a n).set 0 (nmAt F a 0 ++ [111])).Nodup := by
  obtain ⟨m, rfl⟩ : ∃ m, n = m + 1 := ⟨n - 1, by omega⟩
  have nd := nms_nodup (F := F) (a := a) h
  have e : nms F a (m + 1) = nmAt F a 0 :: (nms F a (m + 1)).drop 1 := by
    unfold nms
    rw [List.range_succ_eq_map]
    simp
  rw [e] at nd ⊢
  rw [List.set_cons_zero]
  rw [List.nodup_cons] at nd ⊢
  refine ⟨fun hm => ?_, nd.2⟩
  have hm' : nmAt F a 0 ++ [111] ∈ nms F a (m + 1) := by rw [e]; exact List.mem_cons_of_mem _ hm
  obtain ⟨i, _, ei⟩ := List.mem_map.mp hm'
  have := congrArg List.length ei
  simp [nmAt] at this
theorem names_of {many : Nat} {zs : List (List Nat)} {ys : List Str} (l : zs.length = many) (nd : zs.Nodup) (ea : ∀ s ∈ zs, 1 ≤ s.length ∧ s.length ≤ 6 ∧ ∀ c ∈ s, 97 ≤ c ∧ c ≤ 122) (p : ys.Perm (zs.map SS)) (so : sortedS ys = true) : ∃ ns, NamesOk many ns ∧ ys = ns.map SS := by
  refine ⟨ys.map fun y => y.cps.toList, ⟨?_, ?_, ?_⟩, ?_⟩
  · rw [List.length_map, p.length_eq, List.length_map, l]
  · intro s hs
    obtain ⟨y, hy, rfl⟩ := List.mem_map.mp hs
    obtain ⟨z, hz, rfl⟩ := List.mem_map.mp (p.mem_iff.mp hy)
    exact ea z hz
  · refine rising_asc ys so ?_
    rw [p.nodup_iff]
    refine List.pairwise_map.mpr (List.Pairwise.imp ?_ nd)
    intro a b ne e
    exact ne (SS_inj e)
  · rw [List.map_map]
    have : (SS ∘ fun y : Str => y.cps.toList) = id := by
      funext y
      rfl
    rw [this, List.map_id]
end K14
namespace K14
open PySem PySem.Spec PyProof.Rows L2
theorem let_get {j : Nat} (h : j < 26) : ("abcdefghijklmnopqrstuvwxyz" : Str).cps.toList[j]? = some (97 + j) := by
  have e : ("abcdefghijklmnopqrstuvwxyz" : Str) = SS (List.range' 97 26) := by decide +kernel
  rw [e]
  show (List.range' 97 26)[j]? = _
  rw [List.getElem?_range' h]
  congr 1
  omega
theorem SS_app (a b : List Nat) : SS a ++ SS b = SS (a ++ b) := by
  show (⟨a.toArray ++ b.toArray⟩ : Str) = ⟨(a ++ b).toArray⟩
  rw [List.append_toArray]
theorem szS5 {F : List Nat} (h : F.length ≤ 5) : (SS F).length ≤ sizeLine := by rw [SS_len]; exact sz5 (by omega)
theorem ixN_zero {m : Nat} (h : 0 < m) : ixN m 0 = some 0 := by
  unfold ixN
  rw [if_pos (by decide), if_pos (by omega)]
  rfl
def VN (ns : List (List Nat)) : List V := ns.map fun s => V.str (SS s)
theorem VN_eq (ns : List (List Nat)) : VN ns = (ns.map SS).map V.str := by simp [VN]
def spNames : Sp := fun vs H Q _ => ∃ (h l : Addr) (many : Nat), vs = [.ref h, .int many] ∧ Src H h l ∧ 0 < many ∧ many ≤ 26 ∧
  ∀ (r : Addr) (ns : List (List Nat)) (H' : Hp), NamesOk many ns → Src H' h l → Bar h l H H' → H r = none → H' r = some (.tup (VN ns)) → Q (.ref r) H'
theorem scNames : FnScope ["heap", "many", "letters", "front", "first", "found", "at"] ["heap", "many"] (defScope sNames) := ⟨rfl, rfl, rfl, by decide +kernel, rfl, by decide +kernel, by decide +kernel⟩
section
variable {P : Program} {w : World} {K : PySem.W.Frag} {mg : Str → Option Value} {base : Heap}
theorem ok_names {f g p : Addr} {fd gd pd : FuncData} {k : Nat} (F : Fun K "_law_names" "_law_names" sNames f fd) (G : FnOk P w K mg base CX0 k g gd ["heap", "many"] spDraw) (bG : Binds K gd ["heap", "many"] []) (kG : PySem.W.keepIn K (.ref g) = true) (mG : mg "_law_draw" = some (.ref g))
    (R : FnOk P w K mg base CX0 k p pd ["heap", "some"] spPick) (bR : Binds K pd ["heap", "some"] []) (kR : PySem.W.keepIn K (.ref p) = true) (mR : mg "_law_pick" = some (.ref p)) (mi : mg "int" = none) (ml : mg "len" = none) (mr : mg "range" = none) (ms : mg "sorted" = none) (mt : mg "tuple" = none) :
    FnOk P w K mg base CX0 (k + 1) f fd ["heap", "many"] spNames := by
  refine F.ok scNames (fun vs H Q E h => ?_) (fun cdv A outer s H vs Q E hr h => ?_)
  · obtain ⟨h, l, many, rfl, _⟩ := h
    rfl
  · obtain ⟨h, l, many, rfl, src, m0, m1, q⟩ := h
    refine ⟨_, pss_cons (ps_asg (pe_tup (pa_cons pe_str (pa_cons (pe_call R hr rfl mR kR bR .nil pass0 (pa_cons (pv 0) (pa_cons (pe_lst (pa_cons pe_str (pa_cons pe_str (pa_cons pe_str (pa_cons pe_str (pa_cons pe_str pa_nil)))))) pa_nil))) (pa_cons (pe_call G hr rfl mG kG bG .nil pass0 (pa_cons (pv 0) (pa_cons pe_int pa_nil))) pa_nil)))) (pg_tup (by rfl) (pgs_cons (pg_name (i := 2) scNames.nd rfl (.inr rfl)) (pgs_cons (pg_name (i := 3) scNames.nd rfl (.inr rfl)) (pgs_cons (pg_name (i := 4) scNames.nd rfl (.inr rfl)) pgs_nil)))))
      (pss_cons (ps_setLc (i := 5) (own := [("at", 6)]) (g := gName 6) (tt := tYes) rfl scNames.nd rfl rfl (sw_true rfl rfl rfl (by decide +kernel)) (pi_range1 rfl mr (pa_cons (pv 1) pa_nil))
          (blkOk_by (own := [("at", 6)]) (N := ["heap", "many", "letters", "front", "first", "found", "at"]) (sc := defScope sNames) (by decide +kernel)) (fun _ _ _ _ _ => pg_name (i := 6) scNames.nd rfl (Or.inl rfl)) (fun _ _ _ _ _ => pts_nil)
          (fun _ _ _ _ _ => pe_op op_add_str (pv 3) (pe_ix ix_str (pv 2) (pe_op op_mod (pe_callTy call_int1 (by rfl) mi (by decide +kernel) (pa_cons (pe_op op_add (pv 4) (pe_op op_mul pe_int (pv 6))) pa_nil)) pe_int) (fun _ _ => rfl))))
      (pss_cons (ps_if (PW.pt (pw_and (pt_cmpR op_lt (pe_callB call_len_str (by rfl) ml PySem.boot_len (pa_cons (pv 3) pa_nil)) pe_int (nomark _)) (pw_and1 (pt_cmpR op_eq (pe_call G hr rfl mG kG bG .nil pass0 (pa_cons (pv 0) (pa_cons pe_int pa_nil))) pe_int (nomark _)))))
        (pss_one (ps_asg (pe_op op_add_str (pe_ix ix_list (pv 5) pe_int (fun _ _ => rfl)) pe_str) (pg_sub (pv 5) pe_int set_list))) pss_nil)
      (pss_one (ps_ret (pe_callTy call_tuple_of (by rfl) mt (by decide +kernel) (pa_cons (pe_callB cr_sortedS (by rfl) ms (by decide +kernel) (pa_cons (pv 5) pa_nil)) pa_nil)))))), ?_⟩
    refine ⟨_, rfl, (by show 5 ≤ sizeLine; decide), fun u nu => ?_⟩
    obtain ⟨nuh, nul⟩ := src.new nu
    refine ⟨h, l, u, _, rfl, src.updn nu, .inl upd_same, nuh, nul, by simp, by simp, fun j v H1 hv src1 bar1 => ?_⟩
    obtain ⟨F0, rfl, f5, fl⟩ : ∃ F0 : List Nat, v = .str (SS F0) ∧ F0.length ≤ 5 ∧ ∀ c ∈ F0, 97 ≤ c ∧ c ≤ 122 := by
      match j, hv with
      | 0, hv => exact ⟨[], (Option.some.inj hv).symm, by decide, by decide⟩
      | 1, hv => exact ⟨[], (Option.some.inj hv).symm, by decide, by decide⟩
      | 2, hv => exact ⟨[98], (Option.some.inj hv).symm, by decide, by decide⟩
      | 3, hv => exact ⟨[122, 122], (Option.some.inj hv).symm, by decide, by decide⟩
      | 4, hv => exact ⟨[109, 110, 111, 112, 113], (Option.some.inj hv).symm, by decide, by decide⟩
    have bar01 : Bar h l H H1 := (Bar.refl.fresh nu).trans bar1
    refine ⟨_, rfl, h, l, 26, rfl, src1, by decide, by decide, fun x H2 x0 x1 src2 bar2 => ?_⟩
    obtain ⟨a, rfl⟩ : ∃ a : Nat, x = (a : Int) := ⟨x.toNat, by omega⟩
    have bar02 : Bar h l H H2 := bar01.trans bar2
    refine ⟨(by show 3 ≤ sizeLine; decide), fun t nt => ?_⟩
    have nt0 := bar02.free src2 nt
    refine ⟨t, _, rfl, SqT.of upd_same, rfl, ?_⟩
    have bar03 := bar02.fresh (o := .tup [.str "abcdefghijklmnopqrstuvwxyz", .str (SS F0), .int a]) nt0
    have src3 := src2.updn (o := .tup [.str "abcdefghijklmnopqrstuvwxyz", .str (SS F0), .int a]) nt
    generalize upd H2 t (.tup [.str "abcdefghijklmnopqrstuvwxyz", .str (SS F0), .int a]) = H3 at bar03 src3
    refine ⟨_, _, rfl, gn ⟨_, _, rfl, gn ⟨_, _, rfl, gn ⟨rfl, ?_⟩⟩⟩⟩
    dsimp only [List.set]
    refine ⟨_, rfl, _, rfl, by omega, by omega, fun D nD => ?_⟩
    have nD0 := bar03.free src3 nD
    obtain ⟨nDh, nDl⟩ := src3.new nD
    refine lc_range (lo := 0) (n := many) (fun i H' => H' D = some (.lst ((nms F0 a i).map fun s => V.str (SS s))) ∧ Src H' h l ∧ Bar h l H H')
      ⟨upd_same, src3.updn nD, bar03.fresh nD0⟩ ?_ ?_
    · rintro i H4 hi ⟨eD, sr, br⟩
      have hm : (a + 7 * i) % 26 < 26 := Nat.mod_lt _ (by decide)
      refine gn ⟨rfl, yes ?_⟩
      refine ⟨_, rfl, _, rfl, _, rfl, _, rfl, _, _, rfl, rfl, .inl ⟨by decide, by decide⟩, _, _, rfl, rfl, .inl ⟨_, rfl, _, _, rfl, rfl, (show (0 : Int) < 26 by decide), ?_⟩⟩
      have em : ((a : Int) + 7 * (0 + (i : Int))) % 26 = ((a + 7 * i) % 26 : Nat) := by omega
      dsimp only
      rw [em]
      refine ⟨_, _, 97 + (a + 7 * i) % 26, rfl, rfl, (by decide), atI_nat (let_get hm), _, _, rfl, rfl, ?_, _, eD, ?_, ?_, sr.put nDh nDl, br.fresh nD0⟩
      · rw [SS_len]
        show F0.length + 1 ≤ sizeLine
        exact sz5 (by omega)
      · rw [List.length_map, nms_len]
        exact sz6 (by omega)
      · rw [upd_same, nms_succ, List.map_append]
        have e : SS F0 ++ (⟨#[97 + (a + 7 * i) % 26]⟩ : Str) = SS (nmAt F0 a i) := SS_app F0 [97 + (a + 7 * i) % 26]
        rw [e]
        rfl
    · rintro H4 ⟨eD, sr, br⟩
      dsimp only
      refine seqcut (fun σ' H' => ∃ zs : List (List Nat), σ' = [some (.ref h), some (.int many), some (.str "abcdefghijklmnopqrstuvwxyz"), some (.str (SS F0)), some (.int a), some (.ref D), none] ∧ H' D = some (.lst (zs.map fun s => V.str (SS s))) ∧ zs.length = many ∧ zs.Nodup ∧ (∀ s ∈ zs, 1 ≤ s.length ∧ s.length ≤ 6 ∧ ∀ c ∈ s, 97 ≤ c ∧ c ≤ 122) ∧ Src H' h l ∧ Bar h l H H') ?_ (fun out => ?_)
      · rintro σ' H' ⟨zs, rfl, eD', lz, nd, ea, sr', br'⟩
        refine ⟨_, rfl, D, zs.map SS, rfl, SqL.of (by rw [eD']; simp), by simp [lz]; omega, fun ys p' pm so np => ?_⟩
        obtain ⟨ns, ok, rfl⟩ := names_of lz nd ea pm so
        have np0 := br'.free sr' np
        refine ⟨p', _, rfl, .inl ⟨SqL.of upd_same, fun r nr => ?_⟩⟩
        have nr0 := (br'.fresh (o := .lst ((ns.map SS).map V.str)) np0).free (sr'.updn np) nr
        refine q r ns _ ok ((sr'.updn np).updn nr) ((br'.fresh np0).fresh nr0) nr0 ?_
        rw [upd_same, VN_eq]
      · have eaN := nms_each (n := many) (a := a) f5 fl
        have same : (∃ zs : List (List Nat), zs = nms F0 a many) := ⟨_, rfl⟩
        refine ⟨_, rfl, _, rfl, szS5 f5, _, _, rfl, rfl, _, rfl, ?_⟩
        refine ite2 (fun c1 => ?_) (fun c1 => ?_)
        · refine ⟨_, rfl, h, l, 2, rfl, sr, by decide, by decide, fun y H5 y0 y1 src5 bar5 => ?_⟩
          have eD5 := bar5 _ _ nDh nDl eD
          refine ⟨rfl, _, rfl, ?_⟩
          refine ite2 (fun c2 => ?_) (fun c2 => ?_)
          · have hz : ((nms F0 a many).map fun s => V.str (SS s))[0]? = some (V.str (SS (nmAt F0 a 0))) := by
              rw [List.getElem?_map]
              unfold nms
              rw [List.getElem?_map, List.getElem?_range m0]
              rfl
            refine ⟨_, rfl, D, _, 0, _, rfl, rfl, SqL.of eD5, atI_nat (j := 0) hz, _, _, rfl, rfl, ?_, _, rfl, D, _, _, 0, rfl, rfl, eD5, ?_, ?_⟩
            · rw [SS_len]
              simp only [nmAt, List.length_append, List.length_singleton]
              show F0.length + 1 + 1 ≤ sizeLine
              exact sz5 (by omega)
            · rw [List.length_map, nms_len]
              exact ixN_zero m0
            · refine out _ _ ⟨(nms F0 a many).set 0 (nmAt F0 a 0 ++ [111]), rfl, ?_, by simp [nms_len], nms_set m1 m0, ?_, src5.put nDh nDl, (br.trans bar5).fresh nD0⟩
              · rw [upd_same, List.map_set]
                have e : SS (nmAt F0 a 0) ++ ("o" : Str) = SS (nmAt F0 a 0 ++ [111]) := SS_app (nmAt F0 a 0) [111]
                rw [e]
              · intro s hs
                have lt4 : F0.length < 5 := by
                  rw [SS_len] at c1
                  exact Int.ofNat_lt.mp (of_decide_eq_true c1)
                rcases List.mem_or_eq_of_mem_set hs with hs | rfl
                · obtain ⟨a1, a2, a3⟩ := eaN s hs
                  exact ⟨a1, by omega, a3⟩
                · refine ⟨by simp, by simp [nmAt]; omega, fun c hc => ?_⟩
                  rcases List.mem_append.mp hc with hc | hc
                  · rcases List.mem_append.mp hc with hc | hc
                    · exact fl c hc
                    · rw [List.mem_singleton.mp hc]
                      omega
                  · rw [List.mem_singleton.mp hc]
                    decide
          · exact out _ _ ⟨nms F0 a many, rfl, eD5, nms_len _ _ _, nms_nodup m1, fun s hs => ⟨(eaN s hs).1, by have := (eaN s hs).2.1; omega, (eaN s hs).2.2⟩, src5, br.trans bar5⟩
        · exact out _ _ ⟨nms F0 a many, rfl, eD, nms_len _ _ _, nms_nodup m1, fun s hs => ⟨(eaN s hs).1, by have := (eaN s hs).2.1; omega, (eaN s hs).2.2⟩, sr, br⟩
end
end K14
namespace K14
open PySem PySem.Spec PyProof.Rows L2
def VI (s : List Nat) : List V := s.map fun j => V.int (j : Nat)
theorem VI_len (s : List Nat) : (VI s).length = s.length := List.length_map _
theorem VI_app (s t : List Nat) : VI (s ++ t) = VI s ++ VI t := List.map_append
theorem VI_get {s : List Nat} {i j : Nat} (h : s[i]? = some j) : (VI s)[i]? = some (.int (j : Nat)) := by unfold VI; rw [List.getElem?_map, h]; rfl
def VI1 : V → Nat
  | .int i => i.toNat
  | _ => 0
theorem perm_VI {ys : List V} {s : List Nat} (p : ys.Perm (VI s)) : ∃ t, ys = VI t ∧ t.Perm s := by
  have e1 : ys = VI (ys.map VI1) := by
    unfold VI
    rw [List.map_map]
    symm
    refine (List.map_congr_left ?_).trans (List.map_id ys)
    intro y hy
    obtain ⟨j, _, rfl⟩ := List.mem_map.mp (p.mem_iff.mp hy)
    rfl
  refine ⟨ys.map VI1, e1, ?_⟩
  have h := p.map VI1
  have e2 : (VI s).map VI1 = s := by
    unfold VI
    rw [List.map_map]
    refine (List.map_congr_left ?_).trans (List.map_id s)
    intro y _
    rfl
  rwa [e2] at h
/-- a row of tuples of numbers, at these places -/
def Rws (H : Hp) (as : List Addr) (ls : List (List Nat)) : Prop := as.length = ls.length ∧ ∀ (i : Nat) (a : Addr) (s : List Nat), as[i]? = some a → ls[i]? = some s → Tp H a (VI s)
/-- a tuple of tuples of numbers -/
def LT (H : Hp) (r : Addr) (ls : List (List Nat)) : Prop := ∃ as : List Addr, H r = some (.tup (as.map V.ref)) ∧ Rws H as ls
theorem tup_bar {H H' : Hp} {h l p : Addr} {xs : List V} (s : Src H h l) (b : Bar h l H H') (e : H p = some (.tup xs)) : H' p = some (.tup xs) := by
  obtain ⟨n1, n2⟩ := s.ne e (fun _ z => by cases z)
  exact b p _ n1 n2 e
theorem Rws.bar {H H' : Hp} {h l : Addr} {as : List Addr} {ls : List (List Nat)} (t : Rws H as ls) (s : Src H h l) (b : Bar h l H H') : Rws H' as ls := ⟨t.1, fun i a x e1 e2 => (t.2 i a x e1 e2).imp (tup_bar s b) (fun e => e.bar s b)⟩
theorem LT.bar {H H' : Hp} {h l r : Addr} {ls : List (List Nat)} (t : LT H r ls) (s : Src H h l) (b : Bar h l H H') : LT H' r ls := by
  obtain ⟨as, e, q⟩ := t
  exact ⟨as, tup_bar s b e, q.bar s b⟩
theorem Rws.same {H H' : Hp} {as : List Addr} {ls : List (List Nat)} (t : Rws H as ls) (b : Same H H') : Rws H' as ls := ⟨t.1, fun i a x e1 e2 => (t.2 i a x e1 e2).same b⟩
theorem LT.same {H H' : Hp} {r : Addr} {ls : List (List Nat)} (t : LT H r ls) (b : Same H H') : LT H' r ls := by
  obtain ⟨as, e, q⟩ := t
  exact ⟨as, b _ _ e, q.same b⟩
theorem LT.updn {H : Hp} {r p : Addr} {o : HO} {ls : List (List Nat)} (t : LT H r ls) (n : H p = none) : LT (upd H p o) r ls := t.same (same_upd n)
/-- a tuple of tuples of numbers, each known whole -/
def LX (H : Hp) (r : Addr) (ls : List (List Nat)) : Prop := ∃ as : List Addr, H r = some (.tup (as.map V.ref)) ∧ as.length = ls.length ∧ ∀ (i : Nat) (a : Addr) (s : List Nat), as[i]? = some a → ls[i]? = some s → Ex H a (VI s)
theorem LX.lt {H : Hp} {r : Addr} {ls : List (List Nat)} (t : LX H r ls) : LT H r ls := let ⟨as, e, l, q⟩ := t; ⟨as, e, l, fun i a s e1 e2 => .inr (q i a s e1 e2)⟩
theorem LX.same {H H' : Hp} {r : Addr} {ls : List (List Nat)} (t : LX H r ls) (b : Same H H') : LX H' r ls := let ⟨as, e, l, q⟩ := t; ⟨as, b _ _ e, l, fun i a s e1 e2 => (q i a s e1 e2).same b⟩
theorem LX.bar {H H' : Hp} {h l r : Addr} {ls : List (List Nat)} (t : LX H r ls) (s : Src H h l) (b : Bar h l H H') : LX H' r ls := let ⟨as, e, le, q⟩ := t; ⟨as, tup_bar s b e, le, fun i a x e1 e2 => (q i a x e1 e2).bar s b⟩
/-- lists both ways -/
structure ListsOk (many : Nat) (ls : List (List Nat)) : Prop where
  len : ls.length = many
  nd : ∀ (i : Nat) (s : List Nat), ls[i]? = some s → s.Nodup
  both : ∀ (i : Nat) (s : List Nat) (j : Nat), ls[i]? = some s → j ∈ s → j < many ∧ j ≠ i ∧ ∃ t : List Nat, ls[j]? = some t ∧ i ∈ t
/-- lists while they grow: all pairs of whom the lesser one is below a, or is a, and the greater one below b, are behind -/
structure Grow (many a b : Nat) (L : Nat → List Nat) : Prop where
  nd : ∀ i, (L i).Nodup
  both : ∀ i j, j ∈ L i → j < many ∧ i < many ∧ j ≠ i ∧ i ∈ L j
  past : ∀ i j, i < j → j ∈ L i → i < a ∨ (i = a ∧ j < b)
def putL (L : Nat → List Nat) (i x : Nat) : Nat → List Nat := fun k => if k = i then L i ++ [x] else L k
theorem Grow.nil {many a b : Nat} : Grow many a b (fun _ => []) := ⟨fun _ => List.nodup_nil, fun _ _ h => (by cases h), fun _ _ _ h => (by cases h)⟩
theorem Grow.mono {many a b a' b' : Nat} {L : Nat → List Nat} (g : Grow many a b L) (h : ∀ i j, i < j → j < many → (i < a ∨ (i = a ∧ j < b)) → (i < a' ∨ (i = a' ∧ j < b'))) : Grow many a' b' L :=
  ⟨g.nd, g.both, fun i j ij m => h i j ij (g.both i j m).1 (g.past i j ij m)⟩
theorem mem_putL {L : Nat → List Nat} {i x k y : Nat} : y ∈ putL L i x k ↔ y ∈ L k ∨ (k = i ∧ y = x) := by
  unfold putL
  split
  · rename_i e
    subst e
    simp
  · rename_i e
    simp [e]
theorem Grow.put {many a b : Nat} {L : Nat → List Nat} (g : Grow many a b L) (ab : a < b) (bm : b < many) : Grow many a (b + 1) (putL (putL L a b) b a) := by
  have n1 : b ∉ L a := fun h => by
    have := g.past a b ab h
    omega
  have n2 : a ∉ L b := fun h => n1 (g.both b a h).2.2.2
  refine ⟨fun i => ?_, fun i j h => ?_, fun i j ij h => ?_⟩
  · unfold putL
    split
    · rename_i e
      subst e
      rw [if_neg (by omega)]
      rw [List.nodup_append]
      refine ⟨g.nd _, by simp, fun x hx y hy e => ?_⟩
      rw [List.mem_singleton.mp hy] at e
      subst e
      exact n2 hx
    · split
      · rename_i e
        subst e
        rw [List.nodup_append]
        refine ⟨g.nd _, by simp, fun x hx y hy e => ?_⟩
        rw [List.mem_singleton.mp hy] at e
        subst e
        exact n1 hx
      · exact g.nd _
  · rw [mem_putL, mem_putL] at h
    have e : i ∈ putL (putL L a b) b a j ↔ (i ∈ L j ∨ (j = a ∧ i = b)) ∨ (j = b ∧ i = a) := by rw [mem_putL, mem_putL]
    rw [e]
    rcases h with (h | ⟨rfl, rfl⟩) | ⟨rfl, rfl⟩
    · obtain ⟨h1, h2, h3, h4⟩ := g.both i j h
      exact ⟨h1, h2, h3, .inl (.inl h4)⟩
    · exact ⟨bm, by omega, by omega, .inr ⟨rfl, rfl⟩⟩
    · exact ⟨by omega, bm, by omega, .inl (.inr ⟨rfl, rfl⟩)⟩
  · rw [mem_putL, mem_putL] at h
    rcases h with (h | ⟨rfl, rfl⟩) | ⟨rfl, rfl⟩
    · have := g.past i j ij h
      omega
    · right
      omega
    · omega
theorem Grow.ok {many a b : Nat} {L : Nat → List Nat} {ls : List (List Nat)} (g : Grow many a b L) (l : ls.length = many) (p : ∀ (i : Nat) (s : List Nat), ls[i]? = some s → s.Perm (L i)) : ListsOk many ls := by
  refine ⟨l, fun i s e => (p i s e).nodup_iff.mpr (g.nd i), fun i s j e hj => ?_⟩
  obtain ⟨h1, h2, h3, h4⟩ := g.both i j ((p i s e).mem_iff.mp hj)
  have hl : j < ls.length := by omega
  exact ⟨h1, h3, ls[j], List.getElem?_eq_getElem hl, (p j _ (List.getElem?_eq_getElem hl)).mem_iff.mpr h4⟩
theorem nodup_ix {α : Type} : ∀ {rs : List α} {i j : Nat} {r : α}, rs.Nodup → rs[i]? = some r → rs[j]? = some r → i = j
  | [], i, j, r, _, e, _ => by simp at e
  | a :: t, 0, 0, r, _, _, _ => rfl
  | a :: t, i + 1, j + 1, r, nd, e1, e2 => by
    exact congrArg (· + 1) (nodup_ix (List.nodup_cons.mp nd).2 (by simpa using e1 : t[i]? = some r) (by simpa using e2 : t[j]? = some r))
  | a :: t, 0, j + 1, r, nd, e1, e2 => by
    have h1 : a = r := by simpa using e1
    have h2 : t[j]? = some r := by simpa using e2
    subst h1
    exact absurd (List.mem_of_getElem? h2) (List.nodup_cons.mp nd).1
  | a :: t, i + 1, 0, r, nd, e1, e2 => by
    have h1 : a = r := by simpa using e2
    have h2 : t[i]? = some r := by simpa using e1
    subst h1
    exact absurd (List.mem_of_getElem? h2) (List.nodup_cons.mp nd).1
theorem _root_.List.Nodup.length_le_card_of_sub : ∀ {n : Nat} {s : List Nat}, s.Nodup → (∀ x ∈ s, x < n) → s.length ≤ n := by
  intro n
  induction n with
  | zero =>
    intro s _ h
    cases s with
    | nil => exact Nat.le_refl _
    | cons a r => exact absurd (h a (by simp)) (by omega)
  | succ n ih =>
    intro s nd h
    have h1 : (s.erase n).length ≤ n := by
      refine ih (nd.erase n) fun x hx => ?_
      have hx' := (List.Nodup.mem_erase_iff nd).mp hx
      have := h x hx'.2
      omega
    have h2 := List.length_erase (a := n) (l := s)
    split at h2 <;> omega
theorem row_put {H : Hp} {rs : List Addr} {L : Nat → List Nat} {i x : Nat} {r : Addr} (nd : rs.Nodup) (e : rs[i]? = some r) (h : ∀ k q, rs[k]? = some q → H q = some (.lst (VI (L k)))) : ∀ k q, rs[k]? = some q → (upd H r (.lst (VI (L i) ++ [V.int (x : Nat)]))) q = some (.lst (VI (putL L i x k))) := by
  intro k q ek
  unfold putL
  by_cases c : k = i
  · subst c
    rw [e] at ek
    cases ek
    rw [upd_same, if_pos rfl, VI_app]
    rfl
  · rw [if_neg c, upd_ne, h k q ek]
    intro z
    subst z
    exact c (nodup_ix nd ek e)
end K14
namespace K14
open PySem PySem.Spec PyProof.Rows L2
/-- plain values -/
inductive Pl (H : Hp) : V → Prop where
  | non : Pl H .non
  | bl (b : Bool) : Pl H (.bl b)
  | int (i : Int) : Pl H (.int i)
  | str (s : Str) : Pl H (.str s)
  | lst {a : Addr} {xs : List V} (e : H a = some (.lst xs)) : Pl H (.ref a)
  | tup {a : Addr} {xs : List V} (e : H a = some (.tup xs)) : Pl H (.ref a)
def isNum : V → Bool
  | .int i => decide (0 ≤ i)
  | _ => false
def isBel (v : V) (n : Nat) : Bool := match v with
  | .int i => decide (0 ≤ i) && decide (i < n)
  | _ => false
def tupOf (H : Hp) : V → Option (List V)
  | .ref a => match H a with
    | some (.tup xs) => some xs
    | _ => none
  | _ => none
def spIsNumber : Sp := fun vs H Q _ => ∃ v : V, vs = [v] ∧ Pl H v ∧ Q (.bl (isNum v)) H
def spIsBelow : Sp := fun vs H Q _ => ∃ (v : V) (n : Nat), vs = [v, .int n] ∧ Pl H v ∧ Q (.bl (isBel v n)) H
def spIsTupleOf : Sp := fun vs H Q _ => ∃ (v : V) (n : Nat), vs = [v, .int n] ∧ Pl H v ∧ (∀ xs, tupOf H v = some xs → xs.length ≤ 100000) ∧ Q (.bl (match tupOf H v with | some xs => decide (xs.length = n) | none => false)) H
theorem scIsNumber : FnScope ["value"] ["value"] (defScope sIsNumber) := ⟨rfl, rfl, rfl, by decide +kernel, rfl, by decide +kernel, by decide +kernel⟩
theorem scIsBelow : FnScope ["value", "bound"] ["value", "bound"] (defScope sIsBelow) := ⟨rfl, rfl, rfl, by decide +kernel, rfl, by decide +kernel, by decide +kernel⟩
theorem scIsTupleOf : FnScope ["value", "many"] ["value", "many"] (defScope sIsTupleOf) := ⟨rfl, rfl, rfl, by decide +kernel, rfl, by decide +kernel, by decide +kernel⟩
section
variable {P : Program} {w : World} {K : PySem.W.Frag} {mg : Str → Option Value} {base : Heap}
theorem ok_is_number {f : Addr} {fd : FuncData} {k : Nat} (F : Fun K "is_number" "is_number" sIsNumber f fd) (mis : mg "isinstance" = none) (mi : mg "int" = none) (mb : mg "bool" = none) : FnOk P w K mg base CX0 (k + 1) f fd ["value"] spIsNumber := by
  refine F.ok scIsNumber (fun vs H Q E h => ?_) (fun cdv A outer s H vs Q E hr h => ?_)
  · obtain ⟨v, rfl, _⟩ := h
    rfl
  · obtain ⟨v, rfl, pl, q⟩ := h
    refine ⟨_, pss_one (ps_ret (pe_and (pe_callB call_isi (by rfl) mis (by decide +kernel) (pa_cons (pv 0) (pa_cons (pe_bltn (v := .ty "int") (by rfl) mi (by decide +kernel) rfl) pa_nil)))
      (pe_and (pe_not (pe_callB call_isi (by rfl) mis (by decide +kernel) (pa_cons (pv 0) (pa_cons (pe_bltn (v := .ty "bool") (by rfl) mb (by decide +kernel) rfl) pa_nil))))
      (pe_one (pe_cmp (pc_ge (pv 0) pe_int) rfl))))), ?_⟩
    cases pl with
    | non => exact (⟨_, rfl, _, _, _, _, false, rfl, .ty _, .base .non, kit_ty (by decide +kernel), ⟨false, rfl, q⟩⟩)
    | bl b => exact (⟨_, rfl, _, _, _, _, true, rfl, .ty _, .base (.bl b), kit_ty (by decide +kernel), ⟨true, rfl, iteT ((⟨_, rfl, _, _, _, _, true, rfl, .ty _, .base (.bl b), kit_ty (by decide +kernel), ⟨_, rfl, _, rfl, q⟩⟩))⟩⟩)
    | int i => exact (⟨_, rfl, _, _, _, _, true, rfl, .ty _, .base (.int i), kit_ty (by decide +kernel), ⟨true, rfl, iteT ((⟨_, rfl, _, _, _, _, false, rfl, .ty _, .base (.int i), kit_ty (by decide +kernel), ⟨_, rfl, _, rfl, iteT ⟨_, rfl, _, _, rfl, rfl, q⟩⟩⟩))⟩⟩)
    | str s => exact (⟨_, rfl, _, _, _, _, false, rfl, .ty _, .base (.str s), kit_ty (by decide +kernel), ⟨false, rfl, q⟩⟩)
    | lst e => exact (⟨_, rfl, _, _, _, _, false, rfl, .ty _, .base (.lst e), kit_ty (by decide +kernel), ⟨false, rfl, q⟩⟩)
    | tup e => exact (⟨_, rfl, _, _, _, _, false, rfl, .ty _, .base (.tup e), kit_ty (by decide +kernel), ⟨false, rfl, q⟩⟩)
theorem ok_is_below {f g : Addr} {fd gd : FuncData} {k : Nat} (F : Fun K "is_below" "is_below" sIsBelow f fd) (G : FnOk P w K mg base CX0 k g gd ["value"] spIsNumber) (bG : Binds K gd ["value"] []) (kG : PySem.W.keepIn K (.ref g) = true) (mG : mg "is_number" = some (.ref g)) : FnOk P w K mg base CX0 (k + 1) f fd ["value", "bound"] spIsBelow := by
  refine F.ok scIsBelow (fun vs H Q E h => ?_) (fun cdv A outer s H vs Q E hr h => ?_)
  · obtain ⟨v, n, rfl, _⟩ := h
    rfl
  · obtain ⟨v, n, rfl, pl, q⟩ := h
    refine ⟨_, pss_one (ps_ret (pe_and (pe_call G hr rfl mG kG bG .nil pass0 (pa_cons (pv 0) pa_nil)) (pe_one (pe_cmp (pc_lt (pv 0) (pv 1)) rfl)))), ?_⟩
    refine ⟨_, rfl, v, rfl, pl, isNum v, rfl, ?_⟩
    cases v with
    | int i =>
      refine ite2 (fun c => ?_) (fun c => ?_)
      · refine ⟨_, rfl, _, rfl, _, _, rfl, rfl, ?_⟩
        have e : isBel (.int i) n = decide (i < n) := by
          show (decide (0 ≤ i) && decide (i < n)) = _
          rw [show decide (0 ≤ i) = true from c]
          rfl
        rw [e] at q
        exact q
      · have e : isBel (.int i) n = false := by
          show (decide (0 ≤ i) && decide (i < n)) = _
          rw [show decide (0 ≤ i) = false from (by simpa [isNum] using c)]
          rfl
        rw [e] at q
        exact q
    | non => exact q
    | bl b => exact q
    | str s => exact q
    | ref a => exact q
    | byt b => exact q
    | flt b => exact q
    | ty n => exact q
theorem ok_is_tuple_of {f : Addr} {fd : FuncData} {k : Nat} (F : Fun K "is_tuple_of" "is_tuple_of" sIsTupleOf f fd) (mis : mg "isinstance" = none) (mt : mg "tuple" = none) (ml : mg "len" = none) : FnOk P w K mg base CX0 (k + 1) f fd ["value", "many"] spIsTupleOf := by
  refine F.ok scIsTupleOf (fun vs H Q E h => ?_) (fun cdv A outer s H vs Q E hr h => ?_)
  · obtain ⟨v, n, rfl, _⟩ := h
    rfl
  · obtain ⟨v, n, rfl, pl, le, q⟩ := h
    refine ⟨_, pss_one (ps_ret (pe_and (pe_callB call_isi (by rfl) mis (by decide +kernel) (pa_cons (pv 0) (pa_cons (pe_bltn (v := .ty "tuple") (by rfl) mt (by decide +kernel) rfl) pa_nil)))
      (pe_one (pe_cmp (pc_eqI (pe_callB call_len_seq (by rfl) ml PySem.boot_len (pa_cons (pv 0) pa_nil)) (pv 1)) rfl)))), ?_⟩
    cases pl with
    | non => exact (⟨_, rfl, _, _, _, _, false, rfl, .ty _, .base .non, kit_ty (by decide +kernel), ⟨false, rfl, q⟩⟩)
    | bl b => exact (⟨_, rfl, _, _, _, _, false, rfl, .ty _, .base (.bl b), kit_ty (by decide +kernel), ⟨false, rfl, q⟩⟩)
    | int i => exact (⟨_, rfl, _, _, _, _, false, rfl, .ty _, .base (.int i), kit_ty (by decide +kernel), ⟨false, rfl, q⟩⟩)
    | str s => exact (⟨_, rfl, _, _, _, _, false, rfl, .ty _, .base (.str s), kit_ty (by decide +kernel), ⟨false, rfl, q⟩⟩)
    | @lst a xs e =>
      refine (⟨_, rfl, _, _, _, _, false, rfl, .ty _, .base (.lst e), kit_ty (by decide +kernel), ⟨false, rfl, ?_⟩⟩)
      have t : tupOf H (.ref a) = none := by simp [tupOf, e]
      rw [t] at q
      exact q
    | @tup a xs e =>
      have t : tupOf H (.ref a) = some xs := by simp [tupOf, e]
      refine (⟨_, rfl, _, _, _, _, true, rfl, .ty _, .base (.tup e), kit_ty (by decide +kernel), ⟨true, rfl, iteT ⟨_, rfl, a, xs, rfl, .inr (SqT.of e), _, rfl, _, _, rfl, rfl, ?_⟩⟩⟩)
      rw [t] at q
      have e2 : decide ((xs.length : Int) = (n : Int)) = decide (xs.length = n) := by
        rw [decide_eq_decide]
        omega
      show Q (.bl (decide ((xs.length : Int) = (n : Int)))) H
      rw [e2]
      exact q
end
end K14
namespace K14
open PySem PySem.Spec PyProof.Rows L2
theorem _root_.L2.Same.fresh {H H' : Hp} {p : Addr} {o : HO} (s : Same H H') (n : H p = none) : Same H (upd H' p o) := fun b x e => by
  rw [upd_ne (ne_of_none e n)]
  exact s b x e
theorem sz6' {n : Nat} (h : n ≤ 100000) : n < sizeLine := Nat.lt_of_le_of_lt h (by decide)
theorem range_snoc (f : Nat → V) (i : Nat) : (List.range (i + 1)).map f = (List.range i).map f ++ [f i] := by simp [List.range_succ]
section
variable {J : It} {n : Nat} {G : Hp → Prop} {Y : Nat → Hp → V → Hp → Prop}
/-- a comprehension that leaves all as it stood -/
theorem lc_same (w : Walk J n G Y) {g : TG} {te : TE} {vs : List Nat} {σ : L2.St} {H0 : Hp} {D : Addr} {Qd : Hp → Prop} (hn : n ≤ 100000) (f : Nat → V) (nD : H0 D = none) (hG : ∀ H, Same H0 H → G H)
    (hs : ∀ (i : Nat) (x : V) (H H' : Hp) (Z : V → Hp → Prop), (∀ H3, Same H H3 → Z (f i) H3) → i < n → Same H0 H → Y i H x H' → g x (wipe σ vs) H' fun σ2 H2 => wipe σ2 vs = wipe σ vs ∧ te σ2 H2 Z)
    (hd : ∀ H, Same H0 H → H D = some (.lst ((List.range n).map f)) → Qd H) :
    ∃ W : Nat → Nat → Hp → Prop, (∃ m, W 0 m (upd H0 D (.lst []))) ∧ ∀ i m H, W i m H →
      (J.stop i H ∧ Qd H) ∨ (J.go i H ∧ ∃ Nx : Hp → Prop, (∀ H', Nx H' → ∃ m', m' < m ∧ W (i + 1) m' H') ∧ ∀ x H', J.yld i H x H' → g x (wipe σ vs) H' fun σ2 H2 => wipe σ2 vs = wipe σ vs ∧ tYes σ2 H2 fun b H3 =>
        if b = true then te σ2 H3 fun y H4 => ∃ acc, H4 D = some (.lst acc) ∧ acc.length < sizeLine ∧ Nx (upd H4 D (.lst (acc ++ [y]))) else Nx H3) := by
  refine lc_it w (fun i H => Same H0 H ∧ H D = some (.lst ((List.range i).map f))) ⟨same_upd nD, upd_same⟩ (fun i H _ h => hG H h.1) (fun i x H H' hi h y => ?_) (fun H h => hd H h.1 h.2)
  refine hs i x H H' (fun v H3 => ∃ acc, H3 D = some (.lst acc) ∧ acc.length < sizeLine ∧ (fun H => Same H0 H ∧ H D = some (.lst ((List.range (i + 1)).map f))) (upd H3 D (.lst (acc ++ [v])))) (fun H3 z => ?_) hi h.1 y
  refine ⟨_, z _ _ h.2, ?_, (h.1.trans z).fresh nD, ?_⟩
  · rw [List.length_map, List.length_range]
    exact sz6' (by omega)
  · rw [upd_same, range_snoc]
end
end K14
namespace K14
open PySem PySem.Spec PyProof.Rows L2
def spIsName : Sp := fun vs H Q _ => ∃ s : List Nat, vs = [.str (SS s)] ∧ 1 ≤ s.length ∧ s.length ≤ 6 ∧ (∀ c ∈ s, 97 ≤ c ∧ c ≤ 122) ∧ ∀ H', Same H H' → Q (.bl true) H'
theorem scIsName : FnScope ["value", "sign"] ["value"] (defScope sIsName) := ⟨rfl, rfl, rfl, by decide +kernel, rfl, by decide +kernel, by decide +kernel⟩
theorem all_true (n : Nat) : ((List.range n).map fun _ => true).all id = true := by simp
theorem bl_true (n : Nat) : ((List.range n).map fun _ => V.bl true) = ((List.range n).map fun _ => true).map V.bl := by simp
theorem le_one {a c : Nat} (h : a ≤ c) : (!decide ([c] < [a])) = true := by
  rw [Bool.not_eq_true', decide_eq_false_iff_not]
  intro z
  rw [List.cons_lt_cons_iff] at z
  rcases z with z | ⟨_, z⟩
  · omega
  · exact absurd z (List.not_lt_nil _)
def spArePersons : Sp := fun vs H Q _ => ∃ (a : Addr) (s : List Nat) (n : Nat), vs = [.ref a, .int n] ∧ Tp H a (VI s) ∧ s.length ≤ 1000 ∧ (∀ j ∈ s, j < n) ∧ ∀ H', Same H H' → Q (.bl true) H'
theorem scArePersons : FnScope ["value", "many", "person"] ["value", "many"] (defScope sArePersons) := ⟨rfl, rfl, rfl, by decide +kernel, rfl, by decide +kernel, by decide +kernel⟩
def spAreUnlike : Sp := fun vs H Q _ => ∃ (a : Addr) (s : List Nat) (n : Nat), vs = [.ref a, .int n] ∧ Tp H a (VI s) ∧ s.length ≤ 1000 ∧ s.Nodup ∧ (∀ j ∈ s, j < n) ∧ ∀ H', Same H H' → Q (.bl true) H'
theorem scAreUnlike : FnScope ["value", "many"] ["value", "many"] (defScope sAreUnlike) := ⟨rfl, rfl, rfl, by decide +kernel, rfl, by decide +kernel, by decide +kernel⟩
theorem Tp.ty {K : PySem.W.Frag} {H : Hp} {a : Addr} {xs : List V} (t : Tp H a xs) : TyX K H (.ref a) (.type "tuple") := by
  rcases t with e | ⟨o, _, _, e⟩
  · exact .base (.tup e)
  · exact .fTuple e
theorem VI_ints (s : List Nat) : VI s = (s.map fun j => ((j : Nat) : Int)).map V.int := by simp [VI]
section
variable {P : Program} {w : World} {K : PySem.W.Frag} {mg : Str → Option Value} {base : Heap}
theorem ok_is_name {f : Addr} {fd : FuncData} {k : Nat} {t6 : Tok} (F : Fun K "is_name" "is_name" sIsName f fd) (mis : mg "isinstance" = none) (ms : mg "str" = none) (ml : mg "len" = none) (ma : mg "all" = none) (m6 : mg "MOST_LETTERS" = some (.int 6 t6)) : FnOk P w K mg base CX0 (k + 1) f fd ["value"] spIsName := by
  refine F.ok scIsName (fun vs H Q E h => ?_) (fun cdv A outer s H vs Q E hr h => ?_)
  · obtain ⟨s, rfl, _⟩ := h
    rfl
  · obtain ⟨s, rfl, l1, l6, let_, q⟩ := h
    refine ⟨_, pss_cons (ps_if (PW.pt (pw_or (pt_not (pt_val (pe_callB call_isi (by rfl) mis (by decide +kernel) (pa_cons (pv 0) (pa_cons (pe_bltn (v := .ty "str") (by rfl) ms (by decide +kernel) rfl) pa_nil)))))
        (pw_or1 (pt_not (pt_chain op_le op_le pe_int (pe_callB call_len_str (by rfl) ml PySem.boot_len (pa_cons (pv 0) pa_nil)) (pe_glob (v := .int 6) rfl m6 ⟨_, rfl⟩)))))) (pss_one ps_never) pss_nil)
      (pss_one (ps_ret (pe_callB (cr_all rfl) (by rfl) ma (by decide +kernel) (pa_cons (pe_lc (own := [("sign", 1)]) (g := gName 1) (tt := tYes) rfl scIsName.nd (pi_str (pv 0))
          (blkOk_by (own := [("sign", 1)]) (N := ["value", "sign"]) (sc := defScope sIsName) (by decide +kernel)) (fun _ _ _ _ _ => pg_name (i := 1) scIsName.nd rfl (Or.inl rfl)) (fun _ _ _ _ _ => pts_nil)
          (fun _ _ _ _ _ => pe_chain op_le_str op_le_str pe_str (pv 1) pe_str)) pa_nil)))), ?_⟩
    refine (⟨_, rfl, _, _, _, _, true, rfl, .ty _, .base (.str _), kit_ty (by decide +kernel), ⟨_, rfl, iteF ?_⟩⟩)
    refine ⟨_, rfl, _, rfl, by rw [SS_len]; exact sz5 (by omega), _, _, rfl, rfl, _, rfl, ?_⟩
    rw [SS_len]
    have c1 : decide ((1 : Int) ≤ (s.length : Nat)) = true := by simp; omega
    rw [c1]
    refine iteT ⟨_, _, rfl, rfl, ?_⟩
    have c2 : decide (((s.length : Nat) : Int) ≤ 6) = true := by simp; omega
    refine ⟨_, rfl, ?_⟩
    dsimp only
    rw [c2]
    refine iteF ⟨_, rfl, _, rfl, fun D nD => ?_⟩
    refine lc_same walk_str (by show s.length ≤ 100000; omega) (fun _ => .bl true) nD (fun _ _ => trivial) ?_ ?_
    · rintro i x H1 H2 Z out hi sm ⟨rfl, c, ec, rfl⟩
      have hc := let_ c (List.mem_of_getElem? (by simpa using ec))
      refine gn ⟨rfl, _, rfl, _, _, rfl, rfl, true, ?_, iteT ⟨_, _, rfl, rfl, ?_⟩⟩
      · exact congrArg V.bl (le_one hc.1)
      · have e : (!decide (("z" : Str).cps.toList < (⟨#[c]⟩ : Str).cps.toList)) = true := le_one hc.2
        rw [e]
        exact out _ (fun _ _ e => e)
    · intro H1 sm e1
      refine ⟨D, _, rfl, SqL.of (by rw [e1, bl_true]), ?_⟩
      rw [all_true]
      exact q _ sm
theorem ok_are_persons {f g : Addr} {fd gd : FuncData} {k : Nat} (F : Fun K "are_persons" "are_persons" sArePersons f fd) (G : FnOk P w K mg base CX0 k g gd ["value", "bound"] spIsBelow) (bG : Binds K gd ["value", "bound"] []) (kG : PySem.W.keepIn K (.ref g) = true) (mG : mg "is_below" = some (.ref g)) (mis : mg "isinstance" = none) (mt : mg "tuple" = none) (ma : mg "all" = none) : FnOk P w K mg base CX0 (k + 1) f fd ["value", "many"] spArePersons := by
  refine F.ok scArePersons (fun vs H Q E h => ?_) (fun cdv A outer s H vs Q E hr h => ?_)
  · obtain ⟨a, s, n, rfl, _⟩ := h
    rfl
  · obtain ⟨a, s, n, rfl, es, l6, lt, q⟩ := h
    refine ⟨_, pss_one (ps_ret (pe_and (pe_callB call_isi (by rfl) mis (by decide +kernel) (pa_cons (pv 0) (pa_cons (pe_bltn (v := .ty "tuple") (by rfl) mt (by decide +kernel) rfl) pa_nil)))
      (pe_one (pe_callB (cr_all rfl) (by rfl) ma (by decide +kernel) (pa_cons (pe_lc (own := [("person", 2)]) (g := gName 2) (tt := tYes) rfl scArePersons.nd (pi_tup (pv 0))
          (blkOk_by (own := [("person", 2)]) (N := ["value", "many", "person"]) (sc := defScope sArePersons) (by decide +kernel)) (fun _ _ _ _ _ => pg_name (i := 2) scArePersons.nd rfl (Or.inl rfl)) (fun _ _ _ _ _ => pts_nil)
          (fun _ _ _ _ _ => pe_call G hr rfl mG kG bG .nil pass0 (pa_cons (pv 2) (pa_cons (pv 1) pa_nil)))) pa_nil))))), ?_⟩
    refine (⟨_, rfl, _, _, _, _, true, rfl, .ty _, Tp.ty es, kit_ty (by decide +kernel), ⟨_, rfl, iteT ⟨_, rfl, a, rfl, ⟨_, es.sq⟩, fun D nD => ?_⟩⟩⟩)
    refine lc_same (walk_tup (K := K) (a := a) (xs := VI s)) (by rw [VI_len]; omega) (fun _ => .bl true) nD (fun _ sm => (es.same sm).sq) ?_ ?_
    · rintro i x H1 H2 Z out hi sm ⟨rfl, ex⟩
      obtain ⟨j, hj, rfl⟩ := List.mem_map.mp (List.mem_of_getElem? ex)
      refine gn ⟨rfl, _, rfl, _, rfl, .int j, n, rfl, .int _, ?_⟩
      have e : isBel (.int (j : Nat)) n = true := by
        have := lt j hj
        simp [isBel]
        exact this
      rw [e]
      exact out _ (fun _ _ e => e)
    · intro H1 sm e1
      refine ⟨D, _, rfl, SqL.of (by rw [e1, bl_true]), ?_⟩
      rw [all_true]
      exact q _ sm
theorem ok_are_unlike {f g : Addr} {fd gd : FuncData} {k : Nat} (F : Fun K "are_unlike_persons" "are_unlike_persons" sAreUnlike f fd) (G : FnOk P w K mg base CX0 k g gd ["value", "many"] spArePersons) (bG : Binds K gd ["value", "many"] []) (kG : PySem.W.keepIn K (.ref g) = true) (mG : mg "are_persons" = some (.ref g)) (ml : mg "len" = none) (ms : mg "set" = none) : FnOk P w K mg base CX0 (k + 1) f fd ["value", "many"] spAreUnlike := by
  refine F.ok scAreUnlike (fun vs H Q E h => ?_) (fun cdv A outer s H vs Q E hr h => ?_)
  · obtain ⟨a, s, n, rfl, _⟩ := h
    rfl
  · obtain ⟨a, s, n, rfl, es, l6, nd, lt, q⟩ := h
    refine ⟨_, pss_one (ps_ret (pe_and (pe_call G hr rfl mG kG bG .nil pass0 (pa_cons (pv 0) (pa_cons (pv 1) pa_nil)))
      (pe_one (pe_cmp (pc_eqI (pe_lenSetT (by rfl) ml (by rfl) ms (pv 0)) (pe_callB call_len_seq (by rfl) ml PySem.boot_len (pa_cons (pv 0) pa_nil))) rfl)))), ?_⟩
    refine ⟨_, rfl, _, rfl, a, s, n, rfl, es, l6, lt, fun H1 sm => ⟨true, rfl, iteT ?_⟩⟩
    refine ⟨_, rfl, a, s.map (fun j => ((j : Nat) : Int)), rfl, by rw [← VI_ints]; exact (es.same sm).sq, ?_, by simpa using l6, ?_⟩
    · exact List.pairwise_map.mpr (List.Pairwise.imp (fun ne e => ne (by omega)) nd)
    · refine ⟨_, rfl, a, VI s, rfl, .inr (es.same sm).sq, _, _, rfl, rfl, ?_⟩
      have e : decide (((s.map (fun j => ((j : Nat) : Int))).length : Int) = ((VI s).length : Nat)) = true := by
        rw [VI_len, List.length_map]
        simp
      show Q (.bl (decide (((s.map (fun j => ((j : Nat) : Int))).length : Int) = ((VI s).length : Nat)))) H1
      rw [e]
      exact q _ sm
end
end K14
namespace K14
open PySem PySem.Spec PyProof.Rows L2
def spLists : Sp := fun vs H Q _ => ∃ (h l : Addr) (many : Nat) (share : Int), vs = [.ref h, .int many, .int share] ∧ Src H h l ∧ many ≤ 100 ∧ 0 < share ∧ share < 1000 ∧
  ∀ (r : Addr) (ls : List (List Nat)) (H' : Hp), ListsOk many ls → Src H' h l → Bar h l H H' → H r = none → LX H' r ls → Q (.ref r) H'
theorem scLists : FnScope ["heap", "many", "share", "found", "one", "other", "person", "row"] ["heap", "many", "share"] (defScope sLists) := ⟨rfl, rfl, rfl, by decide +kernel, rfl, by decide +kernel, by decide +kernel⟩
def RwX (H : Hp) (as : List Addr) (ls : List (List Nat)) : Prop := as.length = ls.length ∧ ∀ (i : Nat) (a : Addr) (s : List Nat), as[i]? = some a → ls[i]? = some s → Ex H a (VI s)
theorem RwX.bar {H H' : Hp} {h l : Addr} {as : List Addr} {ls : List (List Nat)} (t : RwX H as ls) (s : Src H h l) (b : Bar h l H H') : RwX H' as ls := ⟨t.1, fun i a x e1 e2 => (t.2 i a x e1 e2).bar s b⟩
/-- what stands while the lists grow -/
structure RowsAt (H : Hp) (D : Addr) (rs : List Addr) (L : Nat → List Nat) : Prop where
  top : H D = some (.lst (rs.map V.ref))
  row : ∀ (k : Nat) (q : Addr), rs[k]? = some q → H q = some (.lst (VI (L k)))
section
variable {P : Program} {w : World} {K : PySem.W.Frag} {mg : Str → Option Value} {base : Heap}
theorem ok_lists {f g p : Addr} {fd gd pd : FuncData} {k : Nat} (F : Fun K "_law_lists" "_law_lists" sLists f fd) (G : FnOk P w K mg base CX0 k g gd ["heap", "many"] spDraw) (bG : Binds K gd ["heap", "many"] []) (kG : PySem.W.keepIn K (.ref g) = true) (mG : mg "_law_draw" = some (.ref g))
    (R : FnOk P w K mg base CX0 k p pd ["heap", "some"] spShuffled) (bR : Binds K pd ["heap", "some"] []) (kR : PySem.W.keepIn K (.ref p) = true) (mR : mg "_law_shuffled" = some (.ref p)) (mr : mg "range" = none) (mt : mg "tuple" = none) :
    FnOk P w K mg base CX0 (k + 1) f fd ["heap", "many", "share"] spLists := by
  refine F.ok scLists (fun vs H Q E h => ?_) (fun cdv A outer s H vs Q E hr h => ?_)
  · obtain ⟨h, l, many, share, rfl, _⟩ := h
    rfl
  · obtain ⟨h, l, many, share, rfl, src, m1, s0, s1, q⟩ := h
    refine ⟨_, pss_cons (ps_setLc (i := 3) (own := [("person", 6)]) (g := gName 6) (tt := tYes) rfl scLists.nd rfl rfl (sw_true rfl rfl rfl (by decide +kernel)) (pi_range1 rfl mr (pa_cons (pv 1) pa_nil))
          (blkOk_by (own := [("person", 6)]) (N := ["heap", "many", "share", "found", "one", "other", "person", "row"]) (sc := defScope sLists) (by decide +kernel)) (fun _ _ _ _ _ => pg_name (i := 6) scLists.nd rfl (Or.inl rfl)) (fun _ _ _ _ _ => pts_nil)
          (fun _ _ _ _ _ => pe_lst pa_nil))
      (pss_cons (ps_for PassesOwn.never rfl (pi_range1 rfl mr (pa_cons (pv 1) pa_nil)) (pg_name (i := 4) scLists.nd rfl (.inl rfl))
        (pss_one (ps_for PassesOwn.never rfl (pi_range2 (by rfl) mr (pa_cons (pe_op op_add (pv 4) pe_int) (pa_cons (pv 1) pa_nil))) (pg_name (i := 5) scLists.nd rfl (.inl rfl))
          (pss_one (ps_if (pt_cmpR op_gt (pe_call G hr rfl mG kG bG .nil pass0 (pa_cons (pv 0) (pa_cons (pv 2) pa_nil))) pe_int (nomark _))
            (pss_cons (ps_expr (pe_bm PySem.F.plainAttrs_list PySem.F.slot_list_append PySem.F.type_list_append mt_append (pe_ix ix_list (pv 3) (pv 4) (fun _ _ => rfl)) (pa_cons (pv 5) pa_nil)))
            (pss_one (ps_expr (pe_bm PySem.F.plainAttrs_list PySem.F.slot_list_append PySem.F.type_list_append mt_append (pe_ix ix_list (pv 3) (pv 5) (fun _ _ => rfl)) (pa_cons (pv 4) pa_nil)))))
            pss_nil)))))
      (pss_one (ps_ret (pe_callTy call_tuple_of (by rfl) mt (by decide +kernel) (pa_cons (pe_lc (own := [("row", 7)]) (g := gName 7) (tt := tYes) rfl scLists.nd (pi_list (pv 3))
          (blkOk_by (own := [("row", 7)]) (N := ["heap", "many", "share", "found", "one", "other", "person", "row"]) (sc := defScope sLists) (by decide +kernel)) (fun _ _ _ _ _ => pg_name (i := 7) scLists.nd rfl (Or.inl rfl)) (fun _ _ _ _ _ => pts_nil)
          (fun _ _ _ _ _ => pe_call R hr rfl mR kR bR .nil pass0 (pa_cons (pv 0) (pa_cons (pv 7) pa_nil)))) pa_nil))))), ?_⟩
    refine ⟨_, rfl, _, rfl, by omega, by omega, fun D nD => ?_⟩
    obtain ⟨nDh, nDl⟩ := src.new nD
    refine lc_range (lo := 0) (n := many) (fun i H' => ∃ rs : List Addr, RowsAt H' D rs (fun _ => []) ∧ rs.length = i ∧ rs.Nodup ∧ (∀ r ∈ rs, H r = none ∧ r ≠ D) ∧ Src H' h l ∧ Bar h l H H')
      ⟨[], ⟨upd_same, fun k q e => by simp at e⟩, rfl, List.nodup_nil, by simp, src.updn nD, Bar.refl.fresh nD⟩ ?_ ?_
    · rintro i H4 hi ⟨rs, ra, rl, nd, rn, sr, br⟩
      refine gn ⟨rfl, yes ?_⟩
      refine ⟨Nat.zero_le _, fun r nr => ?_⟩
      have nr0 := br.free sr nr
      obtain ⟨nrh, nrl⟩ := sr.new nr
      have nrD : r ≠ D := fun e => by rw [e, ra.top] at nr; cases nr
      have nrr : r ∉ rs := fun e => by
        obtain ⟨k, hk, ek⟩ := List.mem_iff_getElem.mp e
        have := ra.row k r (by rw [List.getElem?_eq_getElem hk, ek])
        rw [nr] at this
        cases this
      have nDr : D ≠ r := Ne.symm nrD
      refine ⟨_, by rw [upd_ne nDr]; exact ra.top, by rw [List.length_map]; exact sz6 (by omega), rs ++ [r], ⟨by rw [upd_same]; simp, ?_⟩, by simp [rl], ?_, ?_, (sr.updn nr).put nDh nDl, (br.fresh nr0).fresh nD⟩
      · intro k q ek
        rw [List.getElem?_append] at ek
        split at ek
        · rename_i hk
          have hq : q ∈ rs := List.mem_of_getElem? ek
          rw [upd_ne (rn q hq).2, upd_ne (fun z => nrr (by rw [← z]; exact hq))]
          exact ra.row k q ek
        · have : q = r := by
            rw [List.getElem?_singleton] at ek
            split at ek
            · exact (Option.some.inj ek).symm
            · cases ek
          subst this
          rw [upd_ne nrD, upd_same]
          rfl
      · rw [List.nodup_append]
        refine ⟨nd, by simp, fun x hx y hy e => ?_⟩
        rw [List.mem_singleton.mp hy] at e
        subst e
        exact nrr hx
      · intro x hx
        rcases List.mem_append.mp hx with hx | hx
        · exact rn x hx
        · rw [List.mem_singleton.mp hx]
          exact ⟨nr0, nrD⟩
    · rintro H4 ⟨rs, ra0, rl, nd, rn, sr0, br0⟩
      refine gn ?_
      dsimp only [List.set, L2.start]
      have rq : ∀ r ∈ rs, r ≠ h ∧ r ≠ l ∧ r ≠ D := fun r hr => ⟨(src.new (rn r hr).1).1, (src.new (rn r hr).1).2, (rn r hr).2⟩
      have rix : ∀ i, i < many → ∃ r, rs[i]? = some r ∧ r ∈ rs := fun i hi => ⟨rs[i]'(by omega), List.getElem?_eq_getElem (by omega), List.getElem_mem _⟩
      refine ⟨_, rfl, _, rfl, by omega, by omega, for_range (lo := 0) (n := many) (fun i σ H' => ∃ (L : Nat → List Nat) (y z : Option V), σ = [some (.ref h), some (.int many), some (.int share), some (.ref D), y, z, none, none] ∧ RowsAt H' D rs L ∧ Grow many i 0 L ∧ Src H' h l ∧ Bar h l H H')
        ⟨fun _ => [], none, none, rfl, ra0, .nil, sr0, br0⟩ ?_ ?_⟩
      · rintro i σ H5 hi ⟨L, y, z, rfl, ra, gw, sr, br⟩
        rw [Int.zero_add]
        refine gn ?_
        dsimp only [List.set]
        refine ⟨_, rfl, _, _, rfl, rfl, _, rfl, _, _, rfl, ⟨by omega, by omega, by omega, by omega⟩, ?_⟩
        have en : ((many : Int) - ((i : Int) + 1)).toNat = many - (i + 1) := by omega
        rw [en]
        refine for_range (lo := (i : Int) + 1) (n := many - (i + 1)) (fun j σ H' => ∃ (L : Nat → List Nat) (z : Option V), σ = [some (.ref h), some (.int many), some (.int share), some (.ref D), some (.int (i : Nat)), z, none, none] ∧ RowsAt H' D rs L ∧ Grow many i (i + 1 + j) L ∧ Src H' h l ∧ Bar h l H H')
          ⟨L, z, rfl, ra, gw.mono fun a b ab bm h => by omega, sr, br⟩ ?_ ?_
        · rintro j σ H6 hj ⟨L, z, rfl, ra, gw, sr, br⟩
          have ej : (i : Int) + 1 + (j : Int) = ((i + 1 + j : Nat) : Int) := by omega
          rw [ej]
          refine gn ?_
          dsimp only [List.set]
          refine ⟨_, rfl, _, rfl, h, l, _, rfl, sr, s0, by omega, fun x H7 x0 x1 sr7 br7 => ⟨_, _, rfl, rfl, _, rfl, ?_⟩⟩
          have ra7 : RowsAt H7 D rs L := ⟨br7 _ _ nDh nDl ra.top, fun k q e => br7 _ _ (rq q (List.mem_of_getElem? e)).1 (rq q (List.mem_of_getElem? e)).2.1 (ra.row k q e)⟩
          refine ite2 (fun c => ?_) (fun c => ?_)
          · obtain ⟨r1, e1, m1'⟩ := rix i hi
            obtain ⟨r2, e2, m2⟩ := rix (i + 1 + j) (by omega)
            have f1 : (rs.map V.ref)[i]? = some (V.ref r1) := by rw [List.getElem?_map, e1]; rfl
            have f2 : (rs.map V.ref)[i + 1 + j]? = some (V.ref r2) := by rw [List.getElem?_map, e2]; rfl
            have bnd : ∀ L, Grow many i (i + 1 + j) L → ∀ k, (L k).length ≤ many := fun L g k => by
              have := List.Nodup.length_le_card_of_sub (g.nd k) (fun x hx => (g.both k x hx).1)
              exact this
            refine ⟨_, rfl, _, rfl, D, _, _, _, rfl, rfl, SqL.of ra7.top, atI_nat f1, .inl ⟨rfl, _, SqL.of (ra7.row i r1 e1)⟩, _, rfl, r1, _, _, rfl, rfl, ra7.row i r1 e1, by rw [VI_len]; exact sz6 (Nat.le_trans (bnd L gw i) (by omega)), ?_⟩
            have ra8 : RowsAt (upd H7 r1 (.lst (VI (L i) ++ [V.int ((i + 1 + j : Nat) : Int)]))) D rs (putL L i (i + 1 + j)) := ⟨by rw [upd_ne (Ne.symm (rq r1 m1').2.2)]; exact ra7.top, row_put nd e1 ra7.row⟩
            have sr8 := sr7.put (o := .lst (VI (L i) ++ [V.int ((i + 1 + j : Nat) : Int)])) (rq r1 m1').1 (rq r1 m1').2.1
            have br8 := (br.trans br7).fresh (o := .lst (VI (L i) ++ [V.int ((i + 1 + j : Nat) : Int)])) (rn r1 m1').1
            generalize upd H7 r1 (.lst (VI (L i) ++ [V.int ((i + 1 + j : Nat) : Int)])) = H8 at ra8 sr8 br8
            refine ⟨_, rfl, _, rfl, D, _, _, _, rfl, rfl, SqL.of ra8.top, atI_nat f2, .inl ⟨rfl, _, SqL.of (ra8.row _ r2 e2)⟩, _, rfl, r2, _, _, rfl, rfl, ra8.row _ r2 e2, ?_, ?_⟩
            · rw [VI_len]
              refine sz6 (Nat.le_trans (m := many + 1) ?_ (by omega))
              unfold putL
              split
              · rw [List.length_append]
                have := bnd L gw i
                simp
                exact this
              · have := bnd L gw (i + 1 + j)
                omega
            · refine ⟨putL (putL L i (i + 1 + j)) (i + 1 + j) i, _, rfl, ⟨by rw [upd_ne (Ne.symm (rq r2 m2).2.2)]; exact ra8.top, row_put nd e2 ra8.row⟩, gw.put (by omega) (by omega), sr8.put (rq r2 m2).1 (rq r2 m2).2.1, br8.fresh (rn r2 m2).1⟩
          · exact ⟨L, _, rfl, ra7, gw.mono fun a b ab bm h => by omega, sr7, br.trans br7⟩
        · rintro σ H6 ⟨L, z, rfl, ra, gw, sr, br⟩
          exact ⟨L, _, z, rfl, ra, gw.mono fun a b ab bm h => by omega, sr, br⟩
      · rintro σ H5 ⟨L, y, z, rfl, ra, gw, sr, br⟩
        refine ⟨_, rfl, D, rfl, ⟨_, SqL.of ra.top⟩, fun C nC => ?_⟩
        have nC0 := br.free sr nC
        obtain ⟨nCh, nCl⟩ := sr.new nC
        have nDC : D ≠ C := ne_of_none ra.top nC
        have rC : ∀ r ∈ rs, r ≠ C := fun r hr e => by
          obtain ⟨k, hk, ek⟩ := List.mem_iff_getElem.mp hr
          have := ra.row k r (by rw [List.getElem?_eq_getElem hk, ek])
          rw [e, nC] at this
          cases this
        refine lc_list (K := K) (a := D) (xs := rs.map V.ref) (fun i H' => ∃ (ts : List Addr) (ls : List (List Nat)), H' C = some (.lst (ts.map V.ref)) ∧ ls.length = i ∧ RwX H' ts ls ∧ (∀ (j : Nat) (s : List Nat), ls[j]? = some s → s.Perm (L j)) ∧ RowsAt H' D rs L ∧ Src H' h l ∧ Bar h l H H')
          ⟨[], [], upd_same, rfl, ⟨rfl, fun _ _ _ e => by simp at e⟩, fun _ _ e => (by simp at e), ⟨by rw [upd_ne nDC]; exact ra.top, fun k q e => by rw [upd_ne (rC q (List.mem_of_getElem? e))]; exact ra.row k q e⟩, sr.updn nC, br.fresh nC0⟩ (fun i H' _ ⟨_, _, _, _, _, _, r, _⟩ => SqL.of r.top) ?_ ?_
        · rintro i x H6 hx ⟨ts, ls, eC, ll, rw6, pm, ra6, sr6, br6⟩
          obtain ⟨r, er, rfl⟩ : ∃ r, rs[i]? = some r ∧ x = V.ref r := by
            rw [List.getElem?_map] at hx
            cases e : rs[i]? with
            | none => rw [e] at hx; cases hx
            | some r => rw [e] at hx; exact ⟨r, rfl, (Option.some.inj hx).symm⟩
          have hr' := List.mem_of_getElem? er
          have hi : i < many := by have := (List.getElem?_eq_some_iff.mp er).1; omega
          refine gn ⟨rfl, yes ?_⟩
          refine ⟨_, rfl, _, rfl, h, l, r, VI (L i), rfl, sr6, (.inl (ra6.row i r er)), (rq r hr').1, (rq r hr').2.1, ?_, fun t ys H7 py sr7 br7 nt et => ?_⟩
          · rw [VI_len]
            exact Nat.le_trans (List.Nodup.length_le_card_of_sub (gw.nd i) fun x hx => (gw.both i x hx).1) (by omega)
          · obtain ⟨s, rfl, ps⟩ := perm_VI py
            have eC7 := br7 _ _ nCh nCl eC
            have ra7 : RowsAt H7 D rs L := ⟨br7 _ _ nDh nDl ra6.top, fun k q e => br7 _ _ (rq q (List.mem_of_getElem? e)).1 (rq q (List.mem_of_getElem? e)).2.1 (ra6.row k q e)⟩
            have tl : ts.length = i := by rw [rw6.1, ll]
            have nCt : t ≠ C := et.ne_lst eC7
            refine ⟨_, eC7, by rw [List.length_map, tl]; exact sz6 (by omega), ts ++ [t], ls ++ [s], by rw [upd_same]; simp, by simp [ll], ⟨by simp [rw6.1], ?_⟩, ?_, ⟨by rw [upd_ne nDC]; exact ra7.top, fun k q e => by rw [upd_ne (rC q (List.mem_of_getElem? e))]; exact ra7.row k q e⟩, sr7.put nCh nCl, (br6.trans br7).fresh nC0⟩
            · intro j a s' ea es
              have old := (RwX.bar rw6 sr6 br7).2
              by_cases c : j < ts.length
              · rw [List.getElem?_append_left c] at ea
                rw [List.getElem?_append_left (by rw [← rw6.1]; exact c)] at es
                have e7 := old j a s' ea es
                exact e7.put (e7.ne_lst eC7)
              · rw [List.getElem?_append_right (by omega), List.getElem?_singleton] at ea
                rw [List.getElem?_append_right (by rw [← rw6.1]; omega), List.getElem?_singleton] at es
                split at ea
                · split at es
                  · cases ea
                    cases es
                    exact et.put nCt
                  · cases es
                · cases ea
            · intro j s' es
              by_cases c : j < ls.length
              · rw [List.getElem?_append_left c] at es
                exact pm j s' es
              · rw [List.getElem?_append_right (by omega), List.getElem?_singleton] at es
                split at es
                · cases es
                  have : j = i := by omega
                  subst this
                  exact ps
                · cases es
        · rintro H6 ⟨ts, ls, eC, ll, rw6, pm, ra6, sr6, br6⟩
          rw [List.length_map, rl] at ll
          refine ⟨C, _, rfl, .inl ⟨SqL.of eC, fun r nr => ?_⟩⟩
          exact q r ls _ (gw.ok ll pm) (sr6.updn nr) (br6.fresh (br6.free sr6 nr)) (br6.free sr6 nr) ⟨ts, upd_same, rw6.1, fun i a s e1 e2 => (rw6.2 i a s e1 e2).same (same_upd nr)⟩
end
end K14
namespace K14
open PySem PySem.Spec PyProof.Rows L2
/-! ### ranks -/
def rkV (s : List Nat) (j : Nat) : V := if j ∈ s then .int (s.idxOf j : Nat) else .non
def VR (n : Nat) (s : List Nat) : List V := (List.range n).map (rkV s)
theorem VR_len (n : Nat) (s : List Nat) : (VR n s).length = n := by simp [VR]
theorem VR_get {n : Nat} {s : List Nat} {j : Nat} (h : j < n) : (VR n s)[j]? = some (rkV s j) := by simp [VR, h]
def RT (H : Hp) (r : Addr) (ls : List (List Nat)) : Prop := ∃ as : List Addr, H r = some (.tup (as.map V.ref)) ∧ as.length = ls.length ∧ ∀ (i : Nat) (a : Addr) (s : List Nat), as[i]? = some a → ls[i]? = some s → H a = some (.tup (VR ls.length s))
theorem RT.same {H H' : Hp} {r : Addr} {ls : List (List Nat)} (t : RT H r ls) (b : Same H H') : RT H' r ls := by
  obtain ⟨as, e, l, q⟩ := t
  exact ⟨as, b _ _ e, l, fun i a x e1 e2 => b _ _ (q i a x e1 e2)⟩
theorem LT.at {H : Hp} {r : Addr} {ls : List (List Nat)} (t : LT H r ls) {i : Nat} {s : List Nat} (e : ls[i]? = some s) : ∃ xs a, H r = some (.tup xs) ∧ xs[i]? = some (.ref a) ∧ Tp H a (VI s) := by
  obtain ⟨as, e1, l, q⟩ := t
  have hi := (List.getElem?_eq_some_iff.mp e).1
  have ha : i < as.length := by omega
  exact ⟨_, as[i], e1, by rw [List.getElem?_map, List.getElem?_eq_getElem ha]; rfl, q i _ s (List.getElem?_eq_getElem ha) e⟩
theorem LT.len {H : Hp} {r : Addr} {ls : List (List Nat)} (t : LT H r ls) : ∃ xs, H r = some (.tup xs) ∧ xs.length = ls.length := by
  obtain ⟨as, e1, l, q⟩ := t
  exact ⟨_, e1, by rw [List.length_map, l]⟩
theorem RT.at {H : Hp} {r : Addr} {ls : List (List Nat)} (t : RT H r ls) {i : Nat} {s : List Nat} (e : ls[i]? = some s) : ∃ xs a, H r = some (.tup xs) ∧ xs[i]? = some (.ref a) ∧ H a = some (.tup (VR ls.length s)) := by
  obtain ⟨as, e1, l, q⟩ := t
  have hi := (List.getElem?_eq_some_iff.mp e).1
  have ha : i < as.length := by omega
  exact ⟨_, as[i], e1, by rw [List.getElem?_map, List.getElem?_eq_getElem ha]; rfl, q i _ s (List.getElem?_eq_getElem ha) e⟩
theorem inV_VI (p : Nat) (s : List Nat) : inV (.int (p : Nat)) (VI s) = decide (p ∈ s) := by
  unfold inV VI
  rw [List.any_map, Bool.eq_iff_iff, List.any_eq_true, decide_eq_true_eq]
  constructor
  · rintro ⟨y, hy, e⟩
    have : ((y : Nat) : Int) = (p : Nat) := eq_of_beq e
    have : y = p := by omega
    rwa [← this]
  · intro h
    exact ⟨p, h, beq_self_eq_true ((p : Nat) : Int)⟩
theorem flat_VI (s : List Nat) : (VI s).all flatV = true := by
  unfold VI
  rw [List.all_map, List.all_eq_true]
  intro x _
  rfl
theorem rkV_take {s : List Nat} (nd : s.Nodup) {i x : Nat} (e : s[i]? = some x) (j : Nat) : rkV (s.take (i + 1)) j = if j = x then .int (i : Nat) else rkV (s.take i) j := by
  have hi := (List.getElem?_eq_some_iff.mp e).1
  have e1 : s.take (i + 1) = s.take i ++ [x] := by
    rw [List.take_succ, e]
    rfl
  have nx : x ∉ s.take i := by
    intro h
    obtain ⟨k, hk, ek⟩ := List.mem_iff_getElem.mp h
    rw [List.getElem_take] at ek
    rw [List.length_take] at hk
    have := nodup_ix nd (show s[k]? = some x by rw [List.getElem?_eq_getElem (by omega), ek]) e
    omega
  unfold rkV
  rw [e1]
  by_cases c : j = x
  · subst c
    rw [if_pos (by simp), if_pos rfl, List.idxOf_append, if_neg nx]
    simp
    omega
  · rw [if_neg c]
    by_cases d : j ∈ s.take i
    · rw [if_pos (by simp [d]), if_pos d, List.idxOf_append, if_pos d]
    · rw [if_neg (by simp [d, c]), if_neg d]
def spRanksOfList : Sp := fun vs H Q _ => ∃ (a : Addr) (s : List Nat) (n : Nat), vs = [.ref a, .int n] ∧ Tp H a (VI s) ∧ n ≤ 100 ∧ s.Nodup ∧ (∀ j ∈ s, j < n) ∧ ∀ (r : Addr) (H' : Hp), Same H H' → H r = none → H' r = some (.tup (VR n s)) → Q (.ref r) H'
theorem scRanksOfList : FnScope ["some", "many", "ranks", "rank", "other"] ["some", "many"] (defScope sRanksOfList) := ⟨rfl, rfl, rfl, by decide +kernel, rfl, by decide +kernel, by decide +kernel⟩
def spRanksOfLists : Sp := fun vs H Q _ => ∃ (a : Addr) (ls : List (List Nat)), vs = [.ref a] ∧ LT H a ls ∧ ls.length ≤ 100 ∧ ListsOk ls.length ls ∧ ∀ (r : Addr) (H' : Hp), Same H H' → H r = none → RT H' r ls → Q (.ref r) H'
theorem scRanksOfLists : FnScope ["lists", "some"] ["lists"] (defScope sRanksOfLists) := ⟨rfl, rfl, rfl, by decide +kernel, rfl, by decide +kernel, by decide +kernel⟩
theorem ixN_nat {m j : Nat} (h : j < m) : ixN m (j : Nat) = some j := by
  unfold ixN
  rw [if_pos (by omega), if_pos (by omega)]
  rfl
theorem map_set_at (f g : Nat → V) (n x : Nat) (v : V) (hx : x < n) (h : ∀ j, g j = if j = x then v else f j) : ((List.range n).map f).set x v = (List.range n).map g := by
  apply List.ext_getElem?
  intro j
  rw [List.getElem?_set]
  by_cases c : x = j
  · subst c
    rw [if_pos rfl, if_pos (by simpa using hx), List.getElem?_map, List.getElem?_range hx]
    show some v = some (g x)
    rw [h x, if_pos rfl]
  · rw [if_neg c, List.getElem?_map, List.getElem?_map]
    by_cases d : j < n
    · rw [List.getElem?_range d]
      show some (f j) = some (g j)
      rw [h j, if_neg (fun z => c z.symm)]
    · rw [List.getElem?_eq_none (by simpa using d)]
      rfl
theorem rep_flat (n : Nat) (v : V) : (List.replicate n [v]).flatten = List.replicate n v := by
  induction n with
  | zero => rfl
  | succ m ih => rw [List.replicate_succ, List.flatten_cons, ih]; rfl
theorem same_rfl {H : Hp} : Same H H := fun _ _ e => e
theorem VI_at {s : List Nat} {i : Nat} {x : V} (e : (VI s)[i]? = some x) : ∃ j, s[i]? = some j ∧ x = V.int (j : Nat) := by
  unfold VI at e
  rw [List.getElem?_map] at e
  cases h : s[i]? with
  | none => rw [h] at e; cases e
  | some j => rw [h] at e; exact ⟨j, rfl, (Option.some.inj e).symm⟩
abbrev rLenS (K : PySem.W.Frag) : List V → Hp → VK → Prop := fun xs H Q => ∃ p ys, xs = [V.ref p] ∧ (SqL K H p ys ∨ SqT K H p ys) ∧ Q (.int (ys.length : Nat)) H
section
variable {P : Program} {w : World} {K : PySem.W.Frag} {mg : Str → Option Value} {base : Heap}
theorem ok_ranks_of_list {f : Addr} {fd : FuncData} {k : Nat} (F : Fun K "_ranks_of_list" "_ranks_of_list" sRanksOfList f fd) (me : mg "enumerate" = none) (mt : mg "tuple" = none) : FnOk P w K mg base CX0 (k + 1) f fd ["some", "many"] spRanksOfList := by
  refine F.ok scRanksOfList (fun vs H Q E h => ?_) (fun cdv A outer s H vs Q E hr h => ?_)
  · obtain ⟨a, s, n, rfl, _⟩ := h
    rfl
  · obtain ⟨a, s, n, rfl, es, hn, nd, lt, q⟩ := h
    refine ⟨_, pss_cons (ps_set (i := 2) scRanksOfList.nd rfl (.inl rfl) (pe_op op_rep (pe_lst (pa_cons pe_non pa_nil)) (pv 1)))
      (pss_cons (ps_for PassesOwn.never rfl (pi_enumT (by rfl) me (pa_cons (pv 0) pa_nil)) (pg_tup rfl (pgs_cons (pg_name (i := 3) scRanksOfList.nd rfl (.inl rfl)) (pgs_cons (pg_name (i := 4) scRanksOfList.nd rfl (.inl rfl)) pgs_nil)))
        (pss_one (ps_asg (pv 3) (pg_sub (pv 2) (pv 4) set_list))))
      (pss_one (ps_ret (pe_callTy call_tuple_of (by rfl) mt (by decide +kernel) (pa_cons (pv 2) pa_nil))))), ?_⟩
    refine ⟨(by show 1 ≤ sizeLine; decide), fun u nu => ⟨_, rfl, u, n, [.non], rfl, rfl, upd_same, by omega, by omega, ?_, fun p np => ?_⟩⟩
    · show 1 * n ≤ sizeLine
      exact sz5 (by omega)
    have np0 : H p = none := by
      have nup : u ≠ p := ne_of_none upd_same np
      rw [upd_ne (Ne.symm nup)] at np
      exact np
    have e0 : (List.replicate (n : Int).toNat [V.non]).flatten = (List.range n).map (rkV (s.take 0)) := by
      show (List.replicate n [V.non]).flatten = _
      rw [rep_flat]
      symm
      refine List.eq_replicate_iff.mpr ⟨by simp, fun b hb => ?_⟩
      obtain ⟨j, _, rfl⟩ := List.mem_map.mp hb
      unfold rkV
      rw [List.take_zero, if_neg (by simp)]
    rw [e0]
    have s1 : Same H (upd (upd H u (.lst [.non])) p (.lst ((List.range n).map (rkV (s.take 0))))) := (same_rfl.fresh nu).fresh np0
    refine ⟨_, rfl, a, VI s, rfl, (es.same s1).sq, ?_⟩
    refine for_it (walk_enumT (K := K) (a := a) (xs := VI s)) (fun i σ H' => ∃ y z : Option V, σ = [some (.ref a), some (.int n), some (.ref p), y, z] ∧ Same H H' ∧ H' p = some (.lst ((List.range n).map (rkV (s.take i)))))
      ⟨none, none, rfl, s1, upd_same⟩ (fun i σ H' _ ⟨_, _, _, sm, _⟩ => (es.same sm).sq) ?_ ?_
    · rintro i x σ H1 H2 hi ⟨y, z, rfl, sm, ep⟩ ⟨T, x0, x1, rfl, nT, rfl, e1, e2⟩
      cases e1
      obtain ⟨j, hj, rfl⟩ := VI_at e2
      have npT : p ≠ T := ne_of_none ep nT
      refine ⟨T, _, rfl, SqT.of upd_same, rfl, _, _, rfl, gn ⟨_, _, rfl, gn ⟨rfl, ?_⟩⟩⟩
      dsimp only [List.set]
      have hjn := lt j (List.mem_of_getElem? hj)
      refine ⟨_, rfl, _, rfl, _, rfl, p, _, (j : Int), j, rfl, rfl, by rw [upd_ne npT]; exact ep, by rw [List.length_map, List.length_range]; exact ixN_nat hjn, ?_⟩
      refine ⟨_, _, rfl, (sm.fresh (sm.free nT)).fresh np0, ?_⟩
      rw [upd_same, map_set_at _ (rkV (s.take (i + 1))) n j _ hjn (rkV_take nd hj)]
    · rintro σ H1 ⟨y, z, rfl, sm, ep⟩
      refine ⟨_, rfl, p, _, rfl, .inl ⟨SqL.of ep, fun r nr => q r _ (sm.fresh (sm.free nr)) (sm.free nr) ?_⟩⟩
      rw [upd_same, VI_len, List.take_length]
      rfl
theorem ok_ranks_of_lists {f g : Addr} {fd gd : FuncData} {k : Nat} (F : Fun K "_ranks_of_lists" "_ranks_of_lists" sRanksOfLists f fd) (G : FnOk P w K mg base CX0 k g gd ["some", "many"] spRanksOfList) (bG : Binds K gd ["some", "many"] []) (kG : PySem.W.keepIn K (.ref g) = true) (mG : mg "_ranks_of_list" = some (.ref g)) (ml : mg "len" = none) (mt : mg "tuple" = none) : FnOk P w K mg base CX0 (k + 1) f fd ["lists"] spRanksOfLists := by
  refine F.ok scRanksOfLists (fun vs H Q E h => ?_) (fun cdv A outer s H vs Q E hr h => ?_)
  · obtain ⟨a, ls, rfl, _⟩ := h
    rfl
  · obtain ⟨a, ls, rfl, lt, hn, ok, q⟩ := h
    refine ⟨_, pss_one (ps_ret (pe_callTy call_tuple_of (by rfl) mt (by decide +kernel) (pa_cons (pe_lc (own := [("some", 1)]) (g := gName 1) (tt := tYes) (te := tCall spRanksOfList [] E0 (tCons (tVar 1) (tCons (tCB (rLenS K) (tCons (tVar 0) tNil)) tNil))) rfl scRanksOfLists.nd (pi_tup (pv 0))
          (blkOk_by (own := [("some", 1)]) (N := ["lists", "some"]) (sc := defScope sRanksOfLists) (by decide +kernel)) (fun _ _ _ _ _ => pg_name (i := 1) scRanksOfLists.nd rfl (Or.inl rfl)) (fun _ _ _ _ _ => pts_nil)
          (fun _ _ _ _ _ => pe_call G hr rfl mG kG bG .nil pass0 (pa_cons (pv 1) (pa_cons (pe_callB call_len_seq (by rfl) ml PySem.boot_len (pa_cons (pv 0) pa_nil)) pa_nil)))) pa_nil))), ?_⟩
    obtain ⟨as, ea, al, rows⟩ := lt
    refine ⟨_, rfl, a, rfl, ⟨_, SqT.of ea⟩, fun D nD => ?_⟩
    refine lc_it (walk_tup (K := K) (a := a) (xs := as.map V.ref)) (fun i H' => ∃ rs : List Addr, H' D = some (.lst (rs.map V.ref)) ∧ rs.length = i ∧ Same H H' ∧ ∀ (j : Nat) (r : Addr) (s : List Nat), rs[j]? = some r → ls[j]? = some s → H' r = some (.tup (VR ls.length s)))
      ⟨[], upd_same, rfl, same_upd nD, fun _ _ _ e => by simp at e⟩ (fun i H' _ ⟨_, _, _, sm, _⟩ => SqT.of (sm _ _ ea)) ?_ ?_
    · rintro i x H1 H2 hi ⟨rs, eD, rl, sm, old⟩ ⟨rfl, ex⟩
      rw [List.length_map] at hi
      have hx : (as.map V.ref)[i]? = some (V.ref as[i]) := by rw [List.getElem?_map, List.getElem?_eq_getElem hi]; rfl
      rw [hx] at ex
      cases ex
      have hl : i < ls.length := by omega
      have el : (as.map V.ref).length = ls.length := by rw [List.length_map, al]
      have er := rows i as[i] ls[i] (List.getElem?_eq_getElem hi) (List.getElem?_eq_getElem hl)
      refine gn ⟨rfl, yes ⟨_, rfl, _, rfl, a, _, rfl, .inr (SqT.of (sm _ _ ea)), as[i], ls[i], ls.length, (by rw [el]; rfl), er.same sm, hn, ok.nd i _ (List.getElem?_eq_getElem hl), fun j hj => (ok.both i _ j (List.getElem?_eq_getElem hl) hj).1, fun r H3 sm3 nr er3 => ?_⟩⟩
      have nDr : D ≠ r := ne_of_none eD nr
      refine ⟨_, sm3 _ _ eD, by rw [List.length_map]; exact sz6 (by omega), rs ++ [r], by rw [upd_same]; simp, by simp [rl], (sm.trans sm3).fresh nD, ?_⟩
      intro j r' s' e1 e2
      by_cases c : j < rs.length
      · rw [List.getElem?_append_left c] at e1
        have e7 := sm3 _ _ (old j r' s' e1 e2)
        have nd' : D ≠ r' := fun z => by
          rw [← z, sm3 _ _ eD] at e7
          cases e7
        rw [upd_ne (Ne.symm nd')]
        exact e7
      · rw [List.getElem?_append_right (by omega), List.getElem?_singleton] at e1
        split at e1
        · cases e1
          have : j = i := by omega
          subst this
          rw [List.getElem?_eq_getElem hl] at e2
          cases e2
          rw [upd_ne (Ne.symm nDr)]
          exact er3
        · cases e1
    · rintro H1 ⟨rs, eD, rl, sm, old⟩
      rw [List.length_map] at rl
      refine ⟨D, _, rfl, .inl ⟨SqL.of eD, fun r nr => q r _ (sm.fresh (sm.free nr)) (sm.free nr) ⟨rs, upd_same, by omega, fun j r' s' e1 e2 => ofN nr (old j r' s' e1 e2)⟩⟩⟩
end
end K14
/-! t.index(n) of a tuple of whole numbers -/
namespace K14
open PySem PySem.Spec PyProof.Rows L2
theorem idx_none {s : List Nat} {j m : Nat} (h : m < s.idxOf j) : s[m]? ≠ some j := by
  intro e
  have hm := (List.getElem?_eq_some_iff.mp e)
  obtain ⟨hl, he⟩ := hm
  have := List.not_of_lt_findIdx (p := (· == j)) (xs := s) h
  simp [he] at this
section
variable {X : Cx}
theorem mt_tupIdx : MtR X "tuple.index" (fun x xs H Q => ∃ (p : Addr) (s : List Nat) (j : Nat), x = .ref p ∧ xs = [.int (j : Nat)] ∧ SqT X.K H p (VI s) ∧ j ∈ s ∧ Q (.int (s.idxOf j : Nat)) H) := by
  intro pins st σ H x xs v us Q I rx rs h
  obtain ⟨p, s, j, rfl, rfl, hq, hm, q⟩ := h
  cases rx
  obtain ⟨u, rfl, t, rfl⟩ := vals1 rs
  obtain ⟨its, r, pl, _⟩ := I.tuple hq
  obtain ⟨⟨cls, dd, dt, sl⟩, ho, hc, n, hd⟩ := pl
  simp only at hc hd
  subst hc hd
  have ln : its.toArray.size = s.length := by rw [List.size_toArray, ← r.length, VI_len]
  have hj : s.idxOf j < its.toArray.size := by rw [ln]; exact List.idxOf_lt_length_of_mem hm
  have item : ∀ (m : Nat) (hm : m < its.toArray.size), ∃ y t', s[m]? = some y ∧ its.toArray[m] = Value.int (y : Nat) t' := fun m hlt => by
    have h2 : m < s.length := by omega
    obtain ⟨a, ea, t', et⟩ := r.get (i := m) (x := .int (s[m] : Nat)) (VI_get (List.getElem?_eq_getElem h2))
    refine ⟨s[m], t', List.getElem?_eq_getElem h2, ?_⟩
    have e3 := (List.getElem?_eq_some_iff.mp ea).2
    rw [← et, ← e3]
    simp
  refine call_meets PySem.F.slot_tuple_index ⟨_, ho, rfl⟩ PySem.F.entry_tuple_index (PySem.F.args_tuple_index_2 _ _) (TI.tuple_indexAt p its.toArray n dd sl (.int (j : Nat) t) (eqU (.int (j : Nat))) (s.idxOf j) hj ?_ ?_) ⟨ho, fun a ha => mem_eqAt (x := .int (j : Nat)) ⟨t, rfl⟩ rfl r (flat_VI s) a (by simpa using ha), ⟨.int (s.idxOf j : Nat), H, I.tok _, ⟨_, rfl⟩, q⟩⟩
  · obtain ⟨y, t', h1, h2⟩ := item _ hj
    have e : s[s.idxOf j]? = some j := by rw [List.getElem?_eq_getElem (List.idxOf_lt_length_of_mem hm), List.getElem_idxOf]
    rw [e] at h1
    cases h1
    rw [h2]
    exact beq_self_eq_true ((j : Nat) : Int)
  · intro m hlt hmj
    obtain ⟨y, t', h1, h2⟩ := item m hlt
    rw [h2]
    refine beq_eq_false_iff_ne.mpr fun e => idx_none hmj ?_
    rw [h1]
    congr 1
    have : ((y : Nat) : Int) = (j : Nat) := e
    omega
end
end K14
namespace K14
open PySem PySem.Spec PyProof.Rows L2
def spAreNames : Sp := fun vs H Q _ => ∃ (a : Addr) (ns : List (List Nat)) (n : Nat), vs = [.ref a] ∧ H a = some (.tup (VN ns)) ∧ NamesOk n ns ∧ 1 ≤ n ∧ n ≤ 60 ∧ ∀ H', Same H H' → Q (.bl true) H'
theorem scAreNames : FnScope ["value", "name", "at"] ["value"] (defScope sAreNames) := ⟨rfl, rfl, rfl, by decide +kernel, rfl, by decide +kernel, by decide +kernel⟩
def spCheckLists : Sp := fun vs H Q _ => ∃ (a : Addr) (ls : List (List Nat)), vs = [.ref a] ∧ LT H a ls ∧ ls.length ≤ 100 ∧ ListsOk ls.length ls ∧ ∀ H', Same H H' → Q .non H'
theorem scCheckLists : FnScope ["lists", "person", "some"] ["lists"] (defScope sCheckLists) := ⟨rfl, rfl, rfl, by decide +kernel, rfl, by decide +kernel, by decide +kernel⟩
def spCheckBoth : Sp := fun vs H Q _ => ∃ (a r : Addr) (ls : List (List Nat)), vs = [.ref a, .ref r] ∧ LT H a ls ∧ RT H r ls ∧ ls.length ≤ 100 ∧ ListsOk ls.length ls ∧ ∀ H', Same H H' → Q .non H'
theorem scCheckBoth : FnScope ["lists", "ranks", "person", "some", "other"] ["lists", "ranks"] (defScope sCheckBoth) := ⟨rfl, rfl, rfl, by decide +kernel, rfl, by decide +kernel, by decide +kernel⟩
theorem VN_len (ns : List (List Nat)) : (VN ns).length = ns.length := by simp [VN]
theorem VN_at {ns : List (List Nat)} {i : Nat} {x : V} (e : (VN ns)[i]? = some x) : ∃ s, ns[i]? = some s ∧ x = V.str (SS s) := by
  unfold VN at e
  rw [List.getElem?_map] at e
  cases h : ns[i]? with
  | none => rw [h] at e; cases e
  | some j => rw [h] at e; exact ⟨j, rfl, (Option.some.inj e).symm⟩
theorem VN_get {ns : List (List Nat)} {i : Nat} {s : List Nat} (e : ns[i]? = some s) : (VN ns)[i]? = some (V.str (SS s)) := by
  unfold VN
  rw [List.getElem?_map, e]
  rfl
theorem LT.row {H : Hp} {a : Addr} {ls : List (List Nat)} {xs : List V} {i : Nat} {x : V} (t : LT H a ls) (e : H a = some (.tup xs)) (ex : xs[i]? = some x) : ∃ q s, x = .ref q ∧ ls[i]? = some s ∧ Tp H q (VI s) := by
  obtain ⟨as, e1, l, q⟩ := t
  rw [e1] at e
  cases e
  rw [List.getElem?_map] at ex
  cases h : as[i]? with
  | none => rw [h] at ex; cases ex
  | some b =>
    rw [h] at ex
    have hi := (List.getElem?_eq_some_iff.mp h).1
    have hl : i < ls.length := by omega
    exact ⟨b, ls[i], (Option.some.inj ex).symm, List.getElem?_eq_getElem hl, q i b _ h (List.getElem?_eq_getElem hl)⟩
theorem ListsOk.each {n : Nat} {ls : List (List Nat)} (ok : ListsOk n ls) {i : Nat} {s : List Nat} (e : ls[i]? = some s) : s.length ≤ n := List.Nodup.length_le_card_of_sub (ok.nd i s e) fun x hx => (ok.both i s x e hx).1
theorem walk_range0 {n : Nat} : Walk (Itr 0 n) n (fun _ => True) (YFn fun i => .int (i : Nat)) :=
  walk_range.mono (fun _ h => h) fun i H x H' _ _ y => ⟨y.1, y.2.trans (congrArg V.int (Int.zero_add _))⟩
section
variable {P : Program} {w : World} {K : PySem.W.Frag} {mg : Str → Option Value} {base : Heap}
theorem ok_are_names {f g : Addr} {fd gd : FuncData} {k : Nat} {t6 : Tok} (F : Fun K "_are_names" "_are_names" sAreNames f fd) (G : FnOk P w K mg base CX0 k g gd ["value"] spIsName) (bG : Binds K gd ["value"] []) (kG : PySem.W.keepIn K (.ref g) = true) (mG : mg "is_name" = some (.ref g)) (mis : mg "isinstance" = none) (mt : mg "tuple" = none) (ml : mg "len" = none) (ma : mg "all" = none) (mr : mg "range" = none) (m6 : mg "MOST_PERSONS" = some (.int 60 t6)) : FnOk P w K mg base CX0 (k + 1) f fd ["value"] spAreNames := by
  refine F.ok scAreNames (fun vs H Q E h => ?_) (fun cdv A outer s H vs Q E hr h => ?_)
  · obtain ⟨a, ns, n, rfl, _⟩ := h
    rfl
  · obtain ⟨a, ns, n, rfl, ea, ok, n1, n60, q⟩ := h
    refine ⟨_, pss_cons (ps_if (PW.pt (pw_or (pt_not (pt_val (pe_callB call_isi (by rfl) mis (by decide +kernel) (pa_cons (pv 0) (pa_cons (pe_bltn (v := .ty "tuple") (by rfl) mt (by decide +kernel) rfl) pa_nil)))))
        (pw_or1 (pt_not (pt_chain op_le op_le pe_int (pe_callB call_len_seq (by rfl) ml PySem.boot_len (pa_cons (pv 0) pa_nil)) (pe_glob (v := .int 60) rfl m6 ⟨_, rfl⟩)))))) (pss_one ps_never) pss_nil)
      (pss_cons (ps_if (pt_not (pt_val (pe_callB (cr_all rfl) (by rfl) ma (by decide +kernel) (pa_cons (pe_lc (own := [("name", 1)]) (g := gName 1) (tt := tYes) rfl scAreNames.nd (pi_tup (pv 0))
          (blkOk_by (own := [("name", 1)]) (N := ["value", "name", "at"]) (sc := defScope sAreNames) (by decide +kernel)) (fun _ _ _ _ _ => pg_name (i := 1) scAreNames.nd rfl (Or.inl rfl)) (fun _ _ _ _ _ => pts_nil)
          (fun _ _ _ _ _ => pe_call G hr rfl mG kG bG .nil pass0 (pa_cons (pv 1) pa_nil))) pa_nil)))) (pss_one ps_never) pss_nil)
      (pss_one (ps_ret (pe_callB (cr_all rfl) (by rfl) ma (by decide +kernel) (pa_cons (pe_lc (own := [("at", 2)]) (g := gName 2) (tt := tYes) (te := tOp (fun x y H Q => ∃ i j, x = V.str i ∧ y = V.str j ∧ Q (V.bl (decide (i.cps.toList < j.cps.toList))) H) (tOp (rIxT K) (tVar 0) (tVar 2)) (tOp (rIxT K) (tVar 0) (tOp (rI0 fun i j => V.int (i + j)) (tVar 2) (tC (.int 1))))) rfl scAreNames.nd (pi_range1 rfl mr (pa_cons (pe_op op_sub (pe_callB call_len_seq (by rfl) ml PySem.boot_len (pa_cons (pv 0) pa_nil)) pe_int) pa_nil))
          (blkOk_by (own := [("at", 2)]) (N := ["value", "name", "at"]) (sc := defScope sAreNames) (by decide +kernel)) (fun _ _ _ _ _ => pg_name (i := 2) scAreNames.nd rfl (Or.inl rfl)) (fun _ _ _ _ _ => pts_nil)
          (fun _ _ _ _ _ => pe_cmpR op_lt_str (pe_ix ix_tup (pv 0) (pv 2) (fun _ _ => rfl)) (pe_ix ix_tup (pv 0) (pe_op op_add (pv 2) pe_int) (fun _ _ => rfl)) (nomark _))) pa_nil))))), ?_⟩
    have ln : (VN ns).length = n := by rw [VN_len, ok.len]
    refine (⟨_, rfl, _, _, _, _, true, rfl, .ty _, .base (.tup ea), kit_ty (by decide +kernel), ⟨_, rfl, iteF ?_⟩⟩)
    refine ⟨_, rfl, a, _, rfl, .inr (SqT.of ea), _, _, rfl, rfl, _, rfl, ?_⟩
    rw [ln]
    have c1 : decide ((1 : Int) ≤ (n : Nat)) = true := by simp; omega
    have c2 : decide (((n : Nat) : Int) ≤ 60) = true := by simp; omega
    rw [c1]
    refine iteT ⟨_, _, rfl, rfl, _, rfl, ?_⟩
    dsimp only
    rw [c2]
    refine iteF ?_
    refine ⟨_, rfl, a, rfl, ⟨_, SqT.of ea⟩, fun D nD => ?_⟩
    refine lc_same (walk_tup (K := K) (a := a) (xs := VN ns)) (by omega) (fun _ => .bl true) nD (fun _ sm => SqT.of (sm _ _ ea)) ?_ ?_
    · rintro i x H1 H2 Z out hi sm ⟨rfl, ex⟩
      obtain ⟨s0, es, rfl⟩ := VN_at ex
      obtain ⟨q1, q2, q3⟩ := ok.each s0 (List.mem_of_getElem? es)
      exact gn ⟨rfl, _, rfl, s0, rfl, q1, q2, q3, fun H3 sm3 => out _ sm3⟩
    · intro H1 sm e1
      refine ⟨D, _, rfl, SqL.of (by rw [e1, bl_true]), true, ?_, ?_⟩
      · rw [all_true]
      refine iteF ?_
      have ea1 := sm _ _ ea
      refine ⟨_, rfl, a, _, rfl, .inr (SqT.of ea1), _, _, rfl, rfl, _, rfl, by omega, by omega, fun D2 nD2 => ?_⟩
      rw [ln]
      have em : ((n : Int) - 1).toNat = n - 1 := by omega
      refine lc_same (J := Itr 0 ((n : Int) - 1).toNat) (n := n - 1) (by rw [em]; exact walk_range0) (by omega) (fun _ => .bl true) nD2 (fun _ _ => trivial) ?_ ?_
      · rintro i x H2 H3 Z out hi sm2 ⟨rfl, rfl⟩
        have h1 : i < ns.length := by rw [ok.len]; omega
        have h2 : i + 1 < ns.length := by rw [ok.len]; omega
        have g1 := List.getElem?_eq_getElem h1
        have g2 := List.getElem?_eq_getElem h2
        have ea3 := sm2 _ _ ea1
        refine gn ⟨rfl, _, rfl, _, rfl, a, _, _, _, rfl, rfl, SqT.of ea3, atI_nat (VN_get g1), _, rfl, _, rfl, _, _, rfl, rfl, a, _, _, _, rfl, rfl, SqT.of ea3, atI_nat (j := i + 1) (VN_get g2), _, _, rfl, rfl, ?_⟩
        rw [decide_eq_true (ok.asc i _ _ g1 g2 : (SS ns[i]).cps.toList < (SS ns[i + 1]).cps.toList)]
        exact out _ same_rfl
      · intro H2 sm2 e2
        refine ⟨D2, _, rfl, SqL.of (by rw [e2, bl_true]), ?_⟩
        rw [all_true]
        exact q _ (sm.trans sm2)
theorem ok_check_lists {f g : Addr} {fd gd : FuncData} {k : Nat} (F : Fun K "_check_lists" "_check_lists" sCheckLists f fd) (G : FnOk P w K mg base CX0 k g gd ["value", "many"] spAreUnlike) (bG : Binds K gd ["value", "many"] []) (kG : PySem.W.keepIn K (.ref g) = true) (mG : mg "are_unlike_persons" = some (.ref g)) (me : mg "enumerate" = none) (ml : mg "len" = none) : FnOk P w K mg base CX0 (k + 1) f fd ["lists"] spCheckLists := by
  refine F.ok scCheckLists (fun vs H Q E h => ?_) (fun cdv A outer s H vs Q E hr h => ?_)
  · obtain ⟨a, ls, rfl, _⟩ := h
    rfl
  · obtain ⟨a, ls, rfl, lt, hn, ok, q⟩ := h
    refine ⟨_, pss_one (ps_for PassesOwn.never rfl (pi_enumT (by rfl) me (pa_cons (pv 0) pa_nil)) (pg_tup rfl (pgs_cons (pg_name (i := 1) scCheckLists.nd rfl (.inl rfl)) (pgs_cons (pg_name (i := 2) scCheckLists.nd rfl (.inl rfl)) pgs_nil)))
        (pss_one (ps_if (PW.pt (pw_or (pt_not (pt_val (pe_call G hr rfl mG kG bG .nil pass0 (pa_cons (pv 2) (pa_cons (pe_callB call_len_seq (by rfl) ml PySem.boot_len (pa_cons (pv 0) pa_nil)) pa_nil))))) (pw_or1 (pt_cmpR op_in_seq (pv 1) (pv 2) rfl)))) (pss_one ps_never) pss_nil))), ?_⟩
    obtain ⟨xs, ea, xl⟩ := lt.len
    refine ⟨_, rfl, a, xs, rfl, SqT.of ea, ?_⟩
    refine for_it (walk_enumT (K := K) (a := a) (xs := xs)) (fun i σ H' => ∃ y z : Option V, σ = [some (.ref a), y, z] ∧ Same H H')
      ⟨none, none, rfl, same_rfl⟩ (fun i σ H' _ ⟨_, _, _, sm⟩ => SqT.of (sm _ _ ea)) ?_ ?_
    · rintro i x σ H1 H2 hi ⟨y, z, rfl, sm⟩ ⟨T, x0, x1, rfl, nT, rfl, e1, e2⟩
      cases e1
      obtain ⟨b, s1, rfl, es, eb⟩ := lt.row ea e2
      have sm2 := sm.fresh (o := .tup [.int (i : Nat), .ref b]) (sm.free nT)
      refine ⟨T, _, rfl, SqT.of upd_same, rfl, _, _, rfl, gn ⟨_, _, rfl, gn ⟨rfl, ?_⟩⟩⟩
      dsimp only [List.set]
      generalize upd H1 T (.tup [.int (i : Nat), .ref b]) = H3 at sm2
      refine ⟨_, rfl, _, rfl, a, xs, rfl, .inr (SqT.of (sm2 _ _ ea)), b, s1, ls.length, by rw [xl]; rfl, eb.same sm2, by have := ok.each es; omega, ok.nd i _ es, fun j hj => (ok.both i _ j es hj).1, fun H4 sm4 => ⟨true, rfl, iteF ?_⟩⟩
      refine ⟨_, rfl, _, rfl, b, _, rfl, .inr (((eb.same sm2).same sm4).sq), rfl, flat_VI s1, _, rfl, ?_⟩
      dsimp only
      rw [inV_VI, decide_eq_false (fun hm => (ok.both i _ i es hm).2.1 rfl)]
      exact iteF ⟨_, _, rfl, sm2.trans sm4⟩
    · rintro σ H1 ⟨y, z, rfl, sm⟩
      exact q _ sm
theorem ok_check_both {f : Addr} {fd : FuncData} {k : Nat} (F : Fun K "_check_both_ways" "_check_both_ways" sCheckBoth f fd) (me : mg "enumerate" = none) : FnOk P w K mg base CX0 (k + 1) f fd ["lists", "ranks"] spCheckBoth := by
  refine F.ok scCheckBoth (fun vs H Q E h => ?_) (fun cdv A outer s H vs Q E hr h => ?_)
  · obtain ⟨a, r, ls, rfl, _⟩ := h
    rfl
  · obtain ⟨a, r, ls, rfl, lt, rt, hn, ok, q⟩ := h
    refine ⟨_, pss_one (ps_for PassesOwn.never rfl (pi_enumT (by rfl) me (pa_cons (pv 0) pa_nil)) (pg_tup rfl (pgs_cons (pg_name (i := 2) scCheckBoth.nd rfl (.inl rfl)) (pgs_cons (pg_name (i := 3) scCheckBoth.nd rfl (.inl rfl)) pgs_nil)))
        (pss_one (ps_for PassesOwn.never rfl (pi_tup (pv 3)) (pg_name (i := 4) scCheckBoth.nd rfl (.inl rfl))
          (pss_one (ps_if (pt_cmpR op_isN (pe_ix ix_tup (pe_ix ix_tup (pv 1) (pv 4) (fun _ _ => rfl)) (pv 2) (fun _ _ => rfl)) pe_non (nomark _)) (pss_one ps_never) pss_nil))))), ?_⟩
    obtain ⟨xs, ea, xl⟩ := lt.len
    refine ⟨_, rfl, a, xs, rfl, SqT.of ea, ?_⟩
    refine for_it (walk_enumT (K := K) (a := a) (xs := xs)) (fun i σ H' => ∃ x y z : Option V, σ = [some (.ref a), some (.ref r), x, y, z] ∧ Same H H')
      ⟨none, none, none, rfl, same_rfl⟩ (fun i σ H' _ ⟨_, _, _, _, sm⟩ => SqT.of (sm _ _ ea)) ?_ ?_
    · rintro i x σ H1 H2 hi ⟨x', y, z, rfl, sm⟩ ⟨T, x0, x1, rfl, nT, rfl, e1, e2⟩
      cases e1
      obtain ⟨b, s1, rfl, es, eb⟩ := lt.row ea e2
      have sm2 := sm.fresh (o := .tup [.int (i : Nat), .ref b]) (sm.free nT)
      refine ⟨T, _, rfl, SqT.of upd_same, rfl, _, _, rfl, gn ⟨_, _, rfl, gn ⟨rfl, ?_⟩⟩⟩
      dsimp only [List.set]
      generalize upd H1 T (.tup [.int (i : Nat), .ref b]) = H3 at sm2
      refine ⟨_, rfl, b, rfl, ⟨_, (eb.same sm2).sq⟩, for_it (walk_tup (K := K) (a := b) (xs := VI s1)) (fun j σ H' => ∃ z : Option V, σ = [some (.ref a), some (.ref r), some (.int (i : Nat)), some (.ref b), z] ∧ Same H H') ⟨z, rfl, sm2⟩ (fun j σ H' _ ⟨_, _, sm⟩ => (eb.same sm).sq) ?_ ?_⟩
      · rintro j x σ H4 H5 hj ⟨z, rfl, sm4⟩ ⟨rfl, ex⟩
        obtain ⟨o, eo, rfl⟩ := VI_at ex
        refine gn ?_
        dsimp only [List.set]
        obtain ⟨h1, h2, t, et, hm⟩ := ok.both i s1 o es (List.mem_of_getElem? eo)
        obtain ⟨rows, c, er, ec, ev⟩ := rt.at et
        have hi' : i < ls.length := by omega
        refine ⟨_, rfl, _, rfl, r, rows, _, _, rfl, rfl, SqT.of (sm4 _ _ er), atI_nat ec, _, rfl, c, _, _, _, rfl, rfl, SqT.of (sm4 _ _ ev), atI_nat (VR_get hi'), rfl, _, rfl, ?_⟩
        have e0 : decide (rkV t i = V.non) = false := by
          unfold rkV
          rw [if_pos hm]
          rfl
        rw [e0]
        exact iteF ⟨_, rfl, sm4⟩
      · rintro σ H4 ⟨z, rfl, sm4⟩
        exact ⟨_, _, _, rfl, sm4⟩
    · rintro σ H1 ⟨x, y, z, rfl, sm⟩
      exact q _ sm
end
end K14
namespace K14
open PySem PySem.Spec PyProof.Rows L2
/-! ### wishes -/
theorem fne1 : ¬ (("names" : Str) = "lists") := by decide +kernel
theorem fne2 : ¬ (("names" : Str) = "_ranks") := by decide +kernel
theorem fne3 : ¬ (("lists" : Str) = "_ranks") := by decide +kernel
def wf (n l r : Addr) : List (Str × V) := putF "_ranks" (.ref r) (putF "lists" (.ref l) (putF "names" (.ref n) []))
theorem wf_names (n l r : Addr) : (wf n l r).lookup ("names" : Str) = some (.ref n) := by
  unfold wf
  rw [lookup_putF, if_neg fne2, lookup_putF, if_neg fne1, lookup_putF, if_pos rfl]
theorem wf_lists (n l r : Addr) : (wf n l r).lookup ("lists" : Str) = some (.ref l) := by
  unfold wf
  rw [lookup_putF, if_neg fne3, lookup_putF, if_pos rfl]
theorem wf_ranks (n l r : Addr) : (wf n l r).lookup ("_ranks" : Str) = some (.ref r) := by
  unfold wf
  rw [lookup_putF, if_pos rfl]
theorem wf2_len (n l : Addr) : (putF "lists" (.ref l) (putF "names" (.ref n) [])).length < 1000 := by
  show (if ("names" : Str) = "lists" then _ else (("names" : Str), V.ref n) :: putF "lists" (.ref l) []).length < 1000
  rw [if_neg fne1]
  show 2 < 1000
  decide
structure WAt (C : Addr) (H : Hp) (wi : Addr) (ns ls : List (List Nat)) : Prop where
  n60 : 1 ≤ ls.length ∧ ls.length ≤ 60
  nok : NamesOk ls.length ns
  ok : ListsOk ls.length ls
  ex : ∃ dx n l r, H wi = some (.ins C dx (wf n l r)) ∧ H n = some (.tup (VN ns)) ∧ LT H l ls ∧ RT H r ls
theorem WAt.same {C wi : Addr} {H H' : Hp} {ns ls : List (List Nat)} (W : WAt C H wi ns ls) (s : Same H H') : WAt C H' wi ns ls := by
  obtain ⟨dx, n, l, r, e1, e2, e3, e4⟩ := W.ex
  exact ⟨W.n60, W.nok, W.ok, dx, n, l, r, s _ _ e1, s _ _ e2, e3.same s, e4.same s⟩
theorem RT.bar {H H' : Hp} {h l r : Addr} {ls : List (List Nat)} (t : RT H r ls) (s : Src H h l) (b : Bar h l H H') : RT H' r ls := by
  obtain ⟨as, e, le, q⟩ := t
  exact ⟨as, tup_bar s b e, le, fun i a x e1 e2 => tup_bar s b (q i a x e1 e2)⟩
theorem WAt.bar {C wi h l : Addr} {H H' : Hp} {ns ls : List (List Nat)} (W : WAt C H wi ns ls) (s : Src H h l) (b : Bar h l H H') : WAt C H' wi ns ls := by
  obtain ⟨dx, n, l', r, e1, e2, e3, e4⟩ := W.ex
  have nn := s.ne e1 (fun _ z => by cases z)
  exact ⟨W.n60, W.nok, W.ok, dx, n, l', r, b _ _ nn.1 nn.2 e1, tup_bar s b e2, e3.bar s b, e4.bar s b⟩
structure Txt (K : PySem.W.Frag) (mg : Str → Option Value) (C : Addr) : Prop where
  cl : Cls K C
  nN : NoAttr K C "names"
  nL : NoAttr K C "lists"
  nR : NoAttr K C "_ranks"
  mgC : mg "Wishes" = some (.ref C)
def spWInit (C : Addr) : Sp := fun vs H Q _ => ∃ (p dx n l : Addr) (ns ls : List (List Nat)), vs = [.ref p, .ref n, .ref l] ∧ H p = some (.ins C dx []) ∧ H n = some (.tup (VN ns)) ∧ LT H l ls ∧ 1 ≤ ls.length ∧ ls.length ≤ 60 ∧ NamesOk ls.length ns ∧ ListsOk ls.length ls ∧
  ∀ H', WAt C H' p ns ls → (∀ b o, H b = some o → b ≠ p → H' b = some o) → Q .non H'
theorem scWInit : FnScope ["self", "names", "lists", "ranks"] ["self", "names", "lists"] (defScope sWInit) := ⟨rfl, rfl, rfl, by decide +kernel, rfl, by decide +kernel, by decide +kernel⟩
section
variable {P : Program} {w : World} {K : PySem.W.Frag} {mg : Str → Option Value} {base : Heap}
theorem ok_winit {f fn ft fl fr fb C : Addr} {fd dn dt dl dr db : FuncData} {k : Nat} (F : Fun K "__init__" "Wishes.__init__" sWInit f fd) (T : Txt K mg C)
    (Gn : FnOk P w K mg base CX0 k fn dn ["value"] spAreNames) (bn : Binds K dn ["value"] []) (kn : PySem.W.keepIn K (.ref fn) = true) (mn : mg "_are_names" = some (.ref fn))
    (Gt : FnOk P w K mg base CX0 k ft dt ["value", "many"] spIsTupleOf) (bt : Binds K dt ["value", "many"] []) (kt : PySem.W.keepIn K (.ref ft) = true) (mt : mg "is_tuple_of" = some (.ref ft))
    (Gl : FnOk P w K mg base CX0 k fl dl ["lists"] spCheckLists) (bl : Binds K dl ["lists"] []) (kl : PySem.W.keepIn K (.ref fl) = true) (ml : mg "_check_lists" = some (.ref fl))
    (Gr : FnOk P w K mg base CX0 k fr dr ["lists"] spRanksOfLists) (br : Binds K dr ["lists"] []) (kr : PySem.W.keepIn K (.ref fr) = true) (mr : mg "_ranks_of_lists" = some (.ref fr))
    (Gb : FnOk P w K mg base CX0 k fb db ["lists", "ranks"] spCheckBoth) (bb : Binds K db ["lists", "ranks"] []) (kb : PySem.W.keepIn K (.ref fb) = true) (mb : mg "_check_both_ways" = some (.ref fb)) (mlen : mg "len" = none) :
    FnOk P w K mg base CX0 (k + 1) f fd ["self", "names", "lists"] (spWInit C) := by
  refine F.ok scWInit (fun vs H Q E h => ?_) (fun cdv A outer s H vs Q E hr h => ?_)
  · obtain ⟨p, dx, n, l, ns, ls, rfl, _⟩ := h
    rfl
  · obtain ⟨p, dx, n, l, ns, ls, rfl, ep, en, lt, n1, n60, nok, ok, q⟩ := h
    refine ⟨_, pss_cons (ps_if (pt_not (pt_val (pe_call Gn hr rfl mn kn bn .nil pass0 (pa_cons (pv 1) pa_nil)))) (pss_one ps_never) pss_nil)
      (pss_cons (ps_if (pt_not (pt_val (pe_call Gt hr rfl mt kt bt .nil pass0 (pa_cons (pv 2) (pa_cons (pe_callB call_len_seq (by rfl) mlen PySem.boot_len (pa_cons (pv 1) pa_nil)) pa_nil))))) (pss_one ps_never) pss_nil)
      (pss_cons (ps_expr (pe_call Gl hr rfl ml kl bl .nil pass0 (pa_cons (pv 2) pa_nil)))
      (pss_cons (ps_set (i := 3) scWInit.nd rfl (.inl rfl) (pe_call Gr hr rfl mr kr br .nil pass0 (pa_cons (pv 2) pa_nil)))
      (pss_cons (ps_expr (pe_call Gb hr rfl mb kb bb .nil pass0 (pa_cons (pv 2) (pa_cons (pv 3) pa_nil))))
      (pss_cons (ps_fld (pv 0) (pv 1) rfl)
      (pss_cons (ps_fld (pv 0) (pv 2) rfl)
      (pss_one (ps_fld (pv 0) (pv 3) rfl)))))))), ?_⟩
    refine ⟨_, rfl, n, ns, ls.length, rfl, en, nok, n1, n60, fun H1 s1 => ⟨true, rfl, iteF ?_⟩⟩
    obtain ⟨xs, el, xl⟩ := lt.len
    have el1 := s1 _ _ el
    have t1 : tupOf H1 (.ref l) = some xs := by simp [tupOf, el1]
    refine ⟨_, rfl, _, rfl, n, _, rfl, .inr (SqT.of (s1 _ _ en)), .ref l, (VN ns).length, rfl, .tup el1, fun ys e => ?_, ?_⟩
    · rw [t1] at e
      cases e
      omega
    rw [t1]
    have c1 : decide (xs.length = (VN ns).length) = true := by
      rw [decide_eq_true_eq, xl, VN_len, nok.len]
    refine ⟨true, congrArg V.bl c1, iteF ?_⟩
    refine ⟨_, rfl, l, ls, rfl, lt.same s1, by omega, ok, fun H2 s2 => ?_⟩
    refine ⟨_, rfl, l, ls, rfl, (lt.same s1).same s2, by omega, ok, fun r H3 s3 nr rt => ?_⟩
    have s03 : Same H H3 := s1.trans (s2.trans s3)
    refine ⟨_, rfl, _, rfl, l, r, ls, rfl, lt.same s03, rt, by omega, ok, fun H4 s4 => ?_⟩
    have s04 : Same H H4 := s03.trans s4
    have ep4 := s04 _ _ ep
    refine ⟨_, rfl, _, rfl, p, C, dx, [], rfl, ep4, T.cl, T.nN, (by decide), ?_⟩
    refine ⟨_, rfl, _, rfl, p, C, dx, _, rfl, upd_same, T.cl, T.nL, (by show 1 < 1000; decide), ?_⟩
    refine ⟨_, rfl, _, rfl, p, C, dx, _, rfl, upd_same, T.cl, T.nR, wf2_len n l, ?_⟩
    have keep : ∀ b o, H b = some o → b ≠ p → (upd (upd (upd H4 p (.ins C dx (putF "names" (.ref n) []))) p (.ins C dx (putF "lists" (.ref l) (putF "names" (.ref n) [])))) p (.ins C dx (wf n l r))) b = some o := fun b o e nb => by
      rw [upd_ne nb, upd_ne nb, upd_ne nb]
      exact s04 b o e
    have keep3 : ∀ b xs, H4 b = some (.tup xs) → (upd (upd (upd H4 p (.ins C dx (putF "names" (.ref n) []))) p (.ins C dx (putF "lists" (.ref l) (putF "names" (.ref n) [])))) p (.ins C dx (wf n l r))) b = some (.tup xs) := fun b xs e => by
      have nb : b ≠ p := fun z => by rw [z, ep4] at e; cases e
      rw [upd_ne nb, upd_ne nb, upd_ne nb]
      exact e
    have nep : ∀ a xs, Tp H4 a xs → a ≠ p := fun a xs t z => by
      rcases t with e | ⟨o, _, _, e⟩ <;> (rw [z, ep4] at e; cases e)
    refine q _ ⟨⟨n1, n60⟩, nok, ok, dx, n, l, r, upd_same, keep3 _ _ (s04 _ _ en), ?_, ?_⟩ keep
    · obtain ⟨as, ea, al, rows⟩ := lt.same s04
      exact ⟨as, keep3 _ _ ea, al, fun i a x e1 e2 => ((((rows i a x e1 e2).put (nep _ _ (rows i a x e1 e2))).put (nep _ _ (rows i a x e1 e2))).put (nep _ _ (rows i a x e1 e2)))⟩
    · obtain ⟨as, ea, al, rows⟩ := rt.same s4
      exact ⟨as, keep3 _ _ ea, al, fun i a x e1 e2 => keep3 _ _ (rows i a x e1 e2)⟩
end
end K14
namespace K14
open PySem PySem.Spec PyProof.Rows L2
/-! ### holds -/
def hv : Option Nat → V
  | none => .non
  | some j => .int (j : Nat)
def VH (hs : List (Option Nat)) : List V := hs.map hv
theorem VH_len (hs : List (Option Nat)) : (VH hs).length = hs.length := List.length_map _
theorem VH_get {hs : List (Option Nat)} {i : Nat} {o : Option Nat} (e : hs[i]? = some o) : (VH hs)[i]? = some (hv o) := by unfold VH; rw [List.getElem?_map, e]; rfl
theorem VH_at {hs : List (Option Nat)} {i : Nat} {x : V} (e : (VH hs)[i]? = some x) : ∃ o, hs[i]? = some o ∧ x = hv o := by
  unfold VH at e
  rw [List.getElem?_map] at e
  cases h : hs[i]? with
  | none => rw [h] at e; cases e
  | some j => rw [h] at e; exact ⟨j, rfl, (Option.some.inj e).symm⟩
def rkO (s : List Nat) : Option Nat → V
  | none => .int (s.length : Nat)
  | some j => rkV s j
def rkN (s : List Nat) : Option Nat → Nat
  | none => s.length
  | some j => s.idxOf j
theorem rkO_N {s : List Nat} {o : Option Nat} (h : ∀ j, o = some j → j ∈ s) : rkO s o = .int (rkN s o : Nat) := by
  cases o with
  | none => rfl
  | some j =>
    show rkV s j = _
    unfold rkV
    rw [if_pos (h j rfl)]
    rfl
/-- the list of a person, the one it holds -/
def la (ls : List (List Nat)) (p : Nat) : List Nat := ls.getD p []
def ha (hs : List (Option Nat)) (p : Nat) : Option Nat := hs.getD p none
theorem la_get {ls : List (List Nat)} {p : Nat} (h : p < ls.length) : ls[p]? = some (la ls p) := by
  unfold la
  rw [List.getD_eq_getElem?_getD, List.getElem?_eq_getElem h]
  rfl
theorem ha_get {hs : List (Option Nat)} {p : Nat} (h : p < hs.length) : hs[p]? = some (ha hs p) := by
  unfold ha
  rw [List.getD_eq_getElem?_getD, List.getElem?_eq_getElem h]
  rfl
structure HoldsOk (ls : List (List Nat)) (hs : List (Option Nat)) : Prop where
  len : hs.length = ls.length
  on : ∀ p j, ha hs p = some j → p < ls.length ∧ j ∈ la ls p
def most (ls : List (List Nat)) (hs : List (Option Nat)) (p : Nat) : Nat := rkN (la ls p) (ha hs p)
def spIsWished (C : Addr) : Sp := fun vs H Q _ => ∃ (wi : Addr) (ns ls : List (List Nat)) (p o : Nat), vs = [.ref wi, .int p, .int o] ∧ WAt C H wi ns ls ∧ p < ls.length ∧ o < ls.length ∧ Q (.bl (decide (o ∈ la ls p))) H
theorem scIsWished : FnScope ["wishes", "person", "other"] ["wishes", "person", "other"] (defScope sIsWished) := ⟨rfl, rfl, rfl, by decide +kernel, rfl, by decide +kernel, by decide +kernel⟩
def spRankOf (C : Addr) : Sp := fun vs H Q _ => ∃ (wi : Addr) (ns ls : List (List Nat)) (p : Nat) (o : Option Nat), vs = [.ref wi, .int p, hv o] ∧ WAt C H wi ns ls ∧ p < ls.length ∧ (∀ j, o = some j → j < ls.length) ∧ Q (rkO (la ls p) o) H
theorem scRankOf : FnScope ["wishes", "person", "other"] ["wishes", "person", "other"] (defScope sRankOf) := ⟨rfl, rfl, rfl, by decide +kernel, rfl, by decide +kernel, by decide +kernel⟩
def spRanksIn (C : Addr) : Sp := fun vs H Q _ => ∃ (wi : Addr) (ns ls : List (List Nat)), vs = [.ref wi] ∧ WAt C H wi ns ls ∧ ∀ r, RT H r ls → Q (.ref r) H
theorem scRanksIn : FnScope ["wishes"] ["wishes"] (defScope sRanksIn) := ⟨rfl, rfl, rfl, by decide +kernel, rfl, by decide +kernel, by decide +kernel⟩
theorem hv_non (o : Option Nat) : decide (hv o = V.non) = o.isNone := by cases o <;> rfl
section
variable {P : Program} {w : World} {K : PySem.W.Frag} {mg : Str → Option Value} {base : Heap}
theorem ok_is_wished {f C : Addr} {fd : FuncData} {k : Nat} (F : Fun K "is_wished" "is_wished" sIsWished f fd) (T : Txt K mg C) : FnOk P w K mg base CX0 (k + 1) f fd ["wishes", "person", "other"] (spIsWished C) := by
  refine F.ok scIsWished (fun vs H Q E h => ?_) (fun cdv A outer s H vs Q E hr h => ?_)
  · obtain ⟨wi, ns, ls, p, o, rfl, _⟩ := h
    rfl
  · obtain ⟨wi, ns, ls, p, o, rfl, W, hp, ho, q⟩ := h
    refine ⟨_, pss_one (ps_ret (pe_cmpR op_notN (pe_ix ix_tup (pe_ix ix_tup (pe_fld (pv 0) rfl) (pv 1) (fun _ _ => rfl)) (pv 2) (fun _ _ => rfl)) pe_non (nomark _))), ?_⟩
    obtain ⟨dx, n, l, r, e1, e2, e3, e4⟩ := W.ex
    obtain ⟨rows, c, er, ec, ev⟩ := e4.at (la_get hp)
    refine ⟨_, rfl, wi, C, dx, _, _, rfl, e1, T.cl, T.nR, wf_ranks n l r, _, rfl, r, rows, _, _, rfl, rfl, SqT.of er, atI_nat ec, _, rfl, c, _, _, _, rfl, rfl, SqT.of ev, atI_nat (VR_get ho), rfl, ?_⟩
    have e0 : (!decide (rkV (la ls p) o = V.non)) = decide (o ∈ la ls p) := by
      unfold rkV
      split
      · rename_i h
        rw [decide_eq_true h]
        rfl
      · rename_i h
        rw [decide_eq_false h]
        rfl
    show Q (.bl (!decide (rkV (la ls p) o = V.non))) H
    rw [e0]
    exact q
theorem ok_rank_of {f C : Addr} {fd : FuncData} {k : Nat} (F : Fun K "rank_of" "rank_of" sRankOf f fd) (T : Txt K mg C) (ml : mg "len" = none) : FnOk P w K mg base CX0 (k + 1) f fd ["wishes", "person", "other"] (spRankOf C) := by
  refine F.ok scRankOf (fun vs H Q E h => ?_) (fun cdv A outer s H vs Q E hr h => ?_)
  · obtain ⟨wi, ns, ls, p, o, rfl, _⟩ := h
    rfl
  · obtain ⟨wi, ns, ls, p, o, rfl, W, hp, ho, q⟩ := h
    refine ⟨_, pss_cons (ps_if (pt_cmpR op_isN (pv 2) pe_non (nomark _)) (pss_one (ps_ret (pe_callB call_len_seq (by rfl) ml PySem.boot_len (pa_cons (pe_ix ix_tup (pe_fld (pv 0) rfl) (pv 1) (fun _ _ => rfl)) pa_nil)))) pss_nil)
      (pss_one (ps_ret (pe_ix ix_tup (pe_ix ix_tup (pe_fld (pv 0) rfl) (pv 1) (fun _ _ => rfl)) (pv 2) (fun _ _ => rfl)))), ?_⟩
    obtain ⟨dx, n, l, r, e1, e2, e3, e4⟩ := W.ex
    refine ⟨_, rfl, rfl, _, rfl, ?_⟩
    cases o with
    | none =>
      refine iteT ?_
      obtain ⟨rows, c, er, ec, ev⟩ := e3.at (la_get hp)
      refine ⟨_, rfl, wi, C, dx, _, _, rfl, e1, T.cl, T.nL, wf_lists n l r, _, rfl, l, rows, _, _, rfl, rfl, SqT.of er, atI_nat ec, c, _, rfl, .inr ev.sq, ?_⟩
      rw [VI_len]
      exact q
    | some j =>
      refine iteF ?_
      obtain ⟨rows, c, er, ec, ev⟩ := e4.at (la_get hp)
      exact ⟨_, rfl, wi, C, dx, _, _, rfl, e1, T.cl, T.nR, wf_ranks n l r, _, rfl, r, rows, _, _, rfl, rfl, SqT.of er, atI_nat ec, _, rfl, c, _, _, _, rfl, rfl, SqT.of ev, atI_nat (VR_get (ho j rfl)), q⟩
theorem ok_ranks_in {f C : Addr} {fd : FuncData} {k : Nat} (F : Fun K "ranks_in" "ranks_in" sRanksIn f fd) (T : Txt K mg C) : FnOk P w K mg base CX0 (k + 1) f fd ["wishes"] (spRanksIn C) := by
  refine F.ok scRanksIn (fun vs H Q E h => ?_) (fun cdv A outer s H vs Q E hr h => ?_)
  · obtain ⟨wi, ns, ls, rfl, _⟩ := h
    rfl
  · obtain ⟨wi, ns, ls, rfl, W, q⟩ := h
    refine ⟨_, pss_one (ps_ret (pe_fld (pv 0) rfl)), ?_⟩
    obtain ⟨dx, n, l, r, e1, e2, e3, e4⟩ := W.ex
    exact ⟨_, rfl, wi, C, dx, _, _, rfl, e1, T.cl, T.nR, wf_ranks n l r, q r e4⟩
end
end K14
namespace K14
open PySem PySem.Spec PyProof.Rows L2
def mayV (n : Nat) (s : List Nat) : V → Bool
  | .non => true
  | .int i => decide (0 ≤ i) && decide (i < n) && decide (i.toNat ∈ s)
  | _ => false
def holdsV (H : Hp) (ls : List (List Nat)) (v : V) : Bool := match tupOf H v with
  | some xs => decide (xs.length = ls.length) && (List.range xs.length).all fun i => mayV ls.length (la ls i) (xs.getD i .non)
  | none => false
def spMayHold (C : Addr) : Sp := fun vs H Q _ => ∃ (wi : Addr) (ns ls : List (List Nat)) (p : Nat) (v : V), vs = [.ref wi, .int p, v] ∧ WAt C H wi ns ls ∧ p < ls.length ∧ Pl H v ∧ Q (.bl (mayV ls.length (la ls p) v)) H
theorem scMayHold : FnScope ["wishes", "person", "held"] ["wishes", "person", "held"] (defScope sMayHold) := ⟨rfl, rfl, rfl, by decide +kernel, rfl, by decide +kernel, by decide +kernel⟩
def spAreHolds (C : Addr) : Sp := fun vs H Q _ => ∃ (wi : Addr) (ns ls : List (List Nat)) (v : V), vs = [.ref wi, v] ∧ WAt C H wi ns ls ∧ Pl H v ∧ (∀ xs, tupOf H v = some xs → xs.length ≤ 1000 ∧ ∀ x ∈ xs, Pl H x) ∧ ∀ H', Same H H' → Q (.bl (holdsV H ls v)) H'
theorem scAreHolds : FnScope ["wishes", "value", "many", "person", "held"] ["wishes", "value"] (defScope sAreHolds) := ⟨rfl, rfl, rfl, by decide +kernel, rfl, by decide +kernel, by decide +kernel⟩
theorem Pl.same {H H' : Hp} {v : V} (p : Pl H v) (s : Same H H') : Pl H' v := by
  cases p with
  | non => exact .non
  | bl b => exact .bl b
  | int i => exact .int i
  | str s => exact .str s
  | lst e => exact .lst (s _ _ e)
  | tup e => exact .tup (s _ _ e)
theorem tupOf_some {H : Hp} {v : V} {xs : List V} (e : tupOf H v = some xs) : ∃ a, v = .ref a ∧ H a = some (.tup xs) := by
  unfold tupOf at e
  split at e
  · rename_i a
    split at e
    · rename_i ys h
      cases e
      exact ⟨a, rfl, h⟩
    · cases e
  · cases e
theorem bl_map (n : Nat) (g : Nat → Bool) : ((List.range n).map fun i => V.bl (g i)) = ((List.range n).map g).map V.bl := by simp
theorem all_map_id (n : Nat) (g : Nat → Bool) : ((List.range n).map g).all id = (List.range n).all g := by
  rw [List.all_map]
  rfl
section
variable {P : Program} {w : World} {K : PySem.W.Frag} {mg : Str → Option Value} {base : Heap}
theorem ok_may_hold {f fb fw C : Addr} {fd db dw : FuncData} {k : Nat} (F : Fun K "_may_hold" "_may_hold" sMayHold f fd) (T : Txt K mg C)
    (Gb : FnOk P w K mg base CX0 k fb db ["value", "bound"] spIsBelow) (bb : Binds K db ["value", "bound"] []) (kb : PySem.W.keepIn K (.ref fb) = true) (mb : mg "is_below" = some (.ref fb))
    (Gw : FnOk P w K mg base CX0 k fw dw ["wishes", "person", "other"] (spIsWished C)) (bw : Binds K dw ["wishes", "person", "other"] []) (kw : PySem.W.keepIn K (.ref fw) = true) (mw : mg "is_wished" = some (.ref fw)) (ml : mg "len" = none) : FnOk P w K mg base CX0 (k + 1) f fd ["wishes", "person", "held"] (spMayHold C) := by
  refine F.ok scMayHold (fun vs H Q E h => ?_) (fun cdv A outer s H vs Q E hr h => ?_)
  · obtain ⟨wi, ns, ls, p, v, rfl, _⟩ := h
    rfl
  · obtain ⟨wi, ns, ls, p, v, rfl, W, hp, pl, q⟩ := h
    refine ⟨_, pss_one (ps_ret (pe_or (pe_cmpR op_isN (pv 2) pe_non (nomark _)) (pe_one (pe_and (pe_call Gb hr rfl mb kb bb .nil pass0 (pa_cons (pv 2) (pa_cons (pe_callB call_len_seq (by rfl) ml PySem.boot_len (pa_cons (pe_fld (pv 0) rfl) pa_nil)) pa_nil))) (pe_one (pe_call Gw hr rfl mw kw bw .nil pass0 (pa_cons (pv 0) (pa_cons (pv 1) (pa_cons (pv 2) pa_nil))))))))), ?_⟩
    obtain ⟨dx, n, l, r, e1, e2, e3, e4⟩ := W.ex
    have ln : (VN ns).length = ls.length := by rw [VN_len, W.nok.len]
    refine ⟨_, rfl, rfl, decide (v = .non), rfl, ?_⟩
    have go : v ≠ .non → mayV ls.length (la ls p) v = (isBel v ls.length && (match v with | .int i => decide (i.toNat ∈ la ls p) | _ => false)) := by
      intro ne
      cases v <;> first | rfl | exact absurd rfl ne
    by_cases c : v = .non
    · subst c
      exact iteT q
    · rw [decide_eq_false c]
      refine iteF ?_
      refine ⟨_, rfl, _, rfl, wi, C, dx, _, _, rfl, e1, T.cl, T.nN, wf_names n l r, n, _, rfl, .inr (SqT.of e2), v, ls.length, by rw [ln]; rfl, pl, isBel v ls.length, rfl, ?_⟩
      rw [go c] at q
      cases hb : isBel v ls.length with
      | false =>
        rw [hb] at q
        exact iteF q
      | true =>
        rw [hb] at q
        refine iteT ?_
        cases v with
        | int i =>
          have hi : 0 ≤ i ∧ i < ls.length := by simpa [isBel] using hb
          obtain ⟨j, rfl⟩ : ∃ j : Nat, i = (j : Int) := ⟨i.toNat, by omega⟩
          exact ⟨_, rfl, _, rfl, _, rfl, wi, ns, ls, p, j, rfl, W, hp, by omega, q⟩
        | non => cases hb
        | bl b => cases hb
        | str s => cases hb
        | ref a => cases hb
        | byt b => cases hb
        | flt b => cases hb
        | ty n => cases hb
theorem ok_are_holds {f ft fm C : Addr} {fd dt dm : FuncData} {k : Nat} (F : Fun K "are_holds" "are_holds" sAreHolds f fd) (T : Txt K mg C)
    (Gt : FnOk P w K mg base CX0 k ft dt ["value", "many"] spIsTupleOf) (bt : Binds K dt ["value", "many"] []) (kt : PySem.W.keepIn K (.ref ft) = true) (mt : mg "is_tuple_of" = some (.ref ft))
    (Gm : FnOk P w K mg base CX0 k fm dm ["wishes", "person", "held"] (spMayHold C)) (bm : Binds K dm ["wishes", "person", "held"] []) (km : PySem.W.keepIn K (.ref fm) = true) (mm : mg "_may_hold" = some (.ref fm)) (ml : mg "len" = none) (ma : mg "all" = none) (me : mg "enumerate" = none) : FnOk P w K mg base CX0 (k + 1) f fd ["wishes", "value"] (spAreHolds C) := by
  refine F.ok scAreHolds (fun vs H Q E h => ?_) (fun cdv A outer s H vs Q E hr h => ?_)
  · obtain ⟨wi, ns, ls, v, rfl, _⟩ := h
    rfl
  · obtain ⟨wi, ns, ls, v, rfl, W, pl, its, q⟩ := h
    refine ⟨_, pss_cons (ps_set (i := 2) scAreHolds.nd rfl (.inl rfl) (pe_callB call_len_seq (by rfl) ml PySem.boot_len (pa_cons (pe_fld (pv 0) rfl) pa_nil)))
      (pss_cons (ps_if (pt_not (pt_val (pe_call Gt hr rfl mt kt bt .nil pass0 (pa_cons (pv 1) (pa_cons (pv 2) pa_nil))))) (pss_one (ps_ret pe_bl)) pss_nil)
      (pss_one (ps_ret (pe_callB (cr_all rfl) (by rfl) ma (by decide +kernel) (pa_cons (pe_lc (own := [("person", 3), ("held", 4)]) (tt := tYes) rfl scAreHolds.nd (pi_enumT (by rfl) me (pa_cons (pv 1) pa_nil))
          (blkOk_by (own := [("person", 3), ("held", 4)]) (N := ["wishes", "value", "many", "person", "held"]) (sc := defScope sAreHolds) (by decide +kernel)) (g := gTup K 2 (gCons (gName 3) (gCons (gName 4) gNil))) (fun _ _ _ _ _ => pg_tup rfl (pgs_cons (pg_name (i := 3) scAreHolds.nd rfl (Or.inl rfl)) (pgs_cons (pg_name (i := 4) scAreHolds.nd rfl (Or.inl rfl)) pgs_nil))) (fun _ _ _ _ _ => pts_nil)
          (fun _ _ _ _ _ => pe_call Gm hr rfl mm km bm .nil pass0 (pa_cons (pv 0) (pa_cons (pv 3) (pa_cons (pv 4) pa_nil))))) pa_nil))))), ?_⟩
    obtain ⟨dx, n, l, r, e1, e2, e3, e4⟩ := W.ex
    have ln : (VN ns).length = ls.length := by rw [VN_len, W.nok.len]
    refine ⟨_, rfl, wi, C, dx, _, _, rfl, e1, T.cl, T.nN, wf_names n l r, n, _, rfl, .inr (SqT.of e2), ?_⟩
    rw [ln]
    have bnd : ∀ xs, tupOf H v = some xs → xs.length ≤ 100000 := fun xs e => by
      have := (its xs e).1
      omega
    unfold holdsV at q
    cases tv : tupOf H v with
    | none =>
      rw [tv] at q
      refine ⟨_, rfl, _, rfl, v, ls.length, rfl, pl, bnd, false, congrArg V.bl (by rw [tv]), ?_⟩
      exact iteT (q H same_rfl)
    | some xs =>
      rw [tv] at q
      dsimp only at q ⊢
      by_cases c : xs.length = ls.length
      · rw [decide_eq_true c] at q
        refine ⟨_, rfl, _, rfl, v, ls.length, rfl, pl, bnd, true, congrArg V.bl (by rw [tv]; exact decide_eq_true c), iteF ?_⟩
        obtain ⟨a, rfl, ea⟩ := tupOf_some tv
        refine ⟨_, rfl, a, xs, rfl, SqT.of ea, fun D nD => ?_⟩
        refine lc_same (walk_enumT (K := K) (a := a) (xs := xs)) (bnd xs tv) (fun i => .bl (mayV ls.length (la ls i) (xs.getD i .non))) nD (fun _ sm => SqT.of (sm _ _ ea)) ?_ ?_
        · rintro i x H1 H2 Z out hi sm ⟨U, x0, x1, rfl, nU, rfl, y1, y2⟩
          cases y1
          have s2 : Same H1 (upd H1 U (.tup [.int (i : Nat), x1])) := same_upd nU
          have hx : xs.getD i .non = x1 := by rw [List.getD_eq_getElem?_getD, show xs[i]? = some x1 from y2]; rfl
          refine ⟨U, _, rfl, SqT.of upd_same, rfl, _, _, rfl, gn ⟨_, _, rfl, gn ⟨rfl, rfl, ?_⟩⟩⟩
          refine ⟨_, rfl, _, rfl, _, rfl, wi, ns, ls, i, x1, rfl, (W.same sm).same s2, by omega, (((its xs tv).2 x1 (List.mem_of_getElem? y2)).same sm).same s2, ?_⟩
          have o2 : Z (.bl (mayV ls.length (la ls i) (xs.getD i .non))) _ := out _ s2
          rw [hx] at o2
          exact o2
        · intro H1 sm e5
          refine ⟨D, _, rfl, SqL.of (by rw [e5, bl_map]), ?_⟩
          rw [all_map_id]
          exact q _ sm
      · rw [decide_eq_false c] at q
        refine ⟨_, rfl, _, rfl, v, ls.length, rfl, pl, bnd, false, congrArg V.bl (by rw [tv]; exact decide_eq_false c), ?_⟩
        exact iteT (q H same_rfl)
end
end K14
namespace K14
open PySem PySem.Spec PyProof.Rows L2
section
variable {J : It} {n : Nat} {G : Hp → Prop} {Y : Nat → Hp → V → Hp → Prop}
/-- a comprehension of new tuples, that leaves all else as it stood -/
theorem lc_rows (w : Walk J n G Y) {g : TG} {te : TE} {vs : List Nat} {σ : L2.St} {H0 : Hp} {D : Addr} {Qd : Hp → Prop} (hn : n ≤ 100000) (X : Nat → List V) (nD : H0 D = none) (hG : ∀ H, Same H0 H → G H)
    (hs : ∀ (i : Nat) (x : V) (H H' : Hp) (Z : V → Hp → Prop), (∀ r H3, Same H H3 → H3 r = some (.tup (X i)) → Z (.ref r) H3) → i < n → Same H0 H → Y i H x H' → g x (wipe σ vs) H' fun σ2 H2 => wipe σ2 vs = wipe σ vs ∧ te σ2 H2 Z)
    (hd : ∀ (rs : List Addr) H, Same H0 H → H D = some (.lst (rs.map V.ref)) → rs.length = n → (∀ (j : Nat) (r : Addr), rs[j]? = some r → H r = some (.tup (X j))) → Qd H) :
    ∃ W : Nat → Nat → Hp → Prop, (∃ m, W 0 m (upd H0 D (.lst []))) ∧ ∀ i m H, W i m H →
      (J.stop i H ∧ Qd H) ∨ (J.go i H ∧ ∃ Nx : Hp → Prop, (∀ H', Nx H' → ∃ m', m' < m ∧ W (i + 1) m' H') ∧ ∀ x H', J.yld i H x H' → g x (wipe σ vs) H' fun σ2 H2 => wipe σ2 vs = wipe σ vs ∧ tYes σ2 H2 fun b H3 =>
        if b = true then te σ2 H3 fun y H4 => ∃ acc, H4 D = some (.lst acc) ∧ acc.length < sizeLine ∧ Nx (upd H4 D (.lst (acc ++ [y]))) else Nx H3) := by
  refine lc_it w (fun i H => ∃ rs : List Addr, Same H0 H ∧ H D = some (.lst (rs.map V.ref)) ∧ rs.length = i ∧ ∀ (j : Nat) (r : Addr), rs[j]? = some r → H r = some (.tup (X j))) ⟨[], same_upd nD, upd_same, rfl, fun _ _ e => by simp at e⟩ (fun i H _ ⟨_, h, _⟩ => hG H h) (fun i x H H' hi ⟨rs, sm, eD, rl, old⟩ y => ?_) (fun H ⟨rs, sm, eD, rl, old⟩ => hd rs H sm eD rl old)
  refine hs i x H H' (fun v H3 => ∃ acc, H3 D = some (.lst acc) ∧ acc.length < sizeLine ∧ (fun H => ∃ rs : List Addr, Same H0 H ∧ H D = some (.lst (rs.map V.ref)) ∧ rs.length = i + 1 ∧ ∀ (j : Nat) (r : Addr), rs[j]? = some r → H r = some (.tup (X j))) (upd H3 D (.lst (acc ++ [v])))) (fun r H3 s3 er => ?_) hi sm y
  have eD3 := s3 _ _ eD
  refine ⟨_, eD3, ?_, rs ++ [r], (sm.trans s3).fresh nD, by rw [upd_same]; simp, by simp [rl], ?_⟩
  · rw [List.length_map, rl]
    exact sz6' (by omega)
  · intro j q e
    have ne : ∀ q xs, H3 q = some (.tup xs) → q ≠ D := fun q xs e z => by
      rw [z, eD3] at e
      cases e
    by_cases c : j < rs.length
    · rw [List.getElem?_append_left c] at e
      have e7 := s3 _ _ (old j q e)
      rw [upd_ne (ne _ _ e7)]
      exact e7
    · rw [List.getElem?_append_right (by omega), List.getElem?_singleton] at e
      split at e
      · cases e
        have : j = i := by omega
        subst this
        rw [upd_ne (ne _ _ er)]
        exact er
      · cases e
end
def VM (ls : List (List Nat)) (hs : List (Option Nat)) : List V := (List.range ls.length).map fun p => V.int (most ls hs p : Nat)
theorem VM_get {ls : List (List Nat)} {hs : List (Option Nat)} {p : Nat} (h : p < ls.length) : (VM ls hs)[p]? = some (.int (most ls hs p : Nat)) := by simp [VM, h]
/-- the ranks of those held, in a tuple or in a list -/
def VMat (H : Hp) (m : Addr) (ls : List (List Nat)) (hs : List (Option Nat)) : Prop := H m = some (.tup (VM ls hs)) ∨ H m = some (.lst (VM ls hs))
theorem VMat.same {H H' : Hp} {m : Addr} {ls : List (List Nat)} {hs : List (Option Nat)} (v : VMat H m ls hs) (s : Same H H') : VMat H' m ls hs := v.imp (s _ _) (s _ _)
theorem rIx_vm {K : PySem.W.Frag} {H : Hp} {m : Addr} {ls : List (List Nat)} {hs : List (Option Nat)} {p : Nat} {Q : VK} (v : VMat H m ls hs) (hp : p < ls.length) (q : Q (.int (most ls hs p : Nat)) H) : rIx K (.ref m) (.int (p : Nat)) H Q := by
  rcases v with e | e
  · exact .inr (.inl ⟨m, _, _, _, rfl, rfl, SqT.of e, atI_nat (VM_get hp), q⟩)
  · exact .inl ⟨m, _, _, _, rfl, rfl, SqL.of e, atI_nat (VM_get hp), q⟩
def keepF (ls : List (List Nat)) (hs : List (Option Nat)) (p o : Nat) : Bool := decide ((la ls o).idxOf p ≤ most ls hs o)
def leftL (ls : List (List Nat)) (hs : List (Option Nat)) (p : Nat) : List Nat := ((la ls p).take (most ls hs p + 1)).filter (keepF ls hs p)
def leftA (ls : List (List Nat)) (hs : List (Option Nat)) : List (List Nat) := (List.range ls.length).map (leftL ls hs)
theorem slA {K : PySem.W.Frag} {H : Hp} {a : Addr} {s : List Nat} {m : Nat} {Q : VK} (e : Tp H a (VI s)) (q : ∀ b H', Same H H' → Tp H' b (VI (s.take (m + 1))) → Q (.ref b) H') : rSlA K (.ref a) none (some ((m : Nat) + 1 : Int)) H Q := by
  have ek : HT.sIx (VI s).length (VI s).length (some ((m : Nat) + 1 : Int)) = min (m + 1) (VI s).length := HT.sIx_nat _ _ (m + 1)
  have e0 : HT.sIx (VI s).length 0 none = 0 := HT.sIx_none _ _
  refine ⟨a, VI s, rfl, e.sq, fun h => ?_, fun h p np => ?_⟩
  · have hm : (VI s).length ≤ m + 1 := by
      have := h.2
      rw [ek] at this
      omega
    rw [VI_len] at hm
    refine q a H same_rfl ?_
    rw [List.take_of_length_le hm]
    exact e
  · refine q p _ (same_upd np) (.inl ?_)
    rw [upd_same]
    unfold cutV
    rw [e0, ek, List.drop_zero, Nat.sub_zero]
    congr 2
    unfold VI
    rw [List.length_map, List.map_take]
    by_cases c : m + 1 ≤ s.length
    · rw [Nat.min_eq_left c]
    · rw [Nat.min_eq_right (by omega), List.take_of_length_le (by simp), List.take_of_length_le (by simp; omega)]
def spHeldRanks (C : Addr) : Sp := fun vs H Q _ => ∃ (wi b : Addr) (ns ls : List (List Nat)) (hs : List (Option Nat)), vs = [.ref wi, .ref b] ∧ WAt C H wi ns ls ∧ H b = some (.tup (VH hs)) ∧ HoldsOk ls hs ∧ ∀ r H', Same H H' → H' r = some (.tup (VM ls hs)) → Q (.ref r) H'
theorem scHeldRanks : FnScope ["wishes", "holds", "person", "held"] ["wishes", "holds"] (defScope sHeldRanks) := ⟨rfl, rfl, rfl, by decide +kernel, rfl, by decide +kernel, by decide +kernel⟩
def spLeftList (C : Addr) : Sp := fun vs H Q _ => ∃ (wi m : Addr) (ns ls : List (List Nat)) (hs : List (Option Nat)) (p : Nat), vs = [.ref wi, .ref m, .int p] ∧ WAt C H wi ns ls ∧ H m = some (.tup (VM ls hs)) ∧ p < ls.length ∧ ∀ r H', Same H H' → H' r = some (.tup (VI (leftL ls hs p))) → Q (.ref r) H'
theorem scLeftList : FnScope ["wishes", "most", "person", "ranks", "kept", "other"] ["wishes", "most", "person"] (defScope sLeftList) := ⟨rfl, rfl, rfl, by decide +kernel, rfl, by decide +kernel, by decide +kernel⟩
def spLeftLists (C : Addr) : Sp := fun vs H Q _ => ∃ (wi b : Addr) (ns ls : List (List Nat)) (hs : List (Option Nat)), vs = [.ref wi, .ref b] ∧ WAt C H wi ns ls ∧ H b = some (.tup (VH hs)) ∧ HoldsOk ls hs ∧ ∀ r H', Same H H' → LT H' r (leftA ls hs) → Q (.ref r) H'
theorem scLeftLists : FnScope ["wishes", "holds", "most", "person"] ["wishes", "holds"] (defScope sLeftLists) := ⟨rfl, rfl, rfl, by decide +kernel, rfl, by decide +kernel, by decide +kernel⟩
def spFirstLeft (C : Addr) : Sp := fun vs H Q _ => ∃ (wi m : Addr) (ns ls : List (List Nat)) (hs : List (Option Nat)) (p : Nat), vs = [.ref wi, .ref m, .int p] ∧ WAt C H wi ns ls ∧ VMat H m ls hs ∧ p < ls.length ∧ ∀ H', Same H H' → Q (hv (leftL ls hs p).head?) H'
theorem scFirstLeft : FnScope ["wishes", "most", "person", "ranks", "other"] ["wishes", "most", "person"] (defScope sFirstLeft) := ⟨rfl, rfl, rfl, by decide +kernel, rfl, by decide +kernel, by decide +kernel⟩
def firsts (ls : List (List Nat)) (hs : List (Option Nat)) : List (Option Nat) := (List.range ls.length).map fun p => (leftL ls hs p).head?
def spFirstsLeft (C : Addr) : Sp := fun vs H Q _ => ∃ (wi b : Addr) (ns ls : List (List Nat)) (hs : List (Option Nat)), vs = [.ref wi, .ref b] ∧ WAt C H wi ns ls ∧ H b = some (.tup (VH hs)) ∧ HoldsOk ls hs ∧ ∀ r H', Same H H' → H' r = some (.tup (VH (firsts ls hs))) → Q (.ref r) H'
theorem scFirstsLeft : FnScope ["wishes", "holds", "most", "person"] ["wishes", "holds"] (defScope sFirstsLeft) := ⟨rfl, rfl, rfl, by decide +kernel, rfl, by decide +kernel, by decide +kernel⟩
section
variable {P : Program} {w : World} {K : PySem.W.Frag} {mg : Str → Option Value} {base : Heap}
theorem ok_held_ranks {f fr C : Addr} {fd dr : FuncData} {k : Nat} (F : Fun K "held_ranks" "held_ranks" sHeldRanks f fd)
    (Gr : FnOk P w K mg base CX0 k fr dr ["wishes", "person", "other"] (spRankOf C)) (br : Binds K dr ["wishes", "person", "other"] []) (kr : PySem.W.keepIn K (.ref fr) = true) (mr : mg "rank_of" = some (.ref fr)) (mt : mg "tuple" = none) (me : mg "enumerate" = none) : FnOk P w K mg base CX0 (k + 1) f fd ["wishes", "holds"] (spHeldRanks C) := by
  refine F.ok scHeldRanks (fun vs H Q E h => ?_) (fun cdv A outer s H vs Q E hr h => ?_)
  · obtain ⟨wi, b, ns, ls, hs, rfl, _⟩ := h
    rfl
  · obtain ⟨wi, b, ns, ls, hs, rfl, W, eb, ho, q⟩ := h
    refine ⟨_, pss_one (ps_ret (pe_callTy call_tuple_of (by rfl) mt (by decide +kernel) (pa_cons (pe_lc (own := [("person", 2), ("held", 3)]) (tt := tYes) rfl scHeldRanks.nd (pi_enumT (by rfl) me (pa_cons (pv 1) pa_nil))
          (blkOk_by (own := [("person", 2), ("held", 3)]) (N := ["wishes", "holds", "person", "held"]) (sc := defScope sHeldRanks) (by decide +kernel)) (g := gTup K 2 (gCons (gName 2) (gCons (gName 3) gNil))) (fun _ _ _ _ _ => pg_tup rfl (pgs_cons (pg_name (i := 2) scHeldRanks.nd rfl (Or.inl rfl)) (pgs_cons (pg_name (i := 3) scHeldRanks.nd rfl (Or.inl rfl)) pgs_nil))) (fun _ _ _ _ _ => pts_nil)
          (fun _ _ _ _ _ => pe_call Gr hr rfl mr kr br .nil pass0 (pa_cons (pv 0) (pa_cons (pv 2) (pa_cons (pv 3) pa_nil))))) pa_nil))), ?_⟩
    refine ⟨_, rfl, b, _, rfl, SqT.of eb, fun D nD => ?_⟩
    have n60 := W.n60.2
    refine lc_same (walk_enumT (K := K) (a := b) (xs := VH hs)) (by rw [VH_len, ho.len]; omega) (fun i => .int (most ls hs i : Nat)) nD (fun _ sm => SqT.of (sm _ _ eb)) ?_ ?_
    · rintro i x H1 H2 Z out hi sm ⟨U, x0, x1, rfl, nU, rfl, y1, y2⟩
      cases y1
      have s2 : Same H1 (upd H1 U (.tup [.int (i : Nat), x1])) := same_upd nU
      rw [VH_len] at hi
      have il : i < ls.length := by rw [← ho.len]; exact hi
      have y3 : (VH hs)[i]? = some x1 := y2
      rw [VH_get (ha_get hi)] at y3
      cases y3
      refine ⟨U, _, rfl, SqT.of upd_same, rfl, _, _, rfl, gn ⟨_, _, rfl, gn ⟨rfl, rfl, ?_⟩⟩⟩
      refine ⟨_, rfl, _, rfl, _, rfl, wi, ns, ls, i, ha hs i, rfl, (W.same sm).same s2, il, fun j ej => ?_, ?_⟩
      · exact (W.ok.both i _ j (la_get il) (ho.on i j ej).2).1
      · rw [rkO_N fun j ej => (ho.on i j ej).2]
        exact out _ s2
    · intro H1 sm e5
      refine ⟨D, _, rfl, .inl ⟨SqL.of e5, fun r nr => q r _ (sm.fresh (sm.free nr)) ?_⟩⟩
      rw [upd_same, VH_len, ho.len]
      rfl
theorem ok_left_list {f fr C : Addr} {fd dr : FuncData} {k : Nat} (F : Fun K "_left_list" "_left_list" sLeftList f fd) (T : Txt K mg C)
    (Gr : FnOk P w K mg base CX0 k fr dr ["wishes"] (spRanksIn C)) (br : Binds K dr ["wishes"] []) (kr : PySem.W.keepIn K (.ref fr) = true) (mr : mg "ranks_in" = some (.ref fr)) (mt : mg "tuple" = none) : FnOk P w K mg base CX0 (k + 1) f fd ["wishes", "most", "person"] (spLeftList C) := by
  refine F.ok scLeftList (fun vs H Q E h => ?_) (fun cdv A outer s H vs Q E hr h => ?_)
  · obtain ⟨wi, m, ns, ls, hs, p, rfl, _⟩ := h
    rfl
  · obtain ⟨wi, m, ns, ls, hs, p, rfl, W, em, hp, q⟩ := h
    refine ⟨_, pss_cons (ps_set (i := 3) scLeftList.nd rfl (.inr rfl) (pe_call Gr hr rfl mr kr br .nil pass0 (pa_cons (pv 0) pa_nil)))
      (pss_cons (ps_set (i := 4) scLeftList.nd rfl (.inl rfl) (pe_slice sl_tupA (pe_ix ix_tup (pe_fld (pv 0) rfl) (pv 2) (fun _ _ => rfl)) po_none (po_some (pe_op op_add (pe_ix ix_tup (pv 1) (pv 2) (fun _ _ => rfl)) pe_int))))
      (pss_one (ps_ret (pe_callTy call_tuple_of (by rfl) mt (by decide +kernel) (pa_cons (pe_lc (own := [("other", 5)]) (g := gName 5) (tt := tTest (tOp (rI0 fun i j => V.bl (decide (i ≤ j))) (tOp (rIxT K) (tOp (rIxT K) (tVar 3) (tVar 5)) (tVar 2)) (tOp (rIxT K) (tVar 1) (tVar 5)))) rfl scLeftList.nd (pi_tup (pv 4))
          (blkOk_by (own := [("other", 5)]) (N := ["wishes", "most", "person", "ranks", "kept", "other"]) (sc := defScope sLeftList) (by decide +kernel)) (fun _ _ _ _ _ => pg_name (i := 5) scLeftList.nd rfl (Or.inl rfl)) (fun _ _ _ _ _ => pts_one (pt_cmpR op_le (pe_ix ix_tup (pe_ix ix_tup (pv 3) (pv 5) (fun _ _ => rfl)) (pv 2) (fun _ _ => rfl)) (pe_ix ix_tup (pv 1) (pv 5) (fun _ _ => rfl)) (nomark _)))
          (fun _ _ _ _ _ => pv 5)) pa_nil))))), ?_⟩
    obtain ⟨dx, n, l, r0, e1, e2, e3, e4⟩ := W.ex
    obtain ⟨rows, c, er, ec, ev⟩ := e3.at (la_get hp)
    refine ⟨_, rfl, wi, ns, ls, rfl, W, fun r rt => ?_⟩
    refine ⟨_, rfl, wi, C, dx, _, _, rfl, e1, T.cl, T.nL, wf_lists n l r0, _, rfl, l, rows, _, _, rfl, rfl, SqT.of er, atI_nat ec, _, rfl, _, rfl, m, _, _, _, rfl, rfl, SqT.of em, atI_nat (VM_get hp), _, _, rfl, rfl, _, rfl, slA ev fun b H1 s1 eb => ?_⟩
    refine ⟨_, rfl, b, rfl, ⟨_, eb.sq⟩, fun D nD => ?_⟩
    have sub : ∀ o ∈ (la ls p).take (most ls hs p + 1), o < ls.length ∧ p ∈ la ls o := fun o ho => by
      obtain ⟨h1, h2, t, et, hm⟩ := W.ok.both p _ o (la_get hp) (List.mem_of_mem_take ho)
      rw [la_get h1] at et
      cases et
      exact ⟨h1, hm⟩
    have lk : ((la ls p).take (most ls hs p + 1)).length ≤ 60 := by
      have h1 := W.ok.each (la_get hp)
      have h2 := W.n60.2
      rw [List.length_take]
      omega
    refine lc_it (walk_tup (K := K) (a := b) (xs := VI ((la ls p).take (most ls hs p + 1)))) (fun i H' => Same H1 H' ∧ H' D = some (.lst (VI ((((la ls p).take (most ls hs p + 1)).take i).filter (keepF ls hs p)))))
      ⟨same_upd nD, by rw [upd_same, List.take_zero]; rfl⟩ (fun i H' _ h => (eb.same h.1).sq) ?_ ?_
    · rintro i x H2 H3 hi ⟨s2, eD⟩ ⟨rfl, ex⟩
      obtain ⟨o, eo, rfl⟩ := VI_at ex
      obtain ⟨h1, h2⟩ := sub o (List.mem_of_getElem? eo)
      obtain ⟨rows2, c2, er2, ec2, ev2⟩ := rt.at (la_get h1)
      have s02 := s1.trans s2
      have e6 : rkV (la ls o) p = .int ((la ls o).idxOf p : Nat) := by
        unfold rkV
        rw [if_pos h2]
      have e7 := VR_get (s := la ls o) hp
      rw [e6] at e7
      refine gn ⟨rfl, _, rfl, _, rfl, r, rows2, _, _, rfl, rfl, SqT.of (s02 _ _ er2), atI_nat ec2, _, rfl, c2, _, _, _, rfl, rfl, SqT.of (s02 _ _ ev2), atI_nat e7, _, rfl, _, rfl, m, _, _, _, rfl, rfl, SqT.of (s02 _ _ em), atI_nat (VM_get h1), _, _, rfl, rfl, keepF ls hs p o, ?_, ?_⟩
      · refine congrArg V.bl ?_
        unfold keepF
        rw [decide_eq_decide]
        omega
      · have tk : ((la ls p).take (most ls hs p + 1)).take (i + 1) = ((la ls p).take (most ls hs p + 1)).take i ++ [o] := by
          rw [List.take_succ, eo]
          rfl
        refine ite2 (fun c => ?_) (fun c => ?_)
        · refine ⟨_, rfl, _, eD, ?_, s2.fresh nD, ?_⟩
          · rw [VI_len]
            refine sz6' (Nat.le_trans (List.length_filter_le _ _) ?_)
            rw [List.length_take]
            omega
          · rw [upd_same, tk, List.filter_append, VI_app]
            have : [o].filter (keepF ls hs p) = [o] := by rw [List.filter_cons, if_pos c, List.filter_nil]
            rw [this]
            rfl
        · refine ⟨s2, ?_⟩
          rw [eD, tk, List.filter_append]
          have : [o].filter (keepF ls hs p) = [] := by rw [List.filter_cons, if_neg c, List.filter_nil]
          rw [this, List.append_nil]
    · rintro H2 ⟨s2, eD⟩
      rw [VI_len, List.take_length] at eD
      refine ⟨D, _, rfl, .inl ⟨SqL.of eD, fun r' nr => q r' _ ((s1.trans s2).fresh ((s1.trans s2).free nr)) upd_same⟩⟩
theorem ok_left_lists {f fr fl C : Addr} {fd dr dl : FuncData} {k : Nat} (F : Fun K "left_lists" "left_lists" sLeftLists f fd)
    (Gr : FnOk P w K mg base CX0 k fr dr ["wishes", "holds"] (spHeldRanks C)) (br : Binds K dr ["wishes", "holds"] []) (kr : PySem.W.keepIn K (.ref fr) = true) (mr : mg "held_ranks" = some (.ref fr))
    (Gl : FnOk P w K mg base CX0 k fl dl ["wishes", "most", "person"] (spLeftList C)) (bl : Binds K dl ["wishes", "most", "person"] []) (kl : PySem.W.keepIn K (.ref fl) = true) (mll : mg "_left_list" = some (.ref fl))
    (mt : mg "tuple" = none) (ml : mg "len" = none) (mrg : mg "range" = none) : FnOk P w K mg base CX0 (k + 1) f fd ["wishes", "holds"] (spLeftLists C) := by
  refine F.ok scLeftLists (fun vs H Q E h => ?_) (fun cdv A outer s H vs Q E hr h => ?_)
  · obtain ⟨wi, b, ns, ls, hs, rfl, _⟩ := h
    rfl
  · obtain ⟨wi, b, ns, ls, hs, rfl, W, eb, ho, q⟩ := h
    refine ⟨_, pss_cons (ps_set (i := 2) scLeftLists.nd rfl (.inr rfl) (pe_call Gr hr rfl mr kr br .nil pass0 (pa_cons (pv 0) (pa_cons (pv 1) pa_nil))))
      (pss_one (ps_ret (pe_callTy call_tuple_of (by rfl) mt (by decide +kernel) (pa_cons (pe_lc (own := [("person", 3)]) (g := gName 3) (tt := tYes) rfl scLeftLists.nd (pi_range1 rfl mrg (pa_cons (pe_callB call_len_seq (by rfl) ml PySem.boot_len (pa_cons (pv 1) pa_nil)) pa_nil))
          (blkOk_by (own := [("person", 3)]) (N := ["wishes", "holds", "most", "person"]) (sc := defScope sLeftLists) (by decide +kernel)) (fun _ _ _ _ _ => pg_name (i := 3) scLeftLists.nd rfl (Or.inl rfl)) (fun _ _ _ _ _ => pts_nil)
          (fun _ _ _ _ _ => pe_call Gl hr rfl mll kl bl .nil pass0 (pa_cons (pv 0) (pa_cons (pv 2) (pa_cons (pv 3) pa_nil))))) pa_nil)))), ?_⟩
    have n60 := W.n60.2
    refine ⟨_, rfl, _, rfl, wi, b, ns, ls, hs, rfl, W, eb, ho, fun m H1 s1 em => ?_⟩
    refine ⟨_, rfl, b, VH hs, rfl, .inr (SqT.of (s1 _ _ eb)), ?_⟩
    have lh : (VH hs).length = ls.length := by rw [VH_len, ho.len]
    rw [lh]
    refine ⟨_, rfl, by omega, by omega, fun D nD => ?_⟩
    refine lc_rows (J := Itr 0 ls.length) (n := ls.length) walk_range0 (by omega) (fun i => VI (leftL ls hs i)) nD (fun _ _ => trivial) ?_ ?_
    · rintro i x H2 H3 Z out hi sm ⟨rfl, rfl⟩
      exact gn ⟨rfl, _, rfl, _, rfl, _, rfl, wi, m, ns, ls, hs, i, rfl, (W.same s1).same sm, sm _ _ em, hi, fun r H4 s4 er => out r H4 s4 er⟩
    · intro rs H2 sm eD rl rows
      refine ⟨D, _, rfl, .inl ⟨SqL.of eD, fun r nr => q r _ ((s1.trans sm).fresh ((s1.trans sm).free nr)) ⟨rs, upd_same, ?_, ?_⟩⟩⟩
      · rw [rl]
        simp [leftA]
      · intro i a x e1 e2
        have : x = leftL ls hs i := by
          unfold leftA at e2
          rw [List.getElem?_map] at e2
          have hi := (List.getElem?_eq_some_iff.mp e1).1
          rw [List.getElem?_range (by omega)] at e2
          exact (Option.some.inj e2).symm
        rw [this]
        exact .inl (ofN nr (rows i a e1))
end
end K14
namespace K14
open PySem PySem.Spec PyProof.Rows L2
theorem head_at {f : Nat → Bool} {xs : List Nat} {i o : Nat} (e : xs[i]? = some o) (no : (xs.take i).filter f = []) (c : f o = true) : (xs.filter f).head? = some o := by
  have h : xs = xs.take i ++ (o :: xs.drop (i + 1)) := by
    have hi := (List.getElem?_eq_some_iff.mp e)
    obtain ⟨hl, rfl⟩ := hi
    rw [List.getElem_cons_drop, List.take_append_drop]
  rw [h, List.filter_append, no, List.nil_append, List.filter_cons, if_pos c]
  rfl
def hitB (xs : List (Option Nat)) (o : Option Nat) (p : Nat) : Bool := match o with
  | none => true
  | some j => decide (ha xs j = some p)
def steadyB (ls : List (List Nat)) (hs : List (Option Nat)) : Bool :=
  ((List.range ls.length).all fun p => hitB (firsts ls hs) (ha hs p) p) && ((List.range ls.length).all fun p => hitB hs (ha (firsts ls hs) p) p)
def spIsSteady (C : Addr) : Sp := fun vs H Q _ => ∃ (wi : Addr) (ns ls : List (List Nat)) (v : V), vs = [.ref wi, v] ∧ WAt C H wi ns ls ∧ Pl H v ∧ (∀ xs, tupOf H v = some xs → xs.length ≤ 1000 ∧ ∀ x ∈ xs, Pl H x) ∧
  (holdsV H ls v = false → ∀ H', Same H H' → Q (.bl false) H') ∧ (∀ hs, tupOf H v = some (VH hs) → HoldsOk ls hs → ∀ H', Same H H' → Q (.bl (steadyB ls hs)) H')
theorem scIsSteady : FnScope ["wishes", "value", "firsts", "kept", "person", "held", "first"] ["wishes", "value"] (defScope sIsSteady) := ⟨rfl, rfl, rfl, by decide +kernel, rfl, by decide +kernel, by decide +kernel⟩
def withinB (ls : List (List Nat)) (h1 h2 : List (Option Nat)) : Bool := (List.range ls.length).all fun p => decide (most ls h1 p ≤ most ls h2 p)
def spAreWithin (C : Addr) : Sp := fun vs H Q _ => ∃ (wi a b : Addr) (ns ls : List (List Nat)) (h1 h2 : List (Option Nat)), vs = [.ref wi, .ref a, .ref b] ∧ WAt C H wi ns ls ∧ H a = some (.tup (VH h1)) ∧ H b = some (.tup (VH h2)) ∧ HoldsOk ls h1 ∧ HoldsOk ls h2 ∧ ∀ H', Same H H' → Q (.bl (withinB ls h1 h2)) H'
theorem scAreWithin : FnScope ["wishes", "one", "other", "rank", "bound"] ["wishes", "one", "other"] (defScope sAreWithin) := ⟨rfl, rfl, rfl, by decide +kernel, rfl, by decide +kernel, by decide +kernel⟩
def spLeftWishes (C : Addr) : Sp := fun vs H Q _ => ∃ (wi b : Addr) (ns ls : List (List Nat)) (hs : List (Option Nat)), vs = [.ref wi, .ref b] ∧ WAt C H wi ns ls ∧ H b = some (.tup (VH hs)) ∧ HoldsOk ls hs ∧ ∀ r H', Same H H' → WAt C H' r ns (leftA ls hs) → Q (.ref r) H'
theorem firsts_len (ls : List (List Nat)) (hs : List (Option Nat)) : (firsts ls hs).length = ls.length := by simp [firsts]
theorem leftA_len (ls : List (List Nat)) (hs : List (Option Nat)) : (leftA ls hs).length = ls.length := by simp [leftA]
/-- the lists left are lists both ways -/
theorem la_of {ls : List (List Nat)} {p : Nat} {t : List Nat} (e : ls[p]? = some t) : la ls p = t := by
  unfold la
  rw [List.getD_eq_getElem?_getD, e]
  rfl
theorem ListsOk.mate {n : Nat} {ls : List (List Nat)} (ok : ListsOk n ls) {p o : Nat} (hp : p < n) (h : o ∈ la ls p) : o < n ∧ o ≠ p ∧ p ∈ K14.la ls o := by
  obtain ⟨h1, h2, t, et, hm⟩ := ok.both p _ o (la_get (by rw [ok.len]; exact hp)) h
  exact ⟨h1, h2, by rw [la_of et]; exact hm⟩
theorem ListsOk.nda {n : Nat} {ls : List (List Nat)} (ok : ListsOk n ls) {p : Nat} (hp : p < n) : (la ls p).Nodup := ok.nd p _ (la_get (by rw [ok.len]; exact hp))
theorem mem_take_idx {s : List Nat} (nd : s.Nodup) {m o : Nat} : o ∈ s.take (m + 1) ↔ o ∈ s ∧ s.idxOf o ≤ m := by
  constructor
  · intro h
    have hs := List.mem_of_mem_take h
    refine ⟨hs, ?_⟩
    obtain ⟨k, hk, ek⟩ := List.mem_iff_getElem.mp h
    rw [List.getElem_take] at ek
    rw [List.length_take] at hk
    have hl := List.idxOf_lt_length_of_mem hs
    have e1 : s[s.idxOf o]? = some o := by rw [List.getElem?_eq_getElem hl, List.getElem_idxOf]
    have e2 : s[k]? = some o := by rw [List.getElem?_eq_getElem (by omega), ek]
    have := nodup_ix nd e1 e2
    omega
  · rintro ⟨h, hm⟩
    have hl := List.idxOf_lt_length_of_mem h
    rw [List.mem_iff_getElem]
    refine ⟨s.idxOf o, by rw [List.length_take]; omega, ?_⟩
    rw [List.getElem_take, List.getElem_idxOf]
theorem mem_left {n : Nat} {ls : List (List Nat)} (ok : ListsOk n ls) {hs : List (Option Nat)} {p : Nat} (hp : p < n) {o : Nat} : o ∈ leftL ls hs p ↔ o ∈ la ls p ∧ (la ls p).idxOf o ≤ most ls hs p ∧ (la ls o).idxOf p ≤ most ls hs o := by
  unfold leftL keepF
  rw [List.mem_filter, mem_take_idx (ok.nda hp), decide_eq_true_eq, and_assoc]
theorem leftA_at {ls : List (List Nat)} {hs : List (Option Nat)} {p : Nat} {t : List Nat} (e : (leftA ls hs)[p]? = some t) : p < ls.length ∧ t = leftL ls hs p := by
  unfold leftA at e
  rw [List.getElem?_map] at e
  by_cases c : p < ls.length
  · rw [List.getElem?_range c] at e
    exact ⟨c, (Option.some.inj e).symm⟩
  · rw [List.getElem?_eq_none (by simpa using c)] at e
    cases e
theorem leftA_ok {n : Nat} {ls : List (List Nat)} (ok : ListsOk n ls) (hs : List (Option Nat)) : ListsOk n (leftA ls hs) := by
  refine ⟨by rw [leftA_len, ok.len], fun i s e => ?_, fun i s j e hj => ?_⟩
  · obtain ⟨h1, rfl⟩ := leftA_at e
    rw [ok.len] at h1
    unfold leftL
    exact List.Pairwise.filter _ ((List.take_sublist _ _).nodup (ok.nda h1))
  · obtain ⟨h1, rfl⟩ := leftA_at e
    rw [ok.len] at h1
    obtain ⟨a1, a2, a3⟩ := (mem_left ok h1).mp hj
    obtain ⟨b1, b2, b3⟩ := ok.mate h1 a1
    refine ⟨b1, b2, leftL ls hs j, ?_, (mem_left ok b1).mpr ⟨b3, a3, a2⟩⟩
    unfold leftA
    rw [List.getElem?_map, List.getElem?_range (by rw [ok.len]; exact b1)]
    rfl
section
variable {P : Program} {w : World} {K : PySem.W.Frag} {mg : Str → Option Value} {base : Heap}
theorem ok_first_left {f fr C : Addr} {fd dr : FuncData} {k : Nat} (F : Fun K "first_left" "first_left" sFirstLeft f fd) (T : Txt K mg C)
    (Gr : FnOk P w K mg base CX0 k fr dr ["wishes"] (spRanksIn C)) (br : Binds K dr ["wishes"] []) (kr : PySem.W.keepIn K (.ref fr) = true) (mr : mg "ranks_in" = some (.ref fr)) : FnOk P w K mg base CX0 (k + 1) f fd ["wishes", "most", "person"] (spFirstLeft C) := by
  refine F.ok scFirstLeft (fun vs H Q E h => ?_) (fun cdv A outer s H vs Q E hr h => ?_)
  · obtain ⟨wi, m, ns, ls, hs, p, rfl, _⟩ := h
    rfl
  · obtain ⟨wi, m, ns, ls, hs, p, rfl, W, em, hp, q⟩ := h
    refine ⟨_, pss_cons (ps_set (i := 3) scFirstLeft.nd rfl (.inl rfl) (pe_call Gr hr rfl mr kr br .nil pass0 (pa_cons (pv 0) pa_nil)))
      (pss_cons (ps_for PassesOwn.never rfl (pi_tup (pe_slice sl_tupA (pe_ix ix_tup (pe_fld (pv 0) rfl) (pv 2) (fun _ _ => rfl)) po_none (po_some (pe_op op_add (pe_ix ix_seq (pv 1) (pv 2) (fun _ _ => rfl)) pe_int)))) (pg_name (i := 4) scFirstLeft.nd rfl (.inl rfl))
        (pss_one (ps_if (pt_cmpR op_le (pe_ix ix_tup (pe_ix ix_tup (pv 3) (pv 4) (fun _ _ => rfl)) (pv 2) (fun _ _ => rfl)) (pe_ix ix_seq (pv 1) (pv 4) (fun _ _ => rfl)) (nomark _)) (pss_one (ps_ret (pv 4))) pss_nil)))
      (pss_one (ps_ret pe_non))), ?_⟩
    obtain ⟨dx, n, l, r0, e1, e2, e3, e4⟩ := W.ex
    obtain ⟨rows, c, er, ec, ev⟩ := e3.at (la_get hp)
    refine ⟨_, rfl, wi, ns, ls, rfl, W, fun r rt => ?_⟩
    refine ⟨_, rfl, wi, C, dx, _, _, rfl, e1, T.cl, T.nL, wf_lists n l r0, _, rfl, l, rows, _, _, rfl, rfl, SqT.of er, atI_nat ec, _, rfl, _, rfl, rIx_vm em hp ⟨_, _, rfl, rfl, _, rfl, slA ev fun b H1 s1 eb => ?_⟩⟩
    refine ⟨b, rfl, ⟨_, eb.sq⟩, for_it (walk_tup (K := K) (a := b) (xs := VI ((la ls p).take (most ls hs p + 1)))) (fun i σ H' => H' = H1 ∧ (∃ y : Option V, σ = [some (.ref wi), some (.ref m), some (.int p), some (.ref r), y]) ∧ (((la ls p).take (most ls hs p + 1)).take i).filter (keepF ls hs p) = [])
      ⟨rfl, ⟨none, rfl⟩, by rw [List.take_zero]; rfl⟩ (fun i σ H' _ h => by rw [h.1]; exact eb.sq) ?_ ?_⟩
    · rintro i x σ H2 H3 hi ⟨rfl, ⟨y, rfl⟩, no⟩ ⟨rfl, ex⟩
      obtain ⟨o, eo, rfl⟩ := VI_at ex
      have ho := (mem_take_idx (W.ok.nda hp)).mp (List.mem_of_getElem? eo)
      obtain ⟨h1, _, h2⟩ := W.ok.mate hp ho.1
      obtain ⟨rows2, c2, er2, ec2, ev2⟩ := rt.at (la_get h1)
      have e6 : rkV (la ls o) p = .int ((la ls o).idxOf p : Nat) := by
        unfold rkV
        rw [if_pos h2]
      have e7 := VR_get (s := la ls o) hp
      rw [e6] at e7
      refine gn ?_
      dsimp only [List.set]
      refine ⟨_, rfl, _, rfl, r, rows2, _, _, rfl, rfl, SqT.of (s1 _ _ er2), atI_nat ec2, _, rfl, c2, _, _, _, rfl, rfl, SqT.of (s1 _ _ ev2), atI_nat e7, _, rfl, _, rfl, rIx_vm (em.same s1) h1 ⟨_, _, rfl, rfl, keepF ls hs p o, ?_, ?_⟩⟩
      · refine congrArg V.bl ?_
        unfold keepF
        rw [decide_eq_decide]
        omega
      · refine ite2 (fun c => ?_) (fun c => ?_)
        · refine ⟨_, rfl, ?_⟩
          have := head_at eo no c
          have hq := q _ s1
          unfold leftL at hq
          rw [this] at hq
          exact hq
        · refine ⟨rfl, ⟨_, rfl⟩, ?_⟩
          have tk : ((la ls p).take (most ls hs p + 1)).take (i + 1) = ((la ls p).take (most ls hs p + 1)).take i ++ [o] := by
            rw [List.take_succ, eo]
            rfl
          rw [tk, List.filter_append, no, List.nil_append, List.filter_cons, if_neg c, List.filter_nil]
    · rintro σ H2 ⟨rfl, ⟨y, rfl⟩, no⟩
      rw [VI_len, List.take_length] at no
      have hq := q _ s1
      unfold leftL at hq
      rw [no] at hq
      exact hq
theorem ok_firsts_left {f fr fl C : Addr} {fd dr dl : FuncData} {k : Nat} (F : Fun K "firsts_left" "firsts_left" sFirstsLeft f fd)
    (Gr : FnOk P w K mg base CX0 k fr dr ["wishes", "holds"] (spHeldRanks C)) (br : Binds K dr ["wishes", "holds"] []) (kr : PySem.W.keepIn K (.ref fr) = true) (mr : mg "held_ranks" = some (.ref fr))
    (Gl : FnOk P w K mg base CX0 k fl dl ["wishes", "most", "person"] (spFirstLeft C)) (bl : Binds K dl ["wishes", "most", "person"] []) (kl : PySem.W.keepIn K (.ref fl) = true) (mll : mg "first_left" = some (.ref fl))
    (mt : mg "tuple" = none) (ml : mg "len" = none) (mrg : mg "range" = none) : FnOk P w K mg base CX0 (k + 1) f fd ["wishes", "holds"] (spFirstsLeft C) := by
  refine F.ok scFirstsLeft (fun vs H Q E h => ?_) (fun cdv A outer s H vs Q E hr h => ?_)
  · obtain ⟨wi, b, ns, ls, hs, rfl, _⟩ := h
    rfl
  · obtain ⟨wi, b, ns, ls, hs, rfl, W, eb, ho, q⟩ := h
    refine ⟨_, pss_cons (ps_set (i := 2) scFirstsLeft.nd rfl (.inr rfl) (pe_call Gr hr rfl mr kr br .nil pass0 (pa_cons (pv 0) (pa_cons (pv 1) pa_nil))))
      (pss_one (ps_ret (pe_callTy call_tuple_of (by rfl) mt (by decide +kernel) (pa_cons (pe_lc (own := [("person", 3)]) (g := gName 3) (tt := tYes) rfl scFirstsLeft.nd (pi_range1 rfl mrg (pa_cons (pe_callB call_len_seq (by rfl) ml PySem.boot_len (pa_cons (pv 1) pa_nil)) pa_nil))
          (blkOk_by (own := [("person", 3)]) (N := ["wishes", "holds", "most", "person"]) (sc := defScope sFirstsLeft) (by decide +kernel)) (fun _ _ _ _ _ => pg_name (i := 3) scFirstsLeft.nd rfl (Or.inl rfl)) (fun _ _ _ _ _ => pts_nil)
          (fun _ _ _ _ _ => pe_call Gl hr rfl mll kl bl .nil pass0 (pa_cons (pv 0) (pa_cons (pv 2) (pa_cons (pv 3) pa_nil))))) pa_nil)))), ?_⟩
    have n60 := W.n60.2
    refine ⟨_, rfl, _, rfl, wi, b, ns, ls, hs, rfl, W, eb, ho, fun m H1 s1 em => ?_⟩
    refine ⟨_, rfl, b, VH hs, rfl, .inr (SqT.of (s1 _ _ eb)), ?_⟩
    have lh : (VH hs).length = ls.length := by rw [VH_len, ho.len]
    rw [lh]
    refine ⟨_, rfl, by omega, by omega, fun D nD => ?_⟩
    refine lc_same (J := Itr 0 ls.length) (n := ls.length) walk_range0 (by omega) (fun i => hv (leftL ls hs i).head?) nD (fun _ _ => trivial) ?_ ?_
    · rintro i x H2 H3 Z out hi sm ⟨rfl, rfl⟩
      exact gn ⟨rfl, _, rfl, _, rfl, _, rfl, wi, m, ns, ls, hs, i, rfl, (W.same s1).same sm, .inl (sm _ _ em), hi, fun H4 s4 => out H4 s4⟩
    · intro H2 sm eD
      refine ⟨D, _, rfl, .inl ⟨SqL.of eD, fun r nr => q r _ ((s1.trans sm).fresh ((s1.trans sm).free nr)) ?_⟩⟩
      rw [upd_same]
      unfold VH firsts
      rw [List.map_map]
      rfl
end
end K14
namespace K14
open PySem PySem.Spec PyProof.Rows L2
/-! ### data -/
def dN (ns : List (List Nat)) : PyData := .tuple (ns.map fun s => .str (SS s))
def dI (s : List Nat) : PyData := .tuple (s.map fun j => .int (j : Nat))
def dL (ls : List (List Nat)) : PyData := .tuple (ls.map dI)
def dH (hs : List (Option Nat)) : PyData := .tuple (hs.map fun o => match o with | none => .none | some j => .int (j : Nat))
theorem layAll {xs : List PyData} (h : ∀ x ∈ xs, PyData.canLay0 x = true) : PyData.canLayAll0 xs = true := by
  induction xs with
  | nil => rfl
  | cons c r ih => simp only [PyData.canLayAll0, h c (by simp), ih (fun x hx => h x (by simp [hx])), Bool.and_self]
theorem depAll {xs : List PyData} {d : Nat} (h : ∀ x ∈ xs, PyData.depth x ≤ d) : PyData.depthAll xs ≤ d := by
  induction xs with
  | nil => simp [PyData.depthAll]
  | cons c r ih =>
    have h1 := h c (by simp)
    have h2 := ih (fun x hx => h x (by simp [hx]))
    simp only [PyData.depthAll]
    omega
theorem shaped_of {x : PyData} (h : PyData.canLay0 x = true) (d : PyData.depth x ≤ 64) : SeqAt.shaped x = true := by
  show (PyData.canLay0 x && decide (PyData.depth x ≤ 64)) = true
  rw [h, decide_eq_true d]
  rfl
theorem lay_dI (s : List Nat) : PyData.canLay0 (dI s) = true ∧ PyData.depth (dI s) ≤ 2 := by
  unfold dI
  constructor
  · simp only [PyData.canLay0]
    refine layAll fun x hx => ?_
    obtain ⟨j, _, rfl⟩ := List.mem_map.mp hx
    rfl
  · simp only [PyData.depth]
    have := depAll (xs := s.map fun j => PyData.int (j : Nat)) (d := 1) fun x hx => by
      obtain ⟨j, _, rfl⟩ := List.mem_map.mp hx
      simp [PyData.depth]
    omega
theorem sh_dL (ls : List (List Nat)) : SeqAt.shaped (dL ls) = true := by
  unfold dL
  refine shaped_of ?_ ?_
  · simp only [PyData.canLay0]
    refine layAll fun x hx => ?_
    obtain ⟨j, _, rfl⟩ := List.mem_map.mp hx
    exact (lay_dI j).1
  · simp only [PyData.depth]
    have := depAll (xs := ls.map dI) (d := 2) fun x hx => by
      obtain ⟨j, _, rfl⟩ := List.mem_map.mp hx
      exact (lay_dI j).2
    omega
theorem ok_str {s : List Nat} (h : s.length ≤ 6) (hc : ∀ c ∈ s, 97 ≤ c ∧ c ≤ 122) : PyData.canLay0 (.str (SS s)) = true := by
  simp only [PyData.canLay0]
  unfold PyData.strOk
  rw [Array.all_eq_true]
  intro i hi
  have := hc ((SS s).cps[i]) (by simp)
  rw [decide_eq_true_eq]
  omega
theorem sh_dN (ns : List (List Nat)) (h6 : ∀ s ∈ ns, s.length ≤ 6 ∧ ∀ c ∈ s, 97 ≤ c ∧ c ≤ 122) : SeqAt.shaped (dN ns) = true := by
  unfold dN
  refine shaped_of ?_ ?_
  · simp only [PyData.canLay0]
    refine layAll fun x hx => ?_
    obtain ⟨j, hj, rfl⟩ := List.mem_map.mp hx
    exact ok_str (h6 j hj).1 (h6 j hj).2
  · simp only [PyData.depth]
    have := depAll (xs := ns.map fun s => PyData.str (SS s)) (d := 1) fun x hx => by
      obtain ⟨j, _, rfl⟩ := List.mem_map.mp hx
      simp [PyData.depth]
    omega
theorem sh_dH (hs : List (Option Nat)) : SeqAt.shaped (dH hs) = true := by
  unfold dH
  refine shaped_of ?_ ?_
  · simp only [PyData.canLay0]
    refine layAll fun x hx => ?_
    obtain ⟨j, _, rfl⟩ := List.mem_map.mp hx
    cases j <;> rfl
  · simp only [PyData.depth]
    have := depAll (xs := hs.map fun o => match o with | none => PyData.none | some j => .int (j : Nat)) (d := 1) fun x hx => by
      obtain ⟨j, _, rfl⟩ := List.mem_map.mp hx
      cases j <;> simp [PyData.depth]
    omega
theorem dp_dI {K : PySem.W.Frag} {H : Hp} {a : Addr} {s : List Nat} (e : Tp H a (VI s)) : Dp K H (.ref a) (dI s) := by
  refine .tup e.sq ?_
  unfold VI
  clear e
  induction s with
  | nil => exact .nil
  | cons c r ih => exact .cons (.int _) ih
theorem dp_dN {K : PySem.W.Frag} {H : Hp} {a : Addr} {ns : List (List Nat)} (e : H a = some (.tup (VN ns))) : Dp K H (.ref a) (dN ns) := by
  refine .tup (SqT.of e) ?_
  unfold VN
  clear e
  induction ns with
  | nil => exact .nil
  | cons c r ih => exact .cons (.str _) ih
theorem dp_dH {K : PySem.W.Frag} {H : Hp} {a : Addr} {hs : List (Option Nat)} (e : H a = some (.tup (VH hs))) : Dp K H (.ref a) (dH hs) := by
  refine .tup (SqT.of e) ?_
  unfold VH
  clear e
  induction hs with
  | nil => exact .nil
  | cons c r ih =>
    cases c with
    | none => exact .cons .non ih
    | some j => exact .cons (.int _) ih
theorem dp_dL {K : PySem.W.Frag} {H : Hp} {a : Addr} {ls : List (List Nat)} (e : LT H a ls) : Dp K H (.ref a) (dL ls) := by
  obtain ⟨as, e1, al, rows⟩ := e
  refine .tup (SqT.of e1) ?_
  clear e1
  induction ls generalizing as with
  | nil =>
    cases as with
    | nil => exact .nil
    | cons b t => cases al
  | cons c r ih =>
    cases as with
    | nil => cases al
    | cons b t =>
      exact .cons (dp_dI (rows 0 b c rfl rfl)) (ih t (by simpa using al) fun i a s e1 e2 => rows (i + 1) a s (by simpa using e1) (by simpa using e2))
end K14
namespace K14
open PySem PySem.Spec PyProof.Rows L2
def spWEq (C : Addr) : Sp := spEq fun a b H => ∃ ns ls, WAt C H a ns ls ∧ WAt C H b ns ls
theorem scWEq : FnScope ["self", "other"] ["self", "other"] (defScope sWEq) := ⟨rfl, rfl, rfl, by decide +kernel, rfl, by decide +kernel, by decide +kernel⟩
theorem eq_dN (ns : List (List Nat)) (h : ∀ s ∈ ns, s.length ≤ 6 ∧ ∀ c ∈ s, 97 ≤ c ∧ c ≤ 122) : PyData.eqv (dN ns) (dN ns) = true := by
  refine SeqAt.eqv_refl _ ?_
  have := sh_dN ns h
  unfold SeqAt.shaped at this
  rw [Bool.and_eq_true] at this
  exact this.1
theorem eq_dL (ls : List (List Nat)) : PyData.eqv (dL ls) (dL ls) = true := by
  refine SeqAt.eqv_refl _ ?_
  have := sh_dL ls
  unfold SeqAt.shaped at this
  rw [Bool.and_eq_true] at this
  exact this.1
theorem mayV_hold {n : Nat} {s : List Nat} {v : V} (h : mayV n s v = true) : ∃ o, v = hv o ∧ ∀ j, o = some j → j < n ∧ j ∈ s := by
  cases v with
  | non => exact ⟨none, rfl, fun _ e => by cases e⟩
  | int i =>
    simp only [mayV, Bool.and_eq_true, decide_eq_true_eq] at h
    refine ⟨some i.toNat, ?_, fun j e => ?_⟩
    · show V.int i = V.int (i.toNat : Int)
      congr 1
      omega
    · cases e
      exact ⟨by omega, h.2⟩
  | bl b => cases h
  | str s => cases h
  | ref a => cases h
  | byt b => cases h
  | flt b => cases h
  | ty n => cases h
theorem holdsV_true {H : Hp} {ls : List (List Nat)} {v : V} (h : holdsV H ls v = true) : ∃ hs, tupOf H v = some (VH hs) ∧ HoldsOk ls hs := by
  unfold holdsV at h
  cases tv : tupOf H v with
  | none => rw [tv] at h; cases h
  | some xs =>
    rw [tv] at h
    dsimp only at h
    rw [Bool.and_eq_true, decide_eq_true_eq, List.all_eq_true] at h
    have each : ∀ i, i < xs.length → ∃ o, xs[i]? = some (hv o) ∧ ∀ j, o = some j → j < ls.length ∧ j ∈ la ls i := fun i hi => by
      obtain ⟨o, eo, ho⟩ := mayV_hold (h.2 i (List.mem_range.mpr hi))
      refine ⟨o, ?_, ho⟩
      rw [← eo, List.getD_eq_getElem?_getD, List.getElem?_eq_getElem hi]
      rfl
    let g : V → Option Nat := fun v => match v with | .int i => some i.toNat | _ => none
    have gv : ∀ o, g (hv o) = o := fun o => by
      cases o with
      | none => rfl
      | some j => exact congrArg some (Int.toNat_natCast j)
    refine ⟨xs.map g, ?_, ?_, ?_⟩
    · congr 1
      apply List.ext_getElem?
      intro i
      by_cases c : i < xs.length
      · obtain ⟨o, e, _⟩ := each i c
        unfold VH
        rw [List.getElem?_map, List.getElem?_map, e]
        show some (hv o) = some (hv (g (hv o)))
        rw [gv]
      · rw [List.getElem?_eq_none (by omega), List.getElem?_eq_none (by simpa [VH] using c)]
    · rw [List.length_map, h.1]
    · intro p j e
      unfold ha at e
      rw [List.getD_eq_getElem?_getD, List.getElem?_map] at e
      by_cases c : p < xs.length
      · obtain ⟨o, eo, ho⟩ := each p c
        rw [eo] at e
        have e' : g (hv o) = some j := e
        rw [gv] at e'
        exact ⟨by omega, (ho j e').2⟩
      · rw [List.getElem?_eq_none (by omega)] at e
        cases e
theorem first_lt {ls : List (List Nat)} {hs : List (Option Nat)} {p j : Nat} (ok : ListsOk ls.length ls) (hp : p < ls.length) (e : ha (firsts ls hs) p = some j) : j < ls.length := by
  unfold ha firsts at e
  rw [List.getD_eq_getElem?_getD, List.getElem?_map, List.getElem?_range hp] at e
  have e' : (leftL ls hs p).head? = some j := e
  have := List.mem_of_mem_head? (show j ∈ (leftL ls hs p).head? from e')
  exact (ok.mate hp ((mem_left ok hp).mp this).1).1
theorem scal_hv (o : Option Nat) (i : Int) : scal (hv o) (.int i) = true := by cases o <;> rfl
theorem dec_hv (o : Option Nat) (i : Nat) : decide (hv o = V.int (i : Nat)) = decide (o = some i) := by
  rw [decide_eq_decide]
  cases o with
  | none => exact ⟨fun e => (by cases e), fun e => (by cases e)⟩
  | some j =>
    constructor
    · intro e
      have : ((j : Nat) : Int) = (i : Nat) := V.int.inj e
      congr 1
      omega
    · intro e
      cases e
      rfl
section
variable {P : Program} {w : World} {K : PySem.W.Frag} {mg : Str → Option Value} {base : Heap}
theorem ok_weq {f C : Addr} {fd : FuncData} {k : Nat} (F : Fun K "__eq__" "Wishes.__eq__" sWEq f fd) (T : Txt K mg C) (ic : C8.InsC K C) (mis : mg "isinstance" = none) : FnOk P w K mg base CX0 (k + 1) f fd ["self", "other"] (spWEq C) := by
  refine F.ok scWEq (fun vs H Q E h => ?_) (fun cdv A outer s H vs Q E hr h => ?_)
  · obtain ⟨a, b, rfl, _⟩ := h
    rfl
  · obtain ⟨a, b, rfl, ⟨ns, ls, Wa, Wb⟩, q⟩ := h
    refine ⟨_, pss_one (ps_ret (pe_and (pe_callB (C8.call_isC ic) (by rfl) mis (by decide +kernel) (pa_cons (pv 1) (pa_cons (pe_glob (v := .ref C) rfl T.mgC rfl) pa_nil)))
      (pe_and (pe_cmpR (op_eqD hr.units) (pe_fld (pv 0) rfl) (pe_fld (pv 1) rfl) (nomark _)) (pe_one (pe_cmpR (op_eqD hr.units) (pe_fld (pv 0) rfl) (pe_fld (pv 1) rfl) (nomark _)))))), ?_⟩
    obtain ⟨dx, n, l, r, e1, e2, e3, e4⟩ := Wa.ex
    obtain ⟨dx', n', l', r', e1', e2', e3', e4'⟩ := Wb.ex
    have h6 : ∀ s ∈ ns, s.length ≤ 6 ∧ ∀ c ∈ s, 97 ≤ c ∧ c ≤ 122 := fun s hs => (Wa.nok.each s hs).2
    refine ⟨_, rfl, b, _, _, rfl, e1', true, rfl, iteT ?_⟩
    refine ⟨_, rfl, a, C, dx, _, _, rfl, e1, T.cl, T.nN, wf_names n l r, _, rfl, b, C, dx', _, _, rfl, e1', T.cl, T.nN, wf_names n' l' r', dN ns, dN ns, dp_dN e2, dp_dN e2', sh_dN ns h6, sh_dN ns h6, true, congrArg V.bl (eq_dN ns h6), iteT ?_⟩
    refine ⟨_, rfl, a, C, dx, _, _, rfl, e1, T.cl, T.nL, wf_lists n l r, _, rfl, b, C, dx', _, _, rfl, e1', T.cl, T.nL, wf_lists n' l' r', dL ls, dL ls, dp_dL e3, dp_dL e3', sh_dL ls, sh_dL ls, ?_⟩
    rw [eq_dL]
    exact q H fun _ _ e => e
theorem ok_are_within {f fr C : Addr} {fd dr : FuncData} {k : Nat} (F : Fun K "are_within" "are_within" sAreWithin f fd)
    (Gr : FnOk P w K mg base CX0 k fr dr ["wishes", "holds"] (spHeldRanks C)) (br : Binds K dr ["wishes", "holds"] []) (kr : PySem.W.keepIn K (.ref fr) = true) (mr : mg "held_ranks" = some (.ref fr)) (ma : mg "all" = none) (mz : mg "zip" = none) : FnOk P w K mg base CX0 (k + 1) f fd ["wishes", "one", "other"] (spAreWithin C) := by
  refine F.ok scAreWithin (fun vs H Q E h => ?_) (fun cdv A outer s H vs Q E hr h => ?_)
  · obtain ⟨wi, a, b, ns, ls, h1, h2, rfl, _⟩ := h
    rfl
  · obtain ⟨wi, a, b, ns, ls, h1, h2, rfl, W, ea, eb, ho1, ho2, q⟩ := h
    refine ⟨_, pss_one (ps_ret (pe_callB (cr_all rfl) (by rfl) ma (by decide +kernel) (pa_cons (pe_lc (own := [("rank", 3), ("bound", 4)]) (g := gTup K 2 (gCons (gName 3) (gCons (gName 4) gNil))) (tt := tYes) rfl scAreWithin.nd (RZ.pi_zipA (by rfl) mz (pa_cons (pe_call Gr hr rfl mr kr br .nil pass0 (pa_cons (pv 0) (pa_cons (pv 1) pa_nil))) (pa_cons (pe_call Gr hr rfl mr kr br .nil pass0 (pa_cons (pv 0) (pa_cons (pv 2) pa_nil))) pa_nil)))
          (blkOk_by (own := [("rank", 3), ("bound", 4)]) (N := ["wishes", "one", "other", "rank", "bound"]) (sc := defScope sAreWithin) (by decide +kernel)) (fun _ _ _ _ _ => pg_tup rfl (pgs_cons (pg_name (i := 3) scAreWithin.nd rfl (Or.inl rfl)) (pgs_cons (pg_name (i := 4) scAreWithin.nd rfl (Or.inl rfl)) pgs_nil))) (fun _ _ _ _ _ => pts_nil)
          (fun _ _ _ _ _ => pe_cmp (pc_le (pv 3) (pv 4)) rfl)) pa_nil))), ?_⟩
    have n60 := W.n60.2
    refine ⟨_, rfl, _, rfl, wi, a, ns, ls, h1, rfl, W, ea, ho1, fun r1 H1 s1 f1 => ?_⟩
    refine ⟨_, rfl, _, rfl, wi, b, ns, ls, h2, rfl, W.same s1, s1 _ _ eb, ho2, fun r2 H2 s2 f2 => ?_⟩
    have f1' := s2 _ _ f1
    refine ⟨r1, r2, VM ls h1, VM ls h2, rfl, .inr ⟨SqT.of f1', SqT.of f2, fun D nD => ?_⟩⟩
    have wz : Walk (RZ.ItzT K r1 r2) ls.length (fun H => SqT K H r1 (VM ls h1) ∧ SqT K H r2 (VM ls h2)) (fun i H v H' => ∃ U, v = .ref U ∧ H U = none ∧ H' = upd H U (.tup [.int (most ls h1 i : Nat), .int (most ls h2 i : Nat)])) :=
      ⟨fun i H hi q => ⟨_, _, _, _, q.1, q.2, VM_get hi, VM_get hi⟩, fun H q => ⟨_, _, q.1, q.2, .inl (by simp [VM])⟩, fun i H v H' hi q ⟨U, x, y, e1, e2, e3, e4, e5⟩ => by
        have g1 := e4 _ q.1
        have g2 := e5 _ q.2
        rw [VM_get hi] at g1 g2
        cases g1
        cases g2
        exact ⟨U, e1, e2, e3⟩⟩
    refine lc_same wz (by omega) (fun i => .bl (decide (most ls h1 i ≤ most ls h2 i))) nD (fun _ sm => ⟨SqT.of (sm _ _ f1'), SqT.of (sm _ _ f2)⟩) ?_ ?_
    · rintro i x H3 H4 Z out hi sm ⟨U, rfl, nU, rfl⟩
      have s3 : Same H3 (upd H3 U (.tup [.int (most ls h1 i : Nat), .int (most ls h2 i : Nat)])) := same_upd nU
      refine ⟨U, _, rfl, SqT.of upd_same, rfl, _, _, rfl, gn ⟨_, _, rfl, gn ⟨rfl, rfl, _, rfl, _, rfl, _, _, rfl, rfl, ?_⟩⟩⟩
      have e : decide (((most ls h1 i : Nat) : Int) ≤ (most ls h2 i : Nat)) = decide (most ls h1 i ≤ most ls h2 i) := by
        rw [decide_eq_decide]
        omega
      show Z (.bl (decide (((most ls h1 i : Nat) : Int) ≤ (most ls h2 i : Nat)))) _
      rw [e]
      exact out _ s3
    · intro H3 sm eD
      refine ⟨D, _, rfl, SqL.of (by rw [eD, bl_map]), ?_⟩
      rw [all_map_id]
      exact q _ (s1.trans (s2.trans sm))
theorem ok_is_steady {f fh ff C : Addr} {fd dh df : FuncData} {k : Nat} (F : Fun K "is_steady" "is_steady" sIsSteady f fd)
    (Gh : FnOk P w K mg base CX0 k fh dh ["wishes", "value"] (spAreHolds C)) (bh : Binds K dh ["wishes", "value"] []) (kh : PySem.W.keepIn K (.ref fh) = true) (mh : mg "are_holds" = some (.ref fh))
    (Gf : FnOk P w K mg base CX0 k ff df ["wishes", "holds"] (spFirstsLeft C)) (bf : Binds K df ["wishes", "holds"] []) (kf : PySem.W.keepIn K (.ref ff) = true) (mf : mg "firsts_left" = some (.ref ff)) (ma : mg "all" = none) (me : mg "enumerate" = none) : FnOk P w K mg base CX0 (k + 1) f fd ["wishes", "value"] (spIsSteady C) := by
  refine F.ok scIsSteady (fun vs H Q E h => ?_) (fun cdv A outer s H vs Q E hr h => ?_)
  · obtain ⟨wi, ns, ls, v, rfl, _⟩ := h
    rfl
  · obtain ⟨wi, ns, ls, v, rfl, W, pl, its, qn, qy⟩ := h
    refine ⟨_, pss_cons (ps_if (pt_not (pt_val (pe_call Gh hr rfl mh kh bh .nil pass0 (pa_cons (pv 0) (pa_cons (pv 1) pa_nil))))) (pss_one (ps_ret pe_bl)) pss_nil)
      (pss_cons (ps_set (i := 2) scIsSteady.nd rfl (.inr rfl) (pe_call Gf hr rfl mf kf bf .nil pass0 (pa_cons (pv 0) (pa_cons (pv 1) pa_nil))))
      (pss_cons (ps_set (i := 3) scIsSteady.nd rfl (.inl rfl) (pe_callB (cr_all rfl) (by rfl) ma (by decide +kernel) (pa_cons (pe_lc (own := [("person", 4), ("held", 5)]) (g := gTup K 2 (gCons (gName 4) (gCons (gName 5) gNil))) (tt := tYes) (te := tOrV (tOp (fun x y H Q => y = V.non ∧ Q (V.bl (decide (x = V.non))) H) (tVar 5) (tC .non)) (tOp rEq (tOp (rIxT K) (tVar 2) (tVar 5)) (tVar 4))) rfl scIsSteady.nd (pi_enumT (by rfl) me (pa_cons (pv 1) pa_nil))
          (blkOk_by (own := [("person", 4), ("held", 5)]) (N := ["wishes", "value", "firsts", "kept", "person", "held", "first"]) (sc := defScope sIsSteady) (by decide +kernel)) (fun _ _ _ _ _ => pg_tup rfl (pgs_cons (pg_name (i := 4) scIsSteady.nd rfl (Or.inl rfl)) (pgs_cons (pg_name (i := 5) scIsSteady.nd rfl (Or.inl rfl)) pgs_nil))) (fun _ _ _ _ _ => pts_nil)
          (fun _ _ _ _ _ => pe_or (pe_cmpR op_isN (pv 5) pe_non (nomark _)) (pe_one (pe_cmpR op_eq (pe_ix ix_tup (pv 2) (pv 5) (fun _ _ => rfl)) (pv 4) (nomark _))))) pa_nil)))
      (pss_one (ps_ret (pe_and (pv 3) (pe_one (pe_callB (cr_all rfl) (by rfl) ma (by decide +kernel) (pa_cons (pe_lc (own := [("person", 4), ("first", 6)]) (g := gTup K 2 (gCons (gName 4) (gCons (gName 6) gNil))) (tt := tYes) (te := tOrV (tOp (fun x y H Q => y = V.non ∧ Q (V.bl (decide (x = V.non))) H) (tVar 6) (tC .non)) (tOp rEq (tOp (rIxT K) (tVar 1) (tVar 6)) (tVar 4))) rfl scIsSteady.nd (pi_enumT (by rfl) me (pa_cons (pv 2) pa_nil))
          (blkOk_by (own := [("person", 4), ("first", 6)]) (N := ["wishes", "value", "firsts", "kept", "person", "held", "first"]) (sc := defScope sIsSteady) (by decide +kernel)) (fun _ _ _ _ _ => pg_tup rfl (pgs_cons (pg_name (i := 4) scIsSteady.nd rfl (Or.inl rfl)) (pgs_cons (pg_name (i := 6) scIsSteady.nd rfl (Or.inl rfl)) pgs_nil))) (fun _ _ _ _ _ => pts_nil)
          (fun _ _ _ _ _ => pe_or (pe_cmpR op_isN (pv 6) pe_non (nomark _)) (pe_one (pe_cmpR op_eq (pe_ix ix_tup (pv 1) (pv 6) (fun _ _ => rfl)) (pv 4) (nomark _))))) pa_nil)))))))), ?_⟩
    refine ⟨_, rfl, _, rfl, wi, ns, ls, v, rfl, W, pl, its, fun H1 s1 => ⟨holdsV H ls v, rfl, ?_⟩⟩
    cases hb : holdsV H ls v with
    | false => exact iteT (qn hb H1 s1)
    | true =>
      refine iteF ?_
      obtain ⟨hs, eh, ho⟩ := holdsV_true hb
      obtain ⟨b, rfl, eb⟩ := tupOf_some eh
      have q := qy hs eh ho
      have n60 := W.n60.2
      refine ⟨_, rfl, _, rfl, wi, b, ns, ls, hs, rfl, W.same s1, s1 _ _ eb, ho, fun fr H2 s2 ef => ?_⟩
      dsimp only [List.set]
      have s02 := s1.trans s2
      have eb2 := s02 _ _ eb
      refine ⟨_, rfl, b, VH hs, rfl, SqT.of eb2, fun D nD => ?_⟩
      refine lc_same (walk_enumT (K := K) (a := b) (xs := VH hs)) (by rw [VH_len, ho.len]; omega) (fun p => .bl (hitB (firsts ls hs) (ha hs p) p)) nD (fun _ sm => SqT.of (sm _ _ eb2)) ?_ ?_
      · rintro i x H3 H4 Z out hi sm ⟨U, x0, x1, rfl, nU, rfl, y1, y2⟩
        cases y1
        have s3 : Same H3 (upd H3 U (.tup [.int (i : Nat), x1])) := same_upd nU
        rw [VH_len] at hi
        have y3 : (VH hs)[i]? = some x1 := y2
        rw [VH_get (ha_get hi)] at y3
        have y4 : x1 = hv (ha hs i) := (Option.some.inj y3).symm
        have o2 : Z (.bl (hitB (firsts ls hs) (ha hs i) i)) _ := out _ s3
        refine ⟨U, _, rfl, SqT.of upd_same, rfl, _, _, rfl, gn ⟨_, _, rfl, gn ⟨rfl, rfl, _, rfl, rfl, _, rfl, ?_⟩⟩⟩
        cases eo : ha hs i with
        | none =>
          rw [eo] at y4 o2
          subst y4
          exact iteT o2
        | some j =>
          have hj := (W.ok.mate (by rw [← ho.len]; exact hi) (ho.on i j eo).2).1
          rw [eo] at y4 o2
          subst y4
          refine iteF ⟨_, rfl, _, rfl, fr, _, _, _, rfl, rfl, SqT.of (s3 _ _ (sm _ _ ef)), atI_nat (VH_get (ha_get (by rw [firsts_len]; exact hj))), _, rfl, scal_hv _ _, ?_⟩
          rw [dec_hv]
          exact o2
      · intro H3 sm eD
        refine ⟨D, _, rfl, SqL.of (by rw [eD, bl_map]), ?_⟩
        rw [all_map_id, VH_len, ho.len]
        have ef3 := sm _ _ ef
        refine ⟨_, rfl, _, rfl, ?_⟩
        dsimp only [List.set]
        have q2 := q H3 (s02.trans sm)
        unfold steadyB at q2
        cases c1 : ((List.range ls.length).all fun p => hitB (firsts ls hs) (ha hs p) p) with
        | false =>
          rw [c1] at q2
          exact iteF q2
        | true =>
          rw [c1] at q2
          refine iteT ⟨_, rfl, fr, VH (firsts ls hs), rfl, SqT.of ef3, fun D2 nD2 => ?_⟩
          have eb3 := sm _ _ eb2
          refine lc_same (walk_enumT (K := K) (a := fr) (xs := VH (firsts ls hs))) (by rw [VH_len, firsts_len]; omega) (fun p => .bl (hitB hs (ha (firsts ls hs) p) p)) nD2 (fun _ sm => SqT.of (sm _ _ ef3)) ?_ ?_
          · rintro i x H4 H5 Z out hi sm4 ⟨U, x0, x1, rfl, nU, rfl, y1, y2⟩
            cases y1
            have s3 : Same H4 (upd H4 U (.tup [.int (i : Nat), x1])) := same_upd nU
            rw [VH_len] at hi
            have y3 : (VH (firsts ls hs))[i]? = some x1 := y2
            rw [VH_get (ha_get hi)] at y3
            have y4 : x1 = hv (ha (firsts ls hs) i) := (Option.some.inj y3).symm
            have o2 : Z (.bl (hitB hs (ha (firsts ls hs) i) i)) _ := out _ s3
            refine ⟨U, _, rfl, SqT.of upd_same, rfl, _, _, rfl, gn ⟨_, _, rfl, gn ⟨rfl, rfl, _, rfl, rfl, _, rfl, ?_⟩⟩⟩
            cases eo : ha (firsts ls hs) i with
            | none =>
              rw [eo] at y4 o2
              subst y4
              exact iteT o2
            | some j =>
              have hj : j < ls.length := first_lt W.ok (by rw [← firsts_len ls hs]; exact hi) eo
              rw [eo] at y4 o2
              subst y4
              refine iteF ⟨_, rfl, _, rfl, b, _, _, _, rfl, rfl, SqT.of (s3 _ _ (sm4 _ _ eb3)), atI_nat (VH_get (ha_get (by rw [ho.len]; exact hj))), _, rfl, scal_hv _ _, ?_⟩
              rw [dec_hv]
              exact o2
          · intro H4 sm4 eD2
            refine ⟨D2, _, rfl, SqL.of (by rw [eD2, bl_map]), ?_⟩
            rw [all_map_id, VH_len, firsts_len]
            have q3 := q _ (s02.trans (sm.trans sm4))
            unfold steadyB at q3
            rw [c1] at q3
            exact q3
end
end K14
namespace K14
open PySem PySem.Spec PyProof.Rows L2
/-! ### the law's own reading: ranks, lists left -/
def spRank : Sp := fun vs H Q _ => ∃ (a : Addr) (ls : List (List Nat)) (p : Nat) (o : Option Nat), vs = [.ref a, .int p, hv o] ∧ LX H a ls ∧ p < ls.length ∧ (∀ j, o = some j → j ∈ la ls p) ∧ Q (.int (rkN (la ls p) o : Nat)) H
theorem scRank : FnScope ["lists", "person", "other"] ["lists", "person", "other"] (defScope sRank) := ⟨rfl, rfl, rfl, by decide +kernel, rfl, by decide +kernel, by decide +kernel⟩
def spLeft : Sp := fun vs H Q _ => ∃ (a b : Addr) (ls : List (List Nat)) (hs : List (Option Nat)), vs = [.ref a, .ref b] ∧ LX H a ls ∧ H b = some (.tup (VH hs)) ∧ HoldsOk ls hs ∧ ListsOk ls.length ls ∧ ls.length ≤ 100 ∧ ∀ r H', Same H H' → LT H' r (leftA ls hs) → Q (.ref r) H'
theorem scLeft : FnScope ["lists", "holds", "person", "bounds", "found", "some", "other"] ["lists", "holds"] (defScope sLeft) := ⟨rfl, rfl, rfl, by decide +kernel, rfl, by decide +kernel, by decide +kernel⟩
theorem take_filter {s : List Nat} (nd : s.Nodup) (m : Nat) : s.filter (fun o => decide (s.idxOf o ≤ m)) = s.take (m + 1) := by
  have key : ∀ (k : Nat), k ≤ s.length → (s.take k).filter (fun o => decide (s.idxOf o ≤ m)) = s.take (min k (m + 1)) := by
    intro k
    induction k with
    | zero => intro _; simp
    | succ k ih =>
      intro hk
      have hl : k < s.length := hk
      have e : s[k]? = some s[k] := List.getElem?_eq_getElem hl
      have ix : s.idxOf s[k] = k := by
        have hm := List.getElem_mem hl
        have hl2 := List.idxOf_lt_length_of_mem hm
        exact nodup_ix nd (by rw [List.getElem?_eq_getElem hl2, List.getElem_idxOf]) e
      rw [List.take_succ, e, List.filter_append, ih (by omega)]
      show s.take (min k (m + 1)) ++ [s[k]].filter _ = _
      rw [List.filter_cons, ix]
      by_cases c : k ≤ m
      · rw [if_pos (by simpa using c), List.filter_nil, Nat.min_eq_left (by omega), Nat.min_eq_left (by omega), List.take_succ, e]
        rfl
      · rw [if_neg (by simpa using c), List.filter_nil, List.append_nil, Nat.min_eq_right (by omega), Nat.min_eq_right (by omega)]
  have h := key s.length (Nat.le_refl _)
  rw [List.take_length] at h
  rw [h]
  by_cases c : m + 1 ≤ s.length
  · rw [Nat.min_eq_right c]
  · rw [Nat.min_eq_left (by omega), List.take_length, List.take_of_length_le (by omega)]
theorem LX.at {H : Hp} {r : Addr} {ls : List (List Nat)} (t : LX H r ls) {i : Nat} {s : List Nat} (e : ls[i]? = some s) : ∃ xs a, H r = some (.tup xs) ∧ xs[i]? = some (.ref a) ∧ Ex H a (VI s) := by
  obtain ⟨as, e1, l, q⟩ := t
  have hi := (List.getElem?_eq_some_iff.mp e).1
  have ha : i < as.length := by omega
  exact ⟨_, as[i], e1, by rw [List.getElem?_map, List.getElem?_eq_getElem ha]; rfl, q i _ s (List.getElem?_eq_getElem ha) e⟩
section
variable {P : Program} {w : World} {K : PySem.W.Frag} {mg : Str → Option Value} {base : Heap}
theorem ok_rank {f : Addr} {fd : FuncData} {k : Nat} (F : Fun K "_law_rank" "_law_rank" sRank f fd) (ml : mg "len" = none) : FnOk P w K mg base CX0 (k + 1) f fd ["lists", "person", "other"] spRank := by
  refine F.ok scRank (fun vs H Q E h => ?_) (fun cdv A outer s H vs Q E hr h => ?_)
  · obtain ⟨a, ls, p, o, rfl, _⟩ := h
    rfl
  · obtain ⟨a, ls, p, o, rfl, lt, hp, ho, q⟩ := h
    refine ⟨_, pss_one (ps_ret (pe_ifExp (pt_cmpR op_isN (pv 2) pe_non (nomark _)) (pe_callB call_len_seq (by rfl) ml PySem.boot_len (pa_cons (pe_ix ix_tup (pv 0) (pv 1) (fun _ _ => rfl)) pa_nil)) (pe_bmT PySem.F.plainAttrs_tuple PySem.F.slot_tuple_index PySem.F.type_tuple_index mt_tupIdx (pe_ix ix_tup (pv 0) (pv 1) (fun _ _ => rfl)) (pa_cons (pv 2) pa_nil)))), ?_⟩
    obtain ⟨rows, c, er, ec, ev⟩ := LX.at lt (la_get hp)
    refine ⟨_, rfl, rfl, _, rfl, ?_⟩
    cases o with
    | none =>
      refine iteT ⟨_, rfl, _, rfl, a, rows, _, _, rfl, rfl, SqT.of er, atI_nat ec, c, _, rfl, .inr (Tp.sq (.inr ev)), ?_⟩
      rw [VI_len]
      exact q
    | some j =>
      refine iteF ⟨_, rfl, _, rfl, a, rows, _, _, rfl, rfl, SqT.of er, atI_nat ec, ⟨c, _, rfl, ev⟩, _, rfl, c, la ls p, j, rfl, rfl, Tp.sq (.inr ev), ho j rfl, q⟩
end
end K14
namespace K14
open PySem PySem.Spec PyProof.Rows L2
section
variable {J : It} {n : Nat} {G : Hp → Prop} {Y : Nat → Hp → V → Hp → Prop}
/-- a comprehension with a test that leaves all as it stood: the items at which the test is true -/
theorem lc_sel (w : Walk J n G Y) {g : TG} {tt : TT} {te : TE} {vs : List Nat} {σ : L2.St} {H0 : Hp} {D : Addr} {Qd : Hp → Prop} (hn : n ≤ 100000) (xs : List V) (f : V → Bool) (xl : xs.length = n) (nD : H0 D = none) (hG : ∀ H, Same H0 H → G H)
    (hs : ∀ (i : Nat) (x : V) (H H' : Hp) (R : Hp → Prop) (Z : V → Hp → Prop), (∀ H3, Same H H3 → f (xs.getD i .non) = true → Z (xs.getD i .non) H3) → (∀ H3, Same H H3 → f (xs.getD i .non) = false → R H3) → i < n → Same H0 H → Y i H x H' → g x (wipe σ vs) H' fun σ2 H2 => wipe σ2 vs = wipe σ vs ∧ tt σ2 H2 fun b H3 => if b = true then te σ2 H3 Z else R H3)
    (hd : ∀ H, Same H0 H → H D = some (.lst (xs.filter f)) → Qd H) :
    ∃ W : Nat → Nat → Hp → Prop, (∃ m, W 0 m (upd H0 D (.lst []))) ∧ ∀ i m H, W i m H →
      (J.stop i H ∧ Qd H) ∨ (J.go i H ∧ ∃ Nx : Hp → Prop, (∀ H', Nx H' → ∃ m', m' < m ∧ W (i + 1) m' H') ∧ ∀ x H', J.yld i H x H' → g x (wipe σ vs) H' fun σ2 H2 => wipe σ2 vs = wipe σ vs ∧ tt σ2 H2 fun b H3 =>
        if b = true then te σ2 H3 fun y H4 => ∃ acc, H4 D = some (.lst acc) ∧ acc.length < sizeLine ∧ Nx (upd H4 D (.lst (acc ++ [y]))) else Nx H3) := by
  refine lc_it w (fun i H => Same H0 H ∧ H D = some (.lst ((xs.take i).filter f))) ⟨same_upd nD, by rw [upd_same, List.take_zero]; rfl⟩ (fun i H _ h => hG H h.1) (fun i x H H' hi h y => ?_) (fun H h => hd H h.1 (by rw [← xl, List.take_length] at h; exact h.2))
  have tk : xs.take (i + 1) = xs.take i ++ [xs.getD i .non] := by
    rw [List.take_succ, List.getD_eq_getElem?_getD, List.getElem?_eq_getElem (by omega)]
    rfl
  refine hs i x H H' (fun H => Same H0 H ∧ H D = some (.lst ((xs.take (i + 1)).filter f))) (fun v H3 => ∃ acc, H3 D = some (.lst acc) ∧ acc.length < sizeLine ∧ (fun H => Same H0 H ∧ H D = some (.lst ((xs.take (i + 1)).filter f))) (upd H3 D (.lst (acc ++ [v])))) (fun H3 z ft => ?_) (fun H3 z ff => ?_) hi h.1 y
  · refine ⟨_, z _ _ h.2, ?_, (h.1.trans z).fresh nD, ?_⟩
    · refine sz6' (Nat.le_trans (List.length_filter_le _ _) ?_)
      rw [List.length_take]
      omega
    · rw [upd_same, tk, List.filter_append, List.filter_cons, if_pos ft, List.filter_nil]
  · refine ⟨h.1.trans z, ?_⟩
    rw [z _ _ h.2, tk, List.filter_append, List.filter_cons, if_neg (by rw [ff]; decide), List.filter_nil, List.append_nil]
end
theorem VI_getD {s : List Nat} {i : Nat} (h : i < s.length) : (VI s).getD i .non = .int (s[i] : Nat) := by
  rw [List.getD_eq_getElem?_getD, VI_get (List.getElem?_eq_getElem h)]
  rfl
def fV (g : Nat → Bool) : V → Bool
  | .int i => g i.toNat
  | _ => false
theorem VI_filter (s : List Nat) (g : Nat → Bool) : (VI s).filter (fV g) = VI (s.filter g) := by
  unfold VI
  rw [List.filter_map]
  rfl
section
variable {P : Program} {w : World} {K : PySem.W.Frag} {mg : Str → Option Value} {base : Heap}
theorem ok_left {f fr : Addr} {fd dr : FuncData} {k : Nat} (F : Fun K "_law_left" "_law_left" sLeft f fd)
    (Gr : FnOk P w K mg base CX0 k fr dr ["lists", "person", "other"] spRank) (br : Binds K dr ["lists", "person", "other"] []) (kr : PySem.W.keepIn K (.ref fr) = true) (mr : mg "_law_rank" = some (.ref fr)) (ml : mg "len" = none) (mrg : mg "range" = none) (mt : mg "tuple" = none) : FnOk P w K mg base CX0 (k + 1) f fd ["lists", "holds"] spLeft := by
  refine F.ok scLeft (fun vs H Q E h => ?_) (fun cdv A outer s H vs Q E hr h => ?_)
  · obtain ⟨a, b, ls, hs, rfl, _⟩ := h
    rfl
  · obtain ⟨a, b, ls, hs, rfl, lx, eb, ho, ok, hn, q⟩ := h
    refine ⟨_, pss_cons (ps_set (i := 3) scLeft.nd rfl (.inr rfl) (pe_lc (own := [("person", 2)]) (g := gName 2) (tt := tYes) (te := tCall spRank [] E0 (tCons (tVar 0) (tCons (tVar 2) (tCons (tOp (rIxT K) (tVar 1) (tVar 2)) tNil)))) rfl scLeft.nd (pi_range1 rfl mrg (pa_cons (pe_callB call_len_seq (by rfl) ml PySem.boot_len (pa_cons (pv 0) pa_nil)) pa_nil))
          (blkOk_by (own := [("person", 2)]) (N := ["lists", "holds", "person", "bounds", "found", "some", "other"]) (sc := defScope sLeft) (by decide +kernel)) (fun _ _ _ _ _ => pg_name (i := 2) scLeft.nd rfl (Or.inl rfl)) (fun _ _ _ _ _ => pts_nil)
          (fun _ _ _ _ _ => pe_call Gr hr rfl mr kr br .nil pass0 (pa_cons (pv 0) (pa_cons (pv 2) (pa_cons (pe_ix ix_tup (pv 1) (pv 2) (fun _ _ => rfl)) pa_nil))))))
      (pss_cons (ps_set (i := 4) scLeft.nd rfl (.inl rfl) (pe_lst pa_nil))
      (pss_cons (ps_for PassesOwn.never rfl (pi_range1 rfl mrg (pa_cons (pe_callB call_len_seq (by rfl) ml PySem.boot_len (pa_cons (pv 0) pa_nil)) pa_nil)) (pg_name (i := 2) scLeft.nd rfl (.inr rfl))
        (pss_cons (ps_setLc (i := 5) (own := [("other", 6)]) (g := gName 6) (tt := tTest (tOp (rI0 fun i j => V.bl (decide (i ≤ j))) (tCall spRank [] E0 (tCons (tVar 0) (tCons (tVar 2) (tCons (tVar 6) tNil)))) (tOp (rIxL K) (tVar 3) (tVar 2)))) rfl scLeft.nd rfl rfl (sw_true rfl rfl rfl (by decide +kernel)) (pi_tup (pe_ix ix_tup (pv 0) (pv 2) (fun _ _ => rfl)))
            (blkOk_by (own := [("other", 6)]) (N := ["lists", "holds", "person", "bounds", "found", "some", "other"]) (sc := defScope sLeft) (by decide +kernel)) (fun _ _ _ _ _ => pg_name (i := 6) scLeft.nd rfl (Or.inl rfl)) (fun _ _ _ _ _ => pts_one (pt_cmpR op_le (pe_call Gr hr rfl mr kr br .nil pass0 (pa_cons (pv 0) (pa_cons (pv 2) (pa_cons (pv 6) pa_nil)))) (pe_ix ix_list (pv 3) (pv 2) (fun _ _ => rfl)) (nomark _)))
            (fun _ _ _ _ _ => pv 6))
        (pss_one (ps_expr (pe_bm PySem.F.plainAttrs_list PySem.F.slot_list_append PySem.F.type_list_append mt_append (pv 4) (pa_cons (pe_callTy call_tuple_of (by rfl) mt (by decide +kernel) (pa_cons (pe_lc (own := [("other", 6)]) (g := gName 6) (tt := tTest (tOp (rI0 fun i j => V.bl (decide (i ≤ j))) (tCall spRank [] E0 (tCons (tVar 0) (tCons (tVar 6) (tCons (tVar 2) tNil)))) (tOp (rIxL K) (tVar 3) (tVar 6)))) rfl scLeft.nd (pi_list (pv 5))
            (blkOk_by (own := [("other", 6)]) (N := ["lists", "holds", "person", "bounds", "found", "some", "other"]) (sc := defScope sLeft) (by decide +kernel)) (fun _ _ _ _ _ => pg_name (i := 6) scLeft.nd rfl (Or.inl rfl)) (fun _ _ _ _ _ => pts_one (pt_cmpR op_le (pe_call Gr hr rfl mr kr br .nil pass0 (pa_cons (pv 0) (pa_cons (pv 6) (pa_cons (pv 2) pa_nil)))) (pe_ix ix_list (pv 3) (pv 6) (fun _ _ => rfl)) (nomark _)))
            (fun _ _ _ _ _ => pv 6)) pa_nil)) pa_nil))))))
      (pss_one (ps_ret (pe_callTy call_tuple_of (by rfl) mt (by decide +kernel) (pa_cons (pv 4) pa_nil)))))), ?_⟩
    obtain ⟨xs, ea, xl⟩ := lx.lt.len
    refine ⟨_, rfl, a, xs, rfl, .inr (SqT.of ea), ?_⟩
    rw [xl]
    refine ⟨_, rfl, by omega, by omega, fun B nB => ?_⟩
    refine lc_same (J := Itr 0 ls.length) (n := ls.length) walk_range0 (by omega) (fun i => .int (most ls hs i : Nat)) nB (fun _ _ => trivial) ?_ ?_
    · rintro i x H2 H3 Z out hi sm ⟨rfl, rfl⟩
      exact gn ⟨rfl, _, rfl, _, rfl, _, rfl, _, rfl, b, _, _, _, rfl, rfl, SqT.of (sm _ _ eb), atI_nat (VH_get (ha_get (by rw [ho.len]; exact hi))), a, ls, i, ha hs i, rfl, lx.same sm, hi, fun j ej => (ho.on i j ej).2, out _ same_rfl⟩
    · intro H1 s1 eB
      refine gn ⟨Nat.zero_le _, fun D nD => ?_⟩
      have s2 : Same H (upd H1 D (.lst [])) := s1.fresh (s1.free nD)
      have nBD : B ≠ D := ne_of_none eB nD
      have eB2 : (upd H1 D (.lst [])) B = some (.lst (VM ls hs)) := by rw [upd_ne nBD]; exact eB
      have eD2 : (upd H1 D (.lst [])) D = some (.lst []) := upd_same
      have nD0 := s1.free nD
      generalize upd H1 D (.lst []) = H2 at s2 eB2 eD2
      dsimp only [List.set, L2.start]
      refine ⟨_, rfl, a, xs, rfl, .inr (SqT.of (s2 _ _ ea)), ?_⟩
      rw [xl]
      refine ⟨_, rfl, by omega, by omega, for_it (J := Itr 0 ls.length) (n := ls.length) walk_range0 (fun i σ H' => ∃ (ts : List Addr) (y z : Option V), σ = [some (.ref a), some (.ref b), y, some (.ref B), some (.ref D), z, none] ∧ Same H H' ∧ H' B = some (.lst (VM ls hs)) ∧ H' D = some (.lst (ts.map V.ref)) ∧ ts.length = i ∧ ∀ (j : Nat) (t : Addr), ts[j]? = some t → H' t = some (.tup (VI (leftL ls hs j))))
        ⟨[], none, none, rfl, s2, eB2, eD2, rfl, fun _ _ e => by simp at e⟩ (fun _ _ _ _ _ => trivial) ?_ ?_⟩
      · rintro i x σ H3 H4 hi ⟨ts, y, z, rfl, s3, eB3, eD3, tl, old⟩ ⟨rfl, rfl⟩
        refine gn ?_
        dsimp only [List.set]
        obtain ⟨rows, c, er, ec, ev⟩ := lx.at (la_get hi)
        have len60 := ok.each (la_get hi)
        refine ⟨_, rfl, _, rfl, a, rows, _, _, rfl, rfl, SqT.of (s3 _ _ er), atI_nat ec, c, rfl, ⟨_, Tp.sq (.inr (ev.same s3))⟩, fun S nS => ?_⟩
        refine lc_sel (walk_tup (K := K) (a := c) (xs := VI (la ls i))) (by rw [VI_len]; omega) (VI (la ls i)) (fV fun o => decide ((la ls i).idxOf o ≤ most ls hs i)) rfl nS (fun _ sm => Tp.sq (.inr ((ev.same s3).same sm))) ?_ ?_
        · rintro m x H5 H6 R Z yes' no' hm sm ⟨rfl, ex⟩
          rw [VI_len] at hm
          have ex2 : (VI (la ls i))[m]? = some x := ex
          rw [VI_get (List.getElem?_eq_getElem hm)] at ex2
          cases ex2
          have hin := List.getElem_mem hm
          rw [VI_getD hm] at yes' no'
          refine gn ⟨rfl, _, rfl, _, rfl, _, rfl, a, ls, i, some (la ls i)[m], rfl, (lx.same s3).same sm, hi, fun j e => by cases e; exact hin, _, rfl, _, rfl, B, _, _, _, rfl, rfl, SqL.of (sm _ _ eB3), atI_nat (VM_get hi), _, _, rfl, rfl, decide ((la ls i).idxOf (la ls i)[m] ≤ most ls hs i), ?_, ?_⟩
          · refine congrArg V.bl ?_
            rw [decide_eq_decide]
            show (((la ls i).idxOf (la ls i)[m] : Nat) : Int) ≤ _ ↔ _
            omega
          · refine ite2 (fun c => ?_) (fun c => ?_)
            · exact ⟨_, rfl, yes' _ same_rfl (by show decide _ = true; exact c)⟩
            · exact no' _ same_rfl (by show decide _ = false; exact decide_eq_false (fun h => c (decide_eq_true h)))
        · intro H5 s5 eS
          rw [VI_filter, take_filter (ok.nda hi)] at eS
          refine gn ?_
          dsimp only [List.set]
          refine ⟨_, rfl, .inl ⟨rfl, _, SqL.of (s5 _ _ eD3)⟩, _, rfl, S, rfl, ⟨_, SqL.of eS⟩, fun U nU => ?_⟩
          refine lc_sel (walk_list (K := K) (a := S) (xs := VI ((la ls i).take (most ls hs i + 1)))) (by rw [VI_len, List.length_take]; omega) (VI ((la ls i).take (most ls hs i + 1))) (fV (keepF ls hs i)) rfl nU (fun _ sm => SqL.of (sm _ _ eS)) ?_ ?_
          · rintro m x H6 H7 R Z yes' no' hm sm ⟨rfl, ex⟩
            rw [VI_len] at hm
            have ex2 : (VI ((la ls i).take (most ls hs i + 1)))[m]? = some x := ex
            rw [VI_get (List.getElem?_eq_getElem hm)] at ex2
            cases ex2
            have hin := List.mem_of_mem_take (List.getElem_mem hm)
            obtain ⟨h1, h2, h3⟩ := ok.mate hi hin
            rw [VI_getD hm] at yes' no'
            have s6 := (s3.trans s5).trans sm
            refine gn ⟨rfl, _, rfl, _, rfl, _, rfl, a, ls, _, some i, rfl, lx.same s6, h1, fun j e => by cases e; exact h3, _, rfl, _, rfl, B, _, _, _, rfl, rfl, SqL.of ((s5.trans sm) _ _ eB3), atI_nat (VM_get h1), _, _, rfl, rfl, keepF ls hs i ((la ls i).take (most ls hs i + 1))[m], ?_, ?_⟩
            · refine congrArg V.bl ?_
              unfold keepF
              rw [decide_eq_decide]
              show (((la ls _).idxOf i : Nat) : Int) ≤ _ ↔ _
              omega
            · refine ite2 (fun c => ?_) (fun c => ?_)
              · exact ⟨_, rfl, yes' _ same_rfl c⟩
              · rw [Bool.not_eq_true] at c
                exact no' _ same_rfl c
          · intro H6 s6 eU
            rw [VI_filter] at eU
            refine ⟨U, _, rfl, .inl ⟨SqL.of eU, fun t nt => ?_⟩⟩
            have nDt : D ≠ t := ne_of_none ((s5.trans s6) _ _ eD3) nt
            have s7 : Same H6 (upd H6 t (.tup (VI (leftL ls hs i)))) := same_upd nt
            have e7 : (upd H6 t (.tup (VI (leftL ls hs i)))) t = some (.tup (VI (leftL ls hs i))) := upd_same
            have s37 : Same H4 (upd H6 t (.tup (VI (leftL ls hs i)))) := (s5.trans s6).trans s7
            refine ⟨D, _, _, rfl, rfl, s37 _ _ eD3, by rw [List.length_map]; exact sz6' (by omega), ts ++ [t], _, _, rfl, (s3.trans s37).fresh nD0, by rw [upd_ne nBD]; exact s37 _ _ eB3, by rw [upd_same]; simp, by simp [tl], fun j u e => ?_⟩
            by_cases c : j < ts.length
            · rw [List.getElem?_append_left c] at e
              have e8 := s37 _ _ (old j u e)
              rw [upd_ne (fun z => by rw [z, s37 _ _ eD3] at e8; cases e8)]
              exact e8
            · rw [List.getElem?_append_right (by omega), List.getElem?_singleton] at e
              split at e
              · cases e
                have : j = i := by omega
                subst this
                rw [upd_ne (Ne.symm nDt)]
                exact e7
              · cases e
      · rintro σ H3 ⟨ts, y, z, rfl, s3, eB3, eD3, tl, old⟩
        refine ⟨_, rfl, D, _, rfl, .inl ⟨SqL.of eD3, fun r nr => q r _ (s3.fresh (s3.free nr)) ⟨ts, upd_same, by rw [tl, leftA_len], fun i' a' x' e1 e2 => ?_⟩⟩⟩
        obtain ⟨_, rfl⟩ := leftA_at e2
        exact .inl (ofN nr (old i' a' e1))
end
end K14
namespace K14
open PySem PySem.Spec PyProof.Rows L2
/-! ### all partings -/
def ext (ls : List (List Nat)) (k : Nat) (row : List Nat) : List (List Nat) := ((la ls k ++ [k]).filter (fun o => decide (o ∉ row))).map (fun o => row ++ [o])
def parts (ls : List (List Nat)) : Nat → List (List Nat)
  | 0 => [[]]
  | k + 1 => (parts ls k).flatMap (ext ls k)
theorem ext_len {ls : List (List Nat)} {k n : Nat} {row : List Nat} (h : (la ls k).length ≤ n) : (ext ls k row).length ≤ n + 1 := by
  unfold ext
  rw [List.length_map]
  refine Nat.le_trans (List.length_filter_le _ _) ?_
  simp
  exact h
theorem flat_len {α β : Type} {xs : List α} {f : α → List β} {n : Nat} (h : ∀ x ∈ xs, (f x).length ≤ n) : (xs.flatMap f).length ≤ xs.length * n := by
  induction xs with
  | nil => simp
  | cons a r ih =>
    rw [List.flatMap_cons, List.length_append, List.length_cons, Nat.succ_mul]
    have h1 := h a (by simp)
    have h2 := ih (fun x hx => h x (by simp [hx]))
    omega
theorem parts_len {ls : List (List Nat)} {c : Nat} (h : ∀ k, (la ls k).length + 1 ≤ c) : ∀ k, (parts ls k).length ≤ c ^ k
  | 0 => by simp [parts]
  | k + 1 => by
    rw [parts, Nat.pow_succ]
    exact Nat.le_trans (flat_len fun x _ => Nat.le_trans (ext_len (Nat.le_refl _)) (h k)) (Nat.mul_le_mul_right c (parts_len h k))
/-- lists so short that all partings can be looked at -/
structure Few (ls : List (List Nat)) : Prop where
  len : ls.length ≤ 20
  ex : ∃ c, 1 ≤ c ∧ c ≤ 10 ∧ (∀ k, (la ls k).length + 1 ≤ c) ∧ c ^ ls.length ≤ 7776
theorem parts_row {ls : List (List Nat)} : ∀ k row, row ∈ parts ls k → row.length = k
  | 0, row, h => by
    rw [parts, List.mem_singleton] at h
    rw [h]
    rfl
  | k + 1, row, h => by
    rw [parts, List.mem_flatMap] at h
    obtain ⟨r, hr, hm⟩ := h
    unfold ext at hm
    obtain ⟨o, _, rfl⟩ := List.mem_map.mp hm
    rw [List.length_append, parts_row k r hr]
    rfl
/-- tuples of numbers at these places -/
def RsT (H : Hp) (us : List Addr) (rows : List (List Nat)) : Prop := us.length = rows.length ∧ ∀ (j : Nat) (u : Addr) (r : List Nat), us[j]? = some u → rows[j]? = some r → H u = some (.tup (VI r))
theorem RsT.same {H H' : Hp} {us : List Addr} {rows : List (List Nat)} (t : RsT H us rows) (s : Same H H') : RsT H' us rows := ⟨t.1, fun j u r e1 e2 => s _ _ (t.2 j u r e1 e2)⟩
theorem RsT.nil {H : Hp} : RsT H [] [] := ⟨rfl, fun _ _ _ e => by simp at e⟩
theorem RsT.put {H : Hp} {D : Addr} {xs : List V} {o : HO} {us : List Addr} {rows : List (List Nat)} (t : RsT H us rows) (e : H D = some (.lst xs)) : RsT (upd H D o) us rows := ⟨t.1, fun j u r e1 e2 => by
  have e3 := t.2 j u r e1 e2
  rw [upd_ne (fun z => by rw [z, e] at e3; cases e3)]
  exact e3⟩
theorem RsT.app {H : Hp} {us us' : List Addr} {rows rows' : List (List Nat)} (t : RsT H us rows) (t' : RsT H us' rows') : RsT H (us ++ us') (rows ++ rows') := by
  refine ⟨by rw [List.length_append, List.length_append, t.1, t'.1], fun j u r e1 e2 => ?_⟩
  by_cases c : j < us.length
  · rw [List.getElem?_append_left c] at e1
    rw [List.getElem?_append_left (by rw [← t.1]; exact c)] at e2
    exact t.2 j u r e1 e2
  · rw [List.getElem?_append_right (by omega)] at e1
    rw [List.getElem?_append_right (by rw [← t.1]; omega), ← t.1] at e2
    exact t'.2 _ u r e1 e2
theorem RsT.one {H : Hp} {u : Addr} {r : List Nat} (e : H u = some (.tup (VI r))) : RsT H [u] [r] := ⟨rfl, fun j v q e1 e2 => by
  rw [List.getElem?_singleton] at e1 e2
  split at e1
  · rename_i c
    subst c
    cases e1
    cases e2
    exact e
  · cases e1⟩
theorem RsT.at {H : Hp} {us : List Addr} {rows : List (List Nat)} {j : Nat} {x : V} (t : RsT H us rows) (e : (us.map V.ref)[j]? = some x) : ∃ u r, x = .ref u ∧ rows[j]? = some r ∧ H u = some (.tup (VI r)) := by
  rw [List.getElem?_map] at e
  cases h : us[j]? with
  | none => rw [h] at e; cases e
  | some u =>
    rw [h] at e
    have hj := (List.getElem?_eq_some_iff.mp h).1
    have hr : j < rows.length := by rw [← t.1]; exact hj
    exact ⟨u, rows[j], (Option.some.inj e).symm, List.getElem?_eq_getElem hr, t.2 j u _ h (List.getElem?_eq_getElem hr)⟩
theorem catA {K : PySem.W.Frag} {H : Hp} {a b : Addr} {s t : List Nat} {Q : VK} (ea : Tp H a (VI s)) (eb : H b = some (.tup (VI t))) (nt : t ≠ []) (le : s.length + t.length ≤ 1000) (q : ∀ c H', Same H H' → H' c = some (.tup (VI (s ++ t))) → Q (.ref c) H') : rCatA K (.ref a) (.ref b) H Q := by
  refine ⟨a, b, VI s, VI t, rfl, rfl, ea.sq, SqT.of eb, by rw [VI_len, VI_len]; exact sz5 (by omega), fun h => ?_, fun _ h => ?_, fun _ _ p np => q p _ (same_upd np) (by rw [upd_same, VI_app])⟩
  · have : s = [] := by
      cases s with
      | nil => rfl
      | cons x r => cases h
    subst this
    exact q b H same_rfl eb
  · exfalso
    cases t with
    | nil => exact nt rfl
    | cons x r => cases h
def spPartings : Sp := fun vs H Q _ => ∃ (a : Addr) (ls : List (List Nat)), vs = [.ref a] ∧ LT H a ls ∧ Few ls ∧ ListsOk ls.length ls ∧ ∀ r us H', Same H H' → H' r = some (.lst (us.map V.ref)) → RsT H' us (parts ls ls.length) → Q (.ref r) H'
theorem la_len {ls : List (List Nat)} (ok : ListsOk ls.length ls) (k : Nat) : (la ls k).length ≤ ls.length := by
  by_cases c : k < ls.length
  · exact ok.each (la_get c)
  · unfold la
    rw [List.getD_eq_getElem?_getD, List.getElem?_eq_none (by omega)]
    exact Nat.zero_le _
end K14
namespace K14
open PySem PySem.Spec PyProof.Rows L2
section
variable {P : Program} {w : World} {K : PySem.W.Frag} {mg : Str → Option Value} {base : Heap}
end
end K14
namespace K14
open PySem PySem.Spec PyProof.Rows L2
structure RowOk (n : Nat) (row : List Nat) : Prop where
  len : row.length = n
  nd : row.Nodup
  lt : ∀ j ∈ row, j < n
def befI (row : List Nat) (i j : Nat) : Option Nat := if j ∈ row.take i ∧ row.idxOf j ≠ j then some (row.idxOf j) else none
def bef (row : List Nat) (j : Nat) : Option Nat := if j ∈ row ∧ row.idxOf j ≠ j then some (row.idxOf j) else none
def befs (row : List Nat) : List (Option Nat) := (List.range row.length).map (bef row)
def nxt (row : List Nat) (p : Nat) : Option Nat := if row.getD p p = p then none else some (row.getD p p)
def nxts (row : List Nat) : List (Option Nat) := (List.range row.length).map (nxt row)
def spBefore : Sp := fun vs H Q _ => ∃ (t : Addr) (n : Nat) (row : List Nat), vs = [.ref t] ∧ H t = some (.tup (VI row)) ∧ RowOk n row ∧ n ≤ 100 ∧ ∀ r H', Same H H' → H' r = some (.tup (VH (befs row))) → Q (.ref r) H'
def spNext : Sp := fun vs H Q _ => ∃ (t : Addr) (n : Nat) (row : List Nat), vs = [.ref t] ∧ H t = some (.tup (VI row)) ∧ RowOk n row ∧ n ≤ 100 ∧ ∀ r H', Same H H' → H' r = some (.tup (VH (nxts row))) → Q (.ref r) H'
theorem idx_at {row : List Nat} (nd : row.Nodup) {i x : Nat} (e : row[i]? = some x) : row.idxOf x = i := by
  have hm := List.mem_of_getElem? e
  have hl := List.idxOf_lt_length_of_mem hm
  exact nodup_ix nd (by rw [List.getElem?_eq_getElem hl, List.getElem_idxOf]) e
theorem befI_succ {row : List Nat} (nd : row.Nodup) {i x : Nat} (e : row[i]? = some x) (j : Nat) : befI row (i + 1) j = if x ≠ i ∧ j = x then some i else befI row i j := by
  unfold befI
  have tk : row.take (i + 1) = row.take i ++ [x] := by
    rw [List.take_succ, e]
    rfl
  rw [tk]
  have ix := idx_at nd e
  by_cases c : j = x
  · subst c
    rw [ix]
    by_cases d : j = i
    · have hn : j ∉ row.take i := by
        intro h
        obtain ⟨k, hk, ek⟩ := List.mem_iff_getElem.mp h
        rw [List.getElem_take] at ek
        rw [List.length_take] at hk
        have := nodup_ix nd (show row[k]? = some j by rw [List.getElem?_eq_getElem (by omega), ek]) e
        omega
      rw [if_neg (fun h => h.2 d.symm), if_neg (fun h => h.1 d), if_neg (fun h => hn h.1)]
    · rw [if_pos ⟨by simp, fun h => d h.symm⟩, if_pos ⟨d, rfl⟩]
  · rw [if_neg (fun (h : x ≠ i ∧ j = x) => c h.2)]
    by_cases d : j ∈ row.take i ∧ row.idxOf j ≠ j
    · rw [if_pos ⟨by simp [d.1], d.2⟩, if_pos d]
    · rw [if_neg d, if_neg (fun h => d ⟨by simpa [c] using h.1, h.2⟩)]
section
variable {P : Program} {w : World} {K : PySem.W.Frag} {mg : Str → Option Value} {base : Heap}
end
end K14
namespace K14
open PySem PySem.Spec PyProof.Rows L2
structure PRow (ls : List (List Nat)) (row : List Nat) : Prop where
  ok : RowOk ls.length row
  on : ∀ (i x : Nat), row[i]? = some x → x ∈ la ls i ∨ x = i
theorem nodup_snoc {row : List Nat} {o : Nat} (h : row.Nodup) (n : o ∉ row) : (row ++ [o]).Nodup := by
  rw [List.nodup_append]
  refine ⟨h, by simp, fun x hx y hy e => ?_⟩
  rw [List.mem_singleton.mp hy] at e
  subst e
  exact n hx
theorem parts_ok {ls : List (List Nat)} : ∀ k row, row ∈ parts ls k → row.length = k ∧ row.Nodup ∧ ∀ (i x : Nat), row[i]? = some x → x ∈ la ls i ∨ x = i
  | 0, row, h => by
    rw [parts, List.mem_singleton] at h
    subst h
    exact ⟨rfl, List.nodup_nil, fun i x e => by simp at e⟩
  | k + 1, row, h => by
    rw [parts, List.mem_flatMap] at h
    obtain ⟨r, hr, hm⟩ := h
    unfold ext at hm
    obtain ⟨o, ho, rfl⟩ := List.mem_map.mp hm
    obtain ⟨h1, h2, h3⟩ := parts_ok k r hr
    rw [List.mem_filter, decide_eq_true_eq] at ho
    refine ⟨by simp [h1], nodup_snoc h2 ho.2, fun i x e => ?_⟩
    by_cases c : i < r.length
    · rw [List.getElem?_append_left c] at e
      exact h3 i x e
    · rw [List.getElem?_append_right (by omega), List.getElem?_singleton] at e
      split at e
      · cases e
        have : i = k := by omega
        subst this
        rcases List.mem_append.mp ho.1 with h | h
        · exact .inl h
        · exact .inr (List.mem_singleton.mp h)
      · cases e
theorem parts_all {ls : List (List Nat)} : ∀ (k : Nat) (row : List Nat), row.length = k → row.Nodup → (∀ (i x : Nat), row[i]? = some x → x ∈ la ls i ∨ x = i) → row ∈ parts ls k
  | 0, row, h, _, _ => by
    rw [parts, List.mem_singleton]
    exact List.eq_nil_of_length_eq_zero h
  | k + 1, row, h, nd, on => by
    rcases list_end row with rfl | ⟨r, o, rfl⟩
    · simp at h
    · rw [parts, List.mem_flatMap]
      have lr : r.length = k := by simpa using h
      rw [List.nodup_append] at nd
      refine ⟨r, parts_all k r lr nd.1 (fun i x e => on i x (by rw [List.getElem?_append_left (List.getElem?_eq_some_iff.mp e).1]; exact e)), ?_⟩
      unfold ext
      refine List.mem_map.mpr ⟨o, ?_, rfl⟩
      rw [List.mem_filter, decide_eq_true_eq]
      refine ⟨?_, fun hm => nd.2.2 o hm o (by simp) rfl⟩
      have := on k o (by rw [List.getElem?_append_right (by omega), lr]; simp)
      rcases this with h | h
      · exact List.mem_append.mpr (.inl h)
      · exact List.mem_append.mpr (.inr (by rw [h]; simp))
theorem parts_row_ok {ls : List (List Nat)} (ok : ListsOk ls.length ls) {row : List Nat} (h : row ∈ parts ls ls.length) : PRow ls row := by
  obtain ⟨h1, h2, h3⟩ := parts_ok _ _ h
  refine ⟨⟨h1, h2, fun j hj => ?_⟩, h3⟩
  obtain ⟨i, hi, e⟩ := List.mem_iff_getElem.mp hj
  have hi' : i < ls.length := by omega
  rcases h3 i j (by rw [List.getElem?_eq_getElem hi, e]) with h | h
  · exact (ok.mate hi' h).1
  · omega
theorem befs_get {row : List Nat} {p : Nat} (h : p < row.length) : ha (befs row) p = bef row p := by
  unfold ha befs
  rw [List.getD_eq_getElem?_getD, List.getElem?_map, List.getElem?_range h]
  rfl
theorem nxts_get {row : List Nat} {p : Nat} (h : p < row.length) : ha (nxts row) p = nxt row p := by
  unfold ha nxts
  rw [List.getD_eq_getElem?_getD, List.getElem?_map, List.getElem?_range h]
  rfl
theorem ha_lt {hs : List (Option Nat)} {p j : Nat} (e : ha hs p = some j) : p < hs.length := by
  unfold ha at e
  rw [List.getD_eq_getElem?_getD] at e
  by_cases c : p < hs.length
  · exact c
  · rw [List.getElem?_eq_none (by omega)] at e
    cases e
theorem bef_some {row : List Nat} {j i : Nat} (e : bef row j = some i) : row[i]? = some j ∧ i ≠ j := by
  unfold bef at e
  split at e
  · rename_i h
    cases e
    have hl := List.idxOf_lt_length_of_mem h.1
    exact ⟨by rw [List.getElem?_eq_getElem hl, List.getElem_idxOf], h.2⟩
  · cases e
theorem befs_ok {ls : List (List Nat)} (ok : ListsOk ls.length ls) {row : List Nat} (r : PRow ls row) : HoldsOk ls (befs row) := by
  refine ⟨by simp [befs, r.ok.len], fun p j e => ?_⟩
  have hp : p < row.length := by
    have := ha_lt e
    simpa [befs] using this
  rw [befs_get hp] at e
  obtain ⟨h1, h2⟩ := bef_some e
  have hj : j < ls.length := by
    have := (List.getElem?_eq_some_iff.mp h1).1
    rw [r.ok.len] at this
    exact this
  refine ⟨by rw [← r.ok.len]; exact hp, ?_⟩
  rcases r.on j p h1 with h | h
  · exact (ok.mate hj h).2.2
  · exact absurd h.symm h2
theorem nxts_ok {ls : List (List Nat)} {row : List Nat} (r : PRow ls row) : HoldsOk ls (nxts row) := by
  refine ⟨by simp [nxts, r.ok.len], fun p j e => ?_⟩
  have hp : p < row.length := by
    have := ha_lt e
    simpa [nxts] using this
  rw [nxts_get hp] at e
  unfold nxt at e
  split at e
  · cases e
  · rename_i h
    cases e
    have hx : row[p]? = some (row.getD p p) := by
      rw [List.getD_eq_getElem?_getD, List.getElem?_eq_getElem hp]
      rfl
    refine ⟨by rw [← r.ok.len]; exact hp, ?_⟩
    rcases r.on p _ hx with h' | h'
    · exact h'
    · exact absurd h' h
/-- nobody would rather have the one before than the next one, and no two bar -/
def Fit1 (ls : List (List Nat)) (row : List Nat) (es : List (Option Nat)) (p : Nat) : Prop :=
  ¬ (most ls (befs row) p < most ls (nxts row) p) ∧ ∀ o ∈ la ls p, ¬ ((la ls p).idxOf o < most ls es p ∧ (la ls o).idxOf p < most ls (befs row) o)
def Fits (ls : List (List Nat)) (row : List Nat) (es : List (Option Nat)) : Prop := ∀ p < ls.length, Fit1 ls row es p
def spFits : Sp := fun vs H Q _ => ∃ (a t e : Addr) (ls : List (List Nat)) (row : List Nat) (es : List (Option Nat)), vs = [.ref a, .ref t, .ref e] ∧ LX H a ls ∧ ListsOk ls.length ls ∧ ls.length ≤ 100 ∧ H t = some (.tup (VI row)) ∧ PRow ls row ∧ H e = some (.tup (VH es)) ∧ HoldsOk ls es ∧
  ∀ (b : Bool) H', Same H H' → (b = true ↔ Fits ls row es) → Q (.bl b) H'
section
variable {P : Program} {w : World} {K : PySem.W.Frag} {mg : Str → Option Value} {base : Heap}
end
end K14
namespace K14
open PySem PySem.Spec PyProof.Rows L2
/-! ### the mathematics of steady holds -/
theorem head_min : ∀ {s : List Nat} {g : Nat → Bool} {j o : Nat}, (s.filter g).head? = some j → o ∈ s.filter g → s.idxOf j ≤ s.idxOf o
  | [], g, j, o, h, _ => by simp at h
  | a :: t, g, j, o, h, ho => by
    rw [List.filter_cons] at h ho
    by_cases c : g a = true
    · rw [if_pos c] at h
      have e : a = j := by simpa using h
      subst e
      simp
    · rw [if_neg c] at h ho
      have ih := head_min h ho
      have hj : j ≠ a := fun e => by
        have := List.mem_of_mem_head? (show j ∈ (t.filter g).head? from h)
        rw [List.mem_filter, e] at this
        exact c this.2
      have ho' : o ≠ a := fun e => by
        rw [List.mem_filter, e] at ho
        exact c ho.2
      have e1 : (a == j) = false := beq_eq_false_iff_ne.mpr (Ne.symm hj)
      have e2 : (a == o) = false := beq_eq_false_iff_ne.mpr (Ne.symm ho')
      rw [List.idxOf_cons, List.idxOf_cons, e1, e2]
      show t.idxOf j + 1 ≤ t.idxOf o + 1
      omega
def fst (ls : List (List Nat)) (hs : List (Option Nat)) (p : Nat) : Option Nat := (leftL ls hs p).head?
theorem ha_firsts {ls : List (List Nat)} {hs : List (Option Nat)} {p : Nat} (h : p < ls.length) : ha (firsts ls hs) p = fst ls hs p := by
  unfold ha firsts fst
  rw [List.getD_eq_getElem?_getD, List.getElem?_map, List.getElem?_range h]
  rfl
section
variable {ls : List (List Nat)} {hs : List (Option Nat)} (ok : ListsOk ls.length ls)
include ok in
theorem leftL_filter {p : Nat} (hp : p < ls.length) : leftL ls hs p = (la ls p).filter (fun o => decide ((la ls p).idxOf o ≤ most ls hs p) && keepF ls hs p o) := by
  have tf := take_filter (ok.nda hp) (most ls hs p)
  unfold leftL
  rw [← tf, List.filter_filter]
  refine List.filter_congr fun x _ => ?_
  rw [Bool.and_comm]
theorem fst_mem {p j : Nat} (e : fst ls hs p = some j) : j ∈ leftL ls hs p := List.mem_of_mem_head? (show j ∈ (leftL ls hs p).head? from e)
include ok in
theorem fst_min {p j o : Nat} (hp : p < ls.length) (e : fst ls hs p = some j) (ho : o ∈ leftL ls hs p) : (la ls p).idxOf j ≤ (la ls p).idxOf o := by
  unfold fst at e
  rw [leftL_filter ok hp] at e ho
  exact head_min e ho
theorem fst_none {p : Nat} : fst ls hs p = none ↔ leftL ls hs p = [] := by
  unfold fst
  rw [List.head?_eq_none_iff]
include ok in
theorem left_sym {p o : Nat} (hp : p < ls.length) (h : o ∈ leftL ls hs p) : o < ls.length ∧ p ∈ leftL ls hs o := by
  obtain ⟨h1, h2, h3⟩ := (mem_left ok hp).mp h
  obtain ⟨k1, k2, k3⟩ := ok.mate hp h1
  exact ⟨k1, (mem_left ok k1).mpr ⟨k3, h3, h2⟩⟩
theorem idx_inj {p a b : Nat} (h1 : a ∈ la ls p) (h2 : b ∈ la ls p) (e : (la ls p).idxOf a = (la ls p).idxOf b) : a = b := by
  have l1 := List.idxOf_lt_length_of_mem h1
  have l2 := List.idxOf_lt_length_of_mem h2
  have e1 : (la ls p)[(la ls p).idxOf a]? = some a := by rw [List.getElem?_eq_getElem l1, List.getElem_idxOf]
  have e2 : (la ls p)[(la ls p).idxOf b]? = some b := by rw [List.getElem?_eq_getElem l2, List.getElem_idxOf]
  rw [e] at e1
  rw [e1] at e2
  exact Option.some.inj e2
/-- steady: whom one holds has one as its first one, and the other way round -/
structure Std (ls : List (List Nat)) (hs : List (Option Nat)) : Prop where
  a : ∀ p j, p < ls.length → ha hs p = some j → fst ls hs j = some p
  b : ∀ p j, p < ls.length → fst ls hs p = some j → ha hs j = some p
theorem hitB_iff {xs : List (Option Nat)} {o : Option Nat} {p : Nat} : hitB xs o p = true ↔ ∀ j, o = some j → ha xs j = some p := by
  cases o with
  | none => exact ⟨fun _ j e => (by cases e), fun _ => rfl⟩
  | some j =>
    unfold hitB
    rw [decide_eq_true_eq]
    exact ⟨fun h k e => (by cases e; exact h), fun h => h j rfl⟩
include ok in
theorem steadyB_iff (ho : HoldsOk ls hs) : steadyB ls hs = true ↔ Std ls hs := by
  unfold steadyB
  rw [Bool.and_eq_true, List.all_eq_true, List.all_eq_true]
  constructor
  · rintro ⟨h1, h2⟩
    refine ⟨fun p j hp e => ?_, fun p j hp e => ?_⟩
    · have := hitB_iff.mp (h1 p (List.mem_range.mpr hp)) j e
      have hj := (ok.mate hp (ho.on p j e).2).1
      rw [ha_firsts hj] at this
      exact this
    · exact hitB_iff.mp (h2 p (List.mem_range.mpr hp)) j (by rw [ha_firsts hp]; exact e)
  · intro h
    refine ⟨fun p hp => hitB_iff.mpr fun j e => ?_, fun p hp => hitB_iff.mpr fun j e => ?_⟩
    · have hp' := List.mem_range.mp hp
      have hj := (ok.mate hp' (ho.on p j e).2).1
      rw [ha_firsts hj]
      exact h.a p j hp' e
    · have hp' := List.mem_range.mp hp
      rw [ha_firsts hp'] at e
      exact h.b p j hp' e
theorem most_some {p j : Nat} (e : ha hs p = some j) : most ls hs p = (la ls p).idxOf j := by
  unfold most
  rw [e]
  rfl
theorem most_none {p : Nat} (e : ha hs p = none) : most ls hs p = (la ls p).length := by
  unfold most
  rw [e]
  rfl
theorem nodup_sub_len : ∀ {s t : List Nat}, s.Nodup → (∀ x ∈ s, x ∈ t) → s.length ≤ t.length
  | [], t, _, _ => Nat.zero_le _
  | a :: r, t, nd, h => by
    have h1 := nodup_sub_len (s := r) (t := t.erase a) (List.nodup_cons.mp nd).2 fun x hx => by
      have ne : x ≠ a := fun e => (List.nodup_cons.mp nd).1 (e ▸ hx)
      exact (List.mem_erase_of_ne ne).mpr (h x (by simp [hx]))
    have h2 := List.length_erase_of_mem (h a (by simp))
    have h3 : 0 < t.length := List.length_pos_of_mem (h a (by simp))
    rw [List.length_cons]
    omega
/-- pigeons -/
theorem pigeon : ∀ {n : Nat} {A B : Nat → Prop} [DecidablePred A] [DecidablePred B] (f : Nat → Nat), (∀ p < n, A p → f p < n ∧ B (f p)) → (∀ p q, p < n → q < n → A p → A q → f p = f q → p = q) → (∀ p, B p → A p) → ∀ p < n, A p → B p := by
  intro n A B _ _ f h1 h2 h3 p hp ha
  refine Classical.byContradiction fun hb => ?_
  have sub : ((List.range n).filter fun x => decide (A x)).length ≤ ((List.range n).filter fun x => decide (B x)).length := by
    have hm : (((List.range n).filter fun x => decide (A x)).map f).Nodup := by
      refine List.pairwise_map.mpr (List.Pairwise.imp_of_mem ?_ (List.Pairwise.filter _ (List.nodup_range (n := n))))
      intro x y hx hy ne e
      rw [List.mem_filter, List.mem_range, decide_eq_true_eq] at hx hy
      exact ne (h2 x y hx.1 hy.1 hx.2 hy.2 e)
    have := nodup_sub_len hm (t := (List.range n).filter fun x => decide (B x)) fun y hy => by
      obtain ⟨x, hx, rfl⟩ := List.mem_map.mp hy
      rw [List.mem_filter, List.mem_range, decide_eq_true_eq] at hx
      rw [List.mem_filter, List.mem_range, decide_eq_true_eq]
      exact h1 x hx.1 hx.2
    rwa [List.length_map] at this
  have less : (p :: ((List.range n).filter fun x => decide (B x))).length ≤ ((List.range n).filter fun x => decide (A x)).length := by
    refine nodup_sub_len ?_ fun y hy => ?_
    · rw [List.nodup_cons]
      refine ⟨fun h => ?_, List.Pairwise.filter _ (List.nodup_range (n := n))⟩
      rw [List.mem_filter, decide_eq_true_eq] at h
      exact hb h.2
    · rw [List.mem_filter, List.mem_range, decide_eq_true_eq]
      rcases List.mem_cons.mp hy with rfl | h
      · exact ⟨hp, ha⟩
      · rw [List.mem_filter, List.mem_range, decide_eq_true_eq] at h
        exact ⟨h.1, h3 y h.2⟩
  rw [List.length_cons] at less
  omega
end
end K14
namespace K14
open PySem PySem.Spec PyProof.Rows L2
section
variable {ls : List (List Nat)} {hs : List (Option Nat)} (ok : ListsOk ls.length ls)
include ok in
/-- in steady holds just those hold somebody who have somebody left -/
theorem std_held (ho : HoldsOk ls hs) (st : Std ls hs) {p : Nat} (hp : p < ls.length) : (ha hs p ≠ none ↔ leftL ls hs p ≠ []) := by
  have lt : ∀ p j, p < ls.length → ha hs p = some j → j < ls.length := fun p j hp e => (ok.mate hp (ho.on p j e).2).1
  have one : ∀ p, p < ls.length → ha hs p ≠ none → leftL ls hs p ≠ [] := fun p hp h => by
    cases e : ha hs p with
    | none => exact absurd e h
    | some j =>
      have h1 := fst_mem (st.a p j hp e)
      have h2 := (left_sym ok (lt p j hp e) h1).2
      exact List.ne_nil_of_mem h2
  refine ⟨one p hp, fun h => ?_⟩
  have key := pigeon (n := ls.length) (A := fun p => p < ls.length ∧ leftL ls hs p ≠ []) (B := fun p => p < ls.length ∧ ha hs p ≠ none) (fun p => (fst ls hs p).getD 0) (fun p hp h => ?_) (fun p q hp hq h1 h2 e => ?_) (fun p h => ⟨h.1, one p h.1 h.2⟩) p hp ⟨hp, h⟩
  · exact key.2
  · cases e : fst ls hs p with
    | none => exact absurd (fst_none.mp e) h.2
    | some j =>
      have hj := (left_sym ok hp (fst_mem e)).1
      refine ⟨hj, hj, ?_⟩
      show ha hs j ≠ none
      rw [st.b p j hp e]
      exact fun z => by cases z
  · cases e1 : fst ls hs p with
    | none => exact absurd (fst_none.mp e1) h1.2
    | some j =>
      cases e2 : fst ls hs q with
      | none => exact absurd (fst_none.mp e2) h2.2
      | some k =>
        rw [e1, e2] at e
        have : j = k := e
        subst this
        have a1 := st.b p j hp e1
        have a2 := st.b q j hq e2
        rw [a1] at a2
        exact Option.some.inj a2
def rowOf (ls : List (List Nat)) (hs : List (Option Nat)) : List Nat := (List.range ls.length).map fun p => (fst ls hs p).getD p
theorem rowOf_at {p : Nat} (hp : p < ls.length) : (rowOf ls hs)[p]? = some ((fst ls hs p).getD p) := by
  unfold rowOf
  rw [List.getElem?_map, List.getElem?_range hp]
  rfl
theorem rowOf_len : (rowOf ls hs).length = ls.length := by simp [rowOf]
include ok in
theorem row_parts (ho : HoldsOk ls hs) (st : Std ls hs) : rowOf ls hs ∈ parts ls ls.length := by
  have inj : ∀ p q, p < ls.length → q < ls.length → (fst ls hs p).getD p = (fst ls hs q).getD q → p = q := by
    intro p q hp hq e
    cases e1 : fst ls hs p with
    | none =>
      cases e2 : fst ls hs q with
      | none => rw [e1, e2] at e; exact e
      | some k =>
        rw [e1, e2] at e
        have e' : p = k := e
        have hk := st.b q k hq e2
        rw [← e'] at hk
        exact absurd (fst_none.mp e1) ((std_held ok ho st hp).mp (by rw [hk]; exact fun z => by cases z))
    | some j =>
      cases e2 : fst ls hs q with
      | none =>
        rw [e1, e2] at e
        have e' : j = q := e
        have hj := st.b p j hp e1
        rw [e'] at hj
        exact absurd (fst_none.mp e2) ((std_held ok ho st hq).mp (by rw [hj]; exact fun z => by cases z))
      | some k =>
        rw [e1, e2] at e
        have e' : j = k := e
        subst e'
        have a1 := st.b p j hp e1
        have a2 := st.b q j hq e2
        rw [a1] at a2
        exact Option.some.inj a2
  refine parts_all _ _ rowOf_len ?_ fun i x e => ?_
  · unfold rowOf
    refine List.pairwise_map.mpr (List.Pairwise.imp_of_mem ?_ (List.nodup_range (n := ls.length)))
    intro p q hp hq ne e
    exact ne (inj p q (List.mem_range.mp hp) (List.mem_range.mp hq) e)
  · have hi : i < ls.length := by
      have := (List.getElem?_eq_some_iff.mp e).1
      rwa [rowOf_len] at this
    rw [rowOf_at hi] at e
    have e := Option.some.inj e
    cases e1 : fst ls hs i with
    | none => rw [e1] at e; exact .inr e.symm
    | some j =>
      rw [e1] at e
      have : j = x := e
      subst this
      exact .inl ((mem_left ok hi).mp (fst_mem e1)).1
theorem bef_iff {row : List Nat} (nd : row.Nodup) {j i : Nat} : bef row j = some i ↔ row[i]? = some j ∧ i ≠ j := by
  refine ⟨bef_some, fun h => ?_⟩
  unfold bef
  have hm := List.mem_of_getElem? h.1
  have ix := idx_at nd h.1
  rw [if_pos ⟨hm, by rw [ix]; exact h.2⟩, ix]
theorem opt_ext {a b : Option Nat} (h : ∀ x, a = some x ↔ b = some x) : a = b := by
  cases a with
  | none =>
    cases b with
    | none => rfl
    | some y => exact absurd ((h y).mpr rfl) (fun z => by cases z)
  | some x => exact ((h x).mp rfl).symm
include ok in
theorem row_bef (ho : HoldsOk ls hs) (st : Std ls hs) {j : Nat} (hj : j < ls.length) : bef (rowOf ls hs) j = ha hs j := by
  have pr := parts_row_ok ok (row_parts ok ho st)
  refine opt_ext fun i => ?_
  rw [bef_iff pr.ok.nd]
  constructor
  · rintro ⟨h1, h2⟩
    have hi : i < ls.length := by
      have := (List.getElem?_eq_some_iff.mp h1).1
      rwa [rowOf_len] at this
    rw [rowOf_at hi] at h1
    have h1 := Option.some.inj h1
    cases e : fst ls hs i with
    | none => rw [e] at h1; exact absurd h1 h2
    | some k =>
      rw [e] at h1
      have : k = j := h1
      subst this
      exact st.b i k hi e
  · intro e
    have hi := (ok.mate hj (ho.on j i e).2)
    refine ⟨?_, hi.2.1⟩
    rw [rowOf_at hi.1, st.a j i hj e]
    rfl
theorem row_nxt {p : Nat} (ok : ListsOk ls.length ls) (hp : p < ls.length) : nxt (rowOf ls hs) p = fst ls hs p := by
  unfold nxt
  have e : (rowOf ls hs).getD p p = (fst ls hs p).getD p := by
    rw [List.getD_eq_getElem?_getD, rowOf_at hp]
    rfl
  rw [e]
  cases e1 : fst ls hs p with
  | none => exact if_pos rfl
  | some j =>
    have := (ok.mate hp ((mem_left ok hp).mp (fst_mem e1)).1).2.1
    rw [if_neg (show ¬ (some j).getD p = p from this)]
    rfl
theorem most_eq {h1 h2 : List (Option Nat)} {p : Nat} (e : ha h1 p = ha h2 p) : most ls h1 p = most ls h2 p := by
  unfold most
  rw [e]
include ok in
theorem std_fits (ho : HoldsOk ls hs) (st : Std ls hs) : Fits ls (rowOf ls hs) (nxts (rowOf ls hs)) := by
  intro p hp
  have hb : ∀ q, q < ls.length → most ls (befs (rowOf ls hs)) q = most ls hs q := fun q hq => most_eq (by rw [befs_get (by rw [rowOf_len]; exact hq), row_bef ok ho st hq])
  have hn : ha (nxts (rowOf ls hs)) p = fst ls hs p := by rw [nxts_get (by rw [rowOf_len]; exact hp), row_nxt ok hp]
  refine ⟨?_, fun o hom => ?_⟩
  · rw [hb p hp]
    cases e : fst ls hs p with
    | none =>
      have h0 : ha hs p = none := Classical.byContradiction fun z => (std_held ok ho st hp).mp z (fst_none.mp e)
      rw [most_none h0, most_none (hn.trans e)]
      omega
    | some j =>
      rw [most_some (hn.trans e)]
      have := ((mem_left ok hp).mp (fst_mem e)).2.1
      omega
  · obtain ⟨k1, _, k3⟩ := ok.mate hp hom
    rw [hb o k1]
    rintro ⟨h1, h2⟩
    cases e : fst ls hs p with
    | none =>
      have h0 : ha hs p = none := Classical.byContradiction fun z => (std_held ok ho st hp).mp z (fst_none.mp e)
      have hl := List.idxOf_lt_length_of_mem hom
      have : o ∈ leftL ls hs p := (mem_left ok hp).mpr ⟨hom, by rw [most_none h0]; omega, by omega⟩
      rw [fst_none.mp e] at this
      cases this
    | some j =>
      rw [most_some (hn.trans e)] at h1
      have hj := ((mem_left ok hp).mp (fst_mem e)).2.1
      have : o ∈ leftL ls hs p := (mem_left ok hp).mpr ⟨hom, by omega, by omega⟩
      have := fst_min ok hp e this
      omega
include ok in
/-- a parting in which nobody bars tells steady holds -/
theorem fits_std {row : List Nat} (hr : row ∈ parts ls ls.length) (ft : Fits ls row (nxts row)) : Std ls (befs row) := by
  have pr := parts_row_ok ok hr
  have rl := pr.ok.len
  have hb : ∀ q, q < ls.length → ha (befs row) q = bef row q := fun q hq => befs_get (by rw [rl]; exact hq)
  have hn : ∀ q, q < ls.length → ha (nxts row) q = nxt row q := fun q hq => nxts_get (by rw [rl]; exact hq)
  have nx : ∀ p j, p < ls.length → (nxt row p = some j ↔ row[p]? = some j ∧ j ≠ p) := fun p j hp => by
    have e : row[p]? = some (row.getD p p) := by rw [List.getD_eq_getElem?_getD, List.getElem?_eq_getElem (by omega)]; rfl
    unfold nxt
    rw [e]
    by_cases c : row.getD p p = p
    · rw [if_pos c, c]
      exact ⟨fun z => (by cases z), fun z => absurd (Option.some.inj z.1).symm z.2⟩
    · rw [if_neg c]
      exact ⟨fun z => ⟨z, by rw [← Option.some.inj z]; exact c⟩, fun z => z.1⟩
  have bf : ∀ p j, (bef row j = some p ↔ row[p]? = some j ∧ p ≠ j) := fun p j => bef_iff pr.ok.nd
  have ff : ∀ p, p < ls.length → fst ls (befs row) p = nxt row p := by
    intro p hp
    have fp := ft p hp
    cases e : nxt row p with
    | none =>
      rw [fst_none]
      refine List.eq_nil_iff_forall_not_mem.mpr fun o hom => ?_
      obtain ⟨m1, m2, m3⟩ := (mem_left ok hp).mp hom
      obtain ⟨k1, k2, k3⟩ := ok.mate hp m1
      refine fp.2 o m1 ⟨?_, ?_⟩
      · rw [most_none ((hn p hp).trans e)]
        exact List.idxOf_lt_length_of_mem m1
      · refine Nat.lt_of_le_of_ne m3 fun z => ?_
        cases eo : bef row o with
        | none =>
          rw [most_none ((hb o k1).trans eo)] at z
          have := List.idxOf_lt_length_of_mem k3
          omega
        | some q =>
          rw [most_some ((hb o k1).trans eo)] at z
          obtain ⟨r1, r2⟩ := (bf q o).mp eo
          have qm : q ∈ la ls o := (befs_ok ok pr).on o q ((hb o k1).trans eo) |>.2
          have : p = q := idx_inj k3 qm z
          subst this
          have := (nx p o hp).mpr ⟨r1, Ne.symm r2⟩
          rw [e] at this
          cases this
    | some j =>
      obtain ⟨r1, r2⟩ := (nx p j hp).mp e
      have hbj : bef row j = some p := (bf p j).mpr ⟨r1, Ne.symm r2⟩
      have jm : j ∈ la ls p := (pr.on p j r1).resolve_right r2
      obtain ⟨j1, _, j3⟩ := ok.mate hp jm
      have nm := most_some (ls := ls) ((hn p hp).trans e)
      have bm := most_some (ls := ls) ((hb j j1).trans hbj)
      have jl : j ∈ leftL ls (befs row) p := (mem_left ok hp).mpr ⟨jm, by have := fp.1; rw [nm] at this; omega, by rw [bm]; omega⟩
      cases ef : fst ls (befs row) p with
      | none =>
        rw [fst_none.mp ef] at jl
        cases jl
      | some o =>
        congr 1
        have om := fst_mem ef
        obtain ⟨m1, m2, m3⟩ := (mem_left ok hp).mp om
        obtain ⟨k1, k2, k3⟩ := ok.mate hp m1
        have le := fst_min ok hp ef jl
        refine Classical.byContradiction fun ne => ?_
        have lt : (la ls p).idxOf o < (la ls p).idxOf j := Nat.lt_of_le_of_ne le fun z => ne (idx_inj m1 jm z)
        refine fp.2 o m1 ⟨by rw [nm]; exact lt, Nat.lt_of_le_of_ne m3 fun z => ?_⟩
        cases eo : bef row o with
        | none =>
          rw [most_none ((hb o k1).trans eo)] at z
          have := List.idxOf_lt_length_of_mem k3
          omega
        | some q =>
          rw [most_some ((hb o k1).trans eo)] at z
          obtain ⟨r3, r4⟩ := (bf q o).mp eo
          have qm : q ∈ la ls o := ((befs_ok ok pr).on o q ((hb o k1).trans eo)).2
          have : p = q := idx_inj k3 qm z
          subst this
          rw [r1] at r3
          exact ne (Option.some.inj r3).symm
  refine ⟨fun p j hp e => ?_, fun p j hp e => ?_⟩
  · rw [hb p hp] at e
    obtain ⟨r1, r2⟩ := (bf j p).mp e
    have hj : j < ls.length := by
      have := (List.getElem?_eq_some_iff.mp r1).1
      omega
    rw [ff j hj]
    exact (nx j p hj).mpr ⟨r1, Ne.symm r2⟩
  · rw [ff p hp] at e
    obtain ⟨r1, r2⟩ := (nx p j hp).mp e
    have hj := pr.ok.lt j (List.mem_of_getElem? r1)
    rw [hb j hj]
    exact (bf p j).mpr ⟨r1, Ne.symm r2⟩
end
end K14
namespace K14
open PySem PySem.Spec PyProof.Rows L2
/-! ### there are steady holds: asking ends -/
def sumM (ls : List (List Nat)) (hs : List (Option Nat)) : Nat := ((List.range ls.length).map (most ls hs)).sum
theorem sum_lt {n : Nat} {f g : Nat → Nat} (h : ∀ i < n, f i ≤ g i) {j : Nat} (hj : j < n) (lt : f j < g j) : ((List.range n).map f).sum < ((List.range n).map g).sum := by
  have le : ∀ m, m ≤ n → ((List.range m).map f).sum ≤ ((List.range m).map g).sum := by
    intro m
    induction m with
    | zero => intro _; exact Nat.le_refl _
    | succ m ih =>
      intro hm
      rw [List.range_succ, List.map_append, List.map_append, List.sum_append, List.sum_append]
      have := ih (by omega)
      have := h m (by omega)
      simp
      omega
  have key : ∀ m, m ≤ n → j < m → ((List.range m).map f).sum < ((List.range m).map g).sum := by
    intro m
    induction m with
    | zero => intro _ h; omega
    | succ m ih =>
      intro hm hjm
      rw [List.range_succ, List.map_append, List.map_append, List.sum_append, List.sum_append]
      have h1 := h m (by omega)
      by_cases c : j = m
      · subst c
        have := le j (by omega)
        simp
        omega
      · have := ih (by omega) (by omega)
        simp
        omega
  exact key n (Nat.le_refl _) hj
/-- holds in which whom one holds has one as its first one -/
structure Half (ls : List (List Nat)) (hs : List (Option Nat)) : Prop where
  ok : HoldsOk ls hs
  a : ∀ p j, p < ls.length → ha hs p = some j → fst ls hs j = some p
theorem ha_set {hs : List (Option Nat)} {j p q : Nat} (hj : j < hs.length) : ha (hs.set j (some p)) q = if q = j then some p else ha hs q := by
  unfold ha
  rw [List.getD_eq_getElem?_getD, List.getElem?_set, List.getD_eq_getElem?_getD]
  by_cases c : j = q
  · subst c
    rw [if_pos rfl, if_pos hj, if_pos rfl]
    rfl
  · rw [if_neg c, if_neg (fun z => c z.symm)]
section
variable {ls : List (List Nat)} {hs : List (Option Nat)} (ok : ListsOk ls.length ls)
include ok in
theorem ask (h : Half ls hs) {p j : Nat} (hp : p < ls.length) (e : fst ls hs p = some j) (free : ∀ q, q < ls.length → ha hs q ≠ some p) : Half ls (hs.set j (some p)) ∧ sumM ls (hs.set j (some p)) < sumM ls hs := by
  have jm := fst_mem e
  obtain ⟨m1, m2, m3⟩ := (mem_left ok hp).mp jm
  obtain ⟨j1, j2, j3⟩ := ok.mate hp m1
  have jl : j < hs.length := by rw [h.ok.len]; exact j1
  have hset := fun q => ha_set (hs := hs) (j := j) (p := p) (q := q) jl
  have mj : most ls (hs.set j (some p)) j = (la ls j).idxOf p := most_some (by rw [hset, if_pos rfl])
  have mo : ∀ q, q ≠ j → most ls (hs.set j (some p)) q = most ls hs q := fun q nq => most_eq (by rw [hset, if_neg nq])
  have lt : (la ls j).idxOf p < most ls hs j := by
    refine Nat.lt_of_le_of_ne m3 fun z => ?_
    cases ej : ha hs j with
    | none =>
      rw [most_none ej] at z
      have := List.idxOf_lt_length_of_mem j3
      omega
    | some q =>
      rw [most_some ej] at z
      have qm := (h.ok.on j q ej).2
      have : p = q := idx_inj j3 qm z
      subst this
      exact free j j1 ej
  have le : ∀ q, q < ls.length → most ls (hs.set j (some p)) q ≤ most ls hs q := fun q _ => by
    by_cases c : q = j
    · subst c
      rw [mj]
      omega
    · rw [mo q c]
      exact Nat.le_refl _
  have okk : HoldsOk ls (hs.set j (some p)) := by
    refine ⟨by rw [List.length_set]; exact h.ok.len, fun q k ek => ?_⟩
    rw [hset] at ek
    by_cases c : q = j
    · rw [if_pos c] at ek
      cases ek
      rw [c]
      exact ⟨j1, j3⟩
    · rw [if_neg c] at ek
      exact h.ok.on q k ek
  have sub : ∀ q o, q < ls.length → o ∈ leftL ls (hs.set j (some p)) q → o ∈ leftL ls hs q := fun q o hq ho => by
    obtain ⟨a1, a2, a3⟩ := (mem_left ok hq).mp ho
    have k1 := (ok.mate hq a1).1
    exact (mem_left ok hq).mpr ⟨a1, Nat.le_trans a2 (le q hq), Nat.le_trans a3 (le o k1)⟩
  -- whoever stays left and was the first one is so still
  have stay : ∀ q k, q < ls.length → fst ls hs q = some k → k ∈ leftL ls (hs.set j (some p)) q → fst ls (hs.set j (some p)) q = some k := fun q k hq eq hk => by
    cases e2 : fst ls (hs.set j (some p)) q with
    | none => rw [fst_none.mp e2] at hk; cases hk
    | some o =>
      have om := fst_mem e2
      have h1 := fst_min ok hq e2 hk
      have h2 := fst_min ok hq eq (sub q o hq om)
      have a1 := ((mem_left ok hq).mp om).1
      have a2 := ((mem_left ok hq).mp hk).1
      rw [idx_inj a1 a2 (by omega)]
  refine ⟨⟨okk, fun q k hq ek => ?_⟩, sum_lt (fun q hq => le q hq) j1 (by rw [mj]; exact lt)⟩
  rw [hset] at ek
  by_cases c : q = j
  · rw [if_pos c] at ek
    cases ek
    rw [c]
    refine stay p j hp e ((mem_left ok hp).mpr ⟨m1, ?_, by rw [mj]; exact Nat.le_refl _⟩)
    rw [mo p (fun z => j2 z.symm)]
    exact m2
  · rw [if_neg c] at ek
    have eq := h.a q k hq ek
    have kl := (ok.mate hq (h.ok.on q k ek).2).1
    have qm := fst_mem eq
    obtain ⟨b1, b2, b3⟩ := (mem_left ok kl).mp qm
    refine stay k q kl eq ((mem_left ok kl).mpr ⟨b1, ?_, by rw [mo q c]; exact b3⟩)
    by_cases d : k = j
    · subst d
      rw [mj]
      have := fst_min ok kl eq ((left_sym ok hp jm).2)
      exact this
    · rw [mo k d]
      exact b2
include ok in
theorem std_ex : ∀ (n : Nat) (hs : List (Option Nat)), Half ls hs → sumM ls hs ≤ n → ∃ hs', HoldsOk ls hs' ∧ Std ls hs' := by
  intro n
  induction n with
  | zero =>
    intro hs h hn
    by_cases c : ∃ p j, p < ls.length ∧ fst ls hs p = some j ∧ ∀ q, q < ls.length → ha hs q ≠ some p
    · obtain ⟨p, j, hp, e, fr⟩ := c
      have := (ask ok h hp e fr).2
      omega
    · refine ⟨hs, h.ok, h.a, fun p j hp e => ?_⟩
      refine Classical.byContradiction fun ne => c ⟨p, j, hp, e, fun q hq eq => ?_⟩
      have := h.a q p hq eq
      rw [e] at this
      cases this
      exact ne eq
  | succ n ih =>
    intro hs h hn
    by_cases c : ∃ p j, p < ls.length ∧ fst ls hs p = some j ∧ ∀ q, q < ls.length → ha hs q ≠ some p
    · obtain ⟨p, j, hp, e, fr⟩ := c
      obtain ⟨h1, h2⟩ := ask ok h hp e fr
      exact ih _ h1 (by omega)
    · refine ⟨hs, h.ok, h.a, fun p j hp e => ?_⟩
      refine Classical.byContradiction fun ne => c ⟨p, j, hp, e, fun q hq eq => ?_⟩
      have := h.a q p hq eq
      rw [e] at this
      cases this
      exact ne eq
include ok in
theorem steady_ex : ∃ row, row ∈ parts ls ls.length ∧ Fits ls row (nxts row) := by
  have h0 : Half ls (List.replicate ls.length none) := by
    have hn : ∀ q, ha (List.replicate ls.length (none : Option Nat)) q = none := fun q => by
      unfold ha
      rw [List.getD_eq_getElem?_getD, List.getElem?_replicate]
      split <;> rfl
    exact ⟨⟨by simp, fun p j e => by rw [hn] at e; cases e⟩, fun p j _ e => by rw [hn] at e; cases e⟩
  obtain ⟨hs, ho, st⟩ := std_ex ok _ _ h0 (Nat.le_refl _)
  exact ⟨rowOf ls hs, row_parts ok ho st, std_fits ok ho st⟩
include ok in
/-- which holds are steady: those before of the partings in which nobody bars -/
theorem steady_iff (ho : HoldsOk ls hs) : steadyB ls hs = true ↔ ∃ row, row ∈ parts ls ls.length ∧ Fits ls row (nxts row) ∧ befs row = hs := by
  rw [steadyB_iff ok ho]
  constructor
  · intro st
    refine ⟨rowOf ls hs, row_parts ok ho st, std_fits ok ho st, ?_⟩
    apply List.ext_getElem?
    intro j
    by_cases c : j < ls.length
    · rw [ha_get (hs := befs (rowOf ls hs)) (by simp [befs, rowOf_len]; exact c), ha_get (by rw [ho.len]; exact c), befs_get (by rw [rowOf_len]; exact c), row_bef ok ho st c]
    · rw [List.getElem?_eq_none (by simp [befs, rowOf_len]; omega), List.getElem?_eq_none (by rw [ho.len]; omega)]
  · rintro ⟨row, h1, h2, rfl⟩
    exact fits_std ok h1 h2
theorem last_max : ∀ {s : List Nat} {g : Nat → Bool} {j : Nat}, s.Nodup → j ∈ s.filter g → (∀ o ∈ s.filter g, s.idxOf o ≤ s.idxOf j) → (s.filter g).getLast? = some j
  | [], g, j, _, h, _ => by simp at h
  | a :: t, g, j, nd, h, mx => by
    have tail : ∀ o, o ≠ a → (a :: t).idxOf o = t.idxOf o + 1 := fun o no => by
      have e : (a == o) = false := beq_eq_false_iff_ne.mpr (Ne.symm no)
      rw [List.idxOf_cons, e]
      rfl
    have na : ∀ o ∈ t, o ≠ a := fun o ho z => (List.nodup_cons.mp nd).1 (z ▸ ho)
    rw [List.filter_cons] at h mx ⊢
    by_cases c : g a = true
    · rw [if_pos c] at h mx ⊢
      by_cases d : j = a
      · subst d
        have emp : t.filter g = [] := by
          refine List.eq_nil_iff_forall_not_mem.mpr fun o ho => ?_
          have h1 := mx o (by simp [ho])
          have ht := (List.mem_filter.mp ho).1
          rw [tail o (na o ht)] at h1
          simp at h1
        rw [emp]
        rfl
      · have hj : j ∈ t.filter g := by
          rcases List.mem_cons.mp h with z | z
          · exact absurd z d
          · exact z
        have ih := last_max (List.nodup_cons.mp nd).2 hj fun o ho => by
          have h1 := mx o (by simp [ho])
          rw [tail o (na o (List.mem_filter.mp ho).1), tail j d] at h1
          omega
        rw [List.getLast?_cons, ih]
        rfl
    · rw [if_neg c] at h mx ⊢
      exact last_max (List.nodup_cons.mp nd).2 h fun o ho => by
        have h1 := mx o ho
        rw [tail o (na o (List.mem_filter.mp ho).1), tail j (na j (List.mem_filter.mp h).1)] at h1
        omega
include ok in
/-- steady holds leave as last ones those that are held -/
theorem last_held (ho : HoldsOk ls hs) (st : Std ls hs) {p : Nat} (hp : p < ls.length) : (leftL ls hs p).getLast? = ha hs p := by
  cases e : ha hs p with
  | none =>
    have : leftL ls hs p = [] := Classical.byContradiction fun z => (std_held ok ho st hp).mpr z e
    rw [this]
    rfl
  | some j =>
    obtain ⟨_, jm⟩ := ho.on p j e
    obtain ⟨j1, _, j3⟩ := ok.mate hp jm
    have h1 := fst_mem (st.a p j hp e)
    have h2 := (left_sym ok j1 h1).2
    rw [leftL_filter ok hp] at h2 ⊢
    refine last_max (ok.nda hp) h2 fun o hom => ?_
    have := (List.mem_filter.mp hom).2
    rw [Bool.and_eq_true, decide_eq_true_eq, most_some e] at this
    exact this.1
end
end K14
namespace K14
open PySem PySem.Spec PyProof.Rows L2
/-! ### rings turned out: steady holds that leave somebody three or more have lesser ones -/
theorem min_ex (f : Nat → Nat) : ∀ (l : List Nat), l ≠ [] → ∃ m, m ∈ l ∧ ∀ o ∈ l, f m ≤ f o
  | [], h => absurd rfl h
  | [a], _ => ⟨a, by simp, fun o ho => by rw [List.mem_singleton.mp ho]; exact Nat.le_refl _⟩
  | a :: b :: t, _ => by
    obtain ⟨m, hm, h⟩ := min_ex f (b :: t) (by simp)
    by_cases c : f a ≤ f m
    · refine ⟨a, by simp, fun o ho => ?_⟩
      rcases List.mem_cons.mp ho with rfl | ho
      · exact Nat.le_refl _
      · exact Nat.le_trans c (h o ho)
    · refine ⟨m, List.mem_cons_of_mem _ hm, fun o ho => ?_⟩
      rcases List.mem_cons.mp ho with rfl | ho
      · omega
      · exact h o ho
section
variable {ls : List (List Nat)} {hs : List (Option Nat)} (ok : ListsOk ls.length ls)
include ok in
theorem left_nd {p : Nat} (hp : p < ls.length) : (leftL ls hs p).Nodup := by
  unfold leftL
  exact List.Pairwise.filter _ ((ok.nda hp).sublist (List.take_sublist _ _))
/-- the second one -/
structure Snd (ls : List (List Nat)) (hs : List (Option Nat)) (p s : Nat) : Prop where
  mem : s ∈ leftL ls hs p
  ne : fst ls hs p ≠ some s
  min : ∀ o ∈ leftL ls hs p, fst ls hs p ≠ some o → (la ls p).idxOf s ≤ (la ls p).idxOf o
include ok in
theorem snd_ex {p : Nat} (hp : p < ls.length) (h2 : 2 ≤ (leftL ls hs p).length) : ∃ s, Snd ls hs p s := by
  have nd := left_nd (hs := hs) ok hp
  cases e : leftL ls hs p with
  | nil => rw [e] at h2; simp at h2
  | cons a r =>
    have ef : fst ls hs p = some a := by unfold fst; rw [e]; rfl
    rw [e] at nd h2
    have hr : r ≠ [] := fun z => by rw [z] at h2; simp at h2
    obtain ⟨m, hm, hmin⟩ := min_ex (fun o => (la ls p).idxOf o) r hr
    refine ⟨m, by rw [e]; exact List.mem_cons_of_mem _ hm, fun z => ?_, fun o ho ne => ?_⟩
    · rw [ef] at z
      cases z
      exact (List.nodup_cons.mp nd).1 hm
    · rw [e] at ho
      rcases List.mem_cons.mp ho with rfl | ho
      · exact absurd ef ne
      · exact hmin o ho
theorem two_of {l : List Nat} {a b : Nat} (ha : a ∈ l) (hb : b ∈ l) (ne : a ≠ b) : 2 ≤ l.length := by
  have := nodup_sub_len (s := [a, b]) (t := l) (by simp [ne]) fun x hx => by
    rcases List.mem_cons.mp hx with rfl | hx
    · exact ha
    · rw [List.mem_singleton.mp hx]; exact hb
  simpa using this
theorem left_le {p o : Nat} {hs' : List (Option Nat)} (le : ∀ q, q < ls.length → most ls hs' q ≤ most ls hs q) (okk : ListsOk ls.length ls) (hp : p < ls.length) (h : o ∈ leftL ls hs' p) : o ∈ leftL ls hs p := by
  obtain ⟨a1, a2, a3⟩ := (mem_left okk hp).mp h
  exact (mem_left okk hp).mpr ⟨a1, Nat.le_trans a2 (le p hp), Nat.le_trans a3 (le o (okk.mate hp a1).1)⟩
/-- the giver behind: whom the second one holds -/
structure Giv (ls : List (List Nat)) (hs : List (Option Nat)) (p s q : Nat) : Prop where
  sn : Snd ls hs p s
  ps : p ∈ leftL ls hs s
  sl : s < ls.length
  held : ha hs s = some q
  fq : fst ls hs q = some s
  ql : q < ls.length
  ne : q ≠ p
  two : 2 ≤ (leftL ls hs q).length
include ok in
theorem giv_ex (ho : HoldsOk ls hs) (st : Std ls hs) {p : Nat} (hp : p < ls.length) (h2 : 2 ≤ (leftL ls hs p).length) : ∃ s q, Giv ls hs p s q := by
  obtain ⟨s, sn⟩ := snd_ex (hs := hs) ok hp h2
  obtain ⟨sl, ps⟩ := left_sym ok hp sn.mem
  have hne : ha hs s ≠ none := (std_held ok ho st sl).mpr (List.ne_nil_of_mem ps)
  cases eh : ha hs s with
  | none => exact absurd eh hne
  | some q =>
    have fq := st.a s q sl eh
    have ql := (ok.mate sl (ho.on s q eh).2).1
    have nq : q ≠ p := fun z => by
      rw [z] at fq
      exact sn.ne fq
    refine ⟨s, q, sn, ps, sl, eh, fq, ql, nq, ?_⟩
    -- whom q holds is not s
    have sq := fst_mem fq
    have hq : ha hs q ≠ none := (std_held ok ho st ql).mpr (List.ne_nil_of_mem sq)
    cases ek : ha hs q with
    | none => exact absurd ek hq
    | some k =>
      have kl := (ok.mate ql (ho.on q k ek).2).1
      have fk := st.a q k ql ek
      have kq := (left_sym ok kl (fst_mem fk)).2
      refine two_of sq kq fun z => ?_
      rw [← z] at fk
      -- then q is the first one of s, and the last one, but p is left, too
      have h1 := fst_min ok sl fk ps
      obtain ⟨m1, m2, m3⟩ := (mem_left ok sl).mp ps
      rw [most_some eh] at m2
      exact nq (idx_inj (ho.on s q eh).2 m1 (by omega))
end
end K14
namespace K14
open PySem PySem.Spec PyProof.Rows L2
/-- givers on rings: closed under the giver behind, each the giver behind of one, none barred -/
structure Rng (ls : List (List Nat)) (hs : List (Option Nat)) (s g : Nat → Nat) (X : Nat → Prop) : Prop where
  giv : ∀ p, X p → Giv ls hs p (s p) (g p)
  lt : ∀ p, X p → p < ls.length
  nx : ∀ p, X p → X (g p)
  pr : ∀ p, X p → ∃ z, X z ∧ g z = p
  inj : ∀ p z, X p → X z → g p = g z → p = z
  good : ∀ z, X z → X (s z) → fst ls hs (s z) ≠ some z
  ne : ∃ p, X p
section
variable {ls : List (List Nat)} {hs : List (Option Nat)} {s g : Nat → Nat} {X : Nat → Prop} (ok : ListsOk ls.length ls)
open Classical in
/-- the holds behind such a ring turned out -/
noncomputable def outOf (ls : List (List Nat)) (hs : List (Option Nat)) (s : Nat → Nat) (X : Nat → Prop) : List (Option Nat) :=
  (List.range ls.length).map fun y => if h : ∃ x, X x ∧ s x = y then some (Classical.choose h) else ha hs y
theorem out_at {y : Nat} (hy : y < ls.length) : ha (outOf ls hs s X) y = (open Classical in if h : ∃ x, X x ∧ s x = y then some (Classical.choose h) else ha hs y) := by
  unfold ha outOf
  rw [List.getD_eq_getElem?_getD, List.getElem?_map, List.getElem?_range hy]
  rfl
theorem out_yes (R : Rng ls hs s g X) {x : Nat} (hx : X x) : ha (outOf ls hs s X) (s x) = some x := by
  have G := R.giv x hx
  rw [out_at G.sl]
  have h : ∃ x', X x' ∧ s x' = s x := ⟨x, hx, rfl⟩
  rw [dif_pos h]
  have c := Classical.choose_spec h
  have G2 := R.giv _ c.1
  have e1 := G2.held
  rw [c.2, G.held] at e1
  rw [R.inj _ x c.1 hx (Option.some.inj e1).symm]
theorem out_no {y : Nat} (hy : y < ls.length) (h : ∀ x, X x → s x ≠ y) : ha (outOf ls hs s X) y = ha hs y := by
  rw [out_at hy, dif_neg (fun ⟨x, h1, h2⟩ => h x h1 h2)]
include ok in
theorem turn_full (ho : HoldsOk ls hs) (st : Std ls hs) (R : Rng ls hs s g X) : HoldsOk ls (outOf ls hs s X) ∧ Std ls (outOf ls hs s X) ∧ (∀ q, q < ls.length → most ls (outOf ls hs s X) q ≤ most ls hs q) ∧ sumM ls (outOf ls hs s X) < sumM ls hs ∧
    (∀ x, X x → fst ls (outOf ls hs s X) x = some (s x)) ∧ ∀ p f, p < ls.length → ¬ X p → fst ls hs p = some f → fst ls (outOf ls hs s X) p = some f := by
  -- ranks
  have my : ∀ x, X x → most ls (outOf ls hs s X) (s x) = (la ls (s x)).idxOf x := fun x hx => most_some (out_yes R hx)
  have lt : ∀ x, X x → (la ls (s x)).idxOf x < most ls hs (s x) := fun x hx => by
    have G := R.giv x hx
    obtain ⟨m1, m2, m3⟩ := (mem_left ok G.sl).mp G.ps
    refine Nat.lt_of_le_of_ne m2 fun z => ?_
    rw [most_some G.held] at z
    exact G.ne (idx_inj (ho.on _ _ G.held).2 m1 z.symm)
  have mn : ∀ y, y < ls.length → (∀ x, X x → s x ≠ y) → most ls (outOf ls hs s X) y = most ls hs y := fun y hy h => most_eq (out_no hy h)
  have le : ∀ q, q < ls.length → most ls (outOf ls hs s X) q ≤ most ls hs q := fun q hq => by
    by_cases c : ∃ x, X x ∧ s x = q
    · obtain ⟨x, hx, ex⟩ := c; subst ex
      rw [my x hx]
      exact Nat.le_of_lt (lt x hx)
    · rw [mn q hq fun x hx z => c ⟨x, hx, z⟩]
      exact Nat.le_refl _
  have sub : ∀ {p o : Nat}, p < ls.length → o ∈ leftL ls (outOf ls hs s X) p → o ∈ leftL ls hs p := fun hp h => left_le le ok hp h
  have okk : HoldsOk ls (outOf ls hs s X) := by
    refine ⟨by simp [outOf], fun p j e => ?_⟩
    have hp : p < ls.length := by
      have := ha_lt e
      simpa [outOf] using this
    by_cases c : ∃ x, X x ∧ s x = p
    · obtain ⟨x, hx, ex⟩ := c; subst ex
      rw [out_yes R hx] at e
      cases e
      have G := R.giv j hx
      exact ⟨hp, ((mem_left ok hp).mp G.ps).1⟩
    · rw [out_no hp fun x hx z => c ⟨x, hx, z⟩] at e
      exact ho.on p j e
  -- who has its first one as such: whose first one is a taker
  have fstX : ∀ x, X x → ∃ z, X z ∧ g z = x ∧ fst ls hs x = some (s z) := fun x hx => by
    obtain ⟨z, hz, e⟩ := R.pr x hx
    refine ⟨z, hz, e, ?_⟩
    have := (R.giv z hz).fq
    rw [e] at this
    exact this
  -- the first one is the only possible one that is least
  have fst_is : ∀ {p k : Nat}, p < ls.length → k ∈ leftL ls (outOf ls hs s X) p → (∀ o ∈ leftL ls (outOf ls hs s X) p, (la ls p).idxOf k ≤ (la ls p).idxOf o) → fst ls (outOf ls hs s X) p = some k := fun {p k} hp hk hmin => by
    cases e : fst ls (outOf ls hs s X) p with
    | none => rw [fst_none.mp e] at hk; cases hk
    | some o =>
      have om := fst_mem e
      have h1 := fst_min ok hp e hk
      have h2 := hmin o om
      rw [idx_inj ((mem_left ok hp).mp om).1 ((mem_left ok hp).mp hk).1 (by omega)]
  have fA : ∀ x, X x → fst ls (outOf ls hs s X) x = some (s x) := fun x hx => by
    have G := R.giv x hx
    have xl := R.lt x hx
    obtain ⟨m1, m2, m3⟩ := (mem_left ok xl).mp G.sn.mem
    have bound : (la ls x).idxOf (s x) ≤ most ls (outOf ls hs s X) x := by
      by_cases c : ∃ z, X z ∧ s z = x
      · obtain ⟨z, hz, e⟩ := c
        have h1 := my z hz
        rw [e] at h1
        rw [h1]
        have Gz := R.giv z hz
        have zm := Gz.ps
        rw [e] at zm
        refine G.sn.min z zm ?_
        have := R.good z hz (by rw [e]; exact hx)
        rw [e] at this
        exact this
      · rw [mn x xl fun z hz e => c ⟨z, hz, e⟩]
        exact m2
    refine fst_is xl ((mem_left ok xl).mpr ⟨m1, bound, by rw [my x hx]; exact Nat.le_refl _⟩) fun o hom => ?_
    refine G.sn.min o (sub xl hom) fun ef => ?_
    obtain ⟨z, hz, e, ef2⟩ := fstX x hx
    rw [ef] at ef2
    cases ef2
    have b3 := ((mem_left ok xl).mp hom).2.2
    rw [my z hz] at b3
    have h4 := lt z hz
    rw [most_some (R.giv z hz).held, e] at h4
    omega
  have noS : ∀ p f, p < ls.length → ¬ X p → fst ls hs p = some f → ∀ x, X x → s x ≠ f := fun p f hp hx ef x hxx e => by
    have h1 := st.b p f hp ef
    have h2 := (R.giv x hxx).held
    rw [e, h1] at h2
    exact hx (by rw [Option.some.inj h2]; exact R.nx x hxx)
  have fB : ∀ p f, p < ls.length → ¬ X p → fst ls hs p = some f → fst ls (outOf ls hs s X) p = some f := fun p f hp hx ef => by
    have fm := fst_mem ef
    obtain ⟨m1, m2, m3⟩ := (mem_left ok hp).mp fm
    have fl := (ok.mate hp m1).1
    refine fst_is hp ((mem_left ok hp).mpr ⟨m1, ?_, by rw [mn f fl (noS p f hp hx ef)]; exact m3⟩) fun o hom => fst_min ok hp ef (sub hp hom)
    by_cases c : ∃ z, X z ∧ s z = p
    · obtain ⟨z, hz, e⟩ := c
      have h1 := my z hz
      rw [e] at h1
      rw [h1]
      have zm := (R.giv z hz).ps
      rw [e] at zm
      exact fst_min ok hp ef zm
    · rw [mn p hp fun z hz e => c ⟨z, hz, e⟩]
      exact m2
  have fC : ∀ p j, p < ls.length → fst ls (outOf ls hs s X) p = some j → ¬ X p → fst ls hs p = some j := fun p j hp e hx => by
    cases ef : fst ls hs p with
    | none =>
      have := sub hp (fst_mem e)
      rw [fst_none.mp ef] at this
      cases this
    | some f =>
      rw [fB p f hp hx ef] at e
      exact e
  refine ⟨okk, ⟨fun p j hp e => ?_, fun p j hp e => ?_⟩, le, ?_, fA, fB⟩
  · by_cases c : ∃ x, X x ∧ s x = p
    · obtain ⟨x, hx, ex⟩ := c; subst ex
      rw [out_yes R hx] at e
      cases e
      exact fA j hx
    · rw [out_no hp fun x hx z => c ⟨x, hx, z⟩] at e
      have h1 := st.a p j hp e
      have jl := (ok.mate hp (ho.on p j e).2).1
      refine fB j p jl (fun hx => ?_) h1
      obtain ⟨z, hz, _, ef⟩ := fstX j hx
      rw [h1] at ef
      exact c ⟨z, hz, (Option.some.inj ef).symm⟩
  · by_cases hx : X p
    · rw [fA p hx] at e
      cases e
      exact out_yes R hx
    · have e1 := fC p j hp e hx
      have jl := (ok.mate hp ((mem_left ok hp).mp (fst_mem e1)).1).1
      rw [out_no jl (noS p j hp hx e1)]
      exact st.b p j hp e1
  · obtain ⟨x, hx⟩ := R.ne
    exact sum_lt (fun q hq => le q hq) (R.giv x hx).sl (by rw [my x hx]; exact lt x hx)
include ok in
theorem turn (ho : HoldsOk ls hs) (st : Std ls hs) (R : Rng ls hs s g X) : ∃ hs', HoldsOk ls hs' ∧ Std ls hs' ∧ (∀ q, q < ls.length → most ls hs' q ≤ most ls hs q) ∧ sumM ls hs' < sumM ls hs :=
  let ⟨a, b, c, d, _⟩ := turn_full ok ho st R
  ⟨_, a, b, c, d⟩
end
end K14
namespace K14
open PySem PySem.Spec PyProof.Rows L2
def it (g : Nat → Nat) : Nat → Nat → Nat
  | 0, p => p
  | m + 1, p => g (it g m p)
theorem it_add (g : Nat → Nat) (a b p : Nat) : it g (a + b) p = it g a (it g b p) := by
  induction a with
  | zero => rw [Nat.zero_add]; rfl
  | succ a ih => rw [Nat.succ_add]; show g (it g (a + b) p) = g (it g a (it g b p)); rw [ih]
theorem meets {n : Nat} {x : Nat → Nat} (h : ∀ m, x m < n) : ∃ i j, i < j ∧ x i = x j := by
  refine Classical.byContradiction fun c => ?_
  have nd : ((List.range (n + 1)).map x).Nodup := by
    refine List.pairwise_map.mpr (List.Pairwise.imp ?_ (List.pairwise_lt_range (n := n + 1)))
    intro a b lt e
    exact c ⟨a, b, lt, e⟩
  have := nodup_sub_len nd (t := List.range n) fun y hy => by
    obtain ⟨m, _, rfl⟩ := List.mem_map.mp hy
    exact List.mem_range.mpr (h m)
  simp at this
  omega
section
variable {ls : List (List Nat)} {hs : List (Option Nat)} (ok : ListsOk ls.length ls)
include ok in
theorem ring_ex (ho : HoldsOk ls hs) (st : Std ls hs) {p0 : Nat} (hp : p0 < ls.length) (h3 : 3 ≤ (leftL ls hs p0).length) : ∃ s g X, Rng ls hs s g X := by
  have ch : ∃ f : Nat → Nat × Nat, ∀ p, p < ls.length → 2 ≤ (leftL ls hs p).length → Giv ls hs p (f p).1 (f p).2 := by
    classical
    refine ⟨fun p => if h : ∃ s q, Giv ls hs p s q then (Classical.choose h, Classical.choose (Classical.choose_spec h)) else (0, 0), fun p hp h2 => ?_⟩
    have h := giv_ex ok ho st hp h2
    dsimp only
    rw [dif_pos h]
    exact Classical.choose_spec (Classical.choose_spec h)
  obtain ⟨f, hf⟩ := ch
  have well : ∀ m, it (fun p => (f p).2) m p0 < ls.length ∧ 2 ≤ (leftL ls hs (it (fun p => (f p).2) m p0)).length := by
    intro m
    induction m with
    | zero => exact ⟨hp, by show 2 ≤ (leftL ls hs p0).length; omega⟩
    | succ m ih =>
      have G := hf _ ih.1 ih.2
      exact ⟨G.ql, G.two⟩
  obtain ⟨i, j, lt, eij⟩ := meets fun m => (well m).1
  have per : ∀ m, i ≤ m → it (fun p => (f p).2) (m + (j - i)) p0 = it (fun p => (f p).2) m p0 := fun m hm => by
    have e1 : m + (j - i) = (m - i) + j := by omega
    have e2 : m = (m - i) + i := by omega
    rw [e1, it_add, ← eij, ← it_add, ← e2]
  refine ⟨fun p => (f p).1, fun p => (f p).2, fun a => ∃ m, i ≤ m ∧ a = it (fun p => (f p).2) m p0, ?_⟩
  have giv : ∀ p, (∃ m, i ≤ m ∧ p = it (fun p => (f p).2) m p0) → Giv ls hs p (f p).1 (f p).2 := by
    rintro p ⟨m, hm, rfl⟩
    exact hf _ (well m).1 (well m).2
  have lt' : ∀ p, (∃ m, i ≤ m ∧ p = it (fun p => (f p).2) m p0) → p < ls.length := by
    rintro p ⟨m, hm, rfl⟩
    exact (well m).1
  have pr : ∀ p, (∃ m, i ≤ m ∧ p = it (fun p => (f p).2) m p0) → ∃ z, (∃ m, i ≤ m ∧ z = it (fun p => (f p).2) m p0) ∧ (f z).2 = p := by
    rintro p ⟨m, hm, rfl⟩
    refine ⟨it (fun p => (f p).2) (m + (j - i) - 1) p0, ⟨_, by omega, rfl⟩, ?_⟩
    have := per m hm
    have e : m + (j - i) = (m + (j - i) - 1) + 1 := by omega
    rw [e] at this
    exact this
  refine ⟨giv, lt', ?_, pr, ?_, ?_, ⟨_, i, Nat.le_refl _, rfl⟩⟩
  · rintro p ⟨m, hm, rfl⟩
    exact ⟨m + 1, by omega, rfl⟩
  · rintro a b ⟨m, hm, rfl⟩ ⟨l, hl, rfl⟩ e
    have back : ∀ m, i ≤ m → it (fun p => (f p).2) m p0 = it (fun p => (f p).2) (j - i - 1) (it (fun p => (f p).2) (m + 1) p0) := fun m hm => by
      rw [← it_add]
      have e : j - i - 1 + (m + 1) = m + (j - i) := by omega
      rw [e, per m hm]
    have e' : it (fun p => (f p).2) (m + 1) p0 = it (fun p => (f p).2) (l + 1) p0 := e
    rw [back m hm, back l hl, e']
  · -- no giver is the first one of its second one, if this is a giver, too
    intro b0 hb0 hs0 hf0
    have one : ∀ b, (∃ m, i ≤ m ∧ b = it (fun p => (f p).2) m p0) → (∃ m, i ≤ m ∧ (f b).1 = it (fun p => (f p).2) m p0) → fst ls hs (f b).1 = some b →
        ∃ a, ((∃ m, i ≤ m ∧ a = it (fun p => (f p).2) m p0) ∧ (∃ m, i ≤ m ∧ (f a).1 = it (fun p => (f p).2) m p0) ∧ fst ls hs (f a).1 = some a) ∧ fst ls hs b = some a ∧ ∀ o ∈ leftL ls hs b, o = a ∨ o = (f b).1 := by
      intro b hb ha hfb
      have Gb := giv b hb
      have bl := lt' b hb
      have Sb := st.b _ b Gb.sl hfb
      have two : ∀ o ∈ leftL ls hs b, fst ls hs b = some o ∨ o = (f b).1 := fun o hom => by
        by_cases c : fst ls hs b = some o
        · exact .inl c
        · refine .inr ?_
          have h1 := Gb.sn.min o hom c
          obtain ⟨m1, m2, m3⟩ := (mem_left ok bl).mp hom
          rw [most_some Sb] at m2
          exact (idx_inj m1 (ho.on b _ Sb).2 (by omega))
      obtain ⟨a, hxa, ea⟩ := pr _ ha
      have Ga := giv a hxa
      have e1 := Ga.fq
      rw [ea, hfb] at e1
      have eb : b = (f a).1 := Option.some.inj e1
      have am := Ga.ps
      rw [← eb] at am
      have fb : fst ls hs b = some a := by
        rcases two a am with h | h
        · exact h
        · have := Ga.ne
          rw [ea] at this
          exact absurd h.symm this
      refine ⟨a, ⟨hxa, by rw [← eb]; exact hb, by rw [← eb]; exact fb⟩, fb, fun o hom => ?_⟩
      rcases two o hom with h | h
      · rw [fb] at h
        exact .inl (Option.some.inj h).symm
      · exact .inr h
    have back : ∀ q, q < ls.length → 2 ≤ (leftL ls hs q).length →
        ((∃ m, i ≤ m ∧ (f q).2 = it (fun p => (f p).2) m p0) ∧ (∃ m, i ≤ m ∧ (f (f q).2).1 = it (fun p => (f p).2) m p0) ∧ fst ls hs (f (f q).2).1 = some (f q).2) →
        ((∃ m, i ≤ m ∧ q = it (fun p => (f p).2) m p0) ∧ (∃ m, i ≤ m ∧ (f q).1 = it (fun p => (f p).2) m p0) ∧ fst ls hs (f q).1 = some q) := by
      rintro q hq h2 ⟨z1, z2, z3⟩
      have G := hf q hq h2
      obtain ⟨a, ⟨a1, a2, a3⟩, fa, _⟩ := one _ z1 z2 z3
      have e1 := G.fq
      rw [fa] at e1
      have ea : a = (f q).1 := Option.some.inj e1
      subst ea
      obtain ⟨c, ⟨c1, c2, c3⟩, fc, all⟩ := one _ a1 a2 a3
      rcases all q G.ps with h | h
      · rw [h]
        exact ⟨c1, c2, c3⟩
      · have Gt := giv _ a1
        have h1 := st.b _ _ Gt.sl a3
        rw [G.held] at h1
        exact absurd ((Option.some.inj h1).trans h.symm) G.ne
    have down : ∀ m, ((∃ l, i ≤ l ∧ it (fun p => (f p).2) m p0 = it (fun p => (f p).2) l p0) ∧ (∃ l, i ≤ l ∧ (f (it (fun p => (f p).2) m p0)).1 = it (fun p => (f p).2) l p0) ∧ fst ls hs (f (it (fun p => (f p).2) m p0)).1 = some (it (fun p => (f p).2) m p0)) →
        ((∃ l, i ≤ l ∧ p0 = it (fun p => (f p).2) l p0) ∧ (∃ l, i ≤ l ∧ (f p0).1 = it (fun p => (f p).2) l p0) ∧ fst ls hs (f p0).1 = some p0) := by
      intro m
      induction m with
      | zero => exact fun h => h
      | succ m ih => exact fun h => ih (back _ (well m).1 (well m).2 h)
    obtain ⟨m, hm, em⟩ := hb0
    subst em
    obtain ⟨z1, z2, z3⟩ := down m ⟨⟨m, hm, rfl⟩, hs0, hf0⟩
    obtain ⟨a, _, _, all⟩ := one p0 z1 z2 z3
    have := nodup_sub_len (left_nd (hs := hs) ok hp) (t := [a, (f p0).1]) fun o hom => by
      rcases all o hom with h | h <;> simp [h]
    simp at this
    omega
include ok in
/-- steady holds within any others that leave nobody more than two -/
theorem two_ex : ∀ (n : Nat) (hs : List (Option Nat)), HoldsOk ls hs → Std ls hs → sumM ls hs ≤ n → ∃ hs', HoldsOk ls hs' ∧ Std ls hs' ∧ (∀ q, q < ls.length → most ls hs' q ≤ most ls hs q) ∧ ∀ p, p < ls.length → (leftL ls hs' p).length ≤ 2 := by
  intro n
  induction n with
  | zero =>
    intro hs ho st hn
    by_cases c : ∃ p, p < ls.length ∧ 3 ≤ (leftL ls hs p).length
    · obtain ⟨p, hp, h3⟩ := c
      obtain ⟨s, g, X, R⟩ := ring_ex ok ho st hp h3
      obtain ⟨hs', _, _, _, lt⟩ := turn ok ho st R
      omega
    · exact ⟨hs, ho, st, fun q _ => Nat.le_refl _, fun p hp => Nat.le_of_not_lt fun h => c ⟨p, hp, h⟩⟩
  | succ n ih =>
    intro hs ho st hn
    by_cases c : ∃ p, p < ls.length ∧ 3 ≤ (leftL ls hs p).length
    · obtain ⟨p, hp, h3⟩ := c
      obtain ⟨s, g, X, R⟩ := ring_ex ok ho st hp h3
      obtain ⟨hs', ho', st', le, lt⟩ := turn ok ho st R
      obtain ⟨h2, o2, s2, l2, t2⟩ := ih hs' ho' st' (by omega)
      exact ⟨h2, o2, s2, fun q hq => Nat.le_trans (l2 q hq) (le q hq), t2⟩
    · exact ⟨hs, ho, st, fun q _ => Nat.le_refl _, fun p hp => Nat.le_of_not_lt fun h => c ⟨p, hp, h⟩⟩
end
end K14
namespace K14
open PySem PySem.Spec PyProof.Rows L2
/-- within these are all steady holds -/
def Top (ls : List (List Nat)) (hs : List (Option Nat)) : Prop := ∀ S, HoldsOk ls S → Std ls S → ∀ q, q < ls.length → most ls S q ≤ most ls hs q
structure Great (ls : List (List Nat)) (hs : List (Option Nat)) : Prop where
  ok : HoldsOk ls hs
  st : Std ls hs
  top : Top ls hs
section
variable {ls : List (List Nat)} {hs : List (Option Nat)} (ok : ListsOk ls.length ls)
include ok in
theorem ask_top (h : Half ls hs) (t : Top ls hs) {p j : Nat} (hp : p < ls.length) (e : fst ls hs p = some j) : Top ls (hs.set j (some p)) := by
  intro S so ss q hq
  have jm := fst_mem e
  obtain ⟨m1, m2, m3⟩ := (mem_left ok hp).mp jm
  obtain ⟨j1, j2, j3⟩ := ok.mate hp m1
  have jl : j < hs.length := by rw [h.ok.len]; exact j1
  have hset := fun q => ha_set (hs := hs) (j := j) (p := p) (q := q) jl
  by_cases c : q = j
  · subst c
    rw [most_some (show ha (hs.set q (some p)) q = some p by rw [hset, if_pos rfl])]
    refine Nat.le_of_not_lt fun lt => ?_
    have sub : ∀ o, o ∈ leftL ls S p → o ∈ leftL ls hs p := fun o ho => left_le (fun q hq => t S so ss q hq) ok hp ho
    have bound : (la ls p).idxOf q ≤ most ls S p := by
      cases ek : ha S p with
      | none =>
        rw [most_none ek]
        exact Nat.le_of_lt (List.idxOf_lt_length_of_mem m1)
      | some k =>
        rw [most_some ek]
        have kl := (ok.mate hp (so.on p k ek).2).1
        have km := (left_sym ok kl (fst_mem (ss.a p k hp ek))).2
        exact fst_min ok hp e (sub k km)
    have qm : q ∈ leftL ls S p := (mem_left ok hp).mpr ⟨m1, bound, by omega⟩
    cases ef : fst ls S p with
    | none => rw [fst_none.mp ef] at qm; cases qm
    | some f =>
      have fm := fst_mem ef
      have h1 := fst_min ok hp ef qm
      have h2 := fst_min ok hp e (sub f fm)
      have : f = q := idx_inj ((mem_left ok hp).mp fm).1 m1 (by omega)
      subst this
      rw [most_some (ss.b p f hp ef)] at lt
      omega
  · rw [most_eq (show ha (hs.set j (some p)) q = ha hs q by rw [hset, if_neg c])]
    exact t S so ss q hq
theorem half_none : Half ls (List.replicate ls.length none) := by
  have hn : ∀ q, ha (List.replicate ls.length (none : Option Nat)) q = none := fun q => by
    unfold ha
    rw [List.getD_eq_getElem?_getD, List.getElem?_replicate]
    split <;> rfl
  exact ⟨⟨by simp, fun p j e => by rw [hn] at e; cases e⟩, fun p j _ e => by rw [hn] at e; cases e⟩
theorem ha_none {n q : Nat} : ha (List.replicate n (none : Option Nat)) q = none := by
  unfold ha
  rw [List.getD_eq_getElem?_getD, List.getElem?_replicate]
  split <;> rfl
theorem most_le (ho : HoldsOk ls hs) {q : Nat} : most ls hs q ≤ (la ls q).length := by
  cases e : ha hs q with
  | none => rw [most_none e]; exact Nat.le_refl _
  | some j =>
    rw [most_some e]
    exact Nat.le_of_lt (List.idxOf_lt_length_of_mem (ho.on q j e).2)
theorem top_none : Top ls (List.replicate ls.length none) := fun S so _ q _ => by
  rw [most_none ha_none]
  exact most_le so
theorem great_of (h : Half ls hs) (t : Top ls hs) (no : ∀ p j, p < ls.length → fst ls hs p = some j → ∃ q, q < ls.length ∧ ha hs q = some p) : Great ls hs := by
  refine ⟨h.ok, ⟨h.a, fun p j hp e => ?_⟩, t⟩
  obtain ⟨q, hq, eq⟩ := no p j hp e
  have := h.a q p hq eq
  rw [e] at this
  rw [Option.some.inj this]
  exact eq
theorem most_inj {h1 h2 : List (Option Nat)} (o1 : HoldsOk ls h1) (o2 : HoldsOk ls h2) {q : Nat} (e : most ls h1 q = most ls h2 q) : ha h1 q = ha h2 q := by
  cases e1 : ha h1 q with
  | none =>
    cases e2 : ha h2 q with
    | none => rfl
    | some j =>
      rw [most_none e1, most_some e2] at e
      have := List.idxOf_lt_length_of_mem (o2.on q j e2).2
      omega
  | some i =>
    cases e2 : ha h2 q with
    | none =>
      rw [most_some e1, most_none e2] at e
      have := List.idxOf_lt_length_of_mem (o1.on q i e1).2
      omega
    | some j =>
      rw [most_some e1, most_some e2] at e
      rw [idx_inj (o1.on q i e1).2 (o2.on q j e2).2 e]
theorem great_one {h1 h2 : List (Option Nat)} (g1 : Great ls h1) (g2 : Great ls h2) : h1 = h2 := by
  apply List.ext_getElem?
  intro q
  by_cases c : q < ls.length
  · rw [ha_get (hs := h1) (by rw [g1.ok.len]; exact c), ha_get (hs := h2) (by rw [g2.ok.len]; exact c)]
    rw [most_inj g1.ok g2.ok (Nat.le_antisymm (g2.top h1 g1.ok g1.st q c) (g1.top h2 g2.ok g2.st q c))]
  · rw [List.getElem?_eq_none (by rw [g1.ok.len]; omega), List.getElem?_eq_none (by rw [g2.ok.len]; omega)]
include ok in
theorem great_go : ∀ (n : Nat) (hs : List (Option Nat)), Half ls hs → Top ls hs → sumM ls hs ≤ n → ∃ g, Great ls g := by
  intro n
  induction n with
  | zero =>
    intro hs h t hn
    by_cases c : ∃ p j, p < ls.length ∧ fst ls hs p = some j ∧ ∀ q, q < ls.length → ha hs q ≠ some p
    · obtain ⟨p, j, hp, e, fr⟩ := c
      have := (ask ok h hp e fr).2
      omega
    · exact ⟨hs, great_of h t fun p j hp e => Classical.byContradiction fun ne => c ⟨p, j, hp, e, fun q hq eq => ne ⟨q, hq, eq⟩⟩⟩
  | succ n ih =>
    intro hs h t hn
    by_cases c : ∃ p j, p < ls.length ∧ fst ls hs p = some j ∧ ∀ q, q < ls.length → ha hs q ≠ some p
    · obtain ⟨p, j, hp, e, fr⟩ := c
      obtain ⟨h1, h2⟩ := ask ok h hp e fr
      exact ih _ h1 (ask_top ok h t hp e) (by omega)
    · exact ⟨hs, great_of h t fun p j hp e => Classical.byContradiction fun ne => c ⟨p, j, hp, e, fun q hq eq => ne ⟨q, hq, eq⟩⟩⟩
include ok in
theorem great_ex : ∃ g, Great ls g := great_go ok _ _ half_none top_none (Nat.le_refl _)
/-! ### lasting partings -/
theorem nxt_bef {row : List Nat} (r : RowOk ls.length row) {p j : Nat} (hp : p < ls.length) : nxt row p = some j ↔ bef row j = some p := by
  rw [bef_iff r.nd]
  have hl : p < row.length := by rw [r.len]; exact hp
  unfold nxt
  rw [List.getD_eq_getElem?_getD, List.getElem?_eq_getElem hl]
  show (if row[p] = p then none else some row[p]) = some j ↔ _
  split
  · rename_i c
    constructor
    · intro e; cases e
    · rintro ⟨e1, e2⟩
      exact absurd ((Option.some.inj e1).symm.trans c).symm e2
  · rename_i c
    constructor
    · intro e
      cases e
      exact ⟨rfl, fun z => c z.symm⟩
    · rintro ⟨e1, e2⟩
      exact e1
include ok in
theorem fst_nxt {row : List Nat} (pr : PRow ls row) (st : Std ls (befs row)) {p : Nat} (hp : p < ls.length) : fst ls (befs row) p = nxt row p := by
  have ho := befs_ok ok pr
  refine opt_ext fun x => ?_
  constructor
  · intro e
    have h1 := st.b p x hp e
    have xl : x < ls.length := (ho.on x p h1).1
    rw [befs_get (by rw [pr.ok.len]; exact xl)] at h1
    exact (nxt_bef pr.ok hp).mpr h1
  · intro e
    have h1 := (nxt_bef pr.ok hp).mp e
    obtain ⟨h2, h3⟩ := (bef_iff pr.ok.nd).mp h1
    have xl : x < ls.length := pr.ok.lt x (List.mem_of_getElem? h2)
    refine st.a x p xl ?_
    rw [befs_get (by rw [pr.ok.len]; exact xl)]
    exact h1
include ok in
theorem firsts_nxt {row : List Nat} (pr : PRow ls row) (st : Std ls (befs row)) : firsts ls (befs row) = nxts row := by
  apply List.ext_getElem?
  intro p
  by_cases c : p < ls.length
  · rw [ha_get (hs := firsts ls (befs row)) (by rw [firsts_len]; exact c), ha_get (hs := nxts row) (by simp [nxts, pr.ok.len]; exact c), ha_firsts c, nxts_get (by rw [pr.ok.len]; exact c), fst_nxt ok pr st c]
  · rw [List.getElem?_eq_none (by rw [firsts_len]; omega), List.getElem?_eq_none (by simp [nxts, pr.ok.len]; omega)]
include ok in
theorem held_is {p o : Nat} (ho : HoldsOk ls hs) (h : o ∈ la ls p) (e : (la ls p).idxOf o = most ls hs p) : ha hs p = some o := by
  cases ek : ha hs p with
  | none =>
    rw [most_none ek] at e
    have := List.idxOf_lt_length_of_mem h
    omega
  | some k =>
    rw [most_some ek] at e
    rw [idx_inj h (ho.on p k ek).2 e]
include ok in
theorem lasts_iff {row : List Nat} (hr : row ∈ parts ls ls.length) : Fits ls row (befs row) ↔ Fits ls row (nxts row) ∧ ∀ p, p < ls.length → (leftL ls (befs row) p).length ≤ 2 := by
  have pr := parts_row_ok ok hr
  have ho := befs_ok ok pr
  constructor
  · intro ft
    refine ⟨fun p hp => ⟨(ft p hp).1, fun o om ⟨h1, h2⟩ => (ft p hp).2 o om ⟨?_, h2⟩⟩, fun p hp => ?_⟩
    · have := (ft p hp).1
      omega
    · have all : ∀ o ∈ leftL ls (befs row) p, o ∈ (ha (befs row) p).toList ++ (nxt row p).toList := fun o hom => by
        obtain ⟨m1, m2, m3⟩ := (mem_left ok hp).mp hom
        obtain ⟨o1, o2, o3⟩ := ok.mate hp m1
        rw [List.mem_append]
        by_cases c : (la ls p).idxOf o = most ls (befs row) p
        · rw [held_is ok ho m1 c]
          exact .inl (by simp)
        · by_cases d : (la ls o).idxOf p = most ls (befs row) o
          · have := held_is ok ho o3 d
            rw [befs_get (by rw [pr.ok.len]; exact o1)] at this
            rw [(nxt_bef pr.ok hp).mpr this]
            exact .inr (by simp)
          · exact absurd ⟨by omega, by omega⟩ ((ft p hp).2 o m1)
      have := nodup_sub_len (left_nd (hs := befs row) ok hp) all
      rw [List.length_append] at this
      have h1 : ∀ x : Option Nat, x.toList.length ≤ 1 := fun x => by cases x <;> simp
      have := h1 (ha (befs row) p)
      have := h1 (nxt row p)
      omega
  · rintro ⟨ft, two⟩ p hp
    refine ⟨(ft p hp).1, fun o om ⟨h1, h2⟩ => ?_⟩
    have st := fits_std ok hr ft
    obtain ⟨o1, o2, o3⟩ := ok.mate hp om
    have hom : o ∈ leftL ls (befs row) p := (mem_left ok hp).mpr ⟨om, by omega, by omega⟩
    cases eb : ha (befs row) p with
    | none => exact (std_held ok ho st hp).mpr (List.ne_nil_of_mem hom) eb
    | some b =>
      have bl := (ok.mate hp (ho.on p b eb).2).1
      have bm := (left_sym ok bl (fst_mem (st.a p b hp eb))).2
      have nb : o ≠ b := fun z => by rw [most_some eb, z] at h1; omega
      cases ef : fst ls (befs row) p with
      | none => rw [fst_none.mp ef] at hom; cases hom
      | some f =>
        have fm := fst_mem ef
        have hf := st.b p f hp ef
        have nf : o ≠ f := fun z => by
          rw [z, most_some hf] at h2
          omega
        by_cases c : f = b
        · subst c
          have i1 := fst_min ok hp ef hom
          rw [most_some eb] at h1
          omega
        · have := nodup_sub_len (s := [o, b, f]) (t := leftL ls (befs row) p) (by simp [nb, nf]; exact fun z => c z.symm) fun x hx => by
            simp only [List.mem_cons, List.not_mem_nil, or_false] at hx
            rcases hx with rfl | rfl | rfl
            · exact hom
            · exact bm
            · exact fm
          have h2 := two p hp
          simp at this
          omega
include ok in
theorem lasting_ex : ∃ row, row ∈ parts ls ls.length ∧ Fits ls row (befs row) := by
  obtain ⟨g, G⟩ := great_ex ok
  obtain ⟨S, so, ss, _, two⟩ := two_ex ok _ g G.ok G.st (Nat.le_refl _)
  have hr := row_parts ok so ss
  refine ⟨rowOf ls S, hr, (lasts_iff ok hr).mpr ⟨std_fits ok so ss, ?_⟩⟩
  have e : befs (rowOf ls S) = S := by
    apply List.ext_getElem?
    intro j
    by_cases c : j < ls.length
    · rw [ha_get (hs := befs (rowOf ls S)) (by simp [befs, rowOf_len]; exact c), ha_get (by rw [so.len]; exact c), befs_get (by rw [rowOf_len]; exact c), row_bef ok so ss c]
    · rw [List.getElem?_eq_none (by simp [befs, rowOf_len]; omega), List.getElem?_eq_none (by rw [so.len]; omega)]
  rw [e]
  exact two
include ok in
/-- the same persons hold in all steady holds -/
theorem single_same {g : List (Option Nat)} (G : Great ls g) (ho : HoldsOk ls hs) (st : Std ls hs) {p : Nat} (hp : p < ls.length) : leftL ls hs p = [] ↔ leftL ls g p = [] := by
  constructor
  · intro h
    refine Classical.byContradiction fun c => ?_
    have h1 := (std_held ok G.ok G.st hp).mpr c
    have h2 : ha hs p = none := Classical.byContradiction fun z => (std_held ok ho st hp).mp z h
    have le := G.top hs ho st p hp
    rw [most_none h2] at le
    cases ek : ha g p with
    | none => exact h1 ek
    | some k =>
      rw [most_some ek] at le
      have := List.idxOf_lt_length_of_mem (G.ok.on p k ek).2
      omega
  · intro h
    refine Classical.byContradiction fun c => ?_
    obtain ⟨o, t, e⟩ := List.exists_cons_of_ne_nil c
    have : o ∈ leftL ls g p := left_le (fun q hq => G.top hs ho st q hq) ok hp (by rw [e]; simp)
    rw [h] at this
    cases this
end
end K14
namespace K14
open PySem PySem.Spec PyProof.Rows L2
/-! ### defs that ask repr of data: their promise, where no repr is under way -/
def RunG (P : Program) (w : World) (K : PySem.W.Frag) (mg : Str → Option Value) (base : Heap) (k : Nat) (f : Addr) (fd : FuncData) (ps : List Str) (sp : Sp) : Prop :=
  ∀ (A : Around) (outer : List Env) (s : Shared) (H : Hp) (args : Args) (us : List Value) (vs : List V) (Q : VK) (E : XK), A.guards = some [] → Room k A → Env0 P w K mg base A outer s H →
    BindsTo s fd args (ps.zip us) → Vals vs us → sp vs H Q E → codeAny (model P w) A (.call (.ref f) args) (CR CX0 outer P w H s Q E) s
theorem call_repr {X : Cx} (hg : X.A.guards = some []) (hu : X.A.units + 64 < cLine) :
    CallR X (.builtin "repr") (fun xs H Q => ∃ a d, xs = [.ref a] ∧ Dp X.K H (.ref a) d ∧ d.showable = true ∧ d.hasDict = false ∧ d.depth ≤ 60 ∧ d.shown.length ≤ sizeLine ∧ Q (.str d.shown) H) := by
  intro pins s σ H xs us Q I r h
  obtain ⟨a, d, rfl, hd, hs, hn, hz, hl, q⟩ := h
  obtain ⟨u, rfl, ru⟩ := vals1 r
  obtain ⟨as, rd⟩ := Dp.reads I d _ _ hd ru
  cases ru
  exact repr_of_reads' rd hs (PyData.noDict_hsm hn) hg (by omega) (fun _ _ e => e) (fun h' t tk keep => ⟨.str d.shown, H, I.kept keep, ⟨t, rfl⟩, q⟩) hl
section
variable {P : Program} {w : World} {K : PySem.W.Frag} {mg : Str → Option Value} {base : Heap}
theorem okG {x qual : Str} {st : Stmt} {f : Addr} {fd : FuncData} {N ps : List Str} {k : Nat} {sp : Sp} (F : Fun K x qual st f fd) (S : FnScope N ps (defScope st)) (len : ∀ vs H Q E, sp vs H Q E → vs.length = ps.length)
    (body : ∀ (cdv : Value) (A : Around) (outer : List Env) (s : Shared) (H : Hp) (vs : List V) (Q : VK) (E : XK), A.guards = some [] → Room k (A.deeper (envOfC qual (defScope st) s.heap.objs.size f cdv)) → sp vs H Q E →
      ∃ t, PSs (cxOf CX0 P w K mg base N qual (defScope st) f cdv A outer s H E).nox (defBody st) t ∧ t { nx := fun _ H' => Q .non H', rt := Q } (start N vs) H) : RunG P w K mg base (k + 1) f fd ps sp := by
  obtain ⟨oc, od, kV, doc, pm, an, cdv, ct, osl, rfl, lk, hcd⟩ := F.ex
  intro A outer s H args us vs Q E hA room e0 bind rel promise
  have KX := e0.mod.kin.keeps (h' := s.heap) fun b o e => (e0.bs b o e).1
  have lim := e0.mod.nolimit.keeps (h' := s.heap) fun b o e => (e0.bs b o e).1
  have kinds : ∀ y ∈ ps.zip us, (defScope st).names.lookup y.1 = some .local ∨ ((defScope st).names.lookup y.1 = some .cell ∧ ((cellsFrom (s.heap.objs.size + 1) (defScope st).names []).lookup y.1).isSome = true) := by
    intro y hy
    cases S.par y.1 (List.of_mem_zip (show (y.1, y.2) ∈ ps.zip us from hy)).1 with
    | inl q => exact .inl q
    | inr q => exact .inr ⟨q, PySem.W.cellsFrom_some _ _ _ (.inl q)⟩
  apply codeAny_call_function room.depth (KX _ _ lk) rfl S.co S.gen rfl (PySem.W.codeRec_of KX hcd) (bind _ _ _ _ _)
  apply wpAny_newFunctionEnv_cells S.kind kinds
  intro env he s1 x
  subst he
  obtain ⟨t, ht, hq⟩ := body cdv A outer s H vs Q E hA (room.deeper _) promise
  have I := inv_start (CX := CX0) (E := E) S room.hd e0 (len _ _ _ _ promise) rel x
  refine ⟨lim.keeps x.toInCall.keep, codeAny_func (wpAny_mono (ht.nox.run [] s1 (start N vs) H _ I hq) ?_ (fun _ _ z => z))⟩
  intro fl s' z
  cases fl with
  | ret u => exact let ⟨v, _, H', J, rv, q⟩ := z; ⟨v, H', J.os, J.bare, J.base, J.hok, rv, q⟩
  | next => exact let ⟨_, H', J, q⟩ := z; ⟨V.non, H', J.os, J.bare, J.base, J.hok, rfl, q⟩
  | brk => exact let ⟨_, _, _, q⟩ := z; q.elim
  | cont => exact let ⟨_, _, _, q⟩ := z; q.elim
end
section
variable {P : Program} {w : World} {K : PySem.W.Frag} {mg mb : Str → Option Value} {s₁ : Shared} {a : Addr} {vs : List Value} {H : Hp}
/-- the call of the law: nothing is tracked but the script at a -/
theorem env_law (KX : K.In s₁.heap) (hns : s₁.heap.Ns mainGlobals mg) (hb : s₁.heap.Ns builtinsNs mb) (hbb : ∀ x : Str, x ≠ "__name__" → mb x = bootBuiltins x) (hlim : s₁.heap.NoLimit) (hg : s₁.gens = #[])
    (ha : s₁.heap.get? a = some { cls := .type "list", data := .seq vs.toArray }) (hok : HOk P w H s₁.heap) (one : ∀ b u, H b = some u → b = a) (apart : ∀ u, H a = some u → K.lookup a = none) :
    K.In (hidT s₁.heap H) ∧ (hidT s₁.heap H).Ns mainGlobals mg ∧ Env0 P w K mg (hidT s₁.heap H) callerA [] s₁ H := by
  have free : ∀ b, b ≠ a → H b = none := by
    intro b n
    cases e : H b with
    | none => rfl
    | some u => exact (n (one b u e)).elim
  have low : ∀ {b : Addr} {o : Obj}, s₁.heap.get? b = some o → b ≠ a → (hidT s₁.heap H).get? b = some o := fun e n => hidT_get e (free _ n)
  have ns : ∀ {b : Addr} {m : Str → Option Value}, s₁.heap.Ns b m → (hidT s₁.heap H).Ns b m := by
    rintro b m ⟨o, es, ep, e, d, r⟩
    refine ⟨o, es, ep, low e ?_, d, r⟩
    intro z
    rw [z, ha] at e
    cases e
    cases d
  have kin : K.In (hidT s₁.heap H) := by
    intro b o e
    by_cases n : b = a
    · subst n
      cases q : H b with
      | none => exact hidT_get (KX _ _ e) q
      | some u =>
        have z := apart u q
        rw [z] at e
        cases e
    · exact low (KX _ _ e) n
  obtain ⟨mc, l1, l2⟩ := hlim
  exact ⟨kin, ns hns, ⟨rfl, ⟨kin, ns hns, ⟨mb, ns hb, hbb⟩, ⟨mc, ns l1, l2⟩⟩, fun b o e => of_hidT e, Nat.le_of_eq (hidT_size _ _), trivial, (fun b z => nomatch z), hok, .of_eq hg⟩⟩
theorem run_law {k : Nat} {fa : Addr} {fd : FuncData} {x : Str} {sp : Sp} (env : Env0 P w K mg (hidT s₁.heap H) callerA [] s₁ H) (F : RunG P w K mg (hidT s₁.heap H) k fa fd [x] sp) (hr : Room k callerA)
    (hbind : ∀ (s : Shared) (u : Value), BindsTo s fd ⟨[u], []⟩ [(x, u)]) (hO : Only H) (hok : HOk P w H s₁.heap) (hsp : sp [.ref a] H (fun v _ => v = .bl true) fun _ _ _ => False) :
    codeAny (model P w) callerA (.call (.ref fa) ⟨[.ref a], []⟩) (fun r s' => r = .ok (.ret (.bool true)) ∧ OldK s₁.heap s'.heap ∧ s'.os = s₁.os ∧ AllBare s'.gens) s₁ := by
  have run := F callerA [] s₁ H ⟨[.ref a], []⟩ [.ref a] [.ref a] _ _ rfl hr env (hbind s₁ (.ref a)) (.cons rfl .nil) hsp
  refine codeAny_mono run ?_
  intro r s' h
  match r, h with
  | .ok (.ret u), h =>
    obtain ⟨v, H', os, bare, un, hok', r', q⟩ := h
    have q2 : v = V.bl true := q
    subst q2
    obtain rfl : u = Value.bool true := r'
    refine ⟨rfl, OldK.of_keep ?_, os, bare⟩
    intro b o e
    cases q : H b with
    | none => exact un.keep b o e q (fun z => nomatch z) (fun z => nomatch z)
    | some u =>
      rcases hO b with z | ⟨ob, xs, z⟩
      · rw [q] at z
        cases z
      · have e1 := (hok b _ z).1
        have e2 := (hok' b _ (un.frzs b ob _ z)).1
        rw [e] at e1
        cases e1
        exact e2
end
/-- the goal behind k_head, from such a promise of the law -/
theorem walkG {l : PySem.W.OpenLaw} {n k : Nat} {q : Program} {loose : List Str} {XP : (Str → Option Value) → Heap → Prop} {YP : World → Heap → Prop} {d : DefRec} {K : Params → PySem.W.Frag} {sp : PySem.W.Frag → Sp} {x : Str}
    (hn : l.most = some n) (hn2 : n ≤ sizeLine) (hdf : d.params.defaults = []) (hr : Room k callerA) (hY : ∀ (w : World) (h : Heap), YP w h → (K w.params).In h)
    (F : ∀ (w : World) (mg : Str → Option Value) (fa : Addr) (h : Heap), (K w.params).In h → h.Ns mainGlobals mg → mg d.name = some (.ref fa) →
      ∃ fd : FuncData, (∀ (s : Shared) (u : Value), BindsTo s fd ⟨[u], []⟩ [(x, u)]) ∧ ∀ base : Heap, (K w.params).In base → base.Ns mainGlobals mg → RunG l.prog w (K w.params) mg base k fa fd [x] (sp (K w.params)))
    (hsp : ∀ (K : PySem.W.Frag) (H : Hp) (a : Addr) (ns : List Int), ns.length ≤ n → SqL K H a (ns.map V.int) → sp K [.ref a] H (fun v _ => v = .bl true) fun _ _ _ => False) :
    PySem.W.WalkO q loose XP YP l.row.toRowW d [] (fun f vs => PySem.call f vs) := by
  apply Att.attach_call hn hdf
  intro w s₀ s₁ mg mb fa o pm cd doc a vs ns G Y ho hd hcd hmg hobj hints hlen hg
  have KX := hY w _ Y
  obtain ⟨fd, hb, hF⟩ := F w mg fa _ KX G.T.g hmg
  have rel := vals_ints hints
  have hz : (ns.map V.int).length ≤ sizeLine := by rw [List.length_map]; exact Nat.le_trans hlen hn2
  cases hk : (K w.params).lookup a with
  | some o' =>
    have e := KX a o' hk
    rw [hobj] at e
    cases e
    have ok0 : HOk l.prog w (fun _ => none) s₁.heap := fun b u z => nomatch z
    obtain ⟨k1, k2, k3⟩ := env_law (P := l.prog) (w := w) (H := fun _ => none) KX G.T.g G.T.b G.T.builtins G.T.nolimit hg hobj ok0 (fun b u z => nomatch z) (fun u z => nomatch z)
    refine run_law k3 (hF _ k1 k2) hr hb (fun b => .inl rfl) ok0 (hsp _ _ a ns hlen ?_)
    exact .inr ⟨_, vs.toArray, _, hk, rfl, rfl, rfl, by rw [List.size_toArray, ← rel.length]; exact hz, by simpa using rel⟩
  | none =>
    have at_ : (upd (fun _ => none) a (.frz { cls := .type "list", data := .seq vs.toArray } (.lst (ns.map V.int)))) a = some (.frz { cls := .type "list", data := .seq vs.toArray } (.lst (ns.map V.int))) := upd_same
    have off : ∀ b, b ≠ a → (upd (fun _ => none) a (.frz { cls := .type "list", data := .seq vs.toArray } (.lst (ns.map V.int)))) b = none := fun b n => upd_ne n
    generalize upd (fun _ => none) a (.frz { cls := .type "list", data := .seq vs.toArray } (.lst (ns.map V.int))) = H at at_ off
    have only : Only H := by
      intro b
      by_cases n : b = a
      · exact .inr ⟨_, _, by rw [n]; exact at_⟩
      · exact .inl (off b n)
    have ok1 : HOk l.prog w H s₁.heap := by
      intro b u z
      by_cases n : b = a
      · rw [n, at_] at z
        cases z
        rw [n]
        exact ⟨hobj, hz, vs, _, rel, hobj⟩
      · rw [off b n] at z
        cases z
    have one : ∀ b u, H b = some u → b = a := by
      intro b u z
      by_cases n : b = a
      · exact n
      · rw [off b n] at z
        cases z
    obtain ⟨k1, k2, k3⟩ := env_law (P := l.prog) (w := w) (H := H) KX G.T.g G.T.b G.T.builtins G.T.nolimit hg hobj ok1 one (fun u z => hk)
    exact run_law k3 (hF _ k1 k2) hr hb only ok1 (hsp _ _ a ns hlen (.inl (.inr ⟨_, at_⟩)))
/-! ### a def called with all its arguments by keywords -/
section
variable {X : Cx} {CX : CXT} {k : Nat} {f : Addr} {fd : FuncData} {ps ks : List Str} {sp : Sp} {E : XK} {x : Str} {p pos : Pos} {kws : List Keyword} {tk : TA} {g : List Value → List Value → List Value} {gV : List V → List V → List V}
theorem pe_named (F : FnOk X.prog X.w X.K X.mg X.base CX k f fd ps sp) (hr : Room k X.A) (hg : Gl X x) (hm : X.mg x = some (.ref f)) (kp : PySem.W.keepIn X.K (.ref f) = true) (b : KBinds X.K fd ps ks g gV) (hx : Passes CX X E) (hkw : PK X kws tk)
    (h1 : (backToKw pos (keywordEach kws X.env)).all (·.1.isSome) = true := by rfl) (h2 : (backToKw pos (keywordEach kws X.env)).filterMap (·.1) = ks := by rfl) (h3 : (x == ("__debug__" : Str)) = false := by decide)
    (h4 : ((backTo pos (starEach [] X.env)).any (·.1) || (backToKw pos (keywordEach kws X.env)).any (·.1.isNone)) = false := by rfl) :
    PE X (.Call (.Name x p) [] kws pos) (tCallK sp gV E tNil tk) := by
  constructor
  intro pins s σ H Q I h
  apply wpAny_Call_Name_kw (ld_glob I hg hm _ h3)
  apply PySem.W.callWith_KW0 (h₀ := X.base) I.ok.mod.kin kp h1 _ h4
  refine thn (hkw.run pos pins s σ H _ I h) ?_
  rintro ws s2 ⟨zs, H2, I2, rz, q2⟩
  refine ⟨I2.kIn, ?_⟩
  rw [h2]
  exact run_fnk (us := []) (vs := []) F hr b hx I2 .nil rz q2
end

/-! ### calls of defs that ask repr of data -/
theorem call_repr_bl {X : Cx} : CallR X (.builtin "repr") (fun xs H Q => ∃ b, xs = [.bl b] ∧ Q (.str (if b then "True" else "False")) H) := by
  intro pins s σ H xs us Q I r h
  obtain ⟨b, rfl, q⟩ := h
  obtain ⟨u, rfl, ru⟩ := vals1 r
  cases ru
  exact PySem.P.repr_of_bool ⟨.str (if b then "True" else "False"), H, I.tok _, ⟨_, rfl⟩, q⟩
section
variable {X : Cx} {k : Nat} {f : Addr} {fd : FuncData} {ps : List Str} {sp : Sp} {x : Str} {p pos : Pos} {e : Expr} {es : List Expr} {t : TA}
theorem pe_callG (F : RunG X.prog X.w X.K X.mg X.base k f fd ps sp) (len : ∀ vs H Q E, sp vs H Q E → vs.length = ps.length) (hA : X.A.guards = some []) (hr : Room k X.A) (hg : Gl X x) (hm : X.mg x = some (.ref f)) (hk : PySem.W.keepIn X.K (.ref f) = true) (hb : Binds X.K fd ps []) {E : XK} (hx : Passes CX0 X E)
    (ha : PA X (e :: es) t) (hdb : (x == ("__debug__" : Str)) = false := by decide) (he : starEach (e :: es) X.env = (false, eval e X.env) :: starEach es X.env := by rfl) (hpl : (backTo pos (starEach es X.env)).any (·.1) = false := by rfl) :
    PE X (.Call (.Name x p) (e :: es) [] pos) (tCall sp [] E t) := by
  refine ⟨fun pins s σ H Q I h => wpAny_Call_Name_kw (ld_glob I hg hm ?_ hdb)⟩
  refine PySem.W.callWith_K (h₀ := X.base) I.ok.mod.kin hk (thn (ha.run pos pins s σ H _ I h) fun us s1 ⟨vs, H1, I1, r, q⟩ => ⟨I1.kIn, ?_⟩) he hpl
  have r2 : Vals (vs ++ []) (us ++ []) := r.append .nil
  have hl : (us ++ []).length = ps.length := by rw [← r2.length]; exact len _ _ _ _ q
  refine wpAny_call (codeAny_mono (F X.A X.stack s1 H1 ⟨us, []⟩ (us ++ []) (vs ++ []) _ E hA hr I1.env0 (hb s1 us I1.kIn hl) r2 q) fun r s' hq => ?_)
  cases r with
  | error e => exact hx pins σ H1 s1 e s' I1 hq
  | ok fl =>
    cases fl with
    | ret u => exact I1.after hq
    | next => exact False.elim hq
    | brk => exact False.elim hq
    | cont => exact False.elim hq
end
end K14
namespace K14
open PySem PySem.Spec PyProof.Rows L2
theorem vals_rev : ∀ {zs : List V} {ws : List Value}, Vals zs ws → Vals zs.reverse ws.reverse
  | [], _, .nil => .nil
  | z :: zs, _, .cons (b := w) r t => by
    rw [List.reverse_cons, List.reverse_cons]
    exact (vals_rev t).append (.cons r .nil)
/-- a def of two parameters called by keywords, the last one first -/
theorem named2 {K : PySem.W.Frag} {x qual : Str} {st : Stmt} {f : Addr} {fd : FuncData} {n m : Str} (F : Fun K x qual st f fd)
    (h0 : ∀ (kV doc pm : Value) (an : Option Addr) (cdv ct u v : Value), bindArgs (PySem.W.fnOf x qual (defArgs st) (defBody st) (defScope st) .none kV doc pm an cdv ct) ⟨[u, v], []⟩ = pure [(n, u), (m, v)])
    (h1 : ∀ (kV doc pm : Value) (an : Option Addr) (cdv ct u v : Value), bindArgs (PySem.W.fnOf x qual (defArgs st) (defBody st) (defScope st) .none kV doc pm an cdv ct) ⟨[u], [(m, v)]⟩ = pure [(n, u), (m, v)])
    (h2 : ∀ (kV doc pm : Value) (an : Option Addr) (cdv ct u v : Value), bindArgs (PySem.W.fnOf x qual (defArgs st) (defBody st) (defScope st) .none kV doc pm an cdv ct) ⟨[], [(m, v), (n, u)]⟩ = pure [(n, u), (m, v)]) :
    KBinds K fd [n, m] [m, n] (fun us ws => us ++ ws.reverse) (fun vs zs => vs ++ zs.reverse) := by
  obtain ⟨oc, od, kV, doc, pm, an, cdv, ct, osl, rfl, lk, hcd⟩ := F.ex
  refine ⟨fun s us ws _ hl => ?_, fun a b => a.append (vals_rev b)⟩
  have hl' : ws.length + us.length = 2 := by simpa [Nat.add_comm] using hl
  match us, ws, hl' with
  | [u, v], [], _ => exact .of_eq (h0 kV doc pm an cdv ct u v)
  | [u], [v], _ => exact .of_eq (h1 kV doc pm an cdv ct u v)
  | [], [v, u], _ => exact .of_eq (h2 kV doc pm an cdv ct u v)
/-- .. of three parameters -/
theorem named3 {K : PySem.W.Frag} {x qual : Str} {st : Stmt} {f : Addr} {fd : FuncData} {n m o : Str} (F : Fun K x qual st f fd)
    (h0 : ∀ (kV doc pm : Value) (an : Option Addr) (cdv ct u v t : Value), bindArgs (PySem.W.fnOf x qual (defArgs st) (defBody st) (defScope st) .none kV doc pm an cdv ct) ⟨[u, v, t], []⟩ = pure [(n, u), (m, v), (o, t)])
    (h1 : ∀ (kV doc pm : Value) (an : Option Addr) (cdv ct u v t : Value), bindArgs (PySem.W.fnOf x qual (defArgs st) (defBody st) (defScope st) .none kV doc pm an cdv ct) ⟨[u, v], [(o, t)]⟩ = pure [(n, u), (m, v), (o, t)])
    (h2 : ∀ (kV doc pm : Value) (an : Option Addr) (cdv ct u v t : Value), bindArgs (PySem.W.fnOf x qual (defArgs st) (defBody st) (defScope st) .none kV doc pm an cdv ct) ⟨[u], [(o, t), (m, v)]⟩ = pure [(n, u), (m, v), (o, t)])
    (h3 : ∀ (kV doc pm : Value) (an : Option Addr) (cdv ct u v t : Value), bindArgs (PySem.W.fnOf x qual (defArgs st) (defBody st) (defScope st) .none kV doc pm an cdv ct) ⟨[], [(o, t), (m, v), (n, u)]⟩ = pure [(n, u), (m, v), (o, t)]) :
    KBinds K fd [n, m, o] [o, m, n] (fun us ws => us ++ ws.reverse) (fun vs zs => vs ++ zs.reverse) := by
  obtain ⟨oc, od, kV, doc, pm, an, cdv, ct, osl, rfl, lk, hcd⟩ := F.ex
  refine ⟨fun s us ws _ hl => ?_, fun a b => a.append (vals_rev b)⟩
  have hl' : ws.length + us.length = 3 := by simpa [Nat.add_comm] using hl
  match us, ws, hl' with
  | [u, v, t], [], _ => exact .of_eq (h0 kV doc pm an cdv ct u v t)
  | [u, v], [t], _ => exact .of_eq (h1 kV doc pm an cdv ct u v t)
  | [u], [t, v], _ => exact .of_eq (h2 kV doc pm an cdv ct u v t)
  | [], [t, v, u], _ => exact .of_eq (h3 kV doc pm an cdv ct u v t)
theorem left_sub {n : Nat} {ls : List (List Nat)} (ok : ListsOk n ls) (hn : ls.length = n) {h1 h2 : List (Option Nat)} (le : withinB ls h1 h2 = true) {p o : Nat} (hp : p < n) (h : o ∈ leftL ls h1 p) : o ∈ leftL ls h2 p := by
  unfold withinB at le
  rw [List.all_eq_true] at le
  have le' : ∀ q, q < n → most ls h1 q ≤ most ls h2 q := fun q hq => of_decide_eq_true (le q (List.mem_range.mpr (by omega)))
  obtain ⟨m1, m2, m3⟩ := (mem_left ok hp).mp h
  have k1 := (ok.mate hp m1).1
  exact (mem_left ok hp).mpr ⟨m1, Nat.le_trans m2 (le' p hp), Nat.le_trans m3 (le' o k1)⟩
theorem named1 {K : PySem.W.Frag} {x qual : Str} {st : Stmt} {f : Addr} {fd : FuncData} {n : Str} (F : Fun K x qual st f fd)
    (h0 : ∀ (kV doc pm : Value) (an : Option Addr) (cdv ct u : Value), bindArgs (PySem.W.fnOf x qual (defArgs st) (defBody st) (defScope st) .none kV doc pm an cdv ct) ⟨[u], []⟩ = pure [(n, u)])
    (h1 : ∀ (kV doc pm : Value) (an : Option Addr) (cdv ct u : Value), bindArgs (PySem.W.fnOf x qual (defArgs st) (defBody st) (defScope st) .none kV doc pm an cdv ct) ⟨[], [(n, u)]⟩ = pure [(n, u)]) :
    KBinds K fd [n] [n] (fun us ws => us ++ ws) (fun vs zs => vs ++ zs) := by
  obtain ⟨oc, od, kV, doc, pm, an, cdv, ct, osl, rfl, lk, hcd⟩ := F.ex
  refine ⟨fun s us ws _ hl => ?_, fun a b => a.append b⟩
  match us, ws, hl with
  | [u], [], _ => exact .of_eq (h0 kV doc pm an cdv ct u)
  | [], [u], _ => exact .of_eq (h1 kV doc pm an cdv ct u)
end K14
namespace K14
open PySem PySem.Spec PyProof.Rows L2
theorem int_len {n : Nat} (h : n < 2 ^ 20) : (((toString ((n : Nat) : Int) : String) : Str)).length ≤ 20 := by
  have h1 := nat_repr_length_le (n := n) (k := 20) (by decide) h
  rw [PySem.ofString_length]
  exact h1
/-- what repr asks of data -/
structure Rp (d : PyData) : Prop where
  sh : d.showable = true
  nd : d.hasDict = false
  dp : d.depth ≤ 60
  ln : d.shown.length ≤ sizeLine
structure RpI (d : PyData) (m B : Nat) : Prop where
  sh : d.showable = true
  nd : d.hasDict = false
  dp : d.depth ≤ m
  ln : d.shown.length ≤ B
theorem rp_tup {xs : List PyData} {m B : Nat} (h : ∀ x ∈ xs, RpI x m B) : RpI (.tuple xs) (m + 1) ((B + 2) * xs.length + 10) := by
  have all : ∀ xs : List PyData, (∀ x ∈ xs, RpI x m B) → PyData.showableAll xs = true ∧ PyData.hasDictAll xs = false ∧ PyData.depthAll xs ≤ m ∧ piled (PyData.shownAll xs) ≤ (B + 2) * xs.length := by
    intro xs
    induction xs with
    | nil => intro _; exact ⟨by simp [PyData.showableAll], by simp [PyData.hasDictAll], by simp [PyData.depthAll], by simp [PyData.shownAll, piled]⟩
    | cons c r ih =>
      intro h
      obtain ⟨a1, a2, a3, a4⟩ := ih fun x hx => h x (by simp [hx])
      have hc := h c (by simp)
      have h1 := hc.ln
      refine ⟨by simp only [PyData.showableAll, hc.sh, a1, Bool.and_self], by simp only [PyData.hasDictAll, hc.nd, a2, Bool.or_self], ?_, ?_⟩
      · simp only [PyData.depthAll]
        have := hc.dp
        omega
      · rw [PyData.shownAll, piled_cons, List.length_cons, Nat.mul_succ]
        omega
  obtain ⟨a1, a2, a3, a4⟩ := all xs h
  refine ⟨by simp only [PyData.showable]; exact a1, by simp only [PyData.hasDict]; exact a2, by simp only [PyData.depth]; omega, ?_⟩
  have e : (PyData.tuple xs).shown = tupleText (PyData.shownAll xs) := by simp only [PyData.shown]
  rw [e]
  have h1 := fmt_text (PyData.shownAll xs)
  omega
theorem rp_int {n : Nat} (h : n < 2 ^ 20) : RpI (.int (n : Nat)) 0 20 := by
  have lg : (n : Int).natAbs.log2 < 1920 := by
    rw [Int.natAbs_natCast]
    by_cases h0 : n = 0
    · subst h0; decide
    · have := (Nat.log2_lt h0).mpr h
      omega
  exact ⟨by simp only [PyData.showable, decide_eq_true lg], by simp only [PyData.hasDict], by simp only [PyData.depth]; omega, by simp only [PyData.shown]; exact int_len h⟩
theorem rp_none : RpI .none 0 20 := ⟨by simp only [PyData.showable], by simp only [PyData.hasDict], by simp only [PyData.depth]; omega, by simp only [PyData.shown]; decide⟩
theorem rp_dI {s : List Nat} (l : s.length ≤ 60) (h : ∀ j ∈ s, j < 60) : RpI (dI s) 1 2000 := by
  have := rp_tup (xs := s.map fun j => PyData.int (j : Nat)) (m := 0) (B := 20) fun x hx => by
    obtain ⟨j, hj, rfl⟩ := List.mem_map.mp hx
    exact rp_int (Nat.lt_of_lt_of_le (h j hj) (by decide))
  refine ⟨this.sh, this.nd, this.dp, Nat.le_trans this.ln ?_⟩
  rw [List.length_map]
  omega
theorem rp_dL {ls : List (List Nat)} (l : ls.length ≤ 60) (h : ∀ s ∈ ls, s.length ≤ 60 ∧ ∀ j ∈ s, j < 60) : Rp (dL ls) := by
  have := rp_tup (xs := ls.map dI) (m := 1) (B := 2000) fun x hx => by
    obtain ⟨s, hs, rfl⟩ := List.mem_map.mp hx
    exact rp_dI (h s hs).1 (h s hs).2
  refine ⟨this.sh, this.nd, Nat.le_trans this.dp (by decide), Nat.le_trans this.ln ?_⟩
  rw [List.length_map]
  exact Nat.le_trans (m := 200000) (by omega) (by decide)
theorem rp_dH {hs : List (Option Nat)} (l : hs.length ≤ 60) (h : ∀ j, some j ∈ hs → j < 60) : Rp (dH hs) := by
  have := rp_tup (xs := hs.map fun o => match o with | none => PyData.none | some j => .int (j : Nat)) (m := 0) (B := 20) fun x hx => by
    obtain ⟨o, ho, rfl⟩ := List.mem_map.mp hx
    cases o with
    | none => exact rp_none
    | some j => exact rp_int (Nat.lt_of_lt_of_le (h j ho) (by decide))
  refine ⟨this.sh, this.nd, Nat.le_trans this.dp (by decide), Nat.le_trans this.ln ?_⟩
  rw [List.length_map]
  exact Nat.le_trans (m := 200000) (by omega) (by decide)
end K14
set_option maxHeartbeats 4000000
/-! t * k of a tuple that is not empty, k from 1 on: t * 1 is t -/
namespace K14
open PySem PySem.Spec PyProof.Rows L2
theorem tup_mul1 (l : Addr) (items : Array Value) (n : Nat) (dd : Option Addr) (sl : Array (Option Value)) (u : Tok) :
    Meets (Builtin.«tuple.__mul__» ⟨[.ref l, .int 1 u], []⟩) (fun _ R s => s.heap.get? l = some { cls := .type "tuple", dict := dd, data := .seq items n, slots := sl } ∧ R (.ok (.ret (.ref l))) s) :=
  .of_wp fun prog w A R s h => by
    obtain ⟨hp, g, d, tk, os⟩ := s
    obtain ⟨hl, h⟩ := h
    have f1 := AutoSeq1.idx_int
    have hone : (items.isEmpty || (1 : Int) == 1) = true := by simp
    wp_walk using wpAny_loadPart' hl
    repeat (first
      | (refine wpAny_ite_false (decide_eq_false (by decide)) ?_; wp_walk using wpAny_loadPart' hl)
      | (refine wpAny_ite_true (by rw [hone]; rfl) ?_; wp_walk using wpAny_loadPart' hl)
      | (refine wpAny_ite_true (decide_eq_true hone) ?_; wp_walk using wpAny_loadPart' hl))
    exact ⟨_, rfl, h⟩
def rRepA (K : PySem.W.Frag) : R2 := fun x y H Q => (∃ l xs, x = .ref l ∧ y = .int 1 ∧ SqT K H l xs ∧ Q (.ref l) H) ∨ rRepT K x y H Q
theorem op_repA {X : Cx} : OpR X (binaryOp .Mult) (rRepA X.K) := by
  intro pins st σ H x y v u Q I rx ry h
  rcases h with ⟨l, xs, rfl, rfl, hT, q⟩ | h
  · cases rx
    obtain ⟨t, rfl⟩ := ry
    obtain ⟨its, r, ⟨⟨cls, dd, data, sl⟩, ho, hc, n, hd⟩, hs⟩ := I.tuple hT
    simp only at hc hd
    subst hc hd
    exact wpAny_binaryOp_repeat_ref (T := "tuple") (U := "int") (by decide) ⟨_, ho, rfl⟩ (fun s' => typeIs_int s' 1 t) noFill_tuple_mul F.fills_int_mul F.slot_int_rmul repeat_tuple F.slot_int_index.lookup
      (call_meets F.slot_int_rmul (typeIs_int st 1 t) F.entry_int_rmul (F.args_int_rmul_2 _ _) (int_rmul_tuple 1 t l its.toArray n dd sl)
        ⟨ho, rfl, ⟨_, ho, rfl⟩, call_meets F.slot_tuple_mul ⟨_, ho, rfl⟩ F.entry_tuple_mul (F.args_tuple_mul_2 _ _) (tup_mul1 l its.toArray n dd sl t) ⟨ho, ⟨.ref l, H, I, rfl, q⟩⟩⟩)
  · exact op_repT pins st σ H x y v u Q I rx ry h
end K14
namespace K14
open PySem PySem.Spec PyProof.Rows L2
theorem tupOf_same {H H' : Hp} {v : V} (p : Pl H v) (s : Same H H') : tupOf H' v = tupOf H v := by
  cases p with
  | non => rfl
  | bl b => rfl
  | int i => rfl
  | str z => rfl
  | lst e => simp [tupOf, e, s _ _ e]
  | tup e => simp [tupOf, e, s _ _ e]
theorem pl_VH {H : Hp} {hs : List (Option Nat)} : ∀ x ∈ VH hs, Pl H x := fun x hx => by
  obtain ⟨o, _, rfl⟩ := List.mem_map.mp hx
  cases o with
  | none => exact .non
  | some j => exact .int _
theorem catV {K : PySem.W.Frag} {H : Hp} {a b : Addr} {xs ys : List V} {Q : VK} (ea : H a = some (.tup xs)) (eb : H b = some (.tup ys)) (le : xs.length + ys.length ≤ 1000) (q : ∀ c H', Same H H' → H' c = some (.tup (xs ++ ys)) → Q (.ref c) H') : rCatA K (.ref a) (.ref b) H Q := by
  refine ⟨a, b, xs, ys, rfl, rfl, SqT.of ea, SqT.of eb, sz5 (by omega), fun h => ?_, fun _ h => ?_, fun _ _ p np => q p _ (same_upd np) upd_same⟩
  · subst h
    exact q b H same_rfl eb
  · subst h
    exact q a H same_rfl (by rw [List.append_nil]; exact ea)
theorem leftA_get {ls : List (List Nat)} {hs : List (Option Nat)} {p : Nat} (h : p < ls.length) : (leftA ls hs)[p]? = some (leftL ls hs p) := by
  unfold leftA
  rw [List.getElem?_map, List.getElem?_range h]
  rfl
theorem bstr_eq (b : Bool) : (!decide (V.str (if b then "True" else "False") = V.str (if b then "True" else "False"))) = false := by simp
theorem hv_inj {a b : Option Nat} (e : hv a = hv b) : a = b := by
  cases a with
  | none =>
    cases b with
    | none => rfl
    | some j => cases e
  | some i =>
    cases b with
    | none => cases e
    | some j =>
      have : ((i : Nat) : Int) = (j : Nat) := V.int.inj e
      congr 1
      omega
theorem VH_inj {a b : List (Option Nat)} (e : VH a = VH b) : a = b := by
  unfold VH at e
  exact List.map_inj_right (fun x y h => hv_inj h) |>.mp e
theorem holdsV_ok {H : Hp} {v : V} {ls : List (List Nat)} {hs : List (Option Nat)} (ho : HoldsOk ls hs) (ok : ListsOk ls.length ls) (e : tupOf H v = some (VH hs)) : holdsV H ls v = true := by
  unfold holdsV
  rw [e]
  show (decide ((VH hs).length = ls.length) && _) = true
  rw [Bool.and_eq_true, decide_eq_true_eq, List.all_eq_true]
  refine ⟨by rw [VH_len, ho.len], fun p hp => ?_⟩
  rw [List.mem_range, VH_len] at hp
  have eg : (VH hs).getD p .non = hv (ha hs p) := by
    rw [List.getD_eq_getElem?_getD, VH_get (ha_get hp)]
    rfl
  rw [eg]
  cases eh : ha hs p with
  | none => rfl
  | some j =>
    obtain ⟨h1, h2⟩ := ho.on p j eh
    have h3 := (ok.mate h1 h2).1
    show (decide ((0 : Int) ≤ (j : Nat)) && decide (((j : Nat) : Int) < (ls.length : Nat)) && decide (((j : Nat) : Int).toNat ∈ la ls p)) = true
    simp [h2, h3]
theorem eq_dH (hs : List (Option Nat)) : PyData.eqv (dH hs) (dH hs) = true := by
  refine SeqAt.eqv_refl _ ?_
  have := sh_dH hs
  unfold SeqAt.shaped at this
  rw [Bool.and_eq_true] at this
  exact this.1
def dLi (s : List Nat) : PyData := .list (s.map fun j => .int (j : Nat))
theorem sh_dLi (s : List Nat) : SeqAt.shaped (dLi s) = true := by
  have h := shaped_ints (s.map fun j => ((j : Nat) : Int))
  rw [List.map_map] at h
  exact h
theorem dp_dLi {K : PySem.W.Frag} {H : Hp} {a : Addr} {s : List Nat} (e : H a = some (.lst (VI s))) : Dp K H (.ref a) (dLi s) := by
  refine .lst (SqL.of e) ?_
  unfold VI
  clear e
  induction s with
  | nil => exact .nil
  | cons c r ih => exact .cons (.int _) ih
theorem eq_dLi (s : List Nat) : PyData.eqv (dLi s) (dLi s) = true := by
  refine SeqAt.eqv_refl _ ?_
  have := sh_dLi s
  unfold SeqAt.shaped at this
  rw [Bool.and_eq_true] at this
  exact this.1
theorem tup_its {H : Hp} {u : Addr} {hs : List (Option Nat)} (e : H u = some (.tup (VH hs))) (l : hs.length ≤ 100) : ∀ xs, tupOf H (.ref u) = some xs → xs.length ≤ 1000 ∧ ∀ x ∈ xs, Pl H x := fun xs ex => by
  have tu : tupOf H (.ref u) = some (VH hs) := by simp [tupOf, e]
  rw [tu] at ex
  cases ex
  exact ⟨by rw [VH_len]; omega, fun x hx => pl_VH x hx⟩
theorem holds_yes {H : Hp} {u : Addr} {ls : List (List Nat)} {hs : List (Option Nat)} (e : H u = some (.tup (VH hs))) (ho : HoldsOk ls hs) (ok : ListsOk ls.length ls) : holdsV H ls (.ref u) = true := holdsV_ok ho ok (by simp [tupOf, e])
theorem same_hs {H : Hp} {u : Addr} {hs hs' : List (Option Nat)} (e : H u = some (.tup (VH hs))) (e2 : tupOf H (.ref u) = some (VH hs')) : hs' = hs := by
  have tu : tupOf H (.ref u) = some (VH hs) := by simp [tupOf, e]
  rw [tu] at e2
  exact (VH_inj (Option.some.inj e2)).symm
theorem slC {K : PySem.W.Frag} {H : Hp} {a : Addr} {xs : List V} {lo hi : Option Int} {Q : VK} (ea : H a = some (.tup xs)) (q : ∀ c H', Same H H' → H' c = some (.tup (cutV xs lo hi)) → Q (.ref c) H') : rSlA K (.ref a) lo hi H Q := by
  refine ⟨a, xs, rfl, SqT.of ea, fun h => q a H same_rfl ?_, fun _ p np => q p _ (same_upd np) upd_same⟩
  unfold cutV
  rw [h.1, h.2, List.drop_zero, Nat.sub_zero, List.take_length]
  exact ea
theorem cut_take (xs : List V) (o : Nat) : cutV xs none (some ((o : Nat) : Int)) = xs.take o := by
  unfold cutV
  rw [HT.sIx_none, show HT.sIx xs.length xs.length (some ((o : Nat) : Int)) = min o xs.length from HT.sIx_nat _ _ o, List.drop_zero, Nat.sub_zero]
  by_cases c : o ≤ xs.length
  · rw [Nat.min_eq_left c]
  · rw [Nat.min_eq_right (by omega), List.take_length, List.take_of_length_le (by omega)]
theorem cut_drop (xs : List V) (o : Nat) : cutV xs (some ((o : Nat) + 1 : Int)) none = xs.drop (o + 1) := by
  unfold cutV
  rw [HT.sIx_none, show HT.sIx xs.length 0 (some ((o : Nat) + 1 : Int)) = min (o + 1) xs.length from HT.sIx_nat _ _ (o + 1)]
  by_cases c : o + 1 ≤ xs.length
  · rw [Nat.min_eq_left c, List.take_of_length_le (by simp)]
  · rw [Nat.min_eq_right (by omega), List.drop_eq_nil_of_le (Nat.le_refl _), List.drop_eq_nil_of_le (by omega)]
    simp
theorem set_cut : ∀ (xs : List V) (o : Nat) (v : V), o < xs.length → xs.take o ++ ([v] ++ xs.drop (o + 1)) = xs.set o v
  | [], o, v, h => by simp at h
  | x :: r, 0, v, h => by simp
  | x :: r, o + 1, v, h => by
    have := set_cut r o v (by simpa using h)
    simpa using this
def item (o : Option Nat) : PyData := match o with | none => .none | some j => .int (j : Nat)
theorem item_eqv (a b : Option Nat) : PyData.eqv (item a) (item b) = decide (a = b) := by
  cases a with
  | none =>
    cases b with
    | none => rfl
    | some j => rfl
  | some i =>
    cases b with
    | none => rfl
    | some j =>
      show ((i : Int) == (j : Int)) = _
      by_cases c : i = j
      · subst c; simp
      · rw [decide_eq_false (fun e => c (Option.some.inj e))]
        rw [beq_eq_false_iff_ne]
        omega
theorem eqvAll_items : ∀ (a b : List (Option Nat)), PyData.eqvAll (a.map item) (b.map item) = decide (a = b)
  | [], [] => rfl
  | [], y :: t => rfl
  | x :: s, [] => rfl
  | x :: s, y :: t => by
    simp only [List.map_cons, PyData.eqvAll, item_eqv, eqvAll_items s t]
    by_cases c : x = y
    · subst c
      by_cases d : s = t
      · subst d; simp
      · simp [d]
    · simp [c]
theorem eqv_dH (a b : List (Option Nat)) : PyData.eqv (dH a) (dH b) = decide (a = b) := by
  have := eqvAll_items a b
  show PyData.eqv (.tuple (a.map item)) (.tuple (b.map item)) = _
  simp only [PyData.eqv]
  exact this
def lookL (ls : List (List Nat)) : Bool := (List.range ls.length).all fun i => decide ((la ls i).Nodup) && (la ls i).all fun j => decide (j < ls.length) && decide (j ≠ i) && decide (i ∈ la ls j)
theorem lists_of {ls : List (List Nat)} (h : lookL ls = true) : ListsOk ls.length ls := by
  unfold lookL at h
  rw [List.all_eq_true] at h
  have g : ∀ (i : Nat) (s : List Nat), ls[i]? = some s → i < ls.length ∧ la ls i = s := fun i s e => by
    refine ⟨(List.getElem?_eq_some_iff.mp e).1, ?_⟩
    unfold la
    rw [List.getD_eq_getElem?_getD, e]
    rfl
  refine ⟨rfl, fun i s e => ?_, fun i s j e hj => ?_⟩
  · obtain ⟨hi, es⟩ := g i s e
    have := h i (List.mem_range.mpr hi)
    rw [Bool.and_eq_true, es] at this
    exact of_decide_eq_true this.1
  · obtain ⟨hi, es⟩ := g i s e
    have := h i (List.mem_range.mpr hi)
    rw [Bool.and_eq_true, es, List.all_eq_true] at this
    have z := this.2 j hj
    rw [Bool.and_eq_true, Bool.and_eq_true] at z
    have h1 := of_decide_eq_true z.1.1
    exact ⟨h1, of_decide_eq_true z.1.2, la ls j, la_get h1, of_decide_eq_true z.2⟩
def lookH (ls : List (List Nat)) (hs : List (Option Nat)) : Bool := decide (hs.length = ls.length) && (List.range hs.length).all fun p => match ha hs p with | none => true | some j => decide (j ∈ la ls p)
theorem holds_of {ls : List (List Nat)} {hs : List (Option Nat)} (h : lookH ls hs = true) : HoldsOk ls hs := by
  unfold lookH at h
  rw [Bool.and_eq_true, List.all_eq_true] at h
  have hl := of_decide_eq_true h.1
  refine ⟨hl, fun p j e => ?_⟩
  have hp : p < hs.length := ha_lt e
  have := h.2 p (List.mem_range.mpr hp)
  rw [e] at this
  exact ⟨by omega, of_decide_eq_true this⟩
def lookN (ns : List (List Nat)) : Bool := (ns.all fun s => decide (1 ≤ s.length) && decide (s.length ≤ 6) && s.all fun c => decide (97 ≤ c) && decide (c ≤ 122)) && (List.range ns.length).all fun i => match ns[i]?, ns[i + 1]? with | some s, some t => decide (s < t) | _, _ => true
theorem names_look {ns : List (List Nat)} (h : lookN ns = true) : NamesOk ns.length ns := by
  unfold lookN at h
  rw [Bool.and_eq_true, List.all_eq_true, List.all_eq_true] at h
  refine ⟨rfl, fun s hs => ?_, fun i s t e1 e2 => ?_⟩
  · have := h.1 s hs
    rw [Bool.and_eq_true, Bool.and_eq_true, List.all_eq_true] at this
    refine ⟨of_decide_eq_true this.1.1, of_decide_eq_true this.1.2, fun c hc => ?_⟩
    have z := this.2 c hc
    rw [Bool.and_eq_true] at z
    exact ⟨of_decide_eq_true z.1, of_decide_eq_true z.2⟩
  · have := h.2 i (List.mem_range.mpr (List.getElem?_eq_some_iff.mp e1).1)
    rw [e1, e2] at this
    exact of_decide_eq_true this
theorem repN {K : PySem.W.Frag} {H : Hp} {t : Addr} {m : Nat} {Q : VK} (e : H t = some (.tup [.non])) (h1 : 1 ≤ m) (h2 : m ≤ 1000) (q : ∀ c H', Same H H' → H' c = some (.tup (VH (List.replicate m none))) → Q (.ref c) H') : rRepA K (.ref t) (.int (m : Nat)) H Q := by
  by_cases c : m = 1
  · subst c
    exact .inl ⟨t, [.non], rfl, rfl, SqT.of e, q t H same_rfl e⟩
  · refine .inr ⟨t, (m : Int), [.non], rfl, rfl, SqT.of e, by simp, by omega, by omega, by simp, fun p np => q p _ (same_upd np) ?_⟩
    rw [upd_same]
    congr 2
    rw [Int.toNat_natCast]
    unfold VH
    rw [List.map_replicate]
    clear c h1 h2 q
    induction m with
    | zero => rfl
    | succ n ih => rw [List.replicate_succ, List.flatten_cons, ih, List.replicate_succ]; rfl
theorem none_ok {ls : List (List Nat)} {m : Nat} (h : ls.length = m) : HoldsOk ls (List.replicate m none) := by
  refine ⟨by simp [h], fun p j e => ?_⟩
  unfold ha at e
  rw [List.getD_eq_getElem?_getD, List.getElem?_replicate] at e
  split at e <;> cases e
theorem holdsV_same {H H' : Hp} {ls : List (List Nat)} {v : V} (p : Pl H v) (s : Same H H') : holdsV H' ls v = holdsV H ls v := by
  unfold holdsV
  rw [tupOf_same p s]
theorem lt_five {H : Hp} {t r1 r2 r3 r4 r5 : Addr} {s1 s2 s3 s4 s5 : List Nat} (e : H t = some (.tup [.ref r1, .ref r2, .ref r3, .ref r4, .ref r5]))
    (e1 : H r1 = some (.tup (VI s1))) (e2 : H r2 = some (.tup (VI s2))) (e3 : H r3 = some (.tup (VI s3))) (e4 : H r4 = some (.tup (VI s4))) (e5 : H r5 = some (.tup (VI s5))) : LT H t [s1, s2, s3, s4, s5] := by
  refine ⟨[r1, r2, r3, r4, r5], e, rfl, fun i a s h1 h2 => ?_⟩
  match i, h1, h2 with
  | 0, h1, h2 => cases h1; cases h2; exact .inl e1
  | 1, h1, h2 => cases h1; cases h2; exact .inl e2
  | 2, h1, h2 => cases h1; cases h2; exact .inl e3
  | 3, h1, h2 => cases h1; cases h2; exact .inl e4
  | 4, h1, h2 => cases h1; cases h2; exact .inl e5
  | _ + 5, h1, h2 => cases h1
theorem stays {H : Hp} {p : Addr} {o : HO} (n : H p = none) {b : Addr} {u : HO} (e : H b = some u) : (upd H p o) b = some u := same_upd n b u e
theorem repZ {K : PySem.W.Frag} {H : Hp} {t : Addr} {m : Nat} {z : Int} {Q : VK} (hz : z = (m : Nat)) (e : H t = some (.tup [.non])) (h1 : 1 ≤ m) (h2 : m ≤ 1000) (q : ∀ c H', Same H H' → H' c = some (.tup (VH (List.replicate m none))) → Q (.ref c) H') : rRepA K (.ref t) (.int z) H Q := by
  subst hz
  exact repN e h1 h2 q
end K14
/-! isinstance of a caught error that has fields; a lambda heard: told, or refused with its word -/
namespace K14
open PySem PySem.Spec PyProof.Rows L2
def rIsX (K : PySem.W.Frag) (D a : Addr) (cls : Value) (d : Option Addr) : List V → Hp → VK → Prop := fun xs H Q => ∃ (c : V) (cv : Value) (b : Bool) (dd : Addr) (fs : List (Str × V)), xs = [.ref a, c] ∧ cls = .ref D ∧ d = some dd ∧ H dd = some (.xd fs) ∧ (∀ u, RelV c u → u = cv) ∧ PySem.W.kitOne K (.ref D) cv = some b ∧ Q (.bl b) H
theorem call_isX {X : Cx} {a D : Addr} {oe : Obj} {cls : Value} {d : Option Addr} {pn : List (Addr × Obj)} (C : ExcC X.K D) (hz : Zc cls d oe) (hf : ∃ vs, oe.data = .fields vs) : CallR (X.suite a ((a, oe) :: pn)) (.builtin "isinstance") (rIsX X.K D a cls d) := by
  intro pins s σ H xs us Q I r h
  obtain ⟨c, cv, b, dd, fs, rfl, rfl, rfl, ea, hcv, e, q⟩ := h
  match us, r with
  | _, .cons rx (.cons rt .nil) =>
    have e1 := hcv _ rt
    subst e1
    cases rx
    have at_a := (I.pin (a, oe) (List.mem_append_left _ List.mem_cons_self)).1
    obtain ⟨vs, hv⟩ := hf
    obtain ⟨mA, ns, _⟩ := (I.hok dd _ ea : ObjOk X.prog X.w H s.heap dd (.xd fs))
    obtain ⟨od, od1, _⟩ := lookIn_ns ns
    have J : PySem.W.InstAt s.heap a oe D (some od) := ⟨at_a, hz.1, by unfold PySem.W.notCls; rw [hv] <;> rfl, by rw [hz.2]; exact od1⟩
    have isc : (PySem.W.clsIn X.K D).isSome = true := by
      obtain ⟨cd, hc, _⟩ := PySem.W.any_some C.hd
      rw [hc]
      rfl
    exact PySem.W.kia_one (PySem.W.kitx_exc isc C.hg C.hk C.hs C.ha C.hn C.ht C.hm) I.kIn J e (fun z => nomatch z) fun tk => ⟨.bl b, H, I.kept (t' := tk) fun _ _ z => z, rfl, q⟩
/-- what the top says of the errors: Refused at CR, MateError at CM -/
structure ErrT (K : PySem.W.Frag) (mg : Str → Option Value) (CR CM fI : Addr) : Prop where
  o : OexC K CR
  x : XfC K CR
  c : ExcC K CR
  noW : PySem.W.findIn K (.ref CR) "word" = some none
  iC : PySem.W.findIn K (.ref CR) "__init__" = some (some (.ref fI))
  tI : PySem.W.typeIn K (.ref fI) = some (.type "function")
  gR : mg "Refused" = some (.ref CR)
  gM : mg "MateError" = some (.ref CM)
  kM : PySem.W.keepIn K (.ref CM) = true
  ex : PySem.W.exmOne K (.ref CR) (.ref CR) = some true
  is : PySem.W.kitOne K (.ref CR) (.ref CM) = some true
/-- what is made of a lambda that is heard -/
def THeard (CR : Addr) : (XK → Hp → VK → Prop) → Hp → VK → Prop := fun tl H Q =>
  tl (fun cls d H' => cls = .ref CR ∧ ∃ (dd : Addr) (wd : V), d = some dd ∧ H' dd = some (.xd [("word", wd)]) ∧ ∀ p, H' p = none → Q (.ref p) (upd H' p (.tup [.str "refused", wd]))) H
    fun v H' => 2 ≤ sizeLine ∧ ∀ p, H' p = none → Q (.ref p) (upd H' p (.tup [.str "told", v]))
theorem scHeard : FnScope ["action", "error"] ["action"] (defScope sLHeard) := ⟨rfl, rfl, rfl, by decide +kernel, rfl, by decide +kernel, by decide +kernel⟩
theorem two_of_len {σ : L2.St} (h : σ.length = 2) : ∃ x y, σ = [x, y] := by
  match σ, h with
  | [x, y], _ => exact ⟨x, y, rfl⟩
theorem heard_gives {X : Cx} {g CR CM fI : Addr} {cdg : Value} {q : Str} (T : ErrT X.K X.mg CR CM fI) (mis : X.mg "isinstance" = none) : LamX.GivesTo X ["action", "error"] "_law_heard" (defScope sLHeard) g cdg (defBody sLHeard) "action" q (THeard CR) := by
  intro f c' s H Q tl act hc h
  have s2 : ([V.str "told", V.non] : List V).length ≤ sizeLine := by show 2 ≤ sizeLine; decide
  refine ⟨_, pss_one (ps_try_as (X := (cxOf C8.CX0 X.prog X.w X.K X.mg X.base ["action", "error"] "_law_heard" (defScope sLHeard) g cdg X.A X.stack s H C8.E0).nox) (i := 1) (c := .ref CR)
      (tb := fun W D σ H => ∃ Ech : XK, (∀ cls d σ' H', σ'.length = 2 → Ech cls d H' → W cls d σ' H') ∧ σ[0]? = some (some (.ref f)) ∧ H c' = some (LamX.CodeO c' q) ∧ tl Ech H fun v H1 => 2 ≤ sizeLine ∧ ∀ p, H1 p = none → D.rt (.ref p) (upd H1 p (.tup [.str "told", v])))
      (ts := fun a cls d => tRet (tTup (tCons (tC (.str "refused")) (tCons (tIf (tB (tCB (rIsX X.K CR a cls d) (tCons (tVar 1) (tCons (tC (.ref CM)) tNil)))) (tXf a cls d CR "word" (tVar 1)) (tC (.str "mixed"))) tNil))))
      rfl rfl scHeard.nd rfl rfl ⟨rfl, by decide, .inl T.gR⟩ LamX.takes0 (fun W pn xe tk _ => ?_) (fun a oe cls d pn hz hf => ?_)), ?_⟩
  · refine ⟨fun pins s' σ H' D I h' => ?_⟩
    obtain ⟨Ech, hW, h1, h2, h3⟩ := h'
    have tk0 : Takes ((cxOf C8.CX0 X.prog X.w X.K X.mg X.base ["action", "error"] "_law_heard" (defScope sLHeard) g cdg X.A X.stack s H C8.E0).tr pn xe) (fun cls d σ' H' => W cls d σ' H' ∨ σ'.length ≠ 2) := by
      rintro u s9 ⟨a, B, sI, pins9, σ9, H9, cls, d, e, I9, nb, up, sky, na, os, ag, w⟩
      refine tk u s9 ⟨a, B, sI, pins9, σ9, H9, cls, d, e, I9, nb, up, sky, na, os, ag, ?_⟩
      rcases w with w | w
      · exact w
      · exact absurd I9.len w
    have hW0 : ∀ cls d σ' H', Ech cls d H' → W cls d σ' H' ∨ σ'.length ≠ 2 := fun cls d σ' H' hE => by
      by_cases c : σ'.length = 2
      · exact .inl (hW cls d σ' H' c hE)
      · exact .inr c
    refine (pss_one (ps_ret (pe_tup (pa_cons pe_str (pa_cons (act _ pn xe Ech _ _ tk0 hW0) pa_nil))))).run pins s' σ H' D I ?_
    exact ⟨h1, h2, h3⟩
  · exact pss_one (ps_ret (pe_tup (pa_cons pe_str (pa_cons (pe_ifExp (pt_val (pe_callB (call_isX T.c hz hf) (by rfl) mis (by decide +kernel) (pa_cons (pv 1) (pa_cons (pe_glob (v := .ref CM) rfl T.gM rfl) pa_nil)))) (pe_xf T.x T.noW hz hf (pv 1)) pe_str) pa_nil))))
  · refine ⟨fun cls d H' => cls = .ref CR ∧ ∃ (dd : Addr) (wd : V), d = some dd ∧ H' dd = some (.xd [("word", wd)]) ∧ ∀ p, H' p = none → Q (.ref p) (upd H' p (.tup [.str "refused", wd])), fun cls d σ' H' l2 hE => ?_, rfl, hc, ?_⟩
    · obtain ⟨x, y, rfl⟩ := two_of_len l2
      obtain ⟨rfl, dd, wd, rfl, ed, qq⟩ := hE
      refine ⟨true, T.ex, fun _ a na => ?_, fun z => nomatch z⟩
      refine ⟨_, rfl, .ref CM, .ref CM, true, dd, _, rfl, rfl, rfl, ed, fun u r => r, T.is, true, rfl, iteT ?_⟩
      exact ⟨_, rfl, rfl, rfl, dd, _, wd, rfl, ed, by simp [List.lookup], (by show 2 ≤ sizeLine; decide), qq⟩
    · exact h
end K14
namespace K14
open PySem PySem.Spec PyProof.Rows L2
/-! ### asking with those who wait in a row -/
structure AO (ls : List (List Nat)) (hs : List (Option Nat)) (ws : List Nat) : Prop where
  half : Half ls hs
  top : Top ls hs
  nd : ws.Nodup
  fr : ∀ p ∈ ws, p < ls.length ∧ ∀ q, q < ls.length → ha hs q ≠ some p
  done : ∀ p, p < ls.length → p ∉ ws → (∀ q, q < ls.length → ha hs q ≠ some p) → fst ls hs p = none
section
variable {ls : List (List Nat)} {hs : List (Option Nat)} (ok : ListsOk ls.length ls)
theorem ao_start : AO ls (List.replicate ls.length none) (List.range ls.length) :=
  ⟨half_none, top_none, List.nodup_range, fun p hp => ⟨List.mem_range.mp hp, fun q _ e => by rw [ha_none] at e; cases e⟩, fun p hp h => absurd (List.mem_range.mpr hp) h⟩
theorem ao_pop {us : List Nat} {p : Nat} (a : AO ls hs (us ++ [p])) (e : fst ls hs p = none) : AO ls hs us := by
  refine ⟨a.half, a.top, (List.nodup_append.mp a.nd).1, fun x hx => a.fr x (by simp [hx]), fun x hx hn hf => ?_⟩
  by_cases c : x = p
  · rw [c]; exact e
  · exact a.done x hx (by simp [hn, c]) hf
include ok in
theorem ao_ask {us : List Nat} {p j : Nat} (a : AO ls hs (us ++ [p])) (e : fst ls hs p = some j) :
    AO ls (hs.set j (some p)) (us ++ (ha hs j).toList) ∧ sumM ls (hs.set j (some p)) < sumM ls hs := by
  obtain ⟨hp, free⟩ := a.fr p (by simp)
  obtain ⟨h1, h2⟩ := ask ok a.half hp e free
  have jm := fst_mem e
  obtain ⟨m1, m2, m3⟩ := (mem_left ok hp).mp jm
  obtain ⟨j1, j2, j3⟩ := ok.mate hp m1
  have jl : j < hs.length := by rw [a.half.ok.len]; exact j1
  have hset := fun q => ha_set (hs := hs) (j := j) (p := p) (q := q) jl
  have le : ∀ q, q < ls.length → most ls (hs.set j (some p)) q ≤ most ls hs q := fun q _ => by
    by_cases c : q = j
    · subst c
      rw [most_some (show ha (hs.set q (some p)) q = some p by rw [hset, if_pos rfl])]
      exact m3
    · rw [most_eq (show ha (hs.set j (some p)) q = ha hs q by rw [hset, if_neg c])]
      exact Nat.le_refl _
  have nd := List.nodup_append.mp a.nd
  have one : ∀ q, ha hs j = some q → q < ls.length ∧ q ≠ p ∧ ∀ k, k < ls.length → ha hs k = some q → k = j := fun q eq => by
    refine ⟨(ok.mate j1 (a.half.ok.on j q eq).2).1, fun z => free j j1 (by rw [← z]; exact eq), fun k hk ek => ?_⟩
    have f1 := a.half.a j q j1 eq
    have f2 := a.half.a k q hk ek
    rw [f1] at f2
    exact (Option.some.inj f2).symm
  refine ⟨⟨h1, ask_top ok a.half a.top hp e, ?_, ?_, ?_⟩, h2⟩
  · cases eq : ha hs j with
    | none => simpa using nd.1
    | some q =>
      rw [List.nodup_append]
      refine ⟨nd.1, by simp, fun x hx y hy z => ?_⟩
      have hy' : y = q := by simpa using hy
      subst hy'
      subst z
      exact (a.fr x (by simp [hx])).2 j j1 eq
  · intro x hx
    rcases List.mem_append.mp hx with hx | hx
    · have f := a.fr x (by simp [hx])
      refine ⟨f.1, fun q hq z => ?_⟩
      rw [hset] at z
      by_cases c : q = j
      · rw [if_pos c] at z
        cases z
        exact nd.2.2 p hx p (by simp) rfl
      · rw [if_neg c] at z
        exact f.2 q hq z
    · cases eq : ha hs j with
      | none => rw [eq] at hx; simp at hx
      | some y =>
        rw [eq] at hx
        have hx' : x = y := by simpa using hx
        subst hx'
        obtain ⟨b1, b2, b3⟩ := one x eq
        refine ⟨b1, fun q hq z => ?_⟩
        rw [hset] at z
        by_cases c : q = j
        · rw [if_pos c] at z
          exact b2 (Option.some.inj z).symm
        · rw [if_neg c] at z
          exact c (b3 q hq z)
  · intro x hx hn hf
    have xp : x ≠ p := fun z => hf j j1 (by rw [hset, if_pos rfl, z])
    have hf' : ∀ q, q < ls.length → ha hs q ≠ some x := fun q hq z => by
      by_cases c : q = j
      · subst c
        exact hn (by rw [z]; simp)
      · exact hf q hq (by rw [hset, if_neg c]; exact z)
    have hn' : x ∉ us ++ [p] := fun z => by
      rcases List.mem_append.mp z with z | z
      · exact hn (by simp [z])
      · exact xp (by simpa using z)
    have f0 := a.done x hx hn' hf'
    cases ef : fst ls (hs.set j (some p)) x with
    | none => rfl
    | some k =>
      have := left_le le ok hx (fst_mem ef)
      rw [fst_none.mp f0] at this
      cases this
theorem ao_end (a : AO ls hs []) : Great ls hs := great_of a.half a.top fun p j hp e => Classical.byContradiction fun c => by
  have := a.done p hp (by simp) fun q hq z => c ⟨q, hq, z⟩
  rw [e] at this
  cases this
end
end K14
namespace K14
open PySem PySem.Spec PyProof.Rows L2
/-! ### what stays when a ring is turned out -/
section
variable {ls : List (List Nat)} {hs S : List (Option Nat)} {s g : Nat → Nat} {X : Nat → Prop} (ok : ListsOk ls.length ls)
include ok in
/-- two steady holds leave nobody to the same persons -/
theorem left_none_same (ho : HoldsOk ls hs) (st : Std ls hs) (so : HoldsOk ls S) (ss : Std ls S) {p : Nat} (hp : p < ls.length) : leftL ls S p = [] ↔ leftL ls hs p = [] := by
  obtain ⟨g, G⟩ := great_ex ok
  rw [single_same ok G so ss hp, single_same ok G ho st hp]
include ok in
theorem fst_some (ho : HoldsOk ls hs) (st : Std ls hs) (so : HoldsOk ls S) (ss : Std ls S) {p o : Nat} (hp : p < ls.length) (h : o ∈ leftL ls hs p) : ∃ f, fst ls S p = some f := by
  cases e : fst ls S p with
  | some f => exact ⟨f, rfl⟩
  | none =>
    have := (left_none_same ok ho st so ss hp).mp (fst_none.mp e)
    rw [this] at h
    cases h
include ok in
theorem same_rank {p o o' : Nat} (h : o ∈ la ls p) (h' : o' ∈ la ls p) (e : (la ls p).idxOf o = (la ls p).idxOf o') : o = o' := by
  have h1 := List.idxOf_lt_length_of_mem h
  have e1 : (la ls p)[(la ls p).idxOf o]? = some o := by rw [List.getElem?_eq_getElem h1, List.getElem_idxOf]
  have h2 := List.idxOf_lt_length_of_mem h'
  have e2 : (la ls p)[(la ls p).idxOf o']? = some o' := by rw [List.getElem?_eq_getElem h2, List.getElem_idxOf]
  rw [e, e2] at e1
  exact (Option.some.inj e1).symm
include ok in
/-- the giver is ahead of the giver behind, for the taker between them -/
theorem Giv.ahead (ho : HoldsOk ls hs) {p t q : Nat} (G : Giv ls hs p t q) : (la ls t).idxOf p < (la ls t).idxOf q := by
  obtain ⟨a1, a2, a3⟩ := (mem_left ok G.sl).mp G.ps
  rw [most_some G.held] at a2
  refine Nat.lt_of_le_of_ne a2 fun z => G.ne ?_
  exact (same_rank ok a1 (ho.on t q G.held).2 z).symm
include ok in
/-- whoever's second one would have been its first one then -/
theorem second_is (ho : HoldsOk ls hs) (st : Std ls hs) (so : HoldsOk ls S) (ss : Std ls S) (le : ∀ y, y < ls.length → most ls S y ≤ most ls hs y) {p t q : Nat} (hp : p < ls.length) (G : Giv ls hs p t q) (ne : fst ls S p ≠ fst ls hs p) (h : (la ls t).idxOf p ≤ most ls S t) : fst ls S p = some t := by
  obtain ⟨f, ef⟩ := fst_some ok ho st so ss hp G.sn.mem
  have fm := fst_mem ef
  have fh := left_le le ok hp fm
  have f1 : fst ls hs p ≠ some f := fun z => ne (by rw [ef, z])
  have r1 := G.sn.min f fh f1
  obtain ⟨b1, b2, b3⟩ := (mem_left ok hp).mp fm
  obtain ⟨c1, c2, c3⟩ := (mem_left ok hp).mp G.sn.mem
  have sm : t ∈ leftL ls S p := (mem_left ok hp).mpr ⟨c1, by omega, h⟩
  have r2 := fst_min ok hp ef sm
  rw [ef, same_rank ok b1 c1 (by omega)]
include ok in
/-- if the giver behind keeps its first one, so does the giver -/
theorem back (ho : HoldsOk ls hs) (st : Std ls hs) (so : HoldsOk ls S) (ss : Std ls S) (le : ∀ y, y < ls.length → most ls S y ≤ most ls hs y) {p t q : Nat} (hp : p < ls.length) (G : Giv ls hs p t q) (h : fst ls S q = fst ls hs q) : fst ls S p = fst ls hs p := by
  refine Classical.byContradiction fun ne => ?_
  rw [G.fq] at h
  have sq := ss.b q t G.ql h
  have ah := G.ahead ok ho
  have e := second_is ok ho st so ss le hp G ne (by rw [most_some sq]; omega)
  have sp := ss.b p t hp e
  rw [sq] at sp
  exact G.ne (Option.some.inj sp)
include ok in
/-- lesser steady holds stay behind a ring exactly if no giver keeps its first one -/
theorem stays_iff (ho : HoldsOk ls hs) (st : Std ls hs) (so : HoldsOk ls S) (ss : Std ls S) (le : ∀ y, y < ls.length → most ls S y ≤ most ls hs y) (R : Rng ls hs s g X) :
    (∀ y, y < ls.length → most ls S y ≤ most ls (outOf ls hs s X) y) ↔ ∀ x, X x → fst ls S x ≠ fst ls hs x := by
  constructor
  · intro h x hx e
    obtain ⟨z, hz, rfl⟩ := R.pr x hx
    have G := R.giv z hz
    rw [G.fq] at e
    have sq := ss.b _ _ G.ql e
    have l := h (s z) G.sl
    rw [most_some sq, most_some (out_yes R hz)] at l
    have := G.ahead ok ho
    omega
  · intro h y hy
    by_cases c : ∃ x, X x ∧ s x = y
    · obtain ⟨x, hx, rfl⟩ := c
      rw [most_some (out_yes R hx)]
      refine Classical.byContradiction fun n => ?_
      have G := R.giv x hx
      have e := second_is ok ho st so ss le (R.lt x hx) G (h x hx) (by omega)
      have sp := ss.b x (s x) (R.lt x hx) e
      rw [most_some sp] at n
      omega
    · rw [most_eq (out_no hy fun x hx z => c ⟨x, hx, z⟩)]
      exact le y hy
include ok in
/-- in one ring all keep their first ones if one does -/
theorem all_keep (ho : HoldsOk ls hs) (st : Std ls hs) (so : HoldsOk ls S) (ss : Std ls S) (le : ∀ y, y < ls.length → most ls S y ≤ most ls hs y) (R : Rng ls hs s g X) {x : Nat} (e : fst ls S x = fst ls hs x) : ∀ (k z : Nat), X z → it g k z = x → fst ls S z = fst ls hs z
  | 0, z, hz, h => by
    have h' : z = x := h
    rw [h']
    exact e
  | k + 1, z, hz, h => by
    have h' : it g k (g z) = x := by
      have := it_add g k 1 z
      rw [h] at this
      exact this.symm
    exact back ok ho st so ss le (R.lt z hz) (R.giv z hz) (all_keep ho st so ss le R e k (g z) (R.nx z hz) h')
end
end K14
namespace K14
open PySem PySem.Spec PyProof.Rows L2
/-! ### odd rings are all there is, where nothing lesser is -/
theorem two_mem {l : List Nat} {a b c : Nat} (h : l.length = 2) (ha : a ∈ l) (hb : b ∈ l) (ne : a ≠ b) (hc : c ∈ l) : c = a ∨ c = b := by
  refine Classical.byContradiction fun n => ?_
  have n1 : c ≠ a := fun z => n (.inl z)
  have n2 : c ≠ b := fun z => n (.inr z)
  have := nodup_sub_len (s := [a, b, c]) (t := l) (by simp [ne, Ne.symm n1, Ne.symm n2]) fun x hx => by
    simp only [List.mem_cons, List.not_mem_nil, or_false] at hx
    rcases hx with rfl | rfl | rfl
    · exact ha
    · exact hb
    · exact hc
  simp at this
  omega
section
variable {ls : List (List Nat)} {hs S : List (Option Nat)} {s g : Nat → Nat} {X : Nat → Prop} (ok : ListsOk ls.length ls)
include ok in
theorem held_mem (ho : HoldsOk ls hs) (st : Std ls hs) {p j : Nat} (hp : p < ls.length) (e : ha hs p = some j) : j ∈ leftL ls hs p := by
  have h := last_held ok ho st hp
  rw [e] at h
  exact List.mem_of_getLast? h
include ok in
/-- in lesser steady holds that give no giver of an odd ring its first one: there are none -/
theorem odd_none (ho : HoldsOk ls hs) (st : Std ls hs) (so : HoldsOk ls S) (ss : Std ls S) (le : ∀ y, y < ls.length → most ls S y ≤ most ls hs y) (giv : ∀ x, X x → Giv ls hs x (s x) (g x)) (lt : ∀ x, X x → x < ls.length)
    (odd : ∀ x, X x → (∃ w, X w ∧ s w = x) ∧ (leftL ls hs x).length = 2) (ne : ∀ x, X x → fst ls S x ≠ fst ls hs x) (ex : ∃ x, X x) : False := by
  -- all are led to their second ones
  have key : ∀ x, X x → ∃ f, fst ls hs x = some f ∧ fst ls S x = some (s x) ∧ f ≠ s x ∧ ∀ o ∈ leftL ls hs x, o = f ∨ o = s x := by
    intro x hx
    have G := giv x hx
    obtain ⟨f, ef⟩ := fst_some ok so ss ho st (lt x hx) (o := (fst ls S x).getD 0) (by
      obtain ⟨f', ef'⟩ := fst_some ok ho st so ss (lt x hx) G.sn.mem
      rw [ef']
      exact fst_mem ef')
    have nf : f ≠ s x := fun z => G.sn.ne (by rw [ef, z])
    have all : ∀ o ∈ leftL ls hs x, o = f ∨ o = s x := fun o h => two_mem (odd x hx).2 (fst_mem ef) G.sn.mem nf h
    obtain ⟨f', ef'⟩ := fst_some ok ho st so ss (lt x hx) G.sn.mem
    rcases all f' (left_le le ok (lt x hx) (fst_mem ef')) with z | z
    · exact absurd (by rw [ef', ef, z]) (ne x hx)
    · exact ⟨f, ef, by rw [ef', z], nf, all⟩
  obtain ⟨x, hx⟩ := ex
  obtain ⟨⟨w, hw, rfl⟩, _⟩ := odd x hx
  obtain ⟨f, ef, eS, nf, all⟩ := key _ hx
  obtain ⟨_, _, eSw, _, _⟩ := key w hw
  have Sw := ss.b w (s w) (lt w hw) eSw
  have wm := held_mem ok so ss (lt _ hx) Sw
  have w2 : w = s (s w) := by
    rcases all w (left_le le ok (lt _ hx) wm) with z | z
    · exfalso
      have r1 := fst_min ok (lt _ hx) eS wm
      have r2 := fst_min ok (lt _ hx) ef (giv _ hx).sn.mem
      have e1 : (la ls (s w)).idxOf w = (la ls (s w)).idxOf f := congrArg (fun q => (la ls (s w)).idxOf q) z
      have m1 := ((mem_left ok (lt _ hx)).mp (fst_mem ef)).1
      have m2 := ((mem_left ok (lt _ hx)).mp (giv _ hx).sn.mem).1
      exact nf (same_rank ok m1 m2 (by omega))
    · exact z
  -- its second one is held
  have Gw := giv w hw
  have hm := held_mem ok ho st (lt _ hx) Gw.held
  rcases all (g w) hm with z | z
  · -- held first: the same as the last
    have m1 := ((mem_left ok (lt _ hx)).mp (giv _ hx).sn.mem)
    have r2 := fst_min ok (lt _ hx) ef (giv _ hx).sn.mem
    rw [most_some Gw.held, z] at m1
    have m2 := ((mem_left ok (lt _ hx)).mp (fst_mem ef)).1
    exact nf (same_rank ok m2 m1.1 (by omega))
  · rw [← w2] at z
    exact Gw.ne z
end
end K14
namespace K14
open PySem PySem.Spec PyProof.Rows L2
/-! ### a ring that is not odd may be turned out -/
/-- barred: its taker's first one is itself, and its taker gives, too -/
def Bad (ls : List (List Nat)) (hs : List (Option Nat)) (s : Nat → Nat) (X : Nat → Prop) (z : Nat) : Prop := X z ∧ X (s z) ∧ fst ls hs (s z) = some z
section
variable {ls : List (List Nat)} {hs : List (Option Nat)} {s g : Nat → Nat} {X : Nat → Prop} (ok : ListsOk ls.length ls)
include ok in
/-- who is barred has just two left -/
theorem bad_two (ho : HoldsOk ls hs) (st : Std ls hs) (giv : ∀ x, X x → Giv ls hs x (s x) (g x)) (lt : ∀ x, X x → x < ls.length) {z : Nat} (h : Bad ls hs s X z) : ∃ f, fst ls hs z = some f ∧ f ≠ s z ∧ ha hs z = some (s z) ∧ ∀ o ∈ leftL ls hs z, o = f ∨ o = s z := by
  obtain ⟨h1, h2, h3⟩ := h
  have G := giv z h1
  have hd := st.b (s z) z G.sl h3
  obtain ⟨f, ef⟩ := fst_some ok ho st ho st (lt z h1) G.sn.mem
  refine ⟨f, ef, fun e => G.sn.ne (by rw [ef, e]), hd, fun o h => ?_⟩
  by_cases c : o = f
  · exact .inl c
  · refine .inr ?_
    have r1 := G.sn.min o h (fun e => c (by rw [ef] at e; exact (Option.some.inj e).symm))
    obtain ⟨b1, b2, b3⟩ := (mem_left ok (lt z h1)).mp h
    obtain ⟨c1, c2, c3⟩ := (mem_left ok (lt z h1)).mp G.sn.mem
    rw [most_some hd] at b2
    exact same_rank ok b1 c1 (by omega)
include ok in
theorem bad_step (ho : HoldsOk ls hs) (st : Std ls hs) (giv : ∀ x, X x → Giv ls hs x (s x) (g x)) (lt : ∀ x, X x → x < ls.length) (pr : ∀ p, X p → ∃ z, X z ∧ g z = p) {z : Nat} (h : Bad ls hs s X z) : ∃ w, Bad ls hs s X w ∧ s w = z := by
  obtain ⟨f, ef, nf, hd, all⟩ := bad_two ok ho st giv lt h
  obtain ⟨h1, h2, h3⟩ := h
  obtain ⟨w, hw, gw⟩ := pr _ h2
  have G := giv w hw
  have e1 := G.fq
  rw [gw, h3] at e1
  have sw : s w = z := (Option.some.inj e1).symm
  refine ⟨w, ⟨hw, by rw [sw]; exact h1, ?_⟩, sw⟩
  have wm := G.ps
  rw [sw] at wm
  rw [sw, ef]
  rcases all w wm with e | e
  · rw [e]
  · exfalso
    have n := G.ne
    rw [gw] at n
    exact n e.symm
include ok in
theorem bad_next (ho : HoldsOk ls hs) (st : Std ls hs) (giv : ∀ x, X x → Giv ls hs x (s x) (g x)) (lt : ∀ x, X x → x < ls.length) (pr : ∀ p, X p → ∃ z, X z ∧ g z = p) {z : Nat} (h : Bad ls hs s X z) : Bad ls hs s X (s z) := by
  have ex : ∀ q : {z : Nat // Bad ls hs s X z}, ∃ w : {z : Nat // Bad ls hs s X z}, s w.1 = q.1 := fun q => by
    obtain ⟨w, hw, e⟩ := bad_step ok ho st giv lt pr q.2
    exact ⟨⟨w, hw⟩, e⟩
  obtain ⟨φ, hφ⟩ : ∃ φ : {z : Nat // Bad ls hs s X z} → {z : Nat // Bad ls hs s X z}, ∀ q, s (φ q).1 = q.1 := ⟨fun q => Classical.choose (ex q), fun q => Classical.choose_spec (ex q)⟩
  let F : Nat → {z : Nat // Bad ls hs s X z} := fun k => Nat.rec ⟨z, h⟩ (fun _ q => φ q) k
  have F0 : (F 0).1 = z := rfl
  have F1 : ∀ k, s (F (k + 1)).1 = (F k).1 := fun k => hφ (F k)
  obtain ⟨i, j, ij, e⟩ := meets (x := fun k => (F k).1) (n := ls.length) fun m => lt _ (F m).2.1
  -- going back from both
  have down : ∀ a b, (F a).1 = (F b).1 → a ≤ b → (F (b - a)).1 = z := by
    intro a
    induction a with
    | zero =>
      intro b e _
      rw [Nat.sub_zero, ← e]
      exact F0
    | succ a ih =>
      intro b e le
      match b, le with
      | b + 1, le =>
        have e' : (F a).1 = (F b).1 := by rw [← F1 a, ← F1 b, e]
        have := ih b e' (by omega)
        rw [show b + 1 - (a + 1) = b - a by omega]
        exact this
  have d := down i j e (by omega)
  obtain ⟨k, hk⟩ : ∃ k, j - i = k + 1 := ⟨j - i - 1, by omega⟩
  rw [hk] at d
  have := F1 k
  rw [d] at this
  rw [this]
  exact (F k).2
include ok in
/-- if one of a ring is barred, the ring is odd -/
theorem bad_odd (ho : HoldsOk ls hs) (st : Std ls hs) (giv : ∀ x, X x → Giv ls hs x (s x) (g x)) (lt : ∀ x, X x → x < ls.length) (pr : ∀ p, X p → ∃ z, X z ∧ g z = p) (conn : ∀ x y, X x → X y → ∃ k, it g k x = y) {z : Nat} (h : Bad ls hs s X z) :
    ∀ x, X x → (∃ w, X w ∧ s w = x) ∧ (leftL ls hs x).length = 2 := by
  have step : ∀ x, Bad ls hs s X x → Bad ls hs s X (g x) := fun x hx => by
    have h1 := bad_next ok ho st giv lt pr hx
    have h2 := bad_next ok ho st giv lt pr h1
    have e1 := (giv x hx.1).held
    have e2 := st.b _ _ (giv _ h1.1).sl h1.2.2
    rw [e1] at e2
    rw [Option.some.inj e2]
    exact h2
  have all : ∀ k, Bad ls hs s X (it g k z) := by
    intro k
    induction k with
    | zero => exact h
    | succ k ih =>
      have : it g (k + 1) z = g (it g k z) := by rw [Nat.add_comm, it_add g 1 k z]; rfl
      rw [this]
      exact step _ ih
  intro x hx
  obtain ⟨k, rfl⟩ := conn z x h.1 hx
  have hb := all k
  obtain ⟨w, hw, e⟩ := bad_step ok ho st giv lt pr hb
  obtain ⟨f, ef, nf, hd, two⟩ := bad_two ok ho st giv lt hb
  refine ⟨⟨w, hw.1, e⟩, ?_⟩
  have lo := two_of (fst_mem ef) (giv _ hx).sn.mem nf
  have hi := nodup_sub_len (left_nd (hs := hs) ok (lt _ hx)) (t := [f, s (it g k z)]) fun o ho' => by
    rcases two o ho' with rfl | e
    · simp
    · rw [e]; simp
  simp at hi
  omega
end
end K14
namespace K14
open PySem PySem.Spec PyProof.Rows L2
/-! ### the rings that givers lead to -/
section
variable {ls : List (List Nat)} {hs S : List (Option Nat)} {s g : Nat → Nat} (ok : ListsOk ls.length ls)
def Orb (g : Nat → Nat) (x0 : Nat) (x : Nat) : Prop := ∃ k, x = it g k x0
theorem it_one (g : Nat → Nat) (k p : Nat) : it g (k + 1) p = g (it g k p) := by
  rw [Nat.add_comm, it_add g 1 k p]
  rfl
theorem it_in (g : Nat → Nat) (k p : Nat) : it g (k + 1) p = it g k (g p) := by
  rw [it_add g k 1 p]
  rfl
/-- all on the way have two or more left -/
theorem way (G : ∀ p, p < ls.length → 2 ≤ (leftL ls hs p).length → Giv ls hs p (s p) (g p)) {p : Nat} (hp : p < ls.length) (h2 : 2 ≤ (leftL ls hs p).length) : ∀ k, it g k p < ls.length ∧ 2 ≤ (leftL ls hs (it g k p)).length
  | 0 => ⟨hp, h2⟩
  | k + 1 => by
    obtain ⟨a, b⟩ := way G hp h2 k
    rw [it_one]
    have := G _ a b
    exact ⟨this.ql, this.two⟩
theorem turns {m x0 : Nat} (hm : it g m x0 = x0) : ∀ k, it g m (it g k x0) = it g k x0 := fun k => by
  rw [← it_add, Nat.add_comm, it_add, hm]
theorem turns_all {m x0 : Nat} (hm : it g m x0 = x0) : ∀ c, it g (c * m) x0 = x0
  | 0 => by rw [Nat.zero_mul]; rfl
  | c + 1 => by rw [Nat.succ_mul, it_add, hm, turns_all hm c]
/-- such a ring -/
theorem orb_giv (G : ∀ p, p < ls.length → 2 ≤ (leftL ls hs p).length → Giv ls hs p (s p) (g p)) {x0 : Nat} (hp : x0 < ls.length) (h2 : 2 ≤ (leftL ls hs x0).length) : ∀ x, Orb g x0 x → Giv ls hs x (s x) (g x) := by
  rintro x ⟨k, rfl⟩
  obtain ⟨a, b⟩ := way G hp h2 k
  exact G _ a b
theorem orb_lt (G : ∀ p, p < ls.length → 2 ≤ (leftL ls hs p).length → Giv ls hs p (s p) (g p)) {x0 : Nat} (hp : x0 < ls.length) (h2 : 2 ≤ (leftL ls hs x0).length) : ∀ x, Orb g x0 x → x < ls.length := by
  rintro x ⟨k, rfl⟩
  exact (way G hp h2 k).1
theorem orb_nx {x0 : Nat} : ∀ x, Orb g x0 x → Orb g x0 (g x) := by
  rintro x ⟨k, rfl⟩
  exact ⟨k + 1, (it_one g k x0).symm⟩
theorem orb_pr {x0 m : Nat} (m1 : 1 ≤ m) (hm : it g m x0 = x0) : ∀ x, Orb g x0 x → ∃ z, Orb g x0 z ∧ g z = x := by
  rintro x ⟨k, rfl⟩
  obtain ⟨n, rfl⟩ : ∃ n, m = n + 1 := ⟨m - 1, by omega⟩
  refine ⟨it g n (it g k x0), ⟨n + k, it_add g n k x0 ▸ rfl⟩, ?_⟩
  show it g (n + 1) (it g k x0) = it g k x0
  exact turns hm k
theorem orb_inj {x0 m : Nat} (m1 : 1 ≤ m) (hm : it g m x0 = x0) : ∀ x z, Orb g x0 x → Orb g x0 z → g x = g z → x = z := by
  rintro x z ⟨k, rfl⟩ ⟨j, rfl⟩ e
  obtain ⟨n, rfl⟩ : ∃ n, m = n + 1 := ⟨m - 1, by omega⟩
  have a := turns hm k
  have b := turns hm j
  rw [it_in, e, ← it_in, b] at a
  exact a.symm
theorem orb_conn {x0 m : Nat} (m1 : 1 ≤ m) (hm : it g m x0 = x0) : ∀ x y, Orb g x0 x → Orb g x0 y → ∃ k, it g k x = y := by
  rintro x y ⟨k, rfl⟩ ⟨j, rfl⟩
  refine ⟨j + (k * m - k), ?_⟩
  have le : k ≤ k * m := Nat.le_mul_of_pos_right _ (by omega)
  rw [← it_add, show j + (k * m - k) + k = j + k * m by omega, it_add, turns_all hm]
/-- odd, as the document says it -/
def OddX (ls : List (List Nat)) (hs : List (Option Nat)) (s : Nat → Nat) (X : Nat → Prop) : Prop := ∀ x, X x → (∃ w, X w ∧ s w = x) ∧ (leftL ls hs x).length = 2
include ok in
/-- a ring that is not odd may be turned out -/
theorem orb_rng (ho : HoldsOk ls hs) (st : Std ls hs) (G : ∀ p, p < ls.length → 2 ≤ (leftL ls hs p).length → Giv ls hs p (s p) (g p)) {x0 m : Nat} (hp : x0 < ls.length) (h2 : 2 ≤ (leftL ls hs x0).length) (m1 : 1 ≤ m) (hm : it g m x0 = x0) (n : ¬ OddX ls hs s (Orb g x0)) :
    Rng ls hs s g (Orb g x0) where
  giv := orb_giv G hp h2
  lt := orb_lt G hp h2
  nx := orb_nx
  pr := orb_pr m1 hm
  inj := orb_inj m1 hm
  good := fun z h1 h2' e => n (bad_odd ok ho st (orb_giv G hp h2) (orb_lt G hp h2) (orb_pr m1 hm) (orb_conn m1 hm) ⟨h1, h2', e⟩)
  ne := ⟨x0, 0, rfl⟩
include ok in
/-- if there are other steady holds within, there is a ring that is not odd -/
theorem lesser_ring (ho : HoldsOk ls hs) (st : Std ls hs) (so : HoldsOk ls S) (ss : Std ls S) (le : ∀ y, y < ls.length → most ls S y ≤ most ls hs y) (ne : S ≠ hs) (G : ∀ p, p < ls.length → 2 ≤ (leftL ls hs p).length → Giv ls hs p (s p) (g p)) :
    ∃ x0 m, x0 < ls.length ∧ 2 ≤ (leftL ls hs x0).length ∧ 1 ≤ m ∧ it g m x0 = x0 ∧ ¬ OddX ls hs s (Orb g x0) := by
  -- somebody has another first one
  obtain ⟨p, hp, hn⟩ : ∃ p, p < ls.length ∧ fst ls S p ≠ fst ls hs p := by
    refine Classical.byContradiction fun c => ne ?_
    have all : ∀ p, p < ls.length → fst ls S p = fst ls hs p := fun p hp => Classical.byContradiction fun z => c ⟨p, hp, z⟩
    apply List.ext_getElem?
    intro q
    by_cases hq : q < ls.length
    · rw [ha_get (by rw [so.len]; exact hq), ha_get (by rw [ho.len]; exact hq)]
      congr 1
      cases e1 : ha hs q with
      | some j =>
        have jl := (ok.mate hq (ho.on q j e1).2).1
        have f1 := st.a q j hq e1
        rw [← all j jl] at f1
        exact ss.b j q jl f1
      | none =>
        cases e2 : ha S q with
        | none => rfl
        | some j =>
          have jl := (ok.mate hq (so.on q j e2).2).1
          have f1 := ss.a q j hq e2
          rw [all j jl] at f1
          rw [st.b j q jl f1] at e1
          cases e1
    · rw [List.getElem?_eq_none (by rw [so.len]; omega), List.getElem?_eq_none (by rw [ho.len]; omega)]
  -- it has two left
  have two : ∀ q, q < ls.length → fst ls S q ≠ fst ls hs q → 2 ≤ (leftL ls hs q).length := fun q hq n => by
    cases e1 : fst ls S q with
    | none =>
      exfalso
      have z := (left_none_same ok ho st so ss hq).mp (fst_none.mp e1)
      exact n (by rw [e1, fst_none.mpr z])
    | some f =>
      have fm := left_le le ok hq (fst_mem e1)
      obtain ⟨f2, e2⟩ := fst_some ok so ss ho st hq (fst_mem e1)
      exact two_of fm (fst_mem e2) fun z => n (by rw [e1, e2, z])
  have all : ∀ k, fst ls S (it g k p) ≠ fst ls hs (it g k p) := by
    intro k
    induction k with
    | zero => exact hn
    | succ k ih =>
      obtain ⟨a, b⟩ := way G hp (two p hp hn) k
      rw [it_one]
      exact fun e => ih (back ok ho st so ss le a (G _ a b) e)
  obtain ⟨i, j, ij, e⟩ := meets (x := fun k => it g k p) (n := ls.length) fun m => (way G hp (two p hp hn) m).1
  obtain ⟨a, b⟩ := way G hp (two p hp hn) i
  have hm : it g (j - i) (it g i p) = it g i p := by
    rw [← it_add, show j - i + i = j by omega]
    exact e.symm
  refine ⟨it g i p, j - i, a, b, by omega, hm, fun odd => ?_⟩
  refine odd_none ok ho st so ss le (orb_giv G a b) (orb_lt G a b) odd (fun x hx => ?_) ⟨_, 0, rfl⟩
  obtain ⟨k, rfl⟩ := hx
  rw [← it_add]
  exact all (k + i)
end
end K14
namespace K14
open PySem PySem.Spec PyProof.Rows L2
structure Has (P : Program) (w : World) (K : PySem.W.Frag) (mg : Str → Option Value) (base : Heap) (k : Nat) (x : Str) (ps : List Str) (sp : Sp) (f : Addr) (fd : FuncData) : Prop where
  ok : FnOk P w K mg base CX0 k f fd ps sp
  b : Binds K fd ps []
  k : PySem.W.keepIn K (.ref f) = true
  m : mg x = some (.ref f)
structure HasG (P : Program) (w : World) (K : PySem.W.Frag) (mg : Str → Option Value) (base : Heap) (k : Nat) (x : Str) (ps : List Str) (sp : Sp) (f : Addr) (fd : FuncData) : Prop where
  ok : RunG P w K mg base k f fd ps sp
  b : Binds K fd ps []
  k : PySem.W.keepIn K (.ref f) = true
  m : mg x = some (.ref f)
/-- within, by the law's ranks -/
def inB (ls : List (List Nat)) (h1 h2 : List (Option Nat)) : Bool := (List.range ls.length).all fun p => decide (most ls h1 p ≤ most ls h2 p)
theorem inB_iff {ls : List (List Nat)} {h1 h2 : List (Option Nat)} : inB ls h1 h2 = true ↔ ∀ p, p < ls.length → most ls h1 p ≤ most ls h2 p := by
  unfold inB
  rw [List.all_eq_true]
  exact ⟨fun h p hp => of_decide_eq_true (h p (List.mem_range.mpr hp)), fun h p hp => decide_eq_true (h p (List.mem_range.mp hp))⟩
def spLIn : Sp := fun vs H Q _ => ∃ (a t u : Addr) (ls : List (List Nat)) (h1 h2 : List (Option Nat)), vs = [.ref a, .ref t, .ref u] ∧ LX H a ls ∧ H t = some (.tup (VH h1)) ∧ H u = some (.tup (VH h2)) ∧ HoldsOk ls h1 ∧ HoldsOk ls h2 ∧ ls.length ≤ 100 ∧ ∀ H', Same H H' → Q (.bl (inB ls h1 h2)) H'
section
variable {P : Program} {w : World} {K : PySem.W.Frag} {mg : Str → Option Value} {base : Heap}
end
end K14
namespace K14
open PySem PySem.Spec PyProof.Rows L2
/-- the giver behind, if there are two left -/
def givO (ls : List (List Nat)) (hs : List (Option Nat)) (p : Nat) : Option Nat := (leftL ls hs p)[1]?.bind fun b => ha hs b
def givA (ls : List (List Nat)) (hs : List (Option Nat)) : List (Option Nat) := (List.range ls.length).map (givO ls hs)
theorem givA_len {ls : List (List Nat)} {hs : List (Option Nat)} : (givA ls hs).length = ls.length := by simp [givA]
def spGivers : Sp := fun vs H Q _ => ∃ (t l : Addr) (ls : List (List Nat)) (hs : List (Option Nat)), vs = [.ref t, .ref l] ∧ H t = some (.tup (VH hs)) ∧ LT H l (leftA ls hs) ∧ HoldsOk ls hs ∧ ListsOk ls.length ls ∧ ls.length ≤ 100 ∧ ∀ r H', Same H H' → H' r = some (.lst (VH (givA ls hs))) → Q (.ref r) H'
abbrev rLen (K : PySem.W.Frag) : List V → Hp → VK → Prop := fun xs H Q => ∃ p ys, xs = [V.ref p] ∧ (SqL K H p ys ∨ SqT K H p ys) ∧ Q (V.int ys.length) H
section
variable {P : Program} {w : World} {K : PySem.W.Frag} {mg : Str → Option Value} {base : Heap}
end
end K14
namespace K14
open PySem PySem.Spec PyProof.Rows L2
/-! ### the rings that "behind" leads to, nobody standing for an end -/
/-- the one behind; the end is behind itself -/
def gB (bs : List (Option Nat)) (p : Nat) : Nat := (ha bs p).getD bs.length
/-- the ring from p on, of m persons -/
def ringL (g : Nat → Nat) (p m : Nat) : List Nat := (List.range m).map fun k => it g k p
theorem ringL_succ {g : Nat → Nat} {p m : Nat} : ringL g p (m + 1) = ringL g p m ++ [it g m p] := by
  unfold ringL
  rw [List.range_succ, List.map_append]
  rfl
theorem ringL_len {g : Nat → Nat} {p m : Nat} : (ringL g p m).length = m := by simp [ringL]
theorem ringL_at {g : Nat → Nat} {p m k : Nat} (h : k < m) : (ringL g p m)[k]? = some (it g k p) := by
  unfold ringL
  rw [List.getElem?_map, List.getElem?_range h]
  rfl
theorem ringL_mem {g : Nat → Nat} {p m x : Nat} : x ∈ ringL g p m ↔ ∃ k, k < m ∧ it g k p = x := by
  unfold ringL
  rw [List.mem_map]
  exact ⟨fun ⟨k, h, e⟩ => ⟨k, List.mem_range.mp h, e⟩, fun ⟨k, h, e⟩ => ⟨k, List.mem_range.mpr h, e⟩⟩
/-- on a ring of just m persons -/
structure Cyc (g : Nat → Nat) (p m : Nat) : Prop where
  one : 1 ≤ m
  back : it g m p = p
  least : ∀ k, 1 ≤ k → k < m → it g k p ≠ p
theorem Cyc.uniq {g : Nat → Nat} {p m m' : Nat} (a : Cyc g p m) (b : Cyc g p m') : m = m' := by
  rcases Nat.lt_trichotomy m m' with h | h | h
  · exact absurd a.back (b.least m a.one h)
  · exact h
  · exact absurd b.back (a.least m' b.one h)
theorem Cyc.inj {g : Nat → Nat} {p m i j : Nat} (c : Cyc g p m) (hj : j < m) (ij : i < j) : it g i p ≠ it g j p := fun e => by
  refine c.least (j - i) (by omega) (by omega) ?_
  have h1 : it g (m - i) (it g i p) = p := by
    rw [← it_add, show m - i + i = m by omega]
    exact c.back
  rw [e, ← it_add, show m - i + j = (j - i) + m by omega, it_add, c.back] at h1
  exact h1
theorem Cyc.turn {g : Nat → Nat} {p m : Nat} (c : Cyc g p m) (a : Nat) : Cyc g (it g a p) m where
  one := c.one
  back := turns c.back a
  least := fun k h1 h2 e => by
    refine c.least k h1 h2 ?_
    -- back to p
    have hb : ∃ b, it g b (it g a p) = p := by
      refine ⟨a * m - a, ?_⟩
      have le : a ≤ a * m := Nat.le_mul_of_pos_right _ c.one
      rw [← it_add, show a * m - a + a = a * m by omega, turns_all c.back]
    obtain ⟨b, hb⟩ := hb
    have : it g b (it g k (it g a p)) = it g b (it g a p) := by rw [e]
    rw [← it_add, Nat.add_comm, it_add, hb] at this
    exact this
theorem Cyc.le {g : Nat → Nat} {p m n : Nat} (c : Cyc g p m) (h : ∀ k, it g k p < n) : m ≤ n := by
  have nd : (ringL g p m).Nodup := by
    refine List.pairwise_map.mpr (List.Pairwise.imp_of_mem ?_ (List.pairwise_lt_range (n := m)))
    intro a b _ hb lt
    exact c.inj (List.mem_range.mp hb) lt
  have := nodup_sub_len nd (t := List.range n) fun y hy => by
    obtain ⟨k, _, rfl⟩ := ringL_mem.mp hy
    exact List.mem_range.mpr (h k)
  simpa [ringL] using this
/-- turned to another person of it -/
theorem rot {g : Nat → Nat} {p m a : Nat} (hm : it g m p = p) (h : a < m) : (ringL g p m).drop a ++ (ringL g p m).take a = ringL g (it g a p) m := by
  apply List.ext_getElem?
  intro k
  by_cases c1 : k < m - a
  · rw [List.getElem?_append_left (by rw [List.length_drop, ringL_len]; omega), List.getElem?_drop, ringL_at (by omega), ringL_at (by omega), ← it_add, Nat.add_comm]
  · rw [List.getElem?_append_right (by rw [List.length_drop, ringL_len]; omega), List.length_drop, ringL_len]
    by_cases c2 : k < m
    · rw [List.getElem?_take, if_pos (by omega), ringL_at (by omega), ringL_at c2, ← it_add, show k + a = (k - (m - a)) + m by omega, it_add, hm]
    · rw [List.getElem?_eq_none (by rw [List.length_take, ringL_len]; omega), List.getElem?_eq_none (by rw [ringL_len]; omega)]
/-! ### how many are on the ring of a person -/
def per (bs : List (Option Nat)) (p : Nat) : Nat := match (List.range bs.length).find? fun k => decide (it (gB bs) (k + 1) p = p) with
  | some k => k + 1
  | none => 0
theorem find_least {f : Nat → Bool} {n k : Nat} (h : (List.range n).find? f = some k) : k < n ∧ f k = true ∧ ∀ j, j < k → f j = false := by
  obtain ⟨h1, as, bs, e, h2⟩ := List.find?_eq_some_iff_append.mp h
  have hk : k < n := List.mem_range.mp (by rw [e]; simp)
  refine ⟨hk, h1, fun j hj => ?_⟩
  have hm : j ∈ as := by
    have hl : as.length = k := by
      have : (List.range n)[as.length]? = some k := by rw [e, List.getElem?_append_right (Nat.le_refl _)]; simp
      have hlt : as.length < n := by
        have := congrArg List.length e
        simp at this
        omega
      rw [List.getElem?_range hlt] at this
      exact Option.some.inj this
    have : (List.range n)[j]? = some j := List.getElem?_range (by omega)
    rw [e, List.getElem?_append_left (by omega)] at this
    exact List.mem_of_getElem? this
  simpa using h2 j hm
theorem per_cyc {bs : List (Option Nat)} {p : Nat} (h : per bs p ≠ 0) : Cyc (gB bs) p (per bs p) := by
  unfold per at h ⊢
  cases e : (List.range bs.length).find? fun k => decide (it (gB bs) (k + 1) p = p) with
  | none => rw [e] at h; exact absurd rfl h
  | some k =>
    obtain ⟨_, h1, h2⟩ := find_least e
    refine ⟨Nat.le_add_left _ _, of_decide_eq_true h1, fun j j1 j2 => ?_⟩
    have := of_decide_eq_false (h2 (j - 1) (by show j - 1 < k; have : j < k + 1 := j2; omega))
    rw [show j - 1 + 1 = j by omega] at this
    exact this
theorem cyc_per {bs : List (Option Nat)} {p m : Nat} (c : Cyc (gB bs) p m) (h : ∀ k, it (gB bs) k p < bs.length) : per bs p = m := by
  have hn : per bs p ≠ 0 := by
    unfold per
    cases e : (List.range bs.length).find? fun k => decide (it (gB bs) (k + 1) p = p) with
    | some k => exact Nat.succ_ne_zero _
    | none =>
      have := List.find?_eq_none.mp e (m - 1) (List.mem_range.mpr (by have := c.le h; have := c.one; omega))
      rw [show m - 1 + 1 = m by have := c.one; omega] at this
      exact absurd (decide_eq_true c.back) this
  exact (per_cyc hn).uniq c
/-- the least of its ring -/
def isLst (bs : List (Option Nat)) (p : Nat) : Bool := decide (per bs p ≠ 0) && (List.range (per bs p)).all fun k => decide (p ≤ it (gB bs) k p)
def ringsA (bs : List (Option Nat)) : List (List Nat) := ((List.range bs.length).filter (isLst bs)).map fun p => ringL (gB bs) p (per bs p)
theorem isLst_iff {bs : List (Option Nat)} {p : Nat} : isLst bs p = true ↔ per bs p ≠ 0 ∧ ∀ k, k < per bs p → p ≤ it (gB bs) k p := by
  unfold isLst
  rw [Bool.and_eq_true, decide_eq_true_eq, List.all_eq_true]
  exact ⟨fun ⟨a, b⟩ => ⟨a, fun k hk => of_decide_eq_true (b k (List.mem_range.mpr hk))⟩, fun ⟨a, b⟩ => ⟨a, fun k hk => decide_eq_true (b k (List.mem_range.mp hk))⟩⟩
/-- who is behind is one of them -/
def Clo (bs : List (Option Nat)) : Prop := ∀ p q, ha bs p = some q → q < bs.length
theorem ha_none_of {bs : List (Option Nat)} {p : Nat} (h : bs.length ≤ p) : ha bs p = none := by
  unfold ha
  rw [List.getD_eq_getElem?_getD, List.getElem?_eq_none h]
  rfl
theorem gB_end {bs : List (Option Nat)} : gB bs bs.length = bs.length := by
  unfold gB
  rw [ha_none_of (Nat.le_refl _)]
  rfl
theorem gB_le {bs : List (Option Nat)} (cl : Clo bs) (p : Nat) : gB bs p ≤ bs.length := by
  unfold gB
  cases e : ha bs p with
  | none => exact Nat.le_refl _
  | some q => exact Nat.le_of_lt (cl p q e)
theorem gB_some {bs : List (Option Nat)} {p : Nat} (h : gB bs p < bs.length) : ha bs p = some (gB bs p) := by
  unfold gB at h ⊢
  cases e : ha bs p with
  | none => rw [e] at h; exact absurd h (Nat.lt_irrefl _)
  | some q => rfl
/-- who is on a ring and leads to some that nobody leaves is one of them -/
theorem cyc_in {g : Nat → Nat} {T : Nat → Prop} (tc : ∀ x, T x → T (g x)) {p m k : Nat} (m1 : 1 ≤ m) (hm : it g m p = p) (h : T (it g k p)) : T p := by
  have all : ∀ j, T (it g j (it g k p)) := fun j => by
    induction j with
    | zero => exact h
    | succ j ih => exact tc _ ih
  have := all (k * m - k)
  have le : k ≤ k * m := Nat.le_mul_of_pos_right _ m1
  rw [← it_add, show k * m - k + k = k * m by omega, turns_all hm] at this
  exact this
/-- on a ring nobody is at the end -/
theorem cyc_lt {bs : List (Option Nat)} (cl : Clo bs) {p m : Nat} (hp : p < bs.length) (m1 : 1 ≤ m) (hm : it (gB bs) m p = p) : ∀ k, it (gB bs) k p < bs.length := by
  intro k
  have le : it (gB bs) k p ≤ bs.length := by
    cases k with
    | zero => exact Nat.le_of_lt hp
    | succ k => exact gB_le cl _
  refine Nat.lt_of_le_of_ne le fun e => ?_
  have : p = bs.length := cyc_in (T := fun x => x = bs.length) (fun x hx => by rw [hx]; exact gB_end) m1 hm (k := k) e
  omega
theorem gB_way {bs : List (Option Nat)} {p : Nat} (h : ∀ k, it (gB bs) k p < bs.length) (k : Nat) : ha bs (it (gB bs) k p) = some (it (gB bs) (k + 1) p) := gB_some (h (k + 1))
/-- the rings of the met ones -/
structure Met (bs : List (Option Nat)) (T : Nat → Prop) (Rr : List (List Nat)) : Prop where
  lt : ∀ x, T x → x < bs.length
  clo : ∀ x, T x → gB bs x < bs.length → T (gB bs x)
  nd : Rr.Nodup
  iff : ∀ r, r ∈ Rr ↔ ∃ p, p < bs.length ∧ isLst bs p = true ∧ T p ∧ r = ringL (gB bs) p (per bs p)
theorem Met.start {bs : List (Option Nat)} : Met bs (fun _ => False) [] := ⟨fun _ h => h.elim, fun _ h => h.elim, by simp, fun r => by simp⟩
section
variable {bs : List (Option Nat)} (cl : Clo bs) {T : Nat → Prop} {Rr : List (List Nat)} {first j : Nat}
/-- the walk from first on: none of it met, all unlike -/
structure Way9 (bs : List (Option Nat)) (T : Nat → Prop) (first j : Nat) : Prop where
  lt : ∀ k, k < j → it (gB bs) k first < bs.length
  new : ∀ k, k < j → ¬ T (it (gB bs) k first)
  nd : ∀ i k, i < k → k < j → it (gB bs) i first ≠ it (gB bs) k first
def With (bs : List (Option Nat)) (T : Nat → Prop) (first j : Nat) : Nat → Prop := fun x => T x ∨ ∃ k, k < j ∧ it (gB bs) k first = x
include cl in
/-- no new ring where the way ends or comes to those met before -/
theorem Met.none (M : Met bs T Rr) (W : Way9 bs T first j) (h : it (gB bs) j first = bs.length ∨ T (it (gB bs) j first)) : Met bs (With bs T first j) Rr where
  lt := fun x hx => hx.elim (M.lt x) fun ⟨k, hk, e⟩ => e ▸ W.lt k hk
  clo := fun x hx lt => by
    rcases hx with hx | ⟨k, hk, rfl⟩
    · exact .inl (M.clo x hx lt)
    · by_cases c : k + 1 < j
      · exact .inr ⟨k + 1, c, rfl⟩
      · have e : k + 1 = j := by omega
        rw [← e] at h
        rcases h with h | h
        · exact absurd (show gB bs (it (gB bs) k first) = bs.length from h) (by omega)
        · exact .inl h
  nd := M.nd
  iff := fun r => by
    rw [M.iff]
    constructor
    · rintro ⟨p, h1, h2, h3, h4⟩
      exact ⟨p, h1, h2, .inl h3, h4⟩
    · rintro ⟨p, h1, h2, h3, h4⟩
      rcases h3 with h3 | ⟨k, hk, rfl⟩
      · exact ⟨p, h1, h2, h3, h4⟩
      · exfalso
        have c := per_cyc (isLst_iff.mp h2).1
        have key : (it (gB bs) k first = bs.length ∨ T (it (gB bs) k first)) := by
          refine cyc_in (T := fun x => x = bs.length ∨ T x) (fun x hx => ?_) c.one c.back (k := j - k) ?_
          · rcases hx with rfl | hx
            · exact .inl gB_end
            · by_cases d : gB bs x < bs.length
              · exact .inr (M.clo x hx d)
              · exact .inl (by have := gB_le cl x; omega)
          · rw [← it_add, show j - k + k = j by omega]
            exact h
        rcases key with e | e
        · omega
        · exact W.new k hk e
include cl in
/-- a new ring where the way comes to itself -/
theorem Met.one (M : Met bs T Rr) (W : Way9 bs T first j) {i : Nat} (hi : i < j) (h : it (gB bs) j first = it (gB bs) i first) {mn a : Nat} (am : a < j - i) (ea : mn = it (gB bs) a (it (gB bs) i first)) (least : ∀ k, k < j - i → mn ≤ it (gB bs) k (it (gB bs) i first)) :
    Cyc (gB bs) (it (gB bs) i first) (j - i) ∧ Met bs (With bs T first j) (Rr ++ [ringL (gB bs) mn (j - i)]) := by
  have c : Cyc (gB bs) (it (gB bs) i first) (j - i) := ⟨by omega, by rw [← it_add, show j - i + i = j by omega]; exact h, fun k k1 k2 e => by
    rw [← it_add] at e
    exact W.nd i (k + i) (by omega) (by omega) e.symm⟩
  refine ⟨c, ?_⟩
  have cm : Cyc (gB bs) mn (j - i) := ea ▸ c.turn a
  have mlt : mn < bs.length := by
    rw [ea, ← it_add]
    exact W.lt _ (by omega)
  have pm : per bs mn = j - i := cyc_per cm (cyc_lt cl mlt cm.one cm.back)
  have on : ∀ k, ∃ b, b < j - i ∧ it (gB bs) k mn = it (gB bs) b (it (gB bs) i first) := fun k => by
    have all : ∀ n, ∃ b, b < j - i ∧ it (gB bs) n (it (gB bs) i first) = it (gB bs) b (it (gB bs) i first) := fun n => by
      refine ⟨n % (j - i), Nat.mod_lt _ (by omega), ?_⟩
      conv => lhs; rw [← Nat.mod_add_div n (j - i), it_add, Nat.mul_comm, turns_all c.back]
    rw [ea, ← it_add]
    exact all _
  have lm : isLst bs mn = true := isLst_iff.mpr ⟨by rw [pm]; omega, fun k _ => by
    obtain ⟨b, hb, e⟩ := on k
    rw [e]
    exact least b hb⟩
  have new : With bs T first j mn ∧ ¬ T mn := by
    rw [ea, ← it_add]
    exact ⟨.inr ⟨_, by omega, rfl⟩, W.new _ (by omega)⟩
  exact {
    lt := fun x hx => hx.elim (M.lt x) fun ⟨k, hk, e⟩ => e ▸ W.lt k hk
    clo := fun x hx lt => by
      rcases hx with hx | ⟨k, hk, rfl⟩
      · exact .inl (M.clo x hx lt)
      · by_cases d : k + 1 < j
        · exact .inr ⟨k + 1, d, rfl⟩
        · have e : k + 1 = j := by omega
          refine .inr ⟨i, hi, ?_⟩
          rw [← h, ← e]
          rfl
    nd := by
      refine List.nodup_append.mpr ⟨M.nd, by simp, fun x hx y hy => ?_⟩
      simp at hy
      subst hy
      rintro rfl
      obtain ⟨p, h1, h2, h3, h4⟩ := (M.iff _).mp hx
      have hl := congrArg List.length h4
      rw [ringL_len, ringL_len] at hl
      have h5 : (ringL (gB bs) mn (j - i))[0]? = (ringL (gB bs) p (per bs p))[0]? := by rw [h4]
      rw [ringL_at (by omega), ringL_at (by omega)] at h5
      have : mn = p := Option.some.inj h5
      subst this
      exact new.2 h3
    iff := fun r => by
      rw [List.mem_append, M.iff]
      constructor
      · rintro (⟨p, h1, h2, h3, h4⟩ | h)
        · exact ⟨p, h1, h2, .inl h3, h4⟩
        · simp at h
          exact ⟨mn, mlt, lm, new.1, by rw [pm]; exact h⟩
      · rintro ⟨p, h1, h2, h3, h4⟩
        rcases h3 with h3 | ⟨k, hk, rfl⟩
        · exact .inl ⟨p, h1, h2, h3, h4⟩
        · right
          -- it is on that ring, and its least one
          obtain ⟨q0, q1⟩ := isLst_iff.mp h2
          have cp := per_cyc q0
          obtain ⟨b, hb⟩ : ∃ b, it (gB bs) k first = it (gB bs) b (it (gB bs) i first) := by
            refine cyc_in (T := fun x => ∃ b, x = it (gB bs) b (it (gB bs) i first)) (fun x ⟨b, hx⟩ => ⟨b + 1, by rw [hx]; rfl⟩) cp.one cp.back (k := j - k) ?_
            rw [← it_add, show j - k + k = j by omega]
            exact ⟨0, h⟩
          have cp2 : Cyc (gB bs) (it (gB bs) k first) (j - i) := hb ▸ c.turn b
          have e1 : per bs (it (gB bs) k first) = j - i := cp.uniq cp2
          -- mn is on its ring
          obtain ⟨d, hd⟩ : ∃ d, mn = it (gB bs) d (it (gB bs) k first) := by
            rw [hb, ea]
            refine ⟨a + (b * (j - i) - b), ?_⟩
            have le : b ≤ b * (j - i) := Nat.le_mul_of_pos_right _ (by omega)
            rw [← it_add (gB bs) (a + (b * (j - i) - b)) b, show a + (b * (j - i) - b) + b = a + b * (j - i) by omega, it_add (gB bs) a (b * (j - i)), turns_all c.back]
          have e2 : mn = it (gB bs) (d % (j - i)) (it (gB bs) k first) := by
            rw [hd]
            conv => lhs; rw [← Nat.mod_add_div d (j - i), it_add, Nat.mul_comm, turns_all cp2.back]
          have le1 : it (gB bs) k first ≤ mn := by
            rw [e2]
            exact q1 _ (by rw [e1]; exact Nat.mod_lt _ (by omega))
          have le2 : mn ≤ it (gB bs) k first := by
            have : it (gB bs) k first = it (gB bs) (b % (j - i)) (it (gB bs) i first) := by
              rw [hb]
              conv => lhs; rw [← Nat.mod_add_div b (j - i), it_add, Nat.mul_comm, turns_all c.back]
            rw [this]
            exact least _ (Nat.mod_lt _ (by omega))
          have e3 : it (gB bs) k first = mn := by omega
          rw [List.mem_singleton, h4, e1, e3] }
/-- where all are met, these are all -/
theorem Met.all (M : Met bs T Rr) (h : ∀ p, p < bs.length → T p) : (∀ r, r ∈ ringsA bs ↔ r ∈ Rr) ∧ (ringsA bs).Nodup := by
  refine ⟨fun r => ?_, ?_⟩
  · rw [M.iff]
    unfold ringsA
    rw [List.mem_map]
    constructor
    · rintro ⟨p, hp, rfl⟩
      obtain ⟨h1, h2⟩ := List.mem_filter.mp hp
      have h1 := List.mem_range.mp h1
      exact ⟨p, h1, h2, h p h1, rfl⟩
    · rintro ⟨p, h1, h2, _, rfl⟩
      exact ⟨p, List.mem_filter.mpr ⟨List.mem_range.mpr h1, h2⟩, rfl⟩
  · unfold ringsA
    refine List.pairwise_map.mpr ((List.pairwise_lt_range.filter _).imp_of_mem ?_)
    intro p q hp hq lt e
    have l1 := per_cyc (isLst_iff.mp (List.mem_filter.mp hp).2).1
    have l2 := per_cyc (isLst_iff.mp (List.mem_filter.mp hq).2).1
    have h5 : (ringL (gB bs) p (per bs p))[0]? = (ringL (gB bs) q (per bs q))[0]? := by rw [e]
    rw [ringL_at l1.one, ringL_at l2.one] at h5
    have : p = q := Option.some.inj h5
    omega
end
/-- the rings by their least persons -/
theorem ringsA_asc (bs : List (Option Nat)) : (ringsA bs).Pairwise fun x y => x.headD 0 < y.headD 0 := by
  unfold ringsA
  refine List.pairwise_map.mpr ((List.pairwise_lt_range.filter _).imp_of_mem ?_)
  intro p q hp hq lt
  have l1 := (per_cyc (isLst_iff.mp (List.mem_filter.mp hp).2).1).one
  have l2 := (per_cyc (isLst_iff.mp (List.mem_filter.mp hq).2).1).one
  have e : ∀ x m, 1 ≤ m → (ringL (gB bs) x m).headD 0 = x := fun x m h => by
    rw [List.headD_eq_head?_getD, List.head?_eq_getElem?, ringL_at h]
    rfl
  rw [e _ _ l1, e _ _ l2]
  exact lt
theorem ringsA_one {bs : List (Option Nat)} {r : List Nat} (h : r ∈ ringsA bs) : ∃ p m, p < bs.length ∧ m = per bs p ∧ Cyc (gB bs) p m ∧ r = ringL (gB bs) p m := by
  unfold ringsA at h
  obtain ⟨p, hp, rfl⟩ := List.mem_map.mp h
  obtain ⟨h1, h2⟩ := List.mem_filter.mp hp
  exact ⟨p, _, List.mem_range.mp h1, rfl, per_cyc (isLst_iff.mp h2).1, rfl⟩
end K14
namespace K14
open PySem PySem.Spec PyProof.Rows L2
def spRingFrom : Sp := fun vs H Q _ => ∃ (b : Addr) (bs : List (Option Nat)) (g : Nat → Nat) (p m : Nat), vs = [.ref b, .int p] ∧ H b = some (.lst (VH bs)) ∧ bs.length ≤ 100 ∧ 1 ≤ m ∧ m ≤ 100 ∧ it g m p = p ∧ (∀ k, 1 ≤ k → k < m → it g k p ≠ p) ∧ (∀ k, it g k p < bs.length ∧ ha bs (it g k p) = some (it g (k + 1) p)) ∧
  ∀ r H', Same H H' → Ex H' r (VI (ringL g p m)) → Q (.ref r) H'
section
variable {P : Program} {w : World} {K : PySem.W.Frag} {mg : Str → Option Value} {base : Heap}
end
end K14
/-! min, max and sum of a tuple of ints -/
namespace PySem
open Sem (wp)
section
variable {prog : Program} {w : World} {A : Around} {E : Value → Shared → Prop} {s : Shared} {l : Addr} {xs : Array (Int × Tok)}
theorem iter_intTup {Q : Value → Shared → Prop} (hl : s.heap.IsTuple l (intItems xs))
    (h : ∀ s₂ : Shared, s₂ = { s with heap := s.heap.push { cls := .type "tuple_iterator", data := .fields #[.ref l, .int 0 0] } } →
      (s₂.heap.IsTupleIter s.heap.objs.size l 0 ∧ s₂.heap.IsTuple l (intItems xs)) → (∀ b ∈ [s.heap.objs.size, l], b < s₂.heap.objs.size) → l ≠ s.heap.objs.size → Q (.ref s.heap.objs.size) s₂) :
    wpAny (model prog w) A (pyIter (.ref l)) Q E s := by
  have hlt : l < s.heap.objs.size := by obtain ⟨_, e, _⟩ := hl; exact Heap.lt_size e
  refine wpAny_pyIter_tuple hl (h _ rfl ⟨⟨_, Heap.get?_push_size _ rfl, rfl, rfl⟩, hl.push _⟩ (fun b hb => ?_) (Nat.ne_of_lt hlt))
  show b < (s.heap.push _).objs.size
  rw [Heap.size_push]
  rcases List.mem_cons.mp hb with rfl | hb
  · exact Nat.lt_succ_self _
  · rcases List.mem_cons.mp hb with rfl | hb
    · exact Nat.lt_succ_of_lt hlt
    · cases hb
theorem old_keptT {h' : Heap} {o0 : Obj} (hk : ∀ b o, b ∉ [s.heap.objs.size] → (s.heap.push o0).get? b = some o → h'.get? b = some o) :
    ∀ b o, s.heap.get? b = some o → h'.get? b = some o := fun b o e => by
  refine hk b o (fun hm => ?_) (Heap.get?_push_of_some _ e)
  rcases List.mem_cons.mp hm with e1 | hm
  · exact absurd (e1 ▸ Heap.lt_size e) (Nat.lt_irrefl _)
  · cases hm
theorem max_intTup {Q : Value → Shared → Prop} (hh : A.handled = none) (hl : s.heap.IsTuple l (intItems xs)) (hne : 0 < xs.size)
    (h : ∀ v h' tk, (intItems xs)[argBest (fun i j => decide (numAt xs i > numAt xs j)) (xs.size - 1)]? = some v → (∀ b o, s.heap.get? b = some o → h'.get? b = some o) → Q v { s with heap := h', toks := tk }) :
    wpAny (model prog w) A (call (.builtin "max") [.ref l]) Q E s := by
  refine call_max_walk (iter_intTup hl fun s₂ e st hfp hlI => ?_)
  subst e
  refine ⟨_, _, _, _, _, _, _, rfl, Walks.tuple (A := A.in1) hh _ l hlI (intItems xs), st, hfp, by simpa [intItems] using hne, CmpOf.ints_gt (numAt xs) (fun _ _ => intItems_at), fun v h' tk hP hk => ?_⟩
  exact h v h' tk (by simpa [intItems] using hP) (old_keptT hk)
theorem min_intTup {Q : Value → Shared → Prop} (hh : A.handled = none) (hl : s.heap.IsTuple l (intItems xs)) (hne : 0 < xs.size)
    (h : ∀ v h' tk, (intItems xs)[argBest (fun i j => decide (numAt xs i < numAt xs j)) (xs.size - 1)]? = some v → (∀ b o, s.heap.get? b = some o → h'.get? b = some o) → Q v { s with heap := h', toks := tk }) :
    wpAny (model prog w) A (call (.builtin "min") [.ref l]) Q E s := by
  refine call_min_walk (iter_intTup hl fun s₂ e st hfp hlI => ?_)
  subst e
  refine ⟨_, _, _, _, _, _, _, rfl, Walks.tuple (A := A.in1) hh _ l hlI (intItems xs), st, hfp, by simpa [intItems] using hne, CmpOf.ints_lt (numAt xs) (fun _ _ => intItems_at), fun v h' tk hP hk => ?_⟩
  exact h v h' tk (by simpa [intItems] using hP) (old_keptT hk)
end
end PySem
namespace L2
open PySem PySem.Spec PyProof.Rows
section
variable {prog : Program} {w : World} {A : Around} {E : Value → Shared → Prop} {s : Shared} {l : Addr} {its : List Value} {ns : List Int} {Q : Value → Shared → Prop}
theorem max_rawT (hh : A.handled = none) (hl : s.heap.IsTuple l its.toArray) (hi : IntsAre its ns) (hne : 0 < ns.length)
    (h : ∀ h' tk M t', (∀ b o, s.heap.get? b = some o → h'.get? b = some o) → M ∈ ns → (∀ a, a ∈ ns → a ≤ M) → Q (.int M t') { s with heap := h', toks := tk }) : wpAny (model prog w) A (call (.builtin "max") [.ref l]) Q E s := by
  obtain ⟨xs, e⟩ := hi.allInts.items
  have hn : numsOf (intItems xs).toList = ns := by rw [← e]; exact hi.numsOf
  rw [nums_intItems] at hn
  subst hn
  rw [e] at hl
  have hsz : 0 < xs.size := by simpa using hne
  refine PySem.max_intTup hh hl hsz fun v h' tk hv hk => ?_
  obtain ⟨t, rfl⟩ := intItems_at hv
  obtain ⟨h1, h2⟩ := argBest_gt (numAt xs) (xs.size - 1)
  refine h h' tk _ t hk ?_ fun a ha => ?_
  · rw [numAt_eq]; exact PySem.getD_mem (by rw [List.length_map, Array.length_toList]; omega)
  · obtain ⟨j, hj, rfl⟩ := mem_getD ha
    rw [List.length_map, Array.length_toList] at hj
    rw [← numAt_eq]; exact h2 j (by omega)
theorem min_rawT (hh : A.handled = none) (hl : s.heap.IsTuple l its.toArray) (hi : IntsAre its ns) (hne : 0 < ns.length)
    (h : ∀ h' tk M t', (∀ b o, s.heap.get? b = some o → h'.get? b = some o) → M ∈ ns → (∀ a, a ∈ ns → M ≤ a) → Q (.int M t') { s with heap := h', toks := tk }) : wpAny (model prog w) A (call (.builtin "min") [.ref l]) Q E s := by
  obtain ⟨xs, e⟩ := hi.allInts.items
  have hn : numsOf (intItems xs).toList = ns := by rw [← e]; exact hi.numsOf
  rw [nums_intItems] at hn
  subst hn
  rw [e] at hl
  have hsz : 0 < xs.size := by simpa using hne
  refine PySem.min_intTup hh hl hsz fun v h' tk hv hk => ?_
  obtain ⟨t, rfl⟩ := intItems_at hv
  obtain ⟨h1, h2⟩ := argBest_lt (numAt xs) (xs.size - 1)
  refine h h' tk _ t hk ?_ fun a ha => ?_
  · rw [numAt_eq]; exact PySem.getD_mem (by rw [List.length_map, Array.length_toList]; omega)
  · obtain ⟨j, hj, rfl⟩ := mem_getD ha
    rw [List.length_map, Array.length_toList] at hj
    rw [← numAt_eq]; exact h2 j (by omega)
end
section
variable {X : Cx}
/-- max(t), min(t) of a tuple of ints -/
def rMaxT (K : PySem.W.Frag) : List V → Hp → VK → Prop := fun vs H Q => ∃ (a : Addr) (ns : List Int), vs = [V.ref a] ∧ SqT K H a (ns.map V.int) ∧ 0 < ns.length ∧ ∀ m, m ∈ ns → (∀ y, y ∈ ns → y ≤ m) → Q (.int m) H
def rMinT (K : PySem.W.Frag) : List V → Hp → VK → Prop := fun vs H Q => ∃ (a : Addr) (ns : List Int), vs = [V.ref a] ∧ SqT K H a (ns.map V.int) ∧ 0 < ns.length ∧ ∀ m, m ∈ ns → (∀ y, y ∈ ns → m ≤ y) → Q (.int m) H
theorem cr_maxT (hc : X.calm = true) : CallR X (.builtin "max") (rMaxT X.K) := by
  intro pins s σ H vs us Q I r h
  obtain ⟨a, ns, rfl, hs, hne, q⟩ := h
  obtain ⟨its, rv, p, _⟩ := I.tuple hs
  rw [Vals.ref1 r]
  exact max_rawT (I.ok.hd hc) p rv.ints hne fun h' tk m t' hk h1 h2 => ⟨.int _, H, I.kept hk, ⟨_, rfl⟩, q m h1 h2⟩
theorem cr_minT (hc : X.calm = true) : CallR X (.builtin "min") (rMinT X.K) := by
  intro pins s σ H vs us Q I r h
  obtain ⟨a, ns, rfl, hs, hne, q⟩ := h
  obtain ⟨its, rv, p, _⟩ := I.tuple hs
  rw [Vals.ref1 r]
  exact min_rawT (I.ok.hd hc) p rv.ints hne fun h' tk m t' hk h1 h2 => ⟨.int _, H, I.kept hk, ⟨_, rfl⟩, q m h1 h2⟩
end
end L2
namespace K14
open PySem PySem.Spec PyProof.Rows L2
theorem slTo {K : PySem.W.Frag} {H : Hp} {a : Addr} {s : List Nat} {m : Nat} {Q : VK} (e : Tp H a (VI s)) (hm : m ≤ s.length) (q : ∀ b H', Same H H' → Tp H' b (VI (s.take m)) → Q (.ref b) H') : rSlA K (.ref a) none (some ((m : Nat) : Int)) H Q := by
  have ek : HT.sIx (VI s).length (VI s).length (some ((m : Nat) : Int)) = min m (VI s).length := HT.sIx_nat _ _ m
  have e0 : HT.sIx (VI s).length 0 none = 0 := HT.sIx_none _ _
  refine ⟨a, VI s, rfl, e.sq, fun h => ?_, fun h p np => ?_⟩
  · have hm2 : s.length ≤ m := by
      have := h.2
      rw [ek, VI_len] at this
      omega
    refine q a H same_rfl ?_
    rw [List.take_of_length_le hm2]
    exact e
  · refine q p _ (same_upd np) (.inl ?_)
    rw [upd_same]
    unfold cutV
    rw [e0, ek, List.drop_zero, Nat.sub_zero, VI_len, Nat.min_eq_left hm]
    congr 2
    unfold VI
    rw [List.map_take]
theorem slFrom {K : PySem.W.Frag} {H : Hp} {a : Addr} {s : List Nat} {m : Nat} {Q : VK} (e : Tp H a (VI s)) (hm : m ≤ s.length) (q : ∀ b H', Same H H' → Tp H' b (VI (s.drop m)) → Q (.ref b) H') : rSlA K (.ref a) (some ((m : Nat) : Int)) none H Q := by
  have ek : HT.sIx (VI s).length 0 (some ((m : Nat) : Int)) = min m (VI s).length := HT.sIx_nat _ _ m
  have e0 : HT.sIx (VI s).length (VI s).length none = (VI s).length := HT.sIx_none _ _
  refine ⟨a, VI s, rfl, e.sq, fun h => ?_, fun h p np => ?_⟩
  · have hm2 : m = 0 := by
      have := h.1
      rw [ek, VI_len] at this
      by_cases c : s.length = 0
      · omega
      · omega
    refine q a H same_rfl ?_
    rw [hm2]
    exact e
  · refine q p _ (same_upd np) (.inl ?_)
    rw [upd_same]
    unfold cutV
    rw [e0, ek, VI_len, Nat.min_eq_left hm]
    congr 2
    rw [List.take_of_length_le (by rw [List.length_drop, VI_len]; exact Nat.le_refl _)]
    unfold VI
    rw [List.map_drop]
theorem catTT {K : PySem.W.Frag} {H : Hp} {a b : Addr} {s t : List Nat} {Q : VK} (ea : Tp H a (VI s)) (eb : Tp H b (VI t)) (hz : s.length + t.length ≤ 100000) (q : ∀ c H', Same H H' → Tp H' c (VI (s ++ t)) → Q (.ref c) H') : rCatA K (.ref a) (.ref b) H Q := by
  refine ⟨a, b, _, _, rfl, rfl, ea.sq, eb.sq, by rw [VI_len, VI_len, sizeLine_eq]; omega, fun h => ?_, fun _ h => ?_, fun _ _ p np => ?_⟩
  · have : s = [] := List.map_eq_nil_iff.mp h
    subst this
    exact q b H same_rfl eb
  · have : t = [] := List.map_eq_nil_iff.mp h
    subst this
    refine q a H same_rfl ?_
    rw [List.append_nil]
    exact ea
  · refine q p _ (same_upd np) (.inl ?_)
    rw [upd_same, VI_app]
def spFromLeast : Sp := fun vs H Q _ => ∃ (t : Addr) (s : List Nat), vs = [.ref t] ∧ Ex H t (VI s) ∧ 0 < s.length ∧ s.length ≤ 1000 ∧ ∀ r H' mn, mn ∈ s → (∀ y ∈ s, mn ≤ y) → Same H H' → Tp H' r (VI (s.drop (s.idxOf mn) ++ s.take (s.idxOf mn))) → Q (.ref r) H'
section
variable {P : Program} {w : World} {K : PySem.W.Frag} {mg : Str → Option Value} {base : Heap}
end
end K14
set_option maxHeartbeats 4000000
/-! sorted(xs), xs a list of tuples of ints, each of any length from 1 on, any number of them -/
namespace SrtI
open PySem PySem.Spec PyProof.Rows SrtO
/-- by the first unlike number, else the shorter one -/
def lexL : List Int → List Int → Bool
  | [], [] => false
  | [], _ :: _ => true
  | _ :: _, [] => false
  | x :: s, y :: t => if x = y then lexL s t else decide (x < y)
def lexF (fin : Bool) : List Int → List Int → Bool
  | [], _ => fin
  | _ :: _, [] => fin
  | x :: s, y :: t => if x = y then lexF fin s t else decide (x < y)
theorem lexF_L : ∀ (s t : List Int), lexF (decide (s.length < t.length)) s t = lexL s t
  | [], [] => by simp [lexF, lexL]
  | [], _ :: _ => by simp [lexF, lexL]
  | _ :: _, [] => by simp [lexF, lexL]
  | x :: s, y :: t => by
    have h := lexF_L s t
    have e : decide ((x :: s).length < (y :: t).length) = decide (s.length < t.length) := by simp
    rw [e]
    unfold lexF lexL
    rw [h]
theorem lexL_refl : ∀ s : List Int, lexL s s = false
  | [] => rfl
  | x :: s => by
    unfold lexL
    rw [if_pos rfl]
    exact lexL_refl s
theorem lexL_asym : ∀ s t : List Int, lexL s t = true → lexL t s = false
  | [], [], h => by cases h
  | [], _ :: _, _ => rfl
  | _ :: _, [], h => by cases h
  | x :: s, y :: t, h => by
    unfold lexL at h ⊢
    by_cases e : x = y
    · rw [if_pos e] at h
      rw [if_pos e.symm]
      exact lexL_asym s t h
    · rw [if_neg e] at h
      rw [if_neg fun z => e z.symm]
      have := of_decide_eq_true h
      exact decide_eq_false (by omega)
theorem lexL_tr : ∀ s t u : List Int, lexL t s = false → lexL u t = false → lexL u s = false
  | [], t, [], _, _ => rfl
  | [], t, _ :: _, _, _ => rfl
  | _ :: _, [], u, h1, h2 => by cases h1
  | _ :: _, _ :: _, [], h1, h2 => by cases h2
  | x :: s, y :: t, z :: u, h1, h2 => by
    unfold lexL at h1 h2 ⊢
    by_cases e1 : y = x
    · rw [if_pos e1] at h1
      by_cases e2 : z = y
      · rw [if_pos e2] at h2
        rw [if_pos (e2.trans e1)]
        exact lexL_tr s t u h1 h2
      · rw [if_neg e2] at h2
        rw [if_neg fun q => e2 (q.trans e1.symm)]
        have := of_decide_eq_false h2
        exact decide_eq_false (by omega)
    · rw [if_neg e1] at h1
      have a := of_decide_eq_false h1
      by_cases e2 : z = y
      · rw [if_pos e2] at h2
        rw [if_neg fun q => e1 (e2.symm.trans q)]
        exact decide_eq_false (by omega)
      · rw [if_neg e2] at h2
        have b := of_decide_eq_false h2
        rw [if_neg (by omega)]
        exact decide_eq_false (by omega)
theorem lexL_swo {α : Type} (k : α → List Int) : Swo fun v u => lexL (k v) (k u) := ⟨fun x y h => lexL_asym _ _ h, fun x y z h1 h2 => lexL_tr _ _ _ h1 h2⟩
section
variable {prog : Program} {w : World} {A : Around} {E : Value → Shared → Prop} {s : Shared}
def IsInts (h : Heap) (v : Value) (ns : List Int) : Prop := ∃ (a : Addr) (o : Obj) (its : Array Value) (n : Nat), v = .ref a ∧ h.get? a = some o ∧ o.cls = .type "tuple" ∧ o.data = .seq its n ∧ IntsAre its.toList ns
theorem IsInts.keeps {h h' : Heap} {v : Value} {ns : List Int} (p : IsInts h v ns) (k : ∀ b o, h.get? b = some o → o.cls = .type "tuple" → h'.get? b = some o) : IsInts h' v ns := by
  obtain ⟨a, o, its, n, e, ho, hc, hd, hi⟩ := p
  exact ⟨a, o, its, n, e, k _ _ ho hc, hc, hd, hi⟩
theorem kat_ints {b fin : Bool} {Q : Bool → Shared → Prop} {xs ys : List Value} {ns ms : List Int} (i : Nat) (hx : IntsAre xs ns) (hy : IntsAre ys ms) (h : Q (lexF fin ns ms) s) : PySem.W.KatLex prog w A b fin Q (xs.zip ys) i s := by
  induction hx generalizing ys ms i with
  | nil => exact PySem.W.kat_nil h
  | @cons p t xs ns hx ih =>
    cases hy with
    | nil => exact PySem.W.kat_nil h
    | @cons q u ys ms hy =>
      show PySem.W.KatLex prog w A b fin Q ((Value.int p t, Value.int q u) :: xs.zip ys) i s
      refine PySem.W.kat_cons (wpAny_eqBool_int ?_)
      unfold lexF at h
      by_cases e : p = q
      · rw [if_pos e] at h
        subst e
        rw [beq_self_eq_true]
        refine PySem.W.kat_yes ?_
        first
          | exact ih (i + 1) hy h
          | exact ih _ _ (i + 1) hy h
      · rw [if_neg e] at h
        rw [show (p == q) = false from beq_eq_false_iff_ne.mpr e]
        refine PySem.W.kat_no (TS.oneLt_ints _ ?_)
        exact h
theorem ints_cmp {vs : List Value} {k : Value → List Int} (hp : ∀ v ∈ vs, IsInts s.heap v (k v)) : Cmp prog w A s (tuples' true) (fun p => p.1 ∈ vs) (lt2 fun v u => lexL (k v) (k u)) := by
  intro p q hm hm'
  have h1 := hp _ hm
  have h2 := hp _ hm'
  show wpAny (model prog w) A (keyLt' (tuples' true) p.1 q.1) (fun r s' => s' = s ∧ r = lexL (k p.1) (k q.1)) (fun _ _ => False) s
  generalize k p.1 = x at h1 ⊢
  generalize k q.1 = x' at h2 ⊢
  obtain ⟨a, o, its, n, e, ho, hc, hd, hi⟩ := h1
  obtain ⟨a', o', its', n', e', ho', hc', hd', hi'⟩ := h2
  rw [e, e']
  refine PySem.W.kat_lt ho hd ho' hd' (kat_ints 0 hi hi' ⟨rfl, ?_⟩)
  rw [← lexF_L]
  congr 1
  have l1 : its.size = x.length := by rw [← hi.length]; simp
  have l2 : its'.size = x'.length := by rw [← hi'.length]; simp
  rw [l1, l2]
theorem firsts_of {h : Heap} {k : Value → List Int} : ∀ {vs : List Value}, (∀ v ∈ vs, IsInts h v (k v) ∧ 1 ≤ (k v).length) → ∃ fs : List Value, PySem.W.KatTups h vs fs ∧ fs.length = vs.length ∧ ∀ f ∈ fs, ∃ x t, f = Value.int x t
  | [], _ => ⟨[], PySem.W.KatTups.nil, rfl, fun _ hm => by simp at hm⟩
  | v :: vs, hp => by
    obtain ⟨fs, h1, h2, h3⟩ := firsts_of (vs := vs) fun v' hm => hp v' (List.mem_cons_of_mem _ hm)
    obtain ⟨⟨a, o, its, n, e, ho, hc, hd, hi⟩, hl⟩ := hp v (List.mem_cons_self ..)
    subst e
    generalize k (.ref a) = ns at hi hl
    obtain ⟨its⟩ := its
    have hi' : IntsAre its ns := hi
    cases hi' with
    | nil => simp at hl
    | @cons x t us ns hy =>
      refine ⟨.int x t :: fs, PySem.W.KatTups.cons ho hc hd rfl h1, by rw [List.length_cons, List.length_cons, h2], fun f hm => ?_⟩
      rcases List.mem_cons.mp hm with rfl | hm
      · exact ⟨x, t, rfl⟩
      · exact h3 f hm
theorem ints_sortableO {a : Addr} {vs : List Value} {k : Value → List Int} (h0 : 0 < vs.length) (hp : ∀ v ∈ vs, IsInts s.heap v (k v) ∧ 1 ≤ (k v).length) (ha : ∀ o, s.heap.get? a = some o → o.cls ≠ .type "tuple") : SortableO prog w A s a vs fun v u => lexL (k v) (k u) := by
  intro h' keep
  have hp' : ∀ v ∈ vs, IsInts h' v (k v) ∧ 1 ≤ (k v).length := fun v hm => ⟨(hp v hm).1.keeps fun b o e c => keep b o (fun z => by subst z; exact ha o e c) e, (hp v hm).2⟩
  obtain ⟨fs, h1, h2, h3⟩ := firsts_of hp'
  refine ⟨tuples' true, fun Q E hq => ?_, ints_cmp fun v hm => (hp' v hm).1⟩
  refine PySem.W.kat_kind (T := .type "int") h1 (by omega) (fun f hm => ?_) (by rfl) ?_
  · obtain ⟨x, t, rfl⟩ := h3 f hm
    exact PySem.W.Looks.now
  · have e : (Value.type "int" != Value.type "tuple") = true := by first | decide +kernel | rfl | decide
    rw [e]
    exact hq
theorem sorted_intsO {l : Addr} {vs : List Value} {k : Value → List Int} {Q : Value → Shared → Prop} (hl : s.heap.IsList l vs.toArray) (hz : vs.length ≤ sizeLine) (hp : ∀ v ∈ vs, IsInts s.heap v (k v) ∧ 1 ≤ (k v).length)
    (h : ∀ (h' : Heap) (d : Addr) (out : List Value), Srtd (fun v u => lexL (k v) (k u)) out → Stb (fun v u => lexL (k v) (k u)) out vs → (∀ b o, s.heap.get? b = some o → h'.get? b = some o) → s.heap.objs.size ≤ d → (∃ n, h'.get? d = some (seqObj "list" out.toArray n)) → Q (.ref d) { s with heap := h' }) :
    wpAny (model prog w) A (call (.builtin "sorted") [.ref l]) Q E s := by
  refine sorted_ord (lexL_swo k) hl hz (fun h2 h₁ a ha kk => ?_) fun out hs hb => ?_
  · refine ints_sortableO (s := { s with heap := h₁ }) (by omega) (fun v hm => ⟨(hp v hm).1.keeps fun b o e _ => (kk b o e).2, (hp v hm).2⟩) fun o e => ?_
    have e' : some o = some (seqObj "list" vs.toArray 0) := e.symm.trans ha
    cases e'
    intro c
    exact absurd (Value.type.inj c) (by decide)
  · exact h _ _ out hs hb (fun b o e => sortedAll_old e) (Nat.le_succ _) (sortedAll_at s.heap vs out.toArray)
end
end SrtI
namespace L2
open PySem PySem.Spec PyProof.Rows
abbrev ltI (k : V → List Int) (x y : V) : Bool := SrtI.lexL (k x) (k y)
/-- sorted(xs), xs a list of tuples of ints, each with one or more (k says which): a new list, sorted, equal ones in their order -/
def rSortedI (K : PySem.W.Frag) : List V → Hp → VK → Prop := fun vs H Q => ∃ (a : Addr) (xs : List V) (k : V → List Int), vs = [V.ref a] ∧ SqL K H a xs ∧ (∀ x ∈ xs, ∃ t, x = V.ref t ∧ SqT K H t ((k x).map V.int) ∧ 1 ≤ (k x).length) ∧
  ∀ ys p, SrtO.Srtd (ltI k) ys → SrtO.Stb (ltI k) ys xs → H p = none → Q (.ref p) (upd H p (.lst ys))
section
variable {X : Cx}
theorem cr_sortedI : CallR X (.builtin "sorted") (rSortedI X.K) := by
  intro pins s σ H vs us Q I r h
  obtain ⟨a, xs, k, rfl, hs, hx, q⟩ := h
  obtain ⟨its, rv, hl, hz⟩ := I.list hs
  obtain ⟨u, rfl, ru⟩ := vals1 r
  obtain rfl : u = Value.ref a := ru
  obtain ⟨e1, e2⟩ := refs_back rv fun x m => by
    obtain ⟨t, e, _⟩ := hx x m
    exact ⟨t, e⟩
  refine SrtI.sorted_intsO (k := fun u => k (backV u)) hl.isList (by rw [← rv.length]; exact hz) (fun v hv => ?_) fun h' d out h1 h2 kp hd hn => ?_
  · obtain ⟨t, rfl⟩ := e2 v hv
    have hm : V.ref t ∈ xs := by rw [e1]; exact List.mem_map.mpr ⟨_, hv, rfl⟩
    obtain ⟨t', e, ht, h1⟩ := hx _ hm
    cases e
    obtain ⟨its2, r2, ⟨o, ho, hc, n, hd⟩, _⟩ := I.tuple ht
    exact ⟨⟨t, o, its2.toArray, n, rfl, ho, hc, hd, (by show IntsAre its2.toArray.toList (k (V.ref t)); simpa using intsAre_of r2)⟩, h1⟩
  · have h3 : ∀ u ∈ out, ∃ a, u = Value.ref a := fun u hu => e2 u (h2.perm.mem_iff.mp hu)
    obtain ⟨n, hn⟩ := hn
    have hb : SrtO.Stb (ltI k) (out.map backV) xs := by
      rw [e1]
      exact SrtO.Stb.map (SrtI.lexL_swo k) backV h2
    refine ⟨.ref d, upd H d (.lst (out.map backV)), I.laid (t' := s.toks) kp hd ⟨?_, out, n, vals_back h3, hn⟩, rfl, q _ d (SrtO.srtd_map h1) hb (I.hok.fresh hd)⟩
    rw [hb.len]
    exact hz
end
end L2
namespace K14
open PySem PySem.Spec PyProof.Rows L2
theorem permOf {α : Type} [DecidableEq α] : ∀ {L L' : List α}, L.Nodup → L'.Nodup → (∀ x, x ∈ L ↔ x ∈ L') → L.Perm L'
  | [], L', _, _, h => by
    cases L' with
    | nil => exact .nil
    | cons a t => exact absurd ((h a).mpr (by simp)) (by simp)
  | a :: t, L', n1, n2, h => by
    have ha : a ∈ L' := (h a).mp (by simp)
    have nt := List.nodup_cons.mp n1
    refine ((permOf nt.2 (n2.erase a) fun x => ?_).cons a).trans (List.perm_cons_erase ha).symm
    rw [n2.mem_erase_iff]
    constructor
    · intro hx
      exact ⟨fun e => nt.1 (e ▸ hx), (h x).mp (by simp [hx])⟩
    · rintro ⟨ne, hx⟩
      rcases List.mem_cons.mp ((h x).mpr hx) with e | e
      · exact absurd e ne
      · exact e
/-! ### a sorted list of rows -/
def vInt : V → Int
  | .int i => i
  | _ => 0
def rowI (H : Hp) (x : V) : List Int := match x with
  | .ref t => match H t with
    | some (.tup vs) => vs.map vInt
    | some (.frz _ (.tup vs)) => vs.map vInt
    | _ => []
  | _ => []
def nInts (s : List Nat) : List Int := s.map fun j => ((j : Nat) : Int)
theorem nInts_inj {s t : List Nat} (h : nInts s = nInts t) : s = t := by
  have := congrArg (List.map Int.toNat) h
  unfold nInts at this
  rw [List.map_map, List.map_map] at this
  have e : (Int.toNat ∘ fun j : Nat => (j : Int)) = id := by
    funext j
    simp
  rw [e, List.map_id, List.map_id] at this
  exact this
theorem rowI_at {H : Hp} {t : Addr} {s : List Nat} (e : Tp H t (VI s)) : rowI H (.ref t) = nInts s := by
  have m : (VI s).map vInt = nInts s := by
    unfold VI nInts
    rw [List.map_map]
    rfl
  rcases e with e | ⟨o, _, _, e⟩
  · unfold rowI
    simp only [e, m]
  · unfold rowI
    simp only [e, m]
theorem lexL_eq : ∀ {s t : List Int}, SrtI.lexL s t = false → SrtI.lexL t s = false → s = t
  | [], [], _, _ => rfl
  | [], _ :: _, h, _ => by cases h
  | _ :: _, [], _, h => by cases h
  | x :: s, y :: t, h1, h2 => by
    unfold SrtI.lexL at h1 h2
    by_cases e : x = y
    · rw [if_pos e] at h1
      rw [if_pos e.symm] at h2
      rw [e, lexL_eq h1 h2]
    · rw [if_neg e] at h1
      rw [if_neg fun z => e z.symm] at h2
      have a := of_decide_eq_false h1
      have b := of_decide_eq_false h2
      omega
theorem lex_head {s t : List Nat} (hs : 1 ≤ s.length) (ht : 1 ≤ t.length) (h : s.headD 0 < t.headD 0) : SrtI.lexL (nInts t) (nInts s) = false := by
  cases s with
  | nil => simp at hs
  | cons a s =>
    cases t with
    | nil => simp at ht
    | cons b t =>
      have h' : a < b := h
      show (if (b : Int) = (a : Int) then _ else decide ((b : Int) < (a : Int))) = false
      rw [if_neg (by omega)]
      exact decide_eq_false (by omega)
theorem refs_all {ys : List V} {us : List Addr} (pys : ys.Perm (us.map V.ref)) : ∃ us' : List Addr, ys = us'.map V.ref := by
  have all : ∀ y ∈ ys, ∃ u, y = V.ref u := fun y hy => by
    obtain ⟨u, _, rfl⟩ := List.mem_map.mp (pys.mem_iff.mp hy)
    exact ⟨u, rfl⟩
  clear pys
  induction ys with
  | nil => exact ⟨[], rfl⟩
  | cons y r ih =>
    obtain ⟨u, rfl⟩ := all y (by simp)
    obtain ⟨w, hw⟩ := ih fun z hz => all z (by simp [hz])
    exact ⟨u :: w, by rw [hw]; rfl⟩
theorem Rws.at {H : Hp} {us : List Addr} {R : List (List Nat)} (t : Rws H us R) {j : Nat} {x : V} (h : (us.map V.ref)[j]? = some x) : ∃ u r, x = .ref u ∧ R[j]? = some r ∧ Tp H u (VI r) := by
  rw [List.getElem?_map] at h
  cases e : us[j]? with
  | none => rw [e] at h; cases h
  | some u =>
    rw [e] at h
    cases h
    have hl := (List.getElem?_eq_some_iff.mp e).1
    have hr : j < R.length := by rw [← t.1]; exact hl
    exact ⟨u, R[j], rfl, List.getElem?_eq_getElem hr, t.2 j u _ e (List.getElem?_eq_getElem hr)⟩
theorem sort_rowsP {K : PySem.W.Frag} {H : Hp} {a : Addr} {us : List Addr} {R R' : List (List Nat)} {Q : VK} (e : H a = some (.lst (us.map V.ref))) (t : Rws H us R) (pm : R'.Perm R) (asc : R'.Pairwise fun x y => SrtI.lexL (nInts y) (nInts x) = false) (ne : ∀ r ∈ R, 1 ≤ r.length)
    (q : ∀ us' p, H p = none → Rws H us' R' → Q (.ref p) (upd H p (.lst (us'.map V.ref)))) : rSortedI K [.ref a] H Q := by
  refine ⟨a, us.map V.ref, rowI H, rfl, SqL.of e, fun x hx => ?_, fun ys p so st np => ?_⟩
  · obtain ⟨j, hj, ej⟩ := List.mem_iff_getElem.mp hx
    obtain ⟨u, r, rfl, er, eu⟩ := t.at (by rw [List.getElem?_eq_getElem hj, ej])
    refine ⟨u, rfl, ?_, ?_⟩
    · rw [rowI_at eu]
      unfold nInts
      rw [List.map_map]
      exact eu.sq
    · rw [rowI_at eu]
      unfold nInts
      rw [List.length_map]
      exact ne r (List.mem_of_getElem? er)
  · have pys := st.perm
    obtain ⟨us', rfl⟩ := refs_all pys
    have c0 : (us.map V.ref).map (rowI H) = R.map nInts := by
      apply List.ext_getElem?
      intro j
      rw [List.getElem?_map, List.getElem?_map, List.getElem?_map]
      have tl := t.1
      by_cases c : j < us.length
      · have ex : (us.map V.ref)[j]? = some (.ref us[j]) := by rw [List.getElem?_map, List.getElem?_eq_getElem c]; rfl
        obtain ⟨u, r, eu0, er, eu⟩ := t.at ex
        cases eu0
        rw [er, List.getElem?_eq_getElem c]
        show some (rowI H (.ref us[j])) = _
        rw [rowI_at eu]
        rfl
      · rw [List.getElem?_eq_none (by omega), List.getElem?_eq_none (by omega)]
        rfl
    have c1 : ((us'.map V.ref).map (rowI H)).Perm (R'.map nInts) := by
      refine (pys.map (rowI H)).trans ?_
      rw [c0]
      exact (pm.map _).symm
    have c2 : (us'.map V.ref).map (rowI H) = R'.map nInts := by
      refine List.Perm.eq_of_pairwise (le := fun x y => SrtI.lexL y x = false) (fun x y _ _ h1 h2 => lexL_eq h2 h1) ?_ ?_ c1
      · exact List.pairwise_map.mpr so
      · exact List.pairwise_map.mpr asc
    refine q us' p np ⟨?_, fun j u r e1 e2 => ?_⟩
    · have := congrArg List.length c2
      simpa using this
    · have hu : V.ref u ∈ us.map V.ref := pys.mem_iff.mp (List.mem_map.mpr ⟨u, List.mem_of_getElem? e1, rfl⟩)
      obtain ⟨i, hi, ei⟩ := List.mem_iff_getElem.mp hu
      obtain ⟨u2, r2, eu2, er2, eu3⟩ := t.at (show (us.map V.ref)[i]? = some (V.ref u) by rw [List.getElem?_eq_getElem hi, ei])
      cases eu2
      have h2 : ((us'.map V.ref).map (rowI H))[j]? = some (rowI H (.ref u)) := by rw [List.getElem?_map, List.getElem?_map, e1]; rfl
      rw [c2, List.getElem?_map, e2, rowI_at eu3] at h2
      have h3 : nInts r = nInts r2 := Option.some.inj h2
      rw [nInts_inj h3]
      exact eu3
theorem sort_rows {K : PySem.W.Frag} {H : Hp} {a : Addr} {us : List Addr} {R R' : List (List Nat)} {Q : VK} (e : H a = some (.lst (us.map V.ref))) (t : Rws H us R) (pm : R'.Perm R) (asc : R'.Pairwise fun x y => x.headD 0 < y.headD 0) (ne : ∀ r ∈ R, 1 ≤ r.length)
    (q : ∀ us' p, H p = none → Rws H us' R' → Q (.ref p) (upd H p (.lst (us'.map V.ref)))) : rSortedI K [.ref a] H Q :=
  sort_rowsP e t pm (asc.imp_of_mem fun {x y} hx hy h => lex_head (ne x (pm.mem_iff.mp hx)) (ne y (pm.mem_iff.mp hy)) h) ne q
/-! ### a dict of numbers by numbers -/
def kvf (x : Nat × Nat) : Key × V := (Sum.inl (x.1 : Int), V.int (x.2 : Nat))
def kvO (L : List (Nat × Nat)) : List (Key × V) := L.map kvf
def getO (L : List (Nat × Nat)) (o : Nat) : Option Nat := (L.find? fun x => decide (x.1 = o)).map Prod.snd
theorem kvO_val {o : Nat} : ∀ (L : List (Nat × Nat)), valV (kvO L) (Sum.inl (o : Int)) = (getO L o).map fun j => V.int (j : Nat)
  | [] => rfl
  | x :: t => by
    show valV (kvf x :: kvO t) _ = _
    by_cases c : x.1 = o
    · rw [valV_pos (by show (Sum.inl (x.1 : Int) : Key) = _; rw [c])]
      unfold getO
      rw [List.find?_cons_of_pos (by simpa using c)]
      rfl
    · rw [valV_neg (fun z => c (by have := Sum.inl.inj z; omega))]
      rw [kvO_val t]
      unfold getO
      rw [List.find?_cons_of_neg (by simpa using c)]
theorem getO_none {L : List (Nat × Nat)} {o : Nat} : getO L o = none ↔ o ∉ L.map Prod.fst := by
  unfold getO
  rw [Option.map_eq_none_iff, List.find?_eq_none]
  constructor
  · intro h z
    obtain ⟨x, hx, e⟩ := List.mem_map.mp z
    exact h x hx (by simpa using e)
  · intro h x hx z
    exact h (List.mem_map.mpr ⟨x, hx, by simpa using z⟩)
theorem getO_mem {L : List (Nat × Nat)} {o v : Nat} (h : getO L o = some v) : (o, v) ∈ L := by
  unfold getO at h
  obtain ⟨x, h1, rfl⟩ := Option.map_eq_some_iff.mp h
  have h2 := List.find?_some h1
  have h3 : x.1 = o := by simpa using h2
  rw [← h3]
  exact List.mem_of_find?_eq_some h1
theorem kvO_any {o : Nat} (L : List (Nat × Nat)) : ((kvO L).any fun kv => decide (kv.1 = Sum.inl (o : Int))) = L.any fun x => decide (x.1 = o) := by
  unfold kvO
  rw [List.any_map]
  congr 1
  funext x
  show decide ((Sum.inl (x.1 : Int) : Key) = Sum.inl (o : Int)) = _
  rw [decide_eq_decide]
  constructor
  · intro z
    have := Sum.inl.inj z
    omega
  · intro z
    rw [z]
theorem kvO_put {o p : Nat} {L : List (Nat × Nat)} (h : o ∉ L.map Prod.fst) : putK (kvO L) (Sum.inl (o : Int)) (.int (p : Nat)) = kvO (L ++ [(o, p)]) := by
  unfold putK
  rw [kvO_any]
  rw [if_neg]
  · unfold kvO
    rw [List.map_append]
    rfl
  · intro z
    obtain ⟨x, hx, e⟩ := List.any_eq_true.mp z
    exact h (List.mem_map.mpr ⟨x, hx, by simpa using e⟩)
theorem Tp.ne_of {H : Hp} {a p : Addr} {xs : List V} {o : HO} (t : Tp H a xs) (e : H p = some o) (n1 : ∀ ys, o ≠ .tup ys) (n2 : ∀ u ys, o ≠ .frz u (.tup ys)) : a ≠ p := fun z => by
  subst z
  rcases t with e2 | ⟨u, _, _, e2⟩
  · rw [e] at e2
    exact n1 _ (Option.some.inj e2)
  · rw [e] at e2
    exact n2 _ _ (Option.some.inj e2)
theorem Rws.put {H : Hp} {us : List Addr} {R : List (List Nat)} {p : Addr} {o o' : HO} (t : Rws H us R) (e : H p = some o) (n1 : ∀ ys, o ≠ .tup ys) (n2 : ∀ u ys, o ≠ .frz u (.tup ys)) : Rws (upd H p o') us R :=
  ⟨t.1, fun i a s e1 e2 => (t.2 i a s e1 e2).put ((t.2 i a s e1 e2).ne_of e n1 n2)⟩
theorem Rws.snoc {H : Hp} {us : List Addr} {R : List (List Nat)} {u : Addr} {r : List Nat} (t : Rws H us R) (e : Tp H u (VI r)) : Rws H (us ++ [u]) (R ++ [r]) := by
  refine ⟨by rw [List.length_append, List.length_append, t.1]; rfl, fun i a s e1 e2 => ?_⟩
  by_cases c : i < us.length
  · rw [List.getElem?_append_left c] at e1
    rw [List.getElem?_append_left (by rw [← t.1]; exact c)] at e2
    exact t.2 i a s e1 e2
  · rw [List.getElem?_append_right (by omega)] at e1
    rw [List.getElem?_append_right (by have := t.1; omega)] at e2
    have h1 : i - us.length = 0 := by
      have := (List.getElem?_eq_some_iff.mp e1).1
      simp at this
      omega
    have h2 : i - R.length = 0 := by have := t.1; omega
    rw [h1] at e1
    rw [h2] at e2
    cases e1
    cases e2
    exact e
end K14
namespace K14
open PySem PySem.Spec PyProof.Rows L2
theorem roomU {k : Nat} {A : Around} (r : Room k A) : A.units + 1 < cLine := by
  have := r.units
  omega
def spAllRings : Sp := fun vs H Q _ => ∃ (b : Addr) (bs : List (Option Nat)), vs = [.ref b] ∧ H b = some (.lst (VH bs)) ∧ bs.length ≤ 100 ∧ Clo bs ∧ ∀ r H', Same H H' → LT H' r (ringsA bs) → Q (.ref r) H'
/-- the person on the way, or nobody -/
def pvV (n c : Nat) : V := if c < n then .int (c : Nat) else .non
theorem pvV_lt {n c : Nat} (h : c < n) : pvV n c = .int (c : Nat) := if_pos h
theorem pvV_ge {n c : Nat} (h : ¬ c < n) : pvV n c = .non := if_neg h
theorem hv_pv {bs : List (Option Nat)} (cl : Clo bs) (p : Nat) : hv (ha bs p) = pvV bs.length (gB bs p) := by
  unfold gB
  cases e : ha bs p with
  | none => rw [pvV_ge (by show ¬ bs.length < bs.length; omega)]; rfl
  | some q => rw [pvV_lt (by exact cl p q e)]; rfl
/-- what holds of the met ones -/
structure LMet (bs : List (Option Nat)) (L : List (Nat × Nat)) (i : Nat) : Prop where
  nd : (L.map Prod.fst).Nodup
  lt : ∀ x, x ∈ L → x.2 < i
  old : ∀ p, p < i → p ∈ L.map Prod.fst
/-- the dict while somebody walks -/
def wL (bs : List (Option Nat)) (L : List (Nat × Nat)) (i j : Nat) : List (Nat × Nat) := L ++ (ringL (gB bs) i j).map fun x => (x, i)
theorem wL_keys {bs : List (Option Nat)} {L : List (Nat × Nat)} {i j : Nat} : (wL bs L i j).map Prod.fst = L.map Prod.fst ++ ringL (gB bs) i j := by
  unfold wL
  rw [List.map_append, List.map_map]
  congr 1
  conv => rhs; rw [← List.map_id (ringL (gB bs) i j)]
  exact List.map_congr_left fun _ _ => rfl
theorem wL_succ {bs : List (Option Nat)} {L : List (Nat × Nat)} {i j : Nat} : wL bs L i (j + 1) = wL bs L i j ++ [(it (gB bs) j i, i)] := by
  unfold wL
  rw [ringL_succ, List.map_append, List.append_assoc]
  rfl
theorem wL_with {bs : List (Option Nat)} {L : List (Nat × Nat)} {i j : Nat} : (fun x => x ∈ (wL bs L i j).map Prod.fst) = With bs (fun x => x ∈ L.map Prod.fst) i j := by
  funext x
  apply propext
  show x ∈ (wL bs L i j).map Prod.fst ↔ _
  rw [wL_keys, List.mem_append, ringL_mem]
  exact Iff.rfl
theorem wL_nd {bs : List (Option Nat)} {L : List (Nat × Nat)} {i j : Nat} (nd : (L.map Prod.fst).Nodup) (W : Way9 bs (fun x => x ∈ L.map Prod.fst) i j) : ((wL bs L i j).map Prod.fst).Nodup := by
  rw [wL_keys]
  refine List.nodup_append.mpr ⟨nd, ?_, fun a ha b hb => ?_⟩
  · refine List.pairwise_map.mpr (List.Pairwise.imp_of_mem ?_ (List.pairwise_lt_range (n := j)))
    intro a b _ hb lt
    exact W.nd a b lt (List.mem_range.mp hb)
  · rintro rfl
    obtain ⟨k, hk, rfl⟩ := ringL_mem.mp hb
    exact W.new k hk ha
theorem wL_le {bs : List (Option Nat)} {L : List (Nat × Nat)} {i j : Nat} (ll : ∀ x, x ∈ L.map Prod.fst → x < bs.length) (nd : (L.map Prod.fst).Nodup) (W : Way9 bs (fun x => x ∈ L.map Prod.fst) i j) : (wL bs L i j).length ≤ bs.length ∧ j ≤ bs.length := by
  have h := nodup_sub_len (wL_nd nd W) (t := List.range bs.length) fun x hx => by
    rw [wL_keys, List.mem_append] at hx
    refine List.mem_range.mpr ?_
    rcases hx with hx | hx
    · exact ll x hx
    · obtain ⟨k, hk, rfl⟩ := ringL_mem.mp hx
      exact W.lt k hk
  rw [List.length_map, List.length_range] at h
  refine ⟨h, ?_⟩
  unfold wL at h
  rw [List.length_append, List.length_map, ringL_len] at h
  omega
/-- the walk goes on -/
theorem Way9.more {bs : List (Option Nat)} {T : Nat → Prop} {i j : Nat} (W : Way9 bs T i j) (lt : it (gB bs) j i < bs.length) (n : ¬ With bs T i j (it (gB bs) j i)) : Way9 bs T i (j + 1) where
  lt := fun k hk => by
    by_cases c : k < j
    · exact W.lt k c
    · rw [show k = j by omega]; exact lt
  new := fun k hk => by
    by_cases c : k < j
    · exact W.new k c
    · rw [show k = j by omega]; exact fun z => n (.inl z)
  nd := fun a k ak hk => by
    by_cases c : k < j
    · exact W.nd a k ak c
    · rw [show k = j by omega] at ak ⊢
      exact fun z => n (.inr ⟨a, ak, z⟩)
theorem walk0 {bs : List (Option Nat)} {T : Nat → Prop} {i : Nat} : Way9 bs T i 0 := ⟨fun _ h => absurd h (Nat.not_lt_zero _), fun _ h => absurd h (Nat.not_lt_zero _), fun _ _ _ h => absurd h (Nat.not_lt_zero _)⟩
/-- all that stands at a turn -/
structure Turn9 (bs : List (Option Nat)) (H H' : Hp) (D1 D2 : Addr) (us : List Addr) (Rr : List (List Nat)) (L : List (Nat × Nat)) : Prop where
  sm : Same H H'
  e1 : H' D1 = some (.lst (us.map V.ref))
  e2 : H' D2 = some (.dK (kvO L))
  n1 : H D1 = none
  n2 : H D2 = none
  rw' : Rws H' us Rr
theorem Turn9.ne {bs : List (Option Nat)} {H H' : Hp} {D1 D2 : Addr} {us : List Addr} {Rr : List (List Nat)} {L : List (Nat × Nat)} (t : Turn9 bs H H' D1 D2 us Rr L) : D1 ≠ D2 := fun z => by
  have a := t.e1
  rw [z, t.e2] at a
  cases a
theorem Turn9.same {bs : List (Option Nat)} {H H1 H2 : Hp} {D1 D2 : Addr} {us : List Addr} {Rr : List (List Nat)} {L : List (Nat × Nat)} (t : Turn9 bs H H1 D1 D2 us Rr L) (s : Same H1 H2) : Turn9 bs H H2 D1 D2 us Rr L :=
  ⟨t.sm.trans s, s _ _ t.e1, s _ _ t.e2, t.n1, t.n2, t.rw'.same s⟩
section
variable {P : Program} {w : World} {K : PySem.W.Frag} {mg : Str → Option Value} {base : Heap}
set_option maxHeartbeats 1000000 in
end
end K14
namespace K14
open PySem PySem.Spec PyProof.Rows L2
/-! ### the rings of steady holds, as the program finds them -/
def sF (ls : List (List Nat)) (hs : List (Option Nat)) (p : Nat) : Nat := (leftL ls hs p).getD 1 0
abbrev gF (ls : List (List Nat)) (hs : List (Option Nat)) : Nat → Nat := gB (givA ls hs)
theorem givA_at {ls : List (List Nat)} {hs : List (Option Nat)} {p : Nat} (hp : p < ls.length) : ha (givA ls hs) p = givO ls hs p := by
  unfold ha givA
  rw [List.getD_eq_getElem?_getD, List.getElem?_map, List.getElem?_range hp]
  rfl
section
variable {ls : List (List Nat)} {hs : List (Option Nat)} (ok : ListsOk ls.length ls)
include ok in
theorem snd_at {p : Nat} (hp : p < ls.length) {s : Nat} (S : Snd ls hs p s) : (leftL ls hs p)[1]? = some s := by
  have nd := left_nd (hs := hs) ok hp
  have sf := leftL_filter (hs := hs) ok hp
  cases e : leftL ls hs p with
  | nil => have := S.mem; rw [e] at this; cases this
  | cons a r =>
    have ef : fst ls hs p = some a := by unfold fst; rw [e]; rfl
    cases r with
    | nil =>
      have := S.mem
      rw [e, List.mem_singleton] at this
      exact absurd (by rw [ef, this]) S.ne
    | cons b r =>
      rw [e] at nd
      have nab : a ≠ b := fun z => (List.nodup_cons.mp nd).1 (by rw [z]; simp)
      have h1 := S.min b (by rw [e]; simp) (by rw [ef]; exact fun z => nab (Option.some.inj z))
      have f2 : (la ls p).filter (fun o => decide (o ≠ a) && (decide ((la ls p).idxOf o ≤ most ls hs p) && keepF ls hs p o)) = b :: r := by
        rw [← List.filter_filter, ← sf, e, List.filter_cons_of_neg (by simp)]
        refine List.filter_eq_self.mpr fun x hx => ?_
        have : x ≠ a := fun z => (List.nodup_cons.mp nd).1 (z ▸ hx)
        simpa using this
      have hs' : s ∈ b :: r := by
        have := S.mem
        rw [e] at this
        rcases List.mem_cons.mp this with h | h
        · exact absurd (by rw [ef, h]) S.ne
        · exact h
      have h2 := head_min (s := la ls p) (j := b) (o := s) (by rw [f2]; rfl) (by rw [f2]; exact hs')
      have mb : b ∈ leftL ls hs p := by rw [e]; simp
      have : s = b := idx_inj ((mem_left ok hp).mp S.mem).1 ((mem_left ok hp).mp mb).1 (by omega)
      rw [this]
      rfl
include ok in
theorem giv_at (ho : HoldsOk ls hs) (st : Std ls hs) : ∀ p, p < ls.length → 2 ≤ (leftL ls hs p).length → Giv ls hs p (sF ls hs p) (gF ls hs p) := by
  intro p hp h2
  obtain ⟨s, q, G⟩ := giv_ex ok ho st hp h2
  have e1 := snd_at ok hp G.sn
  have es : sF ls hs p = s := by
    unfold sF
    rw [List.getD_eq_getElem?_getD, e1]
    rfl
  have eg : gF ls hs p = q := by
    show (ha (givA ls hs) p).getD _ = q
    rw [givA_at hp]
    unfold givO
    rw [e1]
    show (ha hs s).getD _ = q
    rw [G.held]
    rfl
  rw [es, eg]
  exact G
include ok in
theorem giv_clo (ho : HoldsOk ls hs) : Clo (givA ls hs) := by
  intro p q e
  rw [givA_len]
  by_cases hp : p < ls.length
  · rw [givA_at hp] at e
    unfold givO at e
    cases e1 : (leftL ls hs p)[1]? with
    | none => rw [e1] at e; cases e
    | some b =>
      rw [e1] at e
      have h := ho.on b q e
      exact (ok.mate h.1 h.2).1
  · rw [ha_none_of (by rw [givA_len]; omega)] at e
    cases e
include ok in
/-- on a ring all have two left -/
theorem orb_two (ho : HoldsOk ls hs) {p m : Nat} (hp : p < ls.length) (c : Cyc (gF ls hs) p m) (k : Nat) : it (gF ls hs) k p < ls.length ∧ 2 ≤ (leftL ls hs (it (gF ls hs) k p)).length := by
  have lt := cyc_lt (giv_clo ok ho) (by rw [givA_len]; exact hp) c.one c.back
  have hk := lt k
  rw [givA_len] at hk
  refine ⟨hk, ?_⟩
  have e := gB_way lt k
  rw [givA_at hk] at e
  unfold givO at e
  cases e1 : (leftL ls hs (it (gF ls hs) k p))[1]? with
  | none => rw [e1] at e; cases e
  | some b => have := (List.getElem?_eq_some_iff.mp e1).1; omega
/-- a ring told as pairs -/
def prs (ls : List (List Nat)) (hs : List (Option Nat)) (r : List Nat) : List (Nat × Nat) := r.map fun x => (x, (leftL ls hs x).headD 0)
theorem head_some {l : List Nat} (h : 1 ≤ l.length) : l.head? = some (l.headD 0) := by
  cases l with
  | nil => simp at h
  | cons a t => rfl
def oddB (L : List (List Nat)) (ps : List (Nat × Nat)) : Bool := ps.all fun x => decide (x.1 ∈ ps.map Prod.snd) && decide ((la L x.1).length = 2)
theorem la_leftA {p : Nat} (hp : p < ls.length) : la (leftA ls hs) p = leftL ls hs p := by
  unfold la leftA
  rw [List.getD_eq_getElem?_getD, List.getElem?_map, List.getElem?_range hp]
  rfl
include ok in
theorem odd_iff (ho : HoldsOk ls hs) (st : Std ls hs) {p m : Nat} (hp : p < ls.length) (c : Cyc (gF ls hs) p m) : oddB (leftA ls hs) (prs ls hs (ringL (gF ls hs) p m)) = true ↔ OddX ls hs (sF ls hs) (Orb (gF ls hs) p) := by
  have two := orb_two ok ho hp c
  have G := giv_at ok ho st
  have onr : ∀ k, it (gF ls hs) k p ∈ ringL (gF ls hs) p m := fun k => by
    refine ringL_mem.mpr ⟨k % m, Nat.mod_lt _ c.one, ?_⟩
    conv => rhs; rw [← Nat.mod_add_div k m, it_add, Nat.mul_comm, turns_all c.back]
  -- the first one of a giver is the second one of the one ahead of it
  have tk : ∀ k, (leftL ls hs (it (gF ls hs) (k + 1) p)).headD 0 = sF ls hs (it (gF ls hs) k p) := fun k => by
    have g := G _ (two k).1 (two k).2
    have e := g.fq
    unfold fst at e
    have e2 := head_some (l := leftL ls hs (it (gF ls hs) (k + 1) p)) (by have := (two (k + 1)).2; omega)
    have e3 : (leftL ls hs (gF ls hs (it (gF ls hs) k p))).head? = some ((leftL ls hs (it (gF ls hs) (k + 1) p)).headD 0) := e2
    rw [e] at e3
    exact (Option.some.inj e3).symm
  have tks : ∀ y, y ∈ (prs ls hs (ringL (gF ls hs) p m)).map Prod.snd ↔ ∃ w, Orb (gF ls hs) p w ∧ sF ls hs w = y := fun y => by
    unfold prs
    rw [List.map_map, List.mem_map]
    constructor
    · rintro ⟨x, hx, e⟩
      obtain ⟨k, hk, rfl⟩ := ringL_mem.mp hx
      -- x is behind somebody
      obtain ⟨n, rfl⟩ : ∃ n, m = n + 1 := ⟨m - 1, by have := c.one; omega⟩
      refine ⟨it (gF ls hs) (n + k) p, ⟨_, rfl⟩, ?_⟩
      rw [← tk (n + k), show n + k + 1 = k + (n + 1) by omega, it_add, c.back]
      exact e
    · rintro ⟨w, ⟨k, rfl⟩, e⟩
      exact ⟨it (gF ls hs) (k + 1) p, onr _, by show (leftL ls hs _).headD 0 = y; rw [tk]; exact e⟩
  unfold oddB OddX
  rw [List.all_eq_true]
  constructor
  · rintro h x ⟨k, rfl⟩
    have := h (it (gF ls hs) k p, (leftL ls hs (it (gF ls hs) k p)).headD 0) (List.mem_map.mpr ⟨_, onr k, rfl⟩)
    rw [Bool.and_eq_true, decide_eq_true_eq, decide_eq_true_eq] at this
    refine ⟨(tks _).mp this.1, ?_⟩
    have h2 := this.2
    rw [la_leftA (two k).1] at h2
    exact h2
  · intro h x hx
    unfold prs at hx
    obtain ⟨y, hy, rfl⟩ := List.mem_map.mp hx
    obtain ⟨k, hk, rfl⟩ := ringL_mem.mp hy
    obtain ⟨h1, h2⟩ := h _ ⟨k, rfl⟩
    rw [Bool.and_eq_true, decide_eq_true_eq, decide_eq_true_eq]
    refine ⟨(tks _).mpr h1, ?_⟩
    show (la (leftA ls hs) (it (gF ls hs) k p)).length = 2
    rw [la_leftA (two k).1]
    exact h2
end
/-- there is a ring of just so many persons -/
theorem cyc_ex {g : Nat → Nat} {x : Nat} : ∀ (n m : Nat), m ≤ n → 1 ≤ m → it g m x = x → ∃ k, Cyc g x k
  | 0, m, h, h1, _ => by omega
  | n + 1, m, h, h1, e => by
    by_cases c : ∃ k, 1 ≤ k ∧ k < m ∧ it g k x = x
    · obtain ⟨k, k1, k2, k3⟩ := c
      exact cyc_ex n k (by omega) k1 k3
    · exact ⟨m, h1, e, fun k k1 k2 k3 => c ⟨k, k1, k2, k3⟩⟩
/-- every ring is told, from its least person on -/
theorem ring_told {bs : List (Option Nat)} (cl : Clo bs) {x m : Nat} (hx : x < bs.length) (m1 : 1 ≤ m) (hm : it (gB bs) m x = x) : ∃ p k, p < bs.length ∧ Cyc (gB bs) p k ∧ ringL (gB bs) p k ∈ ringsA bs ∧ Orb (gB bs) p = Orb (gB bs) x := by
  obtain ⟨k, c⟩ := cyc_ex m m (Nat.le_refl _) m1 hm
  obtain ⟨mn, hmn, le⟩ := min_ex id (ringL (gB bs) x k) (fun z => by
    have := congrArg List.length z
    rw [ringL_len] at this
    have := c.one
    simp at *
    omega)
  obtain ⟨a, ha, rfl⟩ := ringL_mem.mp hmn
  have lt := cyc_lt cl hx m1 hm
  have cm := c.turn a
  have pm : per bs (it (gB bs) a x) = k := cyc_per cm (cyc_lt cl (lt a) cm.one cm.back)
  have on : ∀ j, it (gB bs) j x ∈ ringL (gB bs) x k := fun j => by
    refine ringL_mem.mpr ⟨j % k, Nat.mod_lt _ c.one, ?_⟩
    conv => rhs; rw [← Nat.mod_add_div j k, it_add, Nat.mul_comm, turns_all c.back]
  refine ⟨it (gB bs) a x, k, lt a, cm, ?_, ?_⟩
  · unfold ringsA
    refine List.mem_map.mpr ⟨it (gB bs) a x, List.mem_filter.mpr ⟨List.mem_range.mpr (lt a), ?_⟩, by rw [pm]⟩
    refine isLst_iff.mpr ⟨by rw [pm]; have := c.one; omega, fun j _ => ?_⟩
    rw [← it_add]
    exact le _ (on _)
  · funext y
    apply propext
    constructor
    · rintro ⟨j, rfl⟩
      exact ⟨j + a, (it_add _ _ _ _).symm⟩
    · rintro ⟨j, rfl⟩
      refine ⟨j + (a * k - a), ?_⟩
      have le : a ≤ a * k := Nat.le_mul_of_pos_right _ c.one
      rw [← it_add, show j + (a * k - a) + a = j + a * k by omega, it_add, turns_all c.back]
/-! ### the holds behind a ring -/
structure Past (hs : List (Option Nat)) (ps : List (Nat × Nat)) (hs' : List (Option Nat)) : Prop where
  len : hs'.length = hs.length
  yes : ∀ k x y, ps[k]? = some x → ps[(k + ps.length - 1) % ps.length]? = some y → ha hs' x.2 = some y.1
  no : ∀ q, (∀ x ∈ ps, x.2 ≠ q) → ha hs' q = ha hs q
section
variable {ls : List (List Nat)} {hs hs' : List (Option Nat)} (ok : ListsOk ls.length ls)
include ok in
theorem takers (ho : HoldsOk ls hs) (st : Std ls hs) {p m : Nat} (hp : p < ls.length) (c : Cyc (gF ls hs) p m) (k : Nat) : (leftL ls hs (it (gF ls hs) (k + 1) p)).headD 0 = sF ls hs (it (gF ls hs) k p) ∧ fst ls hs (it (gF ls hs) k p) = some ((leftL ls hs (it (gF ls hs) k p)).headD 0) := by
  have two := orb_two ok ho hp c
  have g := giv_at ok ho st _ (two k).1 (two k).2
  have hd := fun k => head_some (l := leftL ls hs (it (gF ls hs) k p)) (by have := (two k).2; omega)
  refine ⟨?_, hd k⟩
  have e3 : (leftL ls hs (gF ls hs (it (gF ls hs) k p))).head? = some ((leftL ls hs (it (gF ls hs) (k + 1) p)).headD 0) := hd (k + 1)
  have e := g.fq
  unfold fst at e
  rw [e] at e3
  exact (Option.some.inj e3).symm
include ok in
/-- unlike takers -/
theorem takers_nd (ho : HoldsOk ls hs) (st : Std ls hs) {p m : Nat} (hp : p < ls.length) (c : Cyc (gF ls hs) p m) : ((prs ls hs (ringL (gF ls hs) p m)).map Prod.snd).Nodup := by
  unfold prs ringL
  rw [List.map_map, List.map_map]
  refine List.pairwise_map.mpr (List.Pairwise.imp_of_mem ?_ (List.pairwise_lt_range (n := m)))
  intro a b _ hb lt e
  have hb := List.mem_range.mp hb
  have e' : (leftL ls hs (it (gF ls hs) a p)).headD 0 = (leftL ls hs (it (gF ls hs) b p)).headD 0 := e
  have two := orb_two ok ho hp c
  have f1 := (takers ok ho st hp c a).2
  have f2 := (takers ok ho st hp c b).2
  rw [← e'] at f2
  have h1 := st.b _ _ (two a).1 f1
  have h2 := st.b _ _ (two b).1 f2
  rw [h1] at h2
  exact c.inj hb lt (Option.some.inj h2)
include ok in
theorem past_out (ho : HoldsOk ls hs) (st : Std ls hs) {p m : Nat} (hp : p < ls.length) (c : Cyc (gF ls hs) p m) (R : Rng ls hs (sF ls hs) (gF ls hs) (Orb (gF ls hs) p)) (P : Past hs (prs ls hs (ringL (gF ls hs) p m)) hs') :
    ∀ y, y < ls.length → ha hs' y = ha (outOf ls hs (sF ls hs) (Orb (gF ls hs) p)) y := by
  intro y hy
  have pl : (prs ls hs (ringL (gF ls hs) p m)).length = m := by unfold prs; rw [List.length_map, ringL_len]
  have pat : ∀ k, k < m → (prs ls hs (ringL (gF ls hs) p m))[k]? = some (it (gF ls hs) k p, (leftL ls hs (it (gF ls hs) k p)).headD 0) := fun k hk => by
    unfold prs
    rw [List.getElem?_map, ringL_at hk]
    rfl
  by_cases h : ∃ x, Orb (gF ls hs) p x ∧ sF ls hs x = y
  · obtain ⟨x, ⟨k, rfl⟩, rfl⟩ := h
    rw [out_yes R ⟨k, rfl⟩]
    -- the place of the one behind
    have hk : it (gF ls hs) k p = it (gF ls hs) (k % m) p := by
      conv => lhs; rw [← Nat.mod_add_div k m, it_add, Nat.mul_comm, turns_all c.back]
    have lm : k % m < m := Nat.mod_lt _ c.one
    rw [hk]
    by_cases d : k % m + 1 < m
    · have := P.yes (k % m + 1) _ (it (gF ls hs) (k % m) p, (leftL ls hs (it (gF ls hs) (k % m) p)).headD 0) (pat _ d) (by
        rw [pl, show k % m + 1 + m - 1 = k % m + m by omega, Nat.add_mod_right, Nat.mod_eq_of_lt lm]
        exact pat _ lm)
      rw [← (takers ok ho st hp c (k % m)).1]
      exact this
    · have e : k % m + 1 = m := by omega
      have := P.yes 0 _ (it (gF ls hs) (k % m) p, (leftL ls hs (it (gF ls hs) (k % m) p)).headD 0) (pat 0 c.one) (by
        rw [pl, show 0 + m - 1 = k % m by omega, Nat.mod_eq_of_lt lm]
        exact pat _ lm)
      rw [← (takers ok ho st hp c (k % m)).1, e, c.back]
      exact this
  · rw [out_no hy fun x hx z => h ⟨x, hx, z⟩]
    refine P.no y fun x hx z => ?_
    obtain ⟨r, hr, rfl⟩ := List.mem_map.mp hx
    obtain ⟨k, hk, rfl⟩ := ringL_mem.mp hr
    obtain ⟨n, rfl⟩ : ∃ n, m = n + 1 := ⟨m - 1, by have := c.one; omega⟩
    refine h ⟨it (gF ls hs) (n + k) p, ⟨_, rfl⟩, ?_⟩
    rw [← (takers ok ho st hp c (n + k)).1, show n + k + 1 = k + (n + 1) by omega, it_add, c.back]
    exact z
include ok in
theorem past_ok (ho : HoldsOk ls hs) (st : Std ls hs) {p m : Nat} (hp : p < ls.length) (c : Cyc (gF ls hs) p m) (R : Rng ls hs (sF ls hs) (gF ls hs) (Orb (gF ls hs) p)) (P : Past hs (prs ls hs (ringL (gF ls hs) p m)) hs') : HoldsOk ls hs' := by
  refine ⟨by rw [P.len, ho.len], fun y j e => ?_⟩
  by_cases hy : y < ls.length
  · refine ⟨hy, ?_⟩
    rw [past_out ok ho st hp c R P y hy] at e
    by_cases h : ∃ x, Orb (gF ls hs) p x ∧ sF ls hs x = y
    · obtain ⟨x, hx, rfl⟩ := h
      rw [out_yes R hx] at e
      have e := Option.some.inj e
      subst e
      exact ((mem_left ok (R.giv x hx).sl).mp (R.giv x hx).ps).1
    · rw [out_no hy fun x hx z => h ⟨x, hx, z⟩] at e
      exact (ho.on y j e).2
  · rw [ha_none_of (by rw [P.len, ho.len]; omega)] at e
    cases e
end
end K14
namespace K14
open PySem PySem.Spec PyProof.Rows L2
def spNoHolds (C : Addr) : Sp := fun vs H Q _ => ∃ (wi : Addr) (ns ls : List (List Nat)), vs = [.ref wi] ∧ WAt C H wi ns ls ∧ ∀ r H', Same H H' → H' r = some (.tup (VH (List.replicate ls.length none))) → Q (.ref r) H'
def spHeldRanksL (C : Addr) : Sp := fun vs H Q _ => ∃ (wi b : Addr) (ns ls : List (List Nat)) (hs : List (Option Nat)), vs = [.ref wi, .ref b] ∧ WAt C H wi ns ls ∧ H b = some (.lst (VH hs)) ∧ HoldsOk ls hs ∧ ∀ r H', Same H H' → H' r = some (.tup (VM ls hs)) → Q (.ref r) H'
def spAskedOut (C : Addr) : Sp := fun vs H Q _ => ∃ (wi : Addr) (ns ls : List (List Nat)), vs = [.ref wi] ∧ WAt C H wi ns ls ∧ ∀ r g H', Great ls g → Same H H' → H' r = some (.tup (VH g)) → Q (.ref r) H'
theorem Same.keep {H H' : Hp} {D : Addr} {o : HO} (s : Same H H') (n : H D = none) : Same H (upd H' D o) := s.fresh n
theorem rg_VI (n : Nat) : rgV 0 (n : Nat) = VI (List.range n) := by
  unfold rgV VI
  rw [Int.sub_zero, Int.toNat_natCast]
  refine List.map_congr_left fun i _ => ?_
  rw [Int.zero_add]
theorem VH_set (hs : List (Option Nat)) (j p : Nat) : (VH hs).set j (.int (p : Nat)) = VH (hs.set j (some p)) := by
  unfold VH
  rw [List.map_set]
  rfl
theorem VM_set {ls : List (List Nat)} {hs : List (Option Nat)} {j p : Nat} (hj : j < hs.length) : (VM ls hs).set j (.int ((la ls j).idxOf p : Nat)) = VM ls (hs.set j (some p)) := by
  apply List.ext_getElem?
  intro i
  rw [List.getElem?_set]
  by_cases c : i < ls.length
  · rw [VM_get c]
    by_cases d : j = i
    · subst d
      rw [if_pos rfl, if_pos (by rw [VM, List.length_map, List.length_range]; exact c), VM_get (hs := hs.set j (some p)) c, most_some (show ha (hs.set j (some p)) j = some p by rw [ha_set hj, if_pos rfl])]
    · rw [if_neg d, VM_get c, most_eq (show ha (hs.set j (some p)) i = ha hs i by rw [ha_set hj, if_neg (fun z => d z.symm)])]
  · have l1 : (VM ls hs)[i]? = none := List.getElem?_eq_none (by rw [VM, List.length_map, List.length_range]; omega)
    have l2 : (VM ls (hs.set j (some p)))[i]? = none := List.getElem?_eq_none (by rw [VM, List.length_map, List.length_range]; omega)
    rw [l1, l2]
    split
    · rename_i z
      subst z
      rw [if_neg (by rw [VM, List.length_map, List.length_range]; omega)]
    · rfl
section
variable {P : Program} {w : World} {K : PySem.W.Frag} {mg : Str → Option Value} {base : Heap}
theorem ok_held_ranksL {f fr C : Addr} {fd dr : FuncData} {k : Nat} (F : Fun K "held_ranks" "held_ranks" sHeldRanks f fd)
    (Gr : FnOk P w K mg base CX0 k fr dr ["wishes", "person", "other"] (spRankOf C)) (br : Binds K dr ["wishes", "person", "other"] []) (kr : PySem.W.keepIn K (.ref fr) = true) (mr : mg "rank_of" = some (.ref fr)) (mt : mg "tuple" = none) (me : mg "enumerate" = none) : FnOk P w K mg base CX0 (k + 1) f fd ["wishes", "holds"] (spHeldRanksL C) := by
  refine F.ok scHeldRanks (fun vs H Q E h => ?_) (fun cdv A outer s H vs Q E hr h => ?_)
  · obtain ⟨wi, b, ns, ls, hs, rfl, _⟩ := h
    rfl
  · obtain ⟨wi, b, ns, ls, hs, rfl, W, eb, ho, q⟩ := h
    refine ⟨_, pss_one (ps_ret (pe_callTy call_tuple_of (by rfl) mt (by decide +kernel) (pa_cons (pe_lc (own := [("person", 2), ("held", 3)]) (tt := tYes) rfl scHeldRanks.nd (pi_enum (by rfl) me (pa_cons (pv 1) pa_nil))
          (blkOk_by (own := [("person", 2), ("held", 3)]) (N := ["wishes", "holds", "person", "held"]) (sc := defScope sHeldRanks) (by decide +kernel)) (g := gTup K 2 (gCons (gName 2) (gCons (gName 3) gNil))) (fun _ _ _ _ _ => pg_tup rfl (pgs_cons (pg_name (i := 2) scHeldRanks.nd rfl (Or.inl rfl)) (pgs_cons (pg_name (i := 3) scHeldRanks.nd rfl (Or.inl rfl)) pgs_nil))) (fun _ _ _ _ _ => pts_nil)
          (fun _ _ _ _ _ => pe_call Gr hr rfl mr kr br .nil pass0 (pa_cons (pv 0) (pa_cons (pv 2) (pa_cons (pv 3) pa_nil))))) pa_nil))), ?_⟩
    refine ⟨_, rfl, b, _, rfl, SqL.of eb, fun D nD => ?_⟩
    have n60 := W.n60.2
    refine lc_same (walk_enum (K := K) (a := b) (xs := VH hs)) (by rw [VH_len, ho.len]; omega) (fun i => .int (most ls hs i : Nat)) nD (fun _ sm => SqL.of (sm _ _ eb)) ?_ ?_
    · rintro i x H1 H2 Z out hi sm ⟨U, x0, x1, rfl, nU, rfl, y1, y2⟩
      cases y1
      have s2 : Same H1 (upd H1 U (.tup [.int (i : Nat), x1])) := same_upd nU
      rw [VH_len] at hi
      have il : i < ls.length := by rw [← ho.len]; exact hi
      have y3 : (VH hs)[i]? = some x1 := y2
      rw [VH_get (ha_get hi)] at y3
      cases y3
      refine ⟨U, _, rfl, SqT.of upd_same, rfl, _, _, rfl, gn ⟨_, _, rfl, gn ⟨rfl, rfl, ?_⟩⟩⟩
      refine ⟨_, rfl, _, rfl, _, rfl, wi, ns, ls, i, ha hs i, rfl, (W.same sm).same s2, il, fun j ej => ?_, ?_⟩
      · exact (W.ok.both i _ j (la_get il) (ho.on i j ej).2).1
      · rw [rkO_N fun j ej => (ho.on i j ej).2]
        exact out _ s2
    · intro H1 sm e5
      refine ⟨D, _, rfl, .inl ⟨SqL.of e5, fun r nr => q r _ (sm.fresh (sm.free nr)) ?_⟩⟩
      rw [upd_same, VH_len, ho.len]
      rfl
end
end K14
namespace K14
open PySem PySem.Spec PyProof.Rows L2
section
variable {J : It} {n : Nat} {G : Hp → Prop} {Y : Nat → Hp → V → Hp → Prop}
/-- a comprehension with a test, that leaves all as it stood -/
theorem lc_pick (w : Walk J n G Y) {g : TG} {tt : TT} {te : TE} {vs : List Nat} {σ : L2.St} {H0 : Hp} {D : Addr} {Qd : Hp → Prop} (hn : n ≤ 100000) (sel : Nat → Bool) (val : Nat → V) (nD : H0 D = none) (hG : ∀ H, Same H0 H → G H)
    (hs : ∀ (i : Nat) (x : V) (H H' : Hp) (R : Hp → Prop) (Z : V → Hp → Prop), (∀ H3, Same H H3 → sel i = true → Z (val i) H3) → (∀ H3, Same H H3 → sel i = false → R H3) → i < n → Same H0 H → Y i H x H' → g x (wipe σ vs) H' fun σ2 H2 => wipe σ2 vs = wipe σ vs ∧ tt σ2 H2 fun b H3 => if b = true then te σ2 H3 Z else R H3)
    (hd : ∀ H, Same H0 H → H D = some (.lst (((List.range n).filter sel).map val)) → Qd H) :
    ∃ W : Nat → Nat → Hp → Prop, (∃ m, W 0 m (upd H0 D (.lst []))) ∧ ∀ i m H, W i m H →
      (J.stop i H ∧ Qd H) ∨ (J.go i H ∧ ∃ Nx : Hp → Prop, (∀ H', Nx H' → ∃ m', m' < m ∧ W (i + 1) m' H') ∧ ∀ x H', J.yld i H x H' → g x (wipe σ vs) H' fun σ2 H2 => wipe σ2 vs = wipe σ vs ∧ tt σ2 H2 fun b H3 =>
        if b = true then te σ2 H3 fun y H4 => ∃ acc, H4 D = some (.lst acc) ∧ acc.length < sizeLine ∧ Nx (upd H4 D (.lst (acc ++ [y]))) else Nx H3) := by
  refine lc_it w (fun i H => Same H0 H ∧ H D = some (.lst (((List.range i).filter sel).map val))) ⟨same_upd nD, by rw [upd_same]; rfl⟩ (fun i H _ h => hG H h.1) (fun i x H H' hi h y => ?_) (fun H h => hd H h.1 h.2)
  refine hs i x H H' (fun H => Same H0 H ∧ H D = some (.lst (((List.range (i + 1)).filter sel).map val))) (fun v H3 => ∃ acc, H3 D = some (.lst acc) ∧ acc.length < sizeLine ∧ (fun H => Same H0 H ∧ H D = some (.lst (((List.range (i + 1)).filter sel).map val))) (upd H3 D (.lst (acc ++ [v])))) (fun H3 z ft => ?_) (fun H3 z ff => ?_) hi h.1 y
  · refine ⟨_, z _ _ h.2, ?_, (h.1.trans z).fresh nD, ?_⟩
    · rw [List.length_map]
      refine sz6' (Nat.le_trans (List.length_filter_le _ _) ?_)
      rw [List.length_range]
      omega
    · rw [upd_same, List.range_succ, List.filter_append, List.filter_cons, if_pos ft, List.filter_nil, List.map_append]
      rfl
  · refine ⟨h.1.trans z, ?_⟩
    rw [z _ _ h.2, List.range_succ, List.filter_append, List.filter_cons, if_neg (by rw [ff]; decide), List.filter_nil, List.append_nil]
/-- a tuple of numbers, or None -/
def OV (H : Hp) (v : V) : Option (List Nat) → Prop
  | none => v = .non
  | some s => ∃ t, v = .ref t ∧ H t = some (.tup (VI s))
theorem OV.same {H H' : Hp} {v : V} {o : Option (List Nat)} (h : OV H v o) (s : Same H H') : OV H' v o := by
  cases o with
  | none => exact h
  | some l => obtain ⟨t, e, et⟩ := h; exact ⟨t, e, s _ _ et⟩
theorem OV.put {H : Hp} {v : V} {o : Option (List Nat)} {D : Addr} {acc acc' : List V} (h : OV H v o) (eD : H D = some (.lst acc)) : OV (upd H D (.lst acc')) v o := by
  cases o with
  | none => exact h
  | some l =>
    obtain ⟨t, e, et⟩ := h
    refine ⟨t, e, ?_⟩
    rw [upd_ne (fun z => by rw [z, eD] at et; cases et)]
    exact et
/-- a comprehension of new tuples of numbers, or None, that leaves all else as it stood -/
theorem lc_opt (w : Walk J n G Y) {g : TG} {te : TE} {vs : List Nat} {σ : L2.St} {H0 : Hp} {D : Addr} {Qd : Hp → Prop} (hn : n ≤ 100000) (X : Nat → Option (List Nat)) (nD : H0 D = none) (hG : ∀ H, Same H0 H → G H)
    (hs : ∀ (i : Nat) (x : V) (H H' : Hp) (Z : V → Hp → Prop), (∀ v H3, Same H H3 → OV H3 v (X i) → Z v H3) → i < n → Same H0 H → Y i H x H' → g x (wipe σ vs) H' fun σ2 H2 => wipe σ2 vs = wipe σ vs ∧ te σ2 H2 Z)
    (hd : ∀ (rs : List V) H, Same H0 H → H D = some (.lst rs) → rs.length = n → (∀ (j : Nat) (v : V), rs[j]? = some v → OV H v (X j)) → Qd H) :
    ∃ W : Nat → Nat → Hp → Prop, (∃ m, W 0 m (upd H0 D (.lst []))) ∧ ∀ i m H, W i m H →
      (J.stop i H ∧ Qd H) ∨ (J.go i H ∧ ∃ Nx : Hp → Prop, (∀ H', Nx H' → ∃ m', m' < m ∧ W (i + 1) m' H') ∧ ∀ x H', J.yld i H x H' → g x (wipe σ vs) H' fun σ2 H2 => wipe σ2 vs = wipe σ vs ∧ tYes σ2 H2 fun b H3 =>
        if b = true then te σ2 H3 fun y H4 => ∃ acc, H4 D = some (.lst acc) ∧ acc.length < sizeLine ∧ Nx (upd H4 D (.lst (acc ++ [y]))) else Nx H3) := by
  refine lc_it w (fun i H => ∃ rs : List V, Same H0 H ∧ H D = some (.lst rs) ∧ rs.length = i ∧ ∀ (j : Nat) (v : V), rs[j]? = some v → OV H v (X j)) ⟨[], same_upd nD, upd_same, rfl, fun _ _ e => by simp at e⟩ (fun i H _ ⟨_, h, _⟩ => hG H h) (fun i x H H' hi ⟨rs, sm, eD, rl, old⟩ y => ?_) (fun H ⟨rs, sm, eD, rl, old⟩ => hd rs H sm eD rl old)
  refine hs i x H H' (fun v H3 => ∃ acc, H3 D = some (.lst acc) ∧ acc.length < sizeLine ∧ (fun H => ∃ rs : List V, Same H0 H ∧ H D = some (.lst rs) ∧ rs.length = i + 1 ∧ ∀ (j : Nat) (v : V), rs[j]? = some v → OV H v (X j)) (upd H3 D (.lst (acc ++ [v])))) (fun v H3 s3 ov => ?_) hi sm y
  have eD3 := s3 _ _ eD
  refine ⟨_, eD3, by rw [rl]; exact sz6' (by omega), rs ++ [v], (sm.trans s3).fresh nD, upd_same, by simp [rl], ?_⟩
  intro j u e
  by_cases c : j < rs.length
  · rw [List.getElem?_append_left c] at e
    exact ((old j u e).same s3).put eD3
  · rw [List.getElem?_append_right (by omega), List.getElem?_singleton] at e
    split at e
    · cases e
      have : j = i := by omega
      subst this
      exact ov.put eD3
    · cases e
end
/-- a tuple of those -/
def OT (H : Hp) (r : Addr) (xs : List (Option (List Nat))) : Prop := ∃ vs : List V, H r = some (.tup vs) ∧ vs.length = xs.length ∧ ∀ (j : Nat) (v : V) (o : Option (List Nat)), vs[j]? = some v → xs[j]? = some o → OV H v o
theorem OT.same {H H' : Hp} {r : Addr} {xs : List (Option (List Nat))} (t : OT H r xs) (s : Same H H') : OT H' r xs := let ⟨vs, e, l, q⟩ := t; ⟨vs, s _ _ e, l, fun j v o e1 e2 => (q j v o e1 e2).same s⟩
def dO1 : Option (List Nat) → PyData
  | none => .none
  | some s => dI s
def dO (xs : List (Option (List Nat))) : PyData := .tuple (xs.map dO1)
theorem dp_all {K : PySem.W.Frag} {H : Hp} : ∀ {vs : List V} {xs : List (Option (List Nat))}, vs.length = xs.length → (∀ (j : Nat) (v : V) (o : Option (List Nat)), vs[j]? = some v → xs[j]? = some o → OV H v o) → DpAll K H vs (xs.map dO1)
  | [], [], _, _ => .nil
  | [], _ :: _, l, _ => by cases l
  | _ :: _, [], l, _ => by cases l
  | v :: vs, o :: xs, l, h => by
    refine .cons ?_ (dp_all (by simpa using l) fun j u p e1 e2 => h (j + 1) u p (by simpa using e1) (by simpa using e2))
    have h0 := h 0 v o rfl rfl
    cases o with
    | none => cases h0; exact .non
    | some s => obtain ⟨t, rfl, et⟩ := h0; exact dp_dI (.inl et)
theorem dp_dO {K : PySem.W.Frag} {H : Hp} {r : Addr} {xs : List (Option (List Nat))} (t : OT H r xs) : Dp K H (.ref r) (dO xs) := by
  obtain ⟨vs, e, l, q⟩ := t
  exact .tup (SqT.of e) (dp_all l q)
theorem sh_dO (xs : List (Option (List Nat))) : SeqAt.shaped (dO xs) = true := by
  unfold dO
  refine shaped_of ?_ ?_
  · simp only [PyData.canLay0]
    refine layAll fun x hx => ?_
    obtain ⟨o, _, rfl⟩ := List.mem_map.mp hx
    cases o with
    | none => rfl
    | some s => exact (lay_dI s).1
  · simp only [PyData.depth]
    have := depAll (xs := xs.map dO1) (d := 2) fun x hx => by
      obtain ⟨o, _, rfl⟩ := List.mem_map.mp hx
      cases o with
      | none => simp [PyData.depth, dO1]
      | some s => exact (lay_dI s).2
    omega
theorem eq_dO (xs : List (Option (List Nat))) : PyData.eqv (dO xs) (dO xs) = true := by
  refine SeqAt.eqv_refl _ ?_
  have := sh_dO xs
  unfold SeqAt.shaped at this
  rw [Bool.and_eq_true] at this
  exact this.1
theorem eq_dI (s : List Nat) : PyData.eqv (dI s) (dI s) = true := by
  refine SeqAt.eqv_refl _ ?_
  exact (lay_dI s).1
theorem rp_of {d : PyData} {m B : Nat} (h : RpI d m B) (hm : m ≤ 60) (hB : B ≤ 1000000) : Rp d := ⟨h.sh, h.nd, Nat.le_trans h.dp hm, Nat.le_trans h.ln (Nat.le_trans hB (by decide))⟩
theorem rp_dO {xs : List (Option (List Nat))} (l : xs.length ≤ 60) (h : ∀ s, some s ∈ xs → s.length ≤ 60 ∧ ∀ j ∈ s, j < 60) : Rp (dO xs) := by
  unfold dO
  refine rp_of (rp_tup (m := 1) (B := 2000) fun x hx => ?_) (by decide) (by rw [List.length_map]; omega)
  obtain ⟨o, ho, rfl⟩ := List.mem_map.mp hx
  cases o with
  | none => exact ⟨rp_none.sh, rp_none.nd, Nat.le_trans rp_none.dp (by decide), Nat.le_trans rp_none.ln (by decide)⟩
  | some s => exact rp_dI (h s ho).1 (h s ho).2
theorem rp_dI' {s : List Nat} (l : s.length ≤ 60) (h : ∀ j ∈ s, j < 60) : Rp (dI s) := rp_of (rp_dI l h) (by decide) (by decide)
end K14
namespace K14
open PySem PySem.Spec PyProof.Rows L2
section
variable {J : It} {n : Nat} {G : Hp → Prop} {Y : Nat → Hp → V → Hp → Prop}
/-- a comprehension of things that have a property, all else as it stood -/
theorem lc_objs (w : Walk J n G Y) {g : TG} {te : TE} {vs : List Nat} {σ : L2.St} {H0 : Hp} {D : Addr} {Qd : Hp → Prop} (hn : n ≤ 100000) (Pr : Nat → Hp → Addr → Prop) (mono : ∀ i H H' r, Pr i H r → Same H H' → Pr i H' r)
    (keep : ∀ i H H' r ys, Pr i H r → H D = some (.lst ys) → (∀ b o, b ≠ D → H b = some o → H' b = some o) → Pr i H' r) (nD : H0 D = none) (hG : ∀ H, Same H0 H → G H)
    (hs : ∀ (i : Nat) (x : V) (H H' : Hp) (Z : V → Hp → Prop), (∀ r H3, Same H H3 → Pr i H3 r → Z (.ref r) H3) → i < n → Same H0 H → Y i H x H' → g x (wipe σ vs) H' fun σ2 H2 => wipe σ2 vs = wipe σ vs ∧ te σ2 H2 Z)
    (hd : ∀ (rs : List Addr) H, Same H0 H → H D = some (.lst (rs.map V.ref)) → rs.length = n → (∀ (j : Nat) (r : Addr), rs[j]? = some r → Pr j H r) → Qd H) :
    ∃ W : Nat → Nat → Hp → Prop, (∃ m, W 0 m (upd H0 D (.lst []))) ∧ ∀ i m H, W i m H →
      (J.stop i H ∧ Qd H) ∨ (J.go i H ∧ ∃ Nx : Hp → Prop, (∀ H', Nx H' → ∃ m', m' < m ∧ W (i + 1) m' H') ∧ ∀ x H', J.yld i H x H' → g x (wipe σ vs) H' fun σ2 H2 => wipe σ2 vs = wipe σ vs ∧ tYes σ2 H2 fun b H3 =>
        if b = true then te σ2 H3 fun y H4 => ∃ acc, H4 D = some (.lst acc) ∧ acc.length < sizeLine ∧ Nx (upd H4 D (.lst (acc ++ [y]))) else Nx H3) := by
  refine lc_it w (fun i H => ∃ rs : List Addr, Same H0 H ∧ H D = some (.lst (rs.map V.ref)) ∧ rs.length = i ∧ ∀ (j : Nat) (r : Addr), rs[j]? = some r → Pr j H r) ⟨[], same_upd nD, upd_same, rfl, fun _ _ e => by simp at e⟩ (fun i H _ ⟨_, h, _⟩ => hG H h) (fun i x H H' hi ⟨rs, sm, eD, rl, old⟩ y => ?_) (fun H ⟨rs, sm, eD, rl, old⟩ => hd rs H sm eD rl old)
  refine hs i x H H' (fun v H3 => ∃ acc, H3 D = some (.lst acc) ∧ acc.length < sizeLine ∧ (fun H => ∃ rs : List Addr, Same H0 H ∧ H D = some (.lst (rs.map V.ref)) ∧ rs.length = i + 1 ∧ ∀ (j : Nat) (r : Addr), rs[j]? = some r → Pr j H r) (upd H3 D (.lst (acc ++ [v])))) (fun r H3 s3 er => ?_) hi sm y
  have eD3 := s3 _ _ eD
  refine ⟨_, eD3, ?_, rs ++ [r], (sm.trans s3).fresh nD, by rw [upd_same]; simp, by simp [rl], ?_⟩
  · rw [List.length_map, rl]
    exact sz6' (by omega)
  · intro j q e
    by_cases c : j < rs.length
    · rw [List.getElem?_append_left c] at e
      exact keep j H3 _ q _ (mono j H H3 q (old j q e) s3) eD3 fun b o nb eb => by rw [upd_ne nb]; exact eb
    · have hj : j = rs.length := by
        have := (List.getElem?_eq_some_iff.mp e).1
        simp at this
        omega
      subst hj
      simp at e
      subst e
      rw [rl]
      exact keep i H3 _ _ _ er eD3 fun b o nb eb => by rw [upd_ne nb]; exact eb
end
/-! ### rings of pairs -/
def rows2 (L : List (Nat × Nat)) : List (List Nat) := L.map fun x => [x.1, x.2]
/-- a tuple of pairs -/
def RP (H : Hp) (r : Addr) (ps : List (Nat × Nat)) : Prop := ∃ us : List Addr, H r = some (.tup (us.map V.ref)) ∧ us.length = ps.length ∧ ∀ (j : Nat) (u : Addr) (x : Nat × Nat), us[j]? = some u → ps[j]? = some x → H u = some (.tup (VI [x.1, x.2]))
def RPs (H : Hp) (us : List Addr) (R : List (List (Nat × Nat))) : Prop := us.length = R.length ∧ ∀ (j : Nat) (u : Addr) (ps : List (Nat × Nat)), us[j]? = some u → R[j]? = some ps → RP H u ps
theorem RP.same {H H' : Hp} {r : Addr} {ps : List (Nat × Nat)} (t : RP H r ps) (s : Same H H') : RP H' r ps := let ⟨us, e, l, a⟩ := t; ⟨us, s _ _ e, l, fun j u x e1 e2 => s _ _ (a j u x e1 e2)⟩
theorem RPs.same {H H' : Hp} {us : List Addr} {R : List (List (Nat × Nat))} (t : RPs H us R) (s : Same H H') : RPs H' us R := ⟨t.1, fun j u ps e1 e2 => (t.2 j u ps e1 e2).same s⟩
theorem RP.keep {H H' : Hp} {D r : Addr} {ps : List (Nat × Nat)} {ys : List V} (t : RP H r ps) (eD : H D = some (.lst ys)) (k : ∀ b o, b ≠ D → H b = some o → H' b = some o) : RP H' r ps := by
  obtain ⟨us, e, l, a⟩ := t
  have ne : ∀ b xs, H b = some (.tup xs) → b ≠ D := fun b xs eb z => by
    rw [z, eD] at eb
    cases eb
  exact ⟨us, k _ _ (ne _ _ e) e, l, fun j u x e1 e2 => k _ _ (ne _ _ (a j u x e1 e2)) (a j u x e1 e2)⟩
theorem RP.at {H : Hp} {ps : List (Nat × Nat)} {us : List Addr} (l : us.length = ps.length) (a : ∀ (j : Nat) (u : Addr) (x : Nat × Nat), us[j]? = some u → ps[j]? = some x → H u = some (.tup (VI [x.1, x.2]))) {j : Nat} {v : V} (h : (us.map V.ref)[j]? = some v) : ∃ u x, v = .ref u ∧ ps[j]? = some x ∧ H u = some (.tup (VI [x.1, x.2])) := by
  rw [List.getElem?_map] at h
  cases e : us[j]? with
  | none => rw [e] at h; cases h
  | some u =>
    rw [e] at h
    cases h
    have hl := (List.getElem?_eq_some_iff.mp e).1
    have hr : j < ps.length := by rw [← l]; exact hl
    exact ⟨u, ps[j], rfl, List.getElem?_eq_getElem hr, a j u _ e (List.getElem?_eq_getElem hr)⟩
def spWithTakers : Sp := fun vs H Q _ => ∃ (g l : Addr) (r : List Nat) (L : List (List Nat)), vs = [.ref g, .ref l] ∧ Tp H g (VI r) ∧ LT H l L ∧ r.length ≤ 100 ∧ (∀ x ∈ r, x < L.length ∧ 1 ≤ (la L x).length) ∧
  ∀ c H', Same H H' → RP H' c (r.map fun x => (x, (la L x).headD 0)) → Q (.ref c) H'
def ringsP (ls : List (List Nat)) (hs : List (Option Nat)) : List (List (Nat × Nat)) := (ringsA (givA ls hs)).map (prs ls hs)
def spRingsIn : Sp := fun vs H Q _ => ∃ (t l : Addr) (ls : List (List Nat)) (hs : List (Option Nat)), vs = [.ref t, .ref l] ∧ H t = some (.tup (VH hs)) ∧ LT H l (leftA ls hs) ∧ HoldsOk ls hs ∧ ListsOk ls.length ls ∧ ls.length ≤ 100 ∧
  ∀ c us H', Same H H' → H' c = some (.tup (us.map V.ref)) → RPs H' us (ringsP ls hs) → Q (.ref c) H'
theorem head_la {L : List (List Nat)} {x : Nat} (h : 1 ≤ (la L x).length) : (la L x)[0]? = some ((la L x).headD 0) := by
  rw [← List.head?_eq_getElem?]
  exact head_some h
section
variable {P : Program} {w : World} {K : PySem.W.Frag} {mg : Str → Option Value} {base : Heap}
end
end K14
namespace K14
open PySem PySem.Spec PyProof.Rows L2
def spIsOdd : Sp := fun vs H Q _ => ∃ (l r : Addr) (L : List (List Nat)) (ps : List (Nat × Nat)), vs = [.ref l, .ref r] ∧ LT H l L ∧ RP H r ps ∧ ps.length ≤ 100 ∧ (∀ x ∈ ps, x.1 < L.length) ∧ ∀ H', Same H H' → Q (.bl (oddB L ps)) H'
theorem scIsOdd : FnScope ["lists", "ring", "takers", "_", "taker", "giver"] ["lists", "ring"] (defScope sIsOdd) := ⟨rfl, rfl, rfl, by decide +kernel, rfl, by decide +kernel, by decide +kernel⟩
def spIsOddTurn (C : Addr) : Sp := fun vs H Q _ => ∃ (wi t r : Addr) (ns ls : List (List Nat)) (hs : List (Option Nat)) (ps : List (Nat × Nat)), vs = [.ref wi, .ref t, .ref r] ∧ WAt C H wi ns ls ∧ H t = some (.tup (VH hs)) ∧ HoldsOk ls hs ∧ RP H r ps ∧ ps.length ≤ 100 ∧ (∀ x ∈ ps, x.1 < ls.length) ∧ ∀ H', Same H H' → Q (.bl (oddB (leftA ls hs) ps)) H'
theorem scIsOddTurn : FnScope ["wishes", "holds", "ring"] ["wishes", "holds", "ring"] (defScope sIsOddTurn) := ⟨rfl, rfl, rfl, by decide +kernel, rfl, by decide +kernel, by decide +kernel⟩
def goodP (ls : List (List Nat)) (hs : List (Option Nat)) : List (List (Nat × Nat)) := (ringsP ls hs).filter fun ps => !oddB (leftA ls hs) ps
def spGoodRings (C : Addr) : Sp := fun vs H Q _ => ∃ (wi t : Addr) (ns ls : List (List Nat)) (hs : List (Option Nat)), vs = [.ref wi, .ref t] ∧ WAt C H wi ns ls ∧ H t = some (.tup (VH hs)) ∧ HoldsOk ls hs ∧
  ∀ c us H', Same H H' → H' c = some (.tup (us.map V.ref)) → RPs H' us (goodP ls hs) → Q (.ref c) H'
theorem sel_filter {α : Type} [Inhabited α] (xs : List α) (f : α → Bool) : (((List.range xs.length).filter fun i => f (xs.getD i default)).map fun i => xs.getD i default) = xs.filter f := by
  have e : xs = (List.range xs.length).map fun i => xs.getD i default := by
    apply List.ext_getElem?
    intro i
    rw [List.getElem?_map]
    by_cases c : i < xs.length
    · rw [List.getElem?_range c, List.getElem?_eq_getElem c]
      show some xs[i] = some (xs.getD i default)
      rw [List.getD_eq_getElem?_getD, List.getElem?_eq_getElem c]
      rfl
    · rw [List.getElem?_eq_none (by omega), List.getElem?_eq_none (by simp; omega)]
      rfl
  conv => rhs; rw [e, List.filter_map]
  rfl
section
variable {P : Program} {w : World} {K : PySem.W.Frag} {mg : Str → Option Value} {base : Heap}
theorem ok_is_odd {f : Addr} {fd : FuncData} {k : Nat} (F : Fun K "_is_odd" "_is_odd" sIsOdd f fd) (ml : mg "len" = none) (ma : mg "all" = none) : FnOk P w K mg base CX0 (k + 1) f fd ["lists", "ring"] spIsOdd := by
  refine F.ok scIsOdd (fun vs H Q E h => ?_) (fun cdv A outer s H vs Q E hr h => ?_)
  · obtain ⟨l, r, L, ps, rfl, _⟩ := h
    rfl
  · obtain ⟨l, r, L, ps, rfl, lt, rp, n100, lts, q⟩ := h
    refine ⟨_, pss_cons (ps_set (i := 2) scIsOdd.nd rfl (.inr rfl) (pe_lc (own := [("_", 3), ("taker", 4)]) (g := gTup K 2 (gCons (gName 3) (gCons (gName 4) gNil))) (tt := tYes) (te := tVar 4) rfl scIsOdd.nd (pi_tup (pv 1))
        (blkOk_by (own := [("_", 3), ("taker", 4)]) (N := ["lists", "ring", "takers", "_", "taker", "giver"]) (sc := defScope sIsOdd) (by decide +kernel)) (fun _ _ _ _ _ => pg_tup rfl (pgs_cons (pg_name (i := 3) scIsOdd.nd rfl (Or.inl rfl)) (pgs_cons (pg_name (i := 4) scIsOdd.nd rfl (Or.inl rfl)) pgs_nil))) (fun _ _ _ _ _ => pts_nil)
        (fun _ _ _ _ _ => pv 4)))
      (pss_one (ps_ret (pe_callB (cr_all rfl) (by rfl) ma (by decide +kernel) (pa_cons (pe_lc (own := [("giver", 5), ("_", 3)]) (g := gTup K 2 (gCons (gName 5) (gCons (gName 3) gNil))) (tt := tYes) (te := tAndV (tOp (rIn K false) (tVar 5) (tVar 2)) (tOp rEq (tCB (rLen K) (tCons (tOp (rIxT K) (tVar 0) (tVar 5)) tNil)) (tC (.int 2)))) rfl scIsOdd.nd (pi_tup (pv 1))
        (blkOk_by (own := [("giver", 5), ("_", 3)]) (N := ["lists", "ring", "takers", "_", "taker", "giver"]) (sc := defScope sIsOdd) (by decide +kernel)) (fun _ _ _ _ _ => pg_tup rfl (pgs_cons (pg_name (i := 5) scIsOdd.nd rfl (Or.inl rfl)) (pgs_cons (pg_name (i := 3) scIsOdd.nd rfl (Or.inl rfl)) pgs_nil))) (fun _ _ _ _ _ => pts_nil)
        (fun _ _ _ _ _ => pe_and (pe_cmpR op_in_seq (pv 5) (pv 2) (by rfl)) (pe_one (pe_cmpR op_eq (pe_callB call_len_seq (by rfl) ml PySem.boot_len (pa_cons (pe_ix ix_tup (pv 0) (pv 5) (fun _ _ => rfl)) pa_nil)) pe_int (nomark _))))) pa_nil)))), ?_⟩
    obtain ⟨us, er, ul, ra⟩ := rp
    obtain ⟨as, ea, al, rows⟩ := lt
    refine ⟨_, rfl, r, rfl, ⟨_, SqT.of er⟩, fun D nD => ?_⟩
    refine lc_same (walk_tup (K := K) (a := r) (xs := us.map V.ref)) (by rw [List.length_map]; omega) (fun i => .int ((ps.getD i (0, 0)).2 : Nat)) nD (fun _ sm => SqT.of (sm _ _ er)) ?_ ?_
    · rintro i x Ha Hb Z out hi sm ⟨rfl, ex⟩
      obtain ⟨u, y, rfl, ey, eu⟩ := RP.at ul ra ex
      rw [show ps.getD i (0, 0) = y by rw [List.getD_eq_getElem?_getD, ey]; rfl] at out
      refine ⟨u, _, rfl, SqT.of (sm _ _ eu), rfl, _, _, rfl, gn ⟨_, _, rfl, gn ⟨rfl, ?_⟩⟩⟩
      exact ⟨rfl, _, rfl, out _ same_rfl⟩
    · intro H1 s1 eD
      have eD' : H1 D = some (.lst (VI (ps.map Prod.snd))) := by
        rw [eD, List.length_map, ul]
        congr 2
        unfold VI
        rw [List.map_map]
        apply List.ext_getElem?
        intro i
        rw [List.getElem?_map, List.getElem?_map]
        by_cases c : i < ps.length
        · rw [List.getElem?_range c, List.getElem?_eq_getElem c]
          show some (V.int ((ps.getD i (0, 0)).2 : Nat)) = _
          rw [List.getD_eq_getElem?_getD, List.getElem?_eq_getElem c]
          rfl
        · rw [List.getElem?_eq_none (by simp; omega), List.getElem?_eq_none (by omega)]
          rfl
      refine gn ?_
      dsimp only [List.set]
      refine ⟨_, rfl, r, rfl, ⟨_, SqT.of (s1 _ _ er)⟩, fun D2 nD2 => ?_⟩
      refine lc_same (walk_tup (K := K) (a := r) (xs := us.map V.ref)) (by rw [List.length_map]; omega) (fun i => .bl (decide ((ps.getD i (0, 0)).1 ∈ ps.map Prod.snd) && decide ((la L (ps.getD i (0, 0)).1).length = 2))) nD2 (fun _ sm => SqT.of (sm _ _ (s1 _ _ er))) ?_ ?_
      · rintro i x Ha Hb Z out hi sm ⟨rfl, ex⟩
        obtain ⟨u, y, rfl, ey, eu⟩ := RP.at ul ra ex
        rw [show ps.getD i (0, 0) = y by rw [List.getD_eq_getElem?_getD, ey]; rfl] at out
        have yl := lts y (List.mem_of_getElem? ey)
        refine ⟨u, _, rfl, SqT.of ((s1.trans sm) _ _ eu), rfl, _, _, rfl, gn ⟨_, _, rfl, gn ⟨rfl, ?_⟩⟩⟩
        dsimp only [List.set]
        refine ⟨rfl, _, rfl, _, rfl, D, _, rfl, .inl (SqL.of (sm _ _ eD')), rfl, flat_VI _, ?_⟩
        show ∃ c, V.bl (inV (.int (y.1 : Nat)) (VI (ps.map Prod.snd))) = .bl c ∧ _
        rw [inV_VI]
        refine ⟨_, rfl, ?_⟩
        have ay : as[y.1]? = some as[y.1] := List.getElem?_eq_getElem (by omega)
        have et := ((rows y.1 _ _ ay (la_get yl)).same s1).same sm
        by_cases c : y.1 ∈ ps.map Prod.snd
        · rw [decide_eq_true c]
          refine iteT ?_
          refine ⟨_, rfl, _, rfl, l, _, _, _, rfl, rfl, SqT.of ((s1.trans sm) _ _ ea), atI_nat (by rw [List.getElem?_map, ay]; rfl), as[y.1], _, rfl, .inr et.sq, ?_⟩
          refine ⟨rfl, ?_⟩
          have o2 := out _ same_rfl
          rw [decide_eq_true c, Bool.true_and] at o2
          have : decide (V.int ((VI (la L y.1)).length : Nat) = V.int 2) = decide ((la L y.1).length = 2) := by
            rw [VI_len, decide_eq_decide]
            constructor
            · intro z
              have := V.int.inj z
              omega
            · intro z
              rw [z]
              rfl
          rw [this]
          exact o2
        · rw [decide_eq_false c]
          have o2 := out _ same_rfl
          rw [decide_eq_false c, Bool.false_and] at o2
          exact iteF o2
      · intro H2 s2 eD2
        refine ⟨D2, ps.map fun x => decide (x.1 ∈ ps.map Prod.snd) && decide ((la L x.1).length = 2), rfl, SqL.of ?_, ?_⟩
        · rw [eD2, List.length_map, ul]
          congr 2
          rw [List.map_map]
          apply List.ext_getElem?
          intro i
          rw [List.getElem?_map, List.getElem?_map]
          by_cases c : i < ps.length
          · rw [List.getElem?_range c, List.getElem?_eq_getElem c]
            show some (V.bl _) = some (V.bl _)
            rw [List.getD_eq_getElem?_getD, List.getElem?_eq_getElem c]
            rfl
          · rw [List.getElem?_eq_none (by simp; omega), List.getElem?_eq_none (by omega)]
            rfl
        · have : (ps.map fun x => decide (x.1 ∈ ps.map Prod.snd) && decide ((la L x.1).length = 2)).all id = oddB L ps := by
            unfold oddB
            rw [List.all_map]
            rfl
          rw [this]
          exact q _ (s1.trans s2)
theorem ok_is_odd_turn {f f1 f2 C : Addr} {fd d1 d2 : FuncData} {k : Nat} (F : Fun K "is_odd_turn" "is_odd_turn" sIsOddTurn f fd) (Io : Has P w K mg base k "_is_odd" ["lists", "ring"] spIsOdd f1 d1) (Ll : Has P w K mg base k "left_lists" ["wishes", "holds"] (spLeftLists C) f2 d2) : FnOk P w K mg base CX0 (k + 1) f fd ["wishes", "holds", "ring"] (spIsOddTurn C) := by
  refine F.ok scIsOddTurn (fun vs H Q E h => ?_) (fun cdv A outer s H vs Q E hr h => ?_)
  · obtain ⟨wi, t, r, ns, ls, hs, ps, rfl, _⟩ := h
    rfl
  · obtain ⟨wi, t, r, ns, ls, hs, ps, rfl, W, et, ho, rp, n100, lts, q⟩ := h
    refine ⟨_, pss_one (ps_ret (pe_call Io.ok hr rfl Io.m Io.k Io.b .nil pass0 (pa_cons (pe_call Ll.ok hr rfl Ll.m Ll.k Ll.b .nil pass0 (pa_cons (pv 0) (pa_cons (pv 1) pa_nil))) (pa_cons (pv 2) pa_nil)))), ?_⟩
    refine ⟨_, rfl, _, rfl, wi, t, ns, ls, hs, rfl, W, et, ho, fun l H1 s1 lt => ?_⟩
    exact ⟨_, rfl, l, r, leftA ls hs, ps, rfl, lt, rp.same s1, n100, fun x hx => by rw [leftA_len]; exact lts x hx, fun H2 s2 => q H2 (s1.trans s2)⟩
end
end K14
namespace K14
open PySem PySem.Spec PyProof.Rows L2
theorem atI_behind {α : Type} {xs : List α} {k : Nat} {v : α} (hk : k < xs.length) (h : xs[(k + xs.length - 1) % xs.length]? = some v) : atI xs ((k : Int) - 1) = some v := by
  cases k with
  | zero =>
    rcases List.eq_nil_or_concat xs with rfl | ⟨ys, y, rfl⟩
    · simp at hk
    · have hl : (ys ++ [y]).length = ys.length + 1 := by simp
      rw [show ys.concat y = ys ++ [y] by simp] at h ⊢
      rw [hl, show 0 + (ys.length + 1) - 1 = ys.length by omega, Nat.mod_eq_of_lt (by omega), List.getElem?_append_right (Nat.le_refl _)] at h
      simp at h
      subst h
      exact atI_last _ _
  | succ j =>
    rw [show j + 1 + xs.length - 1 = j + xs.length by omega, Nat.add_mod_right, Nat.mod_eq_of_lt (by omega)] at h
    have := atI_nat h
    rw [show (((j + 1 : Nat) : Int) - 1) = (j : Int) by omega]
    exact this
def spHoldsPast : Sp := fun vs H Q _ => ∃ (t r : Addr) (hs : List (Option Nat)) (ps : List (Nat × Nat)), vs = [.ref t, .ref r] ∧ H t = some (.tup (VH hs)) ∧ hs.length ≤ 100 ∧ RP H r ps ∧ ps.length ≤ 100 ∧ (ps.map Prod.snd).Nodup ∧ (∀ x ∈ ps, x.2 < hs.length) ∧
  ∀ c hs' H', Same H H' → Past hs ps hs' → H' c = some (.tup (VH hs')) → Q (.ref c) H'
theorem scHoldsPast : FnScope ["holds", "ring", "after", "at", "_", "taker"] ["holds", "ring"] (defScope sHoldsPast) := ⟨rfl, rfl, rfl, by decide +kernel, rfl, by decide +kernel, by decide +kernel⟩
/-- the first k of a ring turned -/
structure PastK (hs : List (Option Nat)) (ps : List (Nat × Nat)) (k : Nat) (hs' : List (Option Nat)) : Prop where
  len : hs'.length = hs.length
  yes : ∀ i x y, i < k → ps[i]? = some x → ps[(i + ps.length - 1) % ps.length]? = some y → ha hs' x.2 = some y.1
  no : ∀ q, (∀ i x, i < k → ps[i]? = some x → x.2 ≠ q) → ha hs' q = ha hs q
theorem PastK.step {hs hs' : List (Option Nat)} {ps : List (Nat × Nat)} {k : Nat} {x y : Nat × Nat} (P : PastK hs ps k hs') (nd : (ps.map Prod.snd).Nodup) (ex : ps[k]? = some x) (ey : ps[(k + ps.length - 1) % ps.length]? = some y) (lt : x.2 < hs.length) : PastK hs ps (k + 1) (hs'.set x.2 (some y.1)) where
  len := by rw [List.length_set, P.len]
  yes := fun i x' y' hi e1 e2 => by
    rw [ha_set (by rw [P.len]; exact lt)]
    by_cases c : i = k
    · subst c
      rw [ex] at e1
      cases e1
      rw [if_pos rfl]
      rw [ey] at e2
      cases e2
      rfl
    · rw [if_neg]
      · exact P.yes i x' y' (by omega) e1 e2
      · intro z
        have h1 : (ps.map Prod.snd)[i]? = some x.2 := by rw [List.getElem?_map, e1, ← z]; rfl
        have h2 : (ps.map Prod.snd)[k]? = some x.2 := by rw [List.getElem?_map, ex]; rfl
        exact c (nodup_ix nd h1 h2)
  no := fun q h => by
    rw [ha_set (by rw [P.len]; exact lt), if_neg fun z => h k x (by omega) ex z.symm]
    exact P.no q fun i x' hi e => h i x' (by omega) e
def spTurnedOut (C : Addr) : Sp := fun vs H Q _ => ∃ (wi t r : Addr) (ns ls : List (List Nat)) (hs : List (Option Nat)) (ps : List (Nat × Nat)), vs = [.ref wi, .ref t, .ref r] ∧ WAt C H wi ns ls ∧ H t = some (.tup (VH hs)) ∧ HoldsOk ls hs ∧ RP H r ps ∧ ps.length ≤ 100 ∧ (∀ x ∈ ps, x.1 < ls.length ∧ x.2 < ls.length) ∧ (ps.map Prod.snd).Nodup ∧ oddB (leftA ls hs) ps = false ∧
  ∀ c hs' H', Same H H' → Past hs ps hs' → H' c = some (.tup (VH hs')) → Q (.ref c) H'
theorem scTurnedOut : FnScope ["wishes", "holds", "ring"] ["wishes", "holds", "ring"] (defScope sTurnedOut) := ⟨rfl, rfl, rfl, by decide +kernel, rfl, by decide +kernel, by decide +kernel⟩
section
variable {P : Program} {w : World} {K : PySem.W.Frag} {mg : Str → Option Value} {base : Heap}
theorem ok_holds_past {f : Addr} {fd : FuncData} {k : Nat} (F : Fun K "holds_past" "holds_past" sHoldsPast f fd) (mli : mg "list" = none) (me : mg "enumerate" = none) (mt : mg "tuple" = none) : FnOk P w K mg base CX0 (k + 1) f fd ["holds", "ring"] spHoldsPast := by
  refine F.ok scHoldsPast (fun vs H Q E h => ?_) (fun cdv A outer s H vs Q E hr h => ?_)
  · obtain ⟨t, r, hs, ps, rfl, _⟩ := h
    rfl
  · obtain ⟨t, r, hs, ps, rfl, et, hn, rp, n100, nd, lts, q⟩ := h
    refine ⟨_, pss_cons (ps_set (i := 2) scHoldsPast.nd rfl (.inl rfl) (pe_callTy call_list_of (by rfl) mli (by decide +kernel) (pa_cons (pv 0) pa_nil)))
      (pss_cons (ps_for PassesOwn.never rfl (pi_enumT (by rfl) me (pa_cons (pv 1) pa_nil)) (pg_tup rfl (pgs_cons (pg_name (i := 3) scHoldsPast.nd rfl (.inl rfl)) (pgs_cons (pg_tup rfl (pgs_cons (pg_name (i := 4) scHoldsPast.nd rfl (.inl rfl)) (pgs_cons (pg_name (i := 5) scHoldsPast.nd rfl (.inl rfl)) pgs_nil))) pgs_nil)))
        (pss_one (ps_asg (pe_ix ix_tup (pe_ix ix_tup (pv 1) (pe_op op_sub (pv 3) pe_int) (fun _ _ => rfl)) pe_int (fun _ _ => rfl)) (pg_sub (pv 2) (pv 5) set_list))))
      (pss_one (ps_ret (pe_callTy call_tuple_of (by rfl) mt (by decide +kernel) (pa_cons (pv 2) pa_nil))))), ?_⟩
    obtain ⟨us, er, ul, ra⟩ := rp
    refine ⟨_, rfl, t, _, rfl, .inr (SqT.of et), fun D nD => gn ?_⟩
    dsimp only [List.set, L2.start]
    have s0 : Same H (upd H D (.lst (VH hs))) := same_upd nD
    refine ⟨_, rfl, r, _, rfl, SqT.of (s0 _ _ er), ?_⟩
    refine for_it (walk_enumT (K := K) (a := r) (xs := us.map V.ref)) (fun i σ H' => ∃ (y3 y4 y5 : Option V) (hs' : List (Option Nat)), σ = [some (.ref t), some (.ref r), some (.ref D), y3, y4, y5] ∧ Same H H' ∧ H' D = some (.lst (VH hs')) ∧ PastK hs ps i hs')
      ⟨none, none, none, hs, rfl, s0, upd_same, ⟨rfl, fun _ _ _ h => absurd h (Nat.not_lt_zero _), fun _ _ => rfl⟩⟩ (fun i σ H' _ ⟨_, _, _, _, _, sm, _⟩ => SqT.of (sm _ _ er)) ?_ ?_
    · rintro i x σ H1 H2 hi ⟨y3, y4, y5, hs', rfl, sm, eD, pk⟩ ⟨T, x0, x1, rfl, nT, rfl, e1, e2⟩
      cases e1
      rw [List.length_map] at hi
      obtain ⟨u, x, rfl, ex, eu⟩ := RP.at ul ra e2
      have sT := same_upd (o := .tup [.int (i : Nat), .ref u]) nT
      refine ⟨T, _, rfl, SqT.of upd_same, rfl, _, _, rfl, gn ⟨_, _, rfl, ?_⟩⟩
      dsimp only [List.set]
      have sm2 := sm.trans sT
      have eD2 := sT _ _ eD
      generalize upd H1 T (.tup [.int (i : Nat), .ref u]) = H2 at sm2 eD2
      refine ⟨u, _, rfl, SqT.of (sm2 _ _ eu), rfl, _, _, rfl, gn ⟨_, _, rfl, gn ⟨rfl, ⟨rfl, ?_⟩⟩⟩⟩
      dsimp only [List.set]
      have hpl : 0 < ps.length := by omega
      have hb : (i + ps.length - 1) % ps.length < ps.length := Nat.mod_lt _ hpl
      obtain ⟨y, ey⟩ : ∃ y, ps[(i + ps.length - 1) % ps.length]? = some y := ⟨_, List.getElem?_eq_getElem hb⟩
      obtain ⟨ub, eub⟩ : ∃ ub, us[(i + ps.length - 1) % ps.length]? = some ub := ⟨_, List.getElem?_eq_getElem (by omega)⟩
      have euy := ra _ _ _ eub ey
      have xl := lts x (List.mem_of_getElem? ex)
      refine ⟨_, rfl, _, rfl, _, _, rfl, rfl, r, _, _, _, rfl, rfl, SqT.of (sm2 _ _ er), atI_behind (by rw [List.length_map]; exact hi) (by rw [List.length_map, ul, List.getElem?_map, eub]; rfl), _, _, 0, _, rfl, rfl, SqT.of (sm2 _ _ euy), atI_nat (j := 0) rfl, _, rfl, _, rfl, D, _, (x.2 : Int), x.2, rfl, rfl, eD2, by unfold VH; rw [List.length_map, pk.len]; exact ixN_nat xl, ?_⟩
      refine ⟨_, _, _, hs'.set x.2 (some y.1), rfl, sm2.fresh nD, ?_, pk.step nd ex ey xl⟩
      rw [upd_same]
      unfold VH
      rw [List.map_set]
      rfl
    · rintro σ H1 ⟨y3, y4, y5, hs', rfl, sm, eD, pk⟩
      rw [List.length_map] at pk
      refine ⟨_, rfl, D, _, rfl, .inl ⟨SqL.of eD, fun c nc => q c hs' _ (sm.fresh (sm.free nc)) ⟨pk.len, fun k x y e1 e2 => pk.yes k x y (by rw [ul]; exact (List.getElem?_eq_some_iff.mp e1).1) e1 e2, fun a h => pk.no a fun i x _ e => h x (List.mem_of_getElem? e)⟩ upd_same⟩⟩
theorem ok_turned_out {f f1 f2 C : Addr} {fd d1 d2 : FuncData} {k : Nat} (F : Fun K "turned_out" "turned_out" sTurnedOut f fd) (Io : Has P w K mg base k "is_odd_turn" ["wishes", "holds", "ring"] (spIsOddTurn C) f1 d1) (Hp' : Has P w K mg base k "holds_past" ["holds", "ring"] spHoldsPast f2 d2) : FnOk P w K mg base CX0 (k + 1) f fd ["wishes", "holds", "ring"] (spTurnedOut C) := by
  refine F.ok scTurnedOut (fun vs H Q E h => ?_) (fun cdv A outer s H vs Q E hr h => ?_)
  · obtain ⟨wi, t, r, ns, ls, hs, ps, rfl, _⟩ := h
    rfl
  · obtain ⟨wi, t, r, ns, ls, hs, ps, rfl, W, et, ho, rp, n100, lts, nd, odd, q⟩ := h
    have n60 := W.n60.2
    refine ⟨_, pss_cons (ps_if (pt_val (pe_call Io.ok hr rfl Io.m Io.k Io.b .nil pass0 (pa_cons (pv 0) (pa_cons (pv 1) (pa_cons (pv 2) pa_nil))))) (pss_one ps_never) pss_nil)
      (pss_one (ps_ret (pe_call Hp'.ok hr rfl Hp'.m Hp'.k Hp'.b .nil pass0 (pa_cons (pv 1) (pa_cons (pv 2) pa_nil))))), ?_⟩
    refine ⟨_, rfl, _, rfl, _, rfl, wi, t, r, ns, ls, hs, ps, rfl, W, et, ho, rp, n100, fun x hx => (lts x hx).1, fun H1 s1 => ⟨_, rfl, ?_⟩⟩
    rw [odd]
    refine iteF ?_
    exact ⟨_, rfl, _, rfl, t, r, hs, ps, rfl, s1 _ _ et, by rw [ho.len]; omega, rp.same s1, n100, nd, fun x hx => by rw [ho.len]; exact (lts x hx).2, fun c hs' H2 s2 pa ec => q c hs' H2 (s1.trans s2) pa ec⟩
end
end K14
namespace K14
open PySem PySem.Spec PyProof.Rows L2
def spRefInit (CR : Addr) : Sp := fun vs H Q _ => ∃ (a : Addr) (wd : V), vs = [.ref a, wd] ∧ H a = some (exo a CR none) ∧ ∀ dx, H dx = none → dx ≠ a → Q .non (upd (upd H dx (exd dx [("word", wd)])) a (exo a CR (some dx)))
theorem scRefInit : FnScope ["self", "word"] ["self", "word"] (defScope sRefusedInit) := ⟨rfl, rfl, rfl, by decide +kernel, rfl, by decide +kernel, by decide +kernel⟩
def spTurnedX (C CR : Addr) : Sp := fun vs H _ E => ∃ (wi t r : Addr) (ns ls : List (List Nat)) (hs : List (Option Nat)) (ps : List (Nat × Nat)), vs = [.ref wi, .ref t, .ref r] ∧ WAt C H wi ns ls ∧ H t = some (.tup (VH hs)) ∧ HoldsOk ls hs ∧ RP H r ps ∧ ps.length ≤ 100 ∧ (∀ x ∈ ps, x.1 < ls.length) ∧ oddB (leftA ls hs) ps = true ∧
  ∀ dd H', Same H H' → H' dd = some (.xd [("word", .str "odd")]) → E (.ref CR) (some dd) H'
section
variable {P : Program} {w : World} {K : PySem.W.Frag} {mg : Str → Option Value} {base : Heap}
theorem ok_ref_init {f CR CM : Addr} {fd : FuncData} {k : Nat} (F : Fun K "__init__" "Refused.__init__" sRefusedInit f fd) (T : ErrT K mg CR CM f) : FnOk P w K mg base CX0 (k + 1) f fd ["self", "word"] (spRefInit CR) := by
  refine F.ok scRefInit (fun vs H Q E h => ?_) (fun cdv A outer s H vs Q E hr h => ?_)
  · obtain ⟨a, wd, rfl, _⟩ := h
    rfl
  · obtain ⟨a, wd, rfl, ea, q⟩ := h
    refine ⟨_, pss_one (ps_ost (pv 0) (pv 1)), ?_⟩
    exact ⟨_, rfl, _, rfl, a, CR, rfl, T.o, T.noW, .inl ⟨ea, q⟩⟩
/-- Refused(word) made: what is left -/
theorem made_ref {CR : Addr} {H : Hp} {wd : V} {Q : XK} (q : ∀ dd H', Same H H' → H' dd = some (.xd [("word", wd)]) → Q (.ref CR) (some dd) H') : tMkO CR (spRefInit CR) [] (tCons (tC wd) tNil) [] H Q := by
  refine ⟨by simp, fun a na => ⟨a, wd, rfl, upd_same, fun dx ndx ne => ⟨rfl, dx, [("word", wd)], upd_same, ?_, ?_, ?_⟩⟩⟩
  · rw [upd_ne ne, upd_same]
  · rw [upd_ne ne] at ndx
    exact ndx
  · have ndx' : H dx = none := by
      rw [upd_ne ne] at ndx
      exact ndx
    refine q dx _ (fun b o e => ?_) upd_same
    have n1 : b ≠ a := ne_of_none e na
    have n2 : b ≠ dx := ne_of_none e ndx'
    rw [upd_ne n2, del_ne n1, upd_ne n1, upd_ne n2, upd_ne n1]
    exact e
theorem ok_turned_outX {f f1 fI C CR CM : Addr} {fd d1 dI' : FuncData} {k : Nat} (F : Fun K "turned_out" "turned_out" sTurnedOut f fd) (T : ErrT K mg CR CM fI) (Io : Has P w K mg base (k + 1) "is_odd_turn" ["wishes", "holds", "ring"] (spIsOddTurn C) f1 d1) (GI : FnOk P w K mg base CX0 k fI dI' ["self", "word"] (spRefInit CR)) (bI : Binds K dI' ["self", "word"] []) : FnOk P w K mg base (L2.CX P w) (k + 2) f fd ["wishes", "holds", "ring"] (spTurnedX C CR) := by
  refine F.okX scTurnedOut (fun vs H Q E h => ?_) (fun cdv A outer s H vs Q E hr h => ?_)
  · obtain ⟨wi, t, r, ns, ls, hs, ps, rfl, _⟩ := h
    rfl
  · obtain ⟨wi, t, r, ns, ls, hs, ps, rfl, W, et, ho, rp, n100, lts, odd, q⟩ := h
    refine ⟨_, pss_cons (ps_if (pt_val (pe_call Io.ok hr rfl Io.m Io.k Io.b .nil pass0 (pa_cons (pv 0) (pa_cons (pv 1) (pa_cons (pv 2) pa_nil))))) (pss_one (ps_raise rfl (takes_of rfl rfl rfl rfl) (pmk_oex T.o T.iC T.tI GI hr bI .nil pass0 rfl T.gR (pa_cons pe_str pa_nil)))) pss_nil) (pss_one ps_never), ?_⟩
    refine ⟨_, rfl, _, rfl, _, rfl, wi, t, r, ns, ls, hs, ps, rfl, W, et, ho, rp, n100, lts, fun H1 s1 => ⟨_, rfl, ?_⟩⟩
    rw [odd]
    refine iteT ?_
    exact made_ref fun dd H2 s2 ed => q dd H2 (s1.trans s2) ed
end
end K14
set_option maxHeartbeats 2000000
/-! promises of defs while no repr is under way, with a table of errors that they may pass on, and tables of code objects (lambdas) -/
namespace K14
open PySem PySem.Spec PyProof.Rows L2
def RunX (P : Program) (w : World) (K : PySem.W.Frag) (mg : Str → Option Value) (base : Heap) (CX : CXT) (k : Nat) (f : Addr) (fd : FuncData) (ps : List Str) (sp : Sp) : Prop :=
  ∀ (A : Around) (outer : List Env) (s : Shared) (H : Hp) (args : Args) (us : List Value) (vs : List V) (Q : VK) (E : XK), A.guards = some [] → Room k A → Env0 P w K mg base A outer s H →
    BindsTo s fd args (ps.zip us) → Vals vs us → sp vs H Q E → codeAny (model P w) A (.call (.ref f) args) (CR CX outer P w H s Q E) s
section
variable {P : Program} {w : World} {K : PySem.W.Frag} {mg : Str → Option Value} {base : Heap} {CX : CXT}
theorem RunX.of {k : Nat} {f : Addr} {fd : FuncData} {ps : List Str} {sp : Sp} (F : FnOk P w K mg base CX k f fd ps sp) : RunX P w K mg base CX k f fd ps sp := fun A outer s H args us vs Q E _ => F.run A outer s H args us vs Q E
theorem okX {x qual : Str} {st : Stmt} {f : Addr} {fd : FuncData} {N ps : List Str} {k : Nat} {sp : Sp} (F : Fun K x qual st f fd) (S : FnScope N ps (defScope st)) (len : ∀ vs H Q E, sp vs H Q E → vs.length = ps.length)
    (body : ∀ (cdv : Value) (A : Around) (outer : List Env) (s : Shared) (H : Hp) (vs : List V) (Q : VK) (E : XK), A.guards = some [] → Room k (A.deeper (envOfC qual (defScope st) s.heap.objs.size f cdv)) → sp vs H Q E →
      ∃ t, PSs (cxOf CX P w K mg base N qual (defScope st) f cdv A outer s H E) (defBody st) t ∧ t { nx := fun _ H' => Q .non H', rt := Q } (start N vs) H) : RunX P w K mg base CX (k + 1) f fd ps sp := by
  obtain ⟨oc, od, kV, doc, pm, an, cdv, ct, osl, rfl, lk, hcd⟩ := F.ex
  intro A outer s H args us vs Q E hA room e0 bind rel promise
  have KX := e0.mod.kin.keeps (h' := s.heap) fun b o e => (e0.bs b o e).1
  have lim := e0.mod.nolimit.keeps (h' := s.heap) fun b o e => (e0.bs b o e).1
  have kinds : ∀ y ∈ ps.zip us, (defScope st).names.lookup y.1 = some .local ∨ ((defScope st).names.lookup y.1 = some .cell ∧ ((cellsFrom (s.heap.objs.size + 1) (defScope st).names []).lookup y.1).isSome = true) := by
    intro y hy
    cases S.par y.1 (List.of_mem_zip (show (y.1, y.2) ∈ ps.zip us from hy)).1 with
    | inl q => exact .inl q
    | inr q => exact .inr ⟨q, PySem.W.cellsFrom_some _ _ _ (.inl q)⟩
  apply codeAny_call_function room.depth (KX _ _ lk) rfl S.co S.gen rfl (PySem.W.codeRec_of KX hcd) (bind _ _ _ _ _)
  apply wpAny_newFunctionEnv_cells S.kind kinds
  intro env he s1 x
  subst he
  obtain ⟨t, ht, hq⟩ := body cdv A outer s H vs Q E hA (room.deeper _) promise
  have I := inv_start (CX := CX) (E := E) S room.hd e0 (len _ _ _ _ promise) rel x
  refine ⟨lim.keeps x.toInCall.keep, codeAny_func (wpAny_mono (ht.run [] s1 (start N vs) H _ I hq) ?_ (fun _ _ z => z))⟩
  intro fl s' z
  cases fl with
  | ret u => exact let ⟨v, _, H', J, rv, q⟩ := z; ⟨v, H', J.os, J.bare, J.base, J.hok, rv, q⟩
  | next => exact let ⟨_, H', J, q⟩ := z; ⟨V.non, H', J.os, J.bare, J.base, J.hok, rfl, q⟩
  | brk => exact let ⟨_, _, _, q⟩ := z; q.elim
  | cont => exact let ⟨_, _, _, q⟩ := z; q.elim
end
section
variable {X : Cx} {CX : CXT} {k : Nat} {f : Addr} {fd : FuncData} {ps : List Str} {sp : Sp} {x : Str} {p pos : Pos} {e : Expr} {es : List Expr} {t : TA}
theorem pe_callX (F : RunX X.prog X.w X.K X.mg X.base CX k f fd ps sp) (len : ∀ vs H Q E, sp vs H Q E → vs.length = ps.length) (hA : X.A.guards = some []) (hr : Room k X.A) (hg : Gl X x) (hm : X.mg x = some (.ref f)) (hk : PySem.W.keepIn X.K (.ref f) = true) (hb : Binds X.K fd ps []) {E : XK} (hx : Passes CX X E)
    (ha : PA X (e :: es) t) (hdb : (x == ("__debug__" : Str)) = false := by decide) (he : starEach (e :: es) X.env = (false, eval e X.env) :: starEach es X.env := by rfl) (hpl : (backTo pos (starEach es X.env)).any (·.1) = false := by rfl) :
    PE X (.Call (.Name x p) (e :: es) [] pos) (tCall sp [] E t) := by
  refine ⟨fun pins s σ H Q I h => wpAny_Call_Name_kw (ld_glob I hg hm ?_ hdb)⟩
  refine PySem.W.callWith_K (h₀ := X.base) I.ok.mod.kin hk (thn (ha.run pos pins s σ H _ I h) fun us s1 ⟨vs, H1, I1, r, q⟩ => ⟨I1.kIn, ?_⟩) he hpl
  have r2 : Vals (vs ++ []) (us ++ []) := r.append .nil
  have hl : (us ++ []).length = ps.length := by rw [← r2.length]; exact len _ _ _ _ q
  refine wpAny_call (codeAny_mono (F X.A X.stack s1 H1 ⟨us, []⟩ (us ++ []) (vs ++ []) _ E hA hr I1.env0 (hb s1 us I1.kIn hl) r2 q) fun r s' hq => ?_)
  cases r with
  | error e => exact hx pins σ H1 s1 e s' I1 hq
  | ok fl =>
    cases fl with
    | ret u => exact I1.after hq
    | next => exact False.elim hq
    | brk => exact False.elim hq
    | cont => exact False.elim hq
end
end K14
set_option maxHeartbeats 2000000
namespace K14
open PySem PySem.Spec PyProof.Rows L2
section
variable {P : Program} {w : World} {K : PySem.W.Frag} {mg mb : Str → Option Value} {s₁ : Shared} {a : Addr} {vs : List Value} {H : Hp} {cs : List (Addr × Addr)} {CX : CXT}
/-- the addresses of the tables -/
def tabOf (cs : List (Addr × Addr)) : List Addr := cs.map Prod.snd
/-- the call of the law: nothing is tracked but the script at a and the tables -/
theorem env_tabs (KX : K.In s₁.heap) (hns : s₁.heap.Ns mainGlobals mg) (hb : s₁.heap.Ns builtinsNs mb) (hbb : ∀ x : Str, x ≠ "__name__" → mb x = bootBuiltins x) (hlim : s₁.heap.NoLimit) (hg : s₁.gens = #[])
    (hT : ∀ p ∈ cs, s₁.heap.get? p.2 = some { cls := .none, data := .fields #[] }) (nT : ∀ p ∈ cs, K.lookup p.2 = none) (C : ∀ p ∈ cs, PySem.W.CodeHd s₁.heap p.1 p.2)
    (hbm : ∃ (bm : Addr) (ob : Obj), mg "__builtins__" = some (.ref bm) ∧ bm ≠ builtinsNs ∧ s₁.heap.get? bm = some ob ∧ ob.cls = .type "module" ∧ ob.dict = some builtinsNs ∧ ob.data = .plain)
    (ha : s₁.heap.get? a = some { cls := .type "list", data := .seq vs.toArray }) (hok : HOk P w H s₁.heap) (only : ∀ b u, H b = some u → b = a ∨ b ∈ tabOf cs) (apart : ∀ u, H a = some u → K.lookup a = none) :
    K.In (hidT s₁.heap H) ∧ (hidT s₁.heap H).Ns mainGlobals mg ∧ (∀ p ∈ cs, LamX.TabB (hidT s₁.heap H) mg p.1 p.2) ∧ Env0 P w K mg (hidT s₁.heap H) callerA [] s₁ H := by
  have tab : ∀ b, b ∈ tabOf cs → s₁.heap.get? b = some { cls := .none, data := .fields #[] } := by
    intro b hb
    obtain ⟨p, hp, rfl⟩ := List.mem_map.mp hb
    exact hT p hp
  have low : ∀ {b : Addr} {o : Obj}, s₁.heap.get? b = some o → b ≠ a → b ∉ tabOf cs → (hidT s₁.heap H).get? b = some o := by
    intro b o e n1 n2
    refine hidT_get e ?_
    cases q : H b with
    | none => rfl
    | some u => exact ((only b u q).elim n1 n2).elim
  have other : ∀ {b : Addr} {o : Obj}, s₁.heap.get? b = some o → (∀ xs n, o.data ≠ .seq xs n) → o.data ≠ .fields #[] → (hidT s₁.heap H).get? b = some o := by
    intro b o e h1 h2
    refine low e (fun z => ?_) (fun z => ?_)
    · rw [z, ha] at e
      cases e
      exact h1 _ _ rfl
    · rw [tab b z] at e
      cases e
      exact h2 rfl
  have ns : ∀ {b : Addr} {m : Str → Option Value}, s₁.heap.Ns b m → (hidT s₁.heap H).Ns b m := by
    rintro b m ⟨o, es, ep, e, d, r⟩
    exact ⟨o, es, ep, other e (fun xs n z => by rw [d] at z; cases z) (fun z => by rw [d] at z; cases z), d, r⟩
  have kin : K.In (hidT s₁.heap H) := by
    intro b o e
    refine hidT_get (KX _ _ e) ?_
    cases q : H b with
    | none => rfl
    | some u =>
      rcases only b u q with z | z
      · subst z
        rw [apart u q] at e
        cases e
      · obtain ⟨p, hp, rfl⟩ := List.mem_map.mp z
        rw [nT p hp] at e
        cases e
  obtain ⟨mc, l1, l2⟩ := hlim
  refine ⟨kin, ns hns, fun p hp => ⟨?_, ?_, fun z => ?_⟩, ⟨rfl, ⟨kin, ns hns, ⟨mb, ns hb, hbb⟩, ⟨mc, ns l1, l2⟩⟩, fun b o e => of_hidT e, Nat.le_of_eq (hidT_size _ _), trivial, (fun b z => nomatch z), hok, .of_eq hg⟩⟩
  · obtain ⟨o, us, file, tf, flags, tg, inF, text, tt, e1, r1, r2, r3, rest⟩ := C p hp
    refine ⟨o, us, file, tf, flags, tg, inF, text, tt, other e1 (fun xs n z => by rw [r2] at z; cases z) (fun z => ?_), r1, r2, r3, rest⟩
    rw [r2] at z
    cases z
    simp at r3
  · obtain ⟨bm, ob, b1, b2, b3, b4, b5, b6⟩ := hbm
    refine ⟨bm, ob, b1, b2, fun z => ?_, fun z => ?_, other b3 (fun xs n z => by rw [b6] at z; cases z) (fun z => by rw [b6] at z; cases z), b4, b5, b6⟩
    · obtain ⟨o, es, ep, e, d, _⟩ := hns
      rw [z, e] at b3
      cases b3
      rw [d] at b6
      cases b6
    · rw [z, hT p hp] at b3
      cases b3
      cases b6
  · obtain ⟨o, es, ep, e, d, _⟩ := hns
    rw [z, hT p hp] at e
    cases e
    cases d
theorem run_tabs {k : Nat} {fa : Addr} {fd : FuncData} {x : Str} {sp : Sp} (env : Env0 P w K mg (hidT s₁.heap H) callerA [] s₁ H) (F : RunX P w K mg (hidT s₁.heap H) CX k fa fd [x] sp) (hr : Room k callerA)
    (hbind : ∀ (s : Shared) (u : Value), BindsTo s fd ⟨[u], []⟩ [(x, u)]) (hT : ∀ p ∈ cs, s₁.heap.get? p.2 = some { cls := .none, data := .fields #[] }) (C : ∀ p ∈ cs, PySem.W.CodeHd s₁.heap p.1 p.2) (hH : ∀ p ∈ cs, H p.2 = some (.tbl #[]))
    (hO : ∀ b, H b = none ∨ b ∈ tabOf cs ∨ ∃ o xs, H b = some (.frz o (.lst xs))) (hok : HOk P w H s₁.heap) (hCX : ∀ e s', CX [] H s₁ (fun _ _ _ => False) e s' → False) (hsp : sp [.ref a] H (fun v _ => v = .bl true) fun _ _ _ => False) :
    codeAny (model P w) callerA (.call (.ref fa) ⟨[.ref a], []⟩) (fun r s' => r = .ok (.ret (.bool true)) ∧ OldK s₁.heap s'.heap ∧ s'.os = s₁.os ∧ AllBare s'.gens) s₁ := by
  have run := F callerA [] s₁ H ⟨[.ref a], []⟩ [.ref a] [.ref a] _ _ rfl hr env (hbind s₁ (.ref a)) (.cons rfl .nil) hsp
  refine codeAny_mono run ?_
  intro r s' h
  match r, h with
  | .error e, h => exact (hCX e s' h).elim
  | .ok (.ret u), h =>
    obtain ⟨v, H', os, bare, un, hok', r', q⟩ := h
    have q2 : v = V.bl true := q
    subst q2
    obtain rfl : u = Value.bool true := r'
    have kept : ∀ b o, b ∉ tabOf cs → s₁.heap.get? b = some o → s'.heap.get? b = some o := by
      intro b o nb e
      cases q : H b with
      | none => exact un.keep b o e q (fun z => nomatch z) (fun z => nomatch z)
      | some u =>
        rcases hO b with z | z | ⟨ob, xs, z⟩
        · rw [q] at z
          cases z
        · exact (nb z).elim
        · have e1 := (hok b _ z).1
          have e2 := (hok' b _ (un.frzs b ob _ z)).1
          rw [e] at e1
          cases e1
          exact e2
    have grown : ∀ p ∈ cs, ∃ more : Array Value, s'.heap.get? p.2 = some { cls := .none, data := .fields more } := by
      intro p hp
      obtain ⟨more, z⟩ := un.tbls p.2 #[] (hH p hp)
      exact ⟨_, hok' p.2 _ z⟩
    refine ⟨rfl, ⟨fun b o e => ?_, fun b o e => ?_⟩, os, bare⟩
    · by_cases z : b ∈ tabOf cs
      · obtain ⟨p, hp, rfl⟩ := List.mem_map.mp z
        obtain ⟨more, hm⟩ := grown p hp
        have e2 := hT p hp
        rw [e2] at e
        cases e
        exact .inr (.inl ⟨((C p hp).tab e2).isCodeTable, rfl, #[], more, rfl, by rw [Array.empty_append]; exact hm⟩)
      · exact .inl (kept b o z e)
    · by_cases z : b ∈ tabOf cs
      · obtain ⟨p, hp, rfl⟩ := List.mem_map.mp z
        obtain ⟨more, hm⟩ := grown p hp
        exact ⟨_, hm⟩
      · exact ⟨o, kept b o z e⟩
  | .ok .next, h => exact False.elim h
  | .ok .brk, h => exact False.elim h
  | .ok .cont, h => exact False.elim h
end
/-- what is known of the law's promise at the head's heap -/
def LawX (l : PySem.W.OpenLaw) (w : World) (K : PySem.W.Frag) (CX : CXT) (k n : Nat) (x : Str) (mg : Str → Option Value) (fa : Addr) (h : Heap) : Prop :=
  ∃ (fd : FuncData) (cs : List (Addr × Addr)) (sp : Sp), (∀ p ∈ cs, h.get? p.2 = some { cls := .none, data := .fields #[] }) ∧ (∀ p ∈ cs, K.lookup p.2 = none) ∧ (∀ p ∈ cs, PySem.W.CodeHd h p.1 p.2) ∧ (∀ (s : Shared) (u : Value), BindsTo s fd ⟨[u], []⟩ [(x, u)]) ∧
    (∀ (H : Hp) (a : Addr) (ns : List Int), ns.length ≤ n → (∀ p ∈ cs, H p.2 = some (.tbl #[])) → SqL K H a (ns.map V.int) → sp [.ref a] H (fun v _ => v = .bl true) fun _ _ _ => False) ∧
    ∀ base : Heap, K.In base → base.Ns mainGlobals mg → (∀ p ∈ cs, LamX.TabB base mg p.1 p.2) → RunX l.prog w K mg base CX k fa fd [x] sp
theorem walkX {l : PySem.W.OpenLaw} {n k : Nat} {q : Program} {loose : List Str} {XP : (Str → Option Value) → Heap → Prop} {YP : World → Heap → Prop} {d : DefRec} {K : Params → PySem.W.Frag} {CX : World → CXT} {x : Str}
    (hn : l.most = some n) (hn2 : n ≤ sizeLine) (hdf : d.params.defaults = []) (hr : Room k callerA) (hY : ∀ (w : World) (h : Heap), YP w h → (K w.params).In h)
    (F : ∀ (w : World) (mg : Str → Option Value) (fa : Addr) (h : Heap), YP w h → (K w.params).In h → h.Ns mainGlobals mg → mg d.name = some (.ref fa) → LawX l w (K w.params) (CX w) k n x mg fa h)
    (hCX : ∀ (w : World) (H : Hp) (s : Shared) (e : Value) (s' : Shared), CX w [] H s (fun _ _ _ => False) e s' → False) :
    PySem.W.WalkO q loose XP YP l.row.toRowW d [] (fun f vs => PySem.call f vs) := by
  apply Att.attach_call hn hdf
  intro w s₀ s₁ mg mb fa o pm cd doc a vs ns G Y ho hd hcd hmg hobj hints hlen hg
  have KX := hY w _ Y
  obtain ⟨fd, cs, sp, hT, nT, C, hb, hsp, hF⟩ := F w mg fa _ Y KX G.T.g hmg
  have rel := vals_ints hints
  have hz : (ns.map V.int).length ≤ sizeLine := by rw [List.length_map]; exact Nat.le_trans hlen hn2
  have aT : a ∉ tabOf cs := by
    intro z
    obtain ⟨p, hp, e⟩ := List.mem_map.mp z
    have := hT p hp
    rw [e, hobj] at this
    cases this
  have memT : ∀ p ∈ cs, p.2 ∈ tabOf cs := fun p hp => List.mem_map.mpr ⟨p, hp, rfl⟩
  have tab : ∀ b, b ∈ tabOf cs → s₁.heap.get? b = some { cls := .none, data := .fields #[] } := by
    intro b hb
    obtain ⟨p, hp, rfl⟩ := List.mem_map.mp hb
    exact hT p hp
  obtain ⟨H0, eH0⟩ : ∃ H0 : Hp, H0 = fun b => if b ∈ tabOf cs then some (.tbl #[]) else none := ⟨_, rfl⟩
  have in0 : ∀ b, b ∈ tabOf cs → H0 b = some (.tbl #[]) := fun b z => by rw [eH0]; exact if_pos z
  have out0 : ∀ b, b ∉ tabOf cs → H0 b = none := fun b z => by rw [eH0]; exact if_neg z
  have ok0 : HOk l.prog w H0 s₁.heap := by
    intro b u z
    by_cases m : b ∈ tabOf cs
    · rw [in0 b m] at z
      cases z
      exact tab b m
    · rw [out0 b m] at z
      cases z
  have only0 : ∀ b u, H0 b = some u → b ∈ tabOf cs := by
    intro b u z
    refine Classical.byContradiction fun m => ?_
    rw [out0 b m] at z
    cases z
  cases hk : (K w.params).lookup a with
  | some o' =>
    have e := KX a o' hk
    rw [hobj] at e
    cases e
    obtain ⟨k1, k2, k3, k4⟩ := env_tabs (P := l.prog) (w := w) (H := H0) KX G.T.g G.T.b G.T.builtins G.T.nolimit hg hT nT C G.T.bmain hobj ok0 (fun b u z => .inr (only0 b u z)) (fun u z => absurd (only0 a u z) aT)
    refine run_tabs k4 (hF _ k1 k2 k3) hr hb hT C (fun p hp => in0 _ (memT p hp)) (fun b => ?_) ok0 (fun e s' => hCX w H0 s₁ e s') (hsp _ a ns hlen (fun p hp => in0 _ (memT p hp)) ?_)
    · by_cases m : b ∈ tabOf cs
      · exact .inr (.inl m)
      · exact .inl (out0 b m)
    · exact .inr ⟨_, vs.toArray, _, hk, rfl, rfl, rfl, by rw [List.size_toArray, ← rel.length]; exact hz, by simpa using rel⟩
  | none =>
    obtain ⟨H, eH⟩ : ∃ H, H = upd H0 a (.frz { cls := .type "list", data := .seq vs.toArray } (.lst (ns.map V.int))) := ⟨_, rfl⟩
    have at_ : H a = some (.frz { cls := .type "list", data := .seq vs.toArray } (.lst (ns.map V.int))) := by rw [eH]; exact upd_same
    have off : ∀ b, b ≠ a → H b = H0 b := fun b n => by rw [eH]; exact upd_ne n
    have neA : ∀ p ∈ cs, p.2 ≠ a := fun p hp z => aT (z ▸ memT p hp)
    have tH : ∀ p ∈ cs, H p.2 = some (.tbl #[]) := fun p hp => (off _ (neA p hp)).trans (in0 _ (memT p hp))
    have ok1 : HOk l.prog w H s₁.heap := by
      intro b u z
      by_cases m : b = a
      · rw [m, at_] at z
        cases z
        rw [m]
        exact ⟨hobj, hz, vs, _, rel, hobj⟩
      · rw [off b m] at z
        by_cases t : b ∈ tabOf cs
        · rw [in0 b t] at z
          cases z
          exact tab b t
        · rw [out0 b t] at z
          cases z
    obtain ⟨k1, k2, k3, k4⟩ := env_tabs (P := l.prog) (w := w) (H := H) KX G.T.g G.T.b G.T.builtins G.T.nolimit hg hT nT C G.T.bmain hobj ok1 (fun b u z => by
      by_cases m : b = a
      · exact .inl m
      · rw [off b m] at z
        exact .inr (only0 b u z)) (fun u z => hk)
    refine run_tabs k4 (hF _ k1 k2 k3) hr hb hT C tH (fun b => ?_) ok1 (fun e s' => hCX w H s₁ e s') (hsp _ a ns hlen tH (.inl (.inr ⟨_, at_⟩)))
    by_cases m : b = a
    · exact .inr (.inr ⟨_, _, by rw [m]; exact at_⟩)
    · by_cases t : b ∈ tabOf cs
      · exact .inr (.inl t)
      · exact .inl ((off b m).trans (out0 b t))
end K14
namespace K14
open PySem PySem.Spec PyProof.Rows L2
section
variable {P : Program} {w : World} {K : PySem.W.Frag} {mg : Str → Option Value} {base : Heap}
/-- a def whose code object is known -/
theorem okC {x qual : Str} {st : Stmt} {f c : Addr} {fd : FuncData} {N ps : List Str} {k : Nat} {sp : Sp} (F : Fun K x qual st f fd) (hc : fd.code = .ref c) (S : FnScope N ps (defScope st)) (len : ∀ vs H Q E, sp vs H Q E → vs.length = ps.length)
    (hbody : ∀ (A : Around) (outer : List Env) (s : Shared) (H : Hp) (vs : List V) (Q : VK) (E : XK), Room k (A.deeper (envOfC qual (defScope st) s.heap.objs.size f (.ref c))) → sp vs H Q E →
      ∃ t, PSs (cxOf CX0 P w K mg base N qual (defScope st) f (.ref c) A outer s H E).nox (defBody st) t ∧ t { nx := fun _ H' => Q .non H', rt := Q } (start N vs) H) : FnOk P w K mg base CX0 (k + 1) f fd ps sp := by
  obtain ⟨oc, od, kV, doc, pm, an, cdv, ct, osl, rfl, lk, hcd⟩ := F.ex
  have e : cdv = .ref c := hc
  subst e
  exact fn_of lk hcd S len fun A outer s H vs Q E hr hsp => (hbody A outer s H vs Q E hr hsp).imp fun t z => ⟨z.1.nox, z.2⟩
/-- the same while no repr is under way -/
theorem okGC {x qual : Str} {st : Stmt} {f c : Addr} {fd : FuncData} {N ps : List Str} {k : Nat} {sp : Sp} (F : Fun K x qual st f fd) (hc : fd.code = .ref c) (S : FnScope N ps (defScope st)) (len : ∀ vs H Q E, sp vs H Q E → vs.length = ps.length)
    (body : ∀ (A : Around) (outer : List Env) (s : Shared) (H : Hp) (vs : List V) (Q : VK) (E : XK), A.guards = some [] → Room k (A.deeper (envOfC qual (defScope st) s.heap.objs.size f (.ref c))) → sp vs H Q E →
      ∃ t, PSs (cxOf CX0 P w K mg base N qual (defScope st) f (.ref c) A outer s H E).nox (defBody st) t ∧ t { nx := fun _ H' => Q .non H', rt := Q } (start N vs) H) : RunG P w K mg base (k + 1) f fd ps sp := by
  obtain ⟨oc, od, kV, doc, pm, an, cdv, ct, osl, e1, lk, hcd⟩ := F.ex
  subst e1
  have e : cdv = .ref c := hc
  subst e
  intro A outer s H args us vs Q E hA room e0 bind rel promise
  exact LamX.run_ofS lk hcd S room e0 bind rel (len _ _ _ _ promise) fun hr => (body A outer s H vs Q E hA hr promise).imp fun t z => ⟨z.1.nox, z.2⟩
/-- _law_heard, as it stands -/
structure HeardT (K : PySem.W.Frag) (mg : Str → Option Value) (g : Addr) (fd : FuncData) : Prop where
  F : Fun K "_law_heard" "_law_heard" sLHeard g fd
  b : Binds K fd ["action"] []
  k : PySem.W.keepIn K (.ref g) = true
  m : mg "_law_heard" = some (.ref g)
/-- the table of a def's lambdas -/
structure TabT (T : List (Addr × Str)) (base : Heap) (mg : Str → Option Value) (c P : Addr) (q : Str) : Prop where
  B : LamX.TabB base mg c P
  mem : (P, q) ∈ T
  one : ∀ p ∈ T, p.1 = P → p.2 = q
end
section
variable {X : Cx} {T : List (Addr × Str)}
/-- _law_heard(lambda: ..) -/
theorem pe_heard {g c P CR CM fI : Addr} {gd : FuncData} {k : Nat} {params : Arguments} {body : Expr} {scope : Scope} {t : XK → TE} {p lpos pos : Pos} (G : HeardT X.K X.mg g gd) (E : ErrT X.K X.mg CR CM fI) (mis : X.mg "isinstance" = none) (hg : Gl X "_law_heard")
    (B : TabT T X.base X.mg c P (X.env.qual ++ "<lambda>")) (hcode : X.env.code = .ref c) (hr : Room (k + 2) X.A) (L : LamX.LamS X.env.scope scope) (hdef : defaultsOf params X.env = ([], []))
    (hbind : ∀ (q : Str) (cl : List (Str × Addr)) (pm cv ctv : Value), bindArgs (PySem.W.kla_fn "<lambda>" q params body scope cl pm cv ctv) ⟨[], []⟩ = pure [])
    (hbody : ∀ (A : Around) (outer : List Env) (s : Shared) (H : Hp) (E : XK) (f c' : Addr), Room k (A.deeper (LamX.lamEnv X scope s.heap.objs.size f c')) → PE (LamX.lamCx X A outer s H E scope f c') body (t E)) :
    PE X (.Call (.Name "_law_heard" p) [.Lambda params body scope lpos] [] pos) (LamX.tLam T (THeard CR) t) := by
  obtain ⟨oc, od, kV, doc, pm, an, cdv, ct, osl, e1, lk, hcd⟩ := G.F.ex
  have b := G.b
  subst e1
  exact LamX.pe_lamcall hg G.m G.k lk hcd b scHeard rfl (.inl rfl) (heard_gives E mis) B.B hcode B.mem B.one hr L hdef hbind hbody
end
end K14
namespace K14
open PySem PySem.Spec PyProof.Rows L2
section
variable {J : It} {n : Nat} {G : Hp → Prop} {Y : Nat → Hp → V → Hp → Prop}
/-- a comprehension of new lists -/
theorem lc_lsts (w : Walk J n G Y) {g : TG} {te : TE} {vs : List Nat} {σ : L2.St} {H0 : Hp} {D : Addr} {Qd : Hp → Prop} (hn : n ≤ 100000) (X : Nat → List V) (nD : H0 D = none) (hG : ∀ H, Same H0 H → G H)
    (hs : ∀ (i : Nat) (x : V) (H H' : Hp) (Z : V → Hp → Prop), (∀ r H3, Same H H3 → H r = none → H3 r = some (.lst (X i)) → Z (.ref r) H3) → i < n → Same H0 H → Y i H x H' → g x (wipe σ vs) H' fun σ2 H2 => wipe σ2 vs = wipe σ vs ∧ te σ2 H2 Z)
    (hd : ∀ (rs : List Addr) H, Same H0 H → H D = some (.lst (rs.map V.ref)) → rs.length = n → (∀ (j : Nat) (r : Addr), rs[j]? = some r → H0 r = none ∧ r ≠ D ∧ H r = some (.lst (X j))) → Qd H) :
    ∃ W : Nat → Nat → Hp → Prop, (∃ m, W 0 m (upd H0 D (.lst []))) ∧ ∀ i m H, W i m H →
      (J.stop i H ∧ Qd H) ∨ (J.go i H ∧ ∃ Nx : Hp → Prop, (∀ H', Nx H' → ∃ m', m' < m ∧ W (i + 1) m' H') ∧ ∀ x H', J.yld i H x H' → g x (wipe σ vs) H' fun σ2 H2 => wipe σ2 vs = wipe σ vs ∧ tYes σ2 H2 fun b H3 =>
        if b = true then te σ2 H3 fun y H4 => ∃ acc, H4 D = some (.lst acc) ∧ acc.length < sizeLine ∧ Nx (upd H4 D (.lst (acc ++ [y]))) else Nx H3) := by
  refine lc_it w (fun i H => ∃ rs : List Addr, Same H0 H ∧ H D = some (.lst (rs.map V.ref)) ∧ rs.length = i ∧ ∀ (j : Nat) (r : Addr), rs[j]? = some r → H0 r = none ∧ r ≠ D ∧ H r = some (.lst (X j))) ⟨[], same_upd nD, upd_same, rfl, fun _ _ e => by simp at e⟩ (fun i H _ ⟨_, h, _⟩ => hG H h) (fun i x H H' hi ⟨rs, sm, eD, rl, old⟩ y => ?_) (fun H ⟨rs, sm, eD, rl, old⟩ => hd rs H sm eD rl old)
  refine hs i x H H' (fun v H3 => ∃ acc, H3 D = some (.lst acc) ∧ acc.length < sizeLine ∧ (fun H => ∃ rs : List Addr, Same H0 H ∧ H D = some (.lst (rs.map V.ref)) ∧ rs.length = i + 1 ∧ ∀ (j : Nat) (r : Addr), rs[j]? = some r → H0 r = none ∧ r ≠ D ∧ H r = some (.lst (X j))) (upd H3 D (.lst (acc ++ [v])))) (fun r H3 s3 nr er => ?_) hi sm y
  have eD3 := s3 _ _ eD
  have nrD : r ≠ D := fun z => by
    rw [z, eD] at nr
    cases nr
  refine ⟨_, eD3, ?_, rs ++ [r], (sm.trans s3).fresh nD, by rw [upd_same]; simp, by simp [rl], ?_⟩
  · rw [List.length_map, rl]
    exact sz6' (by omega)
  · intro j q e
    by_cases c : j < rs.length
    · rw [List.getElem?_append_left c] at e
      obtain ⟨o1, o2, o3⟩ := old j q e
      exact ⟨o1, o2, by rw [upd_ne o2]; exact s3 _ _ o3⟩
    · have hj : j = rs.length := by
        have := (List.getElem?_eq_some_iff.mp e).1
        simp at this
        omega
      subst hj
      simp at e
      subst e
      rw [rl]
      exact ⟨sm.free nr, nrD, by rw [upd_ne nrD]; exact er⟩
end
/-- lists that go round -/
def rnd (m one : Nat) : List Nat := (List.range (m / 2)).map fun at_ => (one + 1 + 2 * at_) % m
theorem rnd_ok {m : Nat} (hm : m = 4 ∨ m = 6) : ∀ i, i < m → (rnd m i).Nodup ∧ ∀ j ∈ rnd m i, j < m ∧ j ≠ i ∧ i ∈ rnd m j := by
  rcases hm with rfl | rfl
  · decide
  · decide
theorem rnd_len {m one : Nat} : (rnd m one).length = m / 2 := by simp [rnd]
theorem round_lists {m : Nat} {ls : List (List Nat)} (hm : m = 4 ∨ m = 6) (ll : ls.length = m) (pm : ∀ (i : Nat) (s : List Nat), ls[i]? = some s → s.Perm (rnd m i)) : ListsOk m ls where
  len := ll
  nd := fun i s e => by
    have hi : i < m := by have := (List.getElem?_eq_some_iff.mp e).1; omega
    exact (pm i s e).nodup_iff.mpr (rnd_ok hm i hi).1
  both := fun i s j e hj => by
    have hi : i < m := by have := (List.getElem?_eq_some_iff.mp e).1; omega
    obtain ⟨h1, h2, h3⟩ := (rnd_ok hm i hi).2 j ((pm i s e).mem_iff.mp hj)
    have et : ls[j]? = some ls[j] := List.getElem?_eq_getElem (by omega)
    exact ⟨h1, h2, ls[j], et, (pm j _ et).mem_iff.mpr h3⟩
def spRound : Sp := fun vs H Q _ => ∃ (h l : Addr) (m : Nat), vs = [.ref h, .int m] ∧ Src H h l ∧ (m = 4 ∨ m = 6) ∧
  ∀ (r : Addr) (ls : List (List Nat)) (H' : Hp), Src H' h l → Bar h l H H' → H r = none → LX H' r ls → ls.length = m → ListsOk ls.length ls → (∀ (i : Nat) (s : List Nat), ls[i]? = some s → s.Perm (rnd m i)) → Q (.ref r) H'
theorem scRound : FnScope ["heap", "many", "lists", "one", "at", "row"] ["heap", "many"] (defScope sLRound) := ⟨rfl, rfl, rfl, by decide +kernel, rfl, by decide +kernel, by decide +kernel⟩
abbrev rTupX (K : PySem.W.Frag) : List V → Hp → VK → Prop := fun xs H Q => ∃ p ys, xs = [.ref p] ∧ SqL K H p ys ∧ ∀ l H', H l = none → Same H H' → Ex H' l ys → (∀ b o, b ≠ l → H' b = some o → H b = some o) → Q (.ref l) H'
theorem call_tupleXL {X : Cx} : CallR X (.type "tuple") (rTupX X.K) := call_tupleX
section
variable {P : Program} {w : World} {K : PySem.W.Frag} {mg : Str → Option Value} {base : Heap}
theorem ok_round {f f1 f2 : Addr} {fd d1 d2 : FuncData} {k : Nat} (F : Fun K "_law_round" "_law_round" sLRound f fd) (Dr : Has P w K mg base k "_law_draw" ["heap", "many"] spDraw f1 d1) (Sh : Has P w K mg base k "_law_shuffled" ["heap", "some"] spShuffled f2 d2)
    (mr : mg "range" = none) (mt : mg "tuple" = none) (mi : mg "int" = none) (mli : mg "list" = none) : FnOk P w K mg base CX0 (k + 1) f fd ["heap", "many"] spRound := by
  refine F.ok scRound (fun vs H Q E h => ?_) (fun cdv A outer s H vs Q E hr h => ?_)
  · obtain ⟨h, l, m, rfl, _⟩ := h
    rfl
  · obtain ⟨h, l, m, rfl, src, hm, q⟩ := h
    refine ⟨_, pss_cons (ps_setLc (i := 2) (own := [("one", 3)]) (g := gName 3) (tt := tYes) rfl scRound.nd rfl rfl (sw_true rfl rfl rfl (by decide +kernel)) (pi_range1 rfl mr (pa_cons (pv 1) pa_nil))
          (blkOk_by (own := [("one", 3)]) (N := ["heap", "many", "lists", "one", "at", "row"]) (sc := defScope sLRound) (by decide +kernel)) (fun _ _ _ _ _ => pg_name (i := 3) scRound.nd rfl (Or.inr rfl)) (fun _ _ _ _ _ => pts_nil)
          (fun _ _ _ _ _ => pe_lc (own := [("at", 4)]) (g := gName 4) (tt := tYes) rfl scRound.nd (pi_range1 (by rfl) mr (pa_cons (pe_op op_fdiv (pv 1) pe_int) pa_nil))
              (blkOk_by (own := [("at", 4)]) (by rfl)) (fun _ _ _ _ _ => pg_name (i := 4) scRound.nd rfl (Or.inl rfl)) (fun _ _ _ _ _ => pts_nil)
              (fun _ _ _ _ _ => pe_op op_mod (pe_callTy call_int1 (by rfl) mi (by decide +kernel) (pa_cons (pe_op op_add (pe_op op_add (pv 3) pe_int) (pe_op op_mul pe_int (pv 4))) pa_nil)) (pv 1))))
      (pss_cons (ps_if (pt_cmpR op_eq (pe_call Dr.ok hr rfl Dr.m Dr.k Dr.b .nil pass0 (pa_cons (pv 0) (pa_cons pe_int pa_nil))) pe_int (nomark _))
        (pss_cons (ps_set (i := 3) scRound.nd rfl (.inl rfl) (pe_call Dr.ok hr rfl Dr.m Dr.k Dr.b .nil pass0 (pa_cons (pv 0) (pa_cons (pv 1) pa_nil))))
        (pss_one (ps_asg (pe_callTy call_list_of (by rfl) mli (by decide +kernel) (pa_cons (pe_call Sh.ok hr rfl Sh.m Sh.k Sh.b .nil pass0 (pa_cons (pv 0) (pa_cons (pe_ix ix_list (pv 2) (pv 3) (fun _ _ => rfl)) pa_nil))) pa_nil)) (pg_sub (pv 2) (pv 3) set_list)))) pss_nil)
      (pss_one (ps_ret (pe_callTy call_tuple_of (by rfl) mt (by decide +kernel) (pa_cons (pe_lc (own := [("row", 5)]) (g := gName 5) (tt := tYes) (te := tCB (rTupX K) (tCons (tVar 5) tNil)) rfl scRound.nd (pi_list (pv 2))
          (blkOk_by (own := [("row", 5)]) (N := ["heap", "many", "lists", "one", "at", "row"]) (sc := defScope sLRound) (by decide +kernel)) (fun _ _ _ _ _ => pg_name (i := 5) scRound.nd rfl (Or.inl rfl)) (fun _ _ _ _ _ => pts_nil)
          (fun _ _ _ _ _ => pe_callTy call_tupleXL (by rfl) mt (by decide +kernel) (pa_cons (pv 5) pa_nil))) pa_nil))))), ?_⟩
    have m6 : 4 ≤ m ∧ m ≤ 6 := by omega
    refine ⟨_, rfl, _, rfl, by omega, by omega, fun D nD => ?_⟩
    refine lc_lsts (J := Itr 0 m) (n := m) walk_range0 (by omega) (fun one => VI (rnd m one)) nD (fun _ _ => trivial) ?_ ?_
    · rintro one x Ha Hb Z out hi sm ⟨rfl, rfl⟩
      refine gn ⟨rfl, _, rfl, _, _, rfl, rfl, ⟨by decide, by decide⟩, (m / 2 : Nat), ?_, by omega, by omega, fun C nC => ?_⟩
      · have e : ((m : Nat) : Int) / 2 = ((m / 2 : Nat) : Int) := by omega
        show [V.int (((m : Nat) : Int) / 2)] = _
        rw [e]
      rw [show (((m / 2 : Nat) : Int)).toNat = m / 2 by omega]
      refine lc_same (J := Itr 0 (m / 2)) (n := m / 2) walk_range0 (by omega) (fun at_ => .int (((one + 1 + 2 * at_) % m : Nat) : Nat)) nC (fun _ _ => trivial) ?_ ?_
      · rintro at_ x H5 H6 Z' out' hi' sm' ⟨rfl, rfl⟩
        refine gn ⟨rfl, _, rfl, _, _, rfl, rfl, _, rfl, _, _, rfl, rfl, .inl ⟨by decide, by decide⟩, _, _, rfl, rfl, .inl ⟨_, rfl, _, rfl, _, _, rfl, rfl, by omega, ?_⟩⟩
        have e : ((one : Nat) + 1 + 2 * (at_ : Nat) : Int) % (m : Nat) = (((one + 1 + 2 * at_) % m : Nat) : Nat) := by simp
        show Z' (.int (((one : Nat) + 1 + 2 * (at_ : Nat) : Int) % (m : Nat))) _
        rw [e]
        exact out' _ same_rfl
      · intro H5 s5 eC
        exact out C H5 s5 nC (by rw [eC]; unfold rnd VI; rw [List.map_map]; rfl)
    · intro rs H1 s1 eD rl rows
      refine gn ?_
      dsimp only [List.set, L2.start]
      have src1 := src.same s1
      have rq : ∀ j r, rs[j]? = some r → r ≠ h ∧ r ≠ l := fun j r e => src.new (rows j r e).1
      obtain ⟨nDh, nDl⟩ := src.new nD
      refine seqcut (fun σ' H' => ∃ (y : Option V) (us : List Addr) (ll : List (List Nat)), σ' = [some (.ref h), some (.int (m : Nat)), some (.ref D), y, none, none] ∧ Src H' h l ∧ Bar h l H H' ∧ H' D = some (.lst (us.map V.ref)) ∧ us.length = m ∧ ll.length = m ∧ (∀ (j : Nat) (u : Addr) (s : List Nat), us[j]? = some u → ll[j]? = some s → H' u = some (.lst (VI s))) ∧ ∀ (i : Nat) (s : List Nat), ll[i]? = some s → s.Perm (rnd m i)) ?_ (fun out => ?_)
      · rintro σ' H' ⟨y, us, ll, rfl, sr, br, eD', ul, lll, ru, pm⟩
        refine ⟨_, rfl, D, rfl, ⟨_, SqL.of eD'⟩, fun C nC => ?_⟩
        refine lc_objs (walk_list (K := K) (a := D) (xs := us.map V.ref)) (by rw [List.length_map]; omega) (fun i H r => ∀ s, ll[i]? = some s → Ex H r (VI s)) (fun i H H' r e s s' e' => (e s' e').same s) (fun i H H' r ys e eD k s e' => ?_) nC (fun _ sm => SqL.of (sm _ _ eD')) ?_ ?_
        · obtain ⟨o, d, c, ex⟩ := e s e'
          exact ⟨o, d, c, k _ _ (Ex.ne_lst ⟨o, d, c, ex⟩ eD) ex⟩
        · rintro i x Ha Hb Z out hi sm ⟨rfl, ex⟩
          rw [List.length_map] at hi
          have eu : us[i]? = some us[i] := List.getElem?_eq_getElem hi
          rw [List.getElem?_map, eu] at ex
          cases ex
          have es : ll[i]? = some ll[i] := List.getElem?_eq_getElem (by omega)
          have e1 := sm _ _ (ru i _ _ eu es)
          refine gn ⟨rfl, _, rfl, us[i], _, rfl, SqL.of e1, fun r H3 nr s3 ex _ => out r H3 s3 fun s e => ?_⟩
          rw [es] at e
          cases e
          exact ex
        · intro ts H3 s3 eC tl rws
          rw [List.length_map] at tl
          have br3 := br.trans (.same s3)
          refine ⟨C, _, rfl, .inl ⟨SqL.of eC, fun r nr => ?_⟩⟩
          refine q r ll _ ((sr.same s3).updn nr) (br3.fresh (br3.free (sr.same s3) nr)) (br3.free (sr.same s3) nr) ⟨ts, upd_same, by omega, fun i a s e1 e2 => ((rws i a e1) s e2).same (same_upd nr)⟩ lll ?_ pm
          rw [lll]
          exact round_lists hm lll pm
      · -- one of them in another sequence
        have ll0 : ∀ i, i < m → ((List.range m).map (rnd m))[i]? = some (rnd m i) := fun i hi => by rw [List.getElem?_map, List.getElem?_range hi]; rfl
        have rows0 : ∀ (j : Nat) (u : Addr) (s : List Nat), rs[j]? = some u → ((List.range m).map (rnd m))[j]? = some s → H1 u = some (.lst (VI s)) := fun j u s e1 e2 => by
          have hj : j < m := by have := (List.getElem?_eq_some_iff.mp e1).1; omega
          rw [ll0 j hj] at e2
          cases e2
          exact (rows j u e1).2.2
        have pm0 : ∀ (i : Nat) (s : List Nat), ((List.range m).map (rnd m))[i]? = some s → s.Perm (rnd m i) := fun i s e => by
          have hi : i < m := by have := (List.getElem?_eq_some_iff.mp e).1; simpa using this
          rw [ll0 i hi] at e
          cases e
          exact .refl _
        refine ⟨_, rfl, h, l, 3, rfl, src1, by decide, by decide, fun d1 H2 a0 a1 sr2 br2 => ⟨rfl, _, rfl, ?_⟩⟩
        have up : ∀ {H2 : Hp}, Bar h l H1 H2 → H2 D = some (.lst (rs.map V.ref)) ∧ ∀ (j : Nat) (u : Addr) (s : List Nat), rs[j]? = some u → ((List.range m).map (rnd m))[j]? = some s → H2 u = some (.lst (VI s)) := fun br => ⟨br _ _ nDh nDl eD, fun j u s e1 e2 => br _ _ (rq j u e1).1 (rq j u e1).2 (rows0 j u s e1 e2)⟩
        have b1 : Bar h l H H1 := .same s1
        refine ite2 (fun c => ?_) (fun c => ?_)
        · refine ⟨_, rfl, _, rfl, h, l, (m : Nat), rfl, sr2, by omega, by omega, fun d2 H3 c0 c1 sr3 br3 => gn ?_⟩
          dsimp only [List.set]
          obtain ⟨d, rfl⟩ : ∃ d : Nat, d2 = (d : Nat) := ⟨d2.toNat, by omega⟩
          have dl : d < m := by omega
          obtain ⟨eD3, ru3⟩ := up (br2.trans br3)
          have er : rs[d]? = some rs[d] := List.getElem?_eq_getElem (by omega)
          refine ⟨_, rfl, _, rfl, _, rfl, D, _, _, _, rfl, rfl, SqL.of eD3, atI_nat (by rw [List.getElem?_map, er]; rfl), h, l, rs[d], VI (rnd m d), rfl, sr3, .inl (ru3 d _ _ er (ll0 d dl)), (rq d _ er).1, (rq d _ er).2, by rw [VI_len, rnd_len]; omega, fun t ys H4 py sr4 br4 nt et => ?_⟩
          obtain ⟨s, rfl, ps⟩ := perm_VI py
          refine ⟨t, _, rfl, .inr (Tp.sq (.inr et)), fun B nB => ?_⟩
          obtain ⟨eD4, ru4⟩ := up ((br2.trans br3).trans br4)
          have brB : Bar h l H1 (upd H4 B (.lst (VI s))) := ((br2.trans br3).trans br4).trans (.same (same_upd nB))
          obtain ⟨eD5, ru5⟩ := up brB
          refine ⟨_, rfl, _, rfl, D, _, (d : Int), d, rfl, rfl, eD5, by rw [List.length_map, rl]; exact ixN_nat dl, ?_⟩
          have nDB : D ≠ B := ne_of_none eD4 nB
          have H0B : H B = none := b1.free src1 (((br2.trans br3).trans br4).free sr4 nB)
          refine out _ _ ⟨_, rs.set d B, ((List.range m).map (rnd m)).set d s, rfl, (sr4.updn nB).put nDh nDl, ?_, ?_, by rw [List.length_set, rl], by rw [List.length_set]; simp, fun j u s' e1 e2 => ?_, fun i s' e => ?_⟩
          · exact (b1.trans brB).fresh nD
          · rw [upd_same, List.map_set]
          · by_cases cj : j = d
            · subst cj
              rw [List.getElem?_set_self (by omega)] at e1
              rw [List.getElem?_set_self (by simpa using dl)] at e2
              cases e1
              cases e2
              rw [upd_ne (Ne.symm nDB), upd_same]
            · rw [List.getElem?_set_ne (Ne.symm cj)] at e1 e2
              rw [upd_ne (rows j u e1).2.1]
              exact ru5 j u s' e1 e2
          · by_cases ci : i = d
            · subst ci
              rw [List.getElem?_set_self (by simpa using dl)] at e
              cases e
              exact ps
            · rw [List.getElem?_set_ne (Ne.symm ci)] at e
              exact pm0 i s' e
        · obtain ⟨eD2, ru2⟩ := up br2
          exact out _ _ ⟨none, rs, (List.range m).map (rnd m), rfl, sr2, b1.trans br2, eD2, rl, by simp, ru2, pm0⟩
end
end K14
namespace K14
open PySem PySem.Spec PyProof.Rows L2
/-- the first and the last one -/
def endO : List Nat → Option (List Nat)
  | [] => none
  | a :: t => some [a, ((a :: t).getLast?).getD 0]
theorem endO_some {s : List Nat} {e : List Nat} (h : endO s = some e) : ∃ a b, e = [a, b] ∧ a ∈ s ∧ b ∈ s := by
  cases s with
  | nil => cases h
  | cons a t =>
    cases h
    refine ⟨a, _, rfl, by simp, ?_⟩
    cases e : (a :: t).getLast? with
    | none => simp at e
    | some z => exact List.mem_of_getLast? e
def endsA (ls : List (List Nat)) (hs : List (Option Nat)) : List (Option (List Nat)) := (List.range ls.length).map fun p => endO (leftL ls hs p)
theorem endsA_len {ls : List (List Nat)} {hs : List (Option Nat)} : (endsA ls hs).length = ls.length := by simp [endsA]
theorem endsA_at {ls : List (List Nat)} {hs : List (Option Nat)} {p : Nat} (h : p < ls.length) : (endsA ls hs)[p]? = some (endO (leftL ls hs p)) := by simp [endsA, h]
def singleL (ls : List (List Nat)) (hs : List (Option Nat)) : List Nat := (List.range ls.length).filter fun p => (ha hs p).isNone
/-- of a list left: the first and the last one, or None -/
abbrev teEnds (K : PySem.W.Frag) (i : Nat) : TE := tIf (fun σ H Q => tVar i σ H fun x H' => ∃ k, TruV K x H' k ∧ Q k H') (tTup (tCons (tOp (rIxT K) (tVar i) (tC (.int 0))) (tCons (tOp (rIxT K) (tVar i) (tUn (rU fun i => V.int (-i)) (tC (.int 1)))) tNil))) (tC .non)
theorem te_ends {K : PySem.W.Frag} {i : Nat} {σ : L2.St} {H : Hp} {c : Addr} {s : List Nat} {Q : VK} (es : σ[i]? = some (some (.ref c))) (ec : Tp H c (VI s)) (q : ∀ v H', Same H H' → OV H' v (endO s) → Q v H') : teEnds K i σ H Q := by
  refine ⟨_, es, _, .inr (.inl ⟨_, ec.sq, rfl⟩), ?_⟩
  cases s with
  | nil => exact iteF (q .non H same_rfl rfl)
  | cons a t =>
    refine iteT ?_
    have sq := ec.sq (K := K)
    refine ⟨_, es, c, _, 0, .int (a : Nat), rfl, rfl, sq, atI_nat (j := 0) rfl, _, es, _, rfl, c, _, -1, .int (((a :: t).getLast?).getD 0 : Nat), rfl, rfl, sq, ?_, (by show 2 ≤ sizeLine; decide), fun r nr => ?_⟩
    · rcases list_end (a :: t) with h | ⟨ys, z, h⟩
      · cases h
      · rw [h, VI_app, List.getLast?_append]
        exact atI_last _ _
    · exact q (.ref r) _ (same_upd nr) ⟨r, rfl, upd_same⟩
def spEndsLeft (C : Addr) : Sp := fun vs H Q _ => ∃ (wi : Addr) (ns ls : List (List Nat)), vs = [.ref wi] ∧ WAt C H wi ns ls ∧ ∀ r g H', Great ls g → Same H H' → OT H' r (endsA ls g) → Q (.ref r) H'
def spLeftSingle (C : Addr) : Sp := fun vs H Q _ => ∃ (wi : Addr) (ns ls : List (List Nat)), vs = [.ref wi] ∧ WAt C H wi ns ls ∧ ∀ r g H', Great ls g → Same H H' → H' r = some (.tup (VI (singleL ls g))) → Q (.ref r) H'
section
variable {P : Program} {w : World} {K : PySem.W.Frag} {mg : Str → Option Value} {base : Heap}
end
end K14
namespace K14
open PySem PySem.Spec PyProof.Rows L2
theorem eqv_dI_nil (s : List Nat) : PyData.eqv (dI s) (.tuple []) = s.isEmpty := by
  cases s with
  | nil => decide
  | cons c r => simp [dI, PyData.eqv, PyData.eqvAll]
theorem sh_dI (s : List Nat) : SeqAt.shaped (dI s) = true := shaped_of (lay_dI s).1 (Nat.le_trans (lay_dI s).2 (by decide))
theorem flat_VH (hs : List (Option Nat)) : (VH hs).all flatV = true := by
  unfold VH
  rw [List.all_map, List.all_eq_true]
  intro o _
  cases o <;> rfl
def spOut : Sp := fun vs H Q _ => ∃ (a : Addr) (ls : List (List Nat)), vs = [.ref a] ∧ LX H a ls ∧ 1 ≤ ls.length ∧ ls.length ≤ 60 ∧ ListsOk ls.length ls ∧ ∀ (r : Addr) (g : List (Option Nat)) (H' : Hp), Great ls g → Same H H' → H' r = some (.tup (VH g)) → Q (.ref r) H'
theorem scOut : FnScope ["lists", "holds", "turn", "left", "some", "first", "row", "person"] ["lists"] (defScope sLOut) := ⟨rfl, rfl, rfl, by decide +kernel, rfl, by decide +kernel, by decide +kernel⟩
theorem inV_VH {hs : List (Option Nat)} {p : Nat} : inV (.int (p : Nat)) (VH hs) = true ↔ some p ∈ hs := by
  unfold inV VH
  rw [List.any_map, List.any_eq_true]
  constructor
  · rintro ⟨x, hx, e⟩
    cases x with
    | none => cases e
    | some j =>
      have : ((j : Nat) : Int) = (p : Int) := eq_of_beq e
      have : j = p := by omega
      rw [← this]
      exact hx
  · intro h
    exact ⟨some p, h, beq_self_eq_true _⟩
/-- whoever can ask -/
def askers (ls : List (List Nat)) (hs : List (Option Nat)) : List Nat := (List.range ls.length).filter fun p => !(leftL ls hs p).isEmpty && !inV (.int (p : Nat)) (VH hs)
theorem asker_iff {ls : List (List Nat)} {hs : List (Option Nat)} (hl : hs.length = ls.length) {p : Nat} : p ∈ askers ls hs ↔ p < ls.length ∧ (∃ j, fst ls hs p = some j) ∧ ∀ q, q < ls.length → ha hs q ≠ some p := by
  unfold askers
  rw [List.mem_filter, List.mem_range, Bool.and_eq_true]
  refine and_congr_right fun hp => and_congr ?_ ?_
  · unfold fst
    cases leftL ls hs p with
    | nil => simp
    | cons a t => simp
  · have : (!inV (.int (p : Nat)) (VH hs)) = true ↔ ¬ some p ∈ hs := by
      rw [← inV_VH (hs := hs)]
      cases inV (.int (p : Nat)) (VH hs) <;> simp
    rw [this]
    constructor
    · intro h q hq e
      have hq' : q < hs.length := by omega
      have := ha_get (hs := hs) hq'
      rw [e] at this
      exact h (List.mem_of_getElem? this)
    · intro h hm
      obtain ⟨q, hq, e⟩ := List.mem_iff_getElem.mp hm
      refine h q (by omega) ?_
      unfold ha
      rw [List.getD_eq_getElem?_getD, List.getElem?_eq_getElem hq, e]
      rfl
theorem great_no {ls : List (List Nat)} {g : List (Option Nat)} (G : Great ls g) : askers ls g = [] := by
  refine List.eq_nil_iff_forall_not_mem.mpr fun p hp => ?_
  obtain ⟨h1, ⟨j, h2⟩, h3⟩ := (asker_iff G.ok.len).mp hp
  have := G.st.b p j h1 h2
  exact h3 j (G.ok.on j p this).1 this
theorem no_great {ls : List (List Nat)} {hs : List (Option Nat)} (h : Half ls hs) (t : Top ls hs) (e : askers ls hs = []) : Great ls hs := great_of h t fun p j hp ef => Classical.byContradiction fun c => by
  have : p ∈ askers ls hs := (asker_iff h.ok.len).mpr ⟨hp, ⟨j, ef⟩, fun q hq z => c ⟨q, hq, z⟩⟩
  rw [e] at this
  cases this
section
variable {P : Program} {w : World} {K : PySem.W.Frag} {mg : Str → Option Value} {base : Heap}
theorem ok_out {f fl : Addr} {fd dl : FuncData} {k : Nat} (F : Fun K "_law_out" "_law_out" sLOut f fd)
    (L : FnOk P w K mg base CX0 k fl dl ["lists", "holds"] spLeft) (bL : Binds K dl ["lists", "holds"] []) (kL : PySem.W.keepIn K (.ref fl) = true) (mL : mg "_law_left" = some (.ref fl)) (ml : mg "len" = none) (mrg : mg "range" = none) (msu : mg "sum" = none) :
    FnOk P w K mg base CX0 (k + 1) f fd ["lists"] spOut := by
  refine F.ok scOut (fun vs H Q E h => ?_) (fun cdv A outer s H vs Q E hr h => ?_)
  · obtain ⟨a, ls, rfl, _⟩ := h
    rfl
  · obtain ⟨a, ls, rfl, lx, n1, n60, ok, q⟩ := h
    refine ⟨_, pss_cons (ps_set (i := 1) scOut.nd rfl (.inr rfl) (pe_op op_repA (pe_tup (pa_cons pe_non pa_nil)) (pe_callB call_len_seq (by rfl) ml PySem.boot_len (pa_cons (pv 0) pa_nil))))
      (pss_cons (ps_for PassesOwn.never rfl (pi_range1 rfl mrg (pa_cons (pe_op op_add pe_int (pe_callB (cr_sum rfl) (by rfl) msu (by decide +kernel) (pa_cons (pe_lc (own := [("row", 6)]) (g := gName 6) (tt := tYes) (te := tCB (fun xs H Q => ∃ p ys, xs = [V.ref p] ∧ (SqL K H p ys ∨ SqT K H p ys) ∧ Q (V.int ys.length) H) (tCons (tVar 6) tNil)) rfl scOut.nd (pi_tup (pv 0))
            (blkOk_by (own := [("row", 6)]) (N := ["lists", "holds", "turn", "left", "some", "first", "row", "person"]) (sc := defScope sLOut) (by decide +kernel)) (fun _ _ _ _ _ => pg_name (i := 6) scOut.nd rfl (Or.inl rfl)) (fun _ _ _ _ _ => pts_nil)
            (fun _ _ _ _ _ => pe_callB call_len_seq (by rfl) ml PySem.boot_len (pa_cons (pv 6) pa_nil))) pa_nil))) pa_nil)) (pg_name (i := 2) scOut.nd rfl (.inl rfl))
        (pss_cons (ps_set (i := 3) scOut.nd rfl (.inr rfl) (pe_call L hr rfl mL kL bL .nil pass0 (pa_cons (pv 0) (pa_cons (pv 1) pa_nil))))
        (pss_cons (ps_setLc (i := 4) (own := [("person", 7)]) (g := gName 7) (tt := tAnd (tTest (tOp (rNeD K) (tOp (rIxT K) (tVar 3) (tVar 7)) (tTup tNil))) (tTest (tOp (rIn K true) (tVar 7) (tVar 1)))) rfl scOut.nd rfl rfl (sw_true rfl rfl rfl (by decide +kernel)) (pi_range1 rfl mrg (pa_cons (pe_callB call_len_seq (by rfl) ml PySem.boot_len (pa_cons (pv 0) pa_nil)) pa_nil))
            (blkOk_by (own := [("person", 7)]) (N := ["lists", "holds", "turn", "left", "some", "first", "row", "person"]) (sc := defScope sLOut) (by decide +kernel)) (fun _ _ _ _ _ => pg_name (i := 7) scOut.nd rfl (Or.inl rfl)) (fun _ _ _ _ _ => pts_one (PW.pt (pw_and (pt_cmpR (op_neD hr.units) (pe_ix ix_tup (pv 3) (pv 7) (fun _ _ => rfl)) (pe_tup pa_nil) (nomark _)) (pw_and1 (pt_cmpR op_notIn_seq (pv 7) (pv 1) rfl)))))
            (fun _ _ _ _ _ => pv 7))
        (pss_cons (ps_if (pt_cmpR (op_eqD hr.units) (pv 4) (pe_lst pa_nil) (nomark _)) (pss_one ps_break) pss_nil)
          (pss_cons (ps_set (i := 5) scOut.nd rfl (.inl rfl) (pe_ix ix_tup (pe_ix ix_tup (pv 3) (pe_ix ix_list (pv 4) (pe_un un_neg pe_int) (fun _ _ => rfl)) (fun _ _ => rfl)) pe_int (fun _ _ => rfl)))
          (pss_one (ps_set (i := 1) scOut.nd rfl (.inr rfl) (pe_op op_catA (pe_op op_catA (pe_slice sl_tupA (pv 1) po_none (po_some (pv 5))) (pe_tup (pa_cons (pe_ix ix_list (pv 4) (pe_un un_neg pe_int) (fun _ _ => rfl)) pa_nil))) (pe_slice sl_tupA (pv 1) (po_some (pe_op op_add (pv 5) pe_int)) po_none)))))))))
      (pss_one (ps_ret (pv 1)))), ?_⟩
    obtain ⟨xs, ea, xl⟩ := lx.lt.len
    refine ⟨(by show 1 ≤ sizeLine; decide), fun u nu => ?_⟩
    have su := same_upd (o := .tup [.non]) nu
    refine ⟨_, rfl, a, xs, rfl, .inr (SqT.of (su _ _ ea)), ?_⟩
    rw [xl]
    refine repZ (m := ls.length) rfl upd_same n1 (by omega) fun p0 H1 s1 ep1 => gn ?_
    have s01 := su.trans s1
    have lx1 := lx.same s01
    have ea1 := s01 _ _ ea
    dsimp only [List.set, L2.start]
    -- how often
    refine ⟨_, rfl, a, rfl, ⟨_, SqT.of ea1⟩, fun D nD => ?_⟩
    refine lc_same (walk_tup (K := K) (a := a) (xs := xs)) (by omega) (fun p => .int ((la ls p).length : Nat)) nD (fun _ sm => SqT.of (sm _ _ ea1)) ?_ ?_
    · rintro m x Ha Hb Z out hm sm ⟨rfl, ex⟩
      obtain ⟨c, s', rfl, es, ec⟩ := lx1.lt.row ea1 ex
      have es' : s' = la ls m := by rw [la_of es]
      subst es'
      refine gn ⟨rfl, _, rfl, c, _, rfl, .inr (ec.same sm).sq, ?_⟩
      rw [VI_len]
      exact out _ same_rfl
    · intro H2 s2 eD
      have eD' : H2 D = some (.lst ((((List.range ls.length).map fun p => ((la ls p).length : Int))).map V.int)) := by
        rw [eD, xl, List.map_map]
        rfl
      have tot : ((List.range ls.length).map fun p => ((la ls p).length : Int)).sum = (sumM ls (List.replicate ls.length none) : Nat) := by
        have e : ∀ l : List Nat, (l.map fun p => ((la ls p).length : Int)).sum = ((l.map (most ls (List.replicate ls.length none))).sum : Nat) := by
          intro l
          induction l with
          | nil => rfl
          | cons x t ih =>
            rw [List.map_cons, List.map_cons, List.sum_cons, List.sum_cons, ih, most_none ha_none]
            omega
        exact e _
      have big : sumM ls (List.replicate ls.length none) ≤ 3600 := by
        have b : ∀ n, n ≤ ls.length → ((List.range n).map (most ls (List.replicate ls.length none))).sum ≤ n * 60 := by
          intro n
          induction n with
          | zero => intro _; exact Nat.le_refl _
          | succ n ih =>
            intro hn
            rw [List.range_succ, List.map_append, List.sum_append]
            have h1 := ih (by omega)
            have h2 : most ls (List.replicate ls.length none) n ≤ 60 := by
              rw [most_none ha_none]
              have := ok.each (la_get (show n < ls.length by omega))
              omega
            simp
            omega
        have := b ls.length (Nat.le_refl _)
        unfold sumM
        have : ls.length * 60 ≤ 60 * 60 := Nat.mul_le_mul_right 60 n60
        omega
      refine ⟨D, _, rfl, SqL.of eD', ?_⟩
      rw [tot]
      have s02 := s01.trans s2
      have ep2 := s2 _ _ ep1
      refine ⟨_, _, rfl, rfl, _, rfl, by omega, by omega, for_it (J := Itr 0 (1 + sumM ls (List.replicate ls.length none))) (n := 1 + sumM ls (List.replicate ls.length none)) walk_range0 (fun i σ H' => ∃ (hp : Addr) (hs : List (Option Nat)) (y2 y3 y4 y5 : Option V), σ = [some (.ref a), some (.ref hp), y2, y3, y4, y5, none, none] ∧ Same H H' ∧ H' hp = some (.tup (VH hs)) ∧ Half ls hs ∧ Top ls hs ∧ (Great ls hs ∨ sumM ls hs + i ≤ sumM ls (List.replicate ls.length none)))
        ⟨p0, _, none, none, none, none, rfl, s02, ep2, half_none, top_none, .inr (Nat.le_refl _)⟩ (fun _ _ _ _ _ => trivial) ?_ ?_⟩
      · rintro i z σ H4 H5 hi ⟨hp, hs, y2, y3, y4, y5, rfl, s4, eh, hf, tp, wh⟩ ⟨rfl, rfl⟩
        have ho := hf.ok
        refine gn ?_
        dsimp only [List.set]
        have lx5 := lx.same s4
        refine ⟨_, rfl, _, rfl, a, hp, ls, hs, rfl, lx5, eh, ho, ok, by omega, fun r1 H6 s6 l6 => gn ?_⟩
        dsimp only [List.set]
        have ea6 := s6 _ _ (s4 _ _ ea)
        refine ⟨_, rfl, a, xs, rfl, .inr (SqT.of ea6), ?_⟩
        rw [xl]
        refine ⟨_, rfl, by omega, by omega, fun S nS => ?_⟩
        have gR : ∀ i, i < ls.length → (VI (List.range ls.length)).getD i .non = .int (i : Nat) := fun i hi => by
          rw [List.getD_eq_getElem?_getD, VI_get (List.getElem?_range hi)]
          rfl
        refine lc_sel (J := Itr 0 ls.length) (n := ls.length) walk_range0 (by omega) (VI (List.range ls.length)) (fV fun p => !(leftL ls hs p).isEmpty && !inV (.int (p : Nat)) (VH hs)) (by simp [VI]) nS (fun _ _ => trivial) ?_ ?_
        · rintro q0 x Ha Hb R Z yes' no' hm sm ⟨rfl, rfl⟩
          rw [gR q0 hm] at yes' no'
          obtain ⟨rows2, c2, er2, ec2, ev2⟩ := (l6.same sm).at (leftA_get hm)
          refine gn ⟨rfl, _, rfl, _, rfl, r1, rows2, _, _, rfl, rfl, SqT.of er2, atI_nat ec2, (by show 0 ≤ sizeLine; decide), fun zz nz => ?_⟩
          have sz := same_upd (o := .tup []) nz
          refine ⟨dI (leftL ls hs q0), .tuple [], dp_dI (ev2.same sz), .tup (SqT.of upd_same) .nil, sh_dI _, by decide, _, rfl, ?_⟩
          rw [eqv_dI_nil]
          cases eo : (leftL ls hs q0).isEmpty with
          | true => exact iteF (iteF (no' _ sz (by show (!(leftL ls hs q0).isEmpty && !inV (.int (q0 : Nat)) (VH hs)) = false; rw [eo]; rfl)))
          | false =>
            refine iteT ⟨_, rfl, _, rfl, hp, _, rfl, .inr (SqT.of (sz _ _ (sm _ _ (s6 _ _ eh)))), rfl, flat_VH hs, !inV (.int (q0 : Nat)) (VH hs), rfl, ?_⟩
            cases ei : inV (.int (q0 : Nat)) (VH hs) with
            | true => exact iteF (no' _ sz (by show (!(leftL ls hs q0).isEmpty && !inV (.int (q0 : Nat)) (VH hs)) = false; rw [ei]; simp))
            | false => exact iteT ⟨_, rfl, yes' _ sz (by show (!(leftL ls hs q0).isEmpty && !inV (.int (q0 : Nat)) (VH hs)) = true; rw [eo, ei]; rfl)⟩
        · intro Hc sc eS
          rw [VI_filter] at eS
          refine gn ?_
          dsimp only [List.set]
          have s5c := s6.trans sc
          have l6c := l6.same sc
          have ehc := s5c _ _ eh
          refine ⟨_, rfl, Nat.zero_le _, fun z nz => ?_⟩
          have sz := same_upd (o := .lst []) nz
          have ez : (upd Hc z (.lst [])) z = some (.lst []) := upd_same
          have eS2 := sz _ _ eS
          have l6d := l6c.same sz
          have ehd := sz _ _ ehc
          have s5d := s5c.trans sz
          generalize upd Hc z (.lst []) = Hd at sz ez eS2 l6d ehd s5d
          have s0d := s4.trans s5d
          have eS2' : Hd S = some (.lst (VI (askers ls hs))) := eS2
          refine ⟨dLi (askers ls hs), .list [], dp_dLi eS2', .lst (SqL.of ez) .nil, sh_dLi _, by decide, _, rfl, ?_⟩
          rcases list_end (askers ls hs) with es | ⟨ys, q0, es⟩
          · have ee : PyData.eqv (dLi (askers ls hs)) (.list []) = true := by rw [es]; decide
            rw [ee]
            exact iteT ⟨_, rfl, q hp hs _ (no_great hf tp es) s0d ehd⟩
          · have ee : PyData.eqv (dLi (askers ls hs)) (.list []) = false := by
              rw [es]
              cases ys <;> simp [dLi, PyData.eqv, PyData.eqvAll]
            rw [ee]
            have hq : q0 ∈ askers ls hs := by rw [es]; simp
            obtain ⟨hq1, ⟨o, ef⟩, free⟩ := (asker_iff ho.len).mp hq
            have om := fst_mem ef
            have mm := (mem_left ok hq1).mp om
            have oo := ok.mate hq1 mm.1
            rw [es] at eS2'
            have eSL : Hd S = some (.lst (VI ys ++ [.int (q0 : Nat)])) := by rw [eS2', VI_app]; rfl
            have lt := (ask ok hf hq1 ef free).2
            have rest := wh.resolve_left fun G => by
              have := great_no G
              rw [es] at this
              simp at this
            have el : ∃ tl, leftL ls hs q0 = o :: tl := by
              unfold fst at ef
              cases e : leftL ls hs q0 with
              | nil => rw [e] at ef; cases ef
              | cons b t => rw [e] at ef; cases ef; exact ⟨t, rfl⟩
            obtain ⟨tl, el⟩ := el
            refine iteF ?_
            obtain ⟨rows, c, er, ec, ev⟩ := l6d.at (leftA_get hq1)
            have ecv := ev.sq (K := K)
            rw [el] at ecv
            refine ⟨_, rfl, _, rfl, _, rfl, S, _, -1, .int (q0 : Nat), rfl, rfl, SqL.of eSL, atI_last _ _, r1, rows, (q0 : Int), _, rfl, rfl, SqT.of er, atI_nat ec, c, _, 0, .int (o : Nat), rfl, rfl, ecv, atI_nat (j := 0) rfl, gn ?_⟩
            dsimp only [List.set]
            refine ⟨_, rfl, _, rfl, _, rfl, slC ehd fun c1 He s1' e1' => ?_⟩
            refine ⟨_, rfl, _, rfl, S, _, -1, .int (q0 : Nat), rfl, rfl, SqL.of (s1' _ _ eSL), atI_last _ _, (by show 1 ≤ sizeLine; decide), fun u2 nu2 => ?_⟩
            have sb := same_upd (o := .tup [.int (q0 : Nat)]) nu2
            have hol : o < (VH hs).length := by rw [VH_len, ho.len]; exact oo.1
            have lt1 : (cutV (VH hs) none (some ((o : Nat) : Int))).length ≤ 100 := by
              rw [cut_take, List.length_take, VH_len, ho.len]
              omega
            refine catV (sb _ _ e1') upd_same (by simp; omega) fun c2' Hf s2' e2' => ?_
            have sdf := s1'.trans (sb.trans s2')
            refine ⟨_, rfl, _, rfl, _, _, rfl, rfl, _, rfl, ?_⟩
            dsimp only [L2.tNoPart]
            refine slC (sdf _ _ ehd) fun c3 Hg s3' e3' => ?_
            have lt3 : (cutV (VH hs) (some ((o : Nat) + 1 : Int)) none).length ≤ 100 := by
              rw [cut_drop, List.length_drop, VH_len, ho.len]
              omega
            refine catV (s3' _ _ e2') e3' (by simp; omega) fun c4 Hh s4' e4' => gn ?_
            have sdh := sdf.trans (s3'.trans s4')
            refine ⟨c4, hs.set o (some q0), _, _, _, _, rfl, s0d.trans sdh, ?_, (ask ok hf hq1 ef free).1, ask_top ok hf tp hq1 ef, .inr (by omega)⟩
            rw [e4', cut_take, cut_drop]
            congr 2
            have := set_cut (VH hs) o (V.int (q0 : Nat)) hol
            rw [List.append_assoc] at *
            unfold VH at this ⊢
            rw [List.map_set]
            exact this
      · rintro σ H4 ⟨hp, hs, y2, y3, y4, y5, rfl, s4, eh, hf, tp, wh⟩
        refine ⟨_, rfl, q hp hs _ (wh.resolve_right (by omega)) s4 eh⟩
end
end K14
namespace K14
open PySem PySem.Spec PyProof.Rows L2
/-- lists of numbers at these places -/
def LsR (H : Hp) (us : List Addr) (R : List (List Nat)) : Prop := us.length = R.length ∧ ∀ (j : Nat) (u : Addr) (r : List Nat), us[j]? = some u → R[j]? = some r → H u = some (.lst (VI r))
theorem LsR.same {H H' : Hp} {us : List Addr} {R : List (List Nat)} (t : LsR H us R) (s : Same H H') : LsR H' us R := ⟨t.1, fun j u r e1 e2 => s _ _ (t.2 j u r e1 e2)⟩
theorem LsR.put {H : Hp} {us : List Addr} {R : List (List Nat)} {p : Addr} {o : HO} (t : LsR H us R) (n : ∀ u ∈ us, u ≠ p) : LsR (upd H p o) us R := ⟨t.1, fun j u r e1 e2 => by rw [upd_ne (n u (List.mem_of_getElem? e1))]; exact t.2 j u r e1 e2⟩
theorem LsR.snoc {H : Hp} {us : List Addr} {R : List (List Nat)} {u : Addr} {r : List Nat} (t : LsR H us R) (e : H u = some (.lst (VI r))) : LsR H (us ++ [u]) (R ++ [r]) := by
  refine ⟨by rw [List.length_append, List.length_append, t.1]; rfl, fun i a s e1 e2 => ?_⟩
  by_cases c : i < us.length
  · rw [List.getElem?_append_left c] at e1
    rw [List.getElem?_append_left (by rw [← t.1]; exact c)] at e2
    exact t.2 i a s e1 e2
  · rw [List.getElem?_append_right (by omega)] at e1
    rw [List.getElem?_append_right (by have := t.1; omega)] at e2
    have h1 : i - us.length = 0 := by
      have := (List.getElem?_eq_some_iff.mp e1).1
      simp at this
      omega
    have h2 : i - R.length = 0 := by have := t.1; omega
    rw [h1] at e1
    rw [h2] at e2
    cases e1
    cases e2
    exact e
/-- the rings of those below i -/
def ringsK (bs : List (Option Nat)) (i : Nat) : List (List Nat) := ((List.range i).filter (isLst bs)).map fun p => ringL (gB bs) p (per bs p)
theorem ringsK_succ {bs : List (Option Nat)} {i : Nat} : ringsK bs (i + 1) = ringsK bs i ++ if isLst bs i then [ringL (gB bs) i (per bs i)] else [] := by
  unfold ringsK
  rw [List.range_succ, List.filter_append, List.map_append]
  congr 1
  cases h : isLst bs i with
  | true => simp [List.filter_cons, h]
  | false => simp [List.filter_cons, h]
theorem per_none {bs : List (Option Nat)} {p : Nat} (hp : p < bs.length) (cl : Clo bs) (h : ∀ k, 1 ≤ k → k ≤ bs.length → it (gB bs) k p ≠ p) : isLst bs p = false := by
  cases e : isLst bs p with
  | false => rfl
  | true =>
    exfalso
    have c := per_cyc (isLst_iff.mp e).1
    exact h _ c.one (c.le (cyc_lt cl hp c.one c.back)) c.back
def spLRings : Sp := fun vs H Q _ => ∃ (a t : Addr) (ls : List (List Nat)) (hs : List (Option Nat)), vs = [.ref a, .ref t] ∧ LX H a ls ∧ H t = some (.tup (VH hs)) ∧ HoldsOk ls hs ∧ Std ls hs ∧ ListsOk ls.length ls ∧ ls.length ≤ 60 ∧
  ∀ r us H', Same H H' → H r = none → H' r = some (.lst (us.map V.ref)) → (∀ u ∈ us, H u = none) → LsR H' us (ringsA (givA ls hs)) → Q (.ref r) H'
/-- what stands while rings are looked for -/
structure LRAt (ls : List (List Nat)) (hs : List (Option Nat)) (H H2 H' : Hp) (D : Addr) (us : List Addr) (i : Nat) : Prop where
  sm : Same H H'
  keep : ∀ b o, b ≠ D → H2 b = some o → H' b = some o
  eD : H' D = some (.lst (us.map V.ref))
  un : ∀ u ∈ us, u ≠ D ∧ H u = none
  lr : LsR H' us (ringsK (givA ls hs) i)
  ul : us.length ≤ i
theorem LRAt.next {ls : List (List Nat)} {hs : List (Option Nat)} {H H2 H3 H4 : Hp} {D : Addr} {us : List Addr} {i : Nat} (a : LRAt ls hs H H2 H3 D us i) (s : Same H3 H4) : LRAt ls hs H H2 H4 D us i :=
  ⟨a.sm.trans s, fun b o n e => s _ _ (a.keep b o n e), s _ _ a.eD, a.un, a.lr.same s, a.ul⟩
/-- a list of one's own is written -/
theorem LRAt.own {ls : List (List Nat)} {hs : List (Option Nat)} {H H2 H3 : Hp} {D C : Addr} {us : List Addr} {i : Nat} {o : HO} (a : LRAt ls hs H H2 H3 D us i) (nC : H2 C = none) (nC0 : H C = none) (nD : C ≠ D) (nu : ∀ u ∈ us, u ≠ C) : LRAt ls hs H H2 (upd H3 C o) D us i :=
  ⟨a.sm.fresh nC0, fun b x n e => by rw [upd_ne (ne_of_none e nC)]; exact a.keep b x n e, by rw [upd_ne (Ne.symm nD)]; exact a.eD, a.un, a.lr.put nu, a.ul⟩
theorem LT.keepD {H2 H' : Hp} {D r : Addr} {L : List (List Nat)} {ys : List V} (t : LT H2 r L) (eD : H2 D = some (.lst ys)) (k : ∀ b o, b ≠ D → H2 b = some o → H' b = some o) : LT H' r L := by
  obtain ⟨as, ea, al, rows⟩ := t
  refine ⟨as, k _ _ (fun z => by rw [z, eD] at ea; cases ea) ea, al, fun i a s e1 e2 => ?_⟩
  rcases rows i a s e1 e2 with e | ⟨o, d, c, e⟩
  · exact .inl (k _ _ (fun z => by rw [z, eD] at e; cases e) e)
  · exact .inr ⟨o, d, c, k _ _ (fun z => by rw [z, eD] at e; cases e) e⟩
theorem scLRings : FnScope ["lists", "holds", "left", "found", "person", "ring", "at", "turn"] ["lists", "holds"] (defScope sLRings) := ⟨rfl, rfl, rfl, by decide +kernel, rfl, by decide +kernel, by decide +kernel⟩
section
variable {P : Program} {w : World} {K : PySem.W.Frag} {mg : Str → Option Value} {base : Heap}
set_option maxHeartbeats 1000000 in
theorem ok_l_rings {f f1 : Addr} {fd d1 : FuncData} {k : Nat} (F : Fun K "_law_rings" "_law_rings" sLRings f fd) (Lf : Has P w K mg base k "_law_left" ["lists", "holds"] spLeft f1 d1) (ml : mg "len" = none) (mrg : mg "range" = none) (mmi : mg "min" = none) : FnOk P w K mg base CX0 (k + 1) f fd ["lists", "holds"] spLRings := by
  refine F.ok scLRings (fun vs H Q E h => ?_) (fun cdv A outer s H vs Q E hr h => ?_)
  · obtain ⟨a, t, ls, hs, rfl, _⟩ := h
    rfl
  · obtain ⟨a, t, ls, hs, rfl, lx, et, ho, st, ok, n60, q⟩ := h
    refine ⟨_, pss_cons (ps_par (i := 2) (j := 3) rfl scLRings.nd rfl rfl (by decide) rfl rfl (pa_cons (pe_call Lf.ok hr rfl Lf.m Lf.k Lf.b .nil pass0 (pa_cons (pv 0) (pa_cons (pv 1) pa_nil))) (pa_cons (pe_lst pa_nil) pa_nil)) (by rfl))
      (pss_cons (ps_for PassesOwn.never rfl (pi_range1 rfl mrg (pa_cons (pe_callB call_len_seq (by rfl) ml PySem.boot_len (pa_cons (pv 0) pa_nil)) pa_nil)) (pg_name (i := 4) scLRings.nd rfl (.inl rfl))
      (pss_cons (ps_par (i := 5) (j := 6) rfl scLRings.nd rfl rfl (by decide) rfl rfl (pa_cons (pe_lst pa_nil) (pa_cons (pv 4) pa_nil)) (by rfl))
      (pss_one (ps_if (pt_cmpR op_gt (pe_callB call_len_seq (by rfl) ml PySem.boot_len (pa_cons (pe_ix ix_tup (pv 2) (pv 4) (fun _ _ => rfl)) pa_nil)) pe_int (nomark _)) (pss_cons (ps_for PassesOwn.never rfl (pi_range1 rfl mrg (pa_cons (pe_callB call_len_seq (by rfl) ml PySem.boot_len (pa_cons (pv 0) pa_nil)) pa_nil)) (pg_name (i := 7) scLRings.nd rfl (.inl rfl))
      (pss_cons (ps_expr (pe_bm PySem.F.plainAttrs_list PySem.F.slot_list_append PySem.F.type_list_append mt_append (pv 5) (pa_cons (pv 6) pa_nil)))
      (pss_cons (ps_set (i := 6) scLRings.nd rfl (.inl rfl) (pe_ix ix_tup (pv 1) (pe_ix ix_tup (pe_ix ix_tup (pv 2) (pv 6) (fun _ _ => rfl)) pe_int (fun _ _ => rfl)) (fun _ _ => rfl)))
      (pss_one (ps_if (pt_cmpR op_eq (pv 6) (pv 4) (nomark _)) (pss_one ps_break) pss_nil)))))
      (pss_one (ps_if (PW.pt (pw_and (pt_cmpR op_eq (pv 6) (pv 4) (nomark _)) (pw_and1 (pt_cmpR op_eq (pe_callB (cr_min rfl) (by rfl) mmi (by decide +kernel) (pa_cons (pv 5) pa_nil)) (pv 4) (nomark _))))) (pss_one (ps_expr (pe_bm PySem.F.plainAttrs_list PySem.F.slot_list_append PySem.F.type_list_append mt_append (pv 3) (pa_cons (pv 5) pa_nil)))) pss_nil))) pss_nil))))
      (pss_one (ps_ret (pv 3)))), ?_⟩
    have gl : (givA ls hs).length = ls.length := givA_len
    have cl := giv_clo ok ho
    have G := giv_at ok ho st
    obtain ⟨xsl, eal, xll⟩ := lx.lt.len
    refine ⟨_, rfl, _, rfl, a, t, ls, hs, rfl, lx, et, ho, ok, by omega, fun lf H1 s1 llf => ?_⟩
    refine ⟨(by show 0 ≤ sizeLine; decide), fun D nD => ⟨_, _, rfl, ?_⟩⟩
    dsimp only [List.set, L2.start]
    have nD0 : H D = none := s1.free nD
    have s02 := s1.trans (same_upd (o := .lst []) nD)
    have eD2 := upd_same (H := H1) (a := D) (o := .lst [])
    have llf2 := llf.same (same_upd (o := .lst []) nD)
    generalize upd H1 D (.lst []) = H2 at s02 eD2 llf2
    obtain ⟨as, ea, al, rows⟩ := id llf2
    rw [leftA_len] at al
    refine ⟨_, rfl, a, _, rfl, .inr (SqT.of (s02 _ _ eal)), ?_⟩
    rw [xll]
    refine ⟨_, rfl, by omega, by omega, for_it (J := Itr 0 ls.length) (n := ls.length) walk_range0 (fun i σ H' => ∃ (y4 y5 y6 y7 : Option V) (us : List Addr), σ = [some (.ref a), some (.ref t), some (.ref lf), some (.ref D), y4, y5, y6, y7] ∧ LRAt ls hs H H2 H' D us i)
      ⟨none, none, none, none, [], rfl, s02, fun _ _ _ e => e, eD2, by simp, ⟨rfl, fun _ _ _ e => by cases e⟩, Nat.le_refl _⟩ (fun _ _ _ _ _ => trivial) ?_ ?_⟩
    · rintro i x σ H3' H3 hi ⟨y4, y5, y6, y7, us, rfl, at3⟩ ⟨rfl, rfl⟩
      refine gn ?_
      dsimp only [List.set]
      refine ⟨(by show 0 ≤ sizeLine; decide), fun C nC => ⟨_, rfl, _, _, rfl, ?_⟩⟩
      dsimp only [List.set]
      have nC0 : H C = none := at3.sm.free nC
      have nCD : C ≠ D := fun z => by rw [z, at3.eD] at nC; cases nC
      have nC2 : H2 C = none := by
        cases e : H2 C with
        | none => rfl
        | some o => rw [at3.keep C o nCD e] at nC; cases nC
      have nuC : ∀ u ∈ us, u ≠ C := fun u hu z => by
        obtain ⟨j, hj, ej⟩ := List.mem_iff_getElem.mp hu
        have := at3.lr.2 j u _ (by rw [List.getElem?_eq_getElem hj, ej]) (List.getElem?_eq_getElem (by rw [← at3.lr.1]; exact hj))
        rw [z, nC] at this
        cases this
      have at4 := at3.own (o := .lst []) nC2 nC0 nCD nuC
      have eC4 := upd_same (H := H3) (a := C) (o := .lst [])
      generalize upd H3 C (.lst []) = H4 at at4 eC4
      have llf4 := llf2.keepD eD2 at4.keep
      obtain ⟨as, ea, al, rows⟩ := id llf4
      rw [leftA_len] at al
      have row := fun (p : Nat) (hp : p < ls.length) => rows p as[p] (leftL ls hs p) (List.getElem?_eq_getElem (by omega)) (leftA_get hp)
      have asat : ∀ p, (hp : p < ls.length) → (as.map V.ref)[p]? = some (.ref as[p]) := fun p hp => by rw [List.getElem?_map, List.getElem?_eq_getElem (by omega)]; rfl
      refine ⟨_, rfl, _, rfl, lf, _, _, _, rfl, rfl, SqT.of ea, atI_nat (asat i hi), as[i], _, rfl, .inr (row i hi).sq, _, _, rfl, rfl, decide (1 < (leftL ls hs i).length), ?_, ?_⟩
      · refine congrArg V.bl ?_
        rw [VI_len, decide_eq_decide]
        omega
      refine ite2 (fun c => ?_) (fun c => ?_)
      · have c := of_decide_eq_true c
        have wy := way G hi (show 2 ≤ (leftL ls hs i).length by omega)
        refine seqcut (fun σ' H' => ∃ (j : Nat) (y7 : Option V), σ' = [some (.ref a), some (.ref t), some (.ref lf), some (.ref D), some (.int (i : Nat)), some (.ref C), some (.int (it (gF ls hs) j i : Nat)), y7] ∧ LRAt ls hs H H2 H' D us i ∧ H' C = some (.lst (VI (ringL (gF ls hs) i j))) ∧ (Cyc (gF ls hs) i j ∨ ((∀ k, 1 ≤ k → k ≤ ls.length → it (gF ls hs) k i ≠ i) ∧ it (gF ls hs) j i ≠ i))) ?_ (fun out => ?_)
        · rintro σ' H5 ⟨j, y7, rfl, at5, eC5, wh⟩
          refine ⟨_, rfl, _, rfl, rfl, decide (it (gF ls hs) j i = i), ?_, ?_⟩
          · refine congrArg V.bl ?_
            rw [decide_eq_decide]
            constructor
            · intro z
              have := V.int.inj z
              omega
            · intro z
              exact congrArg (fun n : Nat => V.int (n : Int)) z
          rcases wh with cy | ⟨no, nj⟩
          · rw [decide_eq_true cy.back]
            refine iteT ?_
            have pj : per (givA ls hs) i = j := cyc_per cy (cyc_lt cl (by rw [gl]; exact hi) cy.one cy.back)
            have jle : j ≤ ls.length := by
              have := cy.le (cyc_lt cl (by rw [gl]; exact hi) cy.one cy.back)
              rw [gl] at this
              exact this
            have eCi : H5 C = some (.lst (((ringL (gF ls hs) i j).map fun x => ((x : Nat) : Int)).map V.int)) := by rw [eC5, List.map_map]; rfl
            refine ⟨_, rfl, C, _, rfl, SqL.of eCi, by rw [List.length_map, ringL_len]; exact cy.one, fun mn hmn le => ?_⟩
            obtain ⟨m, hm, rfl⟩ := List.mem_map.mp hmn
            have lst : decide (m = i) = isLst (givA ls hs) i := by
              cases e : isLst (givA ls hs) i with
              | true =>
                have h1 := (isLst_iff.mp e).2
                rw [pj] at h1
                obtain ⟨k, hk, ek⟩ := ringL_mem.mp hm
                have h2 := h1 k hk
                have h3 := le _ (List.mem_map.mpr ⟨i, ringL_mem.mpr ⟨0, cy.one, rfl⟩, rfl⟩)
                have h4 : it (gF ls hs) k i = m := ek
                have h2' : i ≤ it (gF ls hs) k i := h2
                exact decide_eq_true (by omega)
              | false =>
                refine decide_eq_false fun z => ?_
                have : isLst (givA ls hs) i = true := isLst_iff.mpr ⟨by rw [pj]; have := cy.one; omega, fun k hk => by
                  rw [pj] at hk
                  have := le _ (List.mem_map.mpr ⟨_, ringL_mem.mpr ⟨k, hk, rfl⟩, rfl⟩)
                  have h2 : ((m : Nat) : Int) ≤ (it (gF ls hs) k i : Nat) := this
                  have h3 : i ≤ it (gF ls hs) k i := by omega
                  exact h3⟩
                rw [this] at e
                cases e
            refine ⟨_, rfl, rfl, decide (m = i), ?_, ?_⟩
            · refine congrArg V.bl ?_
              rw [decide_eq_decide]
              constructor
              · intro z
                have := V.int.inj z
                omega
              · intro z
                exact congrArg (fun n : Nat => V.int (n : Int)) z
            rw [lst]
            cases e : isLst (givA ls hs) i with
            | true =>
              refine iteT ?_
              refine ⟨_, rfl, .inl ⟨rfl, _, SqL.of at5.eD⟩, _, rfl, D, _, _, rfl, rfl, at5.eD, by rw [List.length_map]; exact sz6 (by have := at5.ul; omega), ?_⟩
              have unD : ∀ u ∈ us, u ≠ D := fun u hu => (at5.un u hu).1
              have eC7 : (upd H5 D (.lst (us.map V.ref ++ [.ref C]))) C = some (.lst (VI (ringL (gF ls hs) i j))) := by rw [upd_ne nCD]; exact eC5
              refine ⟨_, _, _, _, us ++ [C], rfl, at5.sm.fresh nD0, fun b o n e => by rw [upd_ne n]; exact at5.keep b o n e, by rw [upd_same, List.map_append]; rfl, fun u hu => ?_, ?_, by rw [List.length_append]; have := at5.ul; simp; omega⟩
              · rcases List.mem_append.mp hu with hu | hu
                · exact at5.un u hu
                · rw [List.mem_singleton] at hu
                  rw [hu]
                  exact ⟨nCD, nC0⟩
              · rw [ringsK_succ, e]
                have : (if true = true then [ringL (gB (givA ls hs)) i (per (givA ls hs) i)] else []) = [ringL (gF ls hs) i j] := by rw [if_pos rfl, pj]
                rw [this]
                exact (at5.lr.put unD).snoc eC7
            | false =>
              refine iteF ⟨_, _, _, _, us, rfl, at5.sm, at5.keep, at5.eD, at5.un, ?_, by have := at5.ul; omega⟩
              rw [ringsK_succ, e]
              simpa using at5.lr
          · rw [decide_eq_false nj]
            refine iteF ⟨_, _, _, _, us, rfl, at5.sm, at5.keep, at5.eD, at5.un, ?_, by have := at5.ul; omega⟩
            rw [ringsK_succ, per_none (by rw [gl]; exact hi) cl (by rw [gl]; exact no)]
            simpa using at5.lr
        · refine ⟨_, rfl, a, _, rfl, .inr (SqT.of (at4.sm _ _ eal)), ?_⟩
          rw [xll]
          refine ⟨_, rfl, by omega, by omega, for_it (J := Itr 0 ls.length) (n := ls.length) walk_range0 (fun j σ H' => ∃ y7 : Option V, σ = [some (.ref a), some (.ref t), some (.ref lf), some (.ref D), some (.int (i : Nat)), some (.ref C), some (.int (it (gF ls hs) j i : Nat)), y7] ∧ LRAt ls hs H H2 H' D us i ∧ H' C = some (.lst (VI (ringL (gF ls hs) i j))) ∧ ∀ k, 1 ≤ k → k ≤ j → it (gF ls hs) k i ≠ i)
            ⟨y7, rfl, at4, eC4, fun k k1 k2 => by omega⟩ (fun _ _ _ _ _ => trivial) ?_ ?_⟩
          · rintro j x σ H5' H5 hj ⟨y7, rfl, at5, eC5, no⟩ ⟨rfl, rfl⟩
            refine gn ?_
            dsimp only [List.set]
            obtain ⟨al1, al2⟩ := wy j
            have at6 := at5.own (o := .lst (VI (ringL (gF ls hs) i (j + 1)))) nC2 nC0 nCD nuC
            have e6 : VI (ringL (gF ls hs) i j) ++ [V.int (it (gF ls hs) j i : Nat)] = VI (ringL (gF ls hs) i (j + 1)) := by rw [ringL_succ, VI_app]; rfl
            refine ⟨_, rfl, .inl ⟨rfl, _, SqL.of eC5⟩, _, rfl, C, _, _, rfl, rfl, eC5, by rw [VI_len, ringL_len]; exact sz6 (by omega), ?_⟩
            rw [e6]
            have eC6 := upd_same (H := H5) (a := C) (o := .lst (VI (ringL (gF ls hs) i (j + 1))))
            generalize upd H5 C (.lst (VI (ringL (gF ls hs) i (j + 1)))) = H6 at at6 eC6
            have llf6 := llf2.keepD eD2 at6.keep
            obtain ⟨as6, ea6, al6, rows6⟩ := id llf6
            rw [leftA_len] at al6
            have GG := G _ al1 al2
            have e2 : (leftL ls hs (it (gF ls hs) j i))[1]? = some (sF ls hs (it (gF ls hs) j i)) := by
              unfold sF
              rw [List.getD_eq_getElem?_getD, List.getElem?_eq_getElem (by omega)]
              rfl
            have a6 : as6[it (gF ls hs) j i]? = some as6[it (gF ls hs) j i] := List.getElem?_eq_getElem (by omega)
            refine ⟨_, rfl, _, rfl, _, rfl, lf, _, _, _, rfl, rfl, SqT.of ea6, atI_nat (by rw [List.getElem?_map, a6]; rfl), as6[it (gF ls hs) j i], _, 1, _, rfl, rfl, (rows6 _ _ _ a6 (leftA_get al1)).sq, atI_nat (j := 1) (VI_get e2), t, _, _, _, rfl, rfl, SqT.of (at6.sm _ _ et), atI_nat (VH_get (ha_get (by rw [ho.len]; exact GG.sl))), gn ?_⟩
            dsimp only [List.set]
            rw [GG.held]
            have eq1 : gF ls hs (it (gF ls hs) j i) = it (gF ls hs) (j + 1) i := rfl
            rw [eq1]
            refine ⟨_, rfl, _, rfl, rfl, decide (it (gF ls hs) (j + 1) i = i), ?_, ?_⟩
            · refine congrArg V.bl ?_
              rw [decide_eq_decide]
              constructor
              · intro z
                have := V.int.inj z
                omega
              · intro z
                exact congrArg (fun n : Nat => V.int (n : Int)) z
            refine ite2 (fun e => ?_) (fun e => ?_)
            · have e := of_decide_eq_true e
              exact out _ _ ⟨j + 1, _, rfl, at6, eC6, .inl ⟨by omega, e, fun k k1 k2 => no k k1 (by omega)⟩⟩
            · have e : it (gF ls hs) (j + 1) i ≠ i := fun z => e (decide_eq_true z)
              refine ⟨_, rfl, at6, eC6, fun k k1 k2 => ?_⟩
              by_cases c9 : k = j + 1
              · rw [c9]; exact e
              · exact no k k1 (by omega)
          · rintro σ H5 ⟨y7, rfl, at5, eC5, no⟩
            exact out _ _ ⟨ls.length, y7, rfl, at5, eC5, .inr ⟨no, no _ (by omega) (Nat.le_refl _)⟩⟩
      · have c : ¬ 1 < (leftL ls hs i).length := fun z => c (decide_eq_true z)
        refine ⟨_, _, _, _, us, rfl, at4.sm, at4.keep, at4.eD, at4.un, ?_, by have := at4.ul; omega⟩
        have nol : isLst (givA ls hs) i = false := by
          cases e : isLst (givA ls hs) i with
          | false => rfl
          | true =>
            exfalso
            have := (orb_two ok ho hi (per_cyc (isLst_iff.mp e).1) 0).2
            exact c this
        rw [ringsK_succ, nol]
        simpa using at4.lr
    · rintro σ H3 ⟨y4, y5, y6, y7, us, rfl, at3⟩
      refine ⟨_, rfl, q D us H3 at3.sm nD0 at3.eD (fun u hu => (at3.un u hu).2) ?_⟩
      unfold ringsA
      rw [gl]
      exact at3.lr
end
end K14
namespace K14
open PySem PySem.Spec PyProof.Rows L2
/-- the ring and the holds that a law's helper is called with -/
structure RgAt (H : Hp) (a t u : Addr) (ls : List (List Nat)) (hs : List (Option Nat)) (p m : Nat) : Prop where
  lx : LX H a ls
  et : H t = some (.tup (VH hs))
  eu : H u = some (.lst (VI (ringL (gF ls hs) p m)))
  ho : HoldsOk ls hs
  st : Std ls hs
  ok : ListsOk ls.length ls
  n60 : ls.length ≤ 60
  hp : p < ls.length
  cy : Cyc (gF ls hs) p m
theorem RgAt.same {H H' : Hp} {a t u : Addr} {ls : List (List Nat)} {hs : List (Option Nat)} {p m : Nat} (r : RgAt H a t u ls hs p m) (s : Same H H') : RgAt H' a t u ls hs p m := ⟨r.lx.same s, s _ _ r.et, s _ _ r.eu, r.ho, r.st, r.ok, r.n60, r.hp, r.cy⟩
theorem RgAt.two {H : Hp} {a t u : Addr} {ls : List (List Nat)} {hs : List (Option Nat)} {p m : Nat} (r : RgAt H a t u ls hs p m) {x : Nat} (hx : x ∈ ringL (gF ls hs) p m) : x < ls.length ∧ 2 ≤ (leftL ls hs x).length := by
  obtain ⟨k, _, rfl⟩ := ringL_mem.mp hx
  exact orb_two r.ok r.ho r.hp r.cy k
theorem RgAt.len {H : Hp} {a t u : Addr} {ls : List (List Nat)} {hs : List (Option Nat)} {p m : Nat} (r : RgAt H a t u ls hs p m) : m ≤ 60 := Nat.le_trans (r.cy.le fun k => (orb_two r.ok r.ho r.hp r.cy k).1) r.n60
def spLTold : Sp := fun vs H Q _ => ∃ (a t u : Addr) (ls : List (List Nat)) (hs : List (Option Nat)) (p m : Nat), vs = [.ref a, .ref t, .ref u] ∧ RgAt H a t u ls hs p m ∧ ∀ c H', Same H H' → RP H' c (prs ls hs (ringL (gF ls hs) p m)) → Q (.ref c) H'
theorem scLTold : FnScope ["lists", "holds", "ring", "left", "giver"] ["lists", "holds", "ring"] (defScope sLTold) := ⟨rfl, rfl, rfl, by decide +kernel, rfl, by decide +kernel, by decide +kernel⟩
def spLIsOdd : Sp := fun vs H Q _ => ∃ (a t u : Addr) (ls : List (List Nat)) (hs : List (Option Nat)) (p m : Nat), vs = [.ref a, .ref t, .ref u] ∧ RgAt H a t u ls hs p m ∧ ∀ H', Same H H' → Q (.bl (oddB (leftA ls hs) (prs ls hs (ringL (gF ls hs) p m)))) H'
theorem scLIsOdd : FnScope ["lists", "holds", "ring", "left", "takers", "giver"] ["lists", "holds", "ring"] (defScope sLIsOdd) := ⟨rfl, rfl, rfl, by decide +kernel, rfl, by decide +kernel, by decide +kernel⟩
def spLTurned : Sp := fun vs H Q _ => ∃ (a t u : Addr) (ls : List (List Nat)) (hs : List (Option Nat)) (p m : Nat), vs = [.ref a, .ref t, .ref u] ∧ RgAt H a t u ls hs p m ∧ ∀ c hs' H', Same H H' → Past hs (prs ls hs (ringL (gF ls hs) p m)) hs' → H' c = some (.tup (VH hs')) → Q (.ref c) H'
theorem scLTurned : FnScope ["lists", "holds", "ring", "left", "found", "giver", "second"] ["lists", "holds", "ring"] (defScope sLTurned) := ⟨rfl, rfl, rfl, by decide +kernel, rfl, by decide +kernel, by decide +kernel⟩
def goodR (ls : List (List Nat)) (hs : List (Option Nat)) : List (List Nat) := (ringsA (givA ls hs)).filter fun r => !oddB (leftA ls hs) (prs ls hs r)
def spLGood : Sp := fun vs H Q _ => ∃ (a t : Addr) (ls : List (List Nat)) (hs : List (Option Nat)), vs = [.ref a, .ref t] ∧ LX H a ls ∧ H t = some (.tup (VH hs)) ∧ HoldsOk ls hs ∧ Std ls hs ∧ ListsOk ls.length ls ∧ ls.length ≤ 60 ∧
  ∀ r us H', Same H H' → H r = none → H' r = some (.lst (us.map V.ref)) → (∀ u ∈ us, H u = none) → LsR H' us (goodR ls hs) → Q (.ref r) H'
theorem scLGood : FnScope ["lists", "holds", "ring"] ["lists", "holds"] (defScope sLGood) := ⟨rfl, rfl, rfl, by decide +kernel, rfl, by decide +kernel, by decide +kernel⟩
theorem ringR {ls : List (List Nat)} {hs : List (Option Nat)} {r : List Nat} (h : r ∈ ringsA (givA ls hs)) : ∃ p m, p < ls.length ∧ Cyc (gF ls hs) p m ∧ r = ringL (gF ls hs) p m := by
  obtain ⟨p, m, hp, _, cy, e⟩ := ringsA_one h
  rw [givA_len] at hp
  exact ⟨p, m, hp, cy, e⟩
theorem VI_item {s : List Nat} {i : Nat} {x : V} (h : (VI s)[i]? = some x) (hi : i < s.length) : x = .int ((s.getD i 0 : Nat) : Int) ∧ s[i]? = some (s.getD i 0) := by
  have e : s[i]? = some (s.getD i 0) := by rw [List.getD_eq_getElem?_getD, List.getElem?_eq_getElem hi]; rfl
  have := VI_get e
  rw [this] at h
  exact ⟨(Option.some.inj h).symm, e⟩
theorem map_getD {α β : Type} (xs : List α) (d : α) (f : α → β) : ((List.range xs.length).map fun i => f (xs.getD i d)) = xs.map f := by
  apply List.ext_getElem?
  intro i
  rw [List.getElem?_map, List.getElem?_map]
  by_cases c : i < xs.length
  · rw [List.getElem?_range c, List.getElem?_eq_getElem c]
    show some (f (xs.getD i d)) = some (f xs[i])
    rw [List.getD_eq_getElem?_getD, List.getElem?_eq_getElem c]
    rfl
  · rw [List.getElem?_eq_none (by simp; omega), List.getElem?_eq_none (by omega)]
    rfl
section
variable {P : Program} {w : World} {K : PySem.W.Frag} {mg : Str → Option Value} {base : Heap}
theorem ok_l_told {f f1 : Addr} {fd d1 : FuncData} {k : Nat} (F : Fun K "_law_told" "_law_told" sLTold f fd) (Lf : Has P w K mg base k "_law_left" ["lists", "holds"] spLeft f1 d1) (mt : mg "tuple" = none) : FnOk P w K mg base CX0 (k + 1) f fd ["lists", "holds", "ring"] spLTold := by
  refine F.ok scLTold (fun vs H Q E h => ?_) (fun cdv A outer s H vs Q E hr h => ?_)
  · obtain ⟨a, t, u, ls, hs, p, m, rfl, _⟩ := h
    rfl
  · obtain ⟨a, t, u, ls, hs, p, m, rfl, R, q⟩ := h
    refine ⟨_, pss_cons (ps_set (i := 3) scLTold.nd rfl (.inr rfl) (pe_call Lf.ok hr rfl Lf.m Lf.k Lf.b .nil pass0 (pa_cons (pv 0) (pa_cons (pv 1) pa_nil))))
      (pss_one (ps_ret (pe_callTy call_tuple_of (by rfl) mt (by decide +kernel) (pa_cons (pe_lc (own := [("giver", 4)]) (g := gName 4) (tt := tYes) (te := tTup (tCons (tVar 4) (tCons (tOp (rIxT K) (tOp (rIxT K) (tVar 3) (tVar 4)) (tC (.int 0))) tNil))) rfl scLTold.nd (pi_list (pv 2))
          (blkOk_by (own := [("giver", 4)]) (N := ["lists", "holds", "ring", "left", "giver"]) (sc := defScope sLTold) (by decide +kernel)) (fun _ _ _ _ _ => (pg_name (i := 4) scLTold.nd rfl (Or.inl rfl))) (fun _ _ _ _ _ => pts_nil)
          (fun _ _ _ _ _ => (pe_tup (pa_cons (pv 4) (pa_cons (pe_ix ix_tup (pe_ix ix_tup (pv 3) (pv 4) (fun _ _ => rfl)) pe_int (fun _ _ => rfl)) pa_nil))))) pa_nil)))), ?_⟩
    have n60 := R.n60
    have rl := R.len
    refine ⟨_, rfl, _, rfl, a, t, ls, hs, rfl, R.lx, R.et, R.ho, R.ok, by omega, fun lf H1 s1 llf => gn ?_⟩
    dsimp only [List.set, L2.start]
    obtain ⟨as, ea, al, rows⟩ := id llf
    rw [leftA_len] at al
    have eu1 := s1 _ _ R.eu
    refine ⟨_, rfl, u, rfl, ⟨_, SqL.of eu1⟩, fun D nD => ?_⟩
    refine lc_rows (walk_list (K := K) (a := u) (xs := VI (ringL (gF ls hs) p m))) (by rw [VI_len, ringL_len]; omega) (fun i => VI [(ringL (gF ls hs) p m).getD i 0, (leftL ls hs ((ringL (gF ls hs) p m).getD i 0)).headD 0]) nD (fun _ sm => SqL.of (sm _ _ eu1)) ?_ ?_
    · rintro i x Ha Hb Z out hi sm ⟨rfl, ex⟩
      rw [VI_len] at hi
      obtain ⟨rfl, er⟩ := VI_item ex hi
      obtain ⟨yl, y2⟩ := R.two (List.mem_of_getElem? er)
      generalize (ringL (gF ls hs) p m).getD i 0 = y at er yl y2 out
      have ay : as[y]? = some as[y] := List.getElem?_eq_getElem (by omega)
      have ey := (rows y _ _ ay (leftA_get yl)).same sm
      refine gn ⟨rfl, _, rfl, _, rfl, _, rfl, lf, _, _, _, rfl, rfl, SqT.of (sm _ _ ea), atI_nat (by rw [List.getElem?_map, ay]; rfl), as[y], _, 0, _, rfl, rfl, ey.sq, atI_nat (j := 0) (VI_get (by rw [← List.head?_eq_getElem?]; exact head_some (by omega))), (by show 2 ≤ sizeLine; decide), fun p np => out p _ (same_upd np) upd_same⟩
    · intro rs H2 sm eD rl2 rws
      rw [VI_len] at rl2
      refine ⟨D, _, rfl, .inl ⟨SqL.of eD, fun c nc => q c _ ((s1.trans sm).fresh ((s1.trans sm).free nc)) ⟨rs, upd_same, ?_, fun j v x e1 e2 => ?_⟩⟩⟩
      · unfold prs
        rw [rl2, List.length_map]
      · unfold prs at e2
        rw [List.getElem?_map] at e2
        cases e : (ringL (gF ls hs) p m)[j]? with
        | none => rw [e] at e2; cases e2
        | some y =>
          rw [e] at e2
          cases e2
          have := rws j v e1
          rw [show (ringL (gF ls hs) p m).getD j 0 = y by rw [List.getD_eq_getElem?_getD, e]; rfl] at this
          exact ofN nc this
theorem ok_l_is_odd {f f1 : Addr} {fd d1 : FuncData} {k : Nat} (F : Fun K "_law_is_odd" "_law_is_odd" sLIsOdd f fd) (Lf : Has P w K mg base k "_law_left" ["lists", "holds"] spLeft f1 d1) (ml : mg "len" = none) (ma : mg "all" = none) : FnOk P w K mg base CX0 (k + 1) f fd ["lists", "holds", "ring"] spLIsOdd := by
  refine F.ok scLIsOdd (fun vs H Q E h => ?_) (fun cdv A outer s H vs Q E hr h => ?_)
  · obtain ⟨a, t, u, ls, hs, p, m, rfl, _⟩ := h
    rfl
  · obtain ⟨a, t, u, ls, hs, p, m, rfl, R, q⟩ := h
    refine ⟨_, pss_cons (ps_set (i := 3) scLIsOdd.nd rfl (.inr rfl) (pe_call Lf.ok hr rfl Lf.m Lf.k Lf.b .nil pass0 (pa_cons (pv 0) (pa_cons (pv 1) pa_nil))))
      (pss_cons (ps_set (i := 4) scLIsOdd.nd rfl (.inr rfl) (pe_lc (own := [("giver", 5)]) (g := gName 5) (tt := tYes) (te := tOp (rIxT K) (tOp (rIxT K) (tVar 3) (tVar 5)) (tC (.int 0))) rfl scLIsOdd.nd (pi_list (pv 2))
          (blkOk_by (own := [("giver", 5)]) (N := ["lists", "holds", "ring", "left", "takers", "giver"]) (sc := defScope sLIsOdd) (by decide +kernel)) (fun _ _ _ _ _ => (pg_name (i := 5) scLIsOdd.nd rfl (Or.inl rfl))) (fun _ _ _ _ _ => pts_nil)
          (fun _ _ _ _ _ => (pe_ix ix_tup (pe_ix ix_tup (pv 3) (pv 5) (fun _ _ => rfl)) pe_int (fun _ _ => rfl)))))
      (pss_one (ps_ret (pe_callB (cr_all rfl) (by rfl) ma (by decide +kernel) (pa_cons (pe_lc (own := [("giver", 5)]) (g := gName 5) (tt := tYes) (te := tAndV (tOp (rIn K false) (tVar 5) (tVar 4)) (tOp rEq (tCB (rLen K) (tCons (tOp (rIxT K) (tVar 3) (tVar 5)) tNil)) (tC (.int 2)))) rfl scLIsOdd.nd (pi_list (pv 2))
          (blkOk_by (own := [("giver", 5)]) (N := ["lists", "holds", "ring", "left", "takers", "giver"]) (sc := defScope sLIsOdd) (by decide +kernel)) (fun _ _ _ _ _ => (pg_name (i := 5) scLIsOdd.nd rfl (Or.inl rfl))) (fun _ _ _ _ _ => pts_nil)
          (fun _ _ _ _ _ => (pe_and (pe_cmpR op_in_seq (pv 5) (pv 4) (by rfl)) (pe_one (pe_cmpR op_eq (pe_callB call_len_seq (by rfl) ml PySem.boot_len (pa_cons (pe_ix ix_tup (pv 3) (pv 5) (fun _ _ => rfl)) pa_nil)) pe_int (nomark _)))))) pa_nil))))), ?_⟩
    have n60 := R.n60
    have rl := R.len
    refine ⟨_, rfl, _, rfl, a, t, ls, hs, rfl, R.lx, R.et, R.ho, R.ok, by omega, fun lf H1 s1 llf => gn ?_⟩
    dsimp only [List.set, L2.start]
    obtain ⟨as, ea, al, rows⟩ := id llf
    rw [leftA_len] at al
    have eu1 := s1 _ _ R.eu
    have ro := fun x (hx : x ∈ ringL (gF ls hs) p m) => R.two hx
    generalize hrg : ringL (gF ls hs) p m = rg at eu1 ro q
    have rgl : rg.length ≤ 60 := by rw [← hrg, ringL_len]; exact rl
    refine ⟨_, rfl, u, rfl, ⟨_, SqL.of eu1⟩, fun D nD => ?_⟩
    refine lc_same (walk_list (K := K) (a := u) (xs := VI rg)) (by rw [VI_len]; omega) (fun i => .int ((leftL ls hs (rg.getD i 0)).headD 0 : Nat)) nD (fun _ sm => SqL.of (sm _ _ eu1)) ?_ ?_
    · rintro i x Ha Hb Z out hi sm ⟨rfl, ex⟩
      rw [VI_len] at hi
      obtain ⟨rfl, er⟩ := VI_item ex hi
      obtain ⟨yl, y2⟩ := ro _ (List.mem_of_getElem? er)
      generalize rg.getD i 0 = y at er yl y2 out
      have ay : as[y]? = some as[y] := List.getElem?_eq_getElem (by omega)
      have ey := (rows y _ _ ay (leftA_get yl)).same sm
      exact gn ⟨rfl, _, rfl, _, rfl, lf, _, _, _, rfl, rfl, SqT.of (sm _ _ ea), atI_nat (by rw [List.getElem?_map, ay]; rfl), as[y], _, 0, _, rfl, rfl, ey.sq, atI_nat (j := 0) (VI_get (by rw [← List.head?_eq_getElem?]; exact head_some (by omega))), out _ same_rfl⟩
    · intro H2 s2 eD
      have eD' : H2 D = some (.lst (VI ((prs ls hs rg).map Prod.snd))) := by
        rw [eD, VI_len]
        have := map_getD rg 0 fun y => V.int ((leftL ls hs y).headD 0 : Nat)
        rw [this]
        unfold prs VI
        rw [List.map_map, List.map_map]
        rfl
      refine gn ?_
      dsimp only [List.set]
      have ea2 := s2 _ _ ea
      refine ⟨_, rfl, u, rfl, ⟨_, SqL.of (s2 _ _ eu1)⟩, fun D2 nD2 => ?_⟩
      refine lc_same (walk_list (K := K) (a := u) (xs := VI rg)) (by rw [VI_len]; omega) (fun i => .bl (decide (rg.getD i 0 ∈ (prs ls hs rg).map Prod.snd) && decide ((la (leftA ls hs) (rg.getD i 0)).length = 2))) nD2 (fun _ sm => SqL.of (sm _ _ (s2 _ _ eu1))) ?_ ?_
      · rintro i x Ha Hb Z out hi sm ⟨rfl, ex⟩
        rw [VI_len] at hi
        obtain ⟨rfl, er⟩ := VI_item ex hi
        obtain ⟨yl, y2⟩ := ro _ (List.mem_of_getElem? er)
        generalize rg.getD i 0 = y at er yl y2 out
        have ay : as[y]? = some as[y] := List.getElem?_eq_getElem (by omega)
        have ey := ((rows y _ _ ay (leftA_get yl)).same s2).same sm
        refine gn ⟨rfl, _, rfl, _, rfl, D, _, rfl, .inl (SqL.of (sm _ _ eD')), rfl, flat_VI _, ?_⟩
        show ∃ c, V.bl (inV (.int (y : Nat)) (VI ((prs ls hs rg).map Prod.snd))) = .bl c ∧ _
        rw [inV_VI]
        refine ⟨_, rfl, ?_⟩
        have o2 := out _ same_rfl
        by_cases c : y ∈ (prs ls hs rg).map Prod.snd
        · rw [decide_eq_true c, Bool.true_and] at o2
          rw [decide_eq_true c]
          refine iteT ?_
          refine ⟨_, rfl, _, rfl, lf, _, _, _, rfl, rfl, SqT.of (sm _ _ ea2), atI_nat (by rw [List.getElem?_map, ay]; rfl), as[y], _, rfl, .inr ey.sq, ?_⟩
          refine ⟨rfl, ?_⟩
          have : decide (V.int ((VI (leftL ls hs y)).length : Nat) = V.int 2) = decide ((la (leftA ls hs) y).length = 2) := by
            rw [VI_len, la_leftA yl, decide_eq_decide]
            constructor
            · intro z
              have := V.int.inj z
              omega
            · intro z
              rw [z]
              rfl
          rw [this]
          exact o2
        · rw [decide_eq_false c, Bool.false_and] at o2
          rw [decide_eq_false c]
          exact iteF o2
      · intro H3 s3 eD3
        refine ⟨D2, rg.map fun y => decide (y ∈ (prs ls hs rg).map Prod.snd) && decide ((la (leftA ls hs) y).length = 2), rfl, SqL.of ?_, ?_⟩
        · rw [eD3, VI_len, List.map_map]
          exact congrArg (fun z => some (HO.lst z)) (map_getD rg 0 fun y => V.bl (decide (y ∈ (prs ls hs rg).map Prod.snd) && decide ((la (leftA ls hs) y).length = 2)))
        · have : (rg.map fun y => decide (y ∈ (prs ls hs rg).map Prod.snd) && decide ((la (leftA ls hs) y).length = 2)).all id = oddB (leftA ls hs) (prs ls hs rg) := by
            unfold oddB
            rw [List.all_map]
            conv => rhs; unfold prs
            rw [List.all_map]
            rfl
          rw [this]
          exact q _ ((s1.trans s2).trans s3)
theorem ok_l_turned {f f1 : Addr} {fd d1 : FuncData} {k : Nat} (F : Fun K "_law_turned" "_law_turned" sLTurned f fd) (Lf : Has P w K mg base k "_law_left" ["lists", "holds"] spLeft f1 d1) (mli : mg "list" = none) (mt : mg "tuple" = none) : FnOk P w K mg base CX0 (k + 1) f fd ["lists", "holds", "ring"] spLTurned := by
  refine F.ok scLTurned (fun vs H Q E h => ?_) (fun cdv A outer s H vs Q E hr h => ?_)
  · obtain ⟨a, t, u, ls, hs, p, m, rfl, _⟩ := h
    rfl
  · obtain ⟨a, t, u, ls, hs, p, m, rfl, R, q⟩ := h
    refine ⟨_, pss_cons (ps_par (i := 3) (j := 4) rfl scLTurned.nd rfl rfl (by decide) rfl rfl (pa_cons (pe_call Lf.ok hr rfl Lf.m Lf.k Lf.b .nil pass0 (pa_cons (pv 0) (pa_cons (pv 1) pa_nil))) (pa_cons (pe_callTy call_list_of (by rfl) mli (by decide +kernel) (pa_cons (pv 1) pa_nil)) pa_nil)) (by rfl))
      (pss_cons (ps_for PassesOwn.never rfl (pi_list (pv 2)) (pg_name (i := 5) scLTurned.nd rfl (.inl rfl))
      (pss_cons (ps_set (i := 6) scLTurned.nd rfl (.inl rfl) (pe_ix ix_tup (pe_ix ix_tup (pv 3) (pv 5) (fun _ _ => rfl)) pe_int (fun _ _ => rfl)))
      (pss_one (ps_asg (pv 5) (pg_sub (pv 4) (pv 6) set_list)))))
      (pss_one (ps_ret (pe_callTy call_tuple_of (by rfl) mt (by decide +kernel) (pa_cons (pv 4) pa_nil))))), ?_⟩
    have n60 := R.n60
    have rl := R.len
    have G := giv_at R.ok R.ho R.st
    have two := orb_two R.ok R.ho R.hp R.cy
    refine ⟨_, rfl, _, rfl, a, t, ls, hs, rfl, R.lx, R.et, R.ho, R.ok, by omega, fun lf H1 s1 llf => ?_⟩
    obtain ⟨as, ea, al, rows⟩ := id llf
    rw [leftA_len] at al
    refine ⟨_, rfl, t, _, rfl, .inr (SqT.of (s1 _ _ R.et)), fun D nD => ⟨_, _, rfl, ?_⟩⟩
    dsimp only [List.set, L2.start]
    have nD0 := s1.free nD
    have sD := same_upd (o := .lst (VH hs)) nD
    have eu1 := sD _ _ (s1 _ _ R.eu)
    refine ⟨_, rfl, u, rfl, ⟨_, SqL.of eu1⟩, ?_⟩
    refine for_it (walk_list (K := K) (a := u) (xs := VI (ringL (gF ls hs) p m))) (fun i σ H' => ∃ (y5 y6 : Option V) (hs' : List (Option Nat)), σ = [some (.ref a), some (.ref t), some (.ref u), some (.ref lf), some (.ref D), y5, y6] ∧ Same H1 H' ∧ H' D = some (.lst (VH hs')) ∧ hs'.length = hs.length ∧ (∀ j, j < i → ha hs' (sF ls hs (it (gF ls hs) j p)) = some (it (gF ls hs) j p)) ∧ ∀ y, (∀ j, j < i → sF ls hs (it (gF ls hs) j p) ≠ y) → ha hs' y = ha hs y)
      ⟨none, none, hs, rfl, sD, upd_same, rfl, fun j h => absurd h (Nat.not_lt_zero _), fun _ _ => rfl⟩ (fun i σ H' _ ⟨_, _, _, _, sm, _⟩ => SqL.of (sm _ _ (s1 _ _ R.eu))) ?_ ?_
    · rintro i x σ H2 H3 hi ⟨y5, y6, hs', rfl, sm, eD, hl, yes, no⟩ ⟨rfl, ex⟩
      rw [VI_len, ringL_len] at hi
      have ey := VI_get (ringL_at (g := gF ls hs) (p := p) hi)
      rw [ey] at ex
      cases ex
      obtain ⟨yl, y2⟩ := two i
      have GG := G _ yl y2
      have e2 : (leftL ls hs (it (gF ls hs) i p))[1]? = some (sF ls hs (it (gF ls hs) i p)) := by
        unfold sF
        rw [List.getD_eq_getElem?_getD, List.getElem?_eq_getElem (by omega)]
        rfl
      have ay : as[it (gF ls hs) i p]? = some as[it (gF ls hs) i p] := List.getElem?_eq_getElem (by omega)
      refine gn ?_
      dsimp only [List.set]
      refine ⟨_, rfl, _, rfl, lf, _, _, _, rfl, rfl, SqT.of (sm _ _ ea), atI_nat (by rw [List.getElem?_map, ay]; rfl), as[it (gF ls hs) i p], _, 1, _, rfl, rfl, ((rows _ _ _ ay (leftA_get yl)).same sm).sq, atI_nat (j := 1) (VI_get e2), gn ?_⟩
      dsimp only [List.set]
      have sl : sF ls hs (it (gF ls hs) i p) < hs'.length := by rw [hl, R.ho.len]; exact GG.sl
      refine ⟨_, rfl, _, rfl, _, rfl, D, _, ((sF ls hs (it (gF ls hs) i p) : Nat) : Int), sF ls hs (it (gF ls hs) i p), rfl, rfl, eD, by unfold VH; rw [List.length_map]; exact ixN_nat sl, ?_⟩
      refine ⟨_, _, hs'.set (sF ls hs (it (gF ls hs) i p)) (some (it (gF ls hs) i p)), rfl, sm.fresh nD, ?_, by rw [List.length_set, hl], fun j hj => ?_, fun y hy => ?_⟩
      · rw [upd_same]
        unfold VH
        rw [List.map_set]
        rfl
      · rw [ha_set sl]
        by_cases c : j = i
        · subst c
          rw [if_pos rfl]
        · rw [if_neg fun z => ?_]
          · exact yes j (by omega)
          · -- unlike seconds
            obtain ⟨zl, z2⟩ := two j
            have GJ := G _ zl z2
            have h1 := GG.held
            have h2 := GJ.held
            rw [z, h1] at h2
            have h3 : it (gF ls hs) (i + 1) p = it (gF ls hs) (j + 1) p := Option.some.inj h2
            have := orb_inj R.cy.one R.cy.back _ _ ⟨i, rfl⟩ ⟨j, rfl⟩ h3
            exact R.cy.inj (i := j) (j := i) hi (by omega) this.symm
      · rw [ha_set sl, if_neg fun z => hy i (by omega) z.symm]
        exact no y fun j hj => hy j (by omega)
    · rintro σ H2 ⟨y5, y6, hs', rfl, sm, eD, hl, yes, no⟩
      rw [VI_len, ringL_len] at yes no
      have pl : (prs ls hs (ringL (gF ls hs) p m)).length = m := by unfold prs; rw [List.length_map, ringL_len]
      have pat : ∀ k x, (prs ls hs (ringL (gF ls hs) p m))[k]? = some x → k < m ∧ x = (it (gF ls hs) k p, (leftL ls hs (it (gF ls hs) k p)).headD 0) := fun k x e => by
        have hk : k < m := by rw [← pl]; exact (List.getElem?_eq_some_iff.mp e).1
        unfold prs at e
        rw [List.getElem?_map, ringL_at hk] at e
        exact ⟨hk, (Option.some.inj e).symm⟩
      have tk := fun k => (takers R.ok R.ho R.st R.hp R.cy k).1
      have past : Past hs (prs ls hs (ringL (gF ls hs) p m)) hs' := by
        refine ⟨hl, fun k x y e1 e2 => ?_, fun z hz => no z fun j hj e => ?_⟩
        · rw [pl] at e2
          obtain ⟨hk, rfl⟩ := pat k x e1
          obtain ⟨hk2, rfl⟩ := pat _ y e2
          show ha hs' ((leftL ls hs (it (gF ls hs) k p)).headD 0) = some (it (gF ls hs) ((k + m - 1) % m) p)
          have one := R.cy.one
          cases k with
          | zero =>
            have e0 : (0 + m - 1) % m = m - 1 := by rw [Nat.zero_add, Nat.mod_eq_of_lt (by omega)]
            rw [e0]
            have := tk (m - 1)
            rw [show m - 1 + 1 = m by omega, R.cy.back] at this
            show ha hs' ((leftL ls hs p).headD 0) = _
            rw [this]
            exact yes (m - 1) (by omega)
          | succ k =>
            have e0 : (k + 1 + m - 1) % m = k := by rw [show k + 1 + m - 1 = k + m by omega, Nat.add_mod_right, Nat.mod_eq_of_lt (by omega)]
            rw [e0, tk k]
            exact yes k (by omega)
        · obtain ⟨n, hn⟩ : ∃ n, m = n + 1 := ⟨m - 1, by have := R.cy.one; omega⟩
          by_cases c : j + 1 < m
          · refine hz (it (gF ls hs) (j + 1) p, (leftL ls hs (it (gF ls hs) (j + 1) p)).headD 0) (List.mem_map.mpr ⟨_, ringL_mem.mpr ⟨j + 1, c, rfl⟩, rfl⟩) ?_
            rw [← e]
            exact tk j
          · have ej : j + 1 = m := by omega
            refine hz (p, (leftL ls hs p).headD 0) (List.mem_map.mpr ⟨_, ringL_mem.mpr ⟨0, R.cy.one, rfl⟩, rfl⟩) ?_
            rw [← e]
            have := tk j
            rw [ej, R.cy.back] at this
            exact this
      refine ⟨_, rfl, D, _, rfl, .inl ⟨SqL.of eD, fun c nc => q c hs' _ ((s1.trans sm).fresh ((s1.trans sm).free nc)) past upd_same⟩⟩
theorem ok_l_good {f f1 f2 : Addr} {fd d1 d2 : FuncData} {k : Nat} (F : Fun K "_law_good" "_law_good" sLGood f fd) (Rg : Has P w K mg base k "_law_rings" ["lists", "holds"] spLRings f1 d1) (Io : Has P w K mg base k "_law_is_odd" ["lists", "holds", "ring"] spLIsOdd f2 d2) : FnOk P w K mg base CX0 (k + 1) f fd ["lists", "holds"] spLGood := by
  refine F.ok scLGood (fun vs H Q E h => ?_) (fun cdv A outer s H vs Q E hr h => ?_)
  · obtain ⟨a, t, ls, hs, rfl, _⟩ := h
    rfl
  · obtain ⟨a, t, ls, hs, rfl, lx, et, ho, st, ok, n60, q⟩ := h
    refine ⟨_, pss_one (ps_ret (pe_lc (own := [("ring", 2)]) (g := gName 2) (tt := tNot (tB (tCall spLIsOdd [] E0 (tCons (tVar 0) (tCons (tVar 1) (tCons (tVar 2) tNil)))))) (te := tVar 2) rfl scLGood.nd (pi_list (pe_call Rg.ok hr rfl Rg.m Rg.k Rg.b .nil pass0 (pa_cons (pv 0) (pa_cons (pv 1) pa_nil))))
          (blkOk_by (own := [("ring", 2)]) (N := ["lists", "holds", "ring"]) (sc := defScope sLGood) (by decide +kernel)) (fun _ _ _ _ _ => (pg_name (i := 2) scLGood.nd rfl (Or.inl rfl))) (fun _ _ _ _ _ => (pts_one (pt_not (pt_val (pe_call Io.ok hr rfl Io.m Io.k Io.b .nil pass0 (pa_cons (pv 0) (pa_cons (pv 1) (pa_cons (pv 2) pa_nil))))))))
          (fun _ _ _ _ _ => (pv 2)))), ?_⟩
    refine ⟨_, rfl, _, rfl, a, t, ls, hs, rfl, lx, et, ho, st, ok, n60, fun r us H1 s1 nr er un lr => ?_⟩
    have ul := lr.1
    have rl : (ringsA (givA ls hs)).length ≤ 60 := by
      unfold ringsA
      rw [List.length_map]
      refine Nat.le_trans (List.length_filter_le _ _) ?_
      rw [List.length_range, givA_len]
      exact n60
    refine ⟨r, rfl, ⟨_, SqL.of er⟩, fun D nD => ?_⟩
    refine lc_pick (walk_list (K := K) (a := r) (xs := us.map V.ref)) (by rw [List.length_map]; omega) (fun i => !oddB (leftA ls hs) (prs ls hs ((ringsA (givA ls hs)).getD i []))) (fun i => .ref (us.getD i default)) nD (fun _ sm => SqL.of (sm _ _ er)) ?_ ?_
    · rintro i x Ha Hb R Z yes' no' hi sm ⟨rfl, ex⟩
      rw [List.length_map] at hi
      have eu : us[i]? = some us[i] := List.getElem?_eq_getElem hi
      rw [List.getElem?_map, eu] at ex
      cases ex
      obtain ⟨rg, ep⟩ : ∃ rg, (ringsA (givA ls hs))[i]? = some rg := ⟨_, List.getElem?_eq_getElem (by omega)⟩
      have eR := sm _ _ (lr.2 i _ _ eu ep)
      rw [show (ringsA (givA ls hs)).getD i [] = rg by rw [List.getD_eq_getElem?_getD, ep]; rfl] at yes' no'
      rw [show us.getD i default = us[i] by rw [List.getD_eq_getElem?_getD, eu]; rfl] at yes'
      obtain ⟨p, m, hp, cy, rfl⟩ := ringR (List.mem_of_getElem? ep)
      refine gn ⟨rfl, _, rfl, _, rfl, _, rfl, a, t, us[i], ls, hs, p, m, rfl, ⟨(lx.same s1).same sm, sm _ _ (s1 _ _ et), eR, ho, st, ok, n60, hp, cy⟩, fun H3 s3 => ⟨_, rfl, ?_⟩⟩
      cases hb : oddB (leftA ls hs) (prs ls hs (ringL (gF ls hs) p m)) with
      | true => exact iteF (no' _ s3 (by rw [hb]; rfl))
      | false => exact iteT ⟨_, rfl, yes' _ s3 (by rw [hb]; rfl)⟩
    · intro H3 s3 eD
      have s13 := s1.trans s3
      rw [List.length_map] at eD
      have sf := sel_filter (ringsA (givA ls hs)) fun r => !oddB (leftA ls hs) (prs ls hs r)
      have hd : (default : List Nat) = [] := rfl
      rw [hd] at sf
      refine q D (((List.range us.length).filter fun i => !oddB (leftA ls hs) (prs ls hs ((ringsA (givA ls hs)).getD i []))).map fun i => us.getD i default) _ s13 (s1.free nD) (by rw [eD, List.map_map]; rfl) (fun u hu => ?_) ⟨?_, fun j u rg e1 e2 => ?_⟩
      · obtain ⟨i, hi, rfl⟩ := List.mem_map.mp hu
        have hi := List.mem_range.mp (List.mem_filter.mp hi).1
        rw [List.getD_eq_getElem?_getD, List.getElem?_eq_getElem hi]
        exact un _ (List.getElem_mem hi)
      · unfold goodR
        rw [← sf, List.length_map, List.length_map, ul]
      · unfold goodR at e2
        rw [← sf, List.getElem?_map] at e2
        rw [List.getElem?_map, ul] at e1
        cases e3 : ((List.range (ringsA (givA ls hs)).length).filter fun i => !oddB (leftA ls hs) (prs ls hs ((ringsA (givA ls hs)).getD i [])))[j]? with
        | none => rw [e3] at e1; cases e1
        | some i =>
          rw [e3] at e1 e2
          cases e1
          cases e2
          have hi := List.mem_range.mp (List.mem_filter.mp (List.mem_of_getElem? e3)).1
          have eu : us[i]? = some us[i] := List.getElem?_eq_getElem (by omega)
          have ep : (ringsA (givA ls hs))[i]? = some (ringsA (givA ls hs))[i] := List.getElem?_eq_getElem hi
          have q1 : us.getD i default = us[i] := by rw [List.getD_eq_getElem?_getD, eu]; rfl
          have q2 : (ringsA (givA ls hs)).getD i [] = (ringsA (givA ls hs))[i] := by rw [List.getD_eq_getElem?_getD, ep]; rfl
          show H3 (us.getD i default) = some (.lst (VI ((ringsA (givA ls hs)).getD i [])))
          rw [q1, q2]
          exact s3 _ _ (lr.2 i _ _ eu ep)
end
end K14
namespace K14
open PySem PySem.Spec PyProof.Rows L2
section
variable {ls : List (List Nat)} {hs hs' : List (Option Nat)} (ok : ListsOk ls.length ls)
include ok in
/-- the holds behind a ring are the holds turned out -/
theorem past_eq (ho : HoldsOk ls hs) (st : Std ls hs) {p m : Nat} (hp : p < ls.length) (c : Cyc (gF ls hs) p m) (R : Rng ls hs (sF ls hs) (gF ls hs) (Orb (gF ls hs) p)) (P : Past hs (prs ls hs (ringL (gF ls hs) p m)) hs') : hs' = outOf ls hs (sF ls hs) (Orb (gF ls hs) p) := by
  have h1 := past_out ok ho st hp c R P
  have l2 : (outOf ls hs (sF ls hs) (Orb (gF ls hs) p)).length = ls.length := (turn_full ok ho st R).1.len
  apply List.ext_getElem?
  intro y
  by_cases hy : y < ls.length
  · rw [ha_get (by rw [P.len, ho.len]; exact hy), ha_get (by rw [l2]; exact hy), h1 y hy]
  · rw [List.getElem?_eq_none (by rw [P.len, ho.len]; omega), List.getElem?_eq_none (by rw [l2]; omega)]
include ok in
theorem past_std (ho : HoldsOk ls hs) (st : Std ls hs) {p m : Nat} (hp : p < ls.length) (c : Cyc (gF ls hs) p m) (R : Rng ls hs (sF ls hs) (gF ls hs) (Orb (gF ls hs) p)) (P : Past hs (prs ls hs (ringL (gF ls hs) p m)) hs') : Std ls hs' := by
  rw [past_eq ok ho st hp c R P]
  exact (turn_full ok ho st R).2.1
/-! ### odd rings -/
/-- what the document says of them -/
structure OddRing (ls : List (List Nat)) (hs : List (Option Nat)) (p m : Nat) : Prop where
  two : ∀ k, (leftL ls hs (it (gF ls hs) k p)).length = 2
  odd : m % 2 = 1
  three : 3 ≤ m
  /-- the first one of a person has it as its second one -/
  back : ∀ k, ∃ j, fst ls hs (it (gF ls hs) k p) = some (it (gF ls hs) j p) ∧ sF ls hs (it (gF ls hs) j p) = it (gF ls hs) k p
  held : ∀ k, ha hs (it (gF ls hs) k p) = some (sF ls hs (it (gF ls hs) k p))
  twice : ∀ k, it (gF ls hs) k p = it (sF ls hs) (2 * k) p
/-- s as a map of a ring: it goes round -/
theorem it_two {s g : Nat → Nat} {p : Nat} (h : ∀ k, s (s (it g k p)) = g (it g k p)) : ∀ k, it g k p = it s (2 * k) p
  | 0 => rfl
  | k + 1 => by
    rw [it_one, ← h k, it_two h k, show 2 * (k + 1) = 2 * k + 1 + 1 by omega, it_one, it_one]
include ok in
theorem odd_ring (ho : HoldsOk ls hs) (st : Std ls hs) {p m : Nat} (hp : p < ls.length) (c : Cyc (gF ls hs) p m) (odd : OddX ls hs (sF ls hs) (Orb (gF ls hs) p)) : OddRing ls hs p m := by
  have two := orb_two ok ho hp c
  have G := fun k => giv_at ok ho st _ (two k).1 (two k).2
  have hl := fun k => (odd _ ⟨k, rfl⟩).2
  -- the second one is of the ring
  have lt : ∀ k, ∃ n, n < m ∧ it (gF ls hs) k p = it (gF ls hs) n p := fun k => ⟨k % m, Nat.mod_lt _ c.one, by conv => lhs; rw [← Nat.mod_add_div k m, it_add, Nat.mul_comm, turns_all c.back]⟩
  have sinj : ∀ i j, sF ls hs (it (gF ls hs) i p) = sF ls hs (it (gF ls hs) j p) → it (gF ls hs) i p = it (gF ls hs) j p := fun i j e => by
    have h1 := (G i).held
    have h2 := (G j).held
    rw [e, h2] at h1
    exact (orb_inj c.one c.back _ _ ⟨j, rfl⟩ ⟨i, rfl⟩ (Option.some.inj h1)).symm
  have son : ∀ k, ∃ j, sF ls hs (it (gF ls hs) k p) = it (gF ls hs) j p := by
    -- as many seconds as persons, and all persons are seconds
    have nd1 : ((ringL (gF ls hs) p m).map (sF ls hs)).Nodup := by
      unfold ringL
      rw [List.map_map]
      refine List.pairwise_map.mpr (List.Pairwise.imp_of_mem ?_ (List.pairwise_lt_range (n := m)))
      intro i j _ hj ij e
      exact c.inj (List.mem_range.mp hj) ij (sinj i j e)
    have nd0 : (ringL (gF ls hs) p m).Nodup := by
      unfold ringL
      refine List.pairwise_map.mpr (List.Pairwise.imp_of_mem ?_ (List.pairwise_lt_range (n := m)))
      intro i j _ hj ij e
      exact c.inj (List.mem_range.mp hj) ij e
    have sub : ∀ x ∈ ringL (gF ls hs) p m, x ∈ (ringL (gF ls hs) p m).map (sF ls hs) := fun x hx => by
      obtain ⟨k, hk, rfl⟩ := ringL_mem.mp hx
      obtain ⟨w, ⟨j, rfl⟩, e⟩ := (odd _ ⟨k, rfl⟩).1
      obtain ⟨n, hn, en⟩ := lt j
      rw [en] at e
      exact List.mem_map.mpr ⟨_, ringL_mem.mpr ⟨n, hn, rfl⟩, e⟩
    intro k
    obtain ⟨n, hn, en⟩ := lt k
    rw [en]
    refine Classical.byContradiction fun no => ?_
    have h := nodup_sub_len (s := sF ls hs (it (gF ls hs) n p) :: ringL (gF ls hs) p m) (t := (ringL (gF ls hs) p m).map (sF ls hs)) (List.nodup_cons.mpr ⟨fun z => by
      obtain ⟨j, _, e⟩ := ringL_mem.mp z
      exact no ⟨j, e.symm⟩, nd0⟩) fun x hx => by
      rcases List.mem_cons.mp hx with rfl | hx
      · exact List.mem_map.mpr ⟨_, ringL_mem.mpr ⟨n, hn, rfl⟩, rfl⟩
      · exact sub x hx
    rw [List.length_cons, List.length_map] at h
    omega
  -- the last one left is the second one
  have held : ∀ k, ha hs (it (gF ls hs) k p) = some (sF ls hs (it (gF ls hs) k p)) := fun k => by
    have h1 := last_held ok ho st (two k).1
    have h2 := hl k
    have h3 : (leftL ls hs (it (gF ls hs) k p)).getLast? = (leftL ls hs (it (gF ls hs) k p))[1]? := by
      rw [List.getLast?_eq_getElem?, h2]
    rw [← h1, h3]
    unfold sF
    rw [List.getD_eq_getElem?_getD, List.getElem?_eq_getElem (by omega)]
    rfl
  have ss : ∀ k, sF ls hs (sF ls hs (it (gF ls hs) k p)) = gF ls hs (it (gF ls hs) k p) := fun k => by
    obtain ⟨j, e⟩ := son k
    have h1 := (G k).held
    rw [e, held j] at h1
    rw [e]
    exact Option.some.inj h1
  have two' := it_two ss
  have all : ∀ n, ∃ k, it (sF ls hs) n p = it (gF ls hs) k p := by
    intro n
    induction n with
    | zero => exact ⟨0, rfl⟩
    | succ n ih =>
      obtain ⟨k, e⟩ := ih
      obtain ⟨j, e2⟩ := son k
      exact ⟨j, by rw [it_one, e, e2]⟩
  have sinj2 : ∀ i j, it (sF ls hs) (i + 1) p = it (sF ls hs) (j + 1) p → it (sF ls hs) i p = it (sF ls hs) j p := fun i j e => by
    rw [it_one, it_one] at e
    obtain ⟨a, ea⟩ := all i
    obtain ⟨b, eb⟩ := all j
    rw [ea, eb] at e
    rw [ea, eb]
    exact sinj a b e
  have canc : ∀ a n, it (sF ls hs) (n + a) p = it (sF ls hs) a p → it (sF ls hs) n p = p := by
    intro a
    induction a with
    | zero => intro n e; exact e
    | succ a ih =>
      intro n e
      exact ih n (sinj2 _ _ e)
  have nes : ∀ k, sF ls hs (it (gF ls hs) k p) ≠ it (gF ls hs) k p := fun k e => by
    have := (G k).ps
    rw [e] at this
    have h := ((mem_left ok (two k).1).mp this).1
    exact (ok.mate (two k).1 h).2.1 rfl
  -- an odd number of steps leads back
  obtain ⟨r, rodd, hr⟩ : ∃ r, r % 2 = 1 ∧ it (sF ls hs) r p = p := by
    obtain ⟨j, e⟩ := son 0
    have e' : it (sF ls hs) 1 p = it (sF ls hs) (2 * j) p := by
      rw [← two' j]
      exact e
    have j0 : j ≠ 0 := fun z => by
      rw [z] at e
      exact nes 0 e
    refine ⟨2 * j - 1, by omega, ?_⟩
    refine canc 1 (2 * j - 1) ?_
    rw [show 2 * j - 1 + 1 = 2 * j by omega]
    exact e'.symm
  have r1 : 1 ≤ r := by omega
  obtain ⟨d, cd⟩ := cyc_ex r r (Nat.le_refl _) r1 hr
  have mod0 : ∀ n, it (sF ls hs) n p = p → n % d = 0 := fun n e => by
    have e2 : it (sF ls hs) (n % d) p = p := by
      rw [← Nat.mod_add_div n d, it_add, Nat.mul_comm, turns_all cd.back] at e
      exact e
    have l := Nat.mod_lt n cd.one
    refine Classical.byContradiction fun z => ?_
    exact cd.least _ (by omega) l e2
  have dodd : d % 2 = 1 := by
    have h1 := mod0 r hr
    have h2 : r = d * (r / d) := by have := Nat.mod_add_div r d; omega
    rcases Nat.mod_two_eq_zero_or_one d with h | h
    · exfalso
      have : r % 2 = 0 := by rw [h2, Nat.mul_mod, h]; simp
      omega
    · exact h
  -- the ring has just so many
  have md : m = d := by
    have c2 : Cyc (gF ls hs) p d := by
      refine ⟨cd.one, ?_, fun k k1 k2 e => ?_⟩
      · rw [two' d, Nat.mul_comm, Nat.mul_two, it_add, cd.back, cd.back]
      · rw [two' k] at e
        have h := mod0 _ e
        -- d odd, divides 2k
        have h2 : 2 * k = d * (2 * k / d) := by have := Nat.mod_add_div (2 * k) d; omega
        have h3 : (2 * k / d) % 2 = 0 := by
          rcases Nat.mod_two_eq_zero_or_one (2 * k / d) with h | h
          · exact h
          · exfalso
            have : (2 * k) % 2 = 1 := by rw [h2, Nat.mul_mod, h, dodd]
            omega
        obtain ⟨n, hn⟩ : ∃ n, 2 * k / d = 2 * n := ⟨2 * k / d / 2, by omega⟩
        rw [hn] at h2
        have h4 : k = d * n := by
          have : 2 * k = 2 * (d * n) := by rw [h2, Nat.mul_left_comm]
          omega
        rcases Nat.eq_zero_or_pos n with n0 | n0
        · rw [n0] at h4
          omega
        · have := Nat.le_mul_of_pos_right d n0
          omega
    exact c.uniq c2
  refine ⟨hl, by rw [md]; exact dodd, ?_, fun k => ?_, held, two'⟩
  · have m1 : m ≠ 1 := fun z => by
      have h := c.back
      rw [z] at h
      have h2 : it (sF ls hs) 2 p = p := by
        have := two' 1
        rw [h] at this
        exact this.symm
      have h3 : it (sF ls hs) 1 p = p := by
        have e1 := mod0 2 h2
        rw [← md, z] at e1
        have hd := cd.back
        rw [← md, z] at hd
        exact hd
      exact nes 0 h3
    have : m % 2 = 1 := by rw [md]; exact dodd
    omega
  · -- the one ahead
    obtain ⟨n, hn, en⟩ := lt k
    have one := c.one
    obtain ⟨i, hi⟩ : ∃ i, it (gF ls hs) k p = it (gF ls hs) (i + 1) p := by
      refine ⟨k + m - 1, ?_⟩
      rw [show k + m - 1 + 1 = k + m by omega, it_add, c.back]
    obtain ⟨j, hj⟩ := son i
    refine ⟨j, ?_, ?_⟩
    · rw [hi, ← hj]
      exact (G i).fq
    · rw [← hj, ss i, hi]
      rfl
end
end K14
namespace K14
open PySem PySem.Spec PyProof.Rows L2
/-- tuples of holds at these places -/
def HsT (H : Hp) (us : List Addr) (hss : List (List (Option Nat))) : Prop := us.length = hss.length ∧ ∀ (j : Nat) (u : Addr) (r : List (Option Nat)), us[j]? = some u → hss[j]? = some r → H u = some (.tup (VH r))
theorem HsT.same {H H' : Hp} {us : List Addr} {hss : List (List (Option Nat))} (t : HsT H us hss) (s : Same H H') : HsT H' us hss := ⟨t.1, fun j u r e1 e2 => s _ _ (t.2 j u r e1 e2)⟩
theorem HsT.bar {H H' : Hp} {h l : Addr} {us : List Addr} {hss : List (List (Option Nat))} (t : HsT H us hss) (s : Src H h l) (b : Bar h l H H') : HsT H' us hss := ⟨t.1, fun j u r e1 e2 => tup_bar s b (t.2 j u r e1 e2)⟩
theorem HsT.at {H : Hp} {us : List Addr} {hss : List (List (Option Nat))} {j : Nat} {x : V} (t : HsT H us hss) (e : (us.map V.ref)[j]? = some x) : ∃ u r, x = .ref u ∧ hss[j]? = some r ∧ H u = some (.tup (VH r)) := by
  rw [List.getElem?_map] at e
  cases h : us[j]? with
  | none => rw [h] at e; cases e
  | some u =>
    rw [h] at e
    have hj := (List.getElem?_eq_some_iff.mp h).1
    have hr : j < hss.length := by rw [← t.1]; exact hj
    exact ⟨u, hss[j], (Option.some.inj e).symm, List.getElem?_eq_getElem hr, t.2 j u _ h (List.getElem?_eq_getElem hr)⟩
def spSteadies : Sp := fun vs H Q _ => ∃ (a : Addr) (ls : List (List Nat)), vs = [.ref a] ∧ LX H a ls ∧ Few ls ∧ ListsOk ls.length ls ∧ ∀ (r : Addr) (us : List Addr) (rows : List (List Nat)) H', Same H H' → H r = none → H' r = some (.lst (us.map V.ref)) → HsT H' us (rows.map befs) → rows.length ≤ 7776 → rows.Sublist (parts ls ls.length) → (∀ row, row ∈ rows ↔ row ∈ parts ls ls.length ∧ Fits ls row (nxts row)) → Q (.ref r) H'
section
variable {P : Program} {w : World} {K : PySem.W.Frag} {mg : Str → Option Value} {base : Heap}
end
end K14
namespace K14
open PySem PySem.Spec PyProof.Rows L2
def spSome : Sp := fun vs H Q _ => ∃ (h l z : Addr) (ns : List Nat), vs = [.ref h, .ref z] ∧ Src H h l ∧ H z = some (.lst (VI ns)) ∧ z ≠ h ∧ z ≠ l ∧ ns ≠ [] ∧ ns.length < 10000 ∧ (∀ n ∈ ns, 1 ≤ n ∧ n ≤ 26) ∧
  ∀ (r : Addr) (ls : List (List Nat)) (H' : Hp), Src H' h l → Bar h l H H' → LX H' r ls → ListsOk ls.length ls → 1 ≤ ls.length → ls.length ≤ 26 → Q (.ref r) H'
theorem scSome : FnScope ["heap", "sizes", "many", "share"] ["heap", "sizes"] (defScope sLSomeLists) := ⟨rfl, rfl, rfl, by decide +kernel, rfl, by decide +kernel, by decide +kernel⟩
/-! ### lists of lists as data -/
def dLL (R : List (List Nat)) : PyData := .list (R.map dLi)
theorem lay_dLi (s : List Nat) : PyData.canLay0 (dLi s) = true ∧ PyData.depth (dLi s) ≤ 2 := by
  unfold dLi
  constructor
  · simp only [PyData.canLay0]
    refine layAll fun x hx => ?_
    obtain ⟨j, _, rfl⟩ := List.mem_map.mp hx
    rfl
  · simp only [PyData.depth]
    have := depAll (xs := s.map fun j => PyData.int (j : Nat)) (d := 1) fun x hx => by
      obtain ⟨j, _, rfl⟩ := List.mem_map.mp hx
      simp [PyData.depth]
    omega
theorem sh_dLL (R : List (List Nat)) : SeqAt.shaped (dLL R) = true := by
  unfold dLL
  refine shaped_of ?_ ?_
  · simp only [PyData.canLay0]
    refine layAll fun x hx => ?_
    obtain ⟨j, _, rfl⟩ := List.mem_map.mp hx
    exact (lay_dLi j).1
  · simp only [PyData.depth]
    have := depAll (xs := R.map dLi) (d := 2) fun x hx => by
      obtain ⟨j, _, rfl⟩ := List.mem_map.mp hx
      exact (lay_dLi j).2
    omega
theorem dpAll_of {K : PySem.W.Frag} {H : Hp} {α : Type} (d : α → PyData) : ∀ (us : List Addr) (R : List α), us.length = R.length → (∀ (j : Nat) (u : Addr) (x : α), us[j]? = some u → R[j]? = some x → Dp K H (.ref u) (d x)) → DpAll K H (us.map V.ref) (R.map d)
  | [], [], _, _ => .nil
  | [], _ :: _, h, _ => by cases h
  | _ :: _, [], h, _ => by cases h
  | u :: us, x :: R, h, q => .cons (q 0 u x rfl rfl) (dpAll_of d us R (by simpa using h) fun j u x e1 e2 => q (j + 1) u x e1 e2)
theorem dp_dLL {K : PySem.W.Frag} {H : Hp} {r : Addr} {us : List Addr} {R : List (List Nat)} (e : H r = some (.lst (us.map V.ref))) (t : LsR H us R) : Dp K H (.ref r) (dLL R) :=
  .lst (SqL.of e) (dpAll_of _ us R t.1 fun j u r e1 e2 => dp_dLi (t.2 j u r e1 e2))
theorem eqv_dLL_nil (R : List (List Nat)) : PyData.eqv (dLL R) (.list []) = R.isEmpty := by
  cases R with
  | nil => decide
  | cons a t => simp [dLL, PyData.eqv, PyData.eqvAll]
theorem HsT.put {H : Hp} {us : List Addr} {R : List (List (Option Nat))} {p : Addr} {o o' : HO} (t : HsT H us R) (e : H p = some o) (n1 : ∀ ys, o ≠ .tup ys) : HsT (upd H p o') us R :=
  ⟨t.1, fun i a s e1 e2 => by
    have h := t.2 i a s e1 e2
    rw [upd_ne fun z => by rw [z, e] at h; exact n1 _ (Option.some.inj h)]
    exact h⟩
theorem HsT.snoc {H : Hp} {us : List Addr} {R : List (List (Option Nat))} {u : Addr} {r : List (Option Nat)} (t : HsT H us R) (e : H u = some (.tup (VH r))) : HsT H (us ++ [u]) (R ++ [r]) := by
  refine ⟨by rw [List.length_append, List.length_append, t.1]; rfl, fun i a s e1 e2 => ?_⟩
  by_cases c : i < us.length
  · rw [List.getElem?_append_left c] at e1
    rw [List.getElem?_append_left (by rw [← t.1]; exact c)] at e2
    exact t.2 i a s e1 e2
  · rw [List.getElem?_append_right (by omega)] at e1
    rw [List.getElem?_append_right (by have := t.1; omega)] at e2
    have h1 : i - us.length = 0 := by
      have := (List.getElem?_eq_some_iff.mp e1).1
      simp at this
      omega
    have h2 : i - R.length = 0 := by have := t.1; omega
    rw [h1] at e1
    rw [h2] at e2
    cases e1
    cases e2
    exact e
/-- lists all of which have some length: their sum -/
theorem sum_lens (ls : List (List Nat)) (b : Nat) (h : ∀ p, p < ls.length → (la ls p).length ≤ b) : ∀ n, n ≤ ls.length → ∃ N : Nat, ((List.range n).map fun p => ((la ls p).length : Int)).sum = (N : Nat) ∧ N ≤ n * b
  | 0, _ => ⟨0, rfl, Nat.zero_le _⟩
  | n + 1, hn => by
    obtain ⟨N, e, le⟩ := sum_lens ls b h n (by omega)
    refine ⟨N + (la ls n).length, ?_, ?_⟩
    · rw [List.range_succ, List.map_append, List.sum_append, e]
      simp
    · have := h n (by omega)
      rw [Nat.succ_mul]
      omega
def spStages : Sp := fun vs H Q _ => ∃ (h l a : Addr) (ls : List (List Nat)), vs = [.ref h, .ref a] ∧ Src H h l ∧ LX H a ls ∧ ListsOk ls.length ls ∧ 1 ≤ ls.length ∧ ls.length ≤ 26 ∧
  ∀ (r F U : Addr) (us : List Addr) (hss : List (List (Option Nat))) (H' : Hp), Src H' h l → Bar h l H H' → H' r = some (.lst [.ref F, .ref U]) → H' F = some (.lst (us.map V.ref)) → F ≠ h → F ≠ l → HsT H' us hss → 1 ≤ us.length → us.length ≤ 2000 → (∀ S ∈ hss, HoldsOk ls S ∧ Std ls S) → Q (.ref r) H'
theorem scStages : FnScope ["heap", "lists", "found", "row", "turn", "rings", "ring", "some"] ["heap", "lists"] (defScope sLStages) := ⟨rfl, rfl, rfl, by decide +kernel, rfl, by decide +kernel, by decide +kernel⟩
/-- what stands while rings are turned -/
structure StAt (ls : List (List Nat)) (h l : Addr) (H H' : Hp) (F U : Addr) (us : List Addr) (u : Addr) (hss : List (List (Option Nat))) (S : List (Option Nat)) (xs : List V) (i : Nat) : Prop where
  src : Src H' h l
  bar : Bar h l H H'
  eF : H' F = some (.lst ((us ++ [u]).map V.ref))
  eU : H' U = some (.lst xs)
  nF : H F = none
  nU : H U = none
  ne : F ≠ U
  ht : HsT H' (us ++ [u]) (hss ++ [S])
  all : ∀ S' ∈ hss ++ [S], HoldsOk ls S' ∧ Std ls S'
  xl : xs.length ≤ i
  ul : us.length ≤ i
section
variable {P : Program} {w : World} {K : PySem.W.Frag} {mg : Str → Option Value} {base : Heap}
theorem ok_some {f f1 f2 f3 f4 : Addr} {fd d1 d2 d3 d4 : FuncData} {k : Nat} (F : Fun K "_law_some_lists" "_law_some_lists" sLSomeLists f fd) (Pk : Has P w K mg base k "_law_pick" ["heap", "some"] spPick f1 d1) (Dr : Has P w K mg base k "_law_draw" ["heap", "many"] spDraw f2 d2) (Rd : Has P w K mg base k "_law_round" ["heap", "many"] spRound f3 d3)
    (Ls : Has P w K mg base k "_law_lists" ["heap", "many", "share"] spLists f4 d4) : FnOk P w K mg base CX0 (k + 1) f fd ["heap", "sizes"] spSome := by
  refine F.ok scSome (fun vs H Q E h => ?_) (fun cdv A outer s H vs Q E hr h => ?_)
  · obtain ⟨h, l, z, ns, rfl, _⟩ := h
    rfl
  · obtain ⟨h, l, z, ns, rfl, src, ez, zh, zl, ne, n4, all, q⟩ := h
    refine ⟨_, pss_cons (ps_par (i := 2) (j := 3) rfl scSome.nd rfl rfl (by decide) rfl rfl (pa_cons (pe_call Pk.ok hr rfl Pk.m Pk.k Pk.b .nil pass0 (pa_cons (pv 0) (pa_cons (pv 1) pa_nil))) (pa_cons (pe_call Pk.ok hr rfl Pk.m Pk.k Pk.b .nil pass0 (pa_cons (pv 0) (pa_cons (pe_lst (pa_cons pe_int (pa_cons pe_int (pa_cons pe_int (pa_cons pe_int (pa_cons pe_int pa_nil)))))) pa_nil))) pa_nil)) (by rfl))
      (pss_one (ps_ret (pe_ifExp (pt_cmpR op_eq (pe_call Dr.ok hr rfl Dr.m Dr.k Dr.b .nil pass0 (pa_cons (pv 0) (pa_cons pe_int pa_nil))) pe_int (nomark _)) (pe_call Rd.ok hr rfl Rd.m Rd.k Rd.b .nil pass0 (pa_cons (pv 0) (pa_cons (pe_call Pk.ok hr rfl Pk.m Pk.k Pk.b .nil pass0 (pa_cons (pv 0) (pa_cons (pe_lst (pa_cons pe_int (pa_cons pe_int pa_nil))) pa_nil))) pa_nil))) (pe_call Ls.ok hr rfl Ls.m Ls.k Ls.b .nil pass0 (pa_cons (pv 0) (pa_cons (pv 2) (pa_cons (pv 3) pa_nil))))))), ?_⟩
    have s0 : 0 < (VI ns).length := by
      rw [VI_len]
      exact List.length_pos_iff.mpr ne
    refine ⟨_, rfl, _, rfl, h, l, z, _, rfl, src, .inl ez, zh, zl, s0, by rw [VI_len]; exact n4, fun j y H1 hy sr1 br1 => ?_⟩
    obtain ⟨many, em, rfl⟩ := VI_at hy
    obtain ⟨m1, m26⟩ := all many (List.mem_of_getElem? em)
    refine ⟨_, rfl, (by show 5 ≤ sizeLine; decide), fun v nv => ?_⟩
    obtain ⟨nvh, nvl⟩ := sr1.new nv
    refine ⟨h, l, v, _, rfl, sr1.updn nv, .inl upd_same, nvh, nvl, by simp, by simp, fun j' y' H2 hy' sr2 br2 => ⟨_, _, rfl, ?_⟩⟩
    obtain ⟨sh, rfl, sh0, sh1⟩ : ∃ sh : Int, y' = .int sh ∧ 0 < sh ∧ sh < 1000 := by
      match j', hy' with
      | 0, hy' => exact ⟨4, (Option.some.inj hy').symm, by decide, by decide⟩
      | 1, hy' => exact ⟨9, (Option.some.inj hy').symm, by decide, by decide⟩
      | 2, hy' => exact ⟨99, (Option.some.inj hy').symm, by decide, by decide⟩
      | 3, hy' => exact ⟨99, (Option.some.inj hy').symm, by decide, by decide⟩
      | 4, hy' => exact ⟨2, (Option.some.inj hy').symm, by decide, by decide⟩
    dsimp only [List.set, L2.start]
    have b2 : Bar h l H H2 := br1.trans ((Bar.same (same_upd nv)).trans br2)
    refine ⟨_, rfl, h, l, 3, rfl, sr2, by decide, by decide, fun d H3 d0 d3 sr3 br3 => ⟨rfl, _, rfl, ?_⟩⟩
    have b3 := b2.trans br3
    refine ite2 (fun c => ?_) (fun c => ?_)
    · refine ⟨_, rfl, _, rfl, (by show 2 ≤ sizeLine; decide), fun v3 nv3 => ?_⟩
      obtain ⟨nvh3, nvl3⟩ := sr3.new nv3
      refine ⟨h, l, v3, _, rfl, sr3.updn nv3, .inl upd_same, nvh3, nvl3, by simp, by simp, fun j3 y3 H4 hy3 sr4 br4 => ?_⟩
      obtain ⟨m3, rfl, hm3⟩ : ∃ m3 : Nat, y3 = .int (m3 : Nat) ∧ (m3 = 4 ∨ m3 = 6) := by
        match j3, hy3 with
        | 0, hy3 => exact ⟨4, (Option.some.inj hy3).symm, .inl rfl⟩
        | 1, hy3 => exact ⟨6, (Option.some.inj hy3).symm, .inr rfl⟩
      exact ⟨h, l, m3, rfl, sr4, hm3, fun r3 ls3 H5 sr5 br5 nr3 lx5 ll3 ok3 pm3 => q r3 ls3 H5 sr5 (b3.trans ((Bar.same (same_upd nv3)).trans (br4.trans br5))) lx5 ok3 (by omega) (by omega)⟩
    · exact ⟨_, rfl, _, rfl, _, rfl, h, l, many, sh, rfl, sr3, by omega, sh0, sh1, fun r ls H4 ok sr4 br4 na lx4 => q r ls H4 sr4 (b3.trans br4) lx4 (by rw [ok.len]; exact ok) (by rw [ok.len]; exact m1) (by rw [ok.len]; exact m26)⟩
set_option maxHeartbeats 1000000 in
theorem ok_stages {f f1 f2 f3 f4 f5 : Addr} {fd d1 d2 d3 d4 d5 : FuncData} {k : Nat} (F : Fun K "_law_stages" "_law_stages" sLStages f fd) (Pk : Has P w K mg base k "_law_pick" ["heap", "some"] spPick f1 d1) (Ou : Has P w K mg base k "_law_out" ["lists"] spOut f2 d2) (Go : Has P w K mg base k "_law_good" ["lists", "holds"] spLGood f3 d3)
    (Te : Has P w K mg base k "_law_told" ["lists", "holds", "ring"] spLTold f4 d4) (Tu : Has P w K mg base k "_law_turned" ["lists", "holds", "ring"] spLTurned f5 d5) (ml : mg "len" = none) (mrg : mg "range" = none) (msu : mg "sum" = none) (mt : mg "tuple" = none) : FnOk P w K mg base CX0 (k + 1) f fd ["heap", "lists"] spStages := by
  refine F.ok scStages (fun vs H Q E h => ?_) (fun cdv A outer s H vs Q E hr h => ?_)
  · obtain ⟨h, l, a, ls, rfl, _⟩ := h
    rfl
  · obtain ⟨h, l, a, ls, rfl, src, lx, ok, n1, n26, q⟩ := h
    refine ⟨_, pss_cons (ps_par (i := 2) (j := 3) rfl scStages.nd rfl rfl (by decide) rfl rfl (pa_cons (pe_lst (pa_cons (pe_call Ou.ok hr rfl Ou.m Ou.k Ou.b .nil pass0 (pa_cons (pv 1) pa_nil)) pa_nil)) (pa_cons (pe_lst pa_nil) pa_nil)) (by rfl))
      (pss_cons (ps_for PassesOwn.never rfl (pi_range1 rfl mrg (pa_cons (pe_op op_add pe_int (pe_callB (cr_sum rfl) (by rfl) msu (by decide +kernel) (pa_cons (pe_lc (own := [("some", 7)]) (g := gName 7) (tt := tYes) (te := tCB (rLen K) (tCons (tVar 7) tNil)) rfl scStages.nd (pi_tup (pv 1))
          (blkOk_by (own := [("some", 7)]) (N := ["heap", "lists", "found", "row", "turn", "rings", "ring", "some"]) (sc := defScope sLStages) (by decide +kernel)) (fun _ _ _ _ _ => (pg_name (i := 7) scStages.nd rfl (Or.inl rfl))) (fun _ _ _ _ _ => pts_nil)
          (fun _ _ _ _ _ => (pe_callB call_len_seq (by rfl) ml PySem.boot_len (pa_cons (pv 7) pa_nil)))) pa_nil))) pa_nil)) (pg_name (i := 4) scStages.nd rfl (.inl rfl))
      (pss_cons (ps_set (i := 5) scStages.nd rfl (.inl rfl) (pe_call Go.ok hr rfl Go.m Go.k Go.b .nil pass0 (pa_cons (pv 1) (pa_cons (pe_ix ix_list (pv 2) (pe_un un_neg pe_int) (fun _ _ => rfl)) pa_nil))))
      (pss_cons (ps_if (pt_cmpR (op_eqD hr.units) (pv 5) (pe_lst pa_nil) (nomark _)) (pss_one ps_break) pss_nil)
      (pss_cons (ps_set (i := 6) scStages.nd rfl (.inl rfl) (pe_call Pk.ok hr rfl Pk.m Pk.k Pk.b .nil pass0 (pa_cons (pv 0) (pa_cons (pv 5) pa_nil))))
      (pss_cons (ps_expr (pe_bm PySem.F.plainAttrs_list PySem.F.slot_list_append PySem.F.type_list_append mt_append (pv 3) (pa_cons (pe_call Te.ok hr rfl Te.m Te.k Te.b .nil pass0 (pa_cons (pv 1) (pa_cons (pe_ix ix_list (pv 2) (pe_un un_neg pe_int) (fun _ _ => rfl)) (pa_cons (pv 6) pa_nil)))) pa_nil)))
      (pss_one (ps_expr (pe_bm PySem.F.plainAttrs_list PySem.F.slot_list_append PySem.F.type_list_append mt_append (pv 2) (pa_cons (pe_call Tu.ok hr rfl Tu.m Tu.k Tu.b .nil pass0 (pa_cons (pv 1) (pa_cons (pe_ix ix_list (pv 2) (pe_un un_neg pe_int) (fun _ _ => rfl)) (pa_cons (pv 6) pa_nil)))) pa_nil)))))))))
      (pss_one (ps_ret (pe_lst (pa_cons (pv 2) (pa_cons (pe_callTy call_tuple_of (by rfl) mt (by decide +kernel) (pa_cons (pv 3) pa_nil)) pa_nil)))))), ?_⟩
    refine ⟨_, rfl, a, ls, rfl, lx, n1, by omega, ok, fun e g H1 G s1 eg => ⟨(by show 1 ≤ sizeLine; decide), fun F nF => ?_⟩⟩
    refine ⟨(by show 0 ≤ sizeLine; decide), fun U nU => ⟨_, _, rfl, ?_⟩⟩
    dsimp only [List.set, L2.start]
    have nF0 : H F = none := s1.free nF
    have sFF := same_upd (o := .lst [.ref e]) nF
    have nU1 : H1 U = none := sFF.free nU
    have nFU : F ≠ U := ne_of_none upd_same nU
    have sU := same_upd (o := .lst []) nU
    have s0 := s1.trans (sFF.trans sU)
    have st0 : StAt ls h l H (upd (upd H1 F (.lst [.ref e])) U (.lst [])) F U [] e [] g [] 0 :=
      ⟨(src.same s0), .same s0, by rw [upd_ne nFU]; exact upd_same, upd_same, nF0, s1.free nU1, nFU, ⟨rfl, fun j u r e1 e2 => by
        match j, e1, e2 with
        | 0, e1, e2 => cases e1; cases e2; exact (sFF.trans sU) _ _ eg
        | _ + 1, e1, e2 => cases e1⟩, fun S' hS' => by
        rw [List.nil_append, List.mem_singleton] at hS'
        rw [hS']
        exact ⟨G.ok, G.st⟩, Nat.le_refl _, Nat.le_refl _⟩
    generalize upd (upd H1 F (.lst [.ref e])) U (.lst []) = H2 at st0 s0
    obtain ⟨nFh, nFl⟩ := src.new nF0
    obtain ⟨nUh, nUl⟩ := src.new st0.nU
    refine seqcut (fun σ' H' => ∃ (y4 y5 y6 : Option V) (us : List Addr) (u : Addr) (hss : List (List (Option Nat))) (S : List (Option Nat)) (xs : List V), σ' = [some (.ref h), some (.ref a), some (.ref F), some (.ref U), y4, y5, y6, none] ∧ StAt ls h l H H' F U us u hss S xs 700) ?_ (fun out => ?_)
    · rintro σ' H5 ⟨y4, y5, y6, us, u, hss, S, xs, rfl, at5⟩
      refine ⟨_, rfl, _, rfl, U, _, rfl, .inl ⟨SqL.of at5.eU, fun V1 nV1 => ⟨(by show 2 ≤ sizeLine; decide), fun r nr => ?_⟩⟩⟩
      have s6 := (same_upd (o := .tup xs) nV1).trans (same_upd (o := .lst [.ref F, .ref V1]) nr)
      refine q r F V1 (us ++ [u]) (hss ++ [S]) _ (at5.src.same s6) (at5.bar.trans (.same s6)) upd_same (s6 _ _ at5.eF) nFh nFl (at5.ht.same s6) (by simp) (by have := at5.ul; simp; omega) at5.all
    have lx2 := lx.same s0
    obtain ⟨xs, ea, xl⟩ := lx2.lt.len
    refine ⟨_, rfl, a, rfl, ⟨_, SqT.of ea⟩, fun D nD => ?_⟩
    refine lc_same (walk_tup (K := K) (a := a) (xs := xs)) (by omega) (fun p => .int ((la ls p).length : Nat)) nD (fun _ sm => SqT.of (sm _ _ ea)) ?_ ?_
    · rintro m x Ha Hb Z out hm sm ⟨rfl, ex⟩
      obtain ⟨c, s', rfl, es, ec⟩ := lx2.lt.row ea ex
      have es' : s' = la ls m := by rw [la_of es]
      subst es'
      refine gn ⟨rfl, _, rfl, c, _, rfl, .inr (ec.same sm).sq, ?_⟩
      rw [VI_len]
      exact out _ same_rfl
    · intro H3 s3 eD
      obtain ⟨N, eN, leN⟩ := sum_lens ls 26 (fun p hp => by have := ok.each (la_get hp); omega) ls.length (Nat.le_refl _)
      refine ⟨D, (List.range ls.length).map fun p => ((la ls p).length : Int), rfl, SqL.of (by rw [eD, xl, List.map_map]; rfl), ?_⟩
      rw [eN]
      have N676 : N ≤ 676 := by
        have := Nat.mul_le_mul_right 26 n26
        omega
      have st3 : StAt ls h l H H3 F U [] e [] g [] 0 := ⟨st0.src.same s3, st0.bar.trans (.same s3), s3 _ _ st0.eF, s3 _ _ st0.eU, st0.nF, st0.nU, st0.ne, st0.ht.same s3, st0.all, st0.xl, st0.ul⟩
      refine ⟨_, _, rfl, rfl, _, rfl, by omega, by omega, ?_⟩
      rw [show ((1 : Int) + (N : Nat)).toNat = 1 + N by omega]
      refine for_it (J := Itr 0 (1 + N)) (n := 1 + N) walk_range0 (fun i σ H' => ∃ (y4 y5 y6 : Option V) (us : List Addr) (u : Addr) (hss : List (List (Option Nat))) (S : List (Option Nat)) (xs : List V), σ = [some (.ref h), some (.ref a), some (.ref F), some (.ref U), y4, y5, y6, none] ∧ StAt ls h l H H' F U us u hss S xs i)
        ⟨none, none, none, [], e, [], g, [], rfl, st3⟩ (fun _ _ _ _ _ => trivial) ?_ ?_
      · rintro i x σ H4' H4 hi ⟨y4, y5, y6, us, u, hss, S, xs, rfl, at4⟩ ⟨rfl, rfl⟩
        refine gn ?_
        dsimp only [List.set]
        have eF4 : H4 F = some (.lst (us.map V.ref ++ [.ref u])) := by rw [at4.eF, List.map_append]; rfl
        have eS : H4 u = some (.tup (VH S)) := at4.ht.2 us.length u S (by simp) (by rw [List.getElem?_append_right (by have := at4.ht.1; simp at this; omega)]; have := at4.ht.1; simp at this; rw [this]; simp)
        obtain ⟨so, ss⟩ := at4.all S (by simp)
        have lx4 := lx.bar src at4.bar
        refine ⟨_, rfl, _, rfl, _, rfl, F, _, -1, _, rfl, rfl, SqL.of eF4, atI_last _ _, a, u, ls, S, rfl, lx4, eS, so, ss, ok, by omega, fun r rs H5 s5 nr er unr lr => gn ?_⟩
        dsimp only [List.set]
        refine ⟨_, rfl, (by show 0 ≤ sizeLine; decide), fun z nz => ?_⟩
        have sz := same_upd (o := .lst []) nz
        refine ⟨dLL (goodR ls S), .list [], dp_dLL (sz _ _ er) (lr.same sz), .lst (SqL.of upd_same) .nil, sh_dLL _, by decide, _, rfl, ?_⟩
        rw [eqv_dLL_nil]
        have s6 := s5.trans sz
        generalize upd H5 z (.lst []) = H6 at sz s6
        have at6 : StAt ls h l H H6 F U us u hss S xs i := ⟨at4.src.same s6, at4.bar.trans (.same s6), s6 _ _ at4.eF, s6 _ _ at4.eU, at4.nF, at4.nU, at4.ne, at4.ht.same s6, at4.all, at4.xl, at4.ul⟩
        cases eg : goodR ls S with
        | nil => exact iteT (out _ _ ⟨_, _, _, us, u, hss, S, xs, rfl, at6.src, at6.bar, at6.eF, at6.eU, at6.nF, at6.nU, at6.ne, at6.ht, at6.all, by have := at6.xl; omega, by have := at6.ul; omega⟩)
        | cons g0 gt =>
          refine iteF ?_
          have er6 := sz _ _ er
          have lr6 := lr.same sz
          have rsl : 0 < rs.length := by rw [lr.1, eg]; simp
          have gl : (goodR ls S).length ≤ 60 := by
            unfold goodR ringsA
            refine Nat.le_trans (List.length_filter_le _ _) ?_
            rw [List.length_map]
            refine Nat.le_trans (List.length_filter_le _ _) ?_
            rw [List.length_range, givA_len]
            omega
          have nr4 : r ≠ h ∧ r ≠ l := at4.src.new nr
          have nrs : ∀ x ∈ rs, x ≠ h ∧ x ≠ l := fun x hx => at4.src.new (unr x hx)
          refine ⟨_, rfl, _, rfl, h, l, r, _, rfl, at6.src, .inl er6, nr4.1, nr4.2, by rw [List.length_map]; exact rsl, by rw [List.length_map, lr.1]; omega, fun kk vv H7 hv sr7 br7 => gn ?_⟩
          dsimp only [List.set]
          obtain ⟨w1, ew1, rfl⟩ : ∃ w1, rs[kk]? = some w1 ∧ vv = .ref w1 := by
            rw [List.getElem?_map] at hv
            cases e1 : rs[kk]? with
            | none => rw [e1] at hv; cases hv
            | some w1 => rw [e1] at hv; exact ⟨w1, rfl, (Option.some.inj hv).symm⟩
          obtain ⟨rg, erg⟩ : ∃ rg, (goodR ls S)[kk]? = some rg := ⟨_, List.getElem?_eq_getElem (by rw [← lr.1]; exact (List.getElem?_eq_some_iff.mp ew1).1)⟩
          have ew7 := br7 _ _ (nrs w1 (List.mem_of_getElem? ew1)).1 (nrs w1 (List.mem_of_getElem? ew1)).2 (lr6.2 kk w1 rg ew1 erg)
          have hrg := List.mem_of_getElem? erg
          unfold goodR at hrg
          obtain ⟨hr1, hr2⟩ := List.mem_filter.mp hrg
          obtain ⟨p, m, hp, cy, rfl⟩ := ringR hr1
          have nodd : ¬ OddX ls S (sF ls S) (Orb (gF ls S) p) := fun z => by
            have h2' : (!oddB (leftA ls S) (prs ls S (ringL (gF ls S) p m))) = true := hr2
            rw [(odd_iff ok so ss hp cy).mpr z] at h2'
            cases h2'
          have RR : Rng ls S (sF ls S) (gF ls S) (Orb (gF ls S) p) := orb_rng ok so ss (giv_at ok so ss) hp (orb_two ok so hp cy 0).2 cy.one cy.back nodd
          have at7 : StAt ls h l H H7 F U us u hss S xs i := ⟨sr7, at6.bar.trans br7, br7 _ _ nFh nFl at6.eF, br7 _ _ nUh nUl at6.eU, at6.nF, at6.nU, at6.ne, at6.ht.bar at6.src br7, at6.all, at6.xl, at6.ul⟩
          have eF7 : H7 F = some (.lst (us.map V.ref ++ [.ref u])) := by rw [at7.eF, List.map_append]; rfl
          have eS7 := tup_bar at6.src br7 (s6 _ _ eS)
          have lx7 := lx.bar src at7.bar
          have R7 : RgAt H7 a u w1 ls S p m := ⟨lx7, eS7, ew7, so, ss, ok, by omega, hp, cy⟩
          refine ⟨_, rfl, .inl ⟨rfl, _, SqL.of at7.eU⟩, _, rfl, _, rfl, _, rfl, F, _, -1, _, rfl, rfl, SqL.of eF7, atI_last _ _, _, rfl, a, u, w1, ls, S, p, m, rfl, R7, fun c8 H8 s8 rp8 => ?_⟩
          refine ⟨U, _, _, rfl, rfl, s8 _ _ at7.eU, sz6 (by have := at7.xl; omega), ?_⟩
          have at9 : StAt ls h l H (upd H8 U (.lst (xs ++ [.ref c8]))) F U us u hss S (xs ++ [.ref c8]) (i + 1) :=
            ⟨(sr7.same s8).put nUh nUl, (at7.bar.trans (.same s8)).fresh at7.nU, by rw [upd_ne at7.ne]; exact s8 _ _ at7.eF, upd_same, at7.nF, at7.nU, at7.ne, (at7.ht.same s8).put (s8 _ _ at7.eU) (fun _ z => by cases z), at7.all, by have := at7.xl; simp; omega, by have := at7.ul; omega⟩
          have ew9 : (upd H8 U (.lst (xs ++ [.ref c8]))) w1 = some (.lst (VI (ringL (gF ls S) p m))) := by
            rw [upd_ne]
            · exact s8 _ _ ew7
            · intro z
              have := unr w1 (List.mem_of_getElem? ew1)
              rw [z, at4.eU] at this
              cases this
          have eS9 : (upd H8 U (.lst (xs ++ [.ref c8]))) u = some (.tup (VH S)) := by
            rw [upd_ne]
            · exact s8 _ _ eS7
            · intro z
              rw [z, at7.eU] at eS7
              cases eS7
          generalize upd H8 U (.lst (xs ++ [.ref c8])) = H9 at at9 ew9 eS9
          have eF9 : H9 F = some (.lst (us.map V.ref ++ [.ref u])) := by rw [at9.eF, List.map_append]; rfl
          have R9 : RgAt H9 a u w1 ls S p m := ⟨lx.bar src at9.bar, eS9, ew9, so, ss, ok, by omega, hp, cy⟩
          refine ⟨_, rfl, .inl ⟨rfl, _, SqL.of at9.eF⟩, _, rfl, _, rfl, _, rfl, F, _, -1, _, rfl, rfl, SqL.of eF9, atI_last _ _, _, rfl, a, u, w1, ls, S, p, m, rfl, R9, fun ca hs' Ha sa past ea' => ?_⟩
          refine ⟨F, _, _, rfl, rfl, sa _ _ at9.eF, by rw [List.length_map]; exact sz6 (by have := at9.ul; simp; omega), ?_⟩
          have so' := past_ok ok so ss hp cy RR past
          have ss' := past_std ok so ss hp cy RR past
          have eca : (upd Ha F (.lst ((us ++ [u]).map V.ref ++ [.ref ca]))) ca = some (.tup (VH hs')) := by
            rw [upd_ne]
            · exact ea'
            · intro z
              rw [z, sa _ _ at9.eF] at ea'
              cases ea'
          refine ⟨_, _, _, us ++ [u], ca, hss ++ [S], hs', xs ++ [.ref c8], rfl, (at9.src.same sa).put nFh nFl, (at9.bar.trans (.same sa)).fresh at9.nF, by rw [upd_same, List.map_append (l₂ := [ca])]; rfl, by rw [upd_ne (Ne.symm at9.ne)]; exact sa _ _ at9.eU, at9.nF, at9.nU, at9.ne, ?_, fun S' hS' => ?_, at9.xl, by have := at9.ul; have := at4.ul; simp; omega⟩
          · exact ((at9.ht.same sa).put (sa _ _ at9.eF) (fun _ z => by cases z)).snoc eca
          · rcases List.mem_append.mp hS' with hS' | hS'
            · exact at9.all S' hS'
            · rw [List.mem_singleton] at hS'
              rw [hS']
              exact ⟨so', ss'⟩
      · rintro σ H4 ⟨y4, y5, y6, us, u, hss, S, xs, rfl, at4⟩
        exact out _ _ ⟨_, _, _, us, u, hss, S, xs, rfl, at4.src, at4.bar, at4.eF, at4.eU, at4.nF, at4.nU, at4.ne, at4.ht, at4.all, by have := at4.xl; omega, by have := at4.ul; omega⟩
end
end K14
/-! what stands when a lambda was made: all but the tables -/
namespace K14
open PySem PySem.Spec PyProof.Rows L2
section
variable {H H' : Hp}
abbrev XN := LamX.ExtN
theorem XN.tup (s : LamX.ExtN H H') {b : Addr} {xs : List V} (e : H b = some (.tup xs)) : H' b = some (.tup xs) := s b _ e fun _ z => by cases z
theorem XN.lst (s : LamX.ExtN H H') {b : Addr} {xs : List V} (e : H b = some (.lst xs)) : H' b = some (.lst xs) := s b _ e fun _ z => by cases z
theorem Ex.ext {a : Addr} {xs : List V} (t : Ex H a xs) (s : LamX.ExtN H H') : Ex H' a xs := let ⟨o, d, c, e⟩ := t; ⟨o, d, c, s _ _ e fun _ z => by cases z⟩
theorem Tp.ext {a : Addr} {xs : List V} (t : Tp H a xs) (s : LamX.ExtN H H') : Tp H' a xs := t.imp (XN.tup s) (fun e => e.ext s)
theorem LT.ext {r : Addr} {ls : List (List Nat)} (t : LT H r ls) (s : LamX.ExtN H H') : LT H' r ls := let ⟨as, e, l, q⟩ := t; ⟨as, XN.tup s e, l, fun i a x e1 e2 => (q i a x e1 e2).ext s⟩
theorem LX.ext {r : Addr} {ls : List (List Nat)} (t : LX H r ls) (s : LamX.ExtN H H') : LX H' r ls := let ⟨as, e, l, q⟩ := t; ⟨as, XN.tup s e, l, fun i a x e1 e2 => (q i a x e1 e2).ext s⟩
theorem RT.ext {r : Addr} {ls : List (List Nat)} (t : RT H r ls) (s : LamX.ExtN H H') : RT H' r ls := let ⟨as, e, l, q⟩ := t; ⟨as, XN.tup s e, l, fun i a x e1 e2 => XN.tup s (q i a x e1 e2)⟩
theorem WAt.ext {C wi : Addr} {ns ls : List (List Nat)} (W : WAt C H wi ns ls) (s : LamX.ExtN H H') : WAt C H' wi ns ls := by
  obtain ⟨dx, n, l, r, e1, e2, e3, e4⟩ := W.ex
  exact ⟨W.n60, W.nok, W.ok, dx, n, l, r, s _ _ e1 (fun _ z => by cases z), XN.tup s e2, e3.ext s, e4.ext s⟩
theorem Src.ext {h l : Addr} (t : Src H h l) (s : LamX.ExtN H H') : Src H' h l := by
  obtain ⟨cs, z, a, b, r⟩ := t.ex
  exact ⟨cs, z, XN.lst s a, XN.lst s b, r⟩
theorem HsT.ext {us : List Addr} {hss : List (List (Option Nat))} (t : HsT H us hss) (s : LamX.ExtN H H') : HsT H' us hss := ⟨t.1, fun j u r e1 e2 => XN.tup s (t.2 j u r e1 e2)⟩
theorem LsR.ext {us : List Addr} {R : List (List Nat)} (t : LsR H us R) (s : LamX.ExtN H H') : LsR H' us R := ⟨t.1, fun j u r e1 e2 => XN.lst s (t.2 j u r e1 e2)⟩
theorem RP.ext {r : Addr} {ps : List (Nat × Nat)} (t : RP H r ps) (s : LamX.ExtN H H') : RP H' r ps := let ⟨us, e, l, a⟩ := t; ⟨us, XN.tup s e, l, fun j u x e1 e2 => XN.tup s (a j u x e1 e2)⟩
theorem RgAt.ext {a t u : Addr} {ls : List (List Nat)} {hs : List (Option Nat)} {p m : Nat} (r : RgAt H a t u ls hs p m) (s : LamX.ExtN H H') : RgAt H' a t u ls hs p m := ⟨r.lx.ext s, XN.tup s r.et, XN.lst s r.eu, r.ho, r.st, r.ok, r.n60, r.hp, r.cy⟩
theorem xn_of (s : Same H H') : LamX.ExtN H H' := LamX.ExtN.of s
/-- a list stays a list of its own: the tables stay too -/
theorem Tabs.put {T : List (Addr × Str)} {p : Addr} {xs : List V} {o : HO} (t : LamX.Tabs T H) (e : H p = some (.lst xs)) : LamX.Tabs T (upd H p o) := fun q hq => by
  obtain ⟨ps, h1, h2, h3⟩ := t q hq
  refine ⟨ps, ?_, h2, fun pos cv hc => ?_⟩
  · rw [upd_ne fun z => by rw [z, e] at h1; cases h1]
    exact h1
  · obtain ⟨c, e1, e2⟩ := h3 pos cv hc
    refine ⟨c, e1, ?_⟩
    rw [upd_ne fun z => by rw [z, e] at e2; cases e2]
    exact e2
theorem Tabs.bar {T : List (Addr × Str)} {h l : Addr} (t : LamX.Tabs T H) (s : Src H h l) (b : Bar h l H H') : LamX.Tabs T H' := fun q hq => by
  obtain ⟨ps, h1, h2, h3⟩ := t q hq
  refine ⟨ps, ?_, h2, fun pos cv hc => ?_⟩
  · obtain ⟨n1, n2⟩ := s.ne h1 fun _ z => by cases z
    exact b _ _ n1 n2 h1
  · obtain ⟨c, e1, e2⟩ := h3 pos cv hc
    obtain ⟨n1, n2⟩ := s.ne e2 fun _ z => by cases z
    exact ⟨c, e1, b _ _ n1 n2 e2⟩
/-! ### lists of ints as data -/
def dZ (ns : List Int) : PyData := .list (ns.map PyData.int)
theorem dp_dZ {K : PySem.W.Frag} {a : Addr} {ns : List Int} (e : H a = some (.lst (ns.map V.int))) : Dp K H (.ref a) (dZ ns) := by
  refine .lst (SqL.of e) ?_
  clear e
  induction ns with
  | nil => exact .nil
  | cons b t ih => exact .cons (.int b) ih
theorem sh_dZ (ns : List Int) : SeqAt.shaped (dZ ns) = true := by
  unfold dZ
  refine shaped_of ?_ ?_
  · simp only [PyData.canLay0]
    refine layAll fun x hx => ?_
    obtain ⟨j, _, rfl⟩ := List.mem_map.mp hx
    rfl
  · simp only [PyData.depth]
    have := depAll (xs := ns.map PyData.int) (d := 1) fun x hx => by
      obtain ⟨j, _, rfl⟩ := List.mem_map.mp hx
      simp [PyData.depth]
    omega
theorem asc_uniq {a b : List Int} (p : a.Perm b) (ha : a.Pairwise (· ≤ ·)) (hb : b.Pairwise (· ≤ ·)) : a = b := List.Perm.eq_of_pairwise (le := fun x y => x ≤ y) (fun x y _ _ h1 h2 => Int.le_antisymm h1 h2) ha hb p
end
end K14
namespace K14
open PySem PySem.Spec PyProof.Rows L2
section
variable {ls : List (List Nat)} {hs hs' : List (Option Nat)} (ok : ListsOk ls.length ls)
/-- the holds behind a ring that is not odd -/
structure GoodRing (ls : List (List Nat)) (hs hs' : List (Option Nat)) (p m : Nat) : Prop where
  ho : HoldsOk ls hs'
  st : Std ls hs'
  wi : withinB ls hs' hs = true
  ne : hs' ≠ hs
  non : ∀ q, q < ls.length → (ha hs' q = none ↔ ha hs q = none)
  empty : ∀ q, q < ls.length → (leftL ls hs q = [] ↔ leftL ls hs' q = [])
  ring : ∀ q, q ∈ ringL (gF ls hs) p m → fst ls hs' q = some (sF ls hs q)
  other : ∀ q f, q < ls.length → q ∉ ringL (gF ls hs) p m → fst ls hs q = some f → fst ls hs' q = some f
theorem orb_ring {g : Nat → Nat} {p m : Nat} (c : Cyc g p m) {x : Nat} : Orb g p x ↔ x ∈ ringL g p m := by
  constructor
  · rintro ⟨k, rfl⟩
    refine ringL_mem.mpr ⟨k % m, Nat.mod_lt _ c.one, ?_⟩
    conv => rhs; rw [← Nat.mod_add_div k m, it_add, Nat.mul_comm, turns_all c.back]
  · intro h
    obtain ⟨k, _, e⟩ := ringL_mem.mp h
    exact ⟨k, e.symm⟩
include ok in
theorem good_ring (ho : HoldsOk ls hs) (st : Std ls hs) {p m : Nat} (hp : p < ls.length) (c : Cyc (gF ls hs) p m) (odd : ¬ OddX ls hs (sF ls hs) (Orb (gF ls hs) p)) (P : Past hs (prs ls hs (ringL (gF ls hs) p m)) hs') : GoodRing ls hs hs' p m := by
  have R : Rng ls hs (sF ls hs) (gF ls hs) (Orb (gF ls hs) p) := orb_rng ok ho st (giv_at ok ho st) hp (orb_two ok ho hp c 0).2 c.one c.back odd
  obtain ⟨t1, t2, t3, t4, t5, t6⟩ := turn_full ok ho st R
  have e := past_eq ok ho st hp c R P
  rw [← e] at t1 t2 t3 t4 t5 t6
  refine ⟨t1, t2, ?_, ?_, fun q hq => ?_, fun q hq => ?_, fun q h => t5 q ((orb_ring c).mpr h), fun q f hq h hf => t6 q f hq (fun z => h ((orb_ring c).mp z)) hf⟩
  · unfold withinB
    rw [List.all_eq_true]
    exact fun q hq => decide_eq_true (t3 q (List.mem_range.mp hq))
  · intro z
    rw [z] at t4
    exact Nat.lt_irrefl _ t4
  · by_cases h : ∃ x, Orb (gF ls hs) p x ∧ sF ls hs x = q
    · obtain ⟨x, hx, rfl⟩ := h
      rw [e, out_yes R hx, (R.giv x hx).held]
      simp
    · have h' : ∀ x, Orb (gF ls hs) p x → sF ls hs x ≠ q := fun x hx z => h ⟨x, hx, z⟩
      rw [e, out_no hq h']
  · constructor
    · intro z
      refine Classical.byContradiction fun h => ?_
      cases el : leftL ls hs' q with
      | nil => exact h el
      | cons o t =>
        have ho' : o ∈ leftL ls hs' q := by rw [el]; simp
        obtain ⟨m1, m2, m3⟩ := (mem_left ok hq).mp ho'
        have : o ∈ leftL ls hs q := (mem_left ok hq).mpr ⟨m1, Nat.le_trans m2 (t3 q hq), Nat.le_trans m3 (t3 o (ok.mate hq m1).1)⟩
        rw [z] at this
        cases this
    · intro z
      refine Classical.byContradiction fun h => ?_
      cases el : leftL ls hs q with
      | nil => exact h el
      | cons f t =>
        have hf : fst ls hs q = some f := by
          unfold fst
          rw [el]
          rfl
        by_cases x : Orb (gF ls hs) p q
        · have := t5 q x
          unfold fst at this
          rw [z] at this
          cases this
        · have := t6 q f hq x hf
          unfold fst at this
          rw [z] at this
          cases this
end
end K14
namespace K14
open PySem PySem.Spec PyProof.Rows L2
section
variable {ls : List (List Nat)} {hs : List (Option Nat)}
/-- the first one of a person -/
def fF (ls : List (List Nat)) (hs : List (Option Nat)) (x : Nat) : Nat := (leftL ls hs x).headD 0
/-- a walk back through an odd ring -/
structure OddWalk (ls : List (List Nat)) (hs : List (Option Nat)) (p m : Nat) : Prop where
  on : ∀ i, it (fF ls hs) i p ∈ ringL (gF ls hs) p m
  s : ∀ i, sF ls hs (it (fF ls hs) (i + 1) p) = it (fF ls hs) i p
  back : it (fF ls hs) m p = p
  perm : ((List.range m).map fun i => it (fF ls hs) i p).Perm (ringL (gF ls hs) p m)
theorem odd_walk {p m : Nat} (c : Cyc (gF ls hs) p m) (O : OddRing ls hs p m) : OddWalk ls hs p m := by
  have step : ∀ k, ∃ j, fF ls hs (it (gF ls hs) k p) = it (gF ls hs) j p ∧ sF ls hs (it (gF ls hs) j p) = it (gF ls hs) k p := fun k => by
    obtain ⟨j, e1, e2⟩ := O.back k
    refine ⟨j, ?_, e2⟩
    unfold fst at e1
    unfold fF
    cases el : leftL ls hs (it (gF ls hs) k p) with
    | nil => rw [el] at e1; cases e1
    | cons a t => rw [el] at e1; exact Option.some.inj e1
  have on : ∀ i, ∃ k, it (fF ls hs) i p = it (gF ls hs) k p := by
    intro i
    induction i with
    | zero => exact ⟨0, rfl⟩
    | succ i ih =>
      obtain ⟨k, e⟩ := ih
      obtain ⟨j, e1, _⟩ := step k
      exact ⟨j, by rw [it_one, e, e1]⟩
  have back : ∀ i, sF ls hs (it (fF ls hs) (i + 1) p) = it (fF ls hs) i p := fun i => by
    obtain ⟨k, e⟩ := on i
    obtain ⟨j, e1, e2⟩ := step k
    rw [it_one, e, e1, e2]
  have down : ∀ a d, it (sF ls hs) a (it (fF ls hs) (a + d) p) = it (fF ls hs) d p := by
    intro a
    induction a with
    | zero => intro d; rw [Nat.zero_add]; rfl
    | succ a ih =>
      intro d
      rw [it_in, show a + 1 + d = a + d + 1 by omega, back]
      exact ih d
  have far : ∀ d, 1 ≤ d → it (fF ls hs) d p = p → m ≤ d := fun d d1 e => by
    have h1 := down d 0
    rw [Nat.add_zero, e] at h1
    have h1 : it (sF ls hs) d p = p := h1
    have h2 : it (gF ls hs) d p = p := by
      rw [O.twice, Nat.two_mul, it_add, h1, h1]
    exact Classical.byContradiction fun z => c.least d d1 (by omega) h2
  have apart : ∀ a b, a < b → it (fF ls hs) a p = it (fF ls hs) b p → m ≤ b - a := fun a b l e => by
    refine far (b - a) (by omega) ?_
    have h1 := down a 0
    have h2 := down a (b - a)
    rw [show a + (b - a) = b by omega, ← e] at h2
    rw [Nat.add_zero] at h1
    rw [h1] at h2
    exact h2.symm
  have nd : ((List.range m).map fun i => it (fF ls hs) i p).Nodup := by
    refine List.pairwise_map.mpr (List.Pairwise.imp_of_mem ?_ (List.pairwise_lt_range (n := m)))
    intro i j _ hj ij e
    have h1 := apart i j ij e
    have h2 := List.mem_range.mp hj
    omega
  have nd0 : (ringL (gF ls hs) p m).Nodup := by
    unfold ringL
    refine List.pairwise_map.mpr (List.Pairwise.imp_of_mem ?_ (List.pairwise_lt_range (n := m)))
    intro i j _ hj ij e
    exact c.inj (List.mem_range.mp hj) ij e
  have mem : ∀ i, it (fF ls hs) i p ∈ ringL (gF ls hs) p m := fun i => by
    obtain ⟨k, e⟩ := on i
    exact (orb_ring c).mp ⟨k, e⟩
  have sub : ∀ x ∈ (List.range m).map (fun i => it (fF ls hs) i p), x ∈ ringL (gF ls hs) p m := fun x hx => by
    obtain ⟨i, _, rfl⟩ := List.mem_map.mp hx
    exact mem i
  have rl : (ringL (gF ls hs) p m).length = m := by simp [ringL]
  have sup : ∀ x ∈ ringL (gF ls hs) p m, x ∈ (List.range m).map (fun i => it (fF ls hs) i p) := fun x hx => by
    refine Classical.byContradiction fun no => ?_
    have h := nodup_sub_len (s := x :: (List.range m).map fun i => it (fF ls hs) i p) (t := ringL (gF ls hs) p m) (List.nodup_cons.mpr ⟨no, nd⟩) fun y hy => by
      rcases List.mem_cons.mp hy with rfl | hy
      · exact hx
      · exact sub y hy
    rw [List.length_cons, List.length_map, List.length_range, rl] at h
    omega
  refine ⟨mem, back, ?_, permOf nd nd0 fun x => ⟨sub x, sup x⟩⟩
  obtain ⟨i, hi, e⟩ := List.mem_map.mp (sup _ (mem m))
  have hi := List.mem_range.mp hi
  have h := apart i m hi e
  have i0 : i = 0 := by omega
  rw [i0] at e
  exact e.symm
end
end K14
namespace K14
open PySem PySem.Spec PyProof.Rows L2
def spGoodRight (C : Addr) : Sp := fun vs H Q _ => ∃ (wi a t u : Addr) (ns ls : List (List Nat)) (hs : List (Option Nat)) (p m : Nat), vs = [.ref wi, .ref a, .ref t, .ref u] ∧ WAt C H wi ns ls ∧ RgAt H a t u ls hs p m ∧ oddB (leftA ls hs) (prs ls hs (ringL (gF ls hs) p m)) = false ∧ ∀ H', Same H H' → Q (.bl true) H'
theorem spGoodRight_len (C : Addr) : ∀ vs H Q E, spGoodRight C vs H Q E → vs.length = (["wishes", "lists", "holds", "ring"] : List Str).length := by
  rintro vs H Q E ⟨wi, a, t, u, ns, ls, hs, p, m, rfl, _⟩
  rfl
theorem scGoodR : FnScope ["wishes", "lists", "holds", "ring", "told", "due", "left", "later", "firsts", "person", "held"] ["wishes", "lists", "holds", "ring"] (defScope sLGoodRight) := ⟨rfl, rfl, rfl, by decide +kernel, rfl, by decide +kernel, by decide +kernel⟩
theorem eqv_same {d : PyData} (h : SeqAt.shaped d = true) : PyData.eqv d d = true := SeqAt.eqv_refl _ (Bool.and_eq_true _ _ ▸ h).1
theorem eqv_dI (s t : List Nat) : PyData.eqv (dI s) (dI t) = decide (s = t) := by
  have e : ∀ s, dI s = dH (s.map some) := fun s => by
    unfold dI dH
    rw [List.map_map]
    rfl
  rw [e, e, eqv_dH]
  rw [decide_eq_decide]
  exact ⟨fun h => (List.map_inj_right fun _ _ e => Option.some.inj e).mp h, fun h => by rw [h]⟩
def dB (bs : List Bool) : PyData := .list (bs.map PyData.bool)
theorem dp_dB {K : PySem.W.Frag} {H : Hp} {a : Addr} {bs : List Bool} (e : H a = some (.lst (bs.map V.bl))) : Dp K H (.ref a) (dB bs) := by
  refine .lst (SqL.of e) ?_
  clear e
  induction bs with
  | nil => exact .nil
  | cons b t ih => exact .cons (.bl b) ih
theorem sh_dB (bs : List Bool) : SeqAt.shaped (dB bs) = true := by
  unfold dB
  refine shaped_of ?_ ?_
  · simp only [PyData.canLay0]
    refine layAll fun x hx => ?_
    obtain ⟨j, _, rfl⟩ := List.mem_map.mp hx
    rfl
  · simp only [PyData.depth]
    have := depAll (xs := bs.map PyData.bool) (d := 1) fun x hx => by
      obtain ⟨j, _, rfl⟩ := List.mem_map.mp hx
      simp [PyData.depth]
    omega
theorem ha_mem {hs : List (Option Nat)} {j : Nat} (h : some j ∈ hs) : ∃ p, ha hs p = some j := by
  obtain ⟨p, hp, e⟩ := List.mem_iff_getElem.mp h
  refine ⟨p, ?_⟩
  unfold ha
  rw [List.getD_eq_getElem?_getD, List.getElem?_eq_getElem hp, e]
  rfl
/-- a list left, read by hand -/
structure LeftAt (H : Hp) (lf : Addr) (as : List Addr) (ls : List (List Nat)) (hs : List (Option Nat)) : Prop where
  e : H lf = some (.tup (as.map V.ref))
  row : ∀ p, p < ls.length → ∃ b, as[p]? = some b ∧ Tp H b (VI (leftL ls hs p))
theorem LeftAt.of {H : Hp} {lf : Addr} {ls : List (List Nat)} {hs : List (Option Nat)} (t : LT H lf (leftA ls hs)) : ∃ as, LeftAt H lf as ls hs := by
  obtain ⟨as, ea, al, rows⟩ := id t
  rw [leftA_len] at al
  refine ⟨as, ea, fun p hp => ?_⟩
  have ay : as[p]? = some as[p] := List.getElem?_eq_getElem (by omega)
  exact ⟨_, ay, rows p _ _ ay (leftA_get hp)⟩
theorem LeftAt.same {H H' : Hp} {lf : Addr} {as : List Addr} {ls : List (List Nat)} {hs : List (Option Nat)} (t : LeftAt H lf as ls hs) (s : Same H H') : LeftAt H' lf as ls hs :=
  ⟨s _ _ t.e, fun p hp => let ⟨b, e1, e2⟩ := t.row p hp; ⟨b, e1, e2.same s⟩⟩
section
variable {P : Program} {w : World} {K : PySem.W.Frag} {mg : Str → Option Value} {base : Heap}
set_option maxHeartbeats 1000000 in
theorem ok_good_right {f f1 f2 f3 f4 f5 f6 f7 f8 C : Addr} {fd d1 d2 d3 d4 d5 d6 d7 d8 : FuncData} {k : Nat} (F : Fun K "_law_good_right" "_law_good_right" sLGoodRight f fd) (To : Has P w K mg base k "turned_out" ["wishes", "holds", "ring"] (spTurnedOut C) f1 d1)
    (nTo : KBinds K d1 ["wishes", "holds", "ring"] ["ring", "holds", "wishes"] (fun us ws => us ++ ws.reverse) (fun vs zs => vs ++ zs.reverse)) (Te : Has P w K mg base k "_law_told" ["lists", "holds", "ring"] spLTold f2 d2) (Tu : Has P w K mg base k "_law_turned" ["lists", "holds", "ring"] spLTurned f3 d3)
    (Lf : Has P w K mg base k "_law_left" ["lists", "holds"] spLeft f4 d4) (Is : Has P w K mg base k "is_steady" ["wishes", "value"] (spIsSteady C) f5 d5) (Aw : Has P w K mg base k "are_within" ["wishes", "one", "other"] (spAreWithin C) f6 d6) (Fl : Has P w K mg base k "firsts_left" ["wishes", "holds"] (spFirstsLeft C) f7 d7) (Ll : Has P w K mg base k "left_lists" ["wishes", "holds"] (spLeftLists C) f8 d8)
    (ml : mg "len" = none) (mrg : mg "range" = none) (mi : mg "int" = none) (mrp : mg "repr" = none) : RunG P w K mg base (k + 1) f fd ["wishes", "lists", "holds", "ring"] (spGoodRight C) := by
  refine okG F scGoodR (spGoodRight_len C) (fun cdv A outer s H vs Q E hA hr h => ?_)
  obtain ⟨wi, a, t, u, ns, ls, hs, p, m, rfl, W, R, odd, q⟩ := h
  refine ⟨_, pss_cons (ps_par3 (i := 4) (j := 5) (l := 6) rfl scGoodR.nd rfl rfl rfl (by decide) (by decide) (by decide) rfl rfl rfl (pa_cons (pe_call To.ok hr rfl To.m To.k To.b .nil pass0 (pa_cons (pv 0) (pa_cons (pv 2) (pa_cons (pe_call Te.ok hr rfl Te.m Te.k Te.b .nil pass0 (pa_cons (pv 1) (pa_cons (pv 2) (pa_cons (pv 3) pa_nil)))) pa_nil)))) (pa_cons (pe_call Tu.ok hr rfl Tu.m Tu.k Tu.b .nil pass0 (pa_cons (pv 1) (pa_cons (pv 2) (pa_cons (pv 3) pa_nil)))) (pa_cons (pe_call Lf.ok hr rfl Lf.m Lf.k Lf.b .nil pass0 (pa_cons (pv 1) (pa_cons (pv 2) pa_nil))) pa_nil))) (by rfl))
      (pss_cons (ps_if (PW.pt (pw_or (pt_cmpR op_ne (pe_callB (call_repr hA hr.units) (by rfl) mrp (by decide +kernel) (pa_cons (pv 4) pa_nil)) (pe_callB (call_repr hA hr.units) (by rfl) mrp (by decide +kernel) (pa_cons (pv 5) pa_nil)) (nomark _)) (pw_or1 (pt_cmpR (op_neD hr.units) (pe_named To.ok hr rfl To.m To.k nTo pass0 (pk_cons (pe_call Te.ok hr rfl Te.m Te.k Te.b .nil pass0 (pa_cons (pv 1) (pa_cons (pv 2) (pa_cons (pv 3) pa_nil)))) (pk_cons (pv 2) (pk_cons (pv 0) pk_nil)))) (pv 5) (nomark _))))) (pss_one (ps_ret pe_bl)) pss_nil)
      (pss_cons (ps_if (PW.pt (pw_or (pt_cmpR op_isnot_bl (pe_call Is.ok hr rfl Is.m Is.k Is.b .nil pass0 (pa_cons (pv 0) (pa_cons (pv 4) pa_nil))) pe_bl (nomark _)) (pw_or (pt_cmpR op_isnot_bl (pe_call Aw.ok hr rfl Aw.m Aw.k Aw.b .nil pass0 (pa_cons (pv 0) (pa_cons (pv 4) (pa_cons (pv 2) pa_nil)))) pe_bl (nomark _)) (pw_or1 (pt_cmpR (op_eqD hr.units) (pv 4) (pv 2) (nomark _)))))) (pss_one (ps_ret pe_bl)) pss_nil)
      (pss_cons (ps_if (pt_cmpR (op_neD hr.units) (pe_lc (own := [("held", 10)]) (g := gName 10) (tt := tYes) (te := tOp rIsN (tVar 10) (tC .non)) rfl scGoodR.nd (pi_tup (pv 4))
          (blkOk_by (own := [("held", 10)]) (N := ["wishes", "lists", "holds", "ring", "told", "due", "left", "later", "firsts", "person", "held"]) (sc := defScope sLGoodRight) (by decide +kernel)) (fun _ _ _ _ _ => (pg_name (i := 10) scGoodR.nd rfl (Or.inl rfl))) (fun _ _ _ _ _ => pts_nil)
          (fun _ _ _ _ _ => (pe_cmpR op_isN1 (pv 10) pe_non (nomark _)))) (pe_lc (own := [("held", 10)]) (g := gName 10) (tt := tYes) (te := tOp rIsN (tVar 10) (tC .non)) rfl scGoodR.nd (pi_tup (pv 2))
          (blkOk_by (own := [("held", 10)]) (N := ["wishes", "lists", "holds", "ring", "told", "due", "left", "later", "firsts", "person", "held"]) (sc := defScope sLGoodRight) (by decide +kernel)) (fun _ _ _ _ _ => (pg_name (i := 10) scGoodR.nd rfl (Or.inl rfl))) (fun _ _ _ _ _ => pts_nil)
          (fun _ _ _ _ _ => (pe_cmpR op_isN1 (pv 10) pe_non (nomark _)))) (nomark _)) (pss_one (ps_ret pe_bl)) pss_nil)
      (pss_cons (ps_par (i := 7) (j := 8) rfl scGoodR.nd rfl rfl (by decide) rfl rfl (pa_cons (pe_call Lf.ok hr rfl Lf.m Lf.k Lf.b .nil pass0 (pa_cons (pv 1) (pa_cons (pv 4) pa_nil))) (pa_cons (pe_call Fl.ok hr rfl Fl.m Fl.k Fl.b .nil pass0 (pa_cons (pv 0) (pa_cons (pv 4) pa_nil))) pa_nil)) (by rfl))
      (pss_cons (ps_for PassesOwn.never rfl (pi_range1 rfl mrg (pa_cons (pe_callB call_len_seq (by rfl) ml PySem.boot_len (pa_cons (pv 1) pa_nil)) pa_nil)) (pg_name (i := 9) scGoodR.nd rfl (.inl rfl))
      (pss_one (ps_if (PW.pt (pw_or (pt_cmpR (op_eqD hr.units) (pe_ix ix_tup (pv 6) (pv 9) (fun _ _ => rfl)) (pe_tup pa_nil) (nomark _)) (pw_or1 (pt_cmpR (op_eqD hr.units) (pe_ix ix_tup (pv 7) (pv 9) (fun _ _ => rfl)) (pe_tup pa_nil) (nomark _))))) (pss_one (ps_if (pt_cmpR (op_neD hr.units) (pe_ix ix_tup (pv 6) (pv 9) (fun _ _ => rfl)) (pe_ix ix_tup (pv 7) (pv 9) (fun _ _ => rfl)) (nomark _)) (pss_one (ps_ret pe_bl)) pss_nil)) (pss_one (ps_if (PW.pt (pw_or (pt_cmpR op_ne (pe_ix ix_tup (pe_ix ix_tup (pv 7) (pv 9) (fun _ _ => rfl)) pe_int (fun _ _ => rfl)) (pe_ix ix_tup (pe_ix ix_tup (pv 6) (pv 9) (fun _ _ => rfl)) (pe_callTy call_int1 (by rfl) mi (by decide +kernel) (pa_cons (pe_cmpR op_in_seq (pv 9) (pv 3) (by rfl)) pa_nil)) (fun _ _ => rfl)) (nomark _)) (pw_or1 (pt_cmpR op_ne (pe_ix ix_tup (pv 8) (pv 9) (fun _ _ => rfl)) (pe_ix ix_tup (pe_ix ix_tup (pv 7) (pv 9) (fun _ _ => rfl)) pe_int (fun _ _ => rfl)) (nomark _))))) (pss_one (ps_ret pe_bl)) (pss_one (ps_if (pt_cmpR op_ne (pe_ix ix_tup (pe_ix ix_tup (pv 7) (pv 9) (fun _ _ => rfl)) (pe_un un_neg pe_int) (fun _ _ => rfl)) (pe_ix ix_tup (pv 4) (pv 9) (fun _ _ => rfl)) (nomark _)) (pss_one (ps_ret pe_bl)) pss_nil)))))))
      (pss_one (ps_ret (pe_cmpR (op_eqD hr.units) (pe_call Ll.ok hr rfl Ll.m Ll.k Ll.b .nil pass0 (pa_cons (pv 0) (pa_cons (pv 4) pa_nil))) (pv 7) (nomark _))))))))), ?_⟩
  have n60 := R.n60
  have ok := R.ok
  have ho := R.ho
  have st := R.st
  have hp := R.hp
  have cy := R.cy
  have rl := R.len
  have two := orb_two ok ho hp cy
  have oddX : ¬ OddX ls hs (sF ls hs) (Orb (gF ls hs) p) := fun z => by
    rw [(odd_iff ok ho st hp cy).mpr z] at odd
    cases odd
  have pl : (prs ls hs (ringL (gF ls hs) p m)).length = m := by unfold prs; rw [List.length_map, ringL_len]
  have inx : ∀ x ∈ prs ls hs (ringL (gF ls hs) p m), x.1 < ls.length ∧ x.2 < ls.length := fun x hx => by
    unfold prs at hx
    obtain ⟨y, hy, rfl⟩ := List.mem_map.mp hx
    obtain ⟨k, _, rfl⟩ := ringL_mem.mp hy
    exact ⟨(two k).1, (left_sym ok (two k).1 (fst_mem (takers ok ho st hp cy k).2)).1⟩
  have nds := takers_nd ok ho st hp cy
  have rpH : ∀ {xs : List (Option Nat)}, HoldsOk ls xs → Rp (dH xs) := fun {xs} hx => rp_dH (by rw [hx.len]; exact n60) fun j hj => by
    obtain ⟨q0, e0⟩ := ha_mem hj
    obtain ⟨h1, h2⟩ := hx.on q0 j e0
    have := (ok.mate h1 h2).1
    omega
  -- told, due, left
  refine ⟨_, rfl, _, rfl, _, rfl, _, rfl, _, rfl, a, t, u, ls, hs, p, m, rfl, R, fun c1 H1 s1 rp1 => ?_⟩
  refine ⟨wi, t, c1, ns, ls, hs, _, rfl, W.same s1, s1 _ _ R.et, ho, rp1, by omega, inx, nds, odd, fun t2 hs' H2 s2 past et2 => ?_⟩
  have s02 := s1.trans s2
  have G := good_ring ok ho st hp cy oddX past
  refine ⟨_, rfl, _, rfl, _, rfl, a, t, u, ls, hs, p, m, rfl, R.same s02, fun t3 hs3 H3 s3 past3 et3 => ?_⟩
  have e3 : hs3 = hs' := by
    have RR : Rng ls hs (sF ls hs) (gF ls hs) (Orb (gF ls hs) p) := orb_rng ok ho st (giv_at ok ho st) hp (two 0).2 cy.one cy.back oddX
    rw [past_eq ok ho st hp cy RR past, past_eq ok ho st hp cy RR past3]
  subst e3
  have s03 := s02.trans s3
  have R3 := R.same s03
  refine ⟨_, rfl, _, rfl, a, t, ls, hs, rfl, R3.lx, R3.et, ho, ok, by omega, fun lf H5 s45 llf' => ⟨_, _, _, rfl, ?_⟩⟩
  dsimp only [List.set, L2.start]
  have s05 := s03.trans s45
  have et2' := (s3.trans s45) _ _ et2
  have et3' := s45 _ _ et3
  have R5 := R.same s05
  have W5 := W.same s05
  -- the same by repr; by names
  refine ⟨_, rfl, t2, dH hs3, rfl, dp_dH et2', (rpH G.ho).sh, (rpH G.ho).nd, (rpH G.ho).dp, (rpH G.ho).ln, ?_⟩
  refine ⟨_, rfl, t3, dH hs3, rfl, dp_dH et3', (rpH G.ho).sh, (rpH G.ho).nd, (rpH G.ho).dp, (rpH G.ho).ln, rfl, false, congrArg V.bl (by simp), iteF ?_⟩
  refine ⟨_, rfl, _, rfl, _, rfl, a, t, u, ls, hs, p, m, rfl, R5, fun c6 H6 s6 rp6 => ?_⟩
  refine ⟨_, rfl, _, rfl, wi, t, c6, ns, ls, hs, _, rfl, W5.same s6, s6 _ _ R5.et, ho, rp6, by omega, inx, nds, odd, fun t7 hs7 H7 s7 past7 et7 => ?_⟩
  have e7 : hs7 = hs3 := by
    have RR : Rng ls hs (sF ls hs) (gF ls hs) (Orb (gF ls hs) p) := orb_rng ok ho st (giv_at ok ho st) hp (two 0).2 cy.one cy.back oddX
    rw [past_eq ok ho st hp cy RR past, past_eq ok ho st hp cy RR past7]
  subst e7
  have s57 := s6.trans s7
  have s07 := s05.trans s57
  refine ⟨_, rfl, dH hs7, dH hs7, dp_dH et7, dp_dH (s57 _ _ et3'), sh_dH _, sh_dH _, false, congrArg V.bl (by rw [eqv_same (sh_dH _)]; rfl), iteF ?_⟩
  -- steady, within, not the same
  have et7a := s57 _ _ et2'
  have W7 := W.same s07
  have sB : steadyB ls hs7 = true := (steadyB_iff ok G.ho).mpr G.st
  refine ⟨_, rfl, _, rfl, wi, ns, ls, .ref t2, rfl, W7, .tup et7a, tup_its et7a (by rw [G.ho.len]; omega), fun hf => absurd (hf.symm.trans (holds_yes et7a G.ho ok)) (by decide), fun hs2 e2 _ H8 s8 => ?_⟩
  rw [same_hs et7a e2, sB]
  refine ⟨_, _, rfl, rfl, false, congrArg V.bl (by simp), iteF ?_⟩
  have s08 := s07.trans s8
  have et8 := s8 _ _ et7a
  have eh8 := s08 _ _ R.et
  refine ⟨_, rfl, _, rfl, _, rfl, wi, t2, t, ns, ls, hs7, hs, rfl, W.same s08, et8, eh8, G.ho, ho, fun H9 s9 => ?_⟩
  rw [G.wi]
  refine ⟨_, _, rfl, rfl, false, congrArg V.bl (by simp), iteF ?_⟩
  have s09 := s08.trans s9
  have et9 := s9 _ _ et8
  have eh9 := s09 _ _ R.et
  refine ⟨_, rfl, _, rfl, dH hs7, dH hs, dp_dH et9, dp_dH eh9, sh_dH _, sh_dH _, false, congrArg V.bl (by rw [eqv_dH, decide_eq_false G.ne]), iteF ?_⟩
  -- nobody held by the same
  refine ⟨_, rfl, t2, rfl, ⟨_, SqT.of et9⟩, fun D nD => ?_⟩
  refine lc_same (walk_tup (K := K) (a := t2) (xs := VH hs7)) (by rw [VH_len, G.ho.len]; omega) (fun i => .bl (ha hs7 i).isNone) nD (fun _ sm => SqT.of (sm _ _ et9)) ?_ ?_
  · rintro i x Ha Hb Z out hi sm ⟨rfl, ex⟩
    obtain ⟨o, eo, rfl⟩ := VH_at ex
    have hh : ha hs7 i = o := by unfold ha; rw [List.getD_eq_getElem?_getD, eo]; rfl
    refine gn ⟨rfl, _, rfl, rfl, ?_⟩
    rw [hv_non, ← hh]
    exact out _ same_rfl
  intro Ha sa eD
  have eha := sa _ _ eh9
  refine ⟨_, rfl, t, rfl, ⟨_, SqT.of eha⟩, fun D2 nD2 => ?_⟩
  refine lc_same (walk_tup (K := K) (a := t) (xs := VH hs)) (by rw [VH_len, ho.len]; omega) (fun i => .bl (ha hs i).isNone) nD2 (fun _ sm => SqT.of (sm _ _ eha)) ?_ ?_
  · rintro i x Hb Hc Z out hi sm ⟨rfl, ex⟩
    obtain ⟨o, eo, rfl⟩ := VH_at ex
    have hh : ha hs i = o := by unfold ha; rw [List.getD_eq_getElem?_getD, eo]; rfl
    refine gn ⟨rfl, _, rfl, rfl, ?_⟩
    rw [hv_non, ← hh]
    exact out _ same_rfl
  intro Hb sb eD2
  have e1 : Hb D = some (.lst (((List.range ls.length).map fun i => (ha hs i).isNone).map V.bl)) := by
    rw [sb _ _ eD, VH_len, G.ho.len, List.map_map]
    refine congrArg (fun z => some (HO.lst z)) (List.map_congr_left fun i hi => ?_)
    show V.bl _ = V.bl _
    rw [show (ha hs7 i).isNone = (ha hs i).isNone by rw [Bool.eq_iff_iff, Option.isNone_iff_eq_none, Option.isNone_iff_eq_none]; exact G.non i (List.mem_range.mp hi)]
  have e2 : Hb D2 = some (.lst (((List.range ls.length).map fun i => (ha hs i).isNone).map V.bl)) := by
    rw [eD2, VH_len, ho.len, List.map_map]
    rfl
  refine ⟨dB _, dB _, dp_dB e1, dp_dB e2, sh_dB _, sh_dB _, false, congrArg V.bl (by rw [eqv_same (sh_dB _)]; rfl), iteF ?_⟩
  have s0b := s09.trans (sa.trans sb)
  have s7b := s8.trans (s9.trans (sa.trans sb))
  have Rb := R.same s0b
  have etb := s7b _ _ et7a
  -- later, firsts
  refine ⟨_, rfl, _, rfl, a, t2, ls, hs7, rfl, Rb.lx, etb, G.ho, ok, by omega, fun lf2 Hc sc llf2 => ?_⟩
  have s0c := s0b.trans sc
  refine ⟨_, rfl, _, rfl, wi, t2, ns, ls, hs7, rfl, W.same s0c, sc _ _ etb, G.ho, fun r Hd sd er => ⟨_, _, rfl, ?_⟩⟩
  dsimp only [List.set]
  have s0d := s0c.trans sd
  obtain ⟨as, L1⟩ := LeftAt.of (llf'.same (s57.trans (s7b.trans (sc.trans sd))))
  obtain ⟨as2, L2'⟩ := LeftAt.of (llf2.same sd)
  have Rd' := R.same s0d
  have Wd := W.same s0d
  have etd := (sc.trans sd) _ _ etb
  obtain ⟨xsL, eaL, xlL⟩ := Rd'.lx.lt.len
  have llfd := llf2.same sd
  refine ⟨_, rfl, a, _, rfl, .inr (SqT.of eaL), ?_⟩
  rw [xlL]
  refine ⟨_, rfl, by omega, by omega, for_it (J := Itr 0 ls.length) (n := ls.length) walk_range0 (fun i σ H' => ∃ y9 : Option V, σ = [some (.ref wi), some (.ref a), some (.ref t), some (.ref u), some (.ref t2), some (.ref t3), some (.ref lf), some (.ref lf2), some (.ref r), y9, none] ∧ Same Hd H')
    ⟨none, rfl, same_rfl⟩ (fun _ _ _ _ _ => trivial) ?_ ?_⟩
  · rintro i x σ He' He hi ⟨y9, rfl, se⟩ ⟨rfl, rfl⟩
    refine gn ?_
    dsimp only [List.set]
    obtain ⟨b1, eb1, t1⟩ := L1.row i hi
    obtain ⟨b2, eb2, t2'⟩ := L2'.row i hi
    have A1 : ∀ {HZ}, Same He HZ → SqT K HZ lf (as.map V.ref) := fun s => SqT.of ((se.trans s) _ _ L1.e)
    have A2 : ∀ {HZ}, Same He HZ → SqT K HZ lf2 (as2.map V.ref) := fun s => SqT.of ((se.trans s) _ _ L2'.e)
    have B1 : ∀ {HZ}, Same He HZ → Tp HZ b1 (VI (leftL ls hs i)) := fun s => t1.same (se.trans s)
    have B2 : ∀ {HZ}, Same He HZ → Tp HZ b2 (VI (leftL ls hs7 i)) := fun s => t2'.same (se.trans s)
    have a1 : atI (as.map V.ref) (i : Int) = some (.ref b1) := atI_nat (by rw [List.getElem?_map, eb1]; rfl)
    have a2 : atI (as2.map V.ref) (i : Int) = some (.ref b2) := atI_nat (by rw [List.getElem?_map, eb2]; rfl)
    refine ⟨_, rfl, _, rfl, lf, _, _, _, rfl, rfl, A1 same_rfl, a1, (by show 0 ≤ sizeLine; decide), fun z nz => ?_⟩
    have sz := same_upd (o := .tup []) nz
    refine ⟨dI (leftL ls hs i), .tuple [], dp_dI (B1 sz), .tup (SqT.of upd_same) .nil, sh_dI _, by decide, _, rfl, ?_⟩
    rw [eqv_dI_nil]
    cases el : leftL ls hs i with
    | nil =>
      have el2 := (G.empty i hi).mp el
      refine iteT ?_
      refine ⟨_, rfl, _, rfl, lf, _, _, _, rfl, rfl, A1 sz, a1, _, rfl, _, rfl, lf2, _, _, _, rfl, rfl, A2 sz, a2, dI (leftL ls hs i), dI (leftL ls hs7 i), dp_dI (B1 sz), dp_dI (B2 sz), sh_dI _, sh_dI _, false, congrArg V.bl (by rw [eqv_dI, el, el2]; rfl), iteF ?_⟩
      exact ⟨_, rfl, se.trans sz⟩
    | cons f0 ft =>
      have el2 : leftL ls hs7 i ≠ [] := fun z => by
        rw [(G.empty i hi).mpr z] at el
        cases el
      refine iteF ?_
      refine ⟨_, rfl, _, rfl, lf2, _, _, _, rfl, rfl, A2 sz, a2, (by show 0 ≤ sizeLine; decide), fun z2 nz2 => ?_⟩
      have sz2 := sz.trans (same_upd (o := .tup []) nz2)
      refine ⟨dI (leftL ls hs7 i), .tuple [], dp_dI (B2 sz2), .tup (SqT.of upd_same) .nil, sh_dI _, by decide, _, rfl, ?_⟩
      rw [eqv_dI_nil]
      obtain ⟨g0, gt, eg⟩ : ∃ g0 gt, leftL ls hs7 i = g0 :: gt := by
        cases e : leftL ls hs7 i with
        | nil => exact absurd e el2
        | cons g0 gt => exact ⟨g0, gt, rfl⟩
      have fst2 : fst ls hs7 i = some g0 := by unfold fst; rw [eg]; rfl
      have fst1 : fst ls hs i = some f0 := by unfold fst; rw [el]; rfl
      rw [eg]
      refine iteF ?_
      have ra := B2 sz2
      rw [eg] at ra
      refine ⟨_, rfl, _, rfl, lf2, _, _, _, rfl, rfl, A2 sz2, a2, b2, _, 0, .int (g0 : Nat), rfl, rfl, ra.sq, atI_nat (j := 0) rfl, ?_⟩
      refine ⟨_, rfl, _, rfl, lf, _, _, _, rfl, rfl, A1 sz2, a1, _, rfl, _, rfl, u, _, rfl, .inl (SqL.of ((s0d.trans (se.trans sz2)) _ _ R.eu)), rfl, flat_VI _, ?_⟩
      rw [inV_VI]
      have key : atI (VI (leftL ls hs i)) (if decide (i ∈ ringL (gF ls hs) p m) = true then 1 else 0) = some (.int (g0 : Nat)) := by
        by_cases c : i ∈ ringL (gF ls hs) p m
        · have h1 := G.ring i c
          rw [fst2] at h1
          have h2 := (R.two c).2
          rw [if_pos (decide_eq_true c)]
          refine atI_nat (j := 1) (VI_get ?_)
          rw [Option.some.inj h1]
          unfold sF
          rw [List.getD_eq_getElem?_getD, List.getElem?_eq_getElem (by omega)]
          rfl
        · have h1 := G.other i f0 hi c fst1
          rw [fst2] at h1
          rw [if_neg (by rw [decide_eq_false c]; decide), el, Option.some.inj h1]
          exact atI_nat (j := 0) rfl
      refine .inr ⟨_, rfl, b1, _, _, .int (g0 : Nat), rfl, rfl, (B1 sz2).sq, key, rfl, false, congrArg V.bl (by simp), iteF ?_⟩
      have fi : (VH (firsts ls hs7))[i]? = some (.int (g0 : Nat)) := VH_get (o := some g0) (by unfold firsts; rw [List.getElem?_map, List.getElem?_range hi]; exact congrArg some fst2)
      refine ⟨_, rfl, _, rfl, r, _, _, _, rfl, rfl, SqT.of ((se.trans sz2) _ _ er), atI_nat fi, ?_⟩
      refine ⟨_, rfl, _, rfl, lf2, _, _, _, rfl, rfl, A2 sz2, a2, b2, _, 0, .int (g0 : Nat), rfl, rfl, ra.sq, atI_nat (j := 0) rfl, rfl, false, congrArg V.bl (by simp), iteF ?_⟩
      have lh := last_held ok G.ho G.st hi
      rcases list_end (g0 :: gt) with h | ⟨ys, zl, hz⟩
      · cases h
      rw [eg, hz, List.getLast?_append] at lh
      have lh : ha hs7 i = some zl := lh.symm
      have ti : (VH hs7)[i]? = some (.int (zl : Nat)) := VH_get (o := some zl) (by rw [ha_get (by rw [G.ho.len]; exact hi), lh])
      rw [hz, VI_app] at ra
      refine ⟨_, rfl, _, rfl, lf2, _, _, _, rfl, rfl, A2 sz2, a2, _, rfl, b2, _, -1, .int (zl : Nat), rfl, rfl, ra.sq, atI_last _ _, ?_⟩
      refine ⟨_, rfl, _, rfl, t2, _, _, _, rfl, rfl, SqT.of ((se.trans sz2) _ _ etd), atI_nat ti, rfl, false, congrArg V.bl (by simp), iteF ?_⟩
      exact ⟨_, rfl, se.trans sz2⟩
  · rintro σ He ⟨y9, rfl, se⟩
    have s0e := s0d.trans se
    refine ⟨_, rfl, _, rfl, wi, t2, ns, ls, hs7, rfl, W.same s0e, se _ _ etd, G.ho, fun r3 Hf sf l3 => ⟨_, rfl, dL _, dL _, dp_dL l3, dp_dL (llfd.same (se.trans sf)), sh_dL _, sh_dL _, ?_⟩⟩
    rw [eqv_same (sh_dL _)]
    exact q _ (s0e.trans sf)
end
end K14
namespace K14
open PySem PySem.Spec PyProof.Rows L2
def spOddRight (C : Addr) (T : List (Addr × Str)) : Sp := fun vs H Q _ => ∃ (wi a t u : Addr) (ns ls : List (List Nat)) (hs : List (Option Nat)) (p m : Nat), vs = [.ref wi, .ref a, .ref t, .ref u] ∧ WAt C H wi ns ls ∧ RgAt H a t u ls hs p m ∧ oddB (leftA ls hs) (prs ls hs (ringL (gF ls hs) p m)) = true ∧ LamX.Tabs T H ∧
  ∀ H', LamX.ExtN H H' → LamX.Tabs T H' → Q (.bl true) H'
theorem scOddR : FnScope ["wishes", "lists", "holds", "ring", "left", "person", "found", "turn", "told"] ["wishes", "lists", "holds", "ring"] (defScope sLOddRight) := ⟨rfl, rfl, rfl, by decide +kernel, rfl, by decide +kernel, by decide +kernel⟩
def dSO : PyData := .tuple [.str "refused", .str "odd"]
theorem dp_dSO {K : PySem.W.Frag} {H : Hp} {a : Addr} (e : H a = some (.tup [.str "refused", .str "odd"])) : Dp K H (.ref a) dSO := .tup (SqT.of e) (.cons (.str _) (.cons (.str _) .nil))
theorem sh_dSO : SeqAt.shaped dSO = true := by decide +kernel
structure HasX (P : Program) (w : World) (K : PySem.W.Frag) (mg : Str → Option Value) (base : Heap) (CX : CXT) (k : Nat) (x : Str) (ps : List Str) (sp : Sp) (f : Addr) (fd : FuncData) : Prop where
  ok : FnOk P w K mg base CX k f fd ps sp
  b : Binds K fd ps []
  k : PySem.W.keepIn K (.ref f) = true
  m : mg x = some (.ref f)
/-- what a law's lambda is called -/
abbrev lamQ (x : Str) : Str := (x ++ ".<locals>.") ++ "<lambda>"
section
variable {P : Program} {w : World} {K : PySem.W.Frag} {mg : Str → Option Value} {base : Heap} {T : List (Addr × Str)}
set_option maxHeartbeats 1000000 in
theorem ok_odd_right {f f1 f2 f3 g c PT C CR CM fI : Addr} {fd d1 d2 d3 gd : FuncData} {k : Nat} (F : Fun K "_law_odd_right" "_law_odd_right" sLOddRight f fd) (hc : fd.code = .ref c) (G : HeardT K mg g gd) (ET : ErrT K mg CR CM fI) (TB : TabT T base mg c PT (lamQ "_law_odd_right"))
    (Te : Has P w K mg base (k + 2) "_law_told" ["lists", "holds", "ring"] spLTold f1 d1) (Lf : Has P w K mg base (k + 2) "_law_left" ["lists", "holds"] spLeft f2 d2) (Tx : HasX P w K mg base (L2.CX P w) k "turned_out" ["wishes", "holds", "ring"] (spTurnedX C CR) f3 d3)
    (mis : mg "isinstance" = none) (ml : mg "len" = none) (mrg : mg "range" = none) (mi : mg "int" = none) (mso : mg "sorted" = none) : FnOk P w K mg base CX0 (k + 3) f fd ["wishes", "lists", "holds", "ring"] (spOddRight C T) := by
  refine okC F hc scOddR (fun vs H Q E h => ?_) (fun A outer s H vs Q E hr h => ?_)
  · obtain ⟨wi, a, t, u, ns, ls, hs, p, m, rfl, _⟩ := h
    rfl
  obtain ⟨wi, a, t, u, ns, ls, hs, p, m, rfl, W, R, odd, tb, q⟩ := h
  refine ⟨_, pss_cons (ps_asg (pe_tup (pa_cons (pe_call Te.ok hr rfl Te.m Te.k Te.b .nil pass0 (pa_cons (pv 1) (pa_cons (pv 2) (pa_cons (pv 3) pa_nil)))) (pa_cons (pe_call Lf.ok hr rfl Lf.m Lf.k Lf.b .nil pass0 (pa_cons (pv 1) (pa_cons (pv 2) pa_nil))) pa_nil))) (pg_tup (by rfl) (pgs_cons (pg_name (i := 8) scOddR.nd rfl (.inr rfl)) (pgs_cons (pg_name (i := 4) scOddR.nd rfl (.inl rfl)) pgs_nil))))
      (pss_cons (ps_if (pt_cmpR (op_neD hr.units) (pe_heard G ET mis rfl TB rfl hr (LamX.lamS_by (sc := defScope sLOddRight) (by decide +kernel)) rfl (fun _ _ _ _ _ => rfl) (fun _ _ _ _ _ _ _ hr => pe_call Tx.ok hr rfl Tx.m Tx.k Tx.b .nil (passes_call (takes_of rfl rfl rfl rfl) (fun _ _ _ _ h => h)) (pa_cons (pv 0) (pa_cons (pv 2) (pa_cons (pv 8) pa_nil))))) (pe_tup (pa_cons pe_str (pa_cons pe_str pa_nil))) (nomark _)) (pss_one (ps_ret pe_bl)) pss_nil)
      (pss_cons (ps_if (PW.pt (pw_or (pt_cmpR op_ne (pe_op op_mod (pe_callTy call_int1 (by rfl) mi (by decide +kernel) (pa_cons (pe_callB call_len_seq (by rfl) ml PySem.boot_len (pa_cons (pv 3) pa_nil)) pa_nil)) pe_int) pe_int (nomark _)) (pw_or1 (pt_cmpR op_lt (pe_callB call_len_seq (by rfl) ml PySem.boot_len (pa_cons (pv 3) pa_nil)) pe_int (nomark _))))) (pss_one (ps_ret pe_bl)) pss_nil)
      (pss_cons (ps_par (i := 5) (j := 6) rfl scOddR.nd rfl rfl (by decide) rfl rfl (pa_cons (pe_ix ix_list (pv 3) pe_int (fun _ _ => rfl)) (pa_cons (pe_lst pa_nil) pa_nil)) (by rfl))
      (pss_cons (ps_for PassesOwn.never rfl (pi_range1 rfl mrg (pa_cons (pe_callB call_len_seq (by rfl) ml PySem.boot_len (pa_cons (pv 3) pa_nil)) pa_nil)) (pg_name (i := 7) scOddR.nd rfl (.inl rfl))
      (pss_cons (ps_expr (pe_bm PySem.F.plainAttrs_list PySem.F.slot_list_append PySem.F.type_list_append mt_append (pv 6) (pa_cons (pv 5) pa_nil)))
      (pss_cons (ps_if (PW.pt (pw_or (pt_cmpR op_ne (pe_ix ix_tup (pe_ix ix_tup (pv 4) (pe_ix ix_tup (pe_ix ix_tup (pv 4) (pv 5) (fun _ _ => rfl)) pe_int (fun _ _ => rfl)) (fun _ _ => rfl)) pe_int (fun _ _ => rfl)) (pv 5) (nomark _)) (pw_or (pt_cmpR op_ne (pe_callB call_len_seq (by rfl) ml PySem.boot_len (pa_cons (pe_ix ix_tup (pv 4) (pv 5) (fun _ _ => rfl)) pa_nil)) pe_int (nomark _)) (pw_or1 (pt_cmpR op_ne (pe_ix ix_tup (pe_ix ix_tup (pv 4) (pv 5) (fun _ _ => rfl)) pe_int (fun _ _ => rfl)) (pe_ix ix_tup (pv 2) (pv 5) (fun _ _ => rfl)) (nomark _)))))) (pss_one (ps_ret pe_bl)) pss_nil)
      (pss_one (ps_set (i := 5) scOddR.nd rfl (.inl rfl) (pe_ix ix_tup (pe_ix ix_tup (pv 4) (pv 5) (fun _ _ => rfl)) pe_int (fun _ _ => rfl)))))))
      (pss_one (ps_ret (pe_and (pe_cmpR op_eq (pv 5) (pe_ix ix_list (pv 3) pe_int (fun _ _ => rfl)) (nomark _)) (pe_one (pe_cmpR (op_eqD hr.units) (pe_callB cr_sorted (by rfl) mso (by decide +kernel) (pa_cons (pv 6) pa_nil)) (pe_callB cr_sorted (by rfl) mso (by decide +kernel) (pa_cons (pv 3) pa_nil)) (nomark _)))))))))), ?_⟩
  have n60 := R.n60
  have ok := R.ok
  have ho := R.ho
  have st := R.st
  have hp := R.hp
  have cy := R.cy
  have rl := R.len
  have two := orb_two ok ho hp cy
  have O := odd_ring ok ho st hp cy ((odd_iff ok ho st hp cy).mp odd)
  have Wk := odd_walk cy O
  have pl : (prs ls hs (ringL (gF ls hs) p m)).length = m := by unfold prs; rw [List.length_map, ringL_len]
  have inx : ∀ x ∈ prs ls hs (ringL (gF ls hs) p m), x.1 < ls.length := fun x hx => by
    unfold prs at hx
    obtain ⟨y, hy, rfl⟩ := List.mem_map.mp hx
    obtain ⟨k, _, rfl⟩ := ringL_mem.mp hy
    exact (two k).1
  refine ⟨_, rfl, _, rfl, _, rfl, a, t, u, ls, hs, p, m, rfl, R, fun c1 H1 s1 rp1 => ?_⟩
  have R1 := R.same s1
  refine ⟨_, rfl, _, rfl, a, t, ls, hs, rfl, R1.lx, R1.et, ho, ok, by omega, fun lf H2 s2 llf => ⟨(by show 2 ≤ sizeLine; decide), fun U nU => ⟨U, _, rfl, SqT.of upd_same, rfl, _, _, rfl, gn ⟨_, _, rfl, gn ⟨rfl, ?_⟩⟩⟩⟩⟩
  dsimp only [List.set, L2.start]
  have sU := same_upd (o := .tup [.ref c1, .ref lf]) nU
  have s23 := s2.trans sU
  have s03 := s1.trans s23
  have llf3 := llf.same sU
  have rp3 := rp1.same s23
  generalize upd H2 U (.tup [.ref c1, .ref lf]) = H3 at s03 llf3 rp3
  -- heard
  refine ⟨tb.ext s03, fun H4 x4 tb4 => ?_⟩
  have x04 := (xn_of s03).trans x4
  refine ⟨_, rfl, _, rfl, _, rfl, wi, t, c1, ns, ls, hs, _, rfl, W.ext x04, XN.tup x04 R.et, ho, rp3.ext x4, by omega, inx, odd, fun dd H5 s5 ed => ⟨rfl, dd, _, rfl, ed, fun pp npp => ?_⟩⟩
  have sP := same_upd (o := .tup [.str "refused", .str "odd"]) npp
  have eP : (upd H5 pp (.tup [.str "refused", .str "odd"])) pp = some (.tup [.str "refused", .str "odd"]) := upd_same
  have x06 := x04.trans (xn_of (s5.trans sP))
  have tb6 := tb4.ext (s5.trans sP)
  have llf6 := (llf3.ext x4).same (s5.trans sP)
  generalize upd H5 pp (.tup [.str "refused", .str "odd"]) = H6 at sP eP x06 tb6 llf6
  refine ⟨(by show 2 ≤ sizeLine; decide), fun z nz => ?_⟩
  have sz := same_upd (o := .tup [.str "refused", .str "odd"]) nz
  refine ⟨dSO, dSO, dp_dSO (sz _ _ eP), dp_dSO upd_same, sh_dSO, sh_dSO, false, rfl, iteF ?_⟩
  have x07 := x06.trans (xn_of sz)
  have tb7 := tb6.ext sz
  have llf7 := llf6.same sz
  generalize upd H6 z (.tup [.str "refused", .str "odd"]) = H7 at x07 tb7 llf7
  have R7 := R.ext x07
  have ek := R7.eu
  have rlen : (VI (ringL (gF ls hs) p m)).length = m := by rw [VI_len, ringL_len]
  refine ⟨_, rfl, u, _, rfl, .inl (SqL.of ek), ?_⟩
  rw [rlen]
  refine .inl ⟨_, rfl, _, _, rfl, rfl, (by show (0 : Int) < 2; decide), rfl, false, congrArg V.bl (by have := O.odd; simp; omega), iteF ?_⟩
  refine ⟨_, rfl, u, _, rfl, .inl (SqL.of ek), ?_⟩
  rw [rlen]
  refine ⟨_, _, rfl, rfl, false, congrArg V.bl (decide_eq_false (by have := O.three; omega)), iteF ?_⟩
  -- the walk
  have m1 := cy.one
  have r0 : (VI (ringL (gF ls hs) p m))[0]? = some (.int (p : Nat)) := by
    refine VI_get ?_
    unfold ringL
    rw [List.getElem?_map, List.getElem?_range (by omega)]
    rfl
  refine ⟨_, rfl, u, _, 0, _, rfl, rfl, SqL.of ek, atI_nat (j := 0) r0, (by show 0 ≤ sizeLine; decide), fun D nD => ⟨_, _, rfl, ?_⟩⟩
  dsimp only [List.set]
  have sD := same_upd (o := .lst []) nD
  obtain ⟨as, L⟩ := LeftAt.of llf7
  have eD0 : (upd H7 D (.lst [])) D = some (.lst []) := upd_same
  generalize upd H7 D (.lst []) = H8 at sD eD0
  refine ⟨_, rfl, u, _, rfl, .inl (SqL.of (sD _ _ ek)), ?_⟩
  rw [rlen]
  have il : ∀ i, it (fF ls hs) i p < ls.length := fun i => (R.two (Wk.on i)).1
  refine ⟨_, rfl, by omega, by omega, for_it (J := Itr 0 m) (n := m) walk_range0 (fun i σ H' => ∃ y7 : Option V, σ = [some (.ref wi), some (.ref a), some (.ref t), some (.ref u), some (.ref lf), some (.int (it (fF ls hs) i p : Nat)), some (.ref D), y7, some (.ref c1)] ∧ Same H7 H' ∧ H' D = some (.lst (VI ((List.range i).map fun j => it (fF ls hs) j p))))
    ⟨none, rfl, sD, eD0⟩ (fun _ _ _ _ _ => trivial) ?_ ?_⟩
  · rintro i x σ Ha' Ha hi ⟨y7, rfl, sa, eD⟩ ⟨rfl, rfl⟩
    refine gn ?_
    dsimp only [List.set]
    refine ⟨_, rfl, .inl ⟨rfl, _, SqL.of eD⟩, _, rfl, D, _, _, rfl, rfl, eD, by rw [VI_len]; simp only [List.length_map, List.length_range]; exact sz6 (by omega), ?_⟩
    have sb : Same H7 (upd Ha D (.lst (VI ((List.range i).map fun j => it (fF ls hs) j p) ++ [.int (it (fF ls hs) i p : Nat)]))) := sa.fresh nD
    have eDb : (upd Ha D (.lst (VI ((List.range i).map fun j => it (fF ls hs) j p) ++ [.int (it (fF ls hs) i p : Nat)]))) D = some (.lst (VI ((List.range (i + 1)).map fun j => it (fF ls hs) j p))) := by
      rw [upd_same, List.range_succ, List.map_append, VI_app]
      rfl
    generalize upd Ha D (.lst (VI ((List.range i).map fun j => it (fF ls hs) j p) ++ [.int (it (fF ls hs) i p : Nat)])) = Hb at sb eDb
    have xl := il i
    obtain ⟨k, hk, ek2'⟩ := ringL_mem.mp (Wk.on i)
    have ek2 := ek2'.symm
    obtain ⟨b1, eb1, t1⟩ := L.row _ (il i)
    obtain ⟨b2, eb2, t2⟩ := L.row _ (il (i + 1))
    have T1 := (t1.same sb).sq (K := K)
    have T2 := (t2.same sb).sq (K := K)
    have A1 : SqT K Hb lf (as.map V.ref) := SqT.of (sb _ _ L.e)
    have a1 : atI (as.map V.ref) ((it (fF ls hs) i p : Nat) : Int) = some (.ref b1) := atI_nat (by rw [List.getElem?_map, eb1]; rfl)
    have a2 : atI (as.map V.ref) ((it (fF ls hs) (i + 1) p : Nat) : Int) = some (.ref b2) := atI_nat (by rw [List.getElem?_map, eb2]; rfl)
    have l1 : (leftL ls hs (it (fF ls hs) i p)).length = 2 := by rw [ek2]; exact O.two k
    have l2 : (leftL ls hs (it (fF ls hs) (i + 1) p)).length = 2 := by
      obtain ⟨k', _, ek'⟩ := ringL_mem.mp (Wk.on (i + 1))
      rw [← ek']
      exact O.two k'
    have f1 : atI (VI (leftL ls hs (it (fF ls hs) i p))) 0 = some (.int (it (fF ls hs) (i + 1) p : Nat)) := atI_nat (j := 0) (VI_get (by rw [← List.head?_eq_getElem?, it_one]; exact head_some (by omega)))
    have sec : ∀ x, (leftL ls hs x).length = 2 → atI (VI (leftL ls hs x)) 1 = some (.int (sF ls hs x : Nat)) := fun x hx => atI_nat (j := 1) (VI_get (by unfold sF; rw [List.getD_eq_getElem?_getD, List.getElem?_eq_getElem (by omega)]; rfl))
    have s2' := sec _ l2
    rw [Wk.s i] at s2'
    have hold : (VH hs)[it (fF ls hs) i p]? = some (.int (sF ls hs (it (fF ls hs) i p) : Nat)) := VH_get (o := some _) (by rw [ha_get (by rw [ho.len]; exact il i), ek2, O.held k])
    -- the second one of the first one
    refine ⟨_, rfl, _, rfl, _, rfl, lf, _, _, _, rfl, rfl, A1, a1, b1, _, 0, _, rfl, rfl, T1, f1, lf, _, _, _, rfl, rfl, A1, a2, b2, _, 1, _, rfl, rfl, T2, s2', _, rfl, rfl, false, congrArg V.bl (by simp), iteF ?_⟩
    refine ⟨_, rfl, _, rfl, lf, _, _, _, rfl, rfl, A1, a1, b1, _, rfl, .inr T1, rfl, false, congrArg V.bl (by rw [VI_len, l1]; rfl), iteF ?_⟩
    refine ⟨_, rfl, _, rfl, lf, _, _, _, rfl, rfl, A1, a1, b1, _, 1, _, rfl, rfl, T1, sec _ l1, _, rfl, _, rfl, t, _, _, _, rfl, rfl, SqT.of (sb _ _ R7.et), atI_nat hold, rfl, false, congrArg V.bl (by simp), iteF ?_⟩
    refine ⟨_, rfl, _, rfl, lf, _, _, _, rfl, rfl, A1, a1, b1, _, 0, _, rfl, rfl, T1, f1, gn ?_⟩
    dsimp only [List.set]
    exact ⟨_, rfl, sb, eDb⟩
  · rintro σ Ha ⟨y7, rfl, sa, eD⟩
    have eu := sa _ _ ek
    refine ⟨_, rfl, _, rfl, u, _, 0, _, rfl, rfl, SqL.of eu, atI_nat (j := 0) r0, rfl, ?_⟩
    rw [Wk.back]
    refine ⟨true, congrArg V.bl (by simp), iteT ?_⟩
    have vi : ∀ s : List Nat, VI s = (s.map fun j => ((j : Nat) : Int)).map V.int := fun s => by
      unfold VI
      rw [List.map_map]
      rfl
    have pz : ((((List.range m).map fun j => it (fF ls hs) j p).map fun j => ((j : Nat) : Int))).Perm ((ringL (gF ls hs) p m).map fun j => ((j : Nat) : Int)) := Wk.perm.map _
    rw [vi] at eD
    rw [vi] at eu
    refine ⟨_, rfl, D, _, rfl, SqL.of eD, by simp; omega, fun n1 q1 p1 a1 nq1 => ?_⟩
    have sq1 := same_upd (o := .lst (n1.map V.int)) nq1
    refine ⟨_, rfl, u, _, rfl, SqL.of (sq1 _ _ eu), by rw [List.length_map, ringL_len]; omega, fun n2 q2 p2 a2 nq2 => ?_⟩
    have sq2 := same_upd (o := .lst (n2.map V.int)) nq2
    have e12 : n1 = n2 := asc_uniq (p1.trans (pz.trans p2.symm)) a1 a2
    subst e12
    refine ⟨dZ n1, dZ n1, dp_dZ (sq2 _ _ upd_same), dp_dZ upd_same, sh_dZ _, sh_dZ _, ?_⟩
    rw [eqv_same (sh_dZ _)]
    exact q _ (x07.trans (xn_of (sa.trans (sq1.trans sq2)))) (tb7.ext (sa.trans (sq1.trans sq2)))
end
end K14
/-! tuples that are written out: what stands behind them, said once -/
namespace K14
open PySem PySem.Spec PyProof.Rows L2
def PC (c : V) : Hp → V → Prop := fun _ v => v = c
def PT (P : Hp → List V → Prop) : Hp → V → Prop := fun H v => ∃ p xs, v = .ref p ∧ H p = some (.tup xs) ∧ P H xs
def PNl : Hp → List V → Prop := fun _ xs => xs = []
def PCn (P : Hp → V → Prop) (R : Hp → List V → Prop) : Hp → List V → Prop := fun H xs => ∃ x r, xs = x :: r ∧ P H x ∧ R H r
structure LitE (t : TE) (P : Hp → V → Prop) : Prop where
  mono : ∀ H H' v, P H v → Same H H' → P H' v
  run : ∀ σ H (Q : VK), (∀ v H', Same H H' → P H' v → Q v H') → t σ H Q
structure LitA (t : TA) (n : Nat) (P : Hp → List V → Prop) : Prop where
  mono : ∀ H H' v, P H v → Same H H' → P H' v
  len : ∀ H xs, P H xs → xs.length = n
  run : ∀ σ H (Q : List V → Hp → Prop), (∀ xs H', Same H H' → P H' xs → Q xs H') → t σ H Q
theorem lC {c : V} : LitE (tC c) (PC c) := ⟨fun _ _ _ h _ => h, fun _ H _ q => q _ H (Same.refl H) rfl⟩
theorem lNil : LitA tNil 0 PNl := ⟨fun _ _ _ h _ => h, fun _ _ h => by rw [h]; rfl, fun _ H _ q => q _ H (Same.refl H) rfl⟩
theorem lCons {t : TE} {P : Hp → V → Prop} {ts : TA} {n : Nat} {R : Hp → List V → Prop} (a : LitE t P) (r : LitA ts n R) : LitA (tCons t ts) (n + 1) (PCn P R) where
  mono := fun H H' v ⟨x, xs, e, h1, h2⟩ s => ⟨x, xs, e, a.mono _ _ _ h1 s, r.mono _ _ _ h2 s⟩
  len := fun H xs ⟨x, ys, e, _, h2⟩ => by rw [e, List.length_cons, r.len _ _ h2]
  run := fun σ H Q q => a.run σ H _ fun x H1 s1 p1 => r.run σ H1 _ fun xs H2 s2 p2 => q _ H2 (s1.trans s2) ⟨x, xs, rfl, a.mono _ _ _ p1 s2, p2⟩
theorem lTup {ts : TA} {n : Nat} {R : Hp → List V → Prop} (r : LitA ts n R) (h : n ≤ 1000 := by decide) : LitE (tTup ts) (PT R) where
  mono := fun H H' v ⟨p, xs, e, h1, h2⟩ s => ⟨p, xs, e, s _ _ h1, r.mono _ _ _ h2 s⟩
  run := fun σ H Q q => r.run σ H _ fun xs H1 s1 p1 => ⟨by rw [r.len _ _ p1]; exact Nat.le_trans h (by rw [sizeLine_eq]; decide), fun p np => by
    have s2 : Same H1 (upd H1 p (.tup xs)) := fun b x e => by
      rw [upd_ne (ne_of_none e np)]
      exact e
    exact q _ _ (s1.trans s2) ⟨p, xs, rfl, upd_same, r.mono _ _ _ p1 s2⟩⟩
end K14
namespace K14
open PySem PySem.Spec PyProof.Rows L2
/-! ### the wishes that the law writes out -/
def lsW : List (List Nat) := [[1, 3, 2], [2, 0, 3], [3, 1, 0], [0, 2, 1]]
def nsW : List (List Nat) := [[97], [98], [99], [100]]
theorem okW : ListsOk lsW.length lsW := lists_of (by decide +kernel)
theorem nokW : NamesOk lsW.length nsW := names_look (ns := nsW) (by decide +kernel)
theorem VNW : VN nsW = [.str "a", .str "b", .str "c", .str "d"] := by
  unfold VN nsW
  have e : ∀ (s : List Nat) (x : Str), x = SS s → V.str (SS s) = V.str x := fun s x h => by rw [h]
  simp only [List.map_cons, List.map_nil]
  rw [e [97] "a" (by decide +kernel), e [98] "b" (by decide +kernel), e [99] "c" (by decide +kernel), e [100] "d" (by decide +kernel)]
def hWA : List (Option Nat) := [some 3, some 0, some 1, some 2]
def hWB : List (Option Nat) := [some 3, some 2, some 1, some 0]
def hWC : List (Option Nat) := [some 1, some 0, some 3, some 2]
theorem hokA : HoldsOk lsW hWA := holds_of (by decide +kernel)
theorem hokB : HoldsOk lsW hWB := holds_of (by decide +kernel)
theorem hokC : HoldsOk lsW hWC := holds_of (by decide +kernel)
theorem lt_four {H : Hp} {t r1 r2 r3 r4 : Addr} {s1 s2 s3 s4 : List Nat} (e : H t = some (.tup [.ref r1, .ref r2, .ref r3, .ref r4]))
    (e1 : H r1 = some (.tup (VI s1))) (e2 : H r2 = some (.tup (VI s2))) (e3 : H r3 = some (.tup (VI s3))) (e4 : H r4 = some (.tup (VI s4))) : LT H t [s1, s2, s3, s4] := by
  refine ⟨[r1, r2, r3, r4], e, rfl, fun i a s h1 h2 => ?_⟩
  match i, h1, h2 with
  | 0, h1, h2 => cases h1; cases h2; exact .inl e1
  | 1, h1, h2 => cases h1; cases h2; exact .inl e2
  | 2, h1, h2 => cases h1; cases h2; exact .inl e3
  | 3, h1, h2 => cases h1; cases h2; exact .inl e4
  | _ + 4, h1, h2 => cases h1
/-- tuples of numbers, written out -/
abbrev pI (n : Int) : Hp → V → Prop := PC (.int n)
theorem pt4 {H : Hp} {v : V} {a b c d : Int} (h : PT (PCn (pI a) (PCn (pI b) (PCn (pI c) (PCn (pI d) PNl)))) H v) : ∃ p, v = .ref p ∧ H p = some (.tup [.int a, .int b, .int c, .int d]) := by
  obtain ⟨p, xs, rfl, e, x1, r1, rfl, rfl, x2, r2, rfl, rfl, x3, r3, rfl, rfl, x4, r4, rfl, rfl, rfl⟩ := h
  exact ⟨p, rfl, e⟩
theorem pt3 {H : Hp} {v : V} {a b c : Int} (h : PT (PCn (pI a) (PCn (pI b) (PCn (pI c) PNl))) H v) : ∃ p, v = .ref p ∧ H p = some (.tup [.int a, .int b, .int c]) := by
  obtain ⟨p, xs, rfl, e, x1, r1, rfl, rfl, x2, r2, rfl, rfl, x3, r3, rfl, rfl, rfl⟩ := h
  exact ⟨p, rfl, e⟩
theorem pt2 {H : Hp} {v : V} {a b : Int} (h : PT (PCn (pI a) (PCn (pI b) PNl)) H v) : ∃ p, v = .ref p ∧ H p = some (.tup [.int a, .int b]) := by
  obtain ⟨p, xs, rfl, e, x1, r1, rfl, rfl, x2, r2, rfl, rfl, rfl⟩ := h
  exact ⟨p, rfl, e⟩
theorem rp_two {H : Hp} {v : V} {a b c d : Nat} (h : PT (PCn (PT (PCn (pI a) (PCn (pI b) PNl))) (PCn (PT (PCn (pI c) (PCn (pI d) PNl))) PNl)) H v) : ∃ p, v = .ref p ∧ RP H p [(a, b), (c, d)] := by
  obtain ⟨p, xs, rfl, e, x1, r1, rfl, h1, x2, r2, rfl, h2, rfl⟩ := h
  obtain ⟨p1, rfl, e1⟩ := pt2 h1
  obtain ⟨p2, rfl, e2⟩ := pt2 h2
  refine ⟨p, rfl, [p1, p2], e, rfl, fun j u x h1 h2 => ?_⟩
  match j, h1, h2 with
  | 0, h1, h2 => cases h1; cases h2; exact e1
  | 1, h1, h2 => cases h1; cases h2; exact e2
  | _ + 2, h1, h2 => cases h1
theorem rp_three {H : Hp} {v : V} {a b c d e f : Nat} (h : PT (PCn (PT (PCn (pI a) (PCn (pI b) PNl))) (PCn (PT (PCn (pI c) (PCn (pI d) PNl))) (PCn (PT (PCn (pI e) (PCn (pI f) PNl))) PNl))) H v) : ∃ p, v = .ref p ∧ RP H p [(a, b), (c, d), (e, f)] := by
  obtain ⟨p, xs, rfl, e, x1, r1, rfl, h1, x2, r2, rfl, h2, x3, r3, rfl, h3, rfl⟩ := h
  obtain ⟨p1, rfl, e1⟩ := pt2 h1
  obtain ⟨p2, rfl, e2⟩ := pt2 h2
  obtain ⟨p3, rfl, e3⟩ := pt2 h3
  refine ⟨p, rfl, [p1, p2, p3], e, rfl, fun j u x h1 h2 => ?_⟩
  match j, h1, h2 with
  | 0, h1, h2 => cases h1; cases h2; exact e1
  | 1, h1, h2 => cases h1; cases h2; exact e2
  | 2, h1, h2 => cases h1; cases h2; exact e3
  | _ + 3, h1, h2 => cases h1
theorem pt3n {H : Hp} {v : V} {a b c : Int} (h : PT (PCn (pI a) (PCn (pI b) (PCn (pI c) (PCn (PC .non) PNl)))) H v) : ∃ p, v = .ref p ∧ H p = some (.tup [.int a, .int b, .int c, .non]) := by
  obtain ⟨p, xs, rfl, e, x1, r1, rfl, rfl, x2, r2, rfl, rfl, x3, r3, rfl, rfl, x4, r4, rfl, rfl, rfl⟩ := h
  exact ⟨p, rfl, e⟩
/-! ### and those with an odd ring -/
def lsO : List (List Nat) := [[1, 2, 3], [2, 0, 3], [0, 1, 3], [0, 1, 2]]
theorem okO : ListsOk lsO.length lsO := lists_of (by decide +kernel)
theorem nokO : NamesOk lsO.length nsW := names_look (ns := nsW) (by decide +kernel)
def hO : List (Option Nat) := [some 2, some 0, some 1, none]
theorem hokO : HoldsOk lsO hO := holds_of (by decide +kernel)
theorem oddO : oddB (leftA lsO hO) [(0, 1), (1, 2), (2, 0)] = true := by decide +kernel
theorem oddA : oddB (leftA lsW hWA) [(0, 1), (2, 3)] = false := by decide +kernel
theorem oddA2 : oddB (leftA lsW hWA) [(1, 2), (3, 0)] = false := by decide +kernel
theorem four_of {hs : List (Option Nat)} {a b c d : Option Nat} (l : hs.length = 4) (h0 : ha hs 0 = a) (h1 : ha hs 1 = b) (h2 : ha hs 2 = c) (h3 : ha hs 3 = d) : hs = [a, b, c, d] := by
  match hs, l with
  | [x, y, z, t], _ => rw [← h0, ← h1, ← h2, ← h3]; rfl
theorem pastA {hs' : List (Option Nat)} (P : Past hWA [(0, 1), (2, 3)] hs') : hs' = hWB :=
  four_of P.len (P.no 0 fun x hx => by simp at hx; rcases hx with rfl | rfl <;> decide) (P.yes 0 (0, 1) (2, 3) rfl rfl) (P.no 2 fun x hx => by simp at hx; rcases hx with rfl | rfl <;> decide) (P.yes 1 (2, 3) (0, 1) rfl rfl)
theorem pastA2 {hs' : List (Option Nat)} (P : Past hWA [(1, 2), (3, 0)] hs') : hs' = hWC :=
  four_of P.len (P.yes 1 (3, 0) (1, 2) rfl rfl) (P.no 1 fun x hx => by simp at hx; rcases hx with rfl | rfl <;> decide) (P.yes 0 (1, 2) (3, 0) rfl rfl) (P.no 3 fun x hx => by simp at hx; rcases hx with rfl | rfl <;> decide)
/-- a pair, made -/
theorem tup_two {t1 t2 : TE} {σ : L2.St} {H : Hp} {Q : VK} (h : t1 σ H fun v H1 => t2 σ H1 fun u H2 => ([v, u] : List V).length ≤ sizeLine ∧ ∀ p, H2 p = none → Q (.ref p) (upd H2 p (.tup [v, u]))) : tTup (tCons t1 (tCons t2 tNil)) σ H Q := h
end K14
namespace K14
open PySem PySem.Spec PyProof.Rows L2
def spLaw (K : PySem.W.Frag) (T : List (Addr × Str)) : Sp := fun vs H Q _ => ∃ (a : Addr) (ns : List Int), vs = [.ref a] ∧ SqL K H a (ns.map V.int) ∧ ns.length ≤ 63 ∧ LamX.Tabs T H ∧ ∀ H', Q (.bl true) H'
theorem scL : FnScope ["script", "heap", "turn", "lists", "wishes", "stages", "holds", "ring", "odd"] ["script"] (defScope sLaw) := ⟨rfl, rfl, rfl, by decide +kernel, rfl, by decide +kernel, by decide +kernel⟩
theorem cut_mem {xs : List V} {lo hi : Option Int} {y : V} (h : y ∈ cutV xs lo hi) : y ∈ xs := by
  unfold cutV at h
  exact List.mem_of_mem_drop (List.mem_of_mem_take h)
theorem slL {K : PySem.W.Frag} {H : Hp} {a : Addr} {xs : List V} {lo hi : Option Int} {Q : VK} (h : SqL K H a xs) (q : ∀ p, H p = none → Q (.ref p) (upd H p (.lst (cutV xs lo hi)))) : rSlL K (.ref a) lo hi H Q := ⟨a, xs, rfl, h, q⟩
theorem slLN {K : PySem.W.Frag} {σ : L2.St} {H : Hp} {a : Addr} {xs : List V} {lo : Option Int} {Q : VK} (h : SqL K H a xs) (q : ∀ p, H p = none → Q (.ref p) (upd H p (.lst (cutV xs lo none)))) : tNoPart σ H (fun u H3 => rSlL K (.ref a) lo u H3 Q) := ⟨a, xs, rfl, h, q⟩
section
variable {P : Program} {w : World} {K : PySem.W.Frag} {mg : Str → Option Value} {base : Heap} {Tb : List (Addr × Str)}
set_option maxHeartbeats 2000000 in
theorem ok_law {f fi C g c PT CR CM fI f1 f2 f3 f4 f5 f6 f7 f8 f9 f10 : Addr} {fd di gd d1 d2 d3 d4 d5 d6 d7 d8 d9 d10 : FuncData} {k : Nat} (F : Fun K "law" "law" sLaw f fd) (hc : fd.code = .ref c) (T : Txt K mg C) (M : Mk K C fi) (G : HeardT K mg g gd) (ET : ErrT K mg CR CM fI) (TB : TabT Tb base mg c PT (lamQ "law"))
    (Gi : FnOk P w K mg base CX0 (k + 1) fi di ["self", "names", "lists"] (spWInit C)) (bi : Binds K di ["self", "names", "lists"] [])
    (Hp : Has P w K mg base (k + 2) "_law_heap" ["script"] (spHeap K) f1 d1) (Sl : Has P w K mg base (k + 2) "_law_some_lists" ["heap", "sizes"] spSome f2 d2) (Nm : Has P w K mg base (k + 2) "_law_names" ["heap", "many"] spNames f3 d3)
    (St : Has P w K mg base (k + 2) "_law_stages" ["heap", "lists"] spStages f4 d4) (Rg : Has P w K mg base (k + 2) "_law_rings" ["lists", "holds"] spLRings f5 d5) (Io : Has P w K mg base (k + 2) "_law_is_odd" ["lists", "holds", "ring"] spLIsOdd f6 d6)
    (Od : Has P w K mg base (k + 2) "_law_odd_right" ["wishes", "lists", "holds", "ring"] (spOddRight C Tb) f7 d7) (Gr : HasG P w K mg base (k + 2) "_law_good_right" ["wishes", "lists", "holds", "ring"] (spGoodRight C) f8 d8)
    (To : Has P w K mg base (k + 2) "turned_out" ["wishes", "holds", "ring"] (spTurnedOut C) f9 d9) (Tx : HasX P w K mg base (L2.CX P w) k "turned_out" ["wishes", "holds", "ring"] (spTurnedX C CR) f10 d10)
    (mis : mg "isinstance" = none) (ml : mg "len" = none) (mi : mg "int" = none) (mrg : mg "range" = none) : RunG P w K mg base (k + 3) f fd ["script"] (spLaw K Tb) := by
  refine okGC F hc scL (by rintro vs H Q E ⟨a, ns, rfl, _⟩; rfl) (fun A outer s H vs Q E hA hr h => ?_)
  obtain ⟨a, ns, rfl, hS, hl, tb, q⟩ := h
  refine ⟨_, pss_cons (ps_set (i := 1) scL.nd rfl (.inl rfl) (pe_call Hp.ok hr rfl Hp.m Hp.k Hp.b .nil pass0 (pa_cons (pv 0) pa_nil)))
      (pss_cons (ps_for PassesOwn.never rfl (pi_range1 rfl mrg (pa_cons (pe_op op_add pe_int (pe_callTy call_int1 (by rfl) mi (by decide +kernel) (pa_cons (pe_cmp (pc_gt (pe_callB call_len_seq (by rfl) ml PySem.boot_len (pa_cons (pv 0) pa_nil)) pe_int) rfl) pa_nil))) pa_nil)) (pg_name (i := 2) scL.nd rfl (.inl rfl))
      (pss_cons (ps_set (i := 3) scL.nd rfl (.inl rfl) (pe_call Sl.ok hr rfl Sl.m Sl.k Sl.b .nil pass0 (pa_cons (pv 1) (pa_cons (pe_lst (pa_cons pe_int (pa_cons pe_int (pa_cons pe_int (pa_cons pe_int (pa_cons pe_int (pa_cons pe_int (pa_cons pe_int (pa_cons pe_int pa_nil))))))))) pa_nil))))
      (pss_cons (ps_par (i := 4) (j := 5) rfl scL.nd rfl rfl (by decide) rfl rfl (pa_cons (pe_make M Gi hr rfl T.mgC bi .nil pass0 (pa_cons (pe_call Nm.ok hr rfl Nm.m Nm.k Nm.b .nil pass0 (pa_cons (pv 1) (pa_cons (pe_callB call_len_seq (by rfl) ml PySem.boot_len (pa_cons (pv 3) pa_nil)) pa_nil))) (pa_cons (pv 3) pa_nil))) (pa_cons (pe_ix ix_list (pe_call St.ok hr rfl St.m St.k St.b .nil pass0 (pa_cons (pv 1) (pa_cons (pv 3) pa_nil))) pe_int (fun _ _ => rfl)) pa_nil)) (by rfl))
      (pss_one (ps_for PassesOwn.never rfl (pi_list (pe_op op_cat (pe_slice sl_list (pv 5) po_none (po_some pe_int)) (pe_slice sl_list (pv 5) (po_some (pe_un un_neg pe_int)) po_none))) (pg_name (i := 6) scL.nd rfl (.inl rfl))
      (pss_one (ps_for PassesOwn.never rfl (pi_list (pe_call Rg.ok hr rfl Rg.m Rg.k Rg.b .nil pass0 (pa_cons (pv 3) (pa_cons (pv 6) pa_nil)))) (pg_name (i := 7) scL.nd rfl (.inl rfl))
      (pss_one (ps_if (pt_val (pe_call Io.ok hr rfl Io.m Io.k Io.b .nil pass0 (pa_cons (pv 3) (pa_cons (pv 6) (pa_cons (pv 7) pa_nil))))) (pss_one (ps_if (pt_not (pt_val (pe_call Od.ok hr rfl Od.m Od.k Od.b .nil pass0 (pa_cons (pv 4) (pa_cons (pv 3) (pa_cons (pv 6) (pa_cons (pv 7) pa_nil))))))) (pss_one (ps_ret pe_bl)) pss_nil)) (pss_one (ps_if (pt_not (pt_val (pe_callG Gr.ok (spGoodRight_len C) hA hr (by rfl) Gr.m Gr.k Gr.b pass0 (pa_cons (pv 4) (pa_cons (pv 3) (pa_cons (pv 6) (pa_cons (pv 7) pa_nil))))))) (pss_one (ps_ret pe_bl)) pss_nil)))))))))))
      (pss_cons (ps_asg (pe_tup (pa_cons (pe_make M Gi hr rfl T.mgC bi .nil pass0 (pa_cons (pe_tup (pa_cons pe_str (pa_cons pe_str (pa_cons pe_str (pa_cons pe_str pa_nil))))) (pa_cons (pe_tup (pa_cons (pe_tup (pa_cons pe_int (pa_cons pe_int (pa_cons pe_int pa_nil)))) (pa_cons (pe_tup (pa_cons pe_int (pa_cons pe_int (pa_cons pe_int pa_nil)))) (pa_cons (pe_tup (pa_cons pe_int (pa_cons pe_int (pa_cons pe_int pa_nil)))) (pa_cons (pe_tup (pa_cons pe_int (pa_cons pe_int (pa_cons pe_int pa_nil)))) pa_nil))))) pa_nil))) (pa_cons (pe_make M Gi hr rfl T.mgC bi .nil pass0 (pa_cons (pe_tup (pa_cons pe_str (pa_cons pe_str (pa_cons pe_str (pa_cons pe_str pa_nil))))) (pa_cons (pe_tup (pa_cons (pe_tup (pa_cons pe_int (pa_cons pe_int (pa_cons pe_int pa_nil)))) (pa_cons (pe_tup (pa_cons pe_int (pa_cons pe_int (pa_cons pe_int pa_nil)))) (pa_cons (pe_tup (pa_cons pe_int (pa_cons pe_int (pa_cons pe_int pa_nil)))) (pa_cons (pe_tup (pa_cons pe_int (pa_cons pe_int (pa_cons pe_int pa_nil)))) pa_nil))))) pa_nil))) pa_nil))) (pg_tup (by rfl) (pgs_cons (pg_name (i := 4) scL.nd rfl (.inl rfl)) (pgs_cons (pg_name (i := 8) scL.nd rfl (.inr rfl)) pgs_nil))))
      (pss_cons (ps_if (PW.pt (pw_or (pt_cmpR (op_neD hr.units) (pe_call To.ok hr rfl To.m To.k To.b .nil pass0 (pa_cons (pv 4) (pa_cons (pe_tup (pa_cons pe_int (pa_cons pe_int (pa_cons pe_int (pa_cons pe_int pa_nil))))) (pa_cons (pe_tup (pa_cons (pe_tup (pa_cons pe_int (pa_cons pe_int pa_nil))) (pa_cons (pe_tup (pa_cons pe_int (pa_cons pe_int pa_nil))) pa_nil))) pa_nil)))) (pe_tup (pa_cons pe_int (pa_cons pe_int (pa_cons pe_int (pa_cons pe_int pa_nil))))) (nomark _)) (pw_or1 (pt_cmpR (op_neD hr.units) (pe_call To.ok hr rfl To.m To.k To.b .nil pass0 (pa_cons (pv 4) (pa_cons (pe_tup (pa_cons pe_int (pa_cons pe_int (pa_cons pe_int (pa_cons pe_int pa_nil))))) (pa_cons (pe_tup (pa_cons (pe_tup (pa_cons pe_int (pa_cons pe_int pa_nil))) (pa_cons (pe_tup (pa_cons pe_int (pa_cons pe_int pa_nil))) pa_nil))) pa_nil)))) (pe_tup (pa_cons pe_int (pa_cons pe_int (pa_cons pe_int (pa_cons pe_int pa_nil))))) (nomark _))))) (pss_one (ps_ret pe_bl)) pss_nil)
      (pss_one (ps_ret (pe_cmpR (op_eqD hr.units) (pe_heard G ET mis rfl TB rfl hr (LamX.lamS_by (sc := defScope sLaw) (by decide +kernel)) rfl (fun _ _ _ _ _ => rfl) (fun _ _ _ _ _ _ _ hr => pe_call Tx.ok hr rfl Tx.m Tx.k Tx.b .nil (passes_call (takes_of rfl rfl rfl rfl) (fun _ _ _ _ h => h)) (pa_cons (pv 8) (pa_cons (pe_tup (pa_cons pe_int (pa_cons pe_int (pa_cons pe_int (pa_cons pe_non pa_nil))))) (pa_cons (pe_tup (pa_cons (pe_tup (pa_cons pe_int (pa_cons pe_int pa_nil))) (pa_cons (pe_tup (pa_cons pe_int (pa_cons pe_int pa_nil))) (pa_cons (pe_tup (pa_cons pe_int (pa_cons pe_int pa_nil))) pa_nil)))) pa_nil))))) (pe_tup (pa_cons pe_str (pa_cons pe_str pa_nil))) (nomark _))))))), ?_⟩
  refine ⟨_, rfl, a, ns, rfl, hS, fun h l H1 s1 nh nl src1 => ?_⟩
  have hS1 : SqL K H1 a (ns.map V.int) := s1.seq hS
  have tb1 := tb.ext s1
  refine ⟨_, rfl, a, _, rfl, .inl hS1, _, _, rfl, rfl, .inr ⟨_, rfl, _, _, rfl, rfl, _, rfl, ?_, ?_, for_range (lo := 0) (n := _) (fun i σ H' => ∃ y2 y3 y4 y5 y6 y7 : Option V, σ = [some (.ref a), some (.ref h), y2, y3, y4, y5, y6, y7, none] ∧ Src H' h l ∧ LamX.Tabs _ H')
      ⟨none, none, none, none, none, none, rfl, src1, tb1⟩ ?_ ?_⟩⟩
  · split <;> omega
  · split <;> omega
  · rintro i σ H2 hi ⟨y2, y3, y4, y5, y6, y7, rfl, src2, tb2⟩
    refine gn ?_
    dsimp only [List.set]
    refine ⟨_, rfl, (by show 8 ≤ sizeLine; decide), fun v nv => ?_⟩
    obtain ⟨nvh, nvl⟩ := src2.new nv
    refine ⟨h, l, v, [5, 6, 4, 7, 8, 3, 5, 1], rfl, src2.updn nv, upd_same, nvh, nvl, by simp, by decide, by decide, fun la0 ls H3 sr3 br3 lx3 ok l1 l26 => gn ?_⟩
    dsimp only [List.set]
    have tb3 := Tabs.bar (tb2.ext (same_upd nv)) (src2.updn nv) br3
    obtain ⟨xsl, eal, xll⟩ := lx3.lt.len
    refine ⟨_, rfl, _, rfl, la0, _, rfl, .inr (SqT.of eal), ?_⟩
    rw [xll]
    refine ⟨h, l, _, rfl, sr3, by omega, by omega, fun n ns' H7 nok sr7 br7 nn en => ⟨_, rfl, ?_⟩⟩
    have lx7 := lx3.bar sr3 br7
    have tb7 := Tabs.bar tb3 sr3 br7
    intro x dx nx ndx ne
    have s7 : Same H7 (upd (upd H7 dx (.own x)) x (.ins C dx [])) := (same_rfl.fresh ndx).fresh nx
    refine ⟨x, dx, n, la0, ns', ls, rfl, upd_same, s7 _ _ en, lx7.lt.same s7, l1, by omega, nok, ok, fun H8 W8 keep => ⟨rfl, ?_⟩⟩
    have s78 : Same H7 H8 := fun b o e => keep b o (s7 _ _ e) (ne_of_none e nx)
    have sr8 := sr7.same s78
    have lx8 := lx7.same s78
    have tb8 := tb7.ext s78
    refine ⟨_, rfl, _, rfl, h, l, la0, ls, rfl, sr8, lx8, ok, l1, l26, fun r Fs U us hss H9 sr9 br9 er eF nFh nFl hst u1 u2 all => ?_⟩
    have lx9 := lx8.bar sr8 br9
    have W9 := W8.bar sr8 br9
    have tb9 := Tabs.bar tb8 sr8 br9
    refine ⟨r, _, 0, .ref Fs, rfl, rfl, SqL.of er, atI_nat (j := 0) rfl, _, _, rfl, ?_⟩
    dsimp only [List.set]
    refine ⟨_, rfl, _, rfl, slL (SqL.of eF) fun c1 nc1 => ?_⟩
    have sc1 := same_upd (o := .lst (cutV (us.map V.ref) none (some 3))) nc1
    refine ⟨_, rfl, _, rfl, _, rfl, slLN (SqL.of (sc1 _ _ eF)) fun c2 nc2 => ?_⟩
    have sc2 := same_upd (o := .lst (cutV (us.map V.ref) (some (-1)) none)) nc2
    refine ⟨c1, c2, _, _, rfl, rfl, sc2 _ _ upd_same, upd_same, ?_, fun c3 nc3 => ?_⟩
    · have h1 := cutV_length (us.map V.ref) none (some 3)
      have h2 := cutV_length (us.map V.ref) (some (-1)) none
      rw [List.length_map] at h1 h2
      exact Nat.le_trans (m := 4000) (by omega) (by show 4000 ≤ sizeLine; decide)
    have sc3 := same_upd (o := .lst (cutV (us.map V.ref) none (some 3) ++ cutV (us.map V.ref) (some (-1)) none)) nc3
    have ec3 := upd_same (H := upd (upd H9 c1 (.lst (cutV (us.map V.ref) none (some 3)))) c2 (.lst (cutV (us.map V.ref) (some (-1)) none))) (a := c3) (o := .lst (cutV (us.map V.ref) none (some 3) ++ cutV (us.map V.ref) (some (-1)) none))
    have s9a := sc1.trans (sc2.trans sc3)
    have mem3 : ∀ y ∈ cutV (us.map V.ref) none (some 3) ++ cutV (us.map V.ref) (some (-1)) none, y ∈ us.map V.ref := fun y hy => by
      rcases List.mem_append.mp hy with hy | hy <;> exact cut_mem hy
    generalize cutV (us.map V.ref) none (some 3) ++ cutV (us.map V.ref) (some (-1)) none = zs at s9a ec3 mem3
    generalize upd (upd (upd H9 c1 _) c2 _) c3 (.lst zs) = Ha at s9a ec3
    have sra := sr9.same s9a
    have lxa := lx9.same s9a
    have Wa := W9.same s9a
    have tba := tb9.ext s9a
    have hsta := hst.same s9a
    refine ⟨c3, rfl, ⟨_, SqL.of ec3⟩, ?_⟩
    refine for_it (walk_list (K := K) (a := c3) (xs := zs)) (fun i' σ H' => ∃ y6 y7 : Option V, σ = [some (.ref a), some (.ref h), some (.int (0 + i)), some (.ref la0), some (.ref x), some (.ref Fs), y6, y7, none] ∧ LamX.ExtN Ha H' ∧ LamX.Tabs _ H')
      ⟨y6, y7, rfl, LamX.ExtN.refl _, tba⟩ (fun i' σ H' _ ⟨_, _, _, xe, _⟩ => SqL.of (XN.lst xe ec3)) ?_ ?_
    · rintro i' x0 σ Hb' Hb hi' ⟨y6, y7, rfl, xb, tbb⟩ ⟨rfl, ex0⟩
      obtain ⟨jj, hjj, ejj⟩ := List.mem_iff_getElem.mp (mem3 _ (List.mem_of_getElem? ex0))
      obtain ⟨u, S, rfl, eS, eu⟩ := hsta.at (show (us.map V.ref)[jj]? = some x0 by rw [List.getElem?_eq_getElem hjj, ejj])
      obtain ⟨so, ss⟩ := all S (List.mem_of_getElem? eS)
      refine gn ?_
      dsimp only [List.set]
      have eub := XN.tup xb eu
      refine ⟨_, rfl, _, rfl, la0, u, ls, S, rfl, lxa.ext xb, eub, so, ss, ok, by omega, fun rr us2 Hc sc nrr err unr lsr => ⟨rr, rfl, ⟨_, SqL.of err⟩, ?_⟩⟩
      have xc := xb.trans (xn_of sc)
      have tbc := tbb.ext sc
      refine for_it (walk_list (K := K) (a := rr) (xs := us2.map V.ref)) (fun _ σ H' => ∃ y7 : Option V, σ = [some (.ref a), some (.ref h), some (.int (0 + i)), some (.ref la0), some (.ref x), some (.ref Fs), some (.ref u), y7, none] ∧ LamX.ExtN Hc H' ∧ LamX.Tabs _ H')
        ⟨y7, rfl, LamX.ExtN.refl _, tbc⟩ (fun _ σ H' _ ⟨_, _, xe, _⟩ => SqL.of (XN.lst xe err)) ?_ ?_
      · rintro m x9 σ Hd' Hd hm ⟨y7, rfl, xd, tbd⟩ ⟨rfl, ex⟩
        rw [List.length_map] at hm
        have evm : us2[m]? = some us2[m] := List.getElem?_eq_getElem hm
        rw [List.getElem?_map, evm] at ex
        cases ex
        obtain ⟨rg, erg⟩ : ∃ rg, (ringsA (givA ls S))[m]? = some rg := ⟨_, List.getElem?_eq_getElem (by rw [← lsr.1]; exact hm)⟩
        have ew := XN.lst xd (lsr.2 m _ _ evm erg)
        obtain ⟨p, m0, hp, cy, rfl⟩ := ringR (List.mem_of_getElem? erg)
        have xad := xc.trans xd
        have R : RgAt Hd la0 u us2[m] ls S p m0 := ⟨lxa.ext xad, XN.tup xad eu, ew, so, ss, ok, by omega, hp, cy⟩
        refine gn ?_
        dsimp only [List.set]
        refine ⟨_, rfl, _, rfl, _, rfl, la0, u, us2[m], ls, S, p, m0, rfl, R, fun He se => ⟨_, rfl, ?_⟩⟩
        have Re := R.same se
        have We := (Wa.ext xad).same se
        have tbe := tbd.ext se
        cases hb : oddB (leftA ls S) (prs ls S (ringL (gF ls S) p m0)) with
        | true =>
          refine iteT ?_
          refine ⟨_, rfl, _, rfl, _, rfl, _, rfl, x, la0, u, us2[m], ns', ls, S, p, m0, rfl, We, Re, hb, tbe, fun Hf xf tbf => ⟨true, rfl, iteF ?_⟩⟩
          exact ⟨_, rfl, xd.trans ((xn_of se).trans xf), tbf⟩
        | false =>
          refine iteF ?_
          refine ⟨_, rfl, _, rfl, _, rfl, _, rfl, x, la0, u, us2[m], ns', ls, S, p, m0, rfl, We, Re, hb, fun Hf sf => ⟨true, rfl, iteF ?_⟩⟩
          exact ⟨_, rfl, xd.trans (xn_of (se.trans sf)), tbe.ext sf⟩
      · rintro σ Hd ⟨y7, rfl, xd, tbd⟩
        exact ⟨_, _, rfl, xc.trans xd, tbd⟩
    · rintro σ Hb ⟨y6, y7, rfl, xb, tbb⟩
      exact ⟨_, _, _, _, _, _, rfl, sra.ext xb, tbb⟩
  · rintro σ H0 ⟨y2, y3, y4, y5, y6, y7, rfl, src2, tb2⟩
    dsimp only [L2.tSeq, L2.tAsg]
    refine tup_two ?_
    dsimp only [L2.tMake]
    refine (lCons (lTup (lCons lC (lCons lC (lCons lC (lCons lC lNil))))) (lCons (lTup (lCons (lTup (lCons lC (lCons lC (lCons lC lNil)))) (lCons (lTup (lCons lC (lCons lC (lCons lC lNil)))) (lCons (lTup (lCons lC (lCons lC (lCons lC lNil)))) (lCons (lTup (lCons lC (lCons lC (lCons lC lNil)))) lNil))))) lNil)).run _ _ _ fun va Ht stt ha => ?_
    obtain ⟨_, _, rfl, ⟨n, xs, rfl, en, x1, r1, rfl, rfl, x2, r2, rfl, rfl, x3, r3, rfl, rfl, x4, r4, rfl, rfl, rfl⟩, _, _, rfl, ⟨t, ys, rfl, et, z1, w1, rfl, h1, z2, w2, rfl, h2, z3, w3, rfl, h3, z4, w4, rfl, h4, rfl⟩, rfl⟩ := ha
    obtain ⟨p1, rfl, e1⟩ := pt3 h1
    obtain ⟨p2, rfl, e2⟩ := pt3 h2
    obtain ⟨p3, rfl, e3⟩ := pt3 h3
    obtain ⟨p4, rfl, e4⟩ := pt3 h4
    intro x dx nx ndx ne
    have s6 : Same Ht (upd (upd Ht dx (.own x)) x (.ins C dx [])) := (same_rfl.fresh ndx).fresh nx
    have lt : LT Ht t lsW := lt_four et e1 e2 e3 e4
    have en' : Ht n = some (.tup (VN nsW)) := by rw [VNW]; exact en
    refine ⟨x, dx, n, t, nsW, lsW, rfl, upd_same, s6 _ _ en', lt.same s6, by decide, by decide, nokW, okW, fun H7 W7 keep => ⟨rfl, ?_⟩⟩
    have s7 : Same Ht H7 := fun b o e => keep b o (s6 _ _ e) (ne_of_none e nx)
    have tb7 := (tb2.ext stt).ext s7
    refine (lCons (lTup (lCons lC (lCons lC (lCons lC (lCons lC lNil))))) (lCons (lTup (lCons (lTup (lCons lC (lCons lC (lCons lC lNil)))) (lCons (lTup (lCons lC (lCons lC (lCons lC lNil)))) (lCons (lTup (lCons lC (lCons lC (lCons lC lNil)))) (lCons (lTup (lCons lC (lCons lC (lCons lC lNil)))) lNil))))) lNil)).run _ _ _ fun vb Hu stu hb => ?_
    obtain ⟨_, _, rfl, ⟨n', xs', rfl, en2, x1', r1', rfl, rfl, x2', r2', rfl, rfl, x3', r3', rfl, rfl, x4', r4', rfl, rfl, rfl⟩, _, _, rfl, ⟨t', ys', rfl, et', z1', w1', rfl, h1', z2', w2', rfl, h2', z3', w3', rfl, h3', z4', w4', rfl, h4', rfl⟩, rfl⟩ := hb
    obtain ⟨p1', rfl, e1'⟩ := pt3 h1'
    obtain ⟨p2', rfl, e2'⟩ := pt3 h2'
    obtain ⟨p3', rfl, e3'⟩ := pt3 h3'
    obtain ⟨p4', rfl, e4'⟩ := pt3 h4'
    intro o od no nod noe
    have s8 : Same Hu (upd (upd Hu od (.own o)) o (.ins C od [])) := (same_rfl.fresh nod).fresh no
    have lto : LT Hu t' lsO := lt_four et' e1' e2' e3' e4'
    have eno : Hu n' = some (.tup (VN nsW)) := by rw [VNW]; exact en2
    refine ⟨o, od, n', t', nsW, lsO, rfl, upd_same, s8 _ _ eno, lto.same s8, by decide, by decide, nokO, okO, fun H9 W9 keep9 => ⟨rfl, (by show 2 ≤ sizeLine; decide), fun U nU => ⟨U, _, rfl, SqT.of upd_same, rfl, _, _, rfl, gn ⟨_, _, rfl, gn ⟨rfl, ?_⟩⟩⟩⟩⟩
    have s9 : Same Hu H9 := fun b ob e => keep9 b ob (s8 _ _ e) (ne_of_none e no)
    dsimp only [List.set]
    have sU := same_upd (o := .tup [.ref x, .ref o]) nU
    have WX := ((W7.same stu).same s9).same sU
    have WO := W9.same sU
    have tbU := ((tb7.ext stu).ext s9).ext sU
    generalize upd H9 U (.tup [.ref x, .ref o]) = HU at WX WO tbU
    -- two good ones
    refine ⟨_, rfl, ?_⟩
    refine (lTup (lCons lC (lCons lC (lCons lC (lCons lC lNil))))).run _ _ _ fun v1 Ha sa q1 => ?_
    obtain ⟨a1, rfl, ea1⟩ := pt4 q1
    refine (lTup (lCons (lTup (lCons lC (lCons lC lNil))) (lCons (lTup (lCons lC (lCons lC lNil))) lNil))).run _ _ _ fun v2 Hb sb q2 => ?_
    obtain ⟨b1, rfl, rb1⟩ := rp_two (a := 0) (b := 1) (c := 2) (d := 3) q2
    have sab := sa.trans sb
    refine ⟨x, a1, b1, nsW, lsW, hWA, [(0, 1), (2, 3)], rfl, WX.same sab, sb _ _ ea1, hokA, rb1, by decide, by decide, by decide, oddA, fun c1 hs1 Hc sc past1 ec1 => ?_⟩
    rw [pastA past1] at ec1
    refine (lTup (lCons lC (lCons lC (lCons lC (lCons lC lNil))))).run _ _ _ fun v3 Hd sd q3 => ?_
    obtain ⟨a2, rfl, ea2⟩ := pt4 q3
    refine ⟨dH hWB, dH hWB, dp_dH (sd _ _ ec1), dp_dH ea2, sh_dH _, sh_dH _, false, congrArg V.bl (by rw [eqv_same (sh_dH _)]; rfl), iteF ?_⟩
    have sUd := sab.trans (sc.trans sd)
    refine ⟨_, rfl, ?_⟩
    refine (lTup (lCons lC (lCons lC (lCons lC (lCons lC lNil))))).run _ _ _ fun v4 He se q4 => ?_
    obtain ⟨a3, rfl, ea3⟩ := pt4 q4
    refine (lTup (lCons (lTup (lCons lC (lCons lC lNil))) (lCons (lTup (lCons lC (lCons lC lNil))) lNil))).run _ _ _ fun v5 Hf sf q5 => ?_
    obtain ⟨b2, rfl, rb2⟩ := rp_two (a := 1) (b := 2) (c := 3) (d := 0) q5
    have sUf := sUd.trans (se.trans sf)
    refine ⟨x, a3, b2, nsW, lsW, hWA, [(1, 2), (3, 0)], rfl, WX.same sUf, sf _ _ ea3, hokA, rb2, by decide, by decide, by decide, oddA2, fun c2 hs2 Hg sg past2 ec2 => ?_⟩
    rw [pastA2 past2] at ec2
    refine (lTup (lCons lC (lCons lC (lCons lC (lCons lC lNil))))).run _ _ _ fun v6 Hh sh q6 => ?_
    obtain ⟨a4, rfl, ea4⟩ := pt4 q6
    refine ⟨dH hWC, dH hWC, dp_dH (sh _ _ ec2), dp_dH ea4, sh_dH _, sh_dH _, false, congrArg V.bl (by rw [eqv_same (sh_dH _)]; rfl), iteF ?_⟩
    have sUh := sUf.trans (sg.trans sh)
    -- an odd one
    refine ⟨tbU.ext sUh, fun Hi xi tbi => ?_⟩
    have WOi := (WO.same sUh).ext xi
    refine ⟨_, rfl, ?_⟩
    refine (lTup (lCons lC (lCons lC (lCons lC (lCons lC lNil))))).run _ _ _ fun v7 Hj sj q7 => ?_
    obtain ⟨a5, rfl, ea5⟩ := pt3n q7
    refine (lTup (lCons (lTup (lCons lC (lCons lC lNil))) (lCons (lTup (lCons lC (lCons lC lNil))) (lCons (lTup (lCons lC (lCons lC lNil))) lNil)))).run _ _ _ fun v8 Hk sk q8 => ?_
    obtain ⟨b3, rfl, rb3⟩ := rp_three (a := 0) (b := 1) (c := 1) (d := 2) (e := 2) (f := 0) q8
    refine ⟨o, a5, b3, nsW, lsO, hO, [(0, 1), (1, 2), (2, 0)], rfl, WOi.same (sj.trans sk), sk _ _ ea5, hokO, rb3, by decide, by decide, oddO, fun dd Hl sl ed => ⟨rfl, dd, _, rfl, ed, fun pp npp => ?_⟩⟩
    refine ⟨(by show 2 ≤ sizeLine; decide), fun z nz => ?_⟩
    have sz := same_upd (o := .tup [.str "refused", .str "odd"]) nz
    refine ⟨dSO, dSO, dp_dSO (sz _ _ upd_same), dp_dSO upd_same, sh_dSO, sh_dSO, ?_⟩
    rw [eqv_same sh_dSO]
    exact q _
end
end K14
namespace K14
open PySem PySem.Spec PyProof.Rows L2
theorem RunG.mono {P : Program} {w : World} {K : PySem.W.Frag} {mg : Str → Option Value} {base : Heap} {k j : Nat} {f : Addr} {fd : FuncData} {ps : List Str} {sp : Sp} (h : RunG P w K mg base k f fd ps sp) (le : k ≤ j) : RunG P w K mg base j f fd ps sp := fun A outer s H args us vs Q E hA r e b v p => h A outer s H args us vs Q E hA (r.mono le) e b v p
set_option maxHeartbeats 8000000 in
theorem all_mk {l : PySem.W.OpenLaw} {w : World} {K : PySem.W.Frag} {h : Heap} {mg : Str → Option Value} {fa C CR CM fH f1 f2 f3 f4 f5 f6 f7 f8 f9 f10 f11 f12 f13 f14 f15 f16 f17 f18 f19 f20 f21 f22 f23 f24 f25 f26 f27 f28 f29 f30 f31 f32 f33 f34 f35 f36 f37 f38 f39 f40 f41 f42 f43 f44 f45 f46 f47 f48 f49 f50 f51 f52 cc51 PT51 cc52 PT52 : Addr} {t_MOST_LETTERS t_MOST_PERSONS : Tok} (X : K.In h) (G : h.Ns mainGlobals mg) (hfa : mg "law" = some (.ref fa))
    {od1 an1 od2 an2 od3 an3 od4 an4 od5 an5 od6 an6 od7 an7 od8 an8 od9 an9 od10 an10 od11 an11 od12 an12 od13 an13 od14 an14 od15 an15 od16 an16 od17 an17 od18 an18 od19 an19 od20 an20 od21 an21 od22 an22 od23 an23 od24 an24 od25 an25 od26 an26 od27 an27 od28 an28 od29 an29 od30 an30 od31 an31 od32 an32 od33 an33 od34 an34 od35 an35 od36 an36 od37 an37 od38 an38 od39 an39 od40 an40 od41 an41 od42 an42 od43 an43 od44 an44 od45 an45 od46 an46 od47 an47 od48 an48 od49 an49 od50 an50 od51 an51 od52 an52 odH anH edd : Option Addr} {sl1 sl2 sl3 sl4 sl5 sl6 sl7 sl8 sl9 sl10 sl11 sl12 sl13 sl14 sl15 sl16 sl17 sl18 sl19 sl20 sl21 sl22 sl23 sl24 sl25 sl26 sl27 sl28 sl29 sl30 sl31 sl32 sl33 sl34 sl35 sl36 sl37 sl38 sl39 sl40 sl41 sl42 sl43 sl44 sl45 sl46 sl47 sl48 sl49 sl50 sl51 sl52 slH : Array (Option Value)} {oc1 kV1 dc1 pm1 cd1 ct1 oc2 kV2 dc2 pm2 cd2 ct2 oc3 kV3 dc3 pm3 cd3 ct3 oc4 kV4 dc4 pm4 cd4 ct4 oc5 kV5 dc5 pm5 cd5 ct5 oc6 kV6 dc6 pm6 cd6 ct6 oc7 kV7 dc7 pm7 cd7 ct7 oc8 kV8 dc8 pm8 cd8 ct8 oc9 kV9 dc9 pm9 cd9 ct9 oc10 kV10 dc10 pm10 cd10 ct10 oc11 kV11 dc11 pm11 cd11 ct11 oc12 kV12 dc12 pm12 cd12 ct12 oc13 kV13 dc13 pm13 cd13 ct13 oc14 kV14 dc14 pm14 cd14 ct14 oc15 kV15 dc15 pm15 cd15 ct15 oc16 kV16 dc16 pm16 cd16 ct16 oc17 kV17 dc17 pm17 cd17 ct17 oc18 kV18 dc18 pm18 cd18 ct18 oc19 kV19 dc19 pm19 cd19 ct19 oc20 kV20 dc20 pm20 cd20 ct20 oc21 kV21 dc21 pm21 cd21 ct21 oc22 kV22 dc22 pm22 cd22 ct22 oc23 kV23 dc23 pm23 cd23 ct23 oc24 kV24 dc24 pm24 cd24 ct24 oc25 kV25 dc25 pm25 cd25 ct25 oc26 kV26 dc26 pm26 cd26 ct26 oc27 kV27 dc27 pm27 cd27 ct27 oc28 kV28 dc28 pm28 cd28 ct28 oc29 kV29 dc29 pm29 cd29 ct29 oc30 kV30 dc30 pm30 cd30 ct30 oc31 kV31 dc31 pm31 cd31 ct31 oc32 kV32 dc32 pm32 cd32 ct32 oc33 kV33 dc33 pm33 cd33 ct33 oc34 kV34 dc34 pm34 cd34 ct34 oc35 kV35 dc35 pm35 cd35 ct35 oc36 kV36 dc36 pm36 cd36 ct36 oc37 kV37 dc37 pm37 cd37 ct37 oc38 kV38 dc38 pm38 cd38 ct38 oc39 kV39 dc39 pm39 cd39 ct39 oc40 kV40 dc40 pm40 cd40 ct40 oc41 kV41 dc41 pm41 cd41 ct41 oc42 kV42 dc42 pm42 cd42 ct42 oc43 kV43 dc43 pm43 cd43 ct43 oc44 kV44 dc44 pm44 cd44 ct44 oc45 kV45 dc45 pm45 cd45 ct45 oc46 kV46 dc46 pm46 cd46 ct46 oc47 kV47 dc47 pm47 cd47 ct47 oc48 kV48 dc48 pm48 cd48 ct48 oc49 kV49 dc49 pm49 cd49 ct49 oc50 kV50 dc50 pm50 cd50 ct50 oc51 kV51 dc51 pm51 ct51 oc52 kV52 dc52 pm52 ct52 ocH kVH dcH pmH cdH ctH : Value}
    {enm eq : Str} {eN : Addr} {ebs ebm esub : List Value} {esn : List Str} {eab : Bool} {ecol : Option Bool} {e0 e1 e2 e3 e5 : Option Value}
    (a1 : PySem.W.nsIn K mainGlobals "_law_draw" = some (some (.ref f1))) (l1 : K.lookup f1 = some ⟨oc1, od1, .func (PySem.W.fnOf "_law_draw" "_law_draw" (defArgs sDraw) (defBody sDraw) (defScope sDraw) .none kV1 dc1 pm1 an1 cd1 ct1), sl1⟩) (c1 : PySem.W.codeIn K cd1 "_law_draw" = true) (k1 : PySem.W.keepIn K (.ref f1) = true)
    (a2 : PySem.W.nsIn K mainGlobals "_law_pick" = some (some (.ref f2))) (l2 : K.lookup f2 = some ⟨oc2, od2, .func (PySem.W.fnOf "_law_pick" "_law_pick" (defArgs sPick) (defBody sPick) (defScope sPick) .none kV2 dc2 pm2 an2 cd2 ct2), sl2⟩) (c2 : PySem.W.codeIn K cd2 "_law_pick" = true) (k2 : PySem.W.keepIn K (.ref f2) = true)
    (a3 : PySem.W.nsIn K mainGlobals "_law_heap" = some (some (.ref f3))) (l3 : K.lookup f3 = some ⟨oc3, od3, .func (PySem.W.fnOf "_law_heap" "_law_heap" (defArgs sHeap) (defBody sHeap) (defScope sHeap) .none kV3 dc3 pm3 an3 cd3 ct3), sl3⟩) (c3 : PySem.W.codeIn K cd3 "_law_heap" = true) (k3 : PySem.W.keepIn K (.ref f3) = true)
    (a4 : PySem.W.nsIn K mainGlobals "_law_shuffled" = some (some (.ref f4))) (l4 : K.lookup f4 = some ⟨oc4, od4, .func (PySem.W.fnOf "_law_shuffled" "_law_shuffled" (defArgs sShuffled) (defBody sShuffled) (defScope sShuffled) .none kV4 dc4 pm4 an4 cd4 ct4), sl4⟩) (c4 : PySem.W.codeIn K cd4 "_law_shuffled" = true) (k4 : PySem.W.keepIn K (.ref f4) = true)
    (a5 : PySem.W.nsIn K mainGlobals "_law_names" = some (some (.ref f5))) (l5 : K.lookup f5 = some ⟨oc5, od5, .func (PySem.W.fnOf "_law_names" "_law_names" (defArgs sNames) (defBody sNames) (defScope sNames) .none kV5 dc5 pm5 an5 cd5 ct5), sl5⟩) (c5 : PySem.W.codeIn K cd5 "_law_names" = true) (k5 : PySem.W.keepIn K (.ref f5) = true)
    (a6 : PySem.W.nsIn K mainGlobals "is_number" = some (some (.ref f6))) (l6 : K.lookup f6 = some ⟨oc6, od6, .func (PySem.W.fnOf "is_number" "is_number" (defArgs sIsNumber) (defBody sIsNumber) (defScope sIsNumber) .none kV6 dc6 pm6 an6 cd6 ct6), sl6⟩) (c6 : PySem.W.codeIn K cd6 "is_number" = true) (k6 : PySem.W.keepIn K (.ref f6) = true)
    (a7 : PySem.W.nsIn K mainGlobals "is_below" = some (some (.ref f7))) (l7 : K.lookup f7 = some ⟨oc7, od7, .func (PySem.W.fnOf "is_below" "is_below" (defArgs sIsBelow) (defBody sIsBelow) (defScope sIsBelow) .none kV7 dc7 pm7 an7 cd7 ct7), sl7⟩) (c7 : PySem.W.codeIn K cd7 "is_below" = true) (k7 : PySem.W.keepIn K (.ref f7) = true)
    (a8 : PySem.W.nsIn K mainGlobals "is_tuple_of" = some (some (.ref f8))) (l8 : K.lookup f8 = some ⟨oc8, od8, .func (PySem.W.fnOf "is_tuple_of" "is_tuple_of" (defArgs sIsTupleOf) (defBody sIsTupleOf) (defScope sIsTupleOf) .none kV8 dc8 pm8 an8 cd8 ct8), sl8⟩) (c8 : PySem.W.codeIn K cd8 "is_tuple_of" = true) (k8 : PySem.W.keepIn K (.ref f8) = true)
    (a9 : PySem.W.nsIn K mainGlobals "is_name" = some (some (.ref f9))) (l9 : K.lookup f9 = some ⟨oc9, od9, .func (PySem.W.fnOf "is_name" "is_name" (defArgs sIsName) (defBody sIsName) (defScope sIsName) .none kV9 dc9 pm9 an9 cd9 ct9), sl9⟩) (c9 : PySem.W.codeIn K cd9 "is_name" = true) (k9 : PySem.W.keepIn K (.ref f9) = true)
    (a10 : PySem.W.nsIn K mainGlobals "are_persons" = some (some (.ref f10))) (l10 : K.lookup f10 = some ⟨oc10, od10, .func (PySem.W.fnOf "are_persons" "are_persons" (defArgs sArePersons) (defBody sArePersons) (defScope sArePersons) .none kV10 dc10 pm10 an10 cd10 ct10), sl10⟩) (c10 : PySem.W.codeIn K cd10 "are_persons" = true) (k10 : PySem.W.keepIn K (.ref f10) = true)
    (a11 : PySem.W.nsIn K mainGlobals "are_unlike_persons" = some (some (.ref f11))) (l11 : K.lookup f11 = some ⟨oc11, od11, .func (PySem.W.fnOf "are_unlike_persons" "are_unlike_persons" (defArgs sAreUnlike) (defBody sAreUnlike) (defScope sAreUnlike) .none kV11 dc11 pm11 an11 cd11 ct11), sl11⟩) (c11 : PySem.W.codeIn K cd11 "are_unlike_persons" = true) (k11 : PySem.W.keepIn K (.ref f11) = true)
    (a12 : PySem.W.nsIn K mainGlobals "_law_lists" = some (some (.ref f12))) (l12 : K.lookup f12 = some ⟨oc12, od12, .func (PySem.W.fnOf "_law_lists" "_law_lists" (defArgs sLists) (defBody sLists) (defScope sLists) .none kV12 dc12 pm12 an12 cd12 ct12), sl12⟩) (c12 : PySem.W.codeIn K cd12 "_law_lists" = true) (k12 : PySem.W.keepIn K (.ref f12) = true)
    (a13 : PySem.W.nsIn K mainGlobals "_ranks_of_list" = some (some (.ref f13))) (l13 : K.lookup f13 = some ⟨oc13, od13, .func (PySem.W.fnOf "_ranks_of_list" "_ranks_of_list" (defArgs sRanksOfList) (defBody sRanksOfList) (defScope sRanksOfList) .none kV13 dc13 pm13 an13 cd13 ct13), sl13⟩) (c13 : PySem.W.codeIn K cd13 "_ranks_of_list" = true) (k13 : PySem.W.keepIn K (.ref f13) = true)
    (a14 : PySem.W.nsIn K mainGlobals "_ranks_of_lists" = some (some (.ref f14))) (l14 : K.lookup f14 = some ⟨oc14, od14, .func (PySem.W.fnOf "_ranks_of_lists" "_ranks_of_lists" (defArgs sRanksOfLists) (defBody sRanksOfLists) (defScope sRanksOfLists) .none kV14 dc14 pm14 an14 cd14 ct14), sl14⟩) (c14 : PySem.W.codeIn K cd14 "_ranks_of_lists" = true) (k14 : PySem.W.keepIn K (.ref f14) = true)
    (a15 : PySem.W.nsIn K mainGlobals "_are_names" = some (some (.ref f15))) (l15 : K.lookup f15 = some ⟨oc15, od15, .func (PySem.W.fnOf "_are_names" "_are_names" (defArgs sAreNames) (defBody sAreNames) (defScope sAreNames) .none kV15 dc15 pm15 an15 cd15 ct15), sl15⟩) (c15 : PySem.W.codeIn K cd15 "_are_names" = true) (k15 : PySem.W.keepIn K (.ref f15) = true)
    (a16 : PySem.W.nsIn K mainGlobals "_check_lists" = some (some (.ref f16))) (l16 : K.lookup f16 = some ⟨oc16, od16, .func (PySem.W.fnOf "_check_lists" "_check_lists" (defArgs sCheckLists) (defBody sCheckLists) (defScope sCheckLists) .none kV16 dc16 pm16 an16 cd16 ct16), sl16⟩) (c16 : PySem.W.codeIn K cd16 "_check_lists" = true) (k16 : PySem.W.keepIn K (.ref f16) = true)
    (a17 : PySem.W.nsIn K mainGlobals "_check_both_ways" = some (some (.ref f17))) (l17 : K.lookup f17 = some ⟨oc17, od17, .func (PySem.W.fnOf "_check_both_ways" "_check_both_ways" (defArgs sCheckBoth) (defBody sCheckBoth) (defScope sCheckBoth) .none kV17 dc17 pm17 an17 cd17 ct17), sl17⟩) (c17 : PySem.W.codeIn K cd17 "_check_both_ways" = true) (k17 : PySem.W.keepIn K (.ref f17) = true)
    (a18 : PySem.W.findIn K (.ref C) "__init__" = some (some (.ref f18))) (i18 : PySem.W.isFn K (.ref f18) = true) (l18 : K.lookup f18 = some ⟨oc18, od18, .func (PySem.W.fnOf "__init__" "Wishes.__init__" (defArgs sWInit) (defBody sWInit) (defScope sWInit) .none kV18 dc18 pm18 an18 cd18 ct18), sl18⟩) (c18 : PySem.W.codeIn K cd18 "Wishes.__init__" = true) (k18 : PySem.W.keepIn K (.ref f18) = true)
    (a19 : PySem.W.nsIn K mainGlobals "is_wished" = some (some (.ref f19))) (l19 : K.lookup f19 = some ⟨oc19, od19, .func (PySem.W.fnOf "is_wished" "is_wished" (defArgs sIsWished) (defBody sIsWished) (defScope sIsWished) .none kV19 dc19 pm19 an19 cd19 ct19), sl19⟩) (c19 : PySem.W.codeIn K cd19 "is_wished" = true) (k19 : PySem.W.keepIn K (.ref f19) = true)
    (a20 : PySem.W.nsIn K mainGlobals "rank_of" = some (some (.ref f20))) (l20 : K.lookup f20 = some ⟨oc20, od20, .func (PySem.W.fnOf "rank_of" "rank_of" (defArgs sRankOf) (defBody sRankOf) (defScope sRankOf) .none kV20 dc20 pm20 an20 cd20 ct20), sl20⟩) (c20 : PySem.W.codeIn K cd20 "rank_of" = true) (k20 : PySem.W.keepIn K (.ref f20) = true)
    (a21 : PySem.W.nsIn K mainGlobals "ranks_in" = some (some (.ref f21))) (l21 : K.lookup f21 = some ⟨oc21, od21, .func (PySem.W.fnOf "ranks_in" "ranks_in" (defArgs sRanksIn) (defBody sRanksIn) (defScope sRanksIn) .none kV21 dc21 pm21 an21 cd21 ct21), sl21⟩) (c21 : PySem.W.codeIn K cd21 "ranks_in" = true) (k21 : PySem.W.keepIn K (.ref f21) = true)
    (a22 : PySem.W.nsIn K mainGlobals "_may_hold" = some (some (.ref f22))) (l22 : K.lookup f22 = some ⟨oc22, od22, .func (PySem.W.fnOf "_may_hold" "_may_hold" (defArgs sMayHold) (defBody sMayHold) (defScope sMayHold) .none kV22 dc22 pm22 an22 cd22 ct22), sl22⟩) (c22 : PySem.W.codeIn K cd22 "_may_hold" = true) (k22 : PySem.W.keepIn K (.ref f22) = true)
    (a23 : PySem.W.nsIn K mainGlobals "are_holds" = some (some (.ref f23))) (l23 : K.lookup f23 = some ⟨oc23, od23, .func (PySem.W.fnOf "are_holds" "are_holds" (defArgs sAreHolds) (defBody sAreHolds) (defScope sAreHolds) .none kV23 dc23 pm23 an23 cd23 ct23), sl23⟩) (c23 : PySem.W.codeIn K cd23 "are_holds" = true) (k23 : PySem.W.keepIn K (.ref f23) = true)
    (a24 : PySem.W.nsIn K mainGlobals "held_ranks" = some (some (.ref f24))) (l24 : K.lookup f24 = some ⟨oc24, od24, .func (PySem.W.fnOf "held_ranks" "held_ranks" (defArgs sHeldRanks) (defBody sHeldRanks) (defScope sHeldRanks) .none kV24 dc24 pm24 an24 cd24 ct24), sl24⟩) (c24 : PySem.W.codeIn K cd24 "held_ranks" = true) (k24 : PySem.W.keepIn K (.ref f24) = true)
    (a25 : PySem.W.nsIn K mainGlobals "_left_list" = some (some (.ref f25))) (l25 : K.lookup f25 = some ⟨oc25, od25, .func (PySem.W.fnOf "_left_list" "_left_list" (defArgs sLeftList) (defBody sLeftList) (defScope sLeftList) .none kV25 dc25 pm25 an25 cd25 ct25), sl25⟩) (c25 : PySem.W.codeIn K cd25 "_left_list" = true) (k25 : PySem.W.keepIn K (.ref f25) = true)
    (a26 : PySem.W.nsIn K mainGlobals "left_lists" = some (some (.ref f26))) (l26 : K.lookup f26 = some ⟨oc26, od26, .func (PySem.W.fnOf "left_lists" "left_lists" (defArgs sLeftLists) (defBody sLeftLists) (defScope sLeftLists) .none kV26 dc26 pm26 an26 cd26 ct26), sl26⟩) (c26 : PySem.W.codeIn K cd26 "left_lists" = true) (k26 : PySem.W.keepIn K (.ref f26) = true)
    (a27 : PySem.W.nsIn K mainGlobals "first_left" = some (some (.ref f27))) (l27 : K.lookup f27 = some ⟨oc27, od27, .func (PySem.W.fnOf "first_left" "first_left" (defArgs sFirstLeft) (defBody sFirstLeft) (defScope sFirstLeft) .none kV27 dc27 pm27 an27 cd27 ct27), sl27⟩) (c27 : PySem.W.codeIn K cd27 "first_left" = true) (k27 : PySem.W.keepIn K (.ref f27) = true)
    (a28 : PySem.W.nsIn K mainGlobals "firsts_left" = some (some (.ref f28))) (l28 : K.lookup f28 = some ⟨oc28, od28, .func (PySem.W.fnOf "firsts_left" "firsts_left" (defArgs sFirstsLeft) (defBody sFirstsLeft) (defScope sFirstsLeft) .none kV28 dc28 pm28 an28 cd28 ct28), sl28⟩) (c28 : PySem.W.codeIn K cd28 "firsts_left" = true) (k28 : PySem.W.keepIn K (.ref f28) = true)
    (a29 : PySem.W.findIn K (.ref C) "__eq__" = some (some (.ref f29))) (i29 : PySem.W.isFn K (.ref f29) = true) (l29 : K.lookup f29 = some ⟨oc29, od29, .func (PySem.W.fnOf "__eq__" "Wishes.__eq__" (defArgs sWEq) (defBody sWEq) (defScope sWEq) .none kV29 dc29 pm29 an29 cd29 ct29), sl29⟩) (c29 : PySem.W.codeIn K cd29 "Wishes.__eq__" = true) (k29 : PySem.W.keepIn K (.ref f29) = true)
    (a30 : PySem.W.nsIn K mainGlobals "are_within" = some (some (.ref f30))) (l30 : K.lookup f30 = some ⟨oc30, od30, .func (PySem.W.fnOf "are_within" "are_within" (defArgs sAreWithin) (defBody sAreWithin) (defScope sAreWithin) .none kV30 dc30 pm30 an30 cd30 ct30), sl30⟩) (c30 : PySem.W.codeIn K cd30 "are_within" = true) (k30 : PySem.W.keepIn K (.ref f30) = true)
    (a31 : PySem.W.nsIn K mainGlobals "is_steady" = some (some (.ref f31))) (l31 : K.lookup f31 = some ⟨oc31, od31, .func (PySem.W.fnOf "is_steady" "is_steady" (defArgs sIsSteady) (defBody sIsSteady) (defScope sIsSteady) .none kV31 dc31 pm31 an31 cd31 ct31), sl31⟩) (c31 : PySem.W.codeIn K cd31 "is_steady" = true) (k31 : PySem.W.keepIn K (.ref f31) = true)
    (a32 : PySem.W.nsIn K mainGlobals "_law_rank" = some (some (.ref f32))) (l32 : K.lookup f32 = some ⟨oc32, od32, .func (PySem.W.fnOf "_law_rank" "_law_rank" (defArgs sRank) (defBody sRank) (defScope sRank) .none kV32 dc32 pm32 an32 cd32 ct32), sl32⟩) (c32 : PySem.W.codeIn K cd32 "_law_rank" = true) (k32 : PySem.W.keepIn K (.ref f32) = true)
    (a33 : PySem.W.nsIn K mainGlobals "_law_left" = some (some (.ref f33))) (l33 : K.lookup f33 = some ⟨oc33, od33, .func (PySem.W.fnOf "_law_left" "_law_left" (defArgs sLeft) (defBody sLeft) (defScope sLeft) .none kV33 dc33 pm33 an33 cd33 ct33), sl33⟩) (c33 : PySem.W.codeIn K cd33 "_law_left" = true) (k33 : PySem.W.keepIn K (.ref f33) = true)
    (a34 : PySem.W.nsIn K mainGlobals "held_ranks" = some (some (.ref f34))) (l34 : K.lookup f34 = some ⟨oc34, od34, .func (PySem.W.fnOf "held_ranks" "held_ranks" (defArgs sHeldRanks) (defBody sHeldRanks) (defScope sHeldRanks) .none kV34 dc34 pm34 an34 cd34 ct34), sl34⟩) (c34 : PySem.W.codeIn K cd34 "held_ranks" = true) (k34 : PySem.W.keepIn K (.ref f34) = true)
    (a35 : PySem.W.nsIn K mainGlobals "_is_odd" = some (some (.ref f35))) (l35 : K.lookup f35 = some ⟨oc35, od35, .func (PySem.W.fnOf "_is_odd" "_is_odd" (defArgs sIsOdd) (defBody sIsOdd) (defScope sIsOdd) .none kV35 dc35 pm35 an35 cd35 ct35), sl35⟩) (c35 : PySem.W.codeIn K cd35 "_is_odd" = true) (k35 : PySem.W.keepIn K (.ref f35) = true)
    (a36 : PySem.W.nsIn K mainGlobals "is_odd_turn" = some (some (.ref f36))) (l36 : K.lookup f36 = some ⟨oc36, od36, .func (PySem.W.fnOf "is_odd_turn" "is_odd_turn" (defArgs sIsOddTurn) (defBody sIsOddTurn) (defScope sIsOddTurn) .none kV36 dc36 pm36 an36 cd36 ct36), sl36⟩) (c36 : PySem.W.codeIn K cd36 "is_odd_turn" = true) (k36 : PySem.W.keepIn K (.ref f36) = true)
    (a37 : PySem.W.nsIn K mainGlobals "holds_past" = some (some (.ref f37))) (l37 : K.lookup f37 = some ⟨oc37, od37, .func (PySem.W.fnOf "holds_past" "holds_past" (defArgs sHoldsPast) (defBody sHoldsPast) (defScope sHoldsPast) .none kV37 dc37 pm37 an37 cd37 ct37), sl37⟩) (c37 : PySem.W.codeIn K cd37 "holds_past" = true) (k37 : PySem.W.keepIn K (.ref f37) = true)
    (a38 : PySem.W.nsIn K mainGlobals "turned_out" = some (some (.ref f38))) (l38 : K.lookup f38 = some ⟨oc38, od38, .func (PySem.W.fnOf "turned_out" "turned_out" (defArgs sTurnedOut) (defBody sTurnedOut) (defScope sTurnedOut) .none kV38 dc38 pm38 an38 cd38 ct38), sl38⟩) (c38 : PySem.W.codeIn K cd38 "turned_out" = true) (k38 : PySem.W.keepIn K (.ref f38) = true)
    (a39 : PySem.W.findIn K (.ref CR) "__init__" = some (some (.ref f39))) (i39 : PySem.W.typeIn K (.ref f39) = some (.type "function")) (l39 : K.lookup f39 = some ⟨oc39, od39, .func (PySem.W.fnOf "__init__" "Refused.__init__" (defArgs sRefusedInit) (defBody sRefusedInit) (defScope sRefusedInit) .none kV39 dc39 pm39 an39 cd39 ct39), sl39⟩) (c39 : PySem.W.codeIn K cd39 "Refused.__init__" = true) (k39 : PySem.W.keepIn K (.ref f39) = true)
    (a40 : PySem.W.nsIn K mainGlobals "turned_out" = some (some (.ref f40))) (l40 : K.lookup f40 = some ⟨oc40, od40, .func (PySem.W.fnOf "turned_out" "turned_out" (defArgs sTurnedOut) (defBody sTurnedOut) (defScope sTurnedOut) .none kV40 dc40 pm40 an40 cd40 ct40), sl40⟩) (c40 : PySem.W.codeIn K cd40 "turned_out" = true) (k40 : PySem.W.keepIn K (.ref f40) = true)
    (a41 : PySem.W.nsIn K mainGlobals "_law_round" = some (some (.ref f41))) (l41 : K.lookup f41 = some ⟨oc41, od41, .func (PySem.W.fnOf "_law_round" "_law_round" (defArgs sLRound) (defBody sLRound) (defScope sLRound) .none kV41 dc41 pm41 an41 cd41 ct41), sl41⟩) (c41 : PySem.W.codeIn K cd41 "_law_round" = true) (k41 : PySem.W.keepIn K (.ref f41) = true)
    (a42 : PySem.W.nsIn K mainGlobals "_law_out" = some (some (.ref f42))) (l42 : K.lookup f42 = some ⟨oc42, od42, .func (PySem.W.fnOf "_law_out" "_law_out" (defArgs sLOut) (defBody sLOut) (defScope sLOut) .none kV42 dc42 pm42 an42 cd42 ct42), sl42⟩) (c42 : PySem.W.codeIn K cd42 "_law_out" = true) (k42 : PySem.W.keepIn K (.ref f42) = true)
    (a43 : PySem.W.nsIn K mainGlobals "_law_rings" = some (some (.ref f43))) (l43 : K.lookup f43 = some ⟨oc43, od43, .func (PySem.W.fnOf "_law_rings" "_law_rings" (defArgs sLRings) (defBody sLRings) (defScope sLRings) .none kV43 dc43 pm43 an43 cd43 ct43), sl43⟩) (c43 : PySem.W.codeIn K cd43 "_law_rings" = true) (k43 : PySem.W.keepIn K (.ref f43) = true)
    (a44 : PySem.W.nsIn K mainGlobals "_law_told" = some (some (.ref f44))) (l44 : K.lookup f44 = some ⟨oc44, od44, .func (PySem.W.fnOf "_law_told" "_law_told" (defArgs sLTold) (defBody sLTold) (defScope sLTold) .none kV44 dc44 pm44 an44 cd44 ct44), sl44⟩) (c44 : PySem.W.codeIn K cd44 "_law_told" = true) (k44 : PySem.W.keepIn K (.ref f44) = true)
    (a45 : PySem.W.nsIn K mainGlobals "_law_is_odd" = some (some (.ref f45))) (l45 : K.lookup f45 = some ⟨oc45, od45, .func (PySem.W.fnOf "_law_is_odd" "_law_is_odd" (defArgs sLIsOdd) (defBody sLIsOdd) (defScope sLIsOdd) .none kV45 dc45 pm45 an45 cd45 ct45), sl45⟩) (c45 : PySem.W.codeIn K cd45 "_law_is_odd" = true) (k45 : PySem.W.keepIn K (.ref f45) = true)
    (a46 : PySem.W.nsIn K mainGlobals "_law_turned" = some (some (.ref f46))) (l46 : K.lookup f46 = some ⟨oc46, od46, .func (PySem.W.fnOf "_law_turned" "_law_turned" (defArgs sLTurned) (defBody sLTurned) (defScope sLTurned) .none kV46 dc46 pm46 an46 cd46 ct46), sl46⟩) (c46 : PySem.W.codeIn K cd46 "_law_turned" = true) (k46 : PySem.W.keepIn K (.ref f46) = true)
    (a47 : PySem.W.nsIn K mainGlobals "_law_good" = some (some (.ref f47))) (l47 : K.lookup f47 = some ⟨oc47, od47, .func (PySem.W.fnOf "_law_good" "_law_good" (defArgs sLGood) (defBody sLGood) (defScope sLGood) .none kV47 dc47 pm47 an47 cd47 ct47), sl47⟩) (c47 : PySem.W.codeIn K cd47 "_law_good" = true) (k47 : PySem.W.keepIn K (.ref f47) = true)
    (a48 : PySem.W.nsIn K mainGlobals "_law_some_lists" = some (some (.ref f48))) (l48 : K.lookup f48 = some ⟨oc48, od48, .func (PySem.W.fnOf "_law_some_lists" "_law_some_lists" (defArgs sLSomeLists) (defBody sLSomeLists) (defScope sLSomeLists) .none kV48 dc48 pm48 an48 cd48 ct48), sl48⟩) (c48 : PySem.W.codeIn K cd48 "_law_some_lists" = true) (k48 : PySem.W.keepIn K (.ref f48) = true)
    (a49 : PySem.W.nsIn K mainGlobals "_law_stages" = some (some (.ref f49))) (l49 : K.lookup f49 = some ⟨oc49, od49, .func (PySem.W.fnOf "_law_stages" "_law_stages" (defArgs sLStages) (defBody sLStages) (defScope sLStages) .none kV49 dc49 pm49 an49 cd49 ct49), sl49⟩) (c49 : PySem.W.codeIn K cd49 "_law_stages" = true) (k49 : PySem.W.keepIn K (.ref f49) = true)
    (a50 : PySem.W.nsIn K mainGlobals "_law_good_right" = some (some (.ref f50))) (l50 : K.lookup f50 = some ⟨oc50, od50, .func (PySem.W.fnOf "_law_good_right" "_law_good_right" (defArgs sLGoodRight) (defBody sLGoodRight) (defScope sLGoodRight) .none kV50 dc50 pm50 an50 cd50 ct50), sl50⟩) (c50 : PySem.W.codeIn K cd50 "_law_good_right" = true) (k50 : PySem.W.keepIn K (.ref f50) = true)
    (a51 : PySem.W.nsIn K mainGlobals "_law_odd_right" = some (some (.ref f51))) (l51 : K.lookup f51 = some ⟨oc51, od51, .func (PySem.W.fnOf "_law_odd_right" "_law_odd_right" (defArgs sLOddRight) (defBody sLOddRight) (defScope sLOddRight) .none kV51 dc51 pm51 an51 (.ref cc51) ct51), sl51⟩) (c51 : PySem.W.codeIn K (.ref cc51) "_law_odd_right" = true) (k51 : PySem.W.keepIn K (.ref f51) = true)
    (a52 : PySem.W.nsIn K mainGlobals "law" = some (some (.ref f52))) (l52 : K.lookup f52 = some ⟨oc52, od52, .func (PySem.W.fnOf "law" "law" (defArgs sLaw) (defBody sLaw) (defScope sLaw) .none kV52 dc52 pm52 an52 (.ref cc52) ct52), sl52⟩) (c52 : PySem.W.codeIn K (.ref cc52) "law" = true) (k52 : PySem.W.keepIn K (.ref f52) = true)
    (aC : PySem.W.nsIn K mainGlobals "Wishes" = some (some (.ref C))) (pg : PySem.W.plainGet K C Str.empty = true) (hd : PySem.W.hasDictIn K C = true) (po : PySem.W.plainOver K C = true) (sa : PySem.W.findIn K (.ref C) "__setattr__" = some (some (.builtin "object.__setattr__"))) (mk : PySem.W.makesIn K C = true) (kc : PySem.W.keepIn K (.ref C) = true)
    (nA0 : PySem.W.findIn K (.ref C) "names" = some none)    (nA1 : PySem.W.findIn K (.ref C) "lists" = some none)    (nA2 : PySem.W.findIn K (.ref C) "_ranks" = some none)
    (ic1 : PySem.W.findIn K (.ref C) "__class__" = some (some (.builtin "object.__class__"))) (ic2 : PySem.W.specialIn K (.builtin "object.__class__") "__get__" = some (some (.builtin "getset_descriptor.__get__"))) (ic3 : PySem.W.takesIn K (.builtin "object.__class__") = some true) (ic4 : PySem.W.mroIn K C (.type "object") = some true)
    (z_int : PySem.W.nsIn K mainGlobals "int" = some none)    (z_len : PySem.W.nsIn K mainGlobals "len" = some none)    (z_abs : PySem.W.nsIn K mainGlobals "abs" = some none)    (z_range : PySem.W.nsIn K mainGlobals "range" = some none)    (z_list : PySem.W.nsIn K mainGlobals "list" = some none)    (z_tuple : PySem.W.nsIn K mainGlobals "tuple" = some none)    (z_sorted : PySem.W.nsIn K mainGlobals "sorted" = some none)    (z_isinstance : PySem.W.nsIn K mainGlobals "isinstance" = some none)    (z_bool : PySem.W.nsIn K mainGlobals "bool" = some none)    (z_str : PySem.W.nsIn K mainGlobals "str" = some none)    (z_all : PySem.W.nsIn K mainGlobals "all" = some none)    (z_set : PySem.W.nsIn K mainGlobals "set" = some none)    (z_enumerate : PySem.W.nsIn K mainGlobals "enumerate" = some none)    (z_zip : PySem.W.nsIn K mainGlobals "zip" = some none)    (z_sum : PySem.W.nsIn K mainGlobals "sum" = some none)    (z_min : PySem.W.nsIn K mainGlobals "min" = some none)    (z_repr : PySem.W.nsIn K mainGlobals "repr" = some none)    (zi_MOST_LETTERS : PySem.W.nsIn K mainGlobals "MOST_LETTERS" = some (some (.int 6 t_MOST_LETTERS)))    (zi_MOST_PERSONS : PySem.W.nsIn K mainGlobals "MOST_PERSONS" = some (some (.int 60 t_MOST_PERSONS)))
    (eL : K.lookup CR = some (excClassObj enm eq CR eN ebs ebm true esn esub eab ecol edd e0 e1 e2 e3 e5 "ValueError.__new__")) (eV : PySem.HandSPX.refsVE ebm = true) (q_sa : PySem.W.findIn K (.ref CR) "__setattr__" = some (some (.builtin "object.__setattr__"))) (q_ex : PySem.W.subIn K (.ref CR) (.type "BaseException") = some true) (q_ty : PySem.W.typeIn K (.ref CR) = some (.type "type")) (q_k : PySem.W.keepIn K (.ref CR) = true) (q_ga : PySem.W.findIn K (.ref CR) "__getattribute__" = some (some (.builtin "BaseException.__getattribute__"))) (q_gg : PySem.W.findIn K (.ref CR) "__getattr__" = some none) (q_hd : PySem.W.hasDictIn K CR = true) (q_ha : PySem.W.findIn K (.ref CR) "__class__" = some (some (.builtin "object.__class__"))) (q_hn : PySem.W.specialIn K (.builtin "object.__class__") "__get__" = some (some (.builtin "getset_descriptor.__get__"))) (q_ht : PySem.W.takesIn K (.builtin "object.__class__") = some true) (q_hm : PySem.W.mroIn K CR (.type "object") = some true) (q_w : PySem.W.findIn K (.ref CR) "word" = some none) (q_gR : PySem.W.nsIn K mainGlobals "Refused" = some (some (.ref CR))) (q_gM : PySem.W.nsIn K mainGlobals "MateError" = some (some (.ref CM))) (q_kM : PySem.W.keepIn K (.ref CM) = true) (q_xm : PySem.W.exmOne K (.ref CR) (.ref CR) = some true) (q_is : PySem.W.kitOne K (.ref CR) (.ref CM) = some true) (aH : PySem.W.nsIn K mainGlobals "_law_heard" = some (some (.ref fH))) (lH : K.lookup fH = some ⟨ocH, odH, .func (PySem.W.fnOf "_law_heard" "_law_heard" (defArgs sLHeard) (defBody sLHeard) (defScope sLHeard) .none kVH dcH pmH anH cdH ctH), slH⟩) (cH : PySem.W.codeIn K cdH "_law_heard" = true) (kH : PySem.W.keepIn K (.ref fH) = true)
    (hT51 : h.get? PT51 = some { cls := .none, data := .fields #[] }) (nT51 : K.lookup PT51 = none) (hC51 : PySem.W.CodeHd h cc51 PT51)
    (hT52 : h.get? PT52 = some { cls := .none, data := .fields #[] }) (nT52 : K.lookup PT52 = none) (hC52 : PySem.W.CodeHd h cc52 PT52)
 (ne51_52 : PT51 ≠ PT52) :
    LawX l w K L2.CX0 9 63 "script" mg fa h := by
  have e := hfa.symm.trans (PySem.W.mg_of X G a52)
  cases e
  have T : Txt K mg C := ⟨⟨pg, hd, po, sa⟩, nA0, nA1, nA2, PySem.W.mg_of X G aC⟩
  have M : Mk K C f18 := ⟨mk, a18, i18, kc⟩
  have IC : C8.InsC K C := ⟨⟨pg, hd, po, sa⟩, ic1, ic2, ic3, ic4, if_pos (beq_self_eq_true _)⟩
  have F1 := fun_mk (st := sDraw) l1 c1 k1
  have F2 := fun_mk (st := sPick) l2 c2 k2
  have F3 := fun_mk (st := sHeap) l3 c3 k3
  have F4 := fun_mk (st := sShuffled) l4 c4 k4
  have F5 := fun_mk (st := sNames) l5 c5 k5
  have F6 := fun_mk (st := sIsNumber) l6 c6 k6
  have F7 := fun_mk (st := sIsBelow) l7 c7 k7
  have F8 := fun_mk (st := sIsTupleOf) l8 c8 k8
  have F9 := fun_mk (st := sIsName) l9 c9 k9
  have F10 := fun_mk (st := sArePersons) l10 c10 k10
  have F11 := fun_mk (st := sAreUnlike) l11 c11 k11
  have F12 := fun_mk (st := sLists) l12 c12 k12
  have F13 := fun_mk (st := sRanksOfList) l13 c13 k13
  have F14 := fun_mk (st := sRanksOfLists) l14 c14 k14
  have F15 := fun_mk (st := sAreNames) l15 c15 k15
  have F16 := fun_mk (st := sCheckLists) l16 c16 k16
  have F17 := fun_mk (st := sCheckBoth) l17 c17 k17
  have F18 := fun_mk (st := sWInit) l18 c18 k18
  have F19 := fun_mk (st := sIsWished) l19 c19 k19
  have F20 := fun_mk (st := sRankOf) l20 c20 k20
  have F21 := fun_mk (st := sRanksIn) l21 c21 k21
  have F22 := fun_mk (st := sMayHold) l22 c22 k22
  have F23 := fun_mk (st := sAreHolds) l23 c23 k23
  have F24 := fun_mk (st := sHeldRanks) l24 c24 k24
  have F25 := fun_mk (st := sLeftList) l25 c25 k25
  have F26 := fun_mk (st := sLeftLists) l26 c26 k26
  have F27 := fun_mk (st := sFirstLeft) l27 c27 k27
  have F28 := fun_mk (st := sFirstsLeft) l28 c28 k28
  have F29 := fun_mk (st := sWEq) l29 c29 k29
  have F30 := fun_mk (st := sAreWithin) l30 c30 k30
  have F31 := fun_mk (st := sIsSteady) l31 c31 k31
  have F32 := fun_mk (st := sRank) l32 c32 k32
  have F33 := fun_mk (st := sLeft) l33 c33 k33
  have F34 := fun_mk (st := sHeldRanks) l34 c34 k34
  have F35 := fun_mk (st := sIsOdd) l35 c35 k35
  have F36 := fun_mk (st := sIsOddTurn) l36 c36 k36
  have F37 := fun_mk (st := sHoldsPast) l37 c37 k37
  have F38 := fun_mk (st := sTurnedOut) l38 c38 k38
  have F39 := fun_mk (st := sRefusedInit) l39 c39 k39
  have F40 := fun_mk (st := sTurnedOut) l40 c40 k40
  have F41 := fun_mk (st := sLRound) l41 c41 k41
  have F42 := fun_mk (st := sLOut) l42 c42 k42
  have F43 := fun_mk (st := sLRings) l43 c43 k43
  have F44 := fun_mk (st := sLTold) l44 c44 k44
  have F45 := fun_mk (st := sLIsOdd) l45 c45 k45
  have F46 := fun_mk (st := sLTurned) l46 c46 k46
  have F47 := fun_mk (st := sLGood) l47 c47 k47
  have F48 := fun_mk (st := sLSomeLists) l48 c48 k48
  have F49 := fun_mk (st := sLStages) l49 c49 k49
  have F50 := fun_mk (st := sLGoodRight) l50 c50 k50
  have F51 := fun_mk (st := sLOddRight) l51 c51 k51
  have F52 := fun_mk (st := sLaw) l52 c52 k52
  have b1 := F1.binds (ps := ["heap", "many"]) fun _ _ _ _ _ _ us hl => match us, hl with | [_, _], _ => rfl
  have b2 := F2.binds (ps := ["heap", "some"]) fun _ _ _ _ _ _ us hl => match us, hl with | [_, _], _ => rfl
  have b3 := F3.binds (ps := ["script"]) fun _ _ _ _ _ _ us hl => match us, hl with | [_], _ => rfl
  have b4 := F4.binds (ps := ["heap", "some"]) fun _ _ _ _ _ _ us hl => match us, hl with | [_, _], _ => rfl
  have b5 := F5.binds (ps := ["heap", "many"]) fun _ _ _ _ _ _ us hl => match us, hl with | [_, _], _ => rfl
  have b6 := F6.binds (ps := ["value"]) fun _ _ _ _ _ _ us hl => match us, hl with | [_], _ => rfl
  have b7 := F7.binds (ps := ["value", "bound"]) fun _ _ _ _ _ _ us hl => match us, hl with | [_, _], _ => rfl
  have b8 := F8.binds (ps := ["value", "many"]) fun _ _ _ _ _ _ us hl => match us, hl with | [_, _], _ => rfl
  have b9 := F9.binds (ps := ["value"]) fun _ _ _ _ _ _ us hl => match us, hl with | [_], _ => rfl
  have b10 := F10.binds (ps := ["value", "many"]) fun _ _ _ _ _ _ us hl => match us, hl with | [_, _], _ => rfl
  have b11 := F11.binds (ps := ["value", "many"]) fun _ _ _ _ _ _ us hl => match us, hl with | [_, _], _ => rfl
  have b12 := F12.binds (ps := ["heap", "many", "share"]) fun _ _ _ _ _ _ us hl => match us, hl with | [_, _, _], _ => rfl
  have b13 := F13.binds (ps := ["some", "many"]) fun _ _ _ _ _ _ us hl => match us, hl with | [_, _], _ => rfl
  have b14 := F14.binds (ps := ["lists"]) fun _ _ _ _ _ _ us hl => match us, hl with | [_], _ => rfl
  have b15 := F15.binds (ps := ["value"]) fun _ _ _ _ _ _ us hl => match us, hl with | [_], _ => rfl
  have b16 := F16.binds (ps := ["lists"]) fun _ _ _ _ _ _ us hl => match us, hl with | [_], _ => rfl
  have b17 := F17.binds (ps := ["lists", "ranks"]) fun _ _ _ _ _ _ us hl => match us, hl with | [_, _], _ => rfl
  have b18 := F18.binds (ps := ["self", "names", "lists"]) fun _ _ _ _ _ _ us hl => match us, hl with | [_, _, _], _ => rfl
  have b19 := F19.binds (ps := ["wishes", "person", "other"]) fun _ _ _ _ _ _ us hl => match us, hl with | [_, _, _], _ => rfl
  have b20 := F20.binds (ps := ["wishes", "person", "other"]) fun _ _ _ _ _ _ us hl => match us, hl with | [_, _, _], _ => rfl
  have b21 := F21.binds (ps := ["wishes"]) fun _ _ _ _ _ _ us hl => match us, hl with | [_], _ => rfl
  have b22 := F22.binds (ps := ["wishes", "person", "held"]) fun _ _ _ _ _ _ us hl => match us, hl with | [_, _, _], _ => rfl
  have b23 := F23.binds (ps := ["wishes", "value"]) fun _ _ _ _ _ _ us hl => match us, hl with | [_, _], _ => rfl
  have b24 := F24.binds (ps := ["wishes", "holds"]) fun _ _ _ _ _ _ us hl => match us, hl with | [_, _], _ => rfl
  have b25 := F25.binds (ps := ["wishes", "most", "person"]) fun _ _ _ _ _ _ us hl => match us, hl with | [_, _, _], _ => rfl
  have b26 := F26.binds (ps := ["wishes", "holds"]) fun _ _ _ _ _ _ us hl => match us, hl with | [_, _], _ => rfl
  have b27 := F27.binds (ps := ["wishes", "most", "person"]) fun _ _ _ _ _ _ us hl => match us, hl with | [_, _, _], _ => rfl
  have b28 := F28.binds (ps := ["wishes", "holds"]) fun _ _ _ _ _ _ us hl => match us, hl with | [_, _], _ => rfl
  have b29 := F29.binds (ps := ["self", "other"]) fun _ _ _ _ _ _ us hl => match us, hl with | [_, _], _ => rfl
  have b30 := F30.binds (ps := ["wishes", "one", "other"]) fun _ _ _ _ _ _ us hl => match us, hl with | [_, _, _], _ => rfl
  have b31 := F31.binds (ps := ["wishes", "value"]) fun _ _ _ _ _ _ us hl => match us, hl with | [_, _], _ => rfl
  have b32 := F32.binds (ps := ["lists", "person", "other"]) fun _ _ _ _ _ _ us hl => match us, hl with | [_, _, _], _ => rfl
  have b33 := F33.binds (ps := ["lists", "holds"]) fun _ _ _ _ _ _ us hl => match us, hl with | [_, _], _ => rfl
  have b34 := F34.binds (ps := ["wishes", "holds"]) fun _ _ _ _ _ _ us hl => match us, hl with | [_, _], _ => rfl
  have b35 := F35.binds (ps := ["lists", "ring"]) fun _ _ _ _ _ _ us hl => match us, hl with | [_, _], _ => rfl
  have b36 := F36.binds (ps := ["wishes", "holds", "ring"]) fun _ _ _ _ _ _ us hl => match us, hl with | [_, _, _], _ => rfl
  have b37 := F37.binds (ps := ["holds", "ring"]) fun _ _ _ _ _ _ us hl => match us, hl with | [_, _], _ => rfl
  have b38 := F38.binds (ps := ["wishes", "holds", "ring"]) fun _ _ _ _ _ _ us hl => match us, hl with | [_, _, _], _ => rfl
  have n38 := named3 (n := "wishes") (m := "holds") (o := "ring") F38 (fun _ _ _ _ _ _ _ _ _ => rfl) (fun _ _ _ _ _ _ _ _ _ => rfl) (fun _ _ _ _ _ _ _ _ _ => rfl) (fun _ _ _ _ _ _ _ _ _ => rfl)
  have b39 := F39.binds (ps := ["self", "word"]) fun _ _ _ _ _ _ us hl => match us, hl with | [_, _], _ => rfl
  have b40 := F40.binds (ps := ["wishes", "holds", "ring"]) fun _ _ _ _ _ _ us hl => match us, hl with | [_, _, _], _ => rfl
  have b41 := F41.binds (ps := ["heap", "many"]) fun _ _ _ _ _ _ us hl => match us, hl with | [_, _], _ => rfl
  have b42 := F42.binds (ps := ["lists"]) fun _ _ _ _ _ _ us hl => match us, hl with | [_], _ => rfl
  have b43 := F43.binds (ps := ["lists", "holds"]) fun _ _ _ _ _ _ us hl => match us, hl with | [_, _], _ => rfl
  have b44 := F44.binds (ps := ["lists", "holds", "ring"]) fun _ _ _ _ _ _ us hl => match us, hl with | [_, _, _], _ => rfl
  have b45 := F45.binds (ps := ["lists", "holds", "ring"]) fun _ _ _ _ _ _ us hl => match us, hl with | [_, _, _], _ => rfl
  have b46 := F46.binds (ps := ["lists", "holds", "ring"]) fun _ _ _ _ _ _ us hl => match us, hl with | [_, _, _], _ => rfl
  have b47 := F47.binds (ps := ["lists", "holds"]) fun _ _ _ _ _ _ us hl => match us, hl with | [_, _], _ => rfl
  have b48 := F48.binds (ps := ["heap", "sizes"]) fun _ _ _ _ _ _ us hl => match us, hl with | [_, _], _ => rfl
  have b49 := F49.binds (ps := ["heap", "lists"]) fun _ _ _ _ _ _ us hl => match us, hl with | [_, _], _ => rfl
  have b50 := F50.binds (ps := ["wishes", "lists", "holds", "ring"]) fun _ _ _ _ _ _ us hl => match us, hl with | [_, _, _, _], _ => rfl
  have b51 := F51.binds (ps := ["wishes", "lists", "holds", "ring"]) fun _ _ _ _ _ _ us hl => match us, hl with | [_, _, _, _], _ => rfl
  have FH := fun_mk (st := sLHeard) lH cH kH
  have bH := FH.binds (ps := ["action"]) fun _ _ _ _ _ _ us hl => match us, hl with | [_], _ => rfl
  have GH : HeardT K mg fH _ := ⟨FH, bH, kH, PySem.W.mg_of X G aH⟩
  have ET : ErrT K mg CR CM f39 := ⟨⟨⟨_, _, _, _, _, _, _, _, _, _, _, _, _, _, _, eL, eV⟩, q_sa, q_ex, q_ty, q_k⟩, ⟨q_ga, q_gg, q_ex, q_hd⟩, ⟨q_ga, q_gg, q_ex, q_hd, q_ha, q_hn, q_ht, q_hm⟩, q_w, a39, i39, PySem.W.mg_of X G q_gR, PySem.W.mg_of X G q_gM, q_kM, q_xm, q_is⟩
  have m_int := PySem.W.mg_none_of X G z_int
  have m_len := PySem.W.mg_none_of X G z_len
  have m_abs := PySem.W.mg_none_of X G z_abs
  have m_range := PySem.W.mg_none_of X G z_range
  have m_list := PySem.W.mg_none_of X G z_list
  have m_tuple := PySem.W.mg_none_of X G z_tuple
  have m_sorted := PySem.W.mg_none_of X G z_sorted
  have m_isinstance := PySem.W.mg_none_of X G z_isinstance
  have m_bool := PySem.W.mg_none_of X G z_bool
  have m_str := PySem.W.mg_none_of X G z_str
  have m_all := PySem.W.mg_none_of X G z_all
  have m_set := PySem.W.mg_none_of X G z_set
  have m_enumerate := PySem.W.mg_none_of X G z_enumerate
  have m_zip := PySem.W.mg_none_of X G z_zip
  have m_sum := PySem.W.mg_none_of X G z_sum
  have m_min := PySem.W.mg_none_of X G z_min
  have m_repr := PySem.W.mg_none_of X G z_repr
  have mi_MOST_LETTERS := PySem.W.mg_of X G zi_MOST_LETTERS
  have mi_MOST_PERSONS := PySem.W.mg_of X G zi_MOST_PERSONS
  have m1 := PySem.W.mg_of X G a1
  have m2 := PySem.W.mg_of X G a2
  have m3 := PySem.W.mg_of X G a3
  have m4 := PySem.W.mg_of X G a4
  have m5 := PySem.W.mg_of X G a5
  have m6 := PySem.W.mg_of X G a6
  have m7 := PySem.W.mg_of X G a7
  have m8 := PySem.W.mg_of X G a8
  have m9 := PySem.W.mg_of X G a9
  have m10 := PySem.W.mg_of X G a10
  have m11 := PySem.W.mg_of X G a11
  have m12 := PySem.W.mg_of X G a12
  have m13 := PySem.W.mg_of X G a13
  have m14 := PySem.W.mg_of X G a14
  have m15 := PySem.W.mg_of X G a15
  have m16 := PySem.W.mg_of X G a16
  have m17 := PySem.W.mg_of X G a17
  have m19 := PySem.W.mg_of X G a19
  have m20 := PySem.W.mg_of X G a20
  have m21 := PySem.W.mg_of X G a21
  have m22 := PySem.W.mg_of X G a22
  have m23 := PySem.W.mg_of X G a23
  have m24 := PySem.W.mg_of X G a24
  have m25 := PySem.W.mg_of X G a25
  have m26 := PySem.W.mg_of X G a26
  have m27 := PySem.W.mg_of X G a27
  have m28 := PySem.W.mg_of X G a28
  have m30 := PySem.W.mg_of X G a30
  have m31 := PySem.W.mg_of X G a31
  have m32 := PySem.W.mg_of X G a32
  have m33 := PySem.W.mg_of X G a33
  have m34 := PySem.W.mg_of X G a34
  have m35 := PySem.W.mg_of X G a35
  have m36 := PySem.W.mg_of X G a36
  have m37 := PySem.W.mg_of X G a37
  have m38 := PySem.W.mg_of X G a38
  have m40 := PySem.W.mg_of X G a40
  have m41 := PySem.W.mg_of X G a41
  have m42 := PySem.W.mg_of X G a42
  have m43 := PySem.W.mg_of X G a43
  have m44 := PySem.W.mg_of X G a44
  have m45 := PySem.W.mg_of X G a45
  have m46 := PySem.W.mg_of X G a46
  have m47 := PySem.W.mg_of X G a47
  have m48 := PySem.W.mg_of X G a48
  have m49 := PySem.W.mg_of X G a49
  have m50 := PySem.W.mg_of X G a50
  have m51 := PySem.W.mg_of X G a51
  refine ⟨PySem.W.fnOf "law" "law" (defArgs sLaw) (defBody sLaw) (defScope sLaw) .none kV52 dc52 pm52 an52 (.ref cc52) ct52, [(cc51, PT51), (cc52, PT52)], spLaw K [(PT51, lamQ "_law_odd_right"), (PT52, lamQ "law")], ?_, ?_, ?_, fun s v => .of_eq rfl, ?_, fun base _ _ hB => ?_⟩
  · intro p hp
    simp only [List.mem_cons, List.not_mem_nil, or_false] at hp
    rcases hp with rfl | rfl
    · exact hT51
    · exact hT52
  · intro p hp
    simp only [List.mem_cons, List.not_mem_nil, or_false] at hp
    rcases hp with rfl | rfl
    · exact nT51
    · exact nT52
  · intro p hp
    simp only [List.mem_cons, List.not_mem_nil, or_false] at hp
    rcases hp with rfl | rfl
    · exact hC51
    · exact hC52
  · intro H a ns hl hH hS
    refine ⟨a, ns, rfl, hS, hl, fun p hp => ?_, fun _ => rfl⟩
    simp only [List.mem_cons, List.not_mem_nil, or_false] at hp
    rcases hp with rfl | rfl
    · exact LamX.TabS.nil (hH (cc51, PT51) (by simp))
    · exact LamX.TabS.nil (hH (cc52, PT52) (by simp))
  have TB__law_odd_right : TabT [(PT51, lamQ "_law_odd_right"), (PT52, lamQ "law")] base mg cc51 PT51 (lamQ "_law_odd_right") := ⟨hB (cc51, PT51) (by simp), by simp, by
    intro p hp e
    simp only [List.mem_cons, List.not_mem_nil, or_false] at hp
    rcases hp with rfl | rfl
    · rfl
    · exact absurd e (Ne.symm ne51_52)⟩
  have TB_law : TabT [(PT51, lamQ "_law_odd_right"), (PT52, lamQ "law")] base mg cc52 PT52 (lamQ "law") := ⟨hB (cc52, PT52) (by simp), by simp, by
    intro p hp e
    simp only [List.mem_cons, List.not_mem_nil, or_false] at hp
    rcases hp with rfl | rfl
    · exact absurd e ne51_52
    · rfl⟩
  have g1 := ok_draw (P := l.prog) (w := w) (mg := mg) (base := base) (k := 0) F1 m_int
  have g2 := ok_pick (P := l.prog) (w := w) (mg := mg) (base := base) (k := 1) F2 (g1.mono (by decide)) b1 k1 m1 m_len
  have g3 := ok_heap (P := l.prog) (w := w) (mg := mg) (base := base) (k := 0) F3 m_int m_abs
  have g4 := ok_shuffled (P := l.prog) (w := w) (mg := mg) (base := base) (k := 1) F4 (g1.mono (by decide)) b1 k1 m1 m_len m_range m_list m_tuple
  have g5 := ok_names (P := l.prog) (w := w) (mg := mg) (base := base) (k := 2) F5 (g1.mono (by decide)) b1 k1 m1 (g2.mono (by decide)) b2 k2 m2 m_int m_len m_range m_sorted m_tuple
  have g6 := ok_is_number (P := l.prog) (w := w) (mg := mg) (base := base) (k := 0) F6 m_isinstance m_int m_bool
  have g7 := ok_is_below (P := l.prog) (w := w) (mg := mg) (base := base) (k := 1) F7 (g6.mono (by decide)) b6 k6 m6
  have g8 := ok_is_tuple_of (P := l.prog) (w := w) (mg := mg) (base := base) (k := 0) F8 m_isinstance m_tuple m_len
  have g9 := ok_is_name (P := l.prog) (w := w) (mg := mg) (base := base) (k := 0) F9 m_isinstance m_str m_len m_all mi_MOST_LETTERS
  have g10 := ok_are_persons (P := l.prog) (w := w) (mg := mg) (base := base) (k := 2) F10 (g7.mono (by decide)) b7 k7 m7 m_isinstance m_tuple m_all
  have g11 := ok_are_unlike (P := l.prog) (w := w) (mg := mg) (base := base) (k := 3) F11 (g10.mono (by decide)) b10 k10 m10 m_len m_set
  have g12 := ok_lists (P := l.prog) (w := w) (mg := mg) (base := base) (k := 2) F12 (g1.mono (by decide)) b1 k1 m1 (g4.mono (by decide)) b4 k4 m4 m_range m_tuple
  have g13 := ok_ranks_of_list (P := l.prog) (w := w) (mg := mg) (base := base) (k := 0) F13 m_enumerate m_tuple
  have g14 := ok_ranks_of_lists (P := l.prog) (w := w) (mg := mg) (base := base) (k := 1) F14 (g13.mono (by decide)) b13 k13 m13 m_len m_tuple
  have g15 := ok_are_names (P := l.prog) (w := w) (mg := mg) (base := base) (k := 1) F15 (g9.mono (by decide)) b9 k9 m9 m_isinstance m_tuple m_len m_all m_range mi_MOST_PERSONS
  have g16 := ok_check_lists (P := l.prog) (w := w) (mg := mg) (base := base) (k := 4) F16 (g11.mono (by decide)) b11 k11 m11 m_enumerate m_len
  have g17 := ok_check_both (P := l.prog) (w := w) (mg := mg) (base := base) (k := 0) F17 m_enumerate
  have g18 := ok_winit (P := l.prog) (w := w) (mg := mg) (base := base) (k := 5) F18 T (g15.mono (by decide)) b15 k15 m15 (g8.mono (by decide)) b8 k8 m8 (g16.mono (by decide)) b16 k16 m16 (g14.mono (by decide)) b14 k14 m14 (g17.mono (by decide)) b17 k17 m17 m_len
  have g19 := ok_is_wished (P := l.prog) (w := w) (mg := mg) (base := base) (k := 0) F19 T
  have g20 := ok_rank_of (P := l.prog) (w := w) (mg := mg) (base := base) (k := 0) F20 T m_len
  have g21 := ok_ranks_in (P := l.prog) (w := w) (mg := mg) (base := base) (k := 0) F21 T
  have g22 := ok_may_hold (P := l.prog) (w := w) (mg := mg) (base := base) (k := 2) F22 T (g7.mono (by decide)) b7 k7 m7 (g19.mono (by decide)) b19 k19 m19 m_len
  have g23 := ok_are_holds (P := l.prog) (w := w) (mg := mg) (base := base) (k := 3) F23 T (g8.mono (by decide)) b8 k8 m8 (g22.mono (by decide)) b22 k22 m22 m_len m_all m_enumerate
  have g24 := ok_held_ranks (P := l.prog) (w := w) (mg := mg) (base := base) (k := 1) F24 (g20.mono (by decide)) b20 k20 m20 m_tuple m_enumerate
  have g25 := ok_left_list (P := l.prog) (w := w) (mg := mg) (base := base) (k := 1) F25 T (g21.mono (by decide)) b21 k21 m21 m_tuple
  have g26 := ok_left_lists (P := l.prog) (w := w) (mg := mg) (base := base) (k := 2) F26 (g24.mono (by decide)) b24 k24 m24 (g25.mono (by decide)) b25 k25 m25 m_tuple m_len m_range
  have g27 := ok_first_left (P := l.prog) (w := w) (mg := mg) (base := base) (k := 1) F27 T (g21.mono (by decide)) b21 k21 m21
  have g28 := ok_firsts_left (P := l.prog) (w := w) (mg := mg) (base := base) (k := 2) F28 (g24.mono (by decide)) b24 k24 m24 (g27.mono (by decide)) b27 k27 m27 m_tuple m_len m_range
  have g29 := ok_weq (P := l.prog) (w := w) (mg := mg) (base := base) (k := 0) F29 T IC m_isinstance
  have g30 := ok_are_within (P := l.prog) (w := w) (mg := mg) (base := base) (k := 2) F30 (g24.mono (by decide)) b24 k24 m24 m_all m_zip
  have g31 := ok_is_steady (P := l.prog) (w := w) (mg := mg) (base := base) (k := 4) F31 (g23.mono (by decide)) b23 k23 m23 (g28.mono (by decide)) b28 k28 m28 m_all m_enumerate
  have g32 := ok_rank (P := l.prog) (w := w) (mg := mg) (base := base) (k := 0) F32 m_len
  have g33 := ok_left (P := l.prog) (w := w) (mg := mg) (base := base) (k := 1) F33 (g32.mono (by decide)) b32 k32 m32 m_len m_range m_tuple
  have g34 := ok_held_ranksL (P := l.prog) (w := w) (mg := mg) (base := base) (k := 1) F34 (g20.mono (by decide)) b20 k20 m20 m_tuple m_enumerate
  have g35 := ok_is_odd (P := l.prog) (w := w) (mg := mg) (base := base) (k := 0) F35 m_len m_all
  have g36 := ok_is_odd_turn (P := l.prog) (w := w) (mg := mg) (base := base) (k := 3) F36 ⟨(g35.mono (by decide)), b35, k35, m35⟩ ⟨(g26.mono (by decide)), b26, k26, m26⟩
  have g37 := ok_holds_past (P := l.prog) (w := w) (mg := mg) (base := base) (k := 0) F37 m_list m_enumerate m_tuple
  have g38 := ok_turned_out (P := l.prog) (w := w) (mg := mg) (base := base) (k := 4) F38 ⟨(g36.mono (by decide)), b36, k36, m36⟩ ⟨(g37.mono (by decide)), b37, k37, m37⟩
  have g39 := ok_ref_init (P := l.prog) (w := w) (mg := mg) (base := base) (k := 0) F39 ET
  have g40 := ok_turned_outX (P := l.prog) (w := w) (mg := mg) (base := base) (k := 3) F40 ET ⟨(g36.mono (by decide)), b36, k36, m36⟩ (g39.mono (by decide)) b39
  have g41 := ok_round (P := l.prog) (w := w) (mg := mg) (base := base) (k := 2) F41 ⟨(g1.mono (by decide)), b1, k1, m1⟩ ⟨(g4.mono (by decide)), b4, k4, m4⟩ m_range m_tuple m_int m_list
  have g42 := ok_out (P := l.prog) (w := w) (mg := mg) (base := base) (k := 2) F42 (g33.mono (by decide)) b33 k33 m33 m_len m_range m_sum
  have g43 := ok_l_rings (P := l.prog) (w := w) (mg := mg) (base := base) (k := 2) F43 ⟨(g33.mono (by decide)), b33, k33, m33⟩ m_len m_range m_min
  have g44 := ok_l_told (P := l.prog) (w := w) (mg := mg) (base := base) (k := 2) F44 ⟨(g33.mono (by decide)), b33, k33, m33⟩ m_tuple
  have g45 := ok_l_is_odd (P := l.prog) (w := w) (mg := mg) (base := base) (k := 2) F45 ⟨(g33.mono (by decide)), b33, k33, m33⟩ m_len m_all
  have g46 := ok_l_turned (P := l.prog) (w := w) (mg := mg) (base := base) (k := 2) F46 ⟨(g33.mono (by decide)), b33, k33, m33⟩ m_list m_tuple
  have g47 := ok_l_good (P := l.prog) (w := w) (mg := mg) (base := base) (k := 3) F47 ⟨(g43.mono (by decide)), b43, k43, m43⟩ ⟨(g45.mono (by decide)), b45, k45, m45⟩
  have g48 := ok_some (P := l.prog) (w := w) (mg := mg) (base := base) (k := 3) F48 ⟨(g2.mono (by decide)), b2, k2, m2⟩ ⟨(g1.mono (by decide)), b1, k1, m1⟩ ⟨(g41.mono (by decide)), b41, k41, m41⟩ ⟨(g12.mono (by decide)), b12, k12, m12⟩
  have g49 := ok_stages (P := l.prog) (w := w) (mg := mg) (base := base) (k := 4) F49 ⟨(g2.mono (by decide)), b2, k2, m2⟩ ⟨(g42.mono (by decide)), b42, k42, m42⟩ ⟨(g47.mono (by decide)), b47, k47, m47⟩ ⟨(g44.mono (by decide)), b44, k44, m44⟩ ⟨(g46.mono (by decide)), b46, k46, m46⟩ m_len m_range m_sum m_tuple
  have g50 := ok_good_right (P := l.prog) (w := w) (mg := mg) (base := base) (k := 5) F50 ⟨(g38.mono (by decide)), b38, k38, m38⟩ n38 ⟨(g44.mono (by decide)), b44, k44, m44⟩ ⟨(g46.mono (by decide)), b46, k46, m46⟩ ⟨(g33.mono (by decide)), b33, k33, m33⟩ ⟨(g31.mono (by decide)), b31, k31, m31⟩ ⟨(g30.mono (by decide)), b30, k30, m30⟩ ⟨(g28.mono (by decide)), b28, k28, m28⟩ ⟨(g26.mono (by decide)), b26, k26, m26⟩ m_len m_range m_int m_repr
  have g51 := ok_odd_right (P := l.prog) (w := w) (mg := mg) (base := base) (k := 5) F51 rfl GH ET TB__law_odd_right ⟨(g44.mono (by decide)), b44, k44, m44⟩ ⟨(g33.mono (by decide)), b33, k33, m33⟩ ⟨(g40.mono (by decide)), b40, k40, m40⟩ m_isinstance m_len m_range m_int m_sorted
  exact ok_law (P := l.prog) (w := w) (mg := mg) (base := base) (k := 6) F52 rfl T M GH ET TB_law (g18.mono (by decide)) b18 ⟨(g3.mono (by decide)), b3, k3, m3⟩ ⟨(g48.mono (by decide)), b48, k48, m48⟩ ⟨(g5.mono (by decide)), b5, k5, m5⟩ ⟨(g49.mono (by decide)), b49, k49, m49⟩ ⟨(g43.mono (by decide)), b43, k43, m43⟩ ⟨(g45.mono (by decide)), b45, k45, m45⟩ ⟨(g51.mono (by decide)), b51, k51, m51⟩ ⟨(g50.mono (by decide)), b50, k50, m50⟩ ⟨(g38.mono (by decide)), b38, k38, m38⟩ ⟨(g40.mono (by decide)), b40, k40, m40⟩ m_isinstance m_len m_int m_range
end K14
open PySem PySem.W PyProof.Rows
set_option maxHeartbeats 0 in
theorem PySem.Challenge.cw_lastpairs_k20_whole_rings_turned_out_holds : PySem.Challenge.rw_lastpairs_k20_whole_rings_turned_out.Holds := by
  w_on; o_law; k_head; (case hw => w_witness2)
  k_fill
  refine K14.walkX (l := PySem.Challenge.rw_lastpairs_k20_whole_rings_turned_out) (n := 63) (k := 9) (CX := fun _ => L2.CX0) (x := "script") rfl (by decide) rfl ⟨rfl, by decide, by decide⟩ (fun w h Y => PySem.W.km_in_of Y) ?F ?C
  case C => intro w H s e s' z; exact z
  case F =>
    intro w mg fa h Y KX G hmg
    refine' K14.all_mk (PT51 := 371) (PT52 := 378) KX G hmg ?a1 ?l1 ?c1 ?k1 ?a2 ?l2 ?c2 ?k2 ?a3 ?l3 ?c3 ?k3 ?a4 ?l4 ?c4 ?k4 ?a5 ?l5 ?c5 ?k5 ?a6 ?l6 ?c6 ?k6 ?a7 ?l7 ?c7 ?k7 ?a8 ?l8 ?c8 ?k8 ?a9 ?l9 ?c9 ?k9 ?a10 ?l10 ?c10 ?k10 ?a11 ?l11 ?c11 ?k11 ?a12 ?l12 ?c12 ?k12 ?a13 ?l13 ?c13 ?k13 ?a14 ?l14 ?c14 ?k14 ?a15 ?l15 ?c15 ?k15 ?a16 ?l16 ?c16 ?k16 ?a17 ?l17 ?c17 ?k17 ?a18 ?i18 ?l18 ?c18 ?k18 ?a19 ?l19 ?c19 ?k19 ?a20 ?l20 ?c20 ?k20 ?a21 ?l21 ?c21 ?k21 ?a22 ?l22 ?c22 ?k22 ?a23 ?l23 ?c23 ?k23 ?a24 ?l24 ?c24 ?k24 ?a25 ?l25 ?c25 ?k25 ?a26 ?l26 ?c26 ?k26 ?a27 ?l27 ?c27 ?k27 ?a28 ?l28 ?c28 ?k28 ?a29 ?i29 ?l29 ?c29 ?k29 ?a30 ?l30 ?c30 ?k30 ?a31 ?l31 ?c31 ?k31 ?a32 ?l32 ?c32 ?k32 ?a33 ?l33 ?c33 ?k33 ?a34 ?l34 ?c34 ?k34 ?a35 ?l35 ?c35 ?k35 ?a36 ?l36 ?c36 ?k36 ?a37 ?l37 ?c37 ?k37 ?a38 ?l38 ?c38 ?k38 ?a39 ?i39 ?l39 ?c39 ?k39 ?a40 ?l40 ?c40 ?k40 ?a41 ?l41 ?c41 ?k41 ?a42 ?l42 ?c42 ?k42 ?a43 ?l43 ?c43 ?k43 ?a44 ?l44 ?c44 ?k44 ?a45 ?l45 ?c45 ?k45 ?a46 ?l46 ?c46 ?k46 ?a47 ?l47 ?c47 ?k47 ?a48 ?l48 ?c48 ?k48 ?a49 ?l49 ?c49 ?k49 ?a50 ?l50 ?c50 ?k50 ?a51 ?l51 ?c51 ?k51 ?a52 ?l52 ?c52 ?k52 ?aC ?pg ?hd ?po ?sa ?mk ?kc ?nA0 ?nA1 ?nA2 ?ic1 ?ic2 ?ic3 ?ic4 ?z_int ?z_len ?z_abs ?z_range ?z_list ?z_tuple ?z_sorted ?z_isinstance ?z_bool ?z_str ?z_all ?z_set ?z_enumerate ?z_zip ?z_sum ?z_min ?z_repr ?zi_MOST_LETTERS ?zi_MOST_PERSONS ?eL ?eV ?q_sa ?q_ex ?q_ty ?q_k ?q_ga ?q_gg ?q_hd ?q_ha ?q_hn ?q_ht ?q_hm ?q_w ?q_gR ?q_gM ?q_kM ?q_xm ?q_is ?aH ?lH ?cH ?kH ?hT51 ?nT51 ?hC51 ?hT52 ?nT52 ?hC52 ?ne51_52
    (case aC => k_is); (case q_gR => k_is); (case q_gM => k_is); (case eL => k_is); (case a1 => k_is); (case l1 => k_is); (case c1 => k_is); (case k1 => k_is); (case a2 => k_is); (case l2 => k_is); (case c2 => k_is); (case k2 => k_is); (case a3 => k_is); (case l3 => k_is); (case c3 => k_is); (case k3 => k_is); (case a4 => k_is); (case l4 => k_is); (case c4 => k_is); (case k4 => k_is); (case a5 => k_is); (case l5 => k_is); (case c5 => k_is); (case k5 => k_is); (case a6 => k_is); (case l6 => k_is); (case c6 => k_is); (case k6 => k_is); (case a7 => k_is); (case l7 => k_is); (case c7 => k_is); (case k7 => k_is); (case a8 => k_is); (case l8 => k_is); (case c8 => k_is); (case k8 => k_is); (case a9 => k_is); (case l9 => k_is); (case c9 => k_is); (case k9 => k_is); (case a10 => k_is); (case l10 => k_is); (case c10 => k_is); (case k10 => k_is); (case a11 => k_is); (case l11 => k_is); (case c11 => k_is); (case k11 => k_is); (case a12 => k_is); (case l12 => k_is); (case c12 => k_is); (case k12 => k_is); (case a13 => k_is); (case l13 => k_is); (case c13 => k_is); (case k13 => k_is); (case a14 => k_is); (case l14 => k_is); (case c14 => k_is); (case k14 => k_is); (case a15 => k_is); (case l15 => k_is); (case c15 => k_is); (case k15 => k_is); (case a16 => k_is); (case l16 => k_is); (case c16 => k_is); (case k16 => k_is); (case a17 => k_is); (case l17 => k_is); (case c17 => k_is); (case k17 => k_is); (case a18 => k_is); (case i18 => k_is); (case l18 => k_is); (case c18 => k_is); (case k18 => k_is); (case a19 => k_is); (case l19 => k_is); (case c19 => k_is); (case k19 => k_is); (case a20 => k_is); (case l20 => k_is); (case c20 => k_is); (case k20 => k_is); (case a21 => k_is); (case l21 => k_is); (case c21 => k_is); (case k21 => k_is); (case a22 => k_is); (case l22 => k_is); (case c22 => k_is); (case k22 => k_is); (case a23 => k_is); (case l23 => k_is); (case c23 => k_is); (case k23 => k_is); (case a24 => k_is); (case l24 => k_is); (case c24 => k_is); (case k24 => k_is); (case a25 => k_is); (case l25 => k_is); (case c25 => k_is); (case k25 => k_is); (case a26 => k_is); (case l26 => k_is); (case c26 => k_is); (case k26 => k_is); (case a27 => k_is); (case l27 => k_is); (case c27 => k_is); (case k27 => k_is); (case a28 => k_is); (case l28 => k_is); (case c28 => k_is); (case k28 => k_is); (case a29 => k_is); (case i29 => k_is); (case l29 => k_is); (case c29 => k_is); (case k29 => k_is); (case a30 => k_is); (case l30 => k_is); (case c30 => k_is); (case k30 => k_is); (case a31 => k_is); (case l31 => k_is); (case c31 => k_is); (case k31 => k_is); (case a32 => k_is); (case l32 => k_is); (case c32 => k_is); (case k32 => k_is); (case a33 => k_is); (case l33 => k_is); (case c33 => k_is); (case k33 => k_is); (case a34 => k_is); (case l34 => k_is); (case c34 => k_is); (case k34 => k_is); (case a35 => k_is); (case l35 => k_is); (case c35 => k_is); (case k35 => k_is); (case a36 => k_is); (case l36 => k_is); (case c36 => k_is); (case k36 => k_is); (case a37 => k_is); (case l37 => k_is); (case c37 => k_is); (case k37 => k_is); (case a38 => k_is); (case l38 => k_is); (case c38 => k_is); (case k38 => k_is); (case a39 => k_is); (case i39 => k_is); (case l39 => k_is); (case c39 => k_is); (case k39 => k_is); (case a40 => k_is); (case l40 => k_is); (case c40 => k_is); (case k40 => k_is); (case a41 => k_is); (case l41 => k_is); (case c41 => k_is); (case k41 => k_is); (case a42 => k_is); (case l42 => k_is); (case c42 => k_is); (case k42 => k_is); (case a43 => k_is); (case l43 => k_is); (case c43 => k_is); (case k43 => k_is); (case a44 => k_is); (case l44 => k_is); (case c44 => k_is); (case k44 => k_is); (case a45 => k_is); (case l45 => k_is); (case c45 => k_is); (case k45 => k_is); (case a46 => k_is); (case l46 => k_is); (case c46 => k_is); (case k46 => k_is); (case a47 => k_is); (case l47 => k_is); (case c47 => k_is); (case k47 => k_is); (case a48 => k_is); (case l48 => k_is); (case c48 => k_is); (case k48 => k_is); (case a49 => k_is); (case l49 => k_is); (case c49 => k_is); (case k49 => k_is); (case a50 => k_is); (case l50 => k_is); (case c50 => k_is); (case k50 => k_is); (case a51 => k_is); (case l51 => k_is); (case c51 => k_is); (case k51 => k_is); (case a52 => k_is); (case l52 => k_is); (case c52 => k_is); (case k52 => k_is); (case pg => k_is); (case hd => k_is); (case po => k_is); (case sa => k_is); (case mk => k_is); (case kc => k_is); (case nA0 => k_is); (case nA1 => k_is); (case nA2 => k_is); (case ic1 => k_is); (case ic2 => k_is); (case ic3 => k_is); (case ic4 => k_is); (case z_int => k_is); (case z_len => k_is); (case z_abs => k_is); (case z_range => k_is); (case z_list => k_is); (case z_tuple => k_is); (case z_sorted => k_is); (case z_isinstance => k_is); (case z_bool => k_is); (case z_str => k_is); (case z_all => k_is); (case z_set => k_is); (case z_enumerate => k_is); (case z_zip => k_is); (case z_sum => k_is); (case z_min => k_is); (case z_repr => k_is); (case zi_MOST_LETTERS => k_is); (case zi_MOST_PERSONS => k_is); (case eV => first | k_is | kernel_rfl); (case q_sa => k_is); (case q_ex => k_is); (case q_ty => k_is); (case q_k => k_is); (case q_ga => k_is); (case q_gg => k_is); (case q_hd => k_is); (case q_ha => k_is); (case q_hn => k_is); (case q_ht => k_is); (case q_hm => k_is); (case q_w => k_is); (case q_kM => k_is); (case q_xm => first | k_is | kernel_rfl); (case q_is => first | k_is | kernel_rfl); (case aH => k_is); (case lH => k_is); (case cH => k_is); (case kH => k_is)
    case hT51 => exact PySem.W.km_tabs_of Y 371 (by decide)
    case nT51 => first | k_is | kernel_rfl
    case hC51 => exact PySem.W.codeHd_of_K KX (by kernel_rfl)
    case hT52 => exact PySem.W.km_tabs_of Y 378 (by decide)
    case nT52 => first | k_is | kernel_rfl
    case hC52 => exact PySem.W.codeHd_of_K KX (by kernel_rfl)
    case ne51_52 => decide
