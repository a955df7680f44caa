import PyProof.Rows.All
import Wide.All
import OpenK.AllK
import Wide.FinOn
import KE.KNestM
import KE.KLam
import HandS.ForMost
import HandS.Style
import HandS.Codes
import PyProof.StrOps2
import HandS.Walk
import KE.GoesEnum
import HandS.SetFor
import HandS.IsInst
import HandS.Strs
import HandS.TupAny
import HandS.Zip
import HandS.OwnEq
import PyProof.ReprRoads
import PyProof.CallFns
import HandS.FStrTup
import HandS.Base
import HandS.Call
import HandS.List
import KE.KTupSum
import HandS.Sort
import HandS.SortOrd
import HandS.SortRule
import HandS.Dict
import HandS.Small
import HandS.TupMul
import HandS.Conv
import HandS.Lambda
import HandS.ExcIs
import HandS.ExcField
import HandS.ExcInit
import KE.KExcIs
import HandS.WordsExc
import HandS.Steps
import HandS.Text
import HandS.EndTab
import HandS.TupLe
import PySem.Challenge.RW_lastpairs_k19_whole_rings_of_steady_hold
set_option Elab.async false
set_option linter.all false
set_option maxRecDepth 100000
namespace K14
open PySem PySem.Spec PyProof.Rows L2
def topS (i : Nat) : Stmt := PySem.Challenge.pw_lastpairs_k19_whole_rings_of_steady_hold.main.body.getD i (.Pass ⟨0, 0, 0, 0⟩)
abbrev sMateError : Stmt := topS 1
abbrev sInvalidWishes : Stmt := topS 2
abbrev sInvalidWishesInit : Stmt := inClass sInvalidWishes 0
abbrev sRefused : Stmt := topS 3
abbrev sRefusedInit : Stmt := inClass sRefused 0
abbrev sIsNumber : Stmt := topS 6
abbrev sIsBelow : Stmt := topS 7
abbrev sIsName : Stmt := topS 8
abbrev sIsTupleOf : Stmt := topS 9
abbrev sArePersons : Stmt := topS 10
abbrev sAreUnlike : Stmt := topS 11
abbrev sAreRowsOfPersons : Stmt := topS 12
abbrev sWishes : Stmt := topS 15
abbrev sWInit : Stmt := inClass sWishes 0
abbrev sWEq : Stmt := inClass sWishes 1
abbrev sAreNames : Stmt := topS 16
abbrev sCheckLists : Stmt := topS 17
abbrev sCheckBoth : Stmt := topS 18
abbrev sRanksOfLists : Stmt := topS 19
abbrev sRanksOfList : Stmt := topS 20
abbrev sRankOf : Stmt := topS 21
abbrev sRanksIn : Stmt := topS 22
abbrev sHeldRanks : Stmt := topS 24
abbrev sLeftLists : Stmt := topS 25
abbrev sLeftList : Stmt := topS 26
abbrev sRingFrom : Stmt := topS 28
abbrev sFromLeast : Stmt := topS 29
abbrev sAllRings : Stmt := topS 30
abbrev sGiverBehind : Stmt := topS 32
abbrev sGiversBehind : Stmt := topS 33
abbrev sTurnFrom : Stmt := topS 34
abbrev sWithTakers : Stmt := topS 35
abbrev sTurnRings : Stmt := topS 36
abbrev sRingsIn : Stmt := topS 37
abbrev sIsTurnRing : Stmt := topS 38
abbrev sIsOddTurn : Stmt := topS 39
abbrev sIsOdd : Stmt := topS 40
abbrev sGoodRings : Stmt := topS 41
abbrev sHeap : Stmt := topS 43
abbrev sDraw : Stmt := topS 44
abbrev sPick : Stmt := topS 45
abbrev sShuffled : Stmt := topS 46
abbrev sNames : Stmt := topS 47
abbrev sLists : Stmt := topS 48
abbrev sRank : Stmt := topS 49
abbrev sLeft : Stmt := topS 50
abbrev sLRound : Stmt := topS 51
abbrev sLSomeLists : Stmt := topS 52
abbrev sLOut : Stmt := topS 53
abbrev sLRings : Stmt := topS 54
abbrev sLTold : Stmt := topS 55
abbrev sLIsOdd : Stmt := topS 56
abbrev sLTurned : Stmt := topS 57
abbrev sLGood : Stmt := topS 58
abbrev sLStages : Stmt := topS 59
abbrev sLHeard : Stmt := topS 60
abbrev sSpoilt : Stmt := topS 61
abbrev sLGiversRight : Stmt := topS 62
abbrev sLRingsRight : Stmt := topS 63
abbrev sLaw : Stmt := topS 64
end K14
/-! enumerate of a tuple -/
namespace K14
open PySem PySem.Spec PyProof.Rows L2
abbrev enObj (n : Nat) : Obj := { cls := .type "enumerate", data := .fields #[.none, .bool false, .ref n, rawInt 0, .none, .none] }
set_option maxHeartbeats 1000000 in
theorem enum_make {v : Value} {o : Obj} {H : Heap → Prop} (B : Begins v o H) :
    Meets (Builtin.«enumerate.__new__» ⟨[.type "enumerate", v], []⟩) (fun _ R s => H s.heap ∧ R (.ok (.ret (.ref (s.heap.push o).objs.size))) { s with heap := (s.heap.push o).push (enObj s.heap.objs.size) }) :=
  .of_wp fun prog w A R s h => by
    obtain ⟨hp, gg, dd, tk, os⟩ := s
    obtain ⟨h1, h⟩ := h
    have isSub := sub_enumerate
    have goIt : ∀ {A' : Around} {E Q : Value → Shared → Prop}, Q (.ref hp.objs.size) ⟨hp.push o, gg, dd, tk, os⟩ → wpAny (model prog w) A' (pyIter v) Q E ⟨hp, gg, dd, tk, os⟩ := fun q => B.iter prog w _ _ ⟨hp, gg, dd, tk, os⟩ _ h1 q
    wp_walk using goIt
    refine wpAny_stack_any fun st => wpAny_pure ?_
    split
    · rename_i c _ _ _ _ _
      cases (c == Value.type "enumerate") <;> (wp_walk using goIt; exact ⟨_, rfl, h⟩)
    · wp_walk using goIt
      exact ⟨_, rfl, h⟩
section
variable {prog : Program} {w : World} {A : Around} {E : Value → Shared → Prop} {s : Shared}
theorem enum_call {v : Value} {o : Obj} {H : Heap → Prop} {Q : Value → Shared → Prop} (B : Begins v o H) (h1 : H s.heap)
    (h : ∀ h', IsEnum h' (s.heap.objs.size + 1) s.heap.objs.size 0 .none → h'.get? s.heap.objs.size = some o → (∀ b u, s.heap.get? b = some u → h'.get? b = some u) → Q (.ref (s.heap.objs.size + 1)) { s with heap := h' }) :
    wpAny (model prog w) A (call (.type "enumerate") [v]) Q E s := by
  refine callType_new F.called_enumerate (by decide) (F.typeCall_enumerate_1 _) (F.newCall_enumerate_1 _) (fun ob => F.args_object_init_2 ob _) F.entry_enumerate_new (enum_make B) ⟨h1, ?_⟩
  have sz : (s.heap.push o).objs.size = s.heap.objs.size + 1 := Heap.size_push ..
  show _ ∧ _
  rw [sz]
  have en : IsEnum ((s.heap.push o).push (enObj s.heap.objs.size)) (s.heap.objs.size + 1) s.heap.objs.size 0 .none := by
    have z := Heap.get?_push_size (s.heap.push o) (o := enObj s.heap.objs.size) rfl
    rw [sz] at z
    exact z
  exact ⟨⟨_, en, rfl⟩, h _ en (Heap.get?_push_of_some _ (Heap.get?_push_size _ B.free)) fun b u x => Heap.get?_push_of_some _ (Heap.get?_push_of_some _ x)⟩
end
/-- the tuple at a as it stands, each item in a new pair with its place -/
def IteT (K : PySem.W.Frag) (a : Addr) : It where
  go := fun i H => ∃ (xs : List V) (x : V), SqT K H a xs ∧ xs[i]? = some x
  yld := fun i H v H' => ∃ T x, v = .ref T ∧ H T = none ∧ H' = upd H T (.tup [.int (i : Nat), x]) ∧ ∀ xs, SqT K H a xs → xs[i]? = some x
  stop := fun i H => ∃ xs : List V, SqT K H a xs ∧ xs.length = i
theorem turn_enumT {P : Program} {w : World} {K : PySem.W.Frag} {elts : List Expr} {kk : Nat} {tpos : Pos} (a e it : Addr) (hai : a ≠ it) (hae : a ≠ e) :
    Turn P w K (.Tuple elts kk tpos) (IteT K a) [e, it] e (fun i h => (∃ old, IsEnum h e it ((i : Nat) : Int) old) ∧ h.IsTupleIter it a i ∧ e ≠ it) where
  mem := by simp
  obj := fun i h st b hb => by
    obtain ⟨⟨old, he⟩, ⟨o, ho, hc, hd⟩, _⟩ := st
    rcases (show b = e ∨ b = it by simpa using hb) with z | z <;> subst z
    · exact ⟨_, he, fun v q => nomatch q⟩
    · exact ⟨o, ho, fun v q => (by rw [hd] at q; cases q)⟩
  keep := fun i h h' st k => by
    obtain ⟨⟨old, he⟩, hi, hne⟩ := st
    exact ⟨⟨old, k e (by simp) _ he⟩, hi.at fun o q => k it (by simp) o q, hne⟩
  item := by
    intro X hP hw hK hc i pins s σ H E I hf st hg
    subst hP hw hK
    obtain ⟨⟨old, he⟩, hit, hne⟩ := st
    obtain ⟨xs, x, hq, hx⟩ := hg
    obtain ⟨its, rv, p, _⟩ := I.tuple hq
    obtain ⟨u, hu, ru⟩ := rv.get hx
    have hel : e < s.heap.objs.size := Heap.lt_size he
    have hil : it < s.heap.objs.size := by obtain ⟨_, q, _⟩ := hit; exact Heap.lt_size q
    have hat : a ≠ e ∧ a ≠ it := ⟨hae, hai⟩
    have hiz : i < its.toArray.size := by
      have := (List.getElem?_eq_some_iff.mp hu).1
      simpa using this
    refine wpAny_pyNext_enum_itemC (fp := [it, a]) (Draws.tuple (A := X.A.in1) (by rw [show X.A.in1.handled = X.A.handled from rfl]; exact I.ok.hd hc) it a hai its.toArray) he ⟨hit, p⟩ hiz hne (by simp; exact ⟨hne, Ne.symm hae⟩) fun x' h' tk hP' ho st' hT hsz hk => ?_
    have ex : x' = u := by
      have h1 : its[i]? = some x' := by simpa using hP'
      rw [hu] at h1
      exact (Option.some.inj h1).symm
    subst ex
    refine ⟨_, rfl, wpAny_letOwnedTupleGo_enum (s := { s with heap := h', toks := tk + 1 }) ho fun h2 he2 sb => ?_⟩
    have back : ∀ b, b ≠ e → h2.get? b = h'.get? b := fun b nb => sb.2 b nb
    have nTe : s.heap.objs.size ≠ e := Nat.ne_of_gt hel
    have isT : h2.get? s.heap.objs.size = some { cls := .type "tuple", data := .seq #[.int i tk, x'] } := (back _ nTe).trans hT
    have new : ObjOk X.prog X.w (upd H s.heap.objs.size (.tup [.int (i : Nat), x])) h2 s.heap.objs.size (.tup [.int (i : Nat), x]) :=
      ⟨(by show 2 ≤ sizeLine; decide), [.int i tk, x'], .cons ⟨_, rfl⟩ (.cons ru .nil), ⟨_, isT, rfl, _, rfl⟩⟩
    have kept : ∀ b ob, b ∉ [e, it] → s.heap.get? b = some ob → h2.get? b = some ob := fun b ob hb q => by
      have n1 : b ≠ e := fun z => hb (by rw [z]; simp)
      have n2 : b ≠ it := fun z => hb (by rw [z]; simp)
      exact (back b n1).trans (hk b ob n1 n2 q)
    have I1 : Inv X pins σ (upd H s.heap.objs.size (.tup [.int (i : Nat), x])) { s with heap := h2, toks := tk + 1 } := I.turnedNew (ch := [e, it]) kept hf (Nat.le_refl _) new
    refine ⟨.ref s.heap.objs.size, _, I1, rfl, ⟨_, x, rfl, I.hok.fresh (Nat.le_refl _), rfl, fun ys hy => by rw [I.tuple_inj hy hq]; exact hx⟩, ⟨⟨_, he2⟩, st'.1.at fun o q => (back it (Ne.symm hne)).trans q, hne⟩, fun b hb => ?_⟩
    have lt : b < s.heap.objs.size := by
      rcases (show b = e ∨ b = it by simpa using hb) with z | z <;> subst z
      · exact hel
      · exact hil
    rw [upd_ne (Nat.ne_of_lt lt)]
    exact (hf b hb).1
  done := by
    intro X hP hw hK hc i pins s σ H E I hf st hg
    subst hP hw hK
    obtain ⟨⟨old, he⟩, hit, hne⟩ := st
    obtain ⟨xs, hq, hx⟩ := hg
    obtain ⟨its, rv, p, _⟩ := I.tuple hq
    obtain ⟨f0, f1, f2, f3, f4, f5⟩ := hf it (by simp)
    have hl := rv.length
    have iz : i = its.toArray.size := by simp; omega
    subst iz
    refine wpAny_pyNext_enum_endD (fp := [it, a]) (Draws.tuple (A := X.A.in1) (by rw [show X.A.in1.handled = X.A.handled from rfl]; exact I.ok.hd hc) it a hai its.toArray) he ⟨hit, p⟩ fun h' eb => ⟨rfl, I.turned (t' := s.toks) (fun b o hb q => eb b o hb q) f0 f1 f3 f4 f5⟩
  self := fun A i s Q E st h => by
    obtain ⟨⟨_, he⟩, _⟩ := st
    exact wpAny_pyIter_enum he h
def iEnumT (K : PySem.W.Frag) (ta : TA) : TI := fun σ H R => ta σ H fun vs H1 => ∃ a xs, vs = [.ref a] ∧ SqT K H1 a xs ∧ R (IteT K a) H1
theorem pi_enumT {X : Cx} {e : Expr} {ta : TA} {p pos tpos : Pos} {elts : List Expr} {kk : Nat} (hg : Gl X "enumerate") (hm : X.mg "enumerate" = none) (ha : PA X [e] ta) (hs : starEach [e] X.env = [(false, eval e X.env)] := by rfl) : PI X (.Tuple elts kk tpos) (.Call (.Name "enumerate" p) [e] [] pos) (iEnumT X.K ta) := by
  refine ⟨fun pins s σ H R I h => ?_⟩
  refine Call_ (ld_blt I hg hm boot_enumerate (PyProof.Rows.callWith_type1 (thn (ha.run pos pins s σ H _ I h) fun us s1 ⟨vs, H1, I1, r1, q1⟩ => ?_) hs rfl))
  obtain ⟨a, xs, ex, hq, q⟩ := q1
  subst ex
  cases r1 with
  | cons r rr =>
    cases rr
    cases r
    obtain ⟨its, rv, pt, _⟩ := I1.tuple hq
    have la : a < s1.heap.objs.size := by obtain ⟨_, z, _⟩ := pt; exact Heap.lt_size z
    refine enum_call (begins_tuple a its.toArray) pt fun h' he hit hk => wpAny_pyIter_enum he ?_
    have I2 : Inv X pins σ H1 { s1 with heap := h' } := I1.kept (t' := s1.toks) hk
    refine ⟨s1.heap.objs.size + 1, [s1.heap.objs.size + 1, s1.heap.objs.size], _, _, H1, rfl, I2, turn_enumT a (s1.heap.objs.size + 1) s1.heap.objs.size (Nat.ne_of_lt la) (Nat.ne_of_lt (Nat.lt_succ_of_lt la)), ⟨⟨.none, he⟩, ⟨_, hit, rfl, rfl⟩, Nat.succ_ne_self _⟩, fun b hb => ?_, q⟩
    have le : s1.heap.objs.size ≤ b := by
      rcases (show b = s1.heap.objs.size + 1 ∨ b = s1.heap.objs.size by simpa using hb) with z | z <;> rw [z]
      · exact Nat.le_succ _
      · exact Nat.le_refl _
    exact I1.fpOk le (I1.hok.fresh le)
theorem walk_enumT {K : PySem.W.Frag} {a : Addr} {xs : List V} : Walk (IteT K a) xs.length (fun H => SqT K H a xs) (YPair (fun i => some (.int (i : Nat))) (fun i => xs[i]?)) where
  goes := fun i H hi q => ⟨xs, xs[i], q, List.getElem?_eq_getElem hi⟩
  stops := fun H q => ⟨xs, q, rfl⟩
  yields := fun i H v H' _ q y => by
    obtain ⟨T, x, h1, h2, h3, h4⟩ := y
    exact ⟨T, _, x, h1, h2, h3, rfl, h4 xs q⟩
end K14
/-! len(set(t)) of a tuple of unlike numbers; isinstance of plain values -/
namespace K14
open PySem PySem.Spec PyProof.Rows L2
def tLenSetT (K : PySem.W.Frag) (ta : TE) : TE := fun σ H Q => ta σ H fun x H1 => ∃ (l : Addr) (ns : List Int), x = .ref l ∧ SqT K H1 l (ns.map V.int) ∧ ns.Nodup ∧ ns.length ≤ 1000 ∧ Q (.int (ns.length : Nat)) H1
theorem pe_lenSetT {X : Cx} {a : Expr} {ta : TE} {p p2 q pos : Pos} (hg : Gl X "len") (hm : X.mg "len" = none) (hg2 : Gl X "set") (hm2 : X.mg "set" = none) (ha : PE X a ta) (hc : X.calm = true := by rfl)
    (na : starEach [a] X.env = (false, eval a X.env) :: starEach [] X.env := by rfl) : PE X (.Call (.Name "len" p) [.Call (.Name "set" p2) [a] [] q] [] pos) (tLenSetT X.K ta) := by
  refine ⟨fun pins s σ H Q I h => Call_ (ld_blt I hg hm boot_len (PyProof.Rows.callWith_builtin1 (PyProof.Rows.args_cons (Call_ (ld_blt I hg2 hm2 PyProof.Rows.boot_set ?_)) rfl) rfl rfl))⟩
  refine PyProof.Rows.callWith_type1 (PyProof.Rows.args_cons (thn (ha.run pins s σ H _ I h) fun v s1 ⟨x, H1, I1, r1, q1⟩ => PyProof.Rows.args_nil ?_) na) na rfl
  obtain ⟨l, ns, rfl, hq, nd, le, q1⟩ := q1
  cases r1
  obtain ⟨its, rv, pt, _⟩ := I1.tuple hq
  have his : IntsAre its.toArray.toList ns := ints_of_vals rv
  refine call_set_tupI ns (I1.ok.hd hc) (show s1.heap.IsTuple l its.toArray from pt) his (by unfold scanBound; omega) fun h' tk c R1 hcn k => PyProof.Rows.args_nil ?_
  obtain ⟨o, es, ep, t, ho, hex, hdt, g, nd2, mem, hb, hf, hn, hr, hl2⟩ := R1
  have I2 : Inv X pins σ H1 { s1 with heap := h', toks := tk } := I1.kept fun b o e => k b o e
  have pm : (es.toList.map keyOf).Perm ns := by
    refine (List.perm_ext_iff_of_nodup nd2 nd).mpr fun j => ?_
    rw [← mem j, decide_eq_true_eq]
  have sz : es.size = ns.length := by
    have := pm.length_eq
    rw [List.length_map, Array.length_toList] at this
    exact this
  exact call_len_set ho hex hdt hf (by rw [sz]; omega) ⟨.int ns.length, H1, I2.tok _, ⟨_, by rw [sz]⟩, q1⟩
end K14
namespace K14
open PySem PySem.Spec PyProof.Rows L2
theorem same_upd {H : Hp} {p : Addr} {o : HO} (h : H p = none) : Same H (upd H p o) := fun b x e => by
  rw [upd_ne (ne_of_none e h)]
  exact e

/-! ### the source of draws: a list of a list of great numbers and of a number -/
structure Src (H : Hp) (h l : Addr) : Prop where
  ex : ∃ (cs : List Int) (z : Int), H h = some (.lst [.ref l, .int z]) ∧ H l = some (.lst (cs.map V.int)) ∧ (∀ c ∈ cs, 0 ≤ c) ∧ cs.length ≤ 60 ∧ 0 ≤ z ∧ z < 2147483648
/-- all but the source stands -/
def Bar (h l : Addr) (H H' : Hp) : Prop := ∀ b o, b ≠ h → b ≠ l → H b = some o → H' b = some o
theorem Bar.refl {h l : Addr} {H : Hp} : Bar h l H H := fun _ _ _ _ e => e
theorem Bar.trans {h l : Addr} {H H1 H2 : Hp} (a : Bar h l H H1) (b : Bar h l H1 H2) : Bar h l H H2 := fun c o n1 n2 e => b c o n1 n2 (a c o n1 n2 e)
theorem Bar.same {h l : Addr} {H H' : Hp} (a : Same H H') : Bar h l H H' := fun c o _ _ e => a c o e
theorem Bar.upd_h {h l : Addr} {H : Hp} {o : HO} : Bar h l H (upd H h o) := fun c u n1 _ e => by rw [upd_ne n1]; exact e
theorem Bar.upd_l {h l : Addr} {H : Hp} {o : HO} : Bar h l H (upd H l o) := fun c u _ n2 e => by rw [upd_ne n2]; exact e
theorem src_ne {H : Hp} {h l : Addr} {cs : List Int} {z : Int} (a : H h = some (.lst [.ref l, .int z])) (b : H l = some (.lst (cs.map V.int))) : h ≠ l := by
  intro e
  rw [e, b] at a
  cases cs with
  | nil => cases a
  | cons c r => cases a
theorem Src.same {H H' : Hp} {h l : Addr} (s : Src H h l) (e : Same H H') : Src H' h l := by
  obtain ⟨cs, z, a, b, r⟩ := s.ex
  exact ⟨cs, z, e _ _ a, e _ _ b, r⟩
theorem Src.ne {H : Hp} {h l p : Addr} {o : HO} (s : Src H h l) (e : H p = some o) (n : ∀ xs, o ≠ .lst xs) : p ≠ h ∧ p ≠ l := by
  obtain ⟨cs, z, a, b, r⟩ := s.ex
  exact ⟨fun q => by rw [q, a] at e; cases e; exact n _ rfl, fun q => by rw [q, b] at e; cases e; exact n _ rfl⟩

/-- a while by its invariant and by what stands behind it -/
theorem tw {c : TT} {tb : TS} {D : Ends} {σ : L2.St} {H : Hp} (W : Nat → L2.St → Hp → Prop) (Y : L2.St → Hp → Prop) {m0 : Nat} (h0 : W m0 σ H) (out : ∀ σ H, Y σ H → D.nx σ H)
    (turn : (∀ σ H, Y σ H → D.nx σ H) → ∀ m σ H, W m σ H → c σ H fun b H1 => if b = true then ∃ N : L2.St → Hp → Prop, (∀ σ' H', N σ' H' → ∃ m', m' < m ∧ W m' σ' H') ∧ tb { D with nx := N, ct := N, bk := D.nx } σ H1 else D.nx σ H1) :
    tWhile c tb D σ H := ⟨W, ⟨m0, h0⟩, turn out⟩
theorem list_end {α : Type} (xs : List α) : xs = [] ∨ ∃ ys y, xs = ys ++ [y] := by
  rcases List.eq_nil_or_concat xs with h | ⟨ys, y, h⟩
  · exact .inl h
  · exact .inr ⟨ys, y, by rw [h]; simp⟩
def spDraw : Sp := fun vs H Q _ => ∃ (h l : Addr) (many : Int), vs = [.ref h, .int many] ∧ Src H h l ∧ 0 < many ∧ many < 1073741824 ∧
  ∀ (k : Int) (H' : Hp), 0 ≤ k → k < many → Src H' h l → Bar h l H H' → Q (.int k) H'

theorem dp_ints {K : PySem.W.Frag} {H : Hp} : ∀ cs : List Int, DpAll K H (cs.map V.int) (cs.map PyData.int)
  | [] => .nil
  | c :: r => .cons (.int c) (dp_ints r)
theorem shaped_ints (cs : List Int) : SeqAt.shaped (.list (cs.map PyData.int)) = true := by
  have h1 : ∀ cs : List Int, PyData.canLayAll0 (cs.map PyData.int) = true := by
    intro cs
    induction cs with
    | nil => rfl
    | cons c r ih => simp only [List.map_cons, PyData.canLayAll0, PyData.canLay0, ih, Bool.and_self]
  have h2 : ∀ cs : List Int, PyData.depthAll (cs.map PyData.int) ≤ 1 := by
    intro cs
    induction cs with
    | nil => simp [PyData.depthAll]
    | cons c r ih => simp only [List.map_cons, PyData.depthAll, PyData.depth]; omega
  have h3 := h2 cs
  have h4 : PyData.depth (.list (cs.map PyData.int)) ≤ 64 := by
    simp only [PyData.depth]
    omega
  have h5 : PyData.canLay0 (.list (cs.map PyData.int)) = true := by
    simp only [PyData.canLay0, h1]
  show (PyData.canLay0 (.list (cs.map PyData.int)) && decide (PyData.depth (.list (cs.map PyData.int)) ≤ 64)) = true
  rw [h5, decide_eq_true h4]
  rfl
theorem eqv_nil : ∀ cs : List Int, PyData.eqv (.list (cs.map PyData.int)) (.list []) = cs.isEmpty
  | [] => by decide
  | c :: r => by simp [PyData.eqv, PyData.eqvAll]
theorem scDraw : FnScope ["heap", "many", "rest"] ["heap", "many"] (defScope sDraw) := ⟨rfl, rfl, rfl, by decide +kernel, rfl, by decide +kernel, by decide +kernel⟩
section
variable {P : Program} {w : World} {K : PySem.W.Frag} {mg : Str → Option Value} {base : Heap}
theorem ok_draw {f : Addr} {fd : FuncData} {k : Nat} (F : Fun K "_law_draw" "_law_draw" sDraw f fd) (mi : mg "int" = none) : FnOk P w K mg base CX0 (k + 1) f fd ["heap", "many"] spDraw := by
  refine F.ok scDraw (fun vs H Q E h => ?_) (fun cdv A outer s H vs Q E hr h => ?_)
  · obtain ⟨h, l, many, rfl, _⟩ := h
    rfl
  · obtain ⟨h, l, many, rfl, src, m0, m1, q⟩ := h
    refine ⟨_, pss_cons (ps_while PassesOwn.never (PW.pt (pw_and (pt_cmpR (op_neD hr.units) (pe_ix ix_list (pv 0) pe_int (fun _ _ => rfl)) (pe_lst pa_nil) (nomark _)) (pw_and1 (pt_cmpR op_eq (pe_ix ix_list (pe_ix ix_list (pv 0) pe_int (fun _ _ => rfl)) (pe_un un_neg pe_int) (fun _ _ => rfl)) pe_int (nomark _)))))
        (pss_one (ps_expr (pe_bm0 PySem.F.plainAttrs_list PySem.F.slot_list_pop PySem.F.type_list_pop mt_pop (pe_ix ix_list (pv 0) pe_int (fun _ _ => rfl))))))
      (pss_cons (ps_if (pt_cmpR (op_neD hr.units) (pe_ix ix_list (pv 0) pe_int (fun _ _ => rfl)) (pe_lst pa_nil) (nomark _))
        (pss_cons (ps_set (i := 2) scDraw.nd rfl (.inl rfl) (pe_bm0 PySem.F.plainAttrs_list PySem.F.slot_list_pop PySem.F.type_list_pop mt_pop (pe_ix ix_list (pv 0) pe_int (fun _ _ => rfl))))
        (pss_cons (ps_expr (pe_bm PySem.F.plainAttrs_list PySem.F.slot_list_append PySem.F.type_list_append mt_append (pe_ix ix_list (pv 0) pe_int (fun _ _ => rfl)) (pa_cons (pe_op op_fdivN (pv 2) (pv 1)) pa_nil)))
        (pss_one (ps_ret (pe_op op_mod (pe_callTy call_int1 (by rfl) mi (by decide +kernel) (pa_cons (pv 2) pa_nil)) (pv 1)))))) pss_nil)
      (pss_cons (ps_asg (pe_op op_mod (pe_callTy call_int1 (by rfl) mi (by decide +kernel) (pa_cons (pe_op op_add (pe_op op_mul (pe_ix ix_list (pv 0) pe_int (fun _ _ => rfl)) pe_int) pe_int) pa_nil)) pe_int) (pg_sub (pv 0) pe_int set_list))
      (pss_one (ps_ret (pe_op op_mod (pe_callTy call_int1 (by rfl) mi (by decide +kernel) (pa_cons (pe_op op_fdivN (pe_ix ix_list (pv 0) pe_int (fun _ _ => rfl)) pe_int) pa_nil)) (pv 1)))))), ?_⟩
    obtain ⟨cs0, z0, a0, b0, p0, n0, y0, y1⟩ := src.ex
    refine tw (fun m σ H' => σ = [some (.ref h), some (.int many), none] ∧ ∃ (cs : List Int) (z : Int), H' h = some (.lst [.ref l, .int z]) ∧ H' l = some (.lst (cs.map V.int)) ∧ (∀ c ∈ cs, 0 ≤ c) ∧ cs.length ≤ 60 ∧ 0 ≤ z ∧ z < 2147483648 ∧ Bar h l H H' ∧ m = cs.length)
      (fun σ H' => σ = [some (.ref h), some (.int many), none] ∧ ∃ (cs : List Int) (z : Int), H' h = some (.lst [.ref l, .int z]) ∧ H' l = some (.lst (cs.map V.int)) ∧ (∀ c ∈ cs, 0 ≤ c) ∧ cs.length ≤ 60 ∧ 0 ≤ z ∧ z < 2147483648 ∧ Bar h l H H')
      ⟨rfl, cs0, z0, a0, b0, p0, n0, y0, y1, Bar.refl, rfl⟩ ?_ (fun out => ?_)
    · -- behind the loop
      rintro σ H1 ⟨rfl, cs, z, eh, el, pos, len, z1, z2, bar⟩
      have nhl := src_ne eh el
      refine ⟨_, rfl, h, _, 0, .ref l, rfl, rfl, SqL.of eh, atI_nat (j := 0) rfl, Nat.zero_le _, fun p hp => ?_⟩
      have nph : h ≠ p := ne_of_none eh hp
      have npl : l ≠ p := ne_of_none el hp
      have eh1 : (upd H1 p (.lst [])) h = some (.lst [.ref l, .int z]) := by rw [upd_ne nph]; exact eh
      have el1 : (upd H1 p (.lst [])) l = some (.lst (cs.map V.int)) := by rw [upd_ne npl]; exact el
      have bar1 : Bar h l H (upd H1 p (.lst [])) := bar.trans (.same (same_upd hp))
      refine ⟨.list (cs.map PyData.int), .list [], .lst (SqL.of el1) (dp_ints cs), .lst (SqL.of upd_same) .nil, shaped_ints cs, by decide, _, rfl, ?_⟩
      rw [eqv_nil]
      generalize upd H1 p (.lst []) = H2 at eh1 el1 bar1
      rcases list_end cs with rfl | ⟨ds, c, rfl⟩
      · -- no great number is left
        refine iteF ?_
        refine ⟨_, rfl, h, _, 1, .int z, rfl, rfl, SqL.of eh1, atI_nat (j := 1) rfl, _, _, rfl, rfl, .inl ⟨by omega, by omega⟩, _, _, rfl, rfl, .inl ⟨_, rfl, _, _, rfl, rfl, (show (0 : Int) < 2147483647 by decide), _, rfl, h, _, 1, 1, rfl, rfl, eh1, rfl, ?_⟩⟩
        have w0 : 0 ≤ (z * 48271 + 17) % 2147483647 := Int.emod_nonneg _ (by decide)
        have w1 : (z * 48271 + 17) % 2147483647 < 2147483647 := Int.emod_lt_of_pos _ (by decide)
        have eh2 : (upd H2 h (.lst ([V.ref l, .int z].set 1 (.int ((z * 48271 + 17) % 2147483647))))) h = some (.lst [.ref l, .int ((z * 48271 + 17) % 2147483647)]) := upd_same
        refine ⟨_, rfl, h, _, 1, .int ((z * 48271 + 17) % 2147483647), rfl, rfl, SqL.of eh2, atI_nat (j := 1) rfl, _, _, rfl, rfl, ⟨by decide, by decide⟩, .inl ⟨_, rfl, _, rfl, _, _, rfl, rfl, m0, ?_⟩⟩
        refine q _ _ (Int.emod_nonneg _ (by omega)) (Int.emod_lt_of_pos _ m0) ⟨[], _, eh2, ?_, by simp, by simp, w0, by omega⟩ (bar1.trans .upd_h)
        rw [upd_ne (Ne.symm nhl)]
        exact el1
      · have e1 : ((ds ++ [c]).isEmpty) = false := by simp
        rw [e1]
        refine iteT ?_
        have e2 : (ds ++ [c]).map V.int = ds.map V.int ++ [.int c] := by simp
        rw [e2] at el1
        have c0 : 0 ≤ c := pos c (by simp)
        refine ⟨_, rfl, h, _, 0, .ref l, rfl, rfl, SqL.of eh1, atI_nat (j := 0) rfl, .inl ⟨rfl, _, SqL.of el1⟩, l, _, .int c, rfl, rfl, el1, by simp, ?_⟩
        have el2 : (upd H2 l (.lst (ds.map V.int ++ [V.int c]).dropLast)) l = some (.lst (ds.map V.int)) := by
          rw [upd_same, List.dropLast_concat]
        have eh2 : (upd H2 l (.lst (ds.map V.int ++ [V.int c]).dropLast)) h = some (.lst [.ref l, .int z]) := by
          rw [upd_ne nhl]; exact eh1
        have bar2 : Bar h l H (upd H2 l (.lst (ds.map V.int ++ [V.int c]).dropLast)) := bar1.trans .upd_l
        generalize upd H2 l (.lst (ds.map V.int ++ [V.int c]).dropLast) = H3 at el2 eh2 bar2
        have len' : ds.length + 1 ≤ 60 := by simp at len; omega
        refine ⟨_, rfl, h, _, 0, .ref l, rfl, rfl, SqL.of eh2, atI_nat (j := 0) rfl, .inl ⟨rfl, _, SqL.of el2⟩, _, rfl, _, rfl, _, _, rfl, rfl, ⟨by omega, by omega⟩, l, _, _, rfl, rfl, el2, ?_, ?_⟩
        · rw [List.length_map]
          exact small1000 (by omega)
        have el3 : (upd H3 l (.lst (ds.map V.int ++ [.int (c.fdiv many)]))) l = some (.lst ((ds ++ [c.fdiv many]).map V.int)) := by
          rw [upd_same]; simp
        have eh3 : (upd H3 l (.lst (ds.map V.int ++ [.int (c.fdiv many)]))) h = some (.lst [.ref l, .int z]) := by
          rw [upd_ne nhl]; exact eh2
        refine ⟨_, rfl, .inl ⟨_, rfl, _, rfl, _, _, rfl, rfl, m0, ?_⟩⟩
        refine q _ _ (Int.emod_nonneg _ (by omega)) (Int.emod_lt_of_pos _ m0) ⟨_, z, eh3, el3, ?_, by simp; omega, z1, z2⟩ (bar2.trans .upd_l)
        intro x hx
        rcases List.mem_append.mp hx with hx | hx
        · exact pos x (by simp [hx])
        · rw [List.mem_singleton.mp hx, Int.fdiv_eq_ediv_of_nonneg _ (by omega)]
          exact Int.ediv_nonneg c0 (by omega)
    · rintro m σ H1 ⟨rfl, cs, z, eh, el, pos, len, z1, z2, bar, rfl⟩
      have nhl := src_ne eh el
      -- heap[0] != []
      refine ⟨_, rfl, h, _, 0, .ref l, rfl, rfl, SqL.of eh, atI_nat (j := 0) rfl, Nat.zero_le _, fun p hp => ?_⟩
      have nph : h ≠ p := ne_of_none eh hp
      have npl : l ≠ p := ne_of_none el hp
      have eh1 : (upd H1 p (.lst [])) h = some (.lst [.ref l, .int z]) := by rw [upd_ne nph]; exact eh
      have el1 : (upd H1 p (.lst [])) l = some (.lst (cs.map V.int)) := by rw [upd_ne npl]; exact el
      have bar1 : Bar h l H (upd H1 p (.lst [])) := bar.trans (.same (same_upd hp))
      refine ⟨.list (cs.map PyData.int), .list [], .lst (SqL.of el1) (dp_ints cs), .lst (SqL.of upd_same) .nil, shaped_ints cs, by decide, _, rfl, ?_⟩
      rw [eqv_nil]
      generalize upd H1 p (.lst []) = H2 at eh1 el1 bar1
      rcases list_end cs with rfl | ⟨ds, c, rfl⟩
      · -- no great number is left
        refine iteF (iteF ?_)
        exact out _ _ ⟨rfl, [], z, eh1, el1, pos, len, z1, z2, bar1⟩
      · have e1 : ((ds ++ [c]).isEmpty) = false := by simp
        rw [e1]
        refine iteT ?_
        have e2 : (ds ++ [c]).map V.int = ds.map V.int ++ [.int c] := by simp
        rw [e2] at el1
        refine ⟨_, rfl, h, _, 0, .ref l, rfl, rfl, SqL.of eh1, atI_nat (j := 0) rfl, 1, rfl, l, _, -1, .int c, rfl, rfl, SqL.of el1, atI_last _ _, rfl, _, rfl, ?_⟩
        refine ite2 (fun e => ?_) (fun e => ?_)
        · refine ⟨fun σ' H' => ∃ m', m' < (ds ++ [c]).length ∧ (σ' = [some (.ref h), some (.int many), none] ∧ ∃ (cs : List Int) (z : Int), H' h = some (.lst [.ref l, .int z]) ∧ H' l = some (.lst (cs.map V.int)) ∧ (∀ c ∈ cs, 0 ≤ c) ∧ cs.length ≤ 60 ∧ 0 ≤ z ∧ z < 2147483648 ∧ Bar h l H H' ∧ m' = cs.length), fun _ _ x => x, ?_⟩
          refine ⟨_, rfl, h, _, 0, .ref l, rfl, rfl, SqL.of eh1, atI_nat (j := 0) rfl, .inl ⟨rfl, _, SqL.of el1⟩, l, _, .int c, rfl, rfl, el1, by simp, ?_⟩
          refine ⟨ds.length, by simp, rfl, ds, z, ?_, ?_, fun c' h' => pos c' (by simp [h']), ?_, z1, z2, bar1.trans .upd_l, rfl⟩
          · rw [upd_ne nhl]; exact eh1
          · rw [upd_same, List.dropLast_concat]
          · simp at len; omega
        · refine out _ _ ⟨rfl, ds ++ [c], z, eh1, ?_, pos, len, z1, z2, bar1⟩
          rw [e2]; exact el1
end
end K14
namespace K14
open PySem PySem.Spec PyProof.Rows L2
/-- a tuple that is known whole: one that tuple(..) made -/
def Ex (H : Hp) (a : Addr) (xs : List V) : Prop := ∃ o : Obj, o.dict = none ∧ o.cls = .type "tuple" ∧ H a = some (.frz o (.tup xs))
/-- a tuple, known whole or not -/
def Tp (H : Hp) (a : Addr) (xs : List V) : Prop := H a = some (.tup xs) ∨ Ex H a xs
theorem Tp.sq {K : PySem.W.Frag} {H : Hp} {a : Addr} {xs : List V} (t : Tp H a xs) : SqT K H a xs := by
  rcases t with e | ⟨o, _, _, e⟩
  · exact SqT.of e
  · exact .inl (.inr ⟨o, e⟩)
theorem Ex.same {H H' : Hp} {a : Addr} {xs : List V} (t : Ex H a xs) (s : Same H H') : Ex H' a xs := let ⟨o, d, c, e⟩ := t; ⟨o, d, c, s _ _ e⟩
theorem Tp.same {H H' : Hp} {a : Addr} {xs : List V} (t : Tp H a xs) (s : Same H H') : Tp H' a xs := t.imp (fun e => s _ _ e) (fun e => e.same s)
theorem Ex.put {H : Hp} {a p : Addr} {xs : List V} {o : HO} (t : Ex H a xs) (n : a ≠ p) : Ex (upd H p o) a xs := let ⟨u, d, c, e⟩ := t; ⟨u, d, c, by rw [upd_ne n]; exact e⟩
theorem Tp.put {H : Hp} {a p : Addr} {xs : List V} {o : HO} (t : Tp H a xs) (n : a ≠ p) : Tp (upd H p o) a xs := t.imp (fun e => by rw [upd_ne n]; exact e) (fun e => e.put n)
theorem Ex.ne_lst {H : Hp} {a p : Addr} {xs ys : List V} (t : Ex H a xs) (e : H p = some (.lst ys)) : a ≠ p := fun z => by
  obtain ⟨u, d, c, e'⟩ := t
  rw [z, e] at e'
  cases e'
theorem Ex.bar {H H' : Hp} {h l a : Addr} {xs : List V} (t : Ex H a xs) (s : Src H h l) (b : Bar h l H H') : Ex H' a xs := by
  obtain ⟨u, d, c, e⟩ := t
  obtain ⟨n1, n2⟩ := s.ne e (fun _ z => by cases z)
  exact ⟨u, d, c, b a _ n1 n2 e⟩
theorem Tp.live {H : Hp} {a : Addr} {xs : List V} (t : Tp H a xs) : ∃ o, H a = some o := by
  rcases t with e | ⟨o, _, _, e⟩
  · exact ⟨_, e⟩
  · exact ⟨_, e⟩

theorem Tp.bar {H H' : Hp} {h l a : Addr} {xs : List V} (t : Tp H a xs) (s : Src H h l) (b : Bar h l H H') : Tp H' a xs := t.imp (fun e => by
  obtain ⟨n1, n2⟩ := s.ne e (fun _ z => by cases z)
  exact b a _ n1 n2 e) (fun e => e.bar s b)
end K14
namespace K14
open PySem PySem.Spec PyProof.Rows L2
def spPick : Sp := fun vs H Q _ => ∃ (h l s : Addr) (xs : List V), vs = [.ref h, .ref s] ∧ Src H h l ∧ (H s = some (.lst xs) ∨ Tp H s xs) ∧ s ≠ h ∧ s ≠ l ∧ 0 < xs.length ∧ xs.length < 10000 ∧
  ∀ (k : Nat) (v : V) (H' : Hp), xs[k]? = some v → Src H' h l → Bar h l H H' → Q v H'
theorem scPick : FnScope ["heap", "some"] ["heap", "some"] (defScope sPick) := ⟨rfl, rfl, rfl, by decide +kernel, rfl, by decide +kernel, by decide +kernel⟩
def spHeap (K : PySem.W.Frag) : Sp := fun vs H Q _ => ∃ (a : Addr) (ns : List Int), vs = [.ref a] ∧ SqL K H a (ns.map V.int) ∧
  ∀ (h l : Addr) (H' : Hp), Same H H' → H h = none → H l = none → Src H' h l → Q (.ref h) H'
theorem scHeap : FnScope ["script", "cell", "cells", "stir"] ["script"] (defScope sHeap) := ⟨rfl, rfl, rfl, by decide +kernel, rfl, by decide +kernel, by decide +kernel⟩
theorem yes {σ : L2.St} {H : Hp} {A : Hp → Prop} {B : Hp → Prop} (h : A H) : tYes σ H (fun b H3 => if b = true then A H3 else B H3) := by
  show (if true = true then A H else B H)
  exact iteT h
theorem cut60 (xs : List V) : cutV xs none (some 60) = xs.take 60 := by
  unfold cutV
  rw [HT.sIx_none, show HT.sIx xs.length xs.length (some 60) = min 60 xs.length from HT.sIx_nat xs.length xs.length 60, List.drop_zero, Nat.sub_zero]
  rw [Nat.min_def]
  split
  · rfl
  · rw [List.take_of_length_le (Nat.le_refl _), List.take_of_length_le (by omega)]
section
variable {P : Program} {w : World} {K : PySem.W.Frag} {mg : Str → Option Value} {base : Heap}
theorem ok_pick {f g : Addr} {fd gd : FuncData} {k : Nat} (F : Fun K "_law_pick" "_law_pick" sPick f fd) (G : FnOk P w K mg base CX0 k g gd ["heap", "many"] spDraw) (bG : Binds K gd ["heap", "many"] []) (kG : PySem.W.keepIn K (.ref g) = true) (mG : mg "_law_draw" = some (.ref g)) (ml : mg "len" = none) :
    FnOk P w K mg base CX0 (k + 1) f fd ["heap", "some"] spPick := by
  refine F.ok scPick (fun vs H Q E h => ?_) (fun cdv A outer s H vs Q E hr h => ?_)
  · obtain ⟨h, l, s, xs, rfl, _⟩ := h
    rfl
  · obtain ⟨h, l, s, xs, rfl, src, es, n1, n2, x0, x1, q⟩ := h
    have at' : ∀ H', Bar h l H H' → SqL K H' s xs ∨ SqT K H' s xs := fun H' b => es.imp (fun e => SqL.of (b _ _ n1 n2 e)) (fun e => (e.bar src b).sq)
    refine ⟨_, pss_one (ps_ret (pe_ix ix_seq (pv 1) (pe_call G hr rfl mG kG bG .nil pass0 (pa_cons (pv 0) (pa_cons (pe_callB call_len_seq (by rfl) ml PySem.boot_len (pa_cons (pv 1) pa_nil)) pa_nil))) (fun _ _ => rfl))), ?_⟩
    refine ⟨_, rfl, _, rfl, _, rfl, s, xs, rfl, at' H Bar.refl, h, l, _, rfl, src, by omega, by omega, fun i H' i0 i1 src' bar => ?_⟩
    obtain ⟨j, rfl⟩ : ∃ j : Nat, i = (j : Int) := ⟨i.toNat, by omega⟩
    have hj : j < xs.length := by omega
    rcases at' H' bar with e | e
    · exact .inl ⟨s, xs, _, _, rfl, rfl, e, atI_nat (List.getElem?_eq_getElem hj), q j _ H' (List.getElem?_eq_getElem hj) src' bar⟩
    · exact .inr (.inl ⟨s, xs, _, _, rfl, rfl, e, atI_nat (List.getElem?_eq_getElem hj), q j _ H' (List.getElem?_eq_getElem hj) src' bar⟩)
theorem ok_heap {f : Addr} {fd : FuncData} {k : Nat} (F : Fun K "_law_heap" "_law_heap" sHeap f fd) (mi : mg "int" = none) (ma : mg "abs" = none) : FnOk P w K mg base CX0 (k + 1) f fd ["script"] (spHeap K) := by
  refine F.ok scHeap (fun vs H Q E h => ?_) (fun cdv A outer s H vs Q E hr h => ?_)
  · obtain ⟨a, ns, rfl, _⟩ := h
    rfl
  · obtain ⟨a, ns, rfl, hS, q⟩ := h
    refine ⟨_, pss_cons (ps_par (i := 2) (j := 3) rfl scHeap.nd rfl rfl (by decide) rfl rfl (pa_cons (pe_lc (own := [("cell", 1)]) (g := gName 1) (tt := tYes) rfl scHeap.nd (pi_list (pe_slice sl_list (pv 0) po_none (po_some pe_int)))
          (blkOk_by (own := [("cell", 1)]) (N := ["script", "cell", "cells", "stir"]) (sc := defScope sHeap) (by decide +kernel)) (fun _ _ _ _ _ => pg_name (i := 1) scHeap.nd rfl (Or.inl rfl)) (fun _ _ _ _ _ => pts_nil)
          (fun _ _ _ _ _ => pe_op op_add (pe_op op_mul pe_int (pe_callB call_abs (by rfl) ma (by decide +kernel) (pa_cons (pv 1) pa_nil))) (pe_callTy call_int1 (by rfl) mi (by decide +kernel) (pa_cons (pe_cmp (pc_lt (pv 1) pe_int) rfl) pa_nil)))) (pa_cons pe_int pa_nil)) (by rfl))
      (pss_cons (ps_for PassesOwn.never rfl (pi_list (pv 2)) (pg_name (i := 1) scHeap.nd rfl (.inl rfl))
        (pss_one (ps_set (i := 3) scHeap.nd rfl (.inl rfl) (pe_op op_mod (pe_callTy call_int1 (by rfl) mi (by decide +kernel) (pa_cons (pe_op op_add (pe_op op_add (pe_op op_mul (pv 3) pe_int) (pe_op op_mod (pe_callTy call_int1 (by rfl) mi (by decide +kernel) (pa_cons (pv 1) pa_nil)) pe_int)) pe_int) pa_nil)) pe_int))))
      (pss_one (ps_ret (pe_lst (pa_cons (pe_revL (pe_lc (own := [("cell", 1)]) (g := gName 1) rfl scHeap.nd (pi_list (pv 2))
          (blkOk_by (own := [("cell", 1)]) (N := ["script", "cell", "cells", "stir"]) (sc := defScope sHeap) (by decide +kernel)) (fun _ _ _ _ _ => pg_name (i := 1) scHeap.nd rfl (Or.inl rfl)) (fun _ _ _ _ _ => pts_one (pt_cmpR op_ge (pv 1) (pe_op op_pow pe_int pe_int) (nomark _)))
          (fun _ _ _ _ _ => pv 1))) (pa_cons (pv 3) pa_nil)))))), ?_⟩
    refine ⟨.ref a, rfl, 60, rfl, a, _, rfl, hS, fun c nc => ?_⟩
    have s1 : Same H (upd H c (.lst (cutV (ns.map V.int) none (some 60)))) := same_upd nc
    have ec : (upd H c (.lst (cutV (ns.map V.int) none (some 60)))) c = some (.lst ((ns.take 60).map V.int)) := by
      rw [upd_same, cut60, List.map_take]
    generalize upd H c (.lst (cutV (ns.map V.int) none (some 60))) = H1 at s1 ec
    refine ⟨c, rfl, ⟨_, SqL.of ec⟩, fun D nD => ?_⟩
    have ncD : c ≠ D := ne_of_none ec nD
    have len60 : (ns.take 60).length ≤ 60 := by rw [List.length_take]; exact Nat.min_le_left _ _
    refine lc_list (K := K) (a := c) (xs := (ns.take 60).map V.int) (fun i H' => ∃ cs : List Int, H' D = some (.lst (cs.map V.int)) ∧ cs.length = i ∧ (∀ z ∈ cs, 0 ≤ z) ∧ H' c = some (.lst ((ns.take 60).map V.int)) ∧ ∀ b o, b ≠ D → H1 b = some o → H' b = some o)
      ⟨[], upd_same, rfl, by simp, by rw [upd_ne ncD]; exact ec, fun b o n e => by rw [upd_ne n]; exact e⟩ (fun i H' _ ⟨_, _, _, _, e, _⟩ => SqL.of e) ?_ ?_
    · rintro i x H' hx ⟨cs, eD, ei, pos, ec', keep⟩
      have hi : i < (ns.take 60).length := by
        have := (List.getElem?_eq_some_iff.mp hx).1
        rw [List.length_map] at this
        exact this
      obtain ⟨u, rfl⟩ : ∃ u, x = V.int u := by
        rw [List.getElem?_map, List.getElem?_eq_getElem hi] at hx
        exact ⟨_, (Option.some.inj hx).symm⟩
      refine ⟨rfl, yes ?_⟩
      refine ⟨_, rfl, _, rfl, _, _, rfl, rfl, .inl ⟨by decide, by decide⟩, _, rfl, u, 0, rfl, rfl, .inr ⟨_, rfl, _, _, rfl, rfl, _, eD, ?_, ?_⟩⟩
      · rw [List.length_map, ei]
        exact small1000 (by omega)
      · refine ⟨cs ++ [2 * (if u < 0 then -u else u) + (if decide (u < 0) = true then 1 else 0)], ?_, by simp [ei], ?_, ?_, fun b o n e => ?_⟩
        · rw [upd_same]
          simp
        · intro z hz
          rcases List.mem_append.mp hz with hz | hz
          · exact pos z hz
          · rw [List.mem_singleton.mp hz]
            split <;> split <;> omega
        · rw [upd_ne ncD]; exact ec'
        · rw [upd_ne n]; exact keep b o n e
    · rintro H2 ⟨cs, eD, ei, pos, ec', keep⟩
      have same2 : Same H H2 := fun b o e => keep b o (fun z => by rw [z] at e; have := s1 _ _ e; rw [nD] at this; cases this) (s1 b o e)
      rw [List.length_map] at ei
      have lc : cs.length ≤ 60 := by omega
      refine ⟨_, _, rfl, ?_⟩
      -- for cell in cells: stir = ..
      refine ⟨_, rfl, D, rfl, ⟨_, SqL.of eD⟩, for_list (K := K) (a := D) (xs := cs.map V.int) (fun i σ H' => ∃ (y : Option V) (z : Int), σ = [some (.ref a), y, some (.ref D), some (.int z)] ∧ 0 ≤ z ∧ z < 2147483648 ∧ H' = H2)
        ⟨none, 70123, rfl, by decide, by decide, rfl⟩ (fun i σ H' _ ⟨_, _, _, _, _, e⟩ => by rw [e]; exact SqL.of eD) ?_ ?_⟩
      · rintro i x σ H' hx ⟨y, z, rfl, z0, z1, rfl⟩
        obtain ⟨u, rfl⟩ : ∃ u, x = V.int u := by
          rw [List.getElem?_map] at hx
          cases e : cs[i]? with
          | none => rw [e] at hx; cases hx
          | some u => rw [e] at hx; exact ⟨u, (Option.some.inj hx).symm⟩
        refine ⟨_, rfl, _, _, rfl, rfl, .inl ⟨by omega, by omega⟩, _, rfl, .inl ⟨_, rfl, _, _, rfl, rfl, (show (0 : Int) < 2147483563 by decide), _, _, rfl, rfl, _, _, rfl, rfl, .inl ⟨_, rfl, _, _, rfl, rfl, (show (0 : Int) < 2147483647 by decide), ?_⟩⟩⟩
        have w0 : 0 ≤ (z * 69621 + u % 2147483563 + 29) % 2147483647 := Int.emod_nonneg _ (by decide)
        have w1 : (z * 69621 + u % 2147483563 + 29) % 2147483647 < 2147483647 := Int.emod_lt_of_pos _ (by decide)
        exact ⟨_, _, rfl, w0, by omega, rfl⟩
      · rintro σ H' ⟨y, z, rfl, z0, z1, rfl⟩
        -- return [[..][::-1], stir]
        refine ⟨_, rfl, D, rfl, ⟨_, SqL.of eD⟩, fun G nG => ?_⟩
        have nDG : D ≠ G := ne_of_none eD nG
        refine lc_list (K := K) (a := D) (xs := cs.map V.int) (fun i H3 => ∃ ds : List Int, H3 G = some (.lst (ds.map V.int)) ∧ ds.length ≤ i ∧ (∀ z ∈ ds, 0 ≤ z) ∧ H3 D = some (.lst (cs.map V.int)) ∧ ∀ b o, b ≠ G → H' b = some o → H3 b = some o)
          ⟨[], upd_same, by simp, by simp, by rw [upd_ne nDG]; exact eD, fun b o n e => by rw [upd_ne n]; exact e⟩ (fun i H3 _ ⟨_, _, _, _, e, _⟩ => SqL.of e) ?_ ?_
        · rintro i x H3 hx ⟨ds, eG, di, dp, eD3, keep3⟩
          have hi : i < cs.length := by
            have := (List.getElem?_eq_some_iff.mp hx).1
            rw [List.length_map] at this
            exact this
          have ex : x = V.int cs[i] := by
            rw [List.getElem?_map, List.getElem?_eq_getElem hi] at hx
            exact (Option.some.inj hx).symm
          subst ex
          refine ⟨rfl, _, rfl, _, _, rfl, rfl, ⟨by decide, by decide, by decide⟩, _, _, rfl, rfl, _, rfl, ?_⟩
          refine ite2 (fun c1 => ?_) (fun c1 => ?_)
          · refine ⟨_, rfl, _, eG, ?_, ds ++ [cs[i]], ?_, by simp; exact di, ?_, ?_, fun b o n e => ?_⟩
            · rw [List.length_map]
              exact small1000 (by omega)
            · rw [upd_same]; simp
            · intro z' hz
              rcases List.mem_append.mp hz with hz | hz
              · exact dp z' hz
              · rw [List.mem_singleton.mp hz]
                exact pos _ (List.getElem_mem hi)
            · rw [upd_ne nDG]; exact eD3
            · rw [upd_ne n]; exact keep3 b o n e
          · exact ⟨ds, eG, by omega, dp, eD3, keep3⟩
        · rintro H3 ⟨ds, eG, di, dp, eD3, keep3⟩
          rw [List.length_map] at di
          have same3 : Same H H3 := fun b o e => keep3 b o (fun z => by rw [z] at e; have := same2 _ _ e; rw [nG] at this; cases this) (same2 b o e)
          refine ⟨G, _, rfl, SqL.of eG, fun p np => ⟨_, rfl, (by show 2 ≤ sizeLine; decide), fun h nh => ?_⟩⟩
          have nhp : p ≠ h := fun e => by rw [← e, upd_same] at nh; cases nh
          have nh3 : H3 h = none := by rw [upd_ne (Ne.symm nhp)] at nh; exact nh
          refine q h p _ (same3.trans ((same_upd np).trans (same_upd nh))) (same3.free nh3) (same3.free np) ⟨ds.reverse, z, upd_same, ?_, ?_, ?_, z0, z1⟩
          · rw [upd_ne nhp, upd_same, List.map_reverse]
          · intro c hc
            exact dp c (List.mem_reverse.mp hc)
          · rw [List.length_reverse]; omega
end
end K14
namespace K14
open PySem PySem.Spec PyProof.Rows L2
theorem call_tupleX {X : Cx} : CallR X (.type "tuple") (fun xs H Q => ∃ p ys, xs = [.ref p] ∧ SqL X.K H p ys ∧ ∀ l H', H l = none → Same H H' → Ex H' l ys → (∀ b o, b ≠ l → H' b = some o → H b = some o) → Q (.ref l) H') := by
  intro pins st σ H xs us Q I r h
  obtain ⟨p, ys, rfl, hq, q⟩ := h
  obtain ⟨u, rfl, rx⟩ := vals1 r
  cases rx
  obtain ⟨its, rv, pl, le⟩ := I.list hq
  have ln := rv.length
  refine call_tuple_list pl.isList (fun h' kp => ?_) (by simp only [List.size_toArray] <;> omega)
  have I1 : Inv X pins σ H { st with heap := h' } := I.kept (t' := st.toks) kp
  have nw := I1.hok.fresh (Nat.le_refl h'.objs.size)
  have I2 : Inv X pins σ (upd H h'.objs.size (.frz { cls := .type "tuple", data := .seq its.toArray } (.tup ys))) { st with heap := h'.push { cls := .type "tuple", data := .seq its.toArray } } :=
    I1.laid (t' := st.toks) (fun b o e => Heap.get?_push_of_some _ e) (Nat.le_refl _) (show ObjOk X.prog X.w _ _ _ (.frz _ (.tup ys)) from ⟨Heap.get?_push_size _ rfl, le, its, rv, IsTup.new _ _⟩)
  exact ⟨.ref h'.objs.size, _, I2, rfl, q _ _ nw (same_upd nw) ⟨_, rfl, rfl, upd_same⟩ fun b o ne e => by rw [upd_ne ne] at e; exact e⟩
/-- the call of a tuple's method -/
def tBMT (r : V → List V → Hp → VK → Prop) (to : TE) (t : TA) : TE := fun σ H Q => to σ H fun x H1 => (∃ p xs, x = .ref p ∧ Ex H1 p xs) ∧ t σ H1 fun xs H2 => r x xs H2 Q
theorem pe_bmT {X : Cx} {o e : Expr} {es : List Expr} {to : TE} {t : TA} {name : Str} {apos cpos : Pos} {id : String} {r : V → List V → Hp → VK → Prop} (pa : PlainAttrs "tuple") (slot : Slot "tuple" name id) (hty : typeOf (.builtin id) = pure (.type "method_descriptor")) (hm : MtR X id r) (ho : PE X o to) (ha : PA X (e :: es) t)
    (hbase : attributeBase o name X.env (eval o X.env) = eval o X.env := by rfl) (hfew : ((backTo cpos (starEach (e :: es) X.env)).all (fun x => !x.1) && (backToKw cpos (keywordEach [] X.env)).all (fun x => x.1.isSome) && decide ((e :: es).length + ([] : List Keyword).length + (if ([] : List Keyword).isEmpty then 0 else 1) < 30)) = true := by rfl)
    (hline : (apos.endLine == cpos.line) = true := by rfl) (hs : starEach (e :: es) X.env = (false, eval e X.env) :: starEach es X.env := by rfl) (hplain : (backTo cpos (starEach es X.env)).any (·.1) = false := by rfl) : PE X (.Call (.Attribute o name apos) (e :: es) [] cpos) (tBMT r to t) := by
  refine ⟨fun pins s σ H Q I h => wpAny_Call_method_late hbase hfew hline rfl (thn (ho.run pins s σ H _ I h) fun v s1 ⟨x, H1, I1, r1, ty, q1⟩ => ?_)⟩
  obtain ⟨p, xs, rfl, ob, hd, hc, e1⟩ := ty
  cases r1
  have live := (I1.hok p _ e1).1
  refine ⟨"tuple", id, pa, slot, hty, ⟨ob, live, hc⟩, fun a ea => ?_, ?_⟩
  · cases ea
    exact ⟨ob, live, hd⟩
  · have hA := ha.run cpos pins s1 σ H1 _ I1 q1
    rw [hs] at hA ⊢
    refine Calls.callWith_builtin (by show (false || (backTo cpos (starEach es X.env)).any (·.1)) = false; rw [hplain] <;> rfl) (Calls.evalArgs_plain ?_)
    exact thn hA fun us s2 ⟨vs, H2, I2, r2, q2⟩ => hm pins s2 σ H2 (.ref p) vs (.ref p) us Q I2 rfl r2 q2
end K14
namespace K14
open PySem PySem.Spec PyProof.Rows L2
theorem seqcut {t u : TS} {D : Ends} {σ : L2.St} {H : Hp} (Y : L2.St → Hp → Prop) (out : ∀ σ H, Y σ H → u D σ H) (k : (∀ σ H, Y σ H → u D σ H) → t { D with nx := u D } σ H) : tSeq t u D σ H := k out
theorem gn {i : Nat} {v : V} {σ : L2.St} {H : Hp} {Q : L2.St → Hp → Prop} (h : Q (σ.set i (some v)) H) : gName i v σ H Q := h
theorem Src.new {H : Hp} {h l p : Addr} (s : Src H h l) (n : H p = none) : p ≠ h ∧ p ≠ l := by
  obtain ⟨cs, z, a, b, r⟩ := s.ex
  exact ⟨fun e => (by rw [e, a] at n; cases n), fun e => (by rw [e, b] at n; cases n)⟩
theorem Bar.free {h l p : Addr} {H H' : Hp} (b : Bar h l H H') (s : Src H' h l) (n : H' p = none) : H p = none := by
  obtain ⟨n1, n2⟩ := s.new n
  cases e : H p with
  | none => rfl
  | some o => rw [b p o n1 n2 e] at n; cases n
theorem Bar.fresh {h l p : Addr} {H H' : Hp} {o : HO} (b : Bar h l H H') (n : H p = none) : Bar h l H (upd H' p o) := fun c u n1 n2 e => by
  rw [upd_ne (ne_of_none e n)]
  exact b c u n1 n2 e
theorem Src.put {H : Hp} {h l p : Addr} {o : HO} (s : Src H h l) (n1 : p ≠ h) (n2 : p ≠ l) : Src (upd H p o) h l := by
  obtain ⟨cs, z, a, b, r⟩ := s.ex
  exact ⟨cs, z, by rw [upd_ne (Ne.symm n1)]; exact a, by rw [upd_ne (Ne.symm n2)]; exact b, r⟩
theorem Src.updn {H : Hp} {h l p : Addr} {o : HO} (s : Src H h l) (n : H p = none) : Src (upd H p o) h l := s.put (s.new n).1 (s.new n).2
theorem ofN {H : Hp} {p q : Addr} {o u : HO} (n : H p = none) (e : H q = some u) : (upd H p o) q = some u := by rw [upd_ne (ne_of_none e n)]; exact e
theorem sz5 {n : Nat} (h : n ≤ 100000) : n ≤ sizeLine := Nat.le_trans h (by decide)
theorem sz6 {n : Nat} (h : n ≤ 100000) : n < sizeLine := Nat.lt_of_le_of_lt h (by decide)

/-! ### the same things in a drawn sequence -/
def spShuffled : Sp := fun vs H Q _ => ∃ (h l s : Addr) (xs : List V), vs = [.ref h, .ref s] ∧ Src H h l ∧ (H s = some (.lst xs) ∨ H s = some (.tup xs)) ∧ s ≠ h ∧ s ≠ l ∧ xs.length ≤ 50000 ∧
  ∀ (r : Addr) (ys : List V) (H' : Hp), ys.Perm xs → Src H' h l → Bar h l H H' → H r = none → Ex H' r ys → Q (.ref r) H'
theorem scShuffled : FnScope ["heap", "some", "left", "found", "turn"] ["heap", "some"] (defScope sShuffled) := ⟨rfl, rfl, rfl, by decide +kernel, rfl, by decide +kernel, by decide +kernel⟩
theorem erase_perm {α : Type} : ∀ {us : List α} {k : Nat} {y : α}, us[k]? = some y → (y :: us.eraseIdx k).Perm us
  | [], k, y, e => by simp at e
  | u :: r, 0, y, e => by
    have : u = y := by simpa using e
    subst this
    exact List.Perm.refl _
  | u :: r, k + 1, y, e => by
    have e' : r[k]? = some y := by simpa using e
    exact (List.Perm.swap u y _).trans ((erase_perm e').cons u)
theorem perm_pop {xs us fs : List V} {k : Nat} {y : V} (p : (fs ++ us).Perm xs) (e : us[k]? = some y) : ((fs ++ [y]) ++ us.eraseIdx k).Perm xs := by
  refine List.Perm.trans ?_ p
  rw [List.append_assoc]
  refine List.Perm.append_left fs ?_
  exact erase_perm e
section
variable {P : Program} {w : World} {K : PySem.W.Frag} {mg : Str → Option Value} {base : Heap}
theorem ok_shuffled {f g : Addr} {fd gd : FuncData} {k : Nat} (F : Fun K "_law_shuffled" "_law_shuffled" sShuffled f fd) (G : FnOk P w K mg base CX0 k g gd ["heap", "many"] spDraw) (bG : Binds K gd ["heap", "many"] []) (kG : PySem.W.keepIn K (.ref g) = true) (mG : mg "_law_draw" = some (.ref g)) (ml : mg "len" = none) (mr : mg "range" = none) (mli : mg "list" = none) (mt : mg "tuple" = none) :
    FnOk P w K mg base CX0 (k + 1) f fd ["heap", "some"] spShuffled := by
  refine F.ok scShuffled (fun vs H Q E h => ?_) (fun cdv A outer s H vs Q E hr h => ?_)
  · obtain ⟨h, l, s, xs, rfl, _⟩ := h
    rfl
  · obtain ⟨h, l, s, xs, rfl, src, es, n1, n2, x1, q⟩ := h
    refine ⟨_, pss_cons (ps_par (i := 2) (j := 3) rfl scShuffled.nd rfl rfl (by decide) rfl rfl (pa_cons (pe_callTy call_list_of (by rfl) mli (by decide +kernel) (pa_cons (pv 1) pa_nil)) (pa_cons (pe_lst pa_nil) pa_nil)) (by rfl))
      (pss_cons (ps_for PassesOwn.never rfl (pi_range1 rfl mr (pa_cons (pe_callB call_len_seq (by rfl) ml PySem.boot_len (pa_cons (pv 1) pa_nil)) pa_nil)) (pg_name (i := 4) scShuffled.nd rfl (.inl rfl))
        (pss_one (ps_expr (pe_bm PySem.F.plainAttrs_list PySem.F.slot_list_append PySem.F.type_list_append mt_append (pv 3) (pa_cons
          (pe_bm PySem.F.plainAttrs_list PySem.F.slot_list_pop PySem.F.type_list_pop mt_popAt (pv 2) (pa_cons
            (pe_call G hr rfl mG kG bG .nil pass0 (pa_cons (pv 0) (pa_cons (pe_callB call_len_seq (by rfl) ml PySem.boot_len (pa_cons (pv 2) pa_nil)) pa_nil))) pa_nil)) pa_nil)))))
      (pss_one (ps_ret (pe_callTy call_tupleX (by rfl) mt (by decide +kernel) (pa_cons (pv 3) pa_nil))))), ?_⟩
    have key : ∃ o, H s = some o ∧ ∀ H' : Hp, H' s = some o → SqL K H' s xs ∨ SqT K H' s xs := by
      rcases es with e | e
      · exact ⟨_, e, fun H' e' => .inl (SqL.of e')⟩
      · exact ⟨_, e, fun H' e' => .inr (SqT.of e')⟩
    obtain ⟨so, eso, sqs⟩ := key
    refine ⟨_, rfl, s, xs, rfl, sqs H eso, fun p np => ⟨Nat.zero_le _, fun r nr => ?_⟩⟩
    have ep0 : (upd H p (.lst xs)) p = some (.lst xs) := upd_same
    have npr : p ≠ r := ne_of_none ep0 nr
    have nr0 : H r = none := by rw [upd_ne (Ne.symm npr)] at nr; exact nr
    obtain ⟨nph, npl⟩ := src.new np
    obtain ⟨nrh, nrl⟩ := src.new nr0
    have nsp : s ≠ p := ne_of_none eso np
    have nsr : s ≠ r := ne_of_none eso nr0
    have e1 : (upd (upd H p (.lst xs)) r (.lst [])) s = some so := by rw [upd_ne nsr, upd_ne nsp]; exact eso
    refine ⟨_, _, rfl, _, rfl, s, xs, rfl, sqs _ e1, xs.length, rfl, (by omega), (by omega), for_range (lo := 0) (n := xs.length) (fun i σ H' => ∃ (us fs : List V) (y : Option V), σ = [some (.ref h), some (.ref s), some (.ref p), some (.ref r), y] ∧ H' p = some (.lst us) ∧ H' r = some (.lst fs) ∧ (fs ++ us).Perm xs ∧ fs.length = i ∧ Src H' h l ∧ Bar h l H H')
      ⟨xs, [], none, rfl, by rw [upd_ne npr]; exact ep0, upd_same, .refl _, rfl, (src.updn np).put nrh nrl, (Bar.refl.fresh np).fresh nr0⟩ ?_ ?_⟩
    · rintro i σ H' hi ⟨us, fs, y, rfl, ep, er, pm, fl, sr, bar⟩
      have ln : fs.length + us.length = xs.length := by rw [← List.length_append]; exact pm.length_eq
      refine gn ?_
      dsimp only [List.set]
      refine ⟨_, rfl, .inl ⟨rfl, _, SqL.of er⟩, _, rfl, .inl ⟨rfl, _, SqL.of ep⟩, _, rfl, _, rfl, p, us, rfl, .inl (SqL.of ep), h, l, _, rfl, sr, by omega, by omega, fun j H2 j0 j1 sr2 bar2 => ?_⟩
      obtain ⟨j, rfl⟩ : ∃ j' : Nat, j = (j' : Int) := ⟨j.toNat, by omega⟩
      have hj : j < us.length := by omega
      obtain ⟨m, im, um, m0, _⟩ := atI_get (atI_nat (List.getElem?_eq_getElem hj))
      refine ⟨p, us, j, m, us[j], rfl, rfl, bar2 _ _ nph npl ep, by omega, by omega, im, um, ?_⟩
      · have lm := (erase_perm um).length_eq
        rw [List.length_cons] at lm
        have er2 : (upd H2 p (.lst (us.eraseIdx m))) r = some (.lst fs) := by rw [upd_ne (Ne.symm npr)]; exact bar2 _ _ nrh nrl er
        refine ⟨r, fs, _, rfl, rfl, er2, sz6 (by omega), us.eraseIdx m, fs ++ [us[j]], _, rfl, by rw [upd_ne npr, upd_same], upd_same, perm_pop pm um, by simp [fl], (sr2.put nph npl).put nrh nrl, ((bar.trans bar2).fresh np).fresh nr0⟩
    · rintro σ H' ⟨us, fs, y, rfl, ep, er, pm, fl, sr, bar⟩
      have ln : fs.length + us.length = xs.length := by rw [← List.length_append]; exact pm.length_eq
      have u0 : us = [] := List.eq_nil_of_length_eq_zero (by omega)
      subst u0
      rw [List.append_nil] at pm
      exact ⟨_, rfl, r, fs, rfl, SqL.of er, fun t H3 nt s3 ex _ => q t fs _ pm (sr.same s3) (bar.trans (.same s3)) (bar.free sr nt) ex⟩
end
end K14
namespace K14
open PySem PySem.Spec PyProof.Rows L2
abbrev SS (l : List Nat) : Str := ⟨l.toArray⟩
theorem SS_len (l : List Nat) : (SS l).length = l.length := by simp [SS, Str.length]
theorem SS_cps (l : List Nat) : (SS l).cps.toList = l := rfl
theorem SS_inj {a b : List Nat} (h : SS a = SS b) : a = b := by
  have : (SS a).cps.toList = (SS b).cps.toList := by rw [h]
  exact this
theorem SS_of (s : Str) : SS s.cps.toList = s := rfl
theorem ltCps_eq : ∀ a b : List Nat, ltCps a b = decide (a < b)
  | [], [] => rfl
  | [], _ :: _ => by simp [ltCps]
  | _ :: _, [] => by simp [ltCps]
  | a :: r, b :: t => by
    rw [ltCps, ltCps_eq r t, Bool.eq_iff_iff]
    simp [List.cons_lt_cons_iff]
/-- names: so many, ascending, of one to six letters -/
structure NamesOk (many : Nat) (ns : List (List Nat)) : Prop where
  len : ns.length = many
  each : ∀ s ∈ ns, 1 ≤ s.length ∧ s.length ≤ 6 ∧ ∀ c ∈ s, 97 ≤ c ∧ c ≤ 122
  asc : ∀ i s t, ns[i]? = some s → ns[i + 1]? = some t → s < t
theorem lt_of_not {a b : List Nat} (h : ¬ b < a) (n : a ≠ b) : a < b := by
  rcases List.le_total a b with h1 | h1
  · exact Classical.byContradiction fun z => n (List.le_antisymm h1 (List.not_lt.mp z))
  · exact Classical.byContradiction fun z => n (List.le_antisymm (List.not_lt.mp h) h1)
theorem rising_asc : ∀ (ys : List Str), sortedS ys = true → ys.Nodup → ∀ i s t, (ys.map fun y => y.cps.toList)[i]? = some s → (ys.map fun y => y.cps.toList)[i + 1]? = some t → s < t
  | [], _, _, i, s, t, e, _ => by simp at e
  | [x], _, _, i, s, t, e, e2 => by simp at e2
  | x :: y :: r, h, nd, i, s, t, e, e2 => by
    have h' : (!ltCps y.cps.toList x.cps.toList && risingS y r) = true := by
      have : risingS x (y :: r) = true := h
      rw [risingS] at this
      exact this
    rw [Bool.and_eq_true] at h'
    cases i with
    | zero =>
      have es : x.cps.toList = s := by simpa using e
      have et : y.cps.toList = t := by simpa using e2
      subst es
      subst et
      refine lt_of_not ?_ ?_
      · intro z
        have h1 := h'.1
        rw [ltCps_eq, decide_eq_true z] at h1
        cases h1
      · intro z
        have : x = y := by
          have z' : x.cps = y.cps := by
            apply Array.ext'
            exact z
          cases x; cases y; cases z'; rfl
        rw [List.nodup_cons] at nd
        exact nd.1 (by rw [this]; simp)
    | succ j =>
      exact rising_asc (y :: r) h'.2 (List.nodup_cons.mp nd).2 j s t (by simpa using e) (by simpa using e2)
def nmAt (F : List Nat) (a i : Nat) : List Nat := F ++ [97 + (a + 7 * i) % 26]
theorem nmAt_inj {F : List Nat} {a i j : Nat} (hi : i < 26) (hj : j < 26) (h : nmAt F a i = nmAt F a j) : i = j := by
  have h1 := List.append_cancel_left h
  have h2 : 97 + (a + 7 * i) % 26 = 97 + (a + 7 * j) % 26 := by simpa using h1
  omega
def nms (F : List Nat) (a n : Nat) : List (List Nat) := (List.range n).map (nmAt F a)
theorem nms_len (F : List Nat) (a n : Nat) : (nms F a n).length = n := by simp [nms]
theorem nms_succ (F : List Nat) (a n : Nat) : nms F a (n + 1) = nms F a n ++ [nmAt F a n] := by simp [nms, List.range_succ]
theorem nms_nodup {F : List Nat} {a n : Nat} (h : n ≤ 26) : (nms F a n).Nodup := by
  unfold nms
  refine List.pairwise_map.mpr ?_
  refine List.Pairwise.imp_of_mem ?_ (List.nodup_range (n := n))
  intro i j hi hj ne e
  rw [List.mem_range] at hi hj
  exact ne (nmAt_inj (by omega) (by omega) e)
theorem nms_each {F : List Nat} {a n : Nat} (h5 : F.length ≤ 5) (hF : ∀ c ∈ F, 97 ≤ c ∧ c ≤ 122) : ∀ s ∈ nms F a n, 1 ≤ s.length ∧ s.length ≤ F.length + 1 ∧ ∀ c ∈ s, 97 ≤ c ∧ c ≤ 122 := by
  intro s hs
  obtain ⟨i, _, rfl⟩ := List.mem_map.mp hs
  refine ⟨by simp [nmAt], by simp [nmAt], fun c hc => ?_⟩
  rcases List.mem_append.mp hc with hc | hc
  · exact hF c hc
  · rw [List.mem_singleton.mp hc]
    omega
/-- the first one longer by a letter -/
theorem nms_set {F : List Nat} {a n : Nat} (h : n ≤ 26) (n0 : 0 < n) : ((nms F a n).set 0 (nmAt F a 0 ++ [111])).Nodup := by
  obtain ⟨m, rfl⟩ : ∃ m, n = m + 1 := ⟨n - 1, by omega⟩
  have nd := nms_nodup (F := F) (a := a) h
  have e : nms F a (m + 1) = nmAt F a 0 :: (nms F a (m + 1)).drop 1 := by
    unfold nms
    rw [List.range_succ_eq_map]
    simp
  rw [e] at nd ⊢
  rw [List.set_cons_zero]
  rw [List.nodup_cons] at nd ⊢
  refine ⟨fun hm => ?_, nd.2⟩
  have hm' : nmAt F a 0 ++ [111] ∈ nms F a (m + 1) := by rw [e]; exact List.mem_cons_of_mem _ hm
  obtain ⟨i, _, ei⟩ := List.mem_map.mp hm'
  have := congrArg List.length ei
  simp [nmAt] at this
theorem names_of {many : Nat} {zs : List (List Nat)} {ys : List Str} (l : zs.length = many) (nd : zs.Nodup) (ea : ∀ s ∈ zs, 1 ≤ s.length ∧ s.length ≤ 6 ∧ ∀ c ∈ s, 97 ≤ c ∧ c ≤ 122) (p : ys.Perm (zs.map SS)) (so : sortedS ys = true) : ∃ ns, NamesOk many ns ∧ ys = ns.map SS := by
  refine ⟨ys.map fun y => y.cps.toList, ⟨?_, ?_, ?_⟩, ?_⟩
  · rw [List.length_map, p.length_eq, List.length_map, l]
  · intro s hs
    obtain ⟨y, hy, rfl⟩ := List.mem_map.mp hs
    obtain ⟨z, hz, rfl⟩ := List.mem_map.mp (p.mem_iff.mp hy)
    exact ea z hz
  · refine rising_asc ys so ?_
    rw [p.nodup_iff]
    refine List.pairwise_map.mpr (List.Pairwise.imp ?_ nd)
    intro a b ne e
    exact ne (SS_inj e)
  · rw [List.map_map]
    have : (SS ∘ fun y : Str => y.cps.toList) = id := by
      funext y
      rfl
    rw [this, List.map_id]
end K14
namespace K14
open PySem PySem.Spec PyProof.Rows L2
theorem let_get {j : Nat} (h : j < 26) : ("abcdefghijklmnopqrstuvwxyz" : Str).cps.toList[j]? = some (97 + j) := by
  have e : ("abcdefghijklmnopqrstuvwxyz" : Str) = SS (List.range' 97 26) := by decide +kernel
  rw [e]
  show (List.range' 97 26)[j]? = _
  rw [List.getElem?_range' h]
  congr 1
  omega
theorem SS_app (a b : List Nat) : SS a ++ SS b = SS (a ++ b) := by
  show (⟨a.toArray ++ b.toArray⟩ : Str) = ⟨(a ++ b).toArray⟩
  rw [List.append_toArray]
theorem szS5 {F : List Nat} (h : F.length ≤ 5) : (SS F).length ≤ sizeLine := by rw [SS_len]; exact sz5 (by omega)
theorem ixN_zero {m : Nat} (h : 0 < m) : ixN m 0 = some 0 := by
  unfold ixN
  rw [if_pos (by decide), if_pos (by omega)]
  rfl
def VN (ns : List (List Nat)) : List V := ns.map fun s => V.str (SS s)
theorem VN_eq (ns : List (List Nat)) : VN ns = (ns.map SS).map V.str := by simp [VN]
def spNames : Sp := fun vs H Q _ => ∃ (h l : Addr) (many : Nat), vs = [.ref h, .int many] ∧ Src H h l ∧ 0 < many ∧ many ≤ 26 ∧
  ∀ (r : Addr) (ns : List (List Nat)) (H' : Hp), NamesOk many ns → Src H' h l → Bar h l H H' → H r = none → H' r = some (.tup (VN ns)) → Q (.ref r) H'
theorem scNames : FnScope ["heap", "many", "letters", "front", "first", "found", "at"] ["heap", "many"] (defScope sNames) := ⟨rfl, rfl, rfl, by decide +kernel, rfl, by decide +kernel, by decide +kernel⟩
section
variable {P : Program} {w : World} {K : PySem.W.Frag} {mg : Str → Option Value} {base : Heap}
theorem ok_names {f g p : Addr} {fd gd pd : FuncData} {k : Nat} (F : Fun K "_law_names" "_law_names" sNames f fd) (G : FnOk P w K mg base CX0 k g gd ["heap", "many"] spDraw) (bG : Binds K gd ["heap", "many"] []) (kG : PySem.W.keepIn K (.ref g) = true) (mG : mg "_law_draw" = some (.ref g))
    (R : FnOk P w K mg base CX0 k p pd ["heap", "some"] spPick) (bR : Binds K pd ["heap", "some"] []) (kR : PySem.W.keepIn K (.ref p) = true) (mR : mg "_law_pick" = some (.ref p)) (mi : mg "int" = none) (ml : mg "len" = none) (mr : mg "range" = none) (ms : mg "sorted" = none) (mt : mg "tuple" = none) :
    FnOk P w K mg base CX0 (k + 1) f fd ["heap", "many"] spNames := by
  refine F.ok scNames (fun vs H Q E h => ?_) (fun cdv A outer s H vs Q E hr h => ?_)
  · obtain ⟨h, l, many, rfl, _⟩ := h
    rfl
  · obtain ⟨h, l, many, rfl, src, m0, m1, q⟩ := h
    refine ⟨_, pss_cons (ps_asg (pe_tup (pa_cons pe_str (pa_cons (pe_call R hr rfl mR kR bR .nil pass0 (pa_cons (pv 0) (pa_cons (pe_lst (pa_cons pe_str (pa_cons pe_str (pa_cons pe_str (pa_cons pe_str (pa_cons pe_str pa_nil)))))) pa_nil))) (pa_cons (pe_call G hr rfl mG kG bG .nil pass0 (pa_cons (pv 0) (pa_cons pe_int pa_nil))) pa_nil)))) (pg_tup (by rfl) (pgs_cons (pg_name (i := 2) scNames.nd rfl (.inr rfl)) (pgs_cons (pg_name (i := 3) scNames.nd rfl (.inr rfl)) (pgs_cons (pg_name (i := 4) scNames.nd rfl (.inr rfl)) pgs_nil)))))
      (pss_cons (ps_setLc (i := 5) (own := [("at", 6)]) (g := gName 6) (tt := tYes) rfl scNames.nd rfl rfl (sw_true rfl rfl rfl (by decide +kernel)) (pi_range1 rfl mr (pa_cons (pv 1) pa_nil))
          (blkOk_by (own := [("at", 6)]) (N := ["heap", "many", "letters", "front", "first", "found", "at"]) (sc := defScope sNames) (by decide +kernel)) (fun _ _ _ _ _ => pg_name (i := 6) scNames.nd rfl (Or.inl rfl)) (fun _ _ _ _ _ => pts_nil)
          (fun _ _ _ _ _ => pe_op op_add_str (pv 3) (pe_ix ix_str (pv 2) (pe_op op_mod (pe_callTy call_int1 (by rfl) mi (by decide +kernel) (pa_cons (pe_op op_add (pv 4) (pe_op op_mul pe_int (pv 6))) pa_nil)) pe_int) (fun _ _ => rfl))))
      (pss_cons (ps_if (PW.pt (pw_and (pt_cmpR op_lt (pe_callB call_len_str (by rfl) ml PySem.boot_len (pa_cons (pv 3) pa_nil)) pe_int (nomark _)) (pw_and1 (pt_cmpR op_eq (pe_call G hr rfl mG kG bG .nil pass0 (pa_cons (pv 0) (pa_cons pe_int pa_nil))) pe_int (nomark _)))))
        (pss_one (ps_asg (pe_op op_add_str (pe_ix ix_list (pv 5) pe_int (fun _ _ => rfl)) pe_str) (pg_sub (pv 5) pe_int set_list))) pss_nil)
      (pss_one (ps_ret (pe_callTy call_tuple_of (by rfl) mt (by decide +kernel) (pa_cons (pe_callB cr_sortedS (by rfl) ms (by decide +kernel) (pa_cons (pv 5) pa_nil)) pa_nil)))))), ?_⟩
    refine ⟨_, rfl, (by show 5 ≤ sizeLine; decide), fun u nu => ?_⟩
    obtain ⟨nuh, nul⟩ := src.new nu
    refine ⟨h, l, u, _, rfl, src.updn nu, .inl upd_same, nuh, nul, by simp, by simp, fun j v H1 hv src1 bar1 => ?_⟩
    obtain ⟨F0, rfl, f5, fl⟩ : ∃ F0 : List Nat, v = .str (SS F0) ∧ F0.length ≤ 5 ∧ ∀ c ∈ F0, 97 ≤ c ∧ c ≤ 122 := by
      match j, hv with
      | 0, hv => exact ⟨[], (Option.some.inj hv).symm, by decide, by decide⟩
      | 1, hv => exact ⟨[], (Option.some.inj hv).symm, by decide, by decide⟩
      | 2, hv => exact ⟨[98], (Option.some.inj hv).symm, by decide, by decide⟩
      | 3, hv => exact ⟨[122, 122], (Option.some.inj hv).symm, by decide, by decide⟩
      | 4, hv => exact ⟨[109, 110, 111, 112, 113], (Option.some.inj hv).symm, by decide, by decide⟩
    have bar01 : Bar h l H H1 := (Bar.refl.fresh nu).trans bar1
    refine ⟨_, rfl, h, l, 26, rfl, src1, by decide, by decide, fun x H2 x0 x1 src2 bar2 => ?_⟩
    obtain ⟨a, rfl⟩ : ∃ a : Nat, x = (a : Int) := ⟨x.toNat, by omega⟩
    have bar02 : Bar h l H H2 := bar01.trans bar2
    refine ⟨(by show 3 ≤ sizeLine; decide), fun t nt => ?_⟩
    have nt0 := bar02.free src2 nt
    refine ⟨t, _, rfl, SqT.of upd_same, rfl, ?_⟩
    have bar03 := bar02.fresh (o := .tup [.str "abcdefghijklmnopqrstuvwxyz", .str (SS F0), .int a]) nt0
    have src3 := src2.updn (o := .tup [.str "abcdefghijklmnopqrstuvwxyz", .str (SS F0), .int a]) nt
    generalize upd H2 t (.tup [.str "abcdefghijklmnopqrstuvwxyz", .str (SS F0), .int a]) = H3 at bar03 src3
    refine ⟨_, _, rfl, gn ⟨_, _, rfl, gn ⟨_, _, rfl, gn ⟨rfl, ?_⟩⟩⟩⟩
    dsimp only [List.set]
    refine ⟨_, rfl, _, rfl, by omega, by omega, fun D nD => ?_⟩
    have nD0 := bar03.free src3 nD
    obtain ⟨nDh, nDl⟩ := src3.new nD
    refine lc_range (lo := 0) (n := many) (fun i H' => H' D = some (.lst ((nms F0 a i).map fun s => V.str (SS s))) ∧ Src H' h l ∧ Bar h l H H')
      ⟨upd_same, src3.updn nD, bar03.fresh nD0⟩ ?_ ?_
    · rintro i H4 hi ⟨eD, sr, br⟩
      have hm : (a + 7 * i) % 26 < 26 := Nat.mod_lt _ (by decide)
      refine gn ⟨rfl, yes ?_⟩
      refine ⟨_, rfl, _, rfl, _, rfl, _, rfl, _, _, rfl, rfl, .inl ⟨by decide, by decide⟩, _, _, rfl, rfl, .inl ⟨_, rfl, _, _, rfl, rfl, (show (0 : Int) < 26 by decide), ?_⟩⟩
      have em : ((a : Int) + 7 * (0 + (i : Int))) % 26 = ((a + 7 * i) % 26 : Nat) := by omega
      dsimp only
      rw [em]
      refine ⟨_, _, 97 + (a + 7 * i) % 26, rfl, rfl, (by decide), atI_nat (let_get hm), _, _, rfl, rfl, ?_, _, eD, ?_, ?_, sr.put nDh nDl, br.fresh nD0⟩
      · rw [SS_len]
        show F0.length + 1 ≤ sizeLine
        exact sz5 (by omega)
      · rw [List.length_map, nms_len]
        exact sz6 (by omega)
      · rw [upd_same, nms_succ, List.map_append]
        have e : SS F0 ++ (⟨#[97 + (a + 7 * i) % 26]⟩ : Str) = SS (nmAt F0 a i) := SS_app F0 [97 + (a + 7 * i) % 26]
        rw [e]
        rfl
    · rintro H4 ⟨eD, sr, br⟩
      dsimp only
      refine seqcut (fun σ' H' => ∃ zs : List (List Nat), σ' = [some (.ref h), some (.int many), some (.str "abcdefghijklmnopqrstuvwxyz"), some (.str (SS F0)), some (.int a), some (.ref D), none] ∧ H' D = some (.lst (zs.map fun s => V.str (SS s))) ∧ zs.length = many ∧ zs.Nodup ∧ (∀ s ∈ zs, 1 ≤ s.length ∧ s.length ≤ 6 ∧ ∀ c ∈ s, 97 ≤ c ∧ c ≤ 122) ∧ Src H' h l ∧ Bar h l H H') ?_ (fun out => ?_)
      · rintro σ' H' ⟨zs, rfl, eD', lz, nd, ea, sr', br'⟩
        refine ⟨_, rfl, D, zs.map SS, rfl, SqL.of (by rw [eD']; simp), by simp [lz]; omega, fun ys p' pm so np => ?_⟩
        obtain ⟨ns, ok, rfl⟩ := names_of lz nd ea pm so
        have np0 := br'.free sr' np
        refine ⟨p', _, rfl, .inl ⟨SqL.of upd_same, fun r nr => ?_⟩⟩
        have nr0 := (br'.fresh (o := .lst ((ns.map SS).map V.str)) np0).free (sr'.updn np) nr
        refine q r ns _ ok ((sr'.updn np).updn nr) ((br'.fresh np0).fresh nr0) nr0 ?_
        rw [upd_same, VN_eq]
      · have eaN := nms_each (n := many) (a := a) f5 fl
        have same : (∃ zs : List (List Nat), zs = nms F0 a many) := ⟨_, rfl⟩
        refine ⟨_, rfl, _, rfl, szS5 f5, _, _, rfl, rfl, _, rfl, ?_⟩
        refine ite2 (fun c1 => ?_) (fun c1 => ?_)
        · refine ⟨_, rfl, h, l, 2, rfl, sr, by decide, by decide, fun y H5 y0 y1 src5 bar5 => ?_⟩
          have eD5 := bar5 _ _ nDh nDl eD
          refine ⟨rfl, _, rfl, ?_⟩
          refine ite2 (fun c2 => ?_) (fun c2 => ?_)
          · have hz : ((nms F0 a many).map fun s => V.str (SS s))[0]? = some (V.str (SS (nmAt F0 a 0))) := by
              rw [List.getElem?_map]
              unfold nms
              rw [List.getElem?_map, List.getElem?_range m0]
              rfl
            refine ⟨_, rfl, D, _, 0, _, rfl, rfl, SqL.of eD5, atI_nat (j := 0) hz, _, _, rfl, rfl, ?_, _, rfl, D, _, _, 0, rfl, rfl, eD5, ?_, ?_⟩
            · rw [SS_len]
              simp only [nmAt, List.length_append, List.length_singleton]
              show F0.length + 1 + 1 ≤ sizeLine
              exact sz5 (by omega)
            · rw [List.length_map, nms_len]
              exact ixN_zero m0
            · refine out _ _ ⟨(nms F0 a many).set 0 (nmAt F0 a 0 ++ [111]), rfl, ?_, by simp [nms_len], nms_set m1 m0, ?_, src5.put nDh nDl, (br.trans bar5).fresh nD0⟩
              · rw [upd_same, List.map_set]
                have e : SS (nmAt F0 a 0) ++ ("o" : Str) = SS (nmAt F0 a 0 ++ [111]) := SS_app (nmAt F0 a 0) [111]
                rw [e]
              · intro s hs
                have lt4 : F0.length < 5 := by
                  rw [SS_len] at c1
                  exact Int.ofNat_lt.mp (of_decide_eq_true c1)
                rcases List.mem_or_eq_of_mem_set hs with hs | rfl
                · obtain ⟨a1, a2, a3⟩ := eaN s hs
                  exact ⟨a1, by omega, a3⟩
                · refine ⟨by simp, by simp [nmAt]; omega, fun c hc => ?_⟩
                  rcases List.mem_append.mp hc with hc | hc
                  · rcases List.mem_append.mp hc with hc | hc
                    · exact fl c hc
                    · rw [List.mem_singleton.mp hc]
                      omega
                  · rw [List.mem_singleton.mp hc]
                    decide
          · exact out _ _ ⟨nms F0 a many, rfl, eD5, nms_len _ _ _, nms_nodup m1, fun s hs => ⟨(eaN s hs).1, by have := (eaN s hs).2.1; omega, (eaN s hs).2.2⟩, src5, br.trans bar5⟩
        · exact out _ _ ⟨nms F0 a many, rfl, eD, nms_len _ _ _, nms_nodup m1, fun s hs => ⟨(eaN s hs).1, by have := (eaN s hs).2.1; omega, (eaN s hs).2.2⟩, sr, br⟩
end
end K14
namespace K14
open PySem PySem.Spec PyProof.Rows L2
def VI (s : List Nat) : List V := s.map fun j => V.int (j : Nat)
theorem VI_len (s : List Nat) : (VI s).length = s.length := List.length_map _
theorem VI_app (s t : List Nat) : VI (s ++ t) = VI s ++ VI t := List.map_append
theorem VI_get {s : List Nat} {i j : Nat} (h : s[i]? = some j) : (VI s)[i]? = some (.int (j : Nat)) := by unfold VI; rw [List.getElem?_map, h]; rfl
def VI1 : V → Nat
  | .int i => i.toNat
  | _ => 0
theorem perm_VI {ys : List V} {s : List Nat} (p : ys.Perm (VI s)) : ∃ t, ys = VI t ∧ t.Perm s := by
  have e1 : ys = VI (ys.map VI1) := by
    unfold VI
    rw [List.map_map]
    symm
    refine (List.map_congr_left ?_).trans (List.map_id ys)
    intro y hy
    obtain ⟨j, _, rfl⟩ := List.mem_map.mp (p.mem_iff.mp hy)
    rfl
  refine ⟨ys.map VI1, e1, ?_⟩
  have h := p.map VI1
  have e2 : (VI s).map VI1 = s := by
    unfold VI
    rw [List.map_map]
    refine (List.map_congr_left ?_).trans (List.map_id s)
    intro y _
    rfl
  rwa [e2] at h
/-- a row of tuples of numbers, at these places -/
def Rws (H : Hp) (as : List Addr) (ls : List (List Nat)) : Prop := as.length = ls.length ∧ ∀ (i : Nat) (a : Addr) (s : List Nat), as[i]? = some a → ls[i]? = some s → Tp H a (VI s)
/-- a tuple of tuples of numbers -/
def LT (H : Hp) (r : Addr) (ls : List (List Nat)) : Prop := ∃ as : List Addr, H r = some (.tup (as.map V.ref)) ∧ Rws H as ls
theorem tup_bar {H H' : Hp} {h l p : Addr} {xs : List V} (s : Src H h l) (b : Bar h l H H') (e : H p = some (.tup xs)) : H' p = some (.tup xs) := by
  obtain ⟨n1, n2⟩ := s.ne e (fun _ z => by cases z)
  exact b p _ n1 n2 e
theorem Rws.bar {H H' : Hp} {h l : Addr} {as : List Addr} {ls : List (List Nat)} (t : Rws H as ls) (s : Src H h l) (b : Bar h l H H') : Rws H' as ls := ⟨t.1, fun i a x e1 e2 => (t.2 i a x e1 e2).imp (tup_bar s b) (fun e => e.bar s b)⟩
theorem LT.bar {H H' : Hp} {h l r : Addr} {ls : List (List Nat)} (t : LT H r ls) (s : Src H h l) (b : Bar h l H H') : LT H' r ls := by
  obtain ⟨as, e, q⟩ := t
  exact ⟨as, tup_bar s b e, q.bar s b⟩
theorem Rws.same {H H' : Hp} {as : List Addr} {ls : List (List Nat)} (t : Rws H as ls) (b : Same H H') : Rws H' as ls := ⟨t.1, fun i a x e1 e2 => (t.2 i a x e1 e2).same b⟩
theorem LT.same {H H' : Hp} {r : Addr} {ls : List (List Nat)} (t : LT H r ls) (b : Same H H') : LT H' r ls := by
  obtain ⟨as, e, q⟩ := t
  exact ⟨as, b _ _ e, q.same b⟩
theorem LT.updn {H : Hp} {r p : Addr} {o : HO} {ls : List (List Nat)} (t : LT H r ls) (n : H p = none) : LT (upd H p o) r ls := t.same (same_upd n)
/-- a tuple of tuples of numbers, each known whole -/
def LX (H : Hp) (r : Addr) (ls : List (List Nat)) : Prop := ∃ as : List Addr, H r = some (.tup (as.map V.ref)) ∧ as.length = ls.length ∧ ∀ (i : Nat) (a : Addr) (s : List Nat), as[i]? = some a → ls[i]? = some s → Ex H a (VI s)
theorem LX.lt {H : Hp} {r : Addr} {ls : List (List Nat)} (t : LX H r ls) : LT H r ls := let ⟨as, e, l, q⟩ := t; ⟨as, e, l, fun i a s e1 e2 => .inr (q i a s e1 e2)⟩
theorem LX.same {H H' : Hp} {r : Addr} {ls : List (List Nat)} (t : LX H r ls) (b : Same H H') : LX H' r ls := let ⟨as, e, l, q⟩ := t; ⟨as, b _ _ e, l, fun i a s e1 e2 => (q i a s e1 e2).same b⟩
theorem LX.bar {H H' : Hp} {h l r : Addr} {ls : List (List Nat)} (t : LX H r ls) (s : Src H h l) (b : Bar h l H H') : LX H' r ls := let ⟨as, e, le, q⟩ := t; ⟨as, tup_bar s b e, le, fun i a x e1 e2 => (q i a x e1 e2).bar s b⟩
/-- lists both ways -/
structure ListsOk (many : Nat) (ls : List (List Nat)) : Prop where
  len : ls.length = many
  nd : ∀ (i : Nat) (s : List Nat), ls[i]? = some s → s.Nodup
  both : ∀ (i : Nat) (s : List Nat) (j : Nat), ls[i]? = some s → j ∈ s → j < many ∧ j ≠ i ∧ ∃ t : List Nat, ls[j]? = some t ∧ i ∈ t
/-- lists while they grow: all pairs of whom the lesser one is below a, or is a, and the greater one below b, are behind -/
structure Grow (many a b : Nat) (L : Nat → List Nat) : Prop where
  nd : ∀ i, (L i).Nodup
  both : ∀ i j, j ∈ L i → j < many ∧ i < many ∧ j ≠ i ∧ i ∈ L j
  past : ∀ i j, i < j → j ∈ L i → i < a ∨ (i = a ∧ j < b)
def putL (L : Nat → List Nat) (i x : Nat) : Nat → List Nat := fun k => if k = i then L i ++ [x] else L k
theorem Grow.nil {many a b : Nat} : Grow many a b (fun _ => []) := ⟨fun _ => List.nodup_nil, fun _ _ h => (by cases h), fun _ _ _ h => (by cases h)⟩
theorem Grow.mono {many a b a' b' : Nat} {L : Nat → List Nat} (g : Grow many a b L) (h : ∀ i j, i < j → j < many → (i < a ∨ (i = a ∧ j < b)) → (i < a' ∨ (i = a' ∧ j < b'))) : Grow many a' b' L :=
  ⟨g.nd, g.both, fun i j ij m => h i j ij (g.both i j m).1 (g.past i j ij m)⟩
theorem mem_putL {L : Nat → List Nat} {i x k y : Nat} : y ∈ putL L i x k ↔ y ∈ L k ∨ (k = i ∧ y = x) := by
  unfold putL
  split
  · rename_i e
    subst e
    simp
  · rename_i e
    simp [e]
theorem Grow.put {many a b : Nat} {L : Nat → List Nat} (g : Grow many a b L) (ab : a < b) (bm : b < many) : Grow many a (b + 1) (putL (putL L a b) b a) := by
  have n1 : b ∉ L a := fun h => by
    have := g.past a b ab h
    omega
  have n2 : a ∉ L b := fun h => n1 (g.both b a h).2.2.2
  refine ⟨fun i => ?_, fun i j h => ?_, fun i j ij h => ?_⟩
  · unfold putL
    split
    · rename_i e
      subst e
      rw [if_neg (by omega)]
      rw [List.nodup_append]
      refine ⟨g.nd _, by simp, fun x hx y hy e => ?_⟩
      rw [List.mem_singleton.mp hy] at e
      subst e
      exact n2 hx
    · split
      · rename_i e
        subst e
        rw [List.nodup_append]
        refine ⟨g.nd _, by simp, fun x hx y hy e => ?_⟩
        rw [List.mem_singleton.mp hy] at e
        subst e
        exact n1 hx
      · exact g.nd _
  · rw [mem_putL, mem_putL] at h
    have e : i ∈ putL (putL L a b) b a j ↔ (i ∈ L j ∨ (j = a ∧ i = b)) ∨ (j = b ∧ i = a) := by rw [mem_putL, mem_putL]
    rw [e]
    rcases h with (h | ⟨rfl, rfl⟩) | ⟨rfl, rfl⟩
    · obtain ⟨h1, h2, h3, h4⟩ := g.both i j h
      exact ⟨h1, h2, h3, .inl (.inl h4)⟩
    · exact ⟨bm, by omega, by omega, .inr ⟨rfl, rfl⟩⟩
    · exact ⟨by omega, bm, by omega, .inl (.inr ⟨rfl, rfl⟩)⟩
  · rw [mem_putL, mem_putL] at h
    rcases h with (h | ⟨rfl, rfl⟩) | ⟨rfl, rfl⟩
    · have := g.past i j ij h
      omega
    · right
      omega
    · omega
theorem Grow.ok {many a b : Nat} {L : Nat → List Nat} {ls : List (List Nat)} (g : Grow many a b L) (l : ls.length = many) (p : ∀ (i : Nat) (s : List Nat), ls[i]? = some s → s.Perm (L i)) : ListsOk many ls := by
  refine ⟨l, fun i s e => (p i s e).nodup_iff.mpr (g.nd i), fun i s j e hj => ?_⟩
  obtain ⟨h1, h2, h3, h4⟩ := g.both i j ((p i s e).mem_iff.mp hj)
  have hl : j < ls.length := by omega
  exact ⟨h1, h3, ls[j], List.getElem?_eq_getElem hl, (p j _ (List.getElem?_eq_getElem hl)).mem_iff.mpr h4⟩
theorem nodup_ix {α : Type} : ∀ {rs : List α} {i j : Nat} {r : α}, rs.Nodup → rs[i]? = some r → rs[j]? = some r → i = j
  | [], i, j, r, _, e, _ => by simp at e
  | a :: t, 0, 0, r, _, _, _ => rfl
  | a :: t, i + 1, j + 1, r, nd, e1, e2 => by
    exact congrArg (· + 1) (nodup_ix (List.nodup_cons.mp nd).2 (by simpa using e1 : t[i]? = some r) (by simpa using e2 : t[j]? = some r))
  | a :: t, 0, j + 1, r, nd, e1, e2 => by
    have h1 : a = r := by simpa using e1
    have h2 : t[j]? = some r := by simpa using e2
    subst h1
    exact absurd (List.mem_of_getElem? h2) (List.nodup_cons.mp nd).1
  | a :: t, i + 1, 0, r, nd, e1, e2 => by
    have h1 : a = r := by simpa using e2
    have h2 : t[i]? = some r := by simpa using e1
    subst h1
    exact absurd (List.mem_of_getElem? h2) (List.nodup_cons.mp nd).1
theorem _root_.List.Nodup.length_le_card_of_sub : ∀ {n : Nat} {s : List Nat}, s.Nodup → (∀ x ∈ s, x < n) → s.length ≤ n := by
  intro n
  induction n with
  | zero =>
    intro s _ h
    cases s with
    | nil => exact Nat.le_refl _
    | cons a r => exact absurd (h a (by simp)) (by omega)
  | succ n ih =>
    intro s nd h
    have h1 : (s.erase n).length ≤ n := by
      refine ih (nd.erase n) fun x hx => ?_
      have hx' := (List.Nodup.mem_erase_iff nd).mp hx
      have := h x hx'.2
      omega
    have h2 := List.length_erase (a := n) (l := s)
    split at h2 <;> omega
theorem row_put {H : Hp} {rs : List Addr} {L : Nat → List Nat} {i x : Nat} {r : Addr} (nd : rs.Nodup) (e : rs[i]? = some r) (h : ∀ k q, rs[k]? = some q → H q = some (.lst (VI (L k)))) : ∀ k q, rs[k]? = some q → (upd H r (.lst (VI (L i) ++ [V.int (x : Nat)]))) q = some (.lst (VI (putL L i x k))) := by
  intro k q ek
  unfold putL
  by_cases c : k = i
  · subst c
    rw [e] at ek
    cases ek
    rw [upd_same, if_pos rfl, VI_app]
    rfl
  · rw [if_neg c, upd_ne, h k q ek]
    intro z
    subst z
    exact c (nodup_ix nd ek e)
end K14
namespace K14
open PySem PySem.Spec PyProof.Rows L2
/-- plain values -/
inductive Pl (H : Hp) : V → Prop where
  | non : Pl H .non
  | bl (b : Bool) : Pl H (.bl b)
  | int (i : Int) : Pl H (.int i)
  | str (s : Str) : Pl H (.str s)
  | lst {a : Addr} {xs : List V} (e : H a = some (.lst xs)) : Pl H (.ref a)
  | tup {a : Addr} {xs : List V} (e : H a = some (.tup xs)) : Pl H (.ref a)
def isNum : V → Bool
  | .int i => decide (0 ≤ i)
  | _ => false
def isBel (v : V) (n : Nat) : Bool := match v with
  | .int i => decide (0 ≤ i) && decide (i < n)
  | _ => false
def tupOf (H : Hp) : V → Option (List V)
  | .ref a => match H a with
    | some (.tup xs) => some xs
    | _ => none
  | _ => none
def spIsNumber : Sp := fun vs H Q _ => ∃ v : V, vs = [v] ∧ Pl H v ∧ Q (.bl (isNum v)) H
def spIsBelow : Sp := fun vs H Q _ => ∃ (v : V) (n : Nat), vs = [v, .int n] ∧ Pl H v ∧ Q (.bl (isBel v n)) H
def spIsTupleOf : Sp := fun vs H Q _ => ∃ (v : V) (n : Nat), vs = [v, .int n] ∧ Pl H v ∧ (∀ xs, tupOf H v = some xs → xs.length ≤ 100000) ∧ Q (.bl (match tupOf H v with | some xs => decide (xs.length = n) | none => false)) H
theorem scIsNumber : FnScope ["value"] ["value"] (defScope sIsNumber) := ⟨rfl, rfl, rfl, by decide +kernel, rfl, by decide +kernel, by decide +kernel⟩
theorem scIsBelow : FnScope ["value", "bound"] ["value", "bound"] (defScope sIsBelow) := ⟨rfl, rfl, rfl, by decide +kernel, rfl, by decide +kernel, by decide +kernel⟩
theorem scIsTupleOf : FnScope ["value", "many"] ["value", "many"] (defScope sIsTupleOf) := ⟨rfl, rfl, rfl, by decide +kernel, rfl, by decide +kernel, by decide +kernel⟩
section
variable {P : Program} {w : World} {K : PySem.W.Frag} {mg : Str → Option Value} {base : Heap}
theorem ok_is_number {f : Addr} {fd : FuncData} {k : Nat} (F : Fun K "is_number" "is_number" sIsNumber f fd) (mis : mg "isinstance" = none) (mi : mg "int" = none) (mb : mg "bool" = none) : FnOk P w K mg base CX0 (k + 1) f fd ["value"] spIsNumber := by
  refine F.ok scIsNumber (fun vs H Q E h => ?_) (fun cdv A outer s H vs Q E hr h => ?_)
  · obtain ⟨v, rfl, _⟩ := h
    rfl
  · obtain ⟨v, rfl, pl, q⟩ := h
    refine ⟨_, pss_one (ps_ret (pe_and (pe_callB call_isi (by rfl) mis (by decide +kernel) (pa_cons (pv 0) (pa_cons (pe_bltn (v := .ty "int") (by rfl) mi (by decide +kernel) rfl) pa_nil)))
      (pe_and (pe_not (pe_callB call_isi (by rfl) mis (by decide +kernel) (pa_cons (pv 0) (pa_cons (pe_bltn (v := .ty "bool") (by rfl) mb (by decide +kernel) rfl) pa_nil))))
      (pe_one (pe_cmp (pc_ge (pv 0) pe_int) rfl))))), ?_⟩
    cases pl with
    | non => exact (⟨_, rfl, _, _, _, _, false, rfl, .ty _, .base .non, kit_ty (by decide +kernel), ⟨false, rfl, q⟩⟩)
    | bl b => exact (⟨_, rfl, _, _, _, _, true, rfl, .ty _, .base (.bl b), kit_ty (by decide +kernel), ⟨true, rfl, iteT ((⟨_, rfl, _, _, _, _, true, rfl, .ty _, .base (.bl b), kit_ty (by decide +kernel), ⟨_, rfl, _, rfl, q⟩⟩))⟩⟩)
    | int i => exact (⟨_, rfl, _, _, _, _, true, rfl, .ty _, .base (.int i), kit_ty (by decide +kernel), ⟨true, rfl, iteT ((⟨_, rfl, _, _, _, _, false, rfl, .ty _, .base (.int i), kit_ty (by decide +kernel), ⟨_, rfl, _, rfl, iteT ⟨_, rfl, _, _, rfl, rfl, q⟩⟩⟩))⟩⟩)
    | str s => exact (⟨_, rfl, _, _, _, _, false, rfl, .ty _, .base (.str s), kit_ty (by decide +kernel), ⟨false, rfl, q⟩⟩)
    | lst e => exact (⟨_, rfl, _, _, _, _, false, rfl, .ty _, .base (.lst e), kit_ty (by decide +kernel), ⟨false, rfl, q⟩⟩)
    | tup e => exact (⟨_, rfl, _, _, _, _, false, rfl, .ty _, .base (.tup e), kit_ty (by decide +kernel), ⟨false, rfl, q⟩⟩)
theorem ok_is_below {f g : Addr} {fd gd : FuncData} {k : Nat} (F : Fun K "is_below" "is_below" sIsBelow f fd) (G : FnOk P w K mg base CX0 k g gd ["value"] spIsNumber) (bG : Binds K gd ["value"] []) (kG : PySem.W.keepIn K (.ref g) = true) (mG : mg "is_number" = some (.ref g)) : FnOk P w K mg base CX0 (k + 1) f fd ["value", "bound"] spIsBelow := by
  refine F.ok scIsBelow (fun vs H Q E h => ?_) (fun cdv A outer s H vs Q E hr h => ?_)
  · obtain ⟨v, n, rfl, _⟩ := h
    rfl
  · obtain ⟨v, n, rfl, pl, q⟩ := h
    refine ⟨_, pss_one (ps_ret (pe_and (pe_call G hr rfl mG kG bG .nil pass0 (pa_cons (pv 0) pa_nil)) (pe_one (pe_cmp (pc_lt (pv 0) (pv 1)) rfl)))), ?_⟩
    refine ⟨_, rfl, v, rfl, pl, isNum v, rfl, ?_⟩
    cases v with
    | int i =>
      refine ite2 (fun c => ?_) (fun c => ?_)
      · refine ⟨_, rfl, _, rfl, _, _, rfl, rfl, ?_⟩
        have e : isBel (.int i) n = decide (i < n) := by
          show (decide (0 ≤ i) && decide (i < n)) = _
          rw [show decide (0 ≤ i) = true from c]
          rfl
        rw [e] at q
        exact q
      · have e : isBel (.int i) n = false := by
          show (decide (0 ≤ i) && decide (i < n)) = _
          rw [show decide (0 ≤ i) = false from (by simpa [isNum] using c)]
          rfl
        rw [e] at q
        exact q
    | non => exact q
    | bl b => exact q
    | str s => exact q
    | ref a => exact q
    | byt b => exact q
    | flt b => exact q
    | ty n => exact q
theorem ok_is_tuple_of {f : Addr} {fd : FuncData} {k : Nat} (F : Fun K "is_tuple_of" "is_tuple_of" sIsTupleOf f fd) (mis : mg "isinstance" = none) (mt : mg "tuple" = none) (ml : mg "len" = none) : FnOk P w K mg base CX0 (k + 1) f fd ["value", "many"] spIsTupleOf := by
  refine F.ok scIsTupleOf (fun vs H Q E h => ?_) (fun cdv A outer s H vs Q E hr h => ?_)
  · obtain ⟨v, n, rfl, _⟩ := h
    rfl
  · obtain ⟨v, n, rfl, pl, le, q⟩ := h
    refine ⟨_, pss_one (ps_ret (pe_and (pe_callB call_isi (by rfl) mis (by decide +kernel) (pa_cons (pv 0) (pa_cons (pe_bltn (v := .ty "tuple") (by rfl) mt (by decide +kernel) rfl) pa_nil)))
      (pe_one (pe_cmp (pc_eqI (pe_callB call_len_seq (by rfl) ml PySem.boot_len (pa_cons (pv 0) pa_nil)) (pv 1)) rfl)))), ?_⟩
    cases pl with
    | non => exact (⟨_, rfl, _, _, _, _, false, rfl, .ty _, .base .non, kit_ty (by decide +kernel), ⟨false, rfl, q⟩⟩)
    | bl b => exact (⟨_, rfl, _, _, _, _, false, rfl, .ty _, .base (.bl b), kit_ty (by decide +kernel), ⟨false, rfl, q⟩⟩)
    | int i => exact (⟨_, rfl, _, _, _, _, false, rfl, .ty _, .base (.int i), kit_ty (by decide +kernel), ⟨false, rfl, q⟩⟩)
    | str s => exact (⟨_, rfl, _, _, _, _, false, rfl, .ty _, .base (.str s), kit_ty (by decide +kernel), ⟨false, rfl, q⟩⟩)
    | @lst a xs e =>
      refine (⟨_, rfl, _, _, _, _, false, rfl, .ty _, .base (.lst e), kit_ty (by decide +kernel), ⟨false, rfl, ?_⟩⟩)
      have t : tupOf H (.ref a) = none := by simp [tupOf, e]
      rw [t] at q
      exact q
    | @tup a xs e =>
      have t : tupOf H (.ref a) = some xs := by simp [tupOf, e]
      refine (⟨_, rfl, _, _, _, _, true, rfl, .ty _, .base (.tup e), kit_ty (by decide +kernel), ⟨true, rfl, iteT ⟨_, rfl, a, xs, rfl, .inr (SqT.of e), _, rfl, _, _, rfl, rfl, ?_⟩⟩⟩)
      rw [t] at q
      have e2 : decide ((xs.length : Int) = (n : Int)) = decide (xs.length = n) := by
        rw [decide_eq_decide]
        omega
      show Q (.bl (decide ((xs.length : Int) = (n : Int)))) H
      rw [e2]
      exact q
end
end K14
namespace K14
open PySem PySem.Spec PyProof.Rows L2
theorem _root_.L2.Same.fresh {H H' : Hp} {p : Addr} {o : HO} (s : Same H H') (n : H p = none) : Same H (upd H' p o) := fun b x e => by
  rw [upd_ne (ne_of_none e n)]
  exact s b x e
theorem sz6' {n : Nat} (h : n ≤ 100000) : n < sizeLine := Nat.lt_of_le_of_lt h (by decide)
theorem range_snoc (f : Nat → V) (i : Nat) : (List.range (i + 1)).map f = (List.range i).map f ++ [f i] := by simp [List.range_succ]
section
variable {J : It} {n : Nat} {G : Hp → Prop} {Y : Nat → Hp → V → Hp → Prop}
/-- a comprehension that leaves all as it stood -/
theorem lc_same (w : Walk J n G Y) {g : TG} {te : TE} {vs : List Nat} {σ : L2.St} {H0 : Hp} {D : Addr} {Qd : Hp → Prop} (hn : n ≤ 100000) (f : Nat → V) (nD : H0 D = none) (hG : ∀ H, Same H0 H → G H)
    (hs : ∀ (i : Nat) (x : V) (H H' : Hp) (Z : V → Hp → Prop), (∀ H3, Same H H3 → Z (f i) H3) → i < n → Same H0 H → Y i H x H' → g x (wipe σ vs) H' fun σ2 H2 => wipe σ2 vs = wipe σ vs ∧ te σ2 H2 Z)
    (hd : ∀ H, Same H0 H → H D = some (.lst ((List.range n).map f)) → Qd H) :
    ∃ W : Nat → Nat → Hp → Prop, (∃ m, W 0 m (upd H0 D (.lst []))) ∧ ∀ i m H, W i m H →
      (J.stop i H ∧ Qd H) ∨ (J.go i H ∧ ∃ Nx : Hp → Prop, (∀ H', Nx H' → ∃ m', m' < m ∧ W (i + 1) m' H') ∧ ∀ x H', J.yld i H x H' → g x (wipe σ vs) H' fun σ2 H2 => wipe σ2 vs = wipe σ vs ∧ tYes σ2 H2 fun b H3 =>
        if b = true then te σ2 H3 fun y H4 => ∃ acc, H4 D = some (.lst acc) ∧ acc.length < sizeLine ∧ Nx (upd H4 D (.lst (acc ++ [y]))) else Nx H3) := by
  refine lc_it w (fun i H => Same H0 H ∧ H D = some (.lst ((List.range i).map f))) ⟨same_upd nD, upd_same⟩ (fun i H _ h => hG H h.1) (fun i x H H' hi h y => ?_) (fun H h => hd H h.1 h.2)
  refine hs i x H H' (fun v H3 => ∃ acc, H3 D = some (.lst acc) ∧ acc.length < sizeLine ∧ (fun H => Same H0 H ∧ H D = some (.lst ((List.range (i + 1)).map f))) (upd H3 D (.lst (acc ++ [v])))) (fun H3 z => ?_) hi h.1 y
  refine ⟨_, z _ _ h.2, ?_, (h.1.trans z).fresh nD, ?_⟩
  · rw [List.length_map, List.length_range]
    exact sz6' (by omega)
  · rw [upd_same, range_snoc]
end
end K14
namespace K14
open PySem PySem.Spec PyProof.Rows L2
def spIsName : Sp := fun vs H Q _ => ∃ s : List Nat, vs = [.str (SS s)] ∧ 1 ≤ s.length ∧ s.length ≤ 6 ∧ (∀ c ∈ s, 97 ≤ c ∧ c ≤ 122) ∧ ∀ H', Same H H' → Q (.bl true) H'
theorem scIsName : FnScope ["value", "sign"] ["value"] (defScope sIsName) := ⟨rfl, rfl, rfl, by decide +kernel, rfl, by decide +kernel, by decide +kernel⟩
theorem all_true (n : Nat) : ((List.range n).map fun _ => true).all id = true := by simp
theorem bl_true (n : Nat) : ((List.range n).map fun _ => V.bl true) = ((List.range n).map fun _ => true).map V.bl := by simp
theorem le_one {a c : Nat} (h : a ≤ c) : (!decide ([c] < [a])) = true := by
  rw [Bool.not_eq_true', decide_eq_false_iff_not]
  intro z
  rw [List.cons_lt_cons_iff] at z
  rcases z with z | ⟨_, z⟩
  · omega
  · exact absurd z (List.not_lt_nil _)
def spArePersons : Sp := fun vs H Q _ => ∃ (a : Addr) (s : List Nat) (n : Nat), vs = [.ref a, .int n] ∧ Tp H a (VI s) ∧ s.length ≤ 1000 ∧ (∀ j ∈ s, j < n) ∧ ∀ H', Same H H' → Q (.bl true) H'
theorem scArePersons : FnScope ["value", "many", "person"] ["value", "many"] (defScope sArePersons) := ⟨rfl, rfl, rfl, by decide +kernel, rfl, by decide +kernel, by decide +kernel⟩
def spAreUnlike : Sp := fun vs H Q _ => ∃ (a : Addr) (s : List Nat) (n : Nat), vs = [.ref a, .int n] ∧ Tp H a (VI s) ∧ s.length ≤ 1000 ∧ s.Nodup ∧ (∀ j ∈ s, j < n) ∧ ∀ H', Same H H' → Q (.bl true) H'
theorem scAreUnlike : FnScope ["value", "many"] ["value", "many"] (defScope sAreUnlike) := ⟨rfl, rfl, rfl, by decide +kernel, rfl, by decide +kernel, by decide +kernel⟩
theorem Tp.ty {K : PySem.W.Frag} {H : Hp} {a : Addr} {xs : List V} (t : Tp H a xs) : TyX K H (.ref a) (.type "tuple") := by
  rcases t with e | ⟨o, _, _, e⟩
  · exact .base (.tup e)
  · exact .fTuple e
theorem VI_ints (s : List Nat) : VI s = (s.map fun j => ((j : Nat) : Int)).map V.int := by simp [VI]
section
variable {P : Program} {w : World} {K : PySem.W.Frag} {mg : Str → Option Value} {base : Heap}
theorem ok_is_name {f : Addr} {fd : FuncData} {k : Nat} {t6 : Tok} (F : Fun K "is_name" "is_name" sIsName f fd) (mis : mg "isinstance" = none) (ms : mg "str" = none) (ml : mg "len" = none) (ma : mg "all" = none) (m6 : mg "MOST_LETTERS" = some (.int 6 t6)) : FnOk P w K mg base CX0 (k + 1) f fd ["value"] spIsName := by
  refine F.ok scIsName (fun vs H Q E h => ?_) (fun cdv A outer s H vs Q E hr h => ?_)
  · obtain ⟨s, rfl, _⟩ := h
    rfl
  · obtain ⟨s, rfl, l1, l6, let_, q⟩ := h
    refine ⟨_, pss_cons (ps_if (PW.pt (pw_or (pt_not (pt_val (pe_callB call_isi (by rfl) mis (by decide +kernel) (pa_cons (pv 0) (pa_cons (pe_bltn (v := .ty "str") (by rfl) ms (by decide +kernel) rfl) pa_nil)))))
        (pw_or1 (pt_not (pt_chain op_le op_le pe_int (pe_callB call_len_str (by rfl) ml PySem.boot_len (pa_cons (pv 0) pa_nil)) (pe_glob (v := .int 6) rfl m6 ⟨_, rfl⟩)))))) (pss_one ps_never) pss_nil)
      (pss_one (ps_ret (pe_callB (cr_all rfl) (by rfl) ma (by decide +kernel) (pa_cons (pe_lc (own := [("sign", 1)]) (g := gName 1) (tt := tYes) rfl scIsName.nd (pi_str (pv 0))
          (blkOk_by (own := [("sign", 1)]) (N := ["value", "sign"]) (sc := defScope sIsName) (by decide +kernel)) (fun _ _ _ _ _ => pg_name (i := 1) scIsName.nd rfl (Or.inl rfl)) (fun _ _ _ _ _ => pts_nil)
          (fun _ _ _ _ _ => pe_chain op_le_str op_le_str pe_str (pv 1) pe_str)) pa_nil)))), ?_⟩
    refine (⟨_, rfl, _, _, _, _, true, rfl, .ty _, .base (.str _), kit_ty (by decide +kernel), ⟨_, rfl, iteF ?_⟩⟩)
    refine ⟨_, rfl, _, rfl, by rw [SS_len]; exact sz5 (by omega), _, _, rfl, rfl, _, rfl, ?_⟩
    rw [SS_len]
    have c1 : decide ((1 : Int) ≤ (s.length : Nat)) = true := by simp; omega
    rw [c1]
    refine iteT ⟨_, _, rfl, rfl, ?_⟩
    have c2 : decide (((s.length : Nat) : Int) ≤ 6) = true := by simp; omega
    refine ⟨_, rfl, ?_⟩
    dsimp only
    rw [c2]
    refine iteF ⟨_, rfl, _, rfl, fun D nD => ?_⟩
    refine lc_same walk_str (by show s.length ≤ 100000; omega) (fun _ => .bl true) nD (fun _ _ => trivial) ?_ ?_
    · rintro i x H1 H2 Z out hi sm ⟨rfl, c, ec, rfl⟩
      have hc := let_ c (List.mem_of_getElem? (by simpa using ec))
      refine gn ⟨rfl, _, rfl, _, _, rfl, rfl, true, ?_, iteT ⟨_, _, rfl, rfl, ?_⟩⟩
      · exact congrArg V.bl (le_one hc.1)
      · have e : (!decide (("z" : Str).cps.toList < (⟨#[c]⟩ : Str).cps.toList)) = true := le_one hc.2
        rw [e]
        exact out _ (fun _ _ e => e)
    · intro H1 sm e1
      refine ⟨D, _, rfl, SqL.of (by rw [e1, bl_true]), ?_⟩
      rw [all_true]
      exact q _ sm
theorem ok_are_persons {f g : Addr} {fd gd : FuncData} {k : Nat} (F : Fun K "are_persons" "are_persons" sArePersons f fd) (G : FnOk P w K mg base CX0 k g gd ["value", "bound"] spIsBelow) (bG : Binds K gd ["value", "bound"] []) (kG : PySem.W.keepIn K (.ref g) = true) (mG : mg "is_below" = some (.ref g)) (mis : mg "isinstance" = none) (mt : mg "tuple" = none) (ma : mg "all" = none) : FnOk P w K mg base CX0 (k + 1) f fd ["value", "many"] spArePersons := by
  refine F.ok scArePersons (fun vs H Q E h => ?_) (fun cdv A outer s H vs Q E hr h => ?_)
  · obtain ⟨a, s, n, rfl, _⟩ := h
    rfl
  · obtain ⟨a, s, n, rfl, es, l6, lt, q⟩ := h
    refine ⟨_, pss_one (ps_ret (pe_and (pe_callB call_isi (by rfl) mis (by decide +kernel) (pa_cons (pv 0) (pa_cons (pe_bltn (v := .ty "tuple") (by rfl) mt (by decide +kernel) rfl) pa_nil)))
      (pe_one (pe_callB (cr_all rfl) (by rfl) ma (by decide +kernel) (pa_cons (pe_lc (own := [("person", 2)]) (g := gName 2) (tt := tYes) rfl scArePersons.nd (pi_tup (pv 0))
          (blkOk_by (own := [("person", 2)]) (N := ["value", "many", "person"]) (sc := defScope sArePersons) (by decide +kernel)) (fun _ _ _ _ _ => pg_name (i := 2) scArePersons.nd rfl (Or.inl rfl)) (fun _ _ _ _ _ => pts_nil)
          (fun _ _ _ _ _ => pe_call G hr rfl mG kG bG .nil pass0 (pa_cons (pv 2) (pa_cons (pv 1) pa_nil)))) pa_nil))))), ?_⟩
    refine (⟨_, rfl, _, _, _, _, true, rfl, .ty _, Tp.ty es, kit_ty (by decide +kernel), ⟨_, rfl, iteT ⟨_, rfl, a, rfl, ⟨_, es.sq⟩, fun D nD => ?_⟩⟩⟩)
    refine lc_same (walk_tup (K := K) (a := a) (xs := VI s)) (by rw [VI_len]; omega) (fun _ => .bl true) nD (fun _ sm => (es.same sm).sq) ?_ ?_
    · rintro i x H1 H2 Z out hi sm ⟨rfl, ex⟩
      obtain ⟨j, hj, rfl⟩ := List.mem_map.mp (List.mem_of_getElem? ex)
      refine gn ⟨rfl, _, rfl, _, rfl, .int j, n, rfl, .int _, ?_⟩
      have e : isBel (.int (j : Nat)) n = true := by
        have := lt j hj
        simp [isBel]
        exact this
      rw [e]
      exact out _ (fun _ _ e => e)
    · intro H1 sm e1
      refine ⟨D, _, rfl, SqL.of (by rw [e1, bl_true]), ?_⟩
      rw [all_true]
      exact q _ sm
theorem ok_are_unlike {f g : Addr} {fd gd : FuncData} {k : Nat} (F : Fun K "are_unlike_persons" "are_unlike_persons" sAreUnlike f fd) (G : FnOk P w K mg base CX0 k g gd ["value", "many"] spArePersons) (bG : Binds K gd ["value", "many"] []) (kG : PySem.W.keepIn K (.ref g) = true) (mG : mg "are_persons" = some (.ref g)) (ml : mg "len" = none) (ms : mg "set" = none) : FnOk P w K mg base CX0 (k + 1) f fd ["value", "many"] spAreUnlike := by
  refine F.ok scAreUnlike (fun vs H Q E h => ?_) (fun cdv A outer s H vs Q E hr h => ?_)
  · obtain ⟨a, s, n, rfl, _⟩ := h
    rfl
  · obtain ⟨a, s, n, rfl, es, l6, nd, lt, q⟩ := h
    refine ⟨_, pss_one (ps_ret (pe_and (pe_call G hr rfl mG kG bG .nil pass0 (pa_cons (pv 0) (pa_cons (pv 1) pa_nil)))
      (pe_one (pe_cmp (pc_eqI (pe_lenSetT (by rfl) ml (by rfl) ms (pv 0)) (pe_callB call_len_seq (by rfl) ml PySem.boot_len (pa_cons (pv 0) pa_nil))) rfl)))), ?_⟩
    refine ⟨_, rfl, _, rfl, a, s, n, rfl, es, l6, lt, fun H1 sm => ⟨true, rfl, iteT ?_⟩⟩
    refine ⟨_, rfl, a, s.map (fun j => ((j : Nat) : Int)), rfl, by rw [← VI_ints]; exact (es.same sm).sq, ?_, by simpa using l6, ?_⟩
    · exact List.pairwise_map.mpr (List.Pairwise.imp (fun ne e => ne (by omega)) nd)
    · refine ⟨_, rfl, a, VI s, rfl, .inr (es.same sm).sq, _, _, rfl, rfl, ?_⟩
      have e : decide (((s.map (fun j => ((j : Nat) : Int))).length : Int) = ((VI s).length : Nat)) = true := by
        rw [VI_len, List.length_map]
        simp
      show Q (.bl (decide (((s.map (fun j => ((j : Nat) : Int))).length : Int) = ((VI s).length : Nat)))) H1
      rw [e]
      exact q _ sm
end
end K14
namespace K14
open PySem PySem.Spec PyProof.Rows L2
def spLists : Sp := fun vs H Q _ => ∃ (h l : Addr) (many : Nat) (share : Int), vs = [.ref h, .int many, .int share] ∧ Src H h l ∧ many ≤ 100 ∧ 0 < share ∧ share < 1000 ∧
  ∀ (r : Addr) (ls : List (List Nat)) (H' : Hp), ListsOk many ls → Src H' h l → Bar h l H H' → H r = none → LX H' r ls → Q (.ref r) H'
theorem scLists : FnScope ["heap", "many", "share", "found", "one", "other", "person", "row"] ["heap", "many", "share"] (defScope sLists) := ⟨rfl, rfl, rfl, by decide +kernel, rfl, by decide +kernel, by decide +kernel⟩
def RwX (H : Hp) (as : List Addr) (ls : List (List Nat)) : Prop := as.length = ls.length ∧ ∀ (i : Nat) (a : Addr) (s : List Nat), as[i]? = some a → ls[i]? = some s → Ex H a (VI s)
theorem RwX.bar {H H' : Hp} {h l : Addr} {as : List Addr} {ls : List (List Nat)} (t : RwX H as ls) (s : Src H h l) (b : Bar h l H H') : RwX H' as ls := ⟨t.1, fun i a x e1 e2 => (t.2 i a x e1 e2).bar s b⟩
/-- what stands while the lists grow -/
structure RowsAt (H : Hp) (D : Addr) (rs : List Addr) (L : Nat → List Nat) : Prop where
  top : H D = some (.lst (rs.map V.ref))
  row : ∀ (k : Nat) (q : Addr), rs[k]? = some q → H q = some (.lst (VI (L k)))
section
variable {P : Program} {w : World} {K : PySem.W.Frag} {mg : Str → Option Value} {base : Heap}
theorem ok_lists {f g p : Addr} {fd gd pd : FuncData} {k : Nat} (F : Fun K "_law_lists" "_law_lists" sLists f fd) (G : FnOk P w K mg base CX0 k g gd ["heap", "many"] spDraw) (bG : Binds K gd ["heap", "many"] []) (kG : PySem.W.keepIn K (.ref g) = true) (mG : mg "_law_draw" = some (.ref g))
    (R : FnOk P w K mg base CX0 k p pd ["heap", "some"] spShuffled) (bR : Binds K pd ["heap", "some"] []) (kR : PySem.W.keepIn K (.ref p) = true) (mR : mg "_law_shuffled" = some (.ref p)) (mr : mg "range" = none) (mt : mg "tuple" = none) :
    FnOk P w K mg base CX0 (k + 1) f fd ["heap", "many", "share"] spLists := by
  refine F.ok scLists (fun vs H Q E h => ?_) (fun cdv A outer s H vs Q E hr h => ?_)
  · obtain ⟨h, l, many, share, rfl, _⟩ := h
    rfl
  · obtain ⟨h, l, many, share, rfl, src, m1, s0, s1, q⟩ := h
    refine ⟨_, pss_cons (ps_setLc (i := 3) (own := [("person", 6)]) (g := gName 6) (tt := tYes) rfl scLists.nd rfl rfl (sw_true rfl rfl rfl (by decide +kernel)) (pi_range1 rfl mr (pa_cons (pv 1) pa_nil))
          (blkOk_by (own := [("person", 6)]) (N := ["heap", "many", "share", "found", "one", "other", "person", "row"]) (sc := defScope sLists) (by decide +kernel)) (fun _ _ _ _ _ => pg_name (i := 6) scLists.nd rfl (Or.inl rfl)) (fun _ _ _ _ _ => pts_nil)
          (fun _ _ _ _ _ => pe_lst pa_nil))
      (pss_cons (ps_for PassesOwn.never rfl (pi_range1 rfl mr (pa_cons (pv 1) pa_nil)) (pg_name (i := 4) scLists.nd rfl (.inl rfl))
        (pss_one (ps_for PassesOwn.never rfl (pi_range2 (by rfl) mr (pa_cons (pe_op op_add (pv 4) pe_int) (pa_cons (pv 1) pa_nil))) (pg_name (i := 5) scLists.nd rfl (.inl rfl))
          (pss_one (ps_if (pt_cmpR op_gt (pe_call G hr rfl mG kG bG .nil pass0 (pa_cons (pv 0) (pa_cons (pv 2) pa_nil))) pe_int (nomark _))
            (pss_cons (ps_expr (pe_bm PySem.F.plainAttrs_list PySem.F.slot_list_append PySem.F.type_list_append mt_append (pe_ix ix_list (pv 3) (pv 4) (fun _ _ => rfl)) (pa_cons (pv 5) pa_nil)))
            (pss_one (ps_expr (pe_bm PySem.F.plainAttrs_list PySem.F.slot_list_append PySem.F.type_list_append mt_append (pe_ix ix_list (pv 3) (pv 5) (fun _ _ => rfl)) (pa_cons (pv 4) pa_nil)))))
            pss_nil)))))
      (pss_one (ps_ret (pe_callTy call_tuple_of (by rfl) mt (by decide +kernel) (pa_cons (pe_lc (own := [("row", 7)]) (g := gName 7) (tt := tYes) rfl scLists.nd (pi_list (pv 3))
          (blkOk_by (own := [("row", 7)]) (N := ["heap", "many", "share", "found", "one", "other", "person", "row"]) (sc := defScope sLists) (by decide +kernel)) (fun _ _ _ _ _ => pg_name (i := 7) scLists.nd rfl (Or.inl rfl)) (fun _ _ _ _ _ => pts_nil)
          (fun _ _ _ _ _ => pe_call R hr rfl mR kR bR .nil pass0 (pa_cons (pv 0) (pa_cons (pv 7) pa_nil)))) pa_nil))))), ?_⟩
    refine ⟨_, rfl, _, rfl, by omega, by omega, fun D nD => ?_⟩
    obtain ⟨nDh, nDl⟩ := src.new nD
    refine lc_range (lo := 0) (n := many) (fun i H' => ∃ rs : List Addr, RowsAt H' D rs (fun _ => []) ∧ rs.length = i ∧ rs.Nodup ∧ (∀ r ∈ rs, H r = none ∧ r ≠ D) ∧ Src H' h l ∧ Bar h l H H')
      ⟨[], ⟨upd_same, fun k q e => by simp at e⟩, rfl, List.nodup_nil, by simp, src.updn nD, Bar.refl.fresh nD⟩ ?_ ?_
    · rintro i H4 hi ⟨rs, ra, rl, nd, rn, sr, br⟩
      refine gn ⟨rfl, yes ?_⟩
      refine ⟨Nat.zero_le _, fun r nr => ?_⟩
      have nr0 := br.free sr nr
      obtain ⟨nrh, nrl⟩ := sr.new nr
      have nrD : r ≠ D := fun e => by rw [e, ra.top] at nr; cases nr
      have nrr : r ∉ rs := fun e => by
        obtain ⟨k, hk, ek⟩ := List.mem_iff_getElem.mp e
        have := ra.row k r (by rw [List.getElem?_eq_getElem hk, ek])
        rw [nr] at this
        cases this
      have nDr : D ≠ r := Ne.symm nrD
      refine ⟨_, by rw [upd_ne nDr]; exact ra.top, by rw [List.length_map]; exact sz6 (by omega), rs ++ [r], ⟨by rw [upd_same]; simp, ?_⟩, by simp [rl], ?_, ?_, (sr.updn nr).put nDh nDl, (br.fresh nr0).fresh nD⟩
      · intro k q ek
        rw [List.getElem?_append] at ek
        split at ek
        · rename_i hk
          have hq : q ∈ rs := List.mem_of_getElem? ek
          rw [upd_ne (rn q hq).2, upd_ne (fun z => nrr (by rw [← z]; exact hq))]
          exact ra.row k q ek
        · have : q = r := by
            rw [List.getElem?_singleton] at ek
            split at ek
            · exact (Option.some.inj ek).symm
            · cases ek
          subst this
          rw [upd_ne nrD, upd_same]
          rfl
      · rw [List.nodup_append]
        refine ⟨nd, by simp, fun x hx y hy e => ?_⟩
        rw [List.mem_singleton.mp hy] at e
        subst e
        exact nrr hx
      · intro x hx
        rcases List.mem_append.mp hx with hx | hx
        · exact rn x hx
        · rw [List.mem_singleton.mp hx]
          exact ⟨nr0, nrD⟩
    · rintro H4 ⟨rs, ra0, rl, nd, rn, sr0, br0⟩
      refine gn ?_
      dsimp only [List.set, L2.start]
      have rq : ∀ r ∈ rs, r ≠ h ∧ r ≠ l ∧ r ≠ D := fun r hr => ⟨(src.new (rn r hr).1).1, (src.new (rn r hr).1).2, (rn r hr).2⟩
      have rix : ∀ i, i < many → ∃ r, rs[i]? = some r ∧ r ∈ rs := fun i hi => ⟨rs[i]'(by omega), List.getElem?_eq_getElem (by omega), List.getElem_mem _⟩
      refine ⟨_, rfl, _, rfl, by omega, by omega, for_range (lo := 0) (n := many) (fun i σ H' => ∃ (L : Nat → List Nat) (y z : Option V), σ = [some (.ref h), some (.int many), some (.int share), some (.ref D), y, z, none, none] ∧ RowsAt H' D rs L ∧ Grow many i 0 L ∧ Src H' h l ∧ Bar h l H H')
        ⟨fun _ => [], none, none, rfl, ra0, .nil, sr0, br0⟩ ?_ ?_⟩
      · rintro i σ H5 hi ⟨L, y, z, rfl, ra, gw, sr, br⟩
        rw [Int.zero_add]
        refine gn ?_
        dsimp only [List.set]
        refine ⟨_, rfl, _, _, rfl, rfl, _, rfl, _, _, rfl, ⟨by omega, by omega, by omega, by omega⟩, ?_⟩
        have en : ((many : Int) - ((i : Int) + 1)).toNat = many - (i + 1) := by omega
        rw [en]
        refine for_range (lo := (i : Int) + 1) (n := many - (i + 1)) (fun j σ H' => ∃ (L : Nat → List Nat) (z : Option V), σ = [some (.ref h), some (.int many), some (.int share), some (.ref D), some (.int (i : Nat)), z, none, none] ∧ RowsAt H' D rs L ∧ Grow many i (i + 1 + j) L ∧ Src H' h l ∧ Bar h l H H')
          ⟨L, z, rfl, ra, gw.mono fun a b ab bm h => by omega, sr, br⟩ ?_ ?_
        · rintro j σ H6 hj ⟨L, z, rfl, ra, gw, sr, br⟩
          have ej : (i : Int) + 1 + (j : Int) = ((i + 1 + j : Nat) : Int) := by omega
          rw [ej]
          refine gn ?_
          dsimp only [List.set]
          refine ⟨_, rfl, _, rfl, h, l, _, rfl, sr, s0, by omega, fun x H7 x0 x1 sr7 br7 => ⟨_, _, rfl, rfl, _, rfl, ?_⟩⟩
          have ra7 : RowsAt H7 D rs L := ⟨br7 _ _ nDh nDl ra.top, fun k q e => br7 _ _ (rq q (List.mem_of_getElem? e)).1 (rq q (List.mem_of_getElem? e)).2.1 (ra.row k q e)⟩
          refine ite2 (fun c => ?_) (fun c => ?_)
          · obtain ⟨r1, e1, m1'⟩ := rix i hi
            obtain ⟨r2, e2, m2⟩ := rix (i + 1 + j) (by omega)
            have f1 : (rs.map V.ref)[i]? = some (V.ref r1) := by rw [List.getElem?_map, e1]; rfl
            have f2 : (rs.map V.ref)[i + 1 + j]? = some (V.ref r2) := by rw [List.getElem?_map, e2]; rfl
            have bnd : ∀ L, Grow many i (i + 1 + j) L → ∀ k, (L k).length ≤ many := fun L g k => by
              have := List.Nodup.length_le_card_of_sub (g.nd k) (fun x hx => (g.both k x hx).1)
              exact this
            refine ⟨_, rfl, _, rfl, D, _, _, _, rfl, rfl, SqL.of ra7.top, atI_nat f1, .inl ⟨rfl, _, SqL.of (ra7.row i r1 e1)⟩, _, rfl, r1, _, _, rfl, rfl, ra7.row i r1 e1, by rw [VI_len]; exact sz6 (Nat.le_trans (bnd L gw i) (by omega)), ?_⟩
            have ra8 : RowsAt (upd H7 r1 (.lst (VI (L i) ++ [V.int ((i + 1 + j : Nat) : Int)]))) D rs (putL L i (i + 1 + j)) := ⟨by rw [upd_ne (Ne.symm (rq r1 m1').2.2)]; exact ra7.top, row_put nd e1 ra7.row⟩
            have sr8 := sr7.put (o := .lst (VI (L i) ++ [V.int ((i + 1 + j : Nat) : Int)])) (rq r1 m1').1 (rq r1 m1').2.1
            have br8 := (br.trans br7).fresh (o := .lst (VI (L i) ++ [V.int ((i + 1 + j : Nat) : Int)])) (rn r1 m1').1
            generalize upd H7 r1 (.lst (VI (L i) ++ [V.int ((i + 1 + j : Nat) : Int)])) = H8 at ra8 sr8 br8
            refine ⟨_, rfl, _, rfl, D, _, _, _, rfl, rfl, SqL.of ra8.top, atI_nat f2, .inl ⟨rfl, _, SqL.of (ra8.row _ r2 e2)⟩, _, rfl, r2, _, _, rfl, rfl, ra8.row _ r2 e2, ?_, ?_⟩
            · rw [VI_len]
              refine sz6 (Nat.le_trans (m := many + 1) ?_ (by omega))
              unfold putL
              split
              · rw [List.length_append]
                have := bnd L gw i
                simp
                exact this
              · have := bnd L gw (i + 1 + j)
                omega
            · refine ⟨putL (putL L i (i + 1 + j)) (i + 1 + j) i, _, rfl, ⟨by rw [upd_ne (Ne.symm (rq r2 m2).2.2)]; exact ra8.top, row_put nd e2 ra8.row⟩, gw.put (by omega) (by omega), sr8.put (rq r2 m2).1 (rq r2 m2).2.1, br8.fresh (rn r2 m2).1⟩
          · exact ⟨L, _, rfl, ra7, gw.mono fun a b ab bm h => by omega, sr7, br.trans br7⟩
        · rintro σ H6 ⟨L, z, rfl, ra, gw, sr, br⟩
          exact ⟨L, _, z, rfl, ra, gw.mono fun a b ab bm h => by omega, sr, br⟩
      · rintro σ H5 ⟨L, y, z, rfl, ra, gw, sr, br⟩
        refine ⟨_, rfl, D, rfl, ⟨_, SqL.of ra.top⟩, fun C nC => ?_⟩
        have nC0 := br.free sr nC
        obtain ⟨nCh, nCl⟩ := sr.new nC
        have nDC : D ≠ C := ne_of_none ra.top nC
        have rC : ∀ r ∈ rs, r ≠ C := fun r hr e => by
          obtain ⟨k, hk, ek⟩ := List.mem_iff_getElem.mp hr
          have := ra.row k r (by rw [List.getElem?_eq_getElem hk, ek])
          rw [e, nC] at this
          cases this
        refine lc_list (K := K) (a := D) (xs := rs.map V.ref) (fun i H' => ∃ (ts : List Addr) (ls : List (List Nat)), H' C = some (.lst (ts.map V.ref)) ∧ ls.length = i ∧ RwX H' ts ls ∧ (∀ (j : Nat) (s : List Nat), ls[j]? = some s → s.Perm (L j)) ∧ RowsAt H' D rs L ∧ Src H' h l ∧ Bar h l H H')
          ⟨[], [], upd_same, rfl, ⟨rfl, fun _ _ _ e => by simp at e⟩, fun _ _ e => (by simp at e), ⟨by rw [upd_ne nDC]; exact ra.top, fun k q e => by rw [upd_ne (rC q (List.mem_of_getElem? e))]; exact ra.row k q e⟩, sr.updn nC, br.fresh nC0⟩ (fun i H' _ ⟨_, _, _, _, _, _, r, _⟩ => SqL.of r.top) ?_ ?_
        · rintro i x H6 hx ⟨ts, ls, eC, ll, rw6, pm, ra6, sr6, br6⟩
          obtain ⟨r, er, rfl⟩ : ∃ r, rs[i]? = some r ∧ x = V.ref r := by
            rw [List.getElem?_map] at hx
            cases e : rs[i]? with
            | none => rw [e] at hx; cases hx
            | some r => rw [e] at hx; exact ⟨r, rfl, (Option.some.inj hx).symm⟩
          have hr' := List.mem_of_getElem? er
          have hi : i < many := by have := (List.getElem?_eq_some_iff.mp er).1; omega
          refine gn ⟨rfl, yes ?_⟩
          refine ⟨_, rfl, _, rfl, h, l, r, VI (L i), rfl, sr6, (.inl (ra6.row i r er)), (rq r hr').1, (rq r hr').2.1, ?_, fun t ys H7 py sr7 br7 nt et => ?_⟩
          · rw [VI_len]
            exact Nat.le_trans (List.Nodup.length_le_card_of_sub (gw.nd i) fun x hx => (gw.both i x hx).1) (by omega)
          · obtain ⟨s, rfl, ps⟩ := perm_VI py
            have eC7 := br7 _ _ nCh nCl eC
            have ra7 : RowsAt H7 D rs L := ⟨br7 _ _ nDh nDl ra6.top, fun k q e => br7 _ _ (rq q (List.mem_of_getElem? e)).1 (rq q (List.mem_of_getElem? e)).2.1 (ra6.row k q e)⟩
            have tl : ts.length = i := by rw [rw6.1, ll]
            have nCt : t ≠ C := et.ne_lst eC7
            refine ⟨_, eC7, by rw [List.length_map, tl]; exact sz6 (by omega), ts ++ [t], ls ++ [s], by rw [upd_same]; simp, by simp [ll], ⟨by simp [rw6.1], ?_⟩, ?_, ⟨by rw [upd_ne nDC]; exact ra7.top, fun k q e => by rw [upd_ne (rC q (List.mem_of_getElem? e))]; exact ra7.row k q e⟩, sr7.put nCh nCl, (br6.trans br7).fresh nC0⟩
            · intro j a s' ea es
              have old := (RwX.bar rw6 sr6 br7).2
              by_cases c : j < ts.length
              · rw [List.getElem?_append_left c] at ea
                rw [List.getElem?_append_left (by rw [← rw6.1]; exact c)] at es
                have e7 := old j a s' ea es
                exact e7.put (e7.ne_lst eC7)
              · rw [List.getElem?_append_right (by omega), List.getElem?_singleton] at ea
                rw [List.getElem?_append_right (by rw [← rw6.1]; omega), List.getElem?_singleton] at es
                split at ea
                · split at es
                  · cases ea
                    cases es
                    exact et.put nCt
                  · cases es
                · cases ea
            · intro j s' es
              by_cases c : j < ls.length
              · rw [List.getElem?_append_left c] at es
                exact pm j s' es
              · rw [List.getElem?_append_right (by omega), List.getElem?_singleton] at es
                split at es
                · cases es
                  have : j = i := by omega
                  subst this
                  exact ps
                · cases es
        · rintro H6 ⟨ts, ls, eC, ll, rw6, pm, ra6, sr6, br6⟩
          rw [List.length_map, rl] at ll
          refine ⟨C, _, rfl, .inl ⟨SqL.of eC, fun r nr => ?_⟩⟩
          exact q r ls _ (gw.ok ll pm) (sr6.updn nr) (br6.fresh (br6.free sr6 nr)) (br6.free sr6 nr) ⟨ts, upd_same, rw6.1, fun i a s e1 e2 => (rw6.2 i a s e1 e2).same (same_upd nr)⟩
end
end K14
namespace K14
open PySem PySem.Spec PyProof.Rows L2
/-! ### ranks -/
def rkV (s : List Nat) (j : Nat) : V := if j ∈ s then .int (s.idxOf j : Nat) else .non
def VR (n : Nat) (s : List Nat) : List V := (List.range n).map (rkV s)
theorem VR_len (n : Nat) (s : List Nat) : (VR n s).length = n := by simp [VR]
theorem VR_get {n : Nat} {s : List Nat} {j : Nat} (h : j < n) : (VR n s)[j]? = some (rkV s j) := by simp [VR, h]
def RT (H : Hp) (r : Addr) (ls : List (List Nat)) : Prop := ∃ as : List Addr, H r = some (.tup (as.map V.ref)) ∧ as.length = ls.length ∧ ∀ (i : Nat) (a : Addr) (s : List Nat), as[i]? = some a → ls[i]? = some s → H a = some (.tup (VR ls.length s))
theorem RT.same {H H' : Hp} {r : Addr} {ls : List (List Nat)} (t : RT H r ls) (b : Same H H') : RT H' r ls := by
  obtain ⟨as, e, l, q⟩ := t
  exact ⟨as, b _ _ e, l, fun i a x e1 e2 => b _ _ (q i a x e1 e2)⟩
theorem LT.at {H : Hp} {r : Addr} {ls : List (List Nat)} (t : LT H r ls) {i : Nat} {s : List Nat} (e : ls[i]? = some s) : ∃ xs a, H r = some (.tup xs) ∧ xs[i]? = some (.ref a) ∧ Tp H a (VI s) := by
  obtain ⟨as, e1, l, q⟩ := t
  have hi := (List.getElem?_eq_some_iff.mp e).1
  have ha : i < as.length := by omega
  exact ⟨_, as[i], e1, by rw [List.getElem?_map, List.getElem?_eq_getElem ha]; rfl, q i _ s (List.getElem?_eq_getElem ha) e⟩
theorem LT.len {H : Hp} {r : Addr} {ls : List (List Nat)} (t : LT H r ls) : ∃ xs, H r = some (.tup xs) ∧ xs.length = ls.length := by
  obtain ⟨as, e1, l, q⟩ := t
  exact ⟨_, e1, by rw [List.length_map, l]⟩
theorem RT.at {H : Hp} {r : Addr} {ls : List (List Nat)} (t : RT H r ls) {i : Nat} {s : List Nat} (e : ls[i]? = some s) : ∃ xs a, H r = some (.tup xs) ∧ xs[i]? = some (.ref a) ∧ H a = some (.tup (VR ls.length s)) := by
  obtain ⟨as, e1, l, q⟩ := t
  have hi := (List.getElem?_eq_some_iff.mp e).1
  have ha : i < as.length := by omega
  exact ⟨_, as[i], e1, by rw [List.getElem?_map, List.getElem?_eq_getElem ha]; rfl, q i _ s (List.getElem?_eq_getElem ha) e⟩
theorem inV_VI (p : Nat) (s : List Nat) : inV (.int (p : Nat)) (VI s) = decide (p ∈ s) := by
  unfold inV VI
  rw [List.any_map, Bool.eq_iff_iff, List.any_eq_true, decide_eq_true_eq]
  constructor
  · rintro ⟨y, hy, e⟩
    have : ((y : Nat) : Int) = (p : Nat) := eq_of_beq e
    have : y = p := by omega
    rwa [← this]
  · intro h
    exact ⟨p, h, beq_self_eq_true ((p : Nat) : Int)⟩
theorem flat_VI (s : List Nat) : (VI s).all flatV = true := by
  unfold VI
  rw [List.all_map, List.all_eq_true]
  intro x _
  rfl
theorem rkV_take {s : List Nat} (nd : s.Nodup) {i x : Nat} (e : s[i]? = some x) (j : Nat) : rkV (s.take (i + 1)) j = if j = x then .int (i : Nat) else rkV (s.take i) j := by
  have hi := (List.getElem?_eq_some_iff.mp e).1
  have e1 : s.take (i + 1) = s.take i ++ [x] := by
    rw [List.take_succ, e]
    rfl
  have nx : x ∉ s.take i := by
    intro h
    obtain ⟨k, hk, ek⟩ := List.mem_iff_getElem.mp h
    rw [List.getElem_take] at ek
    rw [List.length_take] at hk
    have := nodup_ix nd (show s[k]? = some x by rw [List.getElem?_eq_getElem (by omega), ek]) e
    omega
  unfold rkV
  rw [e1]
  by_cases c : j = x
  · subst c
    rw [if_pos (by simp), if_pos rfl, List.idxOf_append, if_neg nx]
    simp
    omega
  · rw [if_neg c]
    by_cases d : j ∈ s.take i
    · rw [if_pos (by simp [d]), if_pos d, List.idxOf_append, if_pos d]
    · rw [if_neg (by simp [d, c]), if_neg d]
def spRanksOfList : Sp := fun vs H Q _ => ∃ (a : Addr) (s : List Nat) (n : Nat), vs = [.ref a, .int n] ∧ Tp H a (VI s) ∧ n ≤ 100 ∧ s.Nodup ∧ (∀ j ∈ s, j < n) ∧ ∀ (r : Addr) (H' : Hp), Same H H' → H r = none → H' r = some (.tup (VR n s)) → Q (.ref r) H'
theorem scRanksOfList : FnScope ["some", "many", "ranks", "rank", "other"] ["some", "many"] (defScope sRanksOfList) := ⟨rfl, rfl, rfl, by decide +kernel, rfl, by decide +kernel, by decide +kernel⟩
def spRanksOfLists : Sp := fun vs H Q _ => ∃ (a : Addr) (ls : List (List Nat)), vs = [.ref a] ∧ LT H a ls ∧ ls.length ≤ 100 ∧ ListsOk ls.length ls ∧ ∀ (r : Addr) (H' : Hp), Same H H' → H r = none → RT H' r ls → Q (.ref r) H'
theorem scRanksOfLists : FnScope ["lists", "some"] ["lists"] (defScope sRanksOfLists) := ⟨rfl, rfl, rfl, by decide +kernel, rfl, by decide +kernel, by decide +kernel⟩
theorem ixN_nat {m j : Nat} (h : j < m) : ixN m (j : Nat) = some j := by
  unfold ixN
  rw [if_pos (by omega), if_pos (by omega)]
  rfl
theorem map_set_at (f g : Nat → V) (n x : Nat) (v : V) (hx : x < n) (h : ∀ j, g j = if j = x then v else f j) : ((List.range n).map f).set x v = (List.range n).map g := by
  apply List.ext_getElem?
  intro j
  rw [List.getElem?_set]
  by_cases c : x = j
  · subst c
    rw [if_pos rfl, if_pos (by simpa using hx), List.getElem?_map, List.getElem?_range hx]
    show some v = some (g x)
    rw [h x, if_pos rfl]
  · rw [if_neg c, List.getElem?_map, List.getElem?_map]
    by_cases d : j < n
    · rw [List.getElem?_range d]
      show some (f j) = some (g j)
      rw [h j, if_neg (fun z => c z.symm)]
    · rw [List.getElem?_eq_none (by simpa using d)]
      rfl
theorem rep_flat (n : Nat) (v : V) : (List.replicate n [v]).flatten = List.replicate n v := by
  induction n with
  | zero => rfl
  | succ m ih => rw [List.replicate_succ, List.flatten_cons, ih]; rfl
theorem same_rfl {H : Hp} : Same H H := fun _ _ e => e
theorem VI_at {s : List Nat} {i : Nat} {x : V} (e : (VI s)[i]? = some x) : ∃ j, s[i]? = some j ∧ x = V.int (j : Nat) := by
  unfold VI at e
  rw [List.getElem?_map] at e
  cases h : s[i]? with
  | none => rw [h] at e; cases e
  | some j => rw [h] at e; exact ⟨j, rfl, (Option.some.inj e).symm⟩
abbrev rLenS (K : PySem.W.Frag) : List V → Hp → VK → Prop := fun xs H Q => ∃ p ys, xs = [V.ref p] ∧ (SqL K H p ys ∨ SqT K H p ys) ∧ Q (.int (ys.length : Nat)) H
section
variable {P : Program} {w : World} {K : PySem.W.Frag} {mg : Str → Option Value} {base : Heap}
theorem ok_ranks_of_list {f : Addr} {fd : FuncData} {k : Nat} (F : Fun K "_ranks_of_list" "_ranks_of_list" sRanksOfList f fd) (me : mg "enumerate" = none) (mt : mg "tuple" = none) : FnOk P w K mg base CX0 (k + 1) f fd ["some", "many"] spRanksOfList := by
  refine F.ok scRanksOfList (fun vs H Q E h => ?_) (fun cdv A outer s H vs Q E hr h => ?_)
  · obtain ⟨a, s, n, rfl, _⟩ := h
    rfl
  · obtain ⟨a, s, n, rfl, es, hn, nd, lt, q⟩ := h
    refine ⟨_, pss_cons (ps_set (i := 2) scRanksOfList.nd rfl (.inl rfl) (pe_op op_rep (pe_lst (pa_cons pe_non pa_nil)) (pv 1)))
      (pss_cons (ps_for PassesOwn.never rfl (pi_enumT (by rfl) me (pa_cons (pv 0) pa_nil)) (pg_tup rfl (pgs_cons (pg_name (i := 3) scRanksOfList.nd rfl (.inl rfl)) (pgs_cons (pg_name (i := 4) scRanksOfList.nd rfl (.inl rfl)) pgs_nil)))
        (pss_one (ps_asg (pv 3) (pg_sub (pv 2) (pv 4) set_list))))
      (pss_one (ps_ret (pe_callTy call_tuple_of (by rfl) mt (by decide +kernel) (pa_cons (pv 2) pa_nil))))), ?_⟩
    refine ⟨(by show 1 ≤ sizeLine; decide), fun u nu => ⟨_, rfl, u, n, [.non], rfl, rfl, upd_same, by omega, by omega, ?_, fun p np => ?_⟩⟩
    · show 1 * n ≤ sizeLine
      exact sz5 (by omega)
    have np0 : H p = none := by
      have nup : u ≠ p := ne_of_none upd_same np
      rw [upd_ne (Ne.symm nup)] at np
      exact np
    have e0 : (List.replicate (n : Int).toNat [V.non]).flatten = (List.range n).map (rkV (s.take 0)) := by
      show (List.replicate n [V.non]).flatten = _
      rw [rep_flat]
      symm
      refine List.eq_replicate_iff.mpr ⟨by simp, fun b hb => ?_⟩
      obtain ⟨j, _, rfl⟩ := List.mem_map.mp hb
      unfold rkV
      rw [List.take_zero, if_neg (by simp)]
    rw [e0]
    have s1 : Same H (upd (upd H u (.lst [.non])) p (.lst ((List.range n).map (rkV (s.take 0))))) := (same_rfl.fresh nu).fresh np0
    refine ⟨_, rfl, a, VI s, rfl, (es.same s1).sq, ?_⟩
    refine for_it (walk_enumT (K := K) (a := a) (xs := VI s)) (fun i σ H' => ∃ y z : Option V, σ = [some (.ref a), some (.int n), some (.ref p), y, z] ∧ Same H H' ∧ H' p = some (.lst ((List.range n).map (rkV (s.take i)))))
      ⟨none, none, rfl, s1, upd_same⟩ (fun i σ H' _ ⟨_, _, _, sm, _⟩ => (es.same sm).sq) ?_ ?_
    · rintro i x σ H1 H2 hi ⟨y, z, rfl, sm, ep⟩ ⟨T, x0, x1, rfl, nT, rfl, e1, e2⟩
      cases e1
      obtain ⟨j, hj, rfl⟩ := VI_at e2
      have npT : p ≠ T := ne_of_none ep nT
      refine ⟨T, _, rfl, SqT.of upd_same, rfl, _, _, rfl, gn ⟨_, _, rfl, gn ⟨rfl, ?_⟩⟩⟩
      dsimp only [List.set]
      have hjn := lt j (List.mem_of_getElem? hj)
      refine ⟨_, rfl, _, rfl, _, rfl, p, _, (j : Int), j, rfl, rfl, by rw [upd_ne npT]; exact ep, by rw [List.length_map, List.length_range]; exact ixN_nat hjn, ?_⟩
      refine ⟨_, _, rfl, (sm.fresh (sm.free nT)).fresh np0, ?_⟩
      rw [upd_same, map_set_at _ (rkV (s.take (i + 1))) n j _ hjn (rkV_take nd hj)]
    · rintro σ H1 ⟨y, z, rfl, sm, ep⟩
      refine ⟨_, rfl, p, _, rfl, .inl ⟨SqL.of ep, fun r nr => q r _ (sm.fresh (sm.free nr)) (sm.free nr) ?_⟩⟩
      rw [upd_same, VI_len, List.take_length]
      rfl
theorem ok_ranks_of_lists {f g : Addr} {fd gd : FuncData} {k : Nat} (F : Fun K "_ranks_of_lists" "_ranks_of_lists" sRanksOfLists f fd) (G : FnOk P w K mg base CX0 k g gd ["some", "many"] spRanksOfList) (bG : Binds K gd ["some", "many"] []) (kG : PySem.W.keepIn K (.ref g) = true) (mG : mg "_ranks_of_list" = some (.ref g)) (ml : mg "len" = none) (mt : mg "tuple" = none) : FnOk P w K mg base CX0 (k + 1) f fd ["lists"] spRanksOfLists := by
  refine F.ok scRanksOfLists (fun vs H Q E h => ?_) (fun cdv A outer s H vs Q E hr h => ?_)
  · obtain ⟨a, ls, rfl, _⟩ := h
    rfl
  · obtain ⟨a, ls, rfl, lt, hn, ok, q⟩ := h
    refine ⟨_, pss_one (ps_ret (pe_callTy call_tuple_of (by rfl) mt (by decide +kernel) (pa_cons (pe_lc (own := [("some", 1)]) (g := gName 1) (tt := tYes) (te := tCall spRanksOfList [] E0 (tCons (tVar 1) (tCons (tCB (rLenS K) (tCons (tVar 0) tNil)) tNil))) rfl scRanksOfLists.nd (pi_tup (pv 0))
          (blkOk_by (own := [("some", 1)]) (N := ["lists", "some"]) (sc := defScope sRanksOfLists) (by decide +kernel)) (fun _ _ _ _ _ => pg_name (i := 1) scRanksOfLists.nd rfl (Or.inl rfl)) (fun _ _ _ _ _ => pts_nil)
          (fun _ _ _ _ _ => pe_call G hr rfl mG kG bG .nil pass0 (pa_cons (pv 1) (pa_cons (pe_callB call_len_seq (by rfl) ml PySem.boot_len (pa_cons (pv 0) pa_nil)) pa_nil)))) pa_nil))), ?_⟩
    obtain ⟨as, ea, al, rows⟩ := lt
    refine ⟨_, rfl, a, rfl, ⟨_, SqT.of ea⟩, fun D nD => ?_⟩
    refine lc_it (walk_tup (K := K) (a := a) (xs := as.map V.ref)) (fun i H' => ∃ rs : List Addr, H' D = some (.lst (rs.map V.ref)) ∧ rs.length = i ∧ Same H H' ∧ ∀ (j : Nat) (r : Addr) (s : List Nat), rs[j]? = some r → ls[j]? = some s → H' r = some (.tup (VR ls.length s)))
      ⟨[], upd_same, rfl, same_upd nD, fun _ _ _ e => by simp at e⟩ (fun i H' _ ⟨_, _, _, sm, _⟩ => SqT.of (sm _ _ ea)) ?_ ?_
    · rintro i x H1 H2 hi ⟨rs, eD, rl, sm, old⟩ ⟨rfl, ex⟩
      rw [List.length_map] at hi
      have hx : (as.map V.ref)[i]? = some (V.ref as[i]) := by rw [List.getElem?_map, List.getElem?_eq_getElem hi]; rfl
      rw [hx] at ex
      cases ex
      have hl : i < ls.length := by omega
      have el : (as.map V.ref).length = ls.length := by rw [List.length_map, al]
      have er := rows i as[i] ls[i] (List.getElem?_eq_getElem hi) (List.getElem?_eq_getElem hl)
      refine gn ⟨rfl, yes ⟨_, rfl, _, rfl, a, _, rfl, .inr (SqT.of (sm _ _ ea)), as[i], ls[i], ls.length, (by rw [el]; rfl), er.same sm, hn, ok.nd i _ (List.getElem?_eq_getElem hl), fun j hj => (ok.both i _ j (List.getElem?_eq_getElem hl) hj).1, fun r H3 sm3 nr er3 => ?_⟩⟩
      have nDr : D ≠ r := ne_of_none eD nr
      refine ⟨_, sm3 _ _ eD, by rw [List.length_map]; exact sz6 (by omega), rs ++ [r], by rw [upd_same]; simp, by simp [rl], (sm.trans sm3).fresh nD, ?_⟩
      intro j r' s' e1 e2
      by_cases c : j < rs.length
      · rw [List.getElem?_append_left c] at e1
        have e7 := sm3 _ _ (old j r' s' e1 e2)
        have nd' : D ≠ r' := fun z => by
          rw [← z, sm3 _ _ eD] at e7
          cases e7
        rw [upd_ne (Ne.symm nd')]
        exact e7
      · rw [List.getElem?_append_right (by omega), List.getElem?_singleton] at e1
        split at e1
        · cases e1
          have : j = i := by omega
          subst this
          rw [List.getElem?_eq_getElem hl] at e2
          cases e2
          rw [upd_ne (Ne.symm nDr)]
          exact er3
        · cases e1
    · rintro H1 ⟨rs, eD, rl, sm, old⟩
      rw [List.length_map] at rl
      refine ⟨D, _, rfl, .inl ⟨SqL.of eD, fun r nr => q r _ (sm.fresh (sm.free nr)) (sm.free nr) ⟨rs, upd_same, by omega, fun j r' s' e1 e2 => ofN nr (old j r' s' e1 e2)⟩⟩⟩
end
end K14
/-! t.index(n) of a tuple of whole numbers -/
namespace K14
open PySem PySem.Spec PyProof.Rows L2
theorem idx_none {s : List Nat} {j m : Nat} (h : m < s.idxOf j) : s[m]? ≠ some j := by
  intro e
  have hm := (List.getElem?_eq_some_iff.mp e)
  obtain ⟨hl, he⟩ := hm
  have := List.not_of_lt_findIdx (p := (· == j)) (xs := s) h
  simp [he] at this
section
variable {X : Cx}
theorem mt_tupIdx : MtR X "tuple.index" (fun x xs H Q => ∃ (p : Addr) (s : List Nat) (j : Nat), x = .ref p ∧ xs = [.int (j : Nat)] ∧ SqT X.K H p (VI s) ∧ j ∈ s ∧ Q (.int (s.idxOf j : Nat)) H) := by
  intro pins st σ H x xs v us Q I rx rs h
  obtain ⟨p, s, j, rfl, rfl, hq, hm, q⟩ := h
  cases rx
  obtain ⟨u, rfl, t, rfl⟩ := vals1 rs
  obtain ⟨its, r, pl, _⟩ := I.tuple hq
  obtain ⟨⟨cls, dd, dt, sl⟩, ho, hc, n, hd⟩ := pl
  simp only at hc hd
  subst hc hd
  have ln : its.toArray.size = s.length := by rw [List.size_toArray, ← r.length, VI_len]
  have hj : s.idxOf j < its.toArray.size := by rw [ln]; exact List.idxOf_lt_length_of_mem hm
  have item : ∀ (m : Nat) (hm : m < its.toArray.size), ∃ y t', s[m]? = some y ∧ its.toArray[m] = Value.int (y : Nat) t' := fun m hlt => by
    have h2 : m < s.length := by omega
    obtain ⟨a, ea, t', et⟩ := r.get (i := m) (x := .int (s[m] : Nat)) (VI_get (List.getElem?_eq_getElem h2))
    refine ⟨s[m], t', List.getElem?_eq_getElem h2, ?_⟩
    have e3 := (List.getElem?_eq_some_iff.mp ea).2
    rw [← et, ← e3]
    simp
  refine call_meets PySem.F.slot_tuple_index ⟨_, ho, rfl⟩ PySem.F.entry_tuple_index (PySem.F.args_tuple_index_2 _ _) (TI.tuple_indexAt p its.toArray n dd sl (.int (j : Nat) t) (eqU (.int (j : Nat))) (s.idxOf j) hj ?_ ?_) ⟨ho, fun a ha => mem_eqAt (x := .int (j : Nat)) ⟨t, rfl⟩ rfl r (flat_VI s) a (by simpa using ha), ⟨.int (s.idxOf j : Nat), H, I.tok _, ⟨_, rfl⟩, q⟩⟩
  · obtain ⟨y, t', h1, h2⟩ := item _ hj
    have e : s[s.idxOf j]? = some j := by rw [List.getElem?_eq_getElem (List.idxOf_lt_length_of_mem hm), List.getElem_idxOf]
    rw [e] at h1
    cases h1
    rw [h2]
    exact beq_self_eq_true ((j : Nat) : Int)
  · intro m hlt hmj
    obtain ⟨y, t', h1, h2⟩ := item m hlt
    rw [h2]
    refine beq_eq_false_iff_ne.mpr fun e => idx_none hmj ?_
    rw [h1]
    congr 1
    have : ((y : Nat) : Int) = (j : Nat) := e
    omega
end
end K14
namespace K14
open PySem PySem.Spec PyProof.Rows L2
def spAreNames : Sp := fun vs H Q _ => ∃ (a : Addr) (ns : List (List Nat)) (n : Nat), vs = [.ref a] ∧ H a = some (.tup (VN ns)) ∧ NamesOk n ns ∧ 1 ≤ n ∧ n ≤ 60 ∧ ∀ H', Same H H' → Q (.bl true) H'
theorem scAreNames : FnScope ["value", "name", "at"] ["value"] (defScope sAreNames) := ⟨rfl, rfl, rfl, by decide +kernel, rfl, by decide +kernel, by decide +kernel⟩
def spCheckLists : Sp := fun vs H Q _ => ∃ (a : Addr) (ls : List (List Nat)), vs = [.ref a] ∧ LT H a ls ∧ ls.length ≤ 100 ∧ ListsOk ls.length ls ∧ ∀ H', Same H H' → Q .non H'
theorem scCheckLists : FnScope ["lists", "person", "some"] ["lists"] (defScope sCheckLists) := ⟨rfl, rfl, rfl, by decide +kernel, rfl, by decide +kernel, by decide +kernel⟩
def spCheckBoth : Sp := fun vs H Q _ => ∃ (a r : Addr) (ls : List (List Nat)), vs = [.ref a, .ref r] ∧ LT H a ls ∧ RT H r ls ∧ ls.length ≤ 100 ∧ ListsOk ls.length ls ∧ ∀ H', Same H H' → Q .non H'
theorem scCheckBoth : FnScope ["lists", "ranks", "person", "some", "other"] ["lists", "ranks"] (defScope sCheckBoth) := ⟨rfl, rfl, rfl, by decide +kernel, rfl, by decide +kernel, by decide +kernel⟩
theorem VN_len (ns : List (List Nat)) : (VN ns).length = ns.length := by simp [VN]
theorem VN_at {ns : List (List Nat)} {i : Nat} {x : V} (e : (VN ns)[i]? = some x) : ∃ s, ns[i]? = some s ∧ x = V.str (SS s) := by
  unfold VN at e
  rw [List.getElem?_map] at e
  cases h : ns[i]? with
  | none => rw [h] at e; cases e
  | some j => rw [h] at e; exact ⟨j, rfl, (Option.some.inj e).symm⟩
theorem VN_get {ns : List (List Nat)} {i : Nat} {s : List Nat} (e : ns[i]? = some s) : (VN ns)[i]? = some (V.str (SS s)) := by
  unfold VN
  rw [List.getElem?_map, e]
  rfl
theorem LT.row {H : Hp} {a : Addr} {ls : List (List Nat)} {xs : List V} {i : Nat} {x : V} (t : LT H a ls) (e : H a = some (.tup xs)) (ex : xs[i]? = some x) : ∃ q s, x = .ref q ∧ ls[i]? = some s ∧ Tp H q (VI s) := by
  obtain ⟨as, e1, l, q⟩ := t
  rw [e1] at e
  cases e
  rw [List.getElem?_map] at ex
  cases h : as[i]? with
  | none => rw [h] at ex; cases ex
  | some b =>
    rw [h] at ex
    have hi := (List.getElem?_eq_some_iff.mp h).1
    have hl : i < ls.length := by omega
    exact ⟨b, ls[i], (Option.some.inj ex).symm, List.getElem?_eq_getElem hl, q i b _ h (List.getElem?_eq_getElem hl)⟩
theorem ListsOk.each {n : Nat} {ls : List (List Nat)} (ok : ListsOk n ls) {i : Nat} {s : List Nat} (e : ls[i]? = some s) : s.length ≤ n := List.Nodup.length_le_card_of_sub (ok.nd i s e) fun x hx => (ok.both i s x e hx).1
theorem walk_range0 {n : Nat} : Walk (Itr 0 n) n (fun _ => True) (YFn fun i => .int (i : Nat)) :=
  walk_range.mono (fun _ h => h) fun i H x H' _ _ y => ⟨y.1, y.2.trans (congrArg V.int (Int.zero_add _))⟩
section
variable {P : Program} {w : World} {K : PySem.W.Frag} {mg : Str → Option Value} {base : Heap}
theorem ok_are_names {f g : Addr} {fd gd : FuncData} {k : Nat} {t6 : Tok} (F : Fun K "_are_names" "_are_names" sAreNames f fd) (G : FnOk P w K mg base CX0 k g gd ["value"] spIsName) (bG : Binds K gd ["value"] []) (kG : PySem.W.keepIn K (.ref g) = true) (mG : mg "is_name" = some (.ref g)) (mis : mg "isinstance" = none) (mt : mg "tuple" = none) (ml : mg "len" = none) (ma : mg "all" = none) (mr : mg "range" = none) (m6 : mg "MOST_PERSONS" = some (.int 60 t6)) : FnOk P w K mg base CX0 (k + 1) f fd ["value"] spAreNames := by
  refine F.ok scAreNames (fun vs H Q E h => ?_) (fun cdv A outer s H vs Q E hr h => ?_)
  · obtain ⟨a, ns, n, rfl, _⟩ := h
    rfl
  · obtain ⟨a, ns, n, rfl, ea, ok, n1, n60, q⟩ := h
    refine ⟨_, pss_cons (ps_if (PW.pt (pw_or (pt_not (pt_val (pe_callB call_isi (by rfl) mis (by decide +kernel) (pa_cons (pv 0) (pa_cons (pe_bltn (v := .ty "tuple") (by rfl) mt (by decide +kernel) rfl) pa_nil)))))
        (pw_or1 (pt_not (pt_chain op_le op_le pe_int (pe_callB call_len_seq (by rfl) ml PySem.boot_len (pa_cons (pv 0) pa_nil)) (pe_glob (v := .int 60) rfl m6 ⟨_, rfl⟩)))))) (pss_one ps_never) pss_nil)
      (pss_cons (ps_if (pt_not (pt_val (pe_callB (cr_all rfl) (by rfl) ma (by decide +kernel) (pa_cons (pe_lc (own := [("name", 1)]) (g := gName 1) (tt := tYes) rfl scAreNames.nd (pi_tup (pv 0))
          (blkOk_by (own := [("name", 1)]) (N := ["value", "name", "at"]) (sc := defScope sAreNames) (by decide +kernel)) (fun _ _ _ _ _ => pg_name (i := 1) scAreNames.nd rfl (Or.inl rfl)) (fun _ _ _ _ _ => pts_nil)
          (fun _ _ _ _ _ => pe_call G hr rfl mG kG bG .nil pass0 (pa_cons (pv 1) pa_nil))) pa_nil)))) (pss_one ps_never) pss_nil)
      (pss_one (ps_ret (pe_callB (cr_all rfl) (by rfl) ma (by decide +kernel) (pa_cons (pe_lc (own := [("at", 2)]) (g := gName 2) (tt := tYes) (te := tOp (fun x y H Q => ∃ i j, x = V.str i ∧ y = V.str j ∧ Q (V.bl (decide (i.cps.toList < j.cps.toList))) H) (tOp (rIxT K) (tVar 0) (tVar 2)) (tOp (rIxT K) (tVar 0) (tOp (rI0 fun i j => V.int (i + j)) (tVar 2) (tC (.int 1))))) rfl scAreNames.nd (pi_range1 rfl mr (pa_cons (pe_op op_sub (pe_callB call_len_seq (by rfl) ml PySem.boot_len (pa_cons (pv 0) pa_nil)) pe_int) pa_nil))
          (blkOk_by (own := [("at", 2)]) (N := ["value", "name", "at"]) (sc := defScope sAreNames) (by decide +kernel)) (fun _ _ _ _ _ => pg_name (i := 2) scAreNames.nd rfl (Or.inl rfl)) (fun _ _ _ _ _ => pts_nil)
          (fun _ _ _ _ _ => pe_cmpR op_lt_str (pe_ix ix_tup (pv 0) (pv 2) (fun _ _ => rfl)) (pe_ix ix_tup (pv 0) (pe_op op_add (pv 2) pe_int) (fun _ _ => rfl)) (nomark _))) pa_nil))))), ?_⟩
    have ln : (VN ns).length = n := by rw [VN_len, ok.len]
    refine (⟨_, rfl, _, _, _, _, true, rfl, .ty _, .base (.tup ea), kit_ty (by decide +kernel), ⟨_, rfl, iteF ?_⟩⟩)
    refine ⟨_, rfl, a, _, rfl, .inr (SqT.of ea), _, _, rfl, rfl, _, rfl, ?_⟩
    rw [ln]
    have c1 : decide ((1 : Int) ≤ (n : Nat)) = true := by simp; omega
    have c2 : decide (((n : Nat) : Int) ≤ 60) = true := by simp; omega
    rw [c1]
    refine iteT ⟨_, _, rfl, rfl, _, rfl, ?_⟩
    dsimp only
    rw [c2]
    refine iteF ?_
    refine ⟨_, rfl, a, rfl, ⟨_, SqT.of ea⟩, fun D nD => ?_⟩
    refine lc_same (walk_tup (K := K) (a := a) (xs := VN ns)) (by omega) (fun _ => .bl true) nD (fun _ sm => SqT.of (sm _ _ ea)) ?_ ?_
    · rintro i x H1 H2 Z out hi sm ⟨rfl, ex⟩
      obtain ⟨s0, es, rfl⟩ := VN_at ex
      obtain ⟨q1, q2, q3⟩ := ok.each s0 (List.mem_of_getElem? es)
      exact gn ⟨rfl, _, rfl, s0, rfl, q1, q2, q3, fun H3 sm3 => out _ sm3⟩
    · intro H1 sm e1
      refine ⟨D, _, rfl, SqL.of (by rw [e1, bl_true]), true, ?_, ?_⟩
      · rw [all_true]
      refine iteF ?_
      have ea1 := sm _ _ ea
      refine ⟨_, rfl, a, _, rfl, .inr (SqT.of ea1), _, _, rfl, rfl, _, rfl, by omega, by omega, fun D2 nD2 => ?_⟩
      rw [ln]
      have em : ((n : Int) - 1).toNat = n - 1 := by omega
      refine lc_same (J := Itr 0 ((n : Int) - 1).toNat) (n := n - 1) (by rw [em]; exact walk_range0) (by omega) (fun _ => .bl true) nD2 (fun _ _ => trivial) ?_ ?_
      · rintro i x H2 H3 Z out hi sm2 ⟨rfl, rfl⟩
        have h1 : i < ns.length := by rw [ok.len]; omega
        have h2 : i + 1 < ns.length := by rw [ok.len]; omega
        have g1 := List.getElem?_eq_getElem h1
        have g2 := List.getElem?_eq_getElem h2
        have ea3 := sm2 _ _ ea1
        refine gn ⟨rfl, _, rfl, _, rfl, a, _, _, _, rfl, rfl, SqT.of ea3, atI_nat (VN_get g1), _, rfl, _, rfl, _, _, rfl, rfl, a, _, _, _, rfl, rfl, SqT.of ea3, atI_nat (j := i + 1) (VN_get g2), _, _, rfl, rfl, ?_⟩
        rw [decide_eq_true (ok.asc i _ _ g1 g2 : (SS ns[i]).cps.toList < (SS ns[i + 1]).cps.toList)]
        exact out _ same_rfl
      · intro H2 sm2 e2
        refine ⟨D2, _, rfl, SqL.of (by rw [e2, bl_true]), ?_⟩
        rw [all_true]
        exact q _ (sm.trans sm2)
theorem ok_check_lists {f g : Addr} {fd gd : FuncData} {k : Nat} (F : Fun K "_check_lists" "_check_lists" sCheckLists f fd) (G : FnOk P w K mg base CX0 k g gd ["value", "many"] spAreUnlike) (bG : Binds K gd ["value", "many"] []) (kG : PySem.W.keepIn K (.ref g) = true) (mG : mg "are_unlike_persons" = some (.ref g)) (me : mg "enumerate" = none) (ml : mg "len" = none) : FnOk P w K mg base CX0 (k + 1) f fd ["lists"] spCheckLists := by
  refine F.ok scCheckLists (fun vs H Q E h => ?_) (fun cdv A outer s H vs Q E hr h => ?_)
  · obtain ⟨a, ls, rfl, _⟩ := h
    rfl
  · obtain ⟨a, ls, rfl, lt, hn, ok, q⟩ := h
    refine ⟨_, pss_one (ps_for PassesOwn.never rfl (pi_enumT (by rfl) me (pa_cons (pv 0) pa_nil)) (pg_tup rfl (pgs_cons (pg_name (i := 1) scCheckLists.nd rfl (.inl rfl)) (pgs_cons (pg_name (i := 2) scCheckLists.nd rfl (.inl rfl)) pgs_nil)))
        (pss_one (ps_if (PW.pt (pw_or (pt_not (pt_val (pe_call G hr rfl mG kG bG .nil pass0 (pa_cons (pv 2) (pa_cons (pe_callB call_len_seq (by rfl) ml PySem.boot_len (pa_cons (pv 0) pa_nil)) pa_nil))))) (pw_or1 (pt_cmpR op_in_seq (pv 1) (pv 2) rfl)))) (pss_one ps_never) pss_nil))), ?_⟩
    obtain ⟨xs, ea, xl⟩ := lt.len
    refine ⟨_, rfl, a, xs, rfl, SqT.of ea, ?_⟩
    refine for_it (walk_enumT (K := K) (a := a) (xs := xs)) (fun i σ H' => ∃ y z : Option V, σ = [some (.ref a), y, z] ∧ Same H H')
      ⟨none, none, rfl, same_rfl⟩ (fun i σ H' _ ⟨_, _, _, sm⟩ => SqT.of (sm _ _ ea)) ?_ ?_
    · rintro i x σ H1 H2 hi ⟨y, z, rfl, sm⟩ ⟨T, x0, x1, rfl, nT, rfl, e1, e2⟩
      cases e1
      obtain ⟨b, s1, rfl, es, eb⟩ := lt.row ea e2
      have sm2 := sm.fresh (o := .tup [.int (i : Nat), .ref b]) (sm.free nT)
      refine ⟨T, _, rfl, SqT.of upd_same, rfl, _, _, rfl, gn ⟨_, _, rfl, gn ⟨rfl, ?_⟩⟩⟩
      dsimp only [List.set]
      generalize upd H1 T (.tup [.int (i : Nat), .ref b]) = H3 at sm2
      refine ⟨_, rfl, _, rfl, a, xs, rfl, .inr (SqT.of (sm2 _ _ ea)), b, s1, ls.length, by rw [xl]; rfl, eb.same sm2, by have := ok.each es; omega, ok.nd i _ es, fun j hj => (ok.both i _ j es hj).1, fun H4 sm4 => ⟨true, rfl, iteF ?_⟩⟩
      refine ⟨_, rfl, _, rfl, b, _, rfl, .inr (((eb.same sm2).same sm4).sq), rfl, flat_VI s1, _, rfl, ?_⟩
      dsimp only
      rw [inV_VI, decide_eq_false (fun hm => (ok.both i _ i es hm).2.1 rfl)]
      exact iteF ⟨_, _, rfl, sm2.trans sm4⟩
    · rintro σ H1 ⟨y, z, rfl, sm⟩
      exact q _ sm
theorem ok_check_both {f : Addr} {fd : FuncData} {k : Nat} (F : Fun K "_check_both_ways" "_check_both_ways" sCheckBoth f fd) (me : mg "enumerate" = none) : FnOk P w K mg base CX0 (k + 1) f fd ["lists", "ranks"] spCheckBoth := by
  refine F.ok scCheckBoth (fun vs H Q E h => ?_) (fun cdv A outer s H vs Q E hr h => ?_)
  · obtain ⟨a, r, ls, rfl, _⟩ := h
    rfl
  · obtain ⟨a, r, ls, rfl, lt, rt, hn, ok, q⟩ := h
    refine ⟨_, pss_one (ps_for PassesOwn.never rfl (pi_enumT (by rfl) me (pa_cons (pv 0) pa_nil)) (pg_tup rfl (pgs_cons (pg_name (i := 2) scCheckBoth.nd rfl (.inl rfl)) (pgs_cons (pg_name (i := 3) scCheckBoth.nd rfl (.inl rfl)) pgs_nil)))
        (pss_one (ps_for PassesOwn.never rfl (pi_tup (pv 3)) (pg_name (i := 4) scCheckBoth.nd rfl (.inl rfl))
          (pss_one (ps_if (pt_cmpR op_isN (pe_ix ix_tup (pe_ix ix_tup (pv 1) (pv 4) (fun _ _ => rfl)) (pv 2) (fun _ _ => rfl)) pe_non (nomark _)) (pss_one ps_never) pss_nil))))), ?_⟩
    obtain ⟨xs, ea, xl⟩ := lt.len
    refine ⟨_, rfl, a, xs, rfl, SqT.of ea, ?_⟩
    refine for_it (walk_enumT (K := K) (a := a) (xs := xs)) (fun i σ H' => ∃ x y z : Option V, σ = [some (.ref a), some (.ref r), x, y, z] ∧ Same H H')
      ⟨none, none, none, rfl, same_rfl⟩ (fun i σ H' _ ⟨_, _, _, _, sm⟩ => SqT.of (sm _ _ ea)) ?_ ?_
    · rintro i x σ H1 H2 hi ⟨x', y, z, rfl, sm⟩ ⟨T, x0, x1, rfl, nT, rfl, e1, e2⟩
      cases e1
      obtain ⟨b, s1, rfl, es, eb⟩ := lt.row ea e2
      have sm2 := sm.fresh (o := .tup [.int (i : Nat), .ref b]) (sm.free nT)
      refine ⟨T, _, rfl, SqT.of upd_same, rfl, _, _, rfl, gn ⟨_, _, rfl, gn ⟨rfl, ?_⟩⟩⟩
      dsimp only [List.set]
      generalize upd H1 T (.tup [.int (i : Nat), .ref b]) = H3 at sm2
      refine ⟨_, rfl, b, rfl, ⟨_, (eb.same sm2).sq⟩, for_it (walk_tup (K := K) (a := b) (xs := VI s1)) (fun j σ H' => ∃ z : Option V, σ = [some (.ref a), some (.ref r), some (.int (i : Nat)), some (.ref b), z] ∧ Same H H') ⟨z, rfl, sm2⟩ (fun j σ H' _ ⟨_, _, sm⟩ => (eb.same sm).sq) ?_ ?_⟩
      · rintro j x σ H4 H5 hj ⟨z, rfl, sm4⟩ ⟨rfl, ex⟩
        obtain ⟨o, eo, rfl⟩ := VI_at ex
        refine gn ?_
        dsimp only [List.set]
        obtain ⟨h1, h2, t, et, hm⟩ := ok.both i s1 o es (List.mem_of_getElem? eo)
        obtain ⟨rows, c, er, ec, ev⟩ := rt.at et
        have hi' : i < ls.length := by omega
        refine ⟨_, rfl, _, rfl, r, rows, _, _, rfl, rfl, SqT.of (sm4 _ _ er), atI_nat ec, _, rfl, c, _, _, _, rfl, rfl, SqT.of (sm4 _ _ ev), atI_nat (VR_get hi'), rfl, _, rfl, ?_⟩
        have e0 : decide (rkV t i = V.non) = false := by
          unfold rkV
          rw [if_pos hm]
          rfl
        rw [e0]
        exact iteF ⟨_, rfl, sm4⟩
      · rintro σ H4 ⟨z, rfl, sm4⟩
        exact ⟨_, _, _, rfl, sm4⟩
    · rintro σ H1 ⟨x, y, z, rfl, sm⟩
      exact q _ sm
end
end K14
namespace K14
open PySem PySem.Spec PyProof.Rows L2
/-! ### wishes -/
theorem fne1 : ¬ (("names" : Str) = "lists") := by decide +kernel
theorem fne2 : ¬ (("names" : Str) = "_ranks") := by decide +kernel
theorem fne3 : ¬ (("lists" : Str) = "_ranks") := by decide +kernel
def wf (n l r : Addr) : List (Str × V) := putF "_ranks" (.ref r) (putF "lists" (.ref l) (putF "names" (.ref n) []))
theorem wf_names (n l r : Addr) : (wf n l r).lookup ("names" : Str) = some (.ref n) := by
  unfold wf
  rw [lookup_putF, if_neg fne2, lookup_putF, if_neg fne1, lookup_putF, if_pos rfl]
theorem wf_lists (n l r : Addr) : (wf n l r).lookup ("lists" : Str) = some (.ref l) := by
  unfold wf
  rw [lookup_putF, if_neg fne3, lookup_putF, if_pos rfl]
theorem wf_ranks (n l r : Addr) : (wf n l r).lookup ("_ranks" : Str) = some (.ref r) := by
  unfold wf
  rw [lookup_putF, if_pos rfl]
theorem wf2_len (n l : Addr) : (putF "lists" (.ref l) (putF "names" (.ref n) [])).length < 1000 := by
  show (if ("names" : Str) = "lists" then _ else (("names" : Str), V.ref n) :: putF "lists" (.ref l) []).length < 1000
  rw [if_neg fne1]
  show 2 < 1000
  decide
structure WAt (C : Addr) (H : Hp) (wi : Addr) (ns ls : List (List Nat)) : Prop where
  n60 : 1 ≤ ls.length ∧ ls.length ≤ 60
  nok : NamesOk ls.length ns
  ok : ListsOk ls.length ls
  ex : ∃ dx n l r, H wi = some (.ins C dx (wf n l r)) ∧ H n = some (.tup (VN ns)) ∧ LT H l ls ∧ RT H r ls
theorem WAt.same {C wi : Addr} {H H' : Hp} {ns ls : List (List Nat)} (W : WAt C H wi ns ls) (s : Same H H') : WAt C H' wi ns ls := by
  obtain ⟨dx, n, l, r, e1, e2, e3, e4⟩ := W.ex
  exact ⟨W.n60, W.nok, W.ok, dx, n, l, r, s _ _ e1, s _ _ e2, e3.same s, e4.same s⟩
theorem RT.bar {H H' : Hp} {h l r : Addr} {ls : List (List Nat)} (t : RT H r ls) (s : Src H h l) (b : Bar h l H H') : RT H' r ls := by
  obtain ⟨as, e, le, q⟩ := t
  exact ⟨as, tup_bar s b e, le, fun i a x e1 e2 => tup_bar s b (q i a x e1 e2)⟩
theorem WAt.bar {C wi h l : Addr} {H H' : Hp} {ns ls : List (List Nat)} (W : WAt C H wi ns ls) (s : Src H h l) (b : Bar h l H H') : WAt C H' wi ns ls := by
  obtain ⟨dx, n, l', r, e1, e2, e3, e4⟩ := W.ex
  have nn := s.ne e1 (fun _ z => by cases z)
  exact ⟨W.n60, W.nok, W.ok, dx, n, l', r, b _ _ nn.1 nn.2 e1, tup_bar s b e2, e3.bar s b, e4.bar s b⟩
structure Txt (K : PySem.W.Frag) (mg : Str → Option Value) (C : Addr) : Prop where
  cl : Cls K C
  nN : NoAttr K C "names"
  nL : NoAttr K C "lists"
  nR : NoAttr K C "_ranks"
  mgC : mg "Wishes" = some (.ref C)
def spWInit (C : Addr) : Sp := fun vs H Q _ => ∃ (p dx n l : Addr) (ns ls : List (List Nat)), vs = [.ref p, .ref n, .ref l] ∧ H p = some (.ins C dx []) ∧ H n = some (.tup (VN ns)) ∧ LT H l ls ∧ 1 ≤ ls.length ∧ ls.length ≤ 60 ∧ NamesOk ls.length ns ∧ ListsOk ls.length ls ∧
  ∀ H', WAt C H' p ns ls → (∀ b o, H b = some o → b ≠ p → H' b = some o) → Q .non H'
theorem scWInit : FnScope ["self", "names", "lists", "ranks"] ["self", "names", "lists"] (defScope sWInit) := ⟨rfl, rfl, rfl, by decide +kernel, rfl, by decide +kernel, by decide +kernel⟩
section
variable {P : Program} {w : World} {K : PySem.W.Frag} {mg : Str → Option Value} {base : Heap}
theorem ok_winit {f fn ft fl fr fb C : Addr} {fd dn dt dl dr db : FuncData} {k : Nat} (F : Fun K "__init__" "Wishes.__init__" sWInit f fd) (T : Txt K mg C)
    (Gn : FnOk P w K mg base CX0 k fn dn ["value"] spAreNames) (bn : Binds K dn ["value"] []) (kn : PySem.W.keepIn K (.ref fn) = true) (mn : mg "_are_names" = some (.ref fn))
    (Gt : FnOk P w K mg base CX0 k ft dt ["value", "many"] spIsTupleOf) (bt : Binds K dt ["value", "many"] []) (kt : PySem.W.keepIn K (.ref ft) = true) (mt : mg "is_tuple_of" = some (.ref ft))
    (Gl : FnOk P w K mg base CX0 k fl dl ["lists"] spCheckLists) (bl : Binds K dl ["lists"] []) (kl : PySem.W.keepIn K (.ref fl) = true) (ml : mg "_check_lists" = some (.ref fl))
    (Gr : FnOk P w K mg base CX0 k fr dr ["lists"] spRanksOfLists) (br : Binds K dr ["lists"] []) (kr : PySem.W.keepIn K (.ref fr) = true) (mr : mg "_ranks_of_lists" = some (.ref fr))
    (Gb : FnOk P w K mg base CX0 k fb db ["lists", "ranks"] spCheckBoth) (bb : Binds K db ["lists", "ranks"] []) (kb : PySem.W.keepIn K (.ref fb) = true) (mb : mg "_check_both_ways" = some (.ref fb)) (mlen : mg "len" = none) :
    FnOk P w K mg base CX0 (k + 1) f fd ["self", "names", "lists"] (spWInit C) := by
  refine F.ok scWInit (fun vs H Q E h => ?_) (fun cdv A outer s H vs Q E hr h => ?_)
  · obtain ⟨p, dx, n, l, ns, ls, rfl, _⟩ := h
    rfl
  · obtain ⟨p, dx, n, l, ns, ls, rfl, ep, en, lt, n1, n60, nok, ok, q⟩ := h
    refine ⟨_, pss_cons (ps_if (pt_not (pt_val (pe_call Gn hr rfl mn kn bn .nil pass0 (pa_cons (pv 1) pa_nil)))) (pss_one ps_never) pss_nil)
      (pss_cons (ps_if (pt_not (pt_val (pe_call Gt hr rfl mt kt bt .nil pass0 (pa_cons (pv 2) (pa_cons (pe_callB call_len_seq (by rfl) mlen PySem.boot_len (pa_cons (pv 1) pa_nil)) pa_nil))))) (pss_one ps_never) pss_nil)
      (pss_cons (ps_expr (pe_call Gl hr rfl ml kl bl .nil pass0 (pa_cons (pv 2) pa_nil)))
      (pss_cons (ps_set (i := 3) scWInit.nd rfl (.inl rfl) (pe_call Gr hr rfl mr kr br .nil pass0 (pa_cons (pv 2) pa_nil)))
      (pss_cons (ps_expr (pe_call Gb hr rfl mb kb bb .nil pass0 (pa_cons (pv 2) (pa_cons (pv 3) pa_nil))))
      (pss_cons (ps_fld (pv 0) (pv 1) rfl)
      (pss_cons (ps_fld (pv 0) (pv 2) rfl)
      (pss_one (ps_fld (pv 0) (pv 3) rfl)))))))), ?_⟩
    refine ⟨_, rfl, n, ns, ls.length, rfl, en, nok, n1, n60, fun H1 s1 => ⟨true, rfl, iteF ?_⟩⟩
    obtain ⟨xs, el, xl⟩ := lt.len
    have el1 := s1 _ _ el
    have t1 : tupOf H1 (.ref l) = some xs := by simp [tupOf, el1]
    refine ⟨_, rfl, _, rfl, n, _, rfl, .inr (SqT.of (s1 _ _ en)), .ref l, (VN ns).length, rfl, .tup el1, fun ys e => ?_, ?_⟩
    · rw [t1] at e
      cases e
      omega
    rw [t1]
    have c1 : decide (xs.length = (VN ns).length) = true := by
      rw [decide_eq_true_eq, xl, VN_len, nok.len]
    refine ⟨true, congrArg V.bl c1, iteF ?_⟩
    refine ⟨_, rfl, l, ls, rfl, lt.same s1, by omega, ok, fun H2 s2 => ?_⟩
    refine ⟨_, rfl, l, ls, rfl, (lt.same s1).same s2, by omega, ok, fun r H3 s3 nr rt => ?_⟩
    have s03 : Same H H3 := s1.trans (s2.trans s3)
    refine ⟨_, rfl, _, rfl, l, r, ls, rfl, lt.same s03, rt, by omega, ok, fun H4 s4 => ?_⟩
    have s04 : Same H H4 := s03.trans s4
    have ep4 := s04 _ _ ep
    refine ⟨_, rfl, _, rfl, p, C, dx, [], rfl, ep4, T.cl, T.nN, (by decide), ?_⟩
    refine ⟨_, rfl, _, rfl, p, C, dx, _, rfl, upd_same, T.cl, T.nL, (by show 1 < 1000; decide), ?_⟩
    refine ⟨_, rfl, _, rfl, p, C, dx, _, rfl, upd_same, T.cl, T.nR, wf2_len n l, ?_⟩
    have keep : ∀ b o, H b = some o → b ≠ p → (upd (upd (upd H4 p (.ins C dx (putF "names" (.ref n) []))) p (.ins C dx (putF "lists" (.ref l) (putF "names" (.ref n) [])))) p (.ins C dx (wf n l r))) b = some o := fun b o e nb => by
      rw [upd_ne nb, upd_ne nb, upd_ne nb]
      exact s04 b o e
    have keep3 : ∀ b xs, H4 b = some (.tup xs) → (upd (upd (upd H4 p (.ins C dx (putF "names" (.ref n) []))) p (.ins C dx (putF "lists" (.ref l) (putF "names" (.ref n) [])))) p (.ins C dx (wf n l r))) b = some (.tup xs) := fun b xs e => by
      have nb : b ≠ p := fun z => by rw [z, ep4] at e; cases e
      rw [upd_ne nb, upd_ne nb, upd_ne nb]
      exact e
    have nep : ∀ a xs, Tp H4 a xs → a ≠ p := fun a xs t z => by
      rcases t with e | ⟨o, _, _, e⟩ <;> (rw [z, ep4] at e; cases e)
    refine q _ ⟨⟨n1, n60⟩, nok, ok, dx, n, l, r, upd_same, keep3 _ _ (s04 _ _ en), ?_, ?_⟩ keep
    · obtain ⟨as, ea, al, rows⟩ := lt.same s04
      exact ⟨as, keep3 _ _ ea, al, fun i a x e1 e2 => ((((rows i a x e1 e2).put (nep _ _ (rows i a x e1 e2))).put (nep _ _ (rows i a x e1 e2))).put (nep _ _ (rows i a x e1 e2)))⟩
    · obtain ⟨as, ea, al, rows⟩ := rt.same s4
      exact ⟨as, keep3 _ _ ea, al, fun i a x e1 e2 => keep3 _ _ (rows i a x e1 e2)⟩
end
end K14
namespace K14
open PySem PySem.Spec PyProof.Rows L2
/-! ### holds -/
def hv : Option Nat → V
  | none => .non
  | some j => .int (j : Nat)
def VH (hs : List (Option Nat)) : List V := hs.map hv
theorem VH_len (hs : List (Option Nat)) : (VH hs).length = hs.length := List.length_map _
theorem VH_get {hs : List (Option Nat)} {i : Nat} {o : Option Nat} (e : hs[i]? = some o) : (VH hs)[i]? = some (hv o) := by unfold VH; rw [List.getElem?_map, e]; rfl
theorem VH_at {hs : List (Option Nat)} {i : Nat} {x : V} (e : (VH hs)[i]? = some x) : ∃ o, hs[i]? = some o ∧ x = hv o := by
  unfold VH at e
  rw [List.getElem?_map] at e
  cases h : hs[i]? with
  | none => rw [h] at e; cases e
  | some j => rw [h] at e; exact ⟨j, rfl, (Option.some.inj e).symm⟩
def rkO (s : List Nat) : Option Nat → V
  | none => .int (s.length : Nat)
  | some j => rkV s j
def rkN (s : List Nat) : Option Nat → Nat
  | none => s.length
  | some j => s.idxOf j
theorem rkO_N {s : List Nat} {o : Option Nat} (h : ∀ j, o = some j → j ∈ s) : rkO s o = .int (rkN s o : Nat) := by
  cases o with
  | none => rfl
  | some j =>
    show rkV s j = _
    unfold rkV
    rw [if_pos (h j rfl)]
    rfl
/-- the list of a person, the one it holds -/
def la (ls : List (List Nat)) (p : Nat) : List Nat := ls.getD p []
def ha (hs : List (Option Nat)) (p : Nat) : Option Nat := hs.getD p none
theorem la_get {ls : List (List Nat)} {p : Nat} (h : p < ls.length) : ls[p]? = some (la ls p) := by
  unfold la
  rw [List.getD_eq_getElem?_getD, List.getElem?_eq_getElem h]
  rfl
theorem ha_get {hs : List (Option Nat)} {p : Nat} (h : p < hs.length) : hs[p]? = some (ha hs p) := by
  unfold ha
  rw [List.getD_eq_getElem?_getD, List.getElem?_eq_getElem h]
  rfl
structure HoldsOk (ls : List (List Nat)) (hs : List (Option Nat)) : Prop where
  len : hs.length = ls.length
  on : ∀ p j, ha hs p = some j → p < ls.length ∧ j ∈ la ls p
def most (ls : List (List Nat)) (hs : List (Option Nat)) (p : Nat) : Nat := rkN (la ls p) (ha hs p)
def spIsWished (C : Addr) : Sp := fun vs H Q _ => ∃ (wi : Addr) (ns ls : List (List Nat)) (p o : Nat), vs = [.ref wi, .int p, .int o] ∧ WAt C H wi ns ls ∧ p < ls.length ∧ o < ls.length ∧ Q (.bl (decide (o ∈ la ls p))) H
def spRankOf (C : Addr) : Sp := fun vs H Q _ => ∃ (wi : Addr) (ns ls : List (List Nat)) (p : Nat) (o : Option Nat), vs = [.ref wi, .int p, hv o] ∧ WAt C H wi ns ls ∧ p < ls.length ∧ (∀ j, o = some j → j < ls.length) ∧ Q (rkO (la ls p) o) H
theorem scRankOf : FnScope ["wishes", "person", "other"] ["wishes", "person", "other"] (defScope sRankOf) := ⟨rfl, rfl, rfl, by decide +kernel, rfl, by decide +kernel, by decide +kernel⟩
def spRanksIn (C : Addr) : Sp := fun vs H Q _ => ∃ (wi : Addr) (ns ls : List (List Nat)), vs = [.ref wi] ∧ WAt C H wi ns ls ∧ ∀ r, RT H r ls → Q (.ref r) H
theorem scRanksIn : FnScope ["wishes"] ["wishes"] (defScope sRanksIn) := ⟨rfl, rfl, rfl, by decide +kernel, rfl, by decide +kernel, by decide +kernel⟩
theorem hv_non (o : Option Nat) : decide (hv o = V.non) = o.isNone := by cases o <;> rfl
section
variable {P : Program} {w : World} {K : PySem.W.Frag} {mg : Str → Option Value} {base : Heap}
theorem ok_rank_of {f C : Addr} {fd : FuncData} {k : Nat} (F : Fun K "rank_of" "rank_of" sRankOf f fd) (T : Txt K mg C) (ml : mg "len" = none) : FnOk P w K mg base CX0 (k + 1) f fd ["wishes", "person", "other"] (spRankOf C) := by
  refine F.ok scRankOf (fun vs H Q E h => ?_) (fun cdv A outer s H vs Q E hr h => ?_)
  · obtain ⟨wi, ns, ls, p, o, rfl, _⟩ := h
    rfl
  · obtain ⟨wi, ns, ls, p, o, rfl, W, hp, ho, q⟩ := h
    refine ⟨_, pss_cons (ps_if (pt_cmpR op_isN (pv 2) pe_non (nomark _)) (pss_one (ps_ret (pe_callB call_len_seq (by rfl) ml PySem.boot_len (pa_cons (pe_ix ix_tup (pe_fld (pv 0) rfl) (pv 1) (fun _ _ => rfl)) pa_nil)))) pss_nil)
      (pss_one (ps_ret (pe_ix ix_tup (pe_ix ix_tup (pe_fld (pv 0) rfl) (pv 1) (fun _ _ => rfl)) (pv 2) (fun _ _ => rfl)))), ?_⟩
    obtain ⟨dx, n, l, r, e1, e2, e3, e4⟩ := W.ex
    refine ⟨_, rfl, rfl, _, rfl, ?_⟩
    cases o with
    | none =>
      refine iteT ?_
      obtain ⟨rows, c, er, ec, ev⟩ := e3.at (la_get hp)
      refine ⟨_, rfl, wi, C, dx, _, _, rfl, e1, T.cl, T.nL, wf_lists n l r, _, rfl, l, rows, _, _, rfl, rfl, SqT.of er, atI_nat ec, c, _, rfl, .inr ev.sq, ?_⟩
      rw [VI_len]
      exact q
    | some j =>
      refine iteF ?_
      obtain ⟨rows, c, er, ec, ev⟩ := e4.at (la_get hp)
      exact ⟨_, rfl, wi, C, dx, _, _, rfl, e1, T.cl, T.nR, wf_ranks n l r, _, rfl, r, rows, _, _, rfl, rfl, SqT.of er, atI_nat ec, _, rfl, c, _, _, _, rfl, rfl, SqT.of ev, atI_nat (VR_get (ho j rfl)), q⟩
theorem ok_ranks_in {f C : Addr} {fd : FuncData} {k : Nat} (F : Fun K "ranks_in" "ranks_in" sRanksIn f fd) (T : Txt K mg C) : FnOk P w K mg base CX0 (k + 1) f fd ["wishes"] (spRanksIn C) := by
  refine F.ok scRanksIn (fun vs H Q E h => ?_) (fun cdv A outer s H vs Q E hr h => ?_)
  · obtain ⟨wi, ns, ls, rfl, _⟩ := h
    rfl
  · obtain ⟨wi, ns, ls, rfl, W, q⟩ := h
    refine ⟨_, pss_one (ps_ret (pe_fld (pv 0) rfl)), ?_⟩
    obtain ⟨dx, n, l, r, e1, e2, e3, e4⟩ := W.ex
    exact ⟨_, rfl, wi, C, dx, _, _, rfl, e1, T.cl, T.nR, wf_ranks n l r, q r e4⟩
end
end K14
namespace K14
open PySem PySem.Spec PyProof.Rows L2
def mayV (n : Nat) (s : List Nat) : V → Bool
  | .non => true
  | .int i => decide (0 ≤ i) && decide (i < n) && decide (i.toNat ∈ s)
  | _ => false
def holdsV (H : Hp) (ls : List (List Nat)) (v : V) : Bool := match tupOf H v with
  | some xs => decide (xs.length = ls.length) && (List.range xs.length).all fun i => mayV ls.length (la ls i) (xs.getD i .non)
  | none => false
def spMayHold (C : Addr) : Sp := fun vs H Q _ => ∃ (wi : Addr) (ns ls : List (List Nat)) (p : Nat) (v : V), vs = [.ref wi, .int p, v] ∧ WAt C H wi ns ls ∧ p < ls.length ∧ Pl H v ∧ Q (.bl (mayV ls.length (la ls p) v)) H
def spAreHolds (C : Addr) : Sp := fun vs H Q _ => ∃ (wi : Addr) (ns ls : List (List Nat)) (v : V), vs = [.ref wi, v] ∧ WAt C H wi ns ls ∧ Pl H v ∧ (∀ xs, tupOf H v = some xs → xs.length ≤ 1000 ∧ ∀ x ∈ xs, Pl H x) ∧ ∀ H', Same H H' → Q (.bl (holdsV H ls v)) H'
theorem Pl.same {H H' : Hp} {v : V} (p : Pl H v) (s : Same H H') : Pl H' v := by
  cases p with
  | non => exact .non
  | bl b => exact .bl b
  | int i => exact .int i
  | str s => exact .str s
  | lst e => exact .lst (s _ _ e)
  | tup e => exact .tup (s _ _ e)
theorem tupOf_some {H : Hp} {v : V} {xs : List V} (e : tupOf H v = some xs) : ∃ a, v = .ref a ∧ H a = some (.tup xs) := by
  unfold tupOf at e
  split at e
  · rename_i a
    split at e
    · rename_i ys h
      cases e
      exact ⟨a, rfl, h⟩
    · cases e
  · cases e
theorem bl_map (n : Nat) (g : Nat → Bool) : ((List.range n).map fun i => V.bl (g i)) = ((List.range n).map g).map V.bl := by simp
theorem all_map_id (n : Nat) (g : Nat → Bool) : ((List.range n).map g).all id = (List.range n).all g := by
  rw [List.all_map]
  rfl
section
variable {P : Program} {w : World} {K : PySem.W.Frag} {mg : Str → Option Value} {base : Heap}
end
end K14
namespace K14
open PySem PySem.Spec PyProof.Rows L2
section
variable {J : It} {n : Nat} {G : Hp → Prop} {Y : Nat → Hp → V → Hp → Prop}
/-- a comprehension of new tuples, that leaves all else as it stood -/
theorem lc_rows (w : Walk J n G Y) {g : TG} {te : TE} {vs : List Nat} {σ : L2.St} {H0 : Hp} {D : Addr} {Qd : Hp → Prop} (hn : n ≤ 100000) (X : Nat → List V) (nD : H0 D = none) (hG : ∀ H, Same H0 H → G H)
    (hs : ∀ (i : Nat) (x : V) (H H' : Hp) (Z : V → Hp → Prop), (∀ r H3, Same H H3 → H3 r = some (.tup (X i)) → Z (.ref r) H3) → i < n → Same H0 H → Y i H x H' → g x (wipe σ vs) H' fun σ2 H2 => wipe σ2 vs = wipe σ vs ∧ te σ2 H2 Z)
    (hd : ∀ (rs : List Addr) H, Same H0 H → H D = some (.lst (rs.map V.ref)) → rs.length = n → (∀ (j : Nat) (r : Addr), rs[j]? = some r → H r = some (.tup (X j))) → Qd H) :
    ∃ W : Nat → Nat → Hp → Prop, (∃ m, W 0 m (upd H0 D (.lst []))) ∧ ∀ i m H, W i m H →
      (J.stop i H ∧ Qd H) ∨ (J.go i H ∧ ∃ Nx : Hp → Prop, (∀ H', Nx H' → ∃ m', m' < m ∧ W (i + 1) m' H') ∧ ∀ x H', J.yld i H x H' → g x (wipe σ vs) H' fun σ2 H2 => wipe σ2 vs = wipe σ vs ∧ tYes σ2 H2 fun b H3 =>
        if b = true then te σ2 H3 fun y H4 => ∃ acc, H4 D = some (.lst acc) ∧ acc.length < sizeLine ∧ Nx (upd H4 D (.lst (acc ++ [y]))) else Nx H3) := by
  refine lc_it w (fun i H => ∃ rs : List Addr, Same H0 H ∧ H D = some (.lst (rs.map V.ref)) ∧ rs.length = i ∧ ∀ (j : Nat) (r : Addr), rs[j]? = some r → H r = some (.tup (X j))) ⟨[], same_upd nD, upd_same, rfl, fun _ _ e => by simp at e⟩ (fun i H _ ⟨_, h, _⟩ => hG H h) (fun i x H H' hi ⟨rs, sm, eD, rl, old⟩ y => ?_) (fun H ⟨rs, sm, eD, rl, old⟩ => hd rs H sm eD rl old)
  refine hs i x H H' (fun v H3 => ∃ acc, H3 D = some (.lst acc) ∧ acc.length < sizeLine ∧ (fun H => ∃ rs : List Addr, Same H0 H ∧ H D = some (.lst (rs.map V.ref)) ∧ rs.length = i + 1 ∧ ∀ (j : Nat) (r : Addr), rs[j]? = some r → H r = some (.tup (X j))) (upd H3 D (.lst (acc ++ [v])))) (fun r H3 s3 er => ?_) hi sm y
  have eD3 := s3 _ _ eD
  refine ⟨_, eD3, ?_, rs ++ [r], (sm.trans s3).fresh nD, by rw [upd_same]; simp, by simp [rl], ?_⟩
  · rw [List.length_map, rl]
    exact sz6' (by omega)
  · intro j q e
    have ne : ∀ q xs, H3 q = some (.tup xs) → q ≠ D := fun q xs e z => by
      rw [z, eD3] at e
      cases e
    by_cases c : j < rs.length
    · rw [List.getElem?_append_left c] at e
      have e7 := s3 _ _ (old j q e)
      rw [upd_ne (ne _ _ e7)]
      exact e7
    · rw [List.getElem?_append_right (by omega), List.getElem?_singleton] at e
      split at e
      · cases e
        have : j = i := by omega
        subst this
        rw [upd_ne (ne _ _ er)]
        exact er
      · cases e
end
def VM (ls : List (List Nat)) (hs : List (Option Nat)) : List V := (List.range ls.length).map fun p => V.int (most ls hs p : Nat)
theorem VM_get {ls : List (List Nat)} {hs : List (Option Nat)} {p : Nat} (h : p < ls.length) : (VM ls hs)[p]? = some (.int (most ls hs p : Nat)) := by simp [VM, h]
/-- the ranks of those held, in a tuple or in a list -/
def VMat (H : Hp) (m : Addr) (ls : List (List Nat)) (hs : List (Option Nat)) : Prop := H m = some (.tup (VM ls hs)) ∨ H m = some (.lst (VM ls hs))
theorem VMat.same {H H' : Hp} {m : Addr} {ls : List (List Nat)} {hs : List (Option Nat)} (v : VMat H m ls hs) (s : Same H H') : VMat H' m ls hs := v.imp (s _ _) (s _ _)
theorem rIx_vm {K : PySem.W.Frag} {H : Hp} {m : Addr} {ls : List (List Nat)} {hs : List (Option Nat)} {p : Nat} {Q : VK} (v : VMat H m ls hs) (hp : p < ls.length) (q : Q (.int (most ls hs p : Nat)) H) : rIx K (.ref m) (.int (p : Nat)) H Q := by
  rcases v with e | e
  · exact .inr (.inl ⟨m, _, _, _, rfl, rfl, SqT.of e, atI_nat (VM_get hp), q⟩)
  · exact .inl ⟨m, _, _, _, rfl, rfl, SqL.of e, atI_nat (VM_get hp), q⟩
def keepF (ls : List (List Nat)) (hs : List (Option Nat)) (p o : Nat) : Bool := decide ((la ls o).idxOf p ≤ most ls hs o)
def leftL (ls : List (List Nat)) (hs : List (Option Nat)) (p : Nat) : List Nat := ((la ls p).take (most ls hs p + 1)).filter (keepF ls hs p)
def leftA (ls : List (List Nat)) (hs : List (Option Nat)) : List (List Nat) := (List.range ls.length).map (leftL ls hs)
theorem slA {K : PySem.W.Frag} {H : Hp} {a : Addr} {s : List Nat} {m : Nat} {Q : VK} (e : Tp H a (VI s)) (q : ∀ b H', Same H H' → Tp H' b (VI (s.take (m + 1))) → Q (.ref b) H') : rSlA K (.ref a) none (some ((m : Nat) + 1 : Int)) H Q := by
  have ek : HT.sIx (VI s).length (VI s).length (some ((m : Nat) + 1 : Int)) = min (m + 1) (VI s).length := HT.sIx_nat _ _ (m + 1)
  have e0 : HT.sIx (VI s).length 0 none = 0 := HT.sIx_none _ _
  refine ⟨a, VI s, rfl, e.sq, fun h => ?_, fun h p np => ?_⟩
  · have hm : (VI s).length ≤ m + 1 := by
      have := h.2
      rw [ek] at this
      omega
    rw [VI_len] at hm
    refine q a H same_rfl ?_
    rw [List.take_of_length_le hm]
    exact e
  · refine q p _ (same_upd np) (.inl ?_)
    rw [upd_same]
    unfold cutV
    rw [e0, ek, List.drop_zero, Nat.sub_zero]
    congr 2
    unfold VI
    rw [List.length_map, List.map_take]
    by_cases c : m + 1 ≤ s.length
    · rw [Nat.min_eq_left c]
    · rw [Nat.min_eq_right (by omega), List.take_of_length_le (by simp), List.take_of_length_le (by simp; omega)]
def spHeldRanks (C : Addr) : Sp := fun vs H Q _ => ∃ (wi b : Addr) (ns ls : List (List Nat)) (hs : List (Option Nat)), vs = [.ref wi, .ref b] ∧ WAt C H wi ns ls ∧ H b = some (.tup (VH hs)) ∧ HoldsOk ls hs ∧ ∀ r H', Same H H' → H' r = some (.tup (VM ls hs)) → Q (.ref r) H'
theorem scHeldRanks : FnScope ["wishes", "holds", "person", "held"] ["wishes", "holds"] (defScope sHeldRanks) := ⟨rfl, rfl, rfl, by decide +kernel, rfl, by decide +kernel, by decide +kernel⟩
def spLeftList (C : Addr) : Sp := fun vs H Q _ => ∃ (wi m : Addr) (ns ls : List (List Nat)) (hs : List (Option Nat)) (p : Nat), vs = [.ref wi, .ref m, .int p] ∧ WAt C H wi ns ls ∧ H m = some (.tup (VM ls hs)) ∧ p < ls.length ∧ ∀ r H', Same H H' → H' r = some (.tup (VI (leftL ls hs p))) → Q (.ref r) H'
theorem scLeftList : FnScope ["wishes", "most", "person", "ranks", "kept", "other"] ["wishes", "most", "person"] (defScope sLeftList) := ⟨rfl, rfl, rfl, by decide +kernel, rfl, by decide +kernel, by decide +kernel⟩
def spLeftLists (C : Addr) : Sp := fun vs H Q _ => ∃ (wi b : Addr) (ns ls : List (List Nat)) (hs : List (Option Nat)), vs = [.ref wi, .ref b] ∧ WAt C H wi ns ls ∧ H b = some (.tup (VH hs)) ∧ HoldsOk ls hs ∧ ∀ r H', Same H H' → LT H' r (leftA ls hs) → Q (.ref r) H'
theorem scLeftLists : FnScope ["wishes", "holds", "most", "person"] ["wishes", "holds"] (defScope sLeftLists) := ⟨rfl, rfl, rfl, by decide +kernel, rfl, by decide +kernel, by decide +kernel⟩
def spFirstLeft (C : Addr) : Sp := fun vs H Q _ => ∃ (wi m : Addr) (ns ls : List (List Nat)) (hs : List (Option Nat)) (p : Nat), vs = [.ref wi, .ref m, .int p] ∧ WAt C H wi ns ls ∧ VMat H m ls hs ∧ p < ls.length ∧ ∀ H', Same H H' → Q (hv (leftL ls hs p).head?) H'
def firsts (ls : List (List Nat)) (hs : List (Option Nat)) : List (Option Nat) := (List.range ls.length).map fun p => (leftL ls hs p).head?
def spFirstsLeft (C : Addr) : Sp := fun vs H Q _ => ∃ (wi b : Addr) (ns ls : List (List Nat)) (hs : List (Option Nat)), vs = [.ref wi, .ref b] ∧ WAt C H wi ns ls ∧ H b = some (.tup (VH hs)) ∧ HoldsOk ls hs ∧ ∀ r H', Same H H' → H' r = some (.tup (VH (firsts ls hs))) → Q (.ref r) H'
section
variable {P : Program} {w : World} {K : PySem.W.Frag} {mg : Str → Option Value} {base : Heap}
theorem ok_held_ranks {f fr C : Addr} {fd dr : FuncData} {k : Nat} (F : Fun K "held_ranks" "held_ranks" sHeldRanks f fd)
    (Gr : FnOk P w K mg base CX0 k fr dr ["wishes", "person", "other"] (spRankOf C)) (br : Binds K dr ["wishes", "person", "other"] []) (kr : PySem.W.keepIn K (.ref fr) = true) (mr : mg "rank_of" = some (.ref fr)) (mt : mg "tuple" = none) (me : mg "enumerate" = none) : FnOk P w K mg base CX0 (k + 1) f fd ["wishes", "holds"] (spHeldRanks C) := by
  refine F.ok scHeldRanks (fun vs H Q E h => ?_) (fun cdv A outer s H vs Q E hr h => ?_)
  · obtain ⟨wi, b, ns, ls, hs, rfl, _⟩ := h
    rfl
  · obtain ⟨wi, b, ns, ls, hs, rfl, W, eb, ho, q⟩ := h
    refine ⟨_, pss_one (ps_ret (pe_callTy call_tuple_of (by rfl) mt (by decide +kernel) (pa_cons (pe_lc (own := [("person", 2), ("held", 3)]) (tt := tYes) rfl scHeldRanks.nd (pi_enumT (by rfl) me (pa_cons (pv 1) pa_nil))
          (blkOk_by (own := [("person", 2), ("held", 3)]) (N := ["wishes", "holds", "person", "held"]) (sc := defScope sHeldRanks) (by decide +kernel)) (g := gTup K 2 (gCons (gName 2) (gCons (gName 3) gNil))) (fun _ _ _ _ _ => pg_tup rfl (pgs_cons (pg_name (i := 2) scHeldRanks.nd rfl (Or.inl rfl)) (pgs_cons (pg_name (i := 3) scHeldRanks.nd rfl (Or.inl rfl)) pgs_nil))) (fun _ _ _ _ _ => pts_nil)
          (fun _ _ _ _ _ => pe_call Gr hr rfl mr kr br .nil pass0 (pa_cons (pv 0) (pa_cons (pv 2) (pa_cons (pv 3) pa_nil))))) pa_nil))), ?_⟩
    refine ⟨_, rfl, b, _, rfl, SqT.of eb, fun D nD => ?_⟩
    have n60 := W.n60.2
    refine lc_same (walk_enumT (K := K) (a := b) (xs := VH hs)) (by rw [VH_len, ho.len]; omega) (fun i => .int (most ls hs i : Nat)) nD (fun _ sm => SqT.of (sm _ _ eb)) ?_ ?_
    · rintro i x H1 H2 Z out hi sm ⟨U, x0, x1, rfl, nU, rfl, y1, y2⟩
      cases y1
      have s2 : Same H1 (upd H1 U (.tup [.int (i : Nat), x1])) := same_upd nU
      rw [VH_len] at hi
      have il : i < ls.length := by rw [← ho.len]; exact hi
      have y3 : (VH hs)[i]? = some x1 := y2
      rw [VH_get (ha_get hi)] at y3
      cases y3
      refine ⟨U, _, rfl, SqT.of upd_same, rfl, _, _, rfl, gn ⟨_, _, rfl, gn ⟨rfl, rfl, ?_⟩⟩⟩
      refine ⟨_, rfl, _, rfl, _, rfl, wi, ns, ls, i, ha hs i, rfl, (W.same sm).same s2, il, fun j ej => ?_, ?_⟩
      · exact (W.ok.both i _ j (la_get il) (ho.on i j ej).2).1
      · rw [rkO_N fun j ej => (ho.on i j ej).2]
        exact out _ s2
    · intro H1 sm e5
      refine ⟨D, _, rfl, .inl ⟨SqL.of e5, fun r nr => q r _ (sm.fresh (sm.free nr)) ?_⟩⟩
      rw [upd_same, VH_len, ho.len]
      rfl
theorem ok_left_list {f fr C : Addr} {fd dr : FuncData} {k : Nat} (F : Fun K "_left_list" "_left_list" sLeftList f fd) (T : Txt K mg C)
    (Gr : FnOk P w K mg base CX0 k fr dr ["wishes"] (spRanksIn C)) (br : Binds K dr ["wishes"] []) (kr : PySem.W.keepIn K (.ref fr) = true) (mr : mg "ranks_in" = some (.ref fr)) (mt : mg "tuple" = none) : FnOk P w K mg base CX0 (k + 1) f fd ["wishes", "most", "person"] (spLeftList C) := by
  refine F.ok scLeftList (fun vs H Q E h => ?_) (fun cdv A outer s H vs Q E hr h => ?_)
  · obtain ⟨wi, m, ns, ls, hs, p, rfl, _⟩ := h
    rfl
  · obtain ⟨wi, m, ns, ls, hs, p, rfl, W, em, hp, q⟩ := h
    refine ⟨_, pss_cons (ps_set (i := 3) scLeftList.nd rfl (.inr rfl) (pe_call Gr hr rfl mr kr br .nil pass0 (pa_cons (pv 0) pa_nil)))
      (pss_cons (ps_set (i := 4) scLeftList.nd rfl (.inl rfl) (pe_slice sl_tupA (pe_ix ix_tup (pe_fld (pv 0) rfl) (pv 2) (fun _ _ => rfl)) po_none (po_some (pe_op op_add (pe_ix ix_tup (pv 1) (pv 2) (fun _ _ => rfl)) pe_int))))
      (pss_one (ps_ret (pe_callTy call_tuple_of (by rfl) mt (by decide +kernel) (pa_cons (pe_lc (own := [("other", 5)]) (g := gName 5) (tt := tTest (tOp (rI0 fun i j => V.bl (decide (i ≤ j))) (tOp (rIxT K) (tOp (rIxT K) (tVar 3) (tVar 5)) (tVar 2)) (tOp (rIxT K) (tVar 1) (tVar 5)))) rfl scLeftList.nd (pi_tup (pv 4))
          (blkOk_by (own := [("other", 5)]) (N := ["wishes", "most", "person", "ranks", "kept", "other"]) (sc := defScope sLeftList) (by decide +kernel)) (fun _ _ _ _ _ => pg_name (i := 5) scLeftList.nd rfl (Or.inl rfl)) (fun _ _ _ _ _ => pts_one (pt_cmpR op_le (pe_ix ix_tup (pe_ix ix_tup (pv 3) (pv 5) (fun _ _ => rfl)) (pv 2) (fun _ _ => rfl)) (pe_ix ix_tup (pv 1) (pv 5) (fun _ _ => rfl)) (nomark _)))
          (fun _ _ _ _ _ => pv 5)) pa_nil))))), ?_⟩
    obtain ⟨dx, n, l, r0, e1, e2, e3, e4⟩ := W.ex
    obtain ⟨rows, c, er, ec, ev⟩ := e3.at (la_get hp)
    refine ⟨_, rfl, wi, ns, ls, rfl, W, fun r rt => ?_⟩
    refine ⟨_, rfl, wi, C, dx, _, _, rfl, e1, T.cl, T.nL, wf_lists n l r0, _, rfl, l, rows, _, _, rfl, rfl, SqT.of er, atI_nat ec, _, rfl, _, rfl, m, _, _, _, rfl, rfl, SqT.of em, atI_nat (VM_get hp), _, _, rfl, rfl, _, rfl, slA ev fun b H1 s1 eb => ?_⟩
    refine ⟨_, rfl, b, rfl, ⟨_, eb.sq⟩, fun D nD => ?_⟩
    have sub : ∀ o ∈ (la ls p).take (most ls hs p + 1), o < ls.length ∧ p ∈ la ls o := fun o ho => by
      obtain ⟨h1, h2, t, et, hm⟩ := W.ok.both p _ o (la_get hp) (List.mem_of_mem_take ho)
      rw [la_get h1] at et
      cases et
      exact ⟨h1, hm⟩
    have lk : ((la ls p).take (most ls hs p + 1)).length ≤ 60 := by
      have h1 := W.ok.each (la_get hp)
      have h2 := W.n60.2
      rw [List.length_take]
      omega
    refine lc_it (walk_tup (K := K) (a := b) (xs := VI ((la ls p).take (most ls hs p + 1)))) (fun i H' => Same H1 H' ∧ H' D = some (.lst (VI ((((la ls p).take (most ls hs p + 1)).take i).filter (keepF ls hs p)))))
      ⟨same_upd nD, by rw [upd_same, List.take_zero]; rfl⟩ (fun i H' _ h => (eb.same h.1).sq) ?_ ?_
    · rintro i x H2 H3 hi ⟨s2, eD⟩ ⟨rfl, ex⟩
      obtain ⟨o, eo, rfl⟩ := VI_at ex
      obtain ⟨h1, h2⟩ := sub o (List.mem_of_getElem? eo)
      obtain ⟨rows2, c2, er2, ec2, ev2⟩ := rt.at (la_get h1)
      have s02 := s1.trans s2
      have e6 : rkV (la ls o) p = .int ((la ls o).idxOf p : Nat) := by
        unfold rkV
        rw [if_pos h2]
      have e7 := VR_get (s := la ls o) hp
      rw [e6] at e7
      refine gn ⟨rfl, _, rfl, _, rfl, r, rows2, _, _, rfl, rfl, SqT.of (s02 _ _ er2), atI_nat ec2, _, rfl, c2, _, _, _, rfl, rfl, SqT.of (s02 _ _ ev2), atI_nat e7, _, rfl, _, rfl, m, _, _, _, rfl, rfl, SqT.of (s02 _ _ em), atI_nat (VM_get h1), _, _, rfl, rfl, keepF ls hs p o, ?_, ?_⟩
      · refine congrArg V.bl ?_
        unfold keepF
        rw [decide_eq_decide]
        omega
      · have tk : ((la ls p).take (most ls hs p + 1)).take (i + 1) = ((la ls p).take (most ls hs p + 1)).take i ++ [o] := by
          rw [List.take_succ, eo]
          rfl
        refine ite2 (fun c => ?_) (fun c => ?_)
        · refine ⟨_, rfl, _, eD, ?_, s2.fresh nD, ?_⟩
          · rw [VI_len]
            refine sz6' (Nat.le_trans (List.length_filter_le _ _) ?_)
            rw [List.length_take]
            omega
          · rw [upd_same, tk, List.filter_append, VI_app]
            have : [o].filter (keepF ls hs p) = [o] := by rw [List.filter_cons, if_pos c, List.filter_nil]
            rw [this]
            rfl
        · refine ⟨s2, ?_⟩
          rw [eD, tk, List.filter_append]
          have : [o].filter (keepF ls hs p) = [] := by rw [List.filter_cons, if_neg c, List.filter_nil]
          rw [this, List.append_nil]
    · rintro H2 ⟨s2, eD⟩
      rw [VI_len, List.take_length] at eD
      refine ⟨D, _, rfl, .inl ⟨SqL.of eD, fun r' nr => q r' _ ((s1.trans s2).fresh ((s1.trans s2).free nr)) upd_same⟩⟩
theorem ok_left_lists {f fr fl C : Addr} {fd dr dl : FuncData} {k : Nat} (F : Fun K "left_lists" "left_lists" sLeftLists f fd)
    (Gr : FnOk P w K mg base CX0 k fr dr ["wishes", "holds"] (spHeldRanks C)) (br : Binds K dr ["wishes", "holds"] []) (kr : PySem.W.keepIn K (.ref fr) = true) (mr : mg "held_ranks" = some (.ref fr))
    (Gl : FnOk P w K mg base CX0 k fl dl ["wishes", "most", "person"] (spLeftList C)) (bl : Binds K dl ["wishes", "most", "person"] []) (kl : PySem.W.keepIn K (.ref fl) = true) (mll : mg "_left_list" = some (.ref fl))
    (mt : mg "tuple" = none) (ml : mg "len" = none) (mrg : mg "range" = none) : FnOk P w K mg base CX0 (k + 1) f fd ["wishes", "holds"] (spLeftLists C) := by
  refine F.ok scLeftLists (fun vs H Q E h => ?_) (fun cdv A outer s H vs Q E hr h => ?_)
  · obtain ⟨wi, b, ns, ls, hs, rfl, _⟩ := h
    rfl
  · obtain ⟨wi, b, ns, ls, hs, rfl, W, eb, ho, q⟩ := h
    refine ⟨_, pss_cons (ps_set (i := 2) scLeftLists.nd rfl (.inr rfl) (pe_call Gr hr rfl mr kr br .nil pass0 (pa_cons (pv 0) (pa_cons (pv 1) pa_nil))))
      (pss_one (ps_ret (pe_callTy call_tuple_of (by rfl) mt (by decide +kernel) (pa_cons (pe_lc (own := [("person", 3)]) (g := gName 3) (tt := tYes) rfl scLeftLists.nd (pi_range1 rfl mrg (pa_cons (pe_callB call_len_seq (by rfl) ml PySem.boot_len (pa_cons (pv 1) pa_nil)) pa_nil))
          (blkOk_by (own := [("person", 3)]) (N := ["wishes", "holds", "most", "person"]) (sc := defScope sLeftLists) (by decide +kernel)) (fun _ _ _ _ _ => pg_name (i := 3) scLeftLists.nd rfl (Or.inl rfl)) (fun _ _ _ _ _ => pts_nil)
          (fun _ _ _ _ _ => pe_call Gl hr rfl mll kl bl .nil pass0 (pa_cons (pv 0) (pa_cons (pv 2) (pa_cons (pv 3) pa_nil))))) pa_nil)))), ?_⟩
    have n60 := W.n60.2
    refine ⟨_, rfl, _, rfl, wi, b, ns, ls, hs, rfl, W, eb, ho, fun m H1 s1 em => ?_⟩
    refine ⟨_, rfl, b, VH hs, rfl, .inr (SqT.of (s1 _ _ eb)), ?_⟩
    have lh : (VH hs).length = ls.length := by rw [VH_len, ho.len]
    rw [lh]
    refine ⟨_, rfl, by omega, by omega, fun D nD => ?_⟩
    refine lc_rows (J := Itr 0 ls.length) (n := ls.length) walk_range0 (by omega) (fun i => VI (leftL ls hs i)) nD (fun _ _ => trivial) ?_ ?_
    · rintro i x H2 H3 Z out hi sm ⟨rfl, rfl⟩
      exact gn ⟨rfl, _, rfl, _, rfl, _, rfl, wi, m, ns, ls, hs, i, rfl, (W.same s1).same sm, sm _ _ em, hi, fun r H4 s4 er => out r H4 s4 er⟩
    · intro rs H2 sm eD rl rows
      refine ⟨D, _, rfl, .inl ⟨SqL.of eD, fun r nr => q r _ ((s1.trans sm).fresh ((s1.trans sm).free nr)) ⟨rs, upd_same, ?_, ?_⟩⟩⟩
      · rw [rl]
        simp [leftA]
      · intro i a x e1 e2
        have : x = leftL ls hs i := by
          unfold leftA at e2
          rw [List.getElem?_map] at e2
          have hi := (List.getElem?_eq_some_iff.mp e1).1
          rw [List.getElem?_range (by omega)] at e2
          exact (Option.some.inj e2).symm
        rw [this]
        exact .inl (ofN nr (rows i a e1))
end
end K14
namespace K14
open PySem PySem.Spec PyProof.Rows L2
theorem head_at {f : Nat → Bool} {xs : List Nat} {i o : Nat} (e : xs[i]? = some o) (no : (xs.take i).filter f = []) (c : f o = true) : (xs.filter f).head? = some o := by
  have h : xs = xs.take i ++ (o :: xs.drop (i + 1)) := by
    have hi := (List.getElem?_eq_some_iff.mp e)
    obtain ⟨hl, rfl⟩ := hi
    rw [List.getElem_cons_drop, List.take_append_drop]
  rw [h, List.filter_append, no, List.nil_append, List.filter_cons, if_pos c]
  rfl
def hitB (xs : List (Option Nat)) (o : Option Nat) (p : Nat) : Bool := match o with
  | none => true
  | some j => decide (ha xs j = some p)
def steadyB (ls : List (List Nat)) (hs : List (Option Nat)) : Bool :=
  ((List.range ls.length).all fun p => hitB (firsts ls hs) (ha hs p) p) && ((List.range ls.length).all fun p => hitB hs (ha (firsts ls hs) p) p)
def spIsSteady (C : Addr) : Sp := fun vs H Q _ => ∃ (wi : Addr) (ns ls : List (List Nat)) (v : V), vs = [.ref wi, v] ∧ WAt C H wi ns ls ∧ Pl H v ∧ (∀ xs, tupOf H v = some xs → xs.length ≤ 1000 ∧ ∀ x ∈ xs, Pl H x) ∧
  (holdsV H ls v = false → ∀ H', Same H H' → Q (.bl false) H') ∧ (∀ hs, tupOf H v = some (VH hs) → HoldsOk ls hs → ∀ H', Same H H' → Q (.bl (steadyB ls hs)) H')
def withinB (ls : List (List Nat)) (h1 h2 : List (Option Nat)) : Bool := (List.range ls.length).all fun p => decide (most ls h1 p ≤ most ls h2 p)
def spAreWithin (C : Addr) : Sp := fun vs H Q _ => ∃ (wi a b : Addr) (ns ls : List (List Nat)) (h1 h2 : List (Option Nat)), vs = [.ref wi, .ref a, .ref b] ∧ WAt C H wi ns ls ∧ H a = some (.tup (VH h1)) ∧ H b = some (.tup (VH h2)) ∧ HoldsOk ls h1 ∧ HoldsOk ls h2 ∧ ∀ H', Same H H' → Q (.bl (withinB ls h1 h2)) H'
def spLeftWishes (C : Addr) : Sp := fun vs H Q _ => ∃ (wi b : Addr) (ns ls : List (List Nat)) (hs : List (Option Nat)), vs = [.ref wi, .ref b] ∧ WAt C H wi ns ls ∧ H b = some (.tup (VH hs)) ∧ HoldsOk ls hs ∧ ∀ r H', Same H H' → WAt C H' r ns (leftA ls hs) → Q (.ref r) H'
theorem firsts_len (ls : List (List Nat)) (hs : List (Option Nat)) : (firsts ls hs).length = ls.length := by simp [firsts]
theorem leftA_len (ls : List (List Nat)) (hs : List (Option Nat)) : (leftA ls hs).length = ls.length := by simp [leftA]
/-- the lists left are lists both ways -/
theorem la_of {ls : List (List Nat)} {p : Nat} {t : List Nat} (e : ls[p]? = some t) : la ls p = t := by
  unfold la
  rw [List.getD_eq_getElem?_getD, e]
  rfl
theorem ListsOk.mate {n : Nat} {ls : List (List Nat)} (ok : ListsOk n ls) {p o : Nat} (hp : p < n) (h : o ∈ la ls p) : o < n ∧ o ≠ p ∧ p ∈ K14.la ls o := by
  obtain ⟨h1, h2, t, et, hm⟩ := ok.both p _ o (la_get (by rw [ok.len]; exact hp)) h
  exact ⟨h1, h2, by rw [la_of et]; exact hm⟩
theorem ListsOk.nda {n : Nat} {ls : List (List Nat)} (ok : ListsOk n ls) {p : Nat} (hp : p < n) : (la ls p).Nodup := ok.nd p _ (la_get (by rw [ok.len]; exact hp))
theorem mem_take_idx {s : List Nat} (nd : s.Nodup) {m o : Nat} : o ∈ s.take (m + 1) ↔ o ∈ s ∧ s.idxOf o ≤ m := by
  constructor
  · intro h
    have hs := List.mem_of_mem_take h
    refine ⟨hs, ?_⟩
    obtain ⟨k, hk, ek⟩ := List.mem_iff_getElem.mp h
    rw [List.getElem_take] at ek
    rw [List.length_take] at hk
    have hl := List.idxOf_lt_length_of_mem hs
    have e1 : s[s.idxOf o]? = some o := by rw [List.getElem?_eq_getElem hl, List.getElem_idxOf]
    have e2 : s[k]? = some o := by rw [List.getElem?_eq_getElem (by omega), ek]
    have := nodup_ix nd e1 e2
    omega
  · rintro ⟨h, hm⟩
    have hl := List.idxOf_lt_length_of_mem h
    rw [List.mem_iff_getElem]
    refine ⟨s.idxOf o, by rw [List.length_take]; omega, ?_⟩
    rw [List.getElem_take, List.getElem_idxOf]
theorem mem_left {n : Nat} {ls : List (List Nat)} (ok : ListsOk n ls) {hs : List (Option Nat)} {p : Nat} (hp : p < n) {o : Nat} : o ∈ leftL ls hs p ↔ o ∈ la ls p ∧ (la ls p).idxOf o ≤ most ls hs p ∧ (la ls o).idxOf p ≤ most ls hs o := by
  unfold leftL keepF
  rw [List.mem_filter, mem_take_idx (ok.nda hp), decide_eq_true_eq, and_assoc]
theorem leftA_at {ls : List (List Nat)} {hs : List (Option Nat)} {p : Nat} {t : List Nat} (e : (leftA ls hs)[p]? = some t) : p < ls.length ∧ t = leftL ls hs p := by
  unfold leftA at e
  rw [List.getElem?_map] at e
  by_cases c : p < ls.length
  · rw [List.getElem?_range c] at e
    exact ⟨c, (Option.some.inj e).symm⟩
  · rw [List.getElem?_eq_none (by simpa using c)] at e
    cases e
theorem leftA_ok {n : Nat} {ls : List (List Nat)} (ok : ListsOk n ls) (hs : List (Option Nat)) : ListsOk n (leftA ls hs) := by
  refine ⟨by rw [leftA_len, ok.len], fun i s e => ?_, fun i s j e hj => ?_⟩
  · obtain ⟨h1, rfl⟩ := leftA_at e
    rw [ok.len] at h1
    unfold leftL
    exact List.Pairwise.filter _ ((List.take_sublist _ _).nodup (ok.nda h1))
  · obtain ⟨h1, rfl⟩ := leftA_at e
    rw [ok.len] at h1
    obtain ⟨a1, a2, a3⟩ := (mem_left ok h1).mp hj
    obtain ⟨b1, b2, b3⟩ := ok.mate h1 a1
    refine ⟨b1, b2, leftL ls hs j, ?_, (mem_left ok b1).mpr ⟨b3, a3, a2⟩⟩
    unfold leftA
    rw [List.getElem?_map, List.getElem?_range (by rw [ok.len]; exact b1)]
    rfl
section
variable {P : Program} {w : World} {K : PySem.W.Frag} {mg : Str → Option Value} {base : Heap}
end
end K14
namespace K14
open PySem PySem.Spec PyProof.Rows L2
/-! ### data -/
def dN (ns : List (List Nat)) : PyData := .tuple (ns.map fun s => .str (SS s))
def dI (s : List Nat) : PyData := .tuple (s.map fun j => .int (j : Nat))
def dL (ls : List (List Nat)) : PyData := .tuple (ls.map dI)
def dH (hs : List (Option Nat)) : PyData := .tuple (hs.map fun o => match o with | none => .none | some j => .int (j : Nat))
theorem layAll {xs : List PyData} (h : ∀ x ∈ xs, PyData.canLay0 x = true) : PyData.canLayAll0 xs = true := by
  induction xs with
  | nil => rfl
  | cons c r ih => simp only [PyData.canLayAll0, h c (by simp), ih (fun x hx => h x (by simp [hx])), Bool.and_self]
theorem depAll {xs : List PyData} {d : Nat} (h : ∀ x ∈ xs, PyData.depth x ≤ d) : PyData.depthAll xs ≤ d := by
  induction xs with
  | nil => simp [PyData.depthAll]
  | cons c r ih =>
    have h1 := h c (by simp)
    have h2 := ih (fun x hx => h x (by simp [hx]))
    simp only [PyData.depthAll]
    omega
theorem shaped_of {x : PyData} (h : PyData.canLay0 x = true) (d : PyData.depth x ≤ 64) : SeqAt.shaped x = true := by
  show (PyData.canLay0 x && decide (PyData.depth x ≤ 64)) = true
  rw [h, decide_eq_true d]
  rfl
theorem lay_dI (s : List Nat) : PyData.canLay0 (dI s) = true ∧ PyData.depth (dI s) ≤ 2 := by
  unfold dI
  constructor
  · simp only [PyData.canLay0]
    refine layAll fun x hx => ?_
    obtain ⟨j, _, rfl⟩ := List.mem_map.mp hx
    rfl
  · simp only [PyData.depth]
    have := depAll (xs := s.map fun j => PyData.int (j : Nat)) (d := 1) fun x hx => by
      obtain ⟨j, _, rfl⟩ := List.mem_map.mp hx
      simp [PyData.depth]
    omega
theorem sh_dL (ls : List (List Nat)) : SeqAt.shaped (dL ls) = true := by
  unfold dL
  refine shaped_of ?_ ?_
  · simp only [PyData.canLay0]
    refine layAll fun x hx => ?_
    obtain ⟨j, _, rfl⟩ := List.mem_map.mp hx
    exact (lay_dI j).1
  · simp only [PyData.depth]
    have := depAll (xs := ls.map dI) (d := 2) fun x hx => by
      obtain ⟨j, _, rfl⟩ := List.mem_map.mp hx
      exact (lay_dI j).2
    omega
theorem ok_str {s : List Nat} (h : s.length ≤ 6) (hc : ∀ c ∈ s, 97 ≤ c ∧ c ≤ 122) : PyData.canLay0 (.str (SS s)) = true := by
  simp only [PyData.canLay0]
  unfold PyData.strOk
  rw [Array.all_eq_true]
  intro i hi
  have := hc ((SS s).cps[i]) (by simp)
  rw [decide_eq_true_eq]
  omega
theorem sh_dN (ns : List (List Nat)) (h6 : ∀ s ∈ ns, s.length ≤ 6 ∧ ∀ c ∈ s, 97 ≤ c ∧ c ≤ 122) : SeqAt.shaped (dN ns) = true := by
  unfold dN
  refine shaped_of ?_ ?_
  · simp only [PyData.canLay0]
    refine layAll fun x hx => ?_
    obtain ⟨j, hj, rfl⟩ := List.mem_map.mp hx
    exact ok_str (h6 j hj).1 (h6 j hj).2
  · simp only [PyData.depth]
    have := depAll (xs := ns.map fun s => PyData.str (SS s)) (d := 1) fun x hx => by
      obtain ⟨j, _, rfl⟩ := List.mem_map.mp hx
      simp [PyData.depth]
    omega
theorem sh_dH (hs : List (Option Nat)) : SeqAt.shaped (dH hs) = true := by
  unfold dH
  refine shaped_of ?_ ?_
  · simp only [PyData.canLay0]
    refine layAll fun x hx => ?_
    obtain ⟨j, _, rfl⟩ := List.mem_map.mp hx
    cases j <;> rfl
  · simp only [PyData.depth]
    have := depAll (xs := hs.map fun o => match o with | none => PyData.none | some j => .int (j : Nat)) (d := 1) fun x hx => by
      obtain ⟨j, _, rfl⟩ := List.mem_map.mp hx
      cases j <;> simp [PyData.depth]
    omega
theorem dp_dI {K : PySem.W.Frag} {H : Hp} {a : Addr} {s : List Nat} (e : Tp H a (VI s)) : Dp K H (.ref a) (dI s) := by
  refine .tup e.sq ?_
  unfold VI
  clear e
  induction s with
  | nil => exact .nil
  | cons c r ih => exact .cons (.int _) ih
theorem dp_dN {K : PySem.W.Frag} {H : Hp} {a : Addr} {ns : List (List Nat)} (e : H a = some (.tup (VN ns))) : Dp K H (.ref a) (dN ns) := by
  refine .tup (SqT.of e) ?_
  unfold VN
  clear e
  induction ns with
  | nil => exact .nil
  | cons c r ih => exact .cons (.str _) ih
theorem dp_dH {K : PySem.W.Frag} {H : Hp} {a : Addr} {hs : List (Option Nat)} (e : H a = some (.tup (VH hs))) : Dp K H (.ref a) (dH hs) := by
  refine .tup (SqT.of e) ?_
  unfold VH
  clear e
  induction hs with
  | nil => exact .nil
  | cons c r ih =>
    cases c with
    | none => exact .cons .non ih
    | some j => exact .cons (.int _) ih
theorem dp_dL {K : PySem.W.Frag} {H : Hp} {a : Addr} {ls : List (List Nat)} (e : LT H a ls) : Dp K H (.ref a) (dL ls) := by
  obtain ⟨as, e1, al, rows⟩ := e
  refine .tup (SqT.of e1) ?_
  clear e1
  induction ls generalizing as with
  | nil =>
    cases as with
    | nil => exact .nil
    | cons b t => cases al
  | cons c r ih =>
    cases as with
    | nil => cases al
    | cons b t =>
      exact .cons (dp_dI (rows 0 b c rfl rfl)) (ih t (by simpa using al) fun i a s e1 e2 => rows (i + 1) a s (by simpa using e1) (by simpa using e2))
end K14
namespace K14
open PySem PySem.Spec PyProof.Rows L2
def spWEq (C : Addr) : Sp := spEq fun a b H => ∃ ns ls, WAt C H a ns ls ∧ WAt C H b ns ls
theorem scWEq : FnScope ["self", "other"] ["self", "other"] (defScope sWEq) := ⟨rfl, rfl, rfl, by decide +kernel, rfl, by decide +kernel, by decide +kernel⟩
theorem eq_dN (ns : List (List Nat)) (h : ∀ s ∈ ns, s.length ≤ 6 ∧ ∀ c ∈ s, 97 ≤ c ∧ c ≤ 122) : PyData.eqv (dN ns) (dN ns) = true := by
  refine SeqAt.eqv_refl _ ?_
  have := sh_dN ns h
  unfold SeqAt.shaped at this
  rw [Bool.and_eq_true] at this
  exact this.1
theorem eq_dL (ls : List (List Nat)) : PyData.eqv (dL ls) (dL ls) = true := by
  refine SeqAt.eqv_refl _ ?_
  have := sh_dL ls
  unfold SeqAt.shaped at this
  rw [Bool.and_eq_true] at this
  exact this.1
theorem mayV_hold {n : Nat} {s : List Nat} {v : V} (h : mayV n s v = true) : ∃ o, v = hv o ∧ ∀ j, o = some j → j < n ∧ j ∈ s := by
  cases v with
  | non => exact ⟨none, rfl, fun _ e => by cases e⟩
  | int i =>
    simp only [mayV, Bool.and_eq_true, decide_eq_true_eq] at h
    refine ⟨some i.toNat, ?_, fun j e => ?_⟩
    · show V.int i = V.int (i.toNat : Int)
      congr 1
      omega
    · cases e
      exact ⟨by omega, h.2⟩
  | bl b => cases h
  | str s => cases h
  | ref a => cases h
  | byt b => cases h
  | flt b => cases h
  | ty n => cases h
theorem holdsV_true {H : Hp} {ls : List (List Nat)} {v : V} (h : holdsV H ls v = true) : ∃ hs, tupOf H v = some (VH hs) ∧ HoldsOk ls hs := by
  unfold holdsV at h
  cases tv : tupOf H v with
  | none => rw [tv] at h; cases h
  | some xs =>
    rw [tv] at h
    dsimp only at h
    rw [Bool.and_eq_true, decide_eq_true_eq, List.all_eq_true] at h
    have each : ∀ i, i < xs.length → ∃ o, xs[i]? = some (hv o) ∧ ∀ j, o = some j → j < ls.length ∧ j ∈ la ls i := fun i hi => by
      obtain ⟨o, eo, ho⟩ := mayV_hold (h.2 i (List.mem_range.mpr hi))
      refine ⟨o, ?_, ho⟩
      rw [← eo, List.getD_eq_getElem?_getD, List.getElem?_eq_getElem hi]
      rfl
    let g : V → Option Nat := fun v => match v with | .int i => some i.toNat | _ => none
    have gv : ∀ o, g (hv o) = o := fun o => by
      cases o with
      | none => rfl
      | some j => exact congrArg some (Int.toNat_natCast j)
    refine ⟨xs.map g, ?_, ?_, ?_⟩
    · congr 1
      apply List.ext_getElem?
      intro i
      by_cases c : i < xs.length
      · obtain ⟨o, e, _⟩ := each i c
        unfold VH
        rw [List.getElem?_map, List.getElem?_map, e]
        show some (hv o) = some (hv (g (hv o)))
        rw [gv]
      · rw [List.getElem?_eq_none (by omega), List.getElem?_eq_none (by simpa [VH] using c)]
    · rw [List.length_map, h.1]
    · intro p j e
      unfold ha at e
      rw [List.getD_eq_getElem?_getD, List.getElem?_map] at e
      by_cases c : p < xs.length
      · obtain ⟨o, eo, ho⟩ := each p c
        rw [eo] at e
        have e' : g (hv o) = some j := e
        rw [gv] at e'
        exact ⟨by omega, (ho j e').2⟩
      · rw [List.getElem?_eq_none (by omega)] at e
        cases e
theorem first_lt {ls : List (List Nat)} {hs : List (Option Nat)} {p j : Nat} (ok : ListsOk ls.length ls) (hp : p < ls.length) (e : ha (firsts ls hs) p = some j) : j < ls.length := by
  unfold ha firsts at e
  rw [List.getD_eq_getElem?_getD, List.getElem?_map, List.getElem?_range hp] at e
  have e' : (leftL ls hs p).head? = some j := e
  have := List.mem_of_mem_head? (show j ∈ (leftL ls hs p).head? from e')
  exact (ok.mate hp ((mem_left ok hp).mp this).1).1
theorem scal_hv (o : Option Nat) (i : Int) : scal (hv o) (.int i) = true := by cases o <;> rfl
theorem dec_hv (o : Option Nat) (i : Nat) : decide (hv o = V.int (i : Nat)) = decide (o = some i) := by
  rw [decide_eq_decide]
  cases o with
  | none => exact ⟨fun e => (by cases e), fun e => (by cases e)⟩
  | some j =>
    constructor
    · intro e
      have : ((j : Nat) : Int) = (i : Nat) := V.int.inj e
      congr 1
      omega
    · intro e
      cases e
      rfl
section
variable {P : Program} {w : World} {K : PySem.W.Frag} {mg : Str → Option Value} {base : Heap}
theorem ok_weq {f C : Addr} {fd : FuncData} {k : Nat} (F : Fun K "__eq__" "Wishes.__eq__" sWEq f fd) (T : Txt K mg C) (ic : C8.InsC K C) (mis : mg "isinstance" = none) : FnOk P w K mg base CX0 (k + 1) f fd ["self", "other"] (spWEq C) := by
  refine F.ok scWEq (fun vs H Q E h => ?_) (fun cdv A outer s H vs Q E hr h => ?_)
  · obtain ⟨a, b, rfl, _⟩ := h
    rfl
  · obtain ⟨a, b, rfl, ⟨ns, ls, Wa, Wb⟩, q⟩ := h
    refine ⟨_, pss_one (ps_ret (pe_and (pe_callB (C8.call_isC ic) (by rfl) mis (by decide +kernel) (pa_cons (pv 1) (pa_cons (pe_glob (v := .ref C) rfl T.mgC rfl) pa_nil)))
      (pe_and (pe_cmpR (op_eqD hr.units) (pe_fld (pv 0) rfl) (pe_fld (pv 1) rfl) (nomark _)) (pe_one (pe_cmpR (op_eqD hr.units) (pe_fld (pv 0) rfl) (pe_fld (pv 1) rfl) (nomark _)))))), ?_⟩
    obtain ⟨dx, n, l, r, e1, e2, e3, e4⟩ := Wa.ex
    obtain ⟨dx', n', l', r', e1', e2', e3', e4'⟩ := Wb.ex
    have h6 : ∀ s ∈ ns, s.length ≤ 6 ∧ ∀ c ∈ s, 97 ≤ c ∧ c ≤ 122 := fun s hs => (Wa.nok.each s hs).2
    refine ⟨_, rfl, b, _, _, rfl, e1', true, rfl, iteT ?_⟩
    refine ⟨_, rfl, a, C, dx, _, _, rfl, e1, T.cl, T.nN, wf_names n l r, _, rfl, b, C, dx', _, _, rfl, e1', T.cl, T.nN, wf_names n' l' r', dN ns, dN ns, dp_dN e2, dp_dN e2', sh_dN ns h6, sh_dN ns h6, true, congrArg V.bl (eq_dN ns h6), iteT ?_⟩
    refine ⟨_, rfl, a, C, dx, _, _, rfl, e1, T.cl, T.nL, wf_lists n l r, _, rfl, b, C, dx', _, _, rfl, e1', T.cl, T.nL, wf_lists n' l' r', dL ls, dL ls, dp_dL e3, dp_dL e3', sh_dL ls, sh_dL ls, ?_⟩
    rw [eq_dL]
    exact q H fun _ _ e => e
end
end K14
namespace K14
open PySem PySem.Spec PyProof.Rows L2
/-! ### the law's own reading: ranks, lists left -/
def spRank : Sp := fun vs H Q _ => ∃ (a : Addr) (ls : List (List Nat)) (p : Nat) (o : Option Nat), vs = [.ref a, .int p, hv o] ∧ LX H a ls ∧ p < ls.length ∧ (∀ j, o = some j → j ∈ la ls p) ∧ Q (.int (rkN (la ls p) o : Nat)) H
theorem scRank : FnScope ["lists", "person", "other"] ["lists", "person", "other"] (defScope sRank) := ⟨rfl, rfl, rfl, by decide +kernel, rfl, by decide +kernel, by decide +kernel⟩
def spLeft : Sp := fun vs H Q _ => ∃ (a b : Addr) (ls : List (List Nat)) (hs : List (Option Nat)), vs = [.ref a, .ref b] ∧ LX H a ls ∧ H b = some (.tup (VH hs)) ∧ HoldsOk ls hs ∧ ListsOk ls.length ls ∧ ls.length ≤ 100 ∧ ∀ r H', Same H H' → LT H' r (leftA ls hs) → Q (.ref r) H'
theorem scLeft : FnScope ["lists", "holds", "person", "bounds", "found", "some", "other"] ["lists", "holds"] (defScope sLeft) := ⟨rfl, rfl, rfl, by decide +kernel, rfl, by decide +kernel, by decide +kernel⟩
theorem take_filter {s : List Nat} (nd : s.Nodup) (m : Nat) : s.filter (fun o => decide (s.idxOf o ≤ m)) = s.take (m + 1) := by
  have key : ∀ (k : Nat), k ≤ s.length → (s.take k).filter (fun o => decide (s.idxOf o ≤ m)) = s.take (min k (m + 1)) := by
    intro k
    induction k with
    | zero => intro _; simp
    | succ k ih =>
      intro hk
      have hl : k < s.length := hk
      have e : s[k]? = some s[k] := List.getElem?_eq_getElem hl
      have ix : s.idxOf s[k] = k := by
        have hm := List.getElem_mem hl
        have hl2 := List.idxOf_lt_length_of_mem hm
        exact nodup_ix nd (by rw [List.getElem?_eq_getElem hl2, List.getElem_idxOf]) e
      rw [List.take_succ, e, List.filter_append, ih (by omega)]
      show s.take (min k (m + 1)) ++ [s[k]].filter _ = _
      rw [List.filter_cons, ix]
      by_cases c : k ≤ m
      · rw [if_pos (by simpa using c), List.filter_nil, Nat.min_eq_left (by omega), Nat.min_eq_left (by omega), List.take_succ, e]
        rfl
      · rw [if_neg (by simpa using c), List.filter_nil, List.append_nil, Nat.min_eq_right (by omega), Nat.min_eq_right (by omega)]
  have h := key s.length (Nat.le_refl _)
  rw [List.take_length] at h
  rw [h]
  by_cases c : m + 1 ≤ s.length
  · rw [Nat.min_eq_right c]
  · rw [Nat.min_eq_left (by omega), List.take_length, List.take_of_length_le (by omega)]
theorem LX.at {H : Hp} {r : Addr} {ls : List (List Nat)} (t : LX H r ls) {i : Nat} {s : List Nat} (e : ls[i]? = some s) : ∃ xs a, H r = some (.tup xs) ∧ xs[i]? = some (.ref a) ∧ Ex H a (VI s) := by
  obtain ⟨as, e1, l, q⟩ := t
  have hi := (List.getElem?_eq_some_iff.mp e).1
  have ha : i < as.length := by omega
  exact ⟨_, as[i], e1, by rw [List.getElem?_map, List.getElem?_eq_getElem ha]; rfl, q i _ s (List.getElem?_eq_getElem ha) e⟩
section
variable {P : Program} {w : World} {K : PySem.W.Frag} {mg : Str → Option Value} {base : Heap}
theorem ok_rank {f : Addr} {fd : FuncData} {k : Nat} (F : Fun K "_law_rank" "_law_rank" sRank f fd) (ml : mg "len" = none) : FnOk P w K mg base CX0 (k + 1) f fd ["lists", "person", "other"] spRank := by
  refine F.ok scRank (fun vs H Q E h => ?_) (fun cdv A outer s H vs Q E hr h => ?_)
  · obtain ⟨a, ls, p, o, rfl, _⟩ := h
    rfl
  · obtain ⟨a, ls, p, o, rfl, lt, hp, ho, q⟩ := h
    refine ⟨_, pss_one (ps_ret (pe_ifExp (pt_cmpR op_isN (pv 2) pe_non (nomark _)) (pe_callB call_len_seq (by rfl) ml PySem.boot_len (pa_cons (pe_ix ix_tup (pv 0) (pv 1) (fun _ _ => rfl)) pa_nil)) (pe_bmT PySem.F.plainAttrs_tuple PySem.F.slot_tuple_index PySem.F.type_tuple_index mt_tupIdx (pe_ix ix_tup (pv 0) (pv 1) (fun _ _ => rfl)) (pa_cons (pv 2) pa_nil)))), ?_⟩
    obtain ⟨rows, c, er, ec, ev⟩ := LX.at lt (la_get hp)
    refine ⟨_, rfl, rfl, _, rfl, ?_⟩
    cases o with
    | none =>
      refine iteT ⟨_, rfl, _, rfl, a, rows, _, _, rfl, rfl, SqT.of er, atI_nat ec, c, _, rfl, .inr (Tp.sq (.inr ev)), ?_⟩
      rw [VI_len]
      exact q
    | some j =>
      refine iteF ⟨_, rfl, _, rfl, a, rows, _, _, rfl, rfl, SqT.of er, atI_nat ec, ⟨c, _, rfl, ev⟩, _, rfl, c, la ls p, j, rfl, rfl, Tp.sq (.inr ev), ho j rfl, q⟩
end
end K14
namespace K14
open PySem PySem.Spec PyProof.Rows L2
section
variable {J : It} {n : Nat} {G : Hp → Prop} {Y : Nat → Hp → V → Hp → Prop}
/-- a comprehension with a test that leaves all as it stood: the items at which the test is true -/
theorem lc_sel (w : Walk J n G Y) {g : TG} {tt : TT} {te : TE} {vs : List Nat} {σ : L2.St} {H0 : Hp} {D : Addr} {Qd : Hp → Prop} (hn : n ≤ 100000) (xs : List V) (f : V → Bool) (xl : xs.length = n) (nD : H0 D = none) (hG : ∀ H, Same H0 H → G H)
    (hs : ∀ (i : Nat) (x : V) (H H' : Hp) (R : Hp → Prop) (Z : V → Hp → Prop), (∀ H3, Same H H3 → f (xs.getD i .non) = true → Z (xs.getD i .non) H3) → (∀ H3, Same H H3 → f (xs.getD i .non) = false → R H3) → i < n → Same H0 H → Y i H x H' → g x (wipe σ vs) H' fun σ2 H2 => wipe σ2 vs = wipe σ vs ∧ tt σ2 H2 fun b H3 => if b = true then te σ2 H3 Z else R H3)
    (hd : ∀ H, Same H0 H → H D = some (.lst (xs.filter f)) → Qd H) :
    ∃ W : Nat → Nat → Hp → Prop, (∃ m, W 0 m (upd H0 D (.lst []))) ∧ ∀ i m H, W i m H →
      (J.stop i H ∧ Qd H) ∨ (J.go i H ∧ ∃ Nx : Hp → Prop, (∀ H', Nx H' → ∃ m', m' < m ∧ W (i + 1) m' H') ∧ ∀ x H', J.yld i H x H' → g x (wipe σ vs) H' fun σ2 H2 => wipe σ2 vs = wipe σ vs ∧ tt σ2 H2 fun b H3 =>
        if b = true then te σ2 H3 fun y H4 => ∃ acc, H4 D = some (.lst acc) ∧ acc.length < sizeLine ∧ Nx (upd H4 D (.lst (acc ++ [y]))) else Nx H3) := by
  refine lc_it w (fun i H => Same H0 H ∧ H D = some (.lst ((xs.take i).filter f))) ⟨same_upd nD, by rw [upd_same, List.take_zero]; rfl⟩ (fun i H _ h => hG H h.1) (fun i x H H' hi h y => ?_) (fun H h => hd H h.1 (by rw [← xl, List.take_length] at h; exact h.2))
  have tk : xs.take (i + 1) = xs.take i ++ [xs.getD i .non] := by
    rw [List.take_succ, List.getD_eq_getElem?_getD, List.getElem?_eq_getElem (by omega)]
    rfl
  refine hs i x H H' (fun H => Same H0 H ∧ H D = some (.lst ((xs.take (i + 1)).filter f))) (fun v H3 => ∃ acc, H3 D = some (.lst acc) ∧ acc.length < sizeLine ∧ (fun H => Same H0 H ∧ H D = some (.lst ((xs.take (i + 1)).filter f))) (upd H3 D (.lst (acc ++ [v])))) (fun H3 z ft => ?_) (fun H3 z ff => ?_) hi h.1 y
  · refine ⟨_, z _ _ h.2, ?_, (h.1.trans z).fresh nD, ?_⟩
    · refine sz6' (Nat.le_trans (List.length_filter_le _ _) ?_)
      rw [List.length_take]
      omega
    · rw [upd_same, tk, List.filter_append, List.filter_cons, if_pos ft, List.filter_nil]
  · refine ⟨h.1.trans z, ?_⟩
    rw [z _ _ h.2, tk, List.filter_append, List.filter_cons, if_neg (by rw [ff]; decide), List.filter_nil, List.append_nil]
end
theorem VI_getD {s : List Nat} {i : Nat} (h : i < s.length) : (VI s).getD i .non = .int (s[i] : Nat) := by
  rw [List.getD_eq_getElem?_getD, VI_get (List.getElem?_eq_getElem h)]
  rfl
def fV (g : Nat → Bool) : V → Bool
  | .int i => g i.toNat
  | _ => false
theorem VI_filter (s : List Nat) (g : Nat → Bool) : (VI s).filter (fV g) = VI (s.filter g) := by
  unfold VI
  rw [List.filter_map]
  rfl
section
variable {P : Program} {w : World} {K : PySem.W.Frag} {mg : Str → Option Value} {base : Heap}
theorem ok_left {f fr : Addr} {fd dr : FuncData} {k : Nat} (F : Fun K "_law_left" "_law_left" sLeft f fd)
    (Gr : FnOk P w K mg base CX0 k fr dr ["lists", "person", "other"] spRank) (br : Binds K dr ["lists", "person", "other"] []) (kr : PySem.W.keepIn K (.ref fr) = true) (mr : mg "_law_rank" = some (.ref fr)) (ml : mg "len" = none) (mrg : mg "range" = none) (mt : mg "tuple" = none) : FnOk P w K mg base CX0 (k + 1) f fd ["lists", "holds"] spLeft := by
  refine F.ok scLeft (fun vs H Q E h => ?_) (fun cdv A outer s H vs Q E hr h => ?_)
  · obtain ⟨a, b, ls, hs, rfl, _⟩ := h
    rfl
  · obtain ⟨a, b, ls, hs, rfl, lx, eb, ho, ok, hn, q⟩ := h
    refine ⟨_, pss_cons (ps_set (i := 3) scLeft.nd rfl (.inr rfl) (pe_lc (own := [("person", 2)]) (g := gName 2) (tt := tYes) (te := tCall spRank [] E0 (tCons (tVar 0) (tCons (tVar 2) (tCons (tOp (rIxT K) (tVar 1) (tVar 2)) tNil)))) rfl scLeft.nd (pi_range1 rfl mrg (pa_cons (pe_callB call_len_seq (by rfl) ml PySem.boot_len (pa_cons (pv 0) pa_nil)) pa_nil))
          (blkOk_by (own := [("person", 2)]) (N := ["lists", "holds", "person", "bounds", "found", "some", "other"]) (sc := defScope sLeft) (by decide +kernel)) (fun _ _ _ _ _ => pg_name (i := 2) scLeft.nd rfl (Or.inl rfl)) (fun _ _ _ _ _ => pts_nil)
          (fun _ _ _ _ _ => pe_call Gr hr rfl mr kr br .nil pass0 (pa_cons (pv 0) (pa_cons (pv 2) (pa_cons (pe_ix ix_tup (pv 1) (pv 2) (fun _ _ => rfl)) pa_nil))))))
      (pss_cons (ps_set (i := 4) scLeft.nd rfl (.inl rfl) (pe_lst pa_nil))
      (pss_cons (ps_for PassesOwn.never rfl (pi_range1 rfl mrg (pa_cons (pe_callB call_len_seq (by rfl) ml PySem.boot_len (pa_cons (pv 0) pa_nil)) pa_nil)) (pg_name (i := 2) scLeft.nd rfl (.inr rfl))
        (pss_cons (ps_setLc (i := 5) (own := [("other", 6)]) (g := gName 6) (tt := tTest (tOp (rI0 fun i j => V.bl (decide (i ≤ j))) (tCall spRank [] E0 (tCons (tVar 0) (tCons (tVar 2) (tCons (tVar 6) tNil)))) (tOp (rIxL K) (tVar 3) (tVar 2)))) rfl scLeft.nd rfl rfl (sw_true rfl rfl rfl (by decide +kernel)) (pi_tup (pe_ix ix_tup (pv 0) (pv 2) (fun _ _ => rfl)))
            (blkOk_by (own := [("other", 6)]) (N := ["lists", "holds", "person", "bounds", "found", "some", "other"]) (sc := defScope sLeft) (by decide +kernel)) (fun _ _ _ _ _ => pg_name (i := 6) scLeft.nd rfl (Or.inl rfl)) (fun _ _ _ _ _ => pts_one (pt_cmpR op_le (pe_call Gr hr rfl mr kr br .nil pass0 (pa_cons (pv 0) (pa_cons (pv 2) (pa_cons (pv 6) pa_nil)))) (pe_ix ix_list (pv 3) (pv 2) (fun _ _ => rfl)) (nomark _)))
            (fun _ _ _ _ _ => pv 6))
        (pss_one (ps_expr (pe_bm PySem.F.plainAttrs_list PySem.F.slot_list_append PySem.F.type_list_append mt_append (pv 4) (pa_cons (pe_callTy call_tuple_of (by rfl) mt (by decide +kernel) (pa_cons (pe_lc (own := [("other", 6)]) (g := gName 6) (tt := tTest (tOp (rI0 fun i j => V.bl (decide (i ≤ j))) (tCall spRank [] E0 (tCons (tVar 0) (tCons (tVar 6) (tCons (tVar 2) tNil)))) (tOp (rIxL K) (tVar 3) (tVar 6)))) rfl scLeft.nd (pi_list (pv 5))
            (blkOk_by (own := [("other", 6)]) (N := ["lists", "holds", "person", "bounds", "found", "some", "other"]) (sc := defScope sLeft) (by decide +kernel)) (fun _ _ _ _ _ => pg_name (i := 6) scLeft.nd rfl (Or.inl rfl)) (fun _ _ _ _ _ => pts_one (pt_cmpR op_le (pe_call Gr hr rfl mr kr br .nil pass0 (pa_cons (pv 0) (pa_cons (pv 6) (pa_cons (pv 2) pa_nil)))) (pe_ix ix_list (pv 3) (pv 6) (fun _ _ => rfl)) (nomark _)))
            (fun _ _ _ _ _ => pv 6)) pa_nil)) pa_nil))))))
      (pss_one (ps_ret (pe_callTy call_tuple_of (by rfl) mt (by decide +kernel) (pa_cons (pv 4) pa_nil)))))), ?_⟩
    obtain ⟨xs, ea, xl⟩ := lx.lt.len
    refine ⟨_, rfl, a, xs, rfl, .inr (SqT.of ea), ?_⟩
    rw [xl]
    refine ⟨_, rfl, by omega, by omega, fun B nB => ?_⟩
    refine lc_same (J := Itr 0 ls.length) (n := ls.length) walk_range0 (by omega) (fun i => .int (most ls hs i : Nat)) nB (fun _ _ => trivial) ?_ ?_
    · rintro i x H2 H3 Z out hi sm ⟨rfl, rfl⟩
      exact gn ⟨rfl, _, rfl, _, rfl, _, rfl, _, rfl, b, _, _, _, rfl, rfl, SqT.of (sm _ _ eb), atI_nat (VH_get (ha_get (by rw [ho.len]; exact hi))), a, ls, i, ha hs i, rfl, lx.same sm, hi, fun j ej => (ho.on i j ej).2, out _ same_rfl⟩
    · intro H1 s1 eB
      refine gn ⟨Nat.zero_le _, fun D nD => ?_⟩
      have s2 : Same H (upd H1 D (.lst [])) := s1.fresh (s1.free nD)
      have nBD : B ≠ D := ne_of_none eB nD
      have eB2 : (upd H1 D (.lst [])) B = some (.lst (VM ls hs)) := by rw [upd_ne nBD]; exact eB
      have eD2 : (upd H1 D (.lst [])) D = some (.lst []) := upd_same
      have nD0 := s1.free nD
      generalize upd H1 D (.lst []) = H2 at s2 eB2 eD2
      dsimp only [List.set, L2.start]
      refine ⟨_, rfl, a, xs, rfl, .inr (SqT.of (s2 _ _ ea)), ?_⟩
      rw [xl]
      refine ⟨_, rfl, by omega, by omega, for_it (J := Itr 0 ls.length) (n := ls.length) walk_range0 (fun i σ H' => ∃ (ts : List Addr) (y z : Option V), σ = [some (.ref a), some (.ref b), y, some (.ref B), some (.ref D), z, none] ∧ Same H H' ∧ H' B = some (.lst (VM ls hs)) ∧ H' D = some (.lst (ts.map V.ref)) ∧ ts.length = i ∧ ∀ (j : Nat) (t : Addr), ts[j]? = some t → H' t = some (.tup (VI (leftL ls hs j))))
        ⟨[], none, none, rfl, s2, eB2, eD2, rfl, fun _ _ e => by simp at e⟩ (fun _ _ _ _ _ => trivial) ?_ ?_⟩
      · rintro i x σ H3 H4 hi ⟨ts, y, z, rfl, s3, eB3, eD3, tl, old⟩ ⟨rfl, rfl⟩
        refine gn ?_
        dsimp only [List.set]
        obtain ⟨rows, c, er, ec, ev⟩ := lx.at (la_get hi)
        have len60 := ok.each (la_get hi)
        refine ⟨_, rfl, _, rfl, a, rows, _, _, rfl, rfl, SqT.of (s3 _ _ er), atI_nat ec, c, rfl, ⟨_, Tp.sq (.inr (ev.same s3))⟩, fun S nS => ?_⟩
        refine lc_sel (walk_tup (K := K) (a := c) (xs := VI (la ls i))) (by rw [VI_len]; omega) (VI (la ls i)) (fV fun o => decide ((la ls i).idxOf o ≤ most ls hs i)) rfl nS (fun _ sm => Tp.sq (.inr ((ev.same s3).same sm))) ?_ ?_
        · rintro m x H5 H6 R Z yes' no' hm sm ⟨rfl, ex⟩
          rw [VI_len] at hm
          have ex2 : (VI (la ls i))[m]? = some x := ex
          rw [VI_get (List.getElem?_eq_getElem hm)] at ex2
          cases ex2
          have hin := List.getElem_mem hm
          rw [VI_getD hm] at yes' no'
          refine gn ⟨rfl, _, rfl, _, rfl, _, rfl, a, ls, i, some (la ls i)[m], rfl, (lx.same s3).same sm, hi, fun j e => by cases e; exact hin, _, rfl, _, rfl, B, _, _, _, rfl, rfl, SqL.of (sm _ _ eB3), atI_nat (VM_get hi), _, _, rfl, rfl, decide ((la ls i).idxOf (la ls i)[m] ≤ most ls hs i), ?_, ?_⟩
          · refine congrArg V.bl ?_
            rw [decide_eq_decide]
            show (((la ls i).idxOf (la ls i)[m] : Nat) : Int) ≤ _ ↔ _
            omega
          · refine ite2 (fun c => ?_) (fun c => ?_)
            · exact ⟨_, rfl, yes' _ same_rfl (by show decide _ = true; exact c)⟩
            · exact no' _ same_rfl (by show decide _ = false; exact decide_eq_false (fun h => c (decide_eq_true h)))
        · intro H5 s5 eS
          rw [VI_filter, take_filter (ok.nda hi)] at eS
          refine gn ?_
          dsimp only [List.set]
          refine ⟨_, rfl, .inl ⟨rfl, _, SqL.of (s5 _ _ eD3)⟩, _, rfl, S, rfl, ⟨_, SqL.of eS⟩, fun U nU => ?_⟩
          refine lc_sel (walk_list (K := K) (a := S) (xs := VI ((la ls i).take (most ls hs i + 1)))) (by rw [VI_len, List.length_take]; omega) (VI ((la ls i).take (most ls hs i + 1))) (fV (keepF ls hs i)) rfl nU (fun _ sm => SqL.of (sm _ _ eS)) ?_ ?_
          · rintro m x H6 H7 R Z yes' no' hm sm ⟨rfl, ex⟩
            rw [VI_len] at hm
            have ex2 : (VI ((la ls i).take (most ls hs i + 1)))[m]? = some x := ex
            rw [VI_get (List.getElem?_eq_getElem hm)] at ex2
            cases ex2
            have hin := List.mem_of_mem_take (List.getElem_mem hm)
            obtain ⟨h1, h2, h3⟩ := ok.mate hi hin
            rw [VI_getD hm] at yes' no'
            have s6 := (s3.trans s5).trans sm
            refine gn ⟨rfl, _, rfl, _, rfl, _, rfl, a, ls, _, some i, rfl, lx.same s6, h1, fun j e => by cases e; exact h3, _, rfl, _, rfl, B, _, _, _, rfl, rfl, SqL.of ((s5.trans sm) _ _ eB3), atI_nat (VM_get h1), _, _, rfl, rfl, keepF ls hs i ((la ls i).take (most ls hs i + 1))[m], ?_, ?_⟩
            · refine congrArg V.bl ?_
              unfold keepF
              rw [decide_eq_decide]
              show (((la ls _).idxOf i : Nat) : Int) ≤ _ ↔ _
              omega
            · refine ite2 (fun c => ?_) (fun c => ?_)
              · exact ⟨_, rfl, yes' _ same_rfl c⟩
              · rw [Bool.not_eq_true] at c
                exact no' _ same_rfl c
          · intro H6 s6 eU
            rw [VI_filter] at eU
            refine ⟨U, _, rfl, .inl ⟨SqL.of eU, fun t nt => ?_⟩⟩
            have nDt : D ≠ t := ne_of_none ((s5.trans s6) _ _ eD3) nt
            have s7 : Same H6 (upd H6 t (.tup (VI (leftL ls hs i)))) := same_upd nt
            have e7 : (upd H6 t (.tup (VI (leftL ls hs i)))) t = some (.tup (VI (leftL ls hs i))) := upd_same
            have s37 : Same H4 (upd H6 t (.tup (VI (leftL ls hs i)))) := (s5.trans s6).trans s7
            refine ⟨D, _, _, rfl, rfl, s37 _ _ eD3, by rw [List.length_map]; exact sz6' (by omega), ts ++ [t], _, _, rfl, (s3.trans s37).fresh nD0, by rw [upd_ne nBD]; exact s37 _ _ eB3, by rw [upd_same]; simp, by simp [tl], fun j u e => ?_⟩
            by_cases c : j < ts.length
            · rw [List.getElem?_append_left c] at e
              have e8 := s37 _ _ (old j u e)
              rw [upd_ne (fun z => by rw [z, s37 _ _ eD3] at e8; cases e8)]
              exact e8
            · rw [List.getElem?_append_right (by omega), List.getElem?_singleton] at e
              split at e
              · cases e
                have : j = i := by omega
                subst this
                rw [upd_ne (Ne.symm nDt)]
                exact e7
              · cases e
      · rintro σ H3 ⟨ts, y, z, rfl, s3, eB3, eD3, tl, old⟩
        refine ⟨_, rfl, D, _, rfl, .inl ⟨SqL.of eD3, fun r nr => q r _ (s3.fresh (s3.free nr)) ⟨ts, upd_same, by rw [tl, leftA_len], fun i' a' x' e1 e2 => ?_⟩⟩⟩
        obtain ⟨_, rfl⟩ := leftA_at e2
        exact .inl (ofN nr (old i' a' e1))
end
end K14
namespace K14
open PySem PySem.Spec PyProof.Rows L2
/-! ### all partings -/
def ext (ls : List (List Nat)) (k : Nat) (row : List Nat) : List (List Nat) := ((la ls k ++ [k]).filter (fun o => decide (o ∉ row))).map (fun o => row ++ [o])
def parts (ls : List (List Nat)) : Nat → List (List Nat)
  | 0 => [[]]
  | k + 1 => (parts ls k).flatMap (ext ls k)
theorem ext_len {ls : List (List Nat)} {k n : Nat} {row : List Nat} (h : (la ls k).length ≤ n) : (ext ls k row).length ≤ n + 1 := by
  unfold ext
  rw [List.length_map]
  refine Nat.le_trans (List.length_filter_le _ _) ?_
  simp
  exact h
theorem flat_len {α β : Type} {xs : List α} {f : α → List β} {n : Nat} (h : ∀ x ∈ xs, (f x).length ≤ n) : (xs.flatMap f).length ≤ xs.length * n := by
  induction xs with
  | nil => simp
  | cons a r ih =>
    rw [List.flatMap_cons, List.length_append, List.length_cons, Nat.succ_mul]
    have h1 := h a (by simp)
    have h2 := ih (fun x hx => h x (by simp [hx]))
    omega
theorem parts_len {ls : List (List Nat)} {c : Nat} (h : ∀ k, (la ls k).length + 1 ≤ c) : ∀ k, (parts ls k).length ≤ c ^ k
  | 0 => by simp [parts]
  | k + 1 => by
    rw [parts, Nat.pow_succ]
    exact Nat.le_trans (flat_len fun x _ => Nat.le_trans (ext_len (Nat.le_refl _)) (h k)) (Nat.mul_le_mul_right c (parts_len h k))
/-- lists so short that all partings can be looked at -/
structure Few (ls : List (List Nat)) : Prop where
  len : ls.length ≤ 20
  ex : ∃ c, 1 ≤ c ∧ c ≤ 10 ∧ (∀ k, (la ls k).length + 1 ≤ c) ∧ c ^ ls.length ≤ 7776
theorem parts_row {ls : List (List Nat)} : ∀ k row, row ∈ parts ls k → row.length = k
  | 0, row, h => by
    rw [parts, List.mem_singleton] at h
    rw [h]
    rfl
  | k + 1, row, h => by
    rw [parts, List.mem_flatMap] at h
    obtain ⟨r, hr, hm⟩ := h
    unfold ext at hm
    obtain ⟨o, _, rfl⟩ := List.mem_map.mp hm
    rw [List.length_append, parts_row k r hr]
    rfl
/-- tuples of numbers at these places -/
def RsT (H : Hp) (us : List Addr) (rows : List (List Nat)) : Prop := us.length = rows.length ∧ ∀ (j : Nat) (u : Addr) (r : List Nat), us[j]? = some u → rows[j]? = some r → H u = some (.tup (VI r))
theorem RsT.same {H H' : Hp} {us : List Addr} {rows : List (List Nat)} (t : RsT H us rows) (s : Same H H') : RsT H' us rows := ⟨t.1, fun j u r e1 e2 => s _ _ (t.2 j u r e1 e2)⟩
theorem RsT.nil {H : Hp} : RsT H [] [] := ⟨rfl, fun _ _ _ e => by simp at e⟩
theorem RsT.put {H : Hp} {D : Addr} {xs : List V} {o : HO} {us : List Addr} {rows : List (List Nat)} (t : RsT H us rows) (e : H D = some (.lst xs)) : RsT (upd H D o) us rows := ⟨t.1, fun j u r e1 e2 => by
  have e3 := t.2 j u r e1 e2
  rw [upd_ne (fun z => by rw [z, e] at e3; cases e3)]
  exact e3⟩
theorem RsT.app {H : Hp} {us us' : List Addr} {rows rows' : List (List Nat)} (t : RsT H us rows) (t' : RsT H us' rows') : RsT H (us ++ us') (rows ++ rows') := by
  refine ⟨by rw [List.length_append, List.length_append, t.1, t'.1], fun j u r e1 e2 => ?_⟩
  by_cases c : j < us.length
  · rw [List.getElem?_append_left c] at e1
    rw [List.getElem?_append_left (by rw [← t.1]; exact c)] at e2
    exact t.2 j u r e1 e2
  · rw [List.getElem?_append_right (by omega)] at e1
    rw [List.getElem?_append_right (by rw [← t.1]; omega), ← t.1] at e2
    exact t'.2 _ u r e1 e2
theorem RsT.one {H : Hp} {u : Addr} {r : List Nat} (e : H u = some (.tup (VI r))) : RsT H [u] [r] := ⟨rfl, fun j v q e1 e2 => by
  rw [List.getElem?_singleton] at e1 e2
  split at e1
  · rename_i c
    subst c
    cases e1
    cases e2
    exact e
  · cases e1⟩
theorem RsT.at {H : Hp} {us : List Addr} {rows : List (List Nat)} {j : Nat} {x : V} (t : RsT H us rows) (e : (us.map V.ref)[j]? = some x) : ∃ u r, x = .ref u ∧ rows[j]? = some r ∧ H u = some (.tup (VI r)) := by
  rw [List.getElem?_map] at e
  cases h : us[j]? with
  | none => rw [h] at e; cases e
  | some u =>
    rw [h] at e
    have hj := (List.getElem?_eq_some_iff.mp h).1
    have hr : j < rows.length := by rw [← t.1]; exact hj
    exact ⟨u, rows[j], (Option.some.inj e).symm, List.getElem?_eq_getElem hr, t.2 j u _ h (List.getElem?_eq_getElem hr)⟩
theorem catA {K : PySem.W.Frag} {H : Hp} {a b : Addr} {s t : List Nat} {Q : VK} (ea : Tp H a (VI s)) (eb : H b = some (.tup (VI t))) (nt : t ≠ []) (le : s.length + t.length ≤ 1000) (q : ∀ c H', Same H H' → H' c = some (.tup (VI (s ++ t))) → Q (.ref c) H') : rCatA K (.ref a) (.ref b) H Q := by
  refine ⟨a, b, VI s, VI t, rfl, rfl, ea.sq, SqT.of eb, by rw [VI_len, VI_len]; exact sz5 (by omega), fun h => ?_, fun _ h => ?_, fun _ _ p np => q p _ (same_upd np) (by rw [upd_same, VI_app])⟩
  · have : s = [] := by
      cases s with
      | nil => rfl
      | cons x r => cases h
    subst this
    exact q b H same_rfl eb
  · exfalso
    cases t with
    | nil => exact nt rfl
    | cons x r => cases h
def spPartings : Sp := fun vs H Q _ => ∃ (a : Addr) (ls : List (List Nat)), vs = [.ref a] ∧ LT H a ls ∧ Few ls ∧ ListsOk ls.length ls ∧ ∀ r us H', Same H H' → H' r = some (.lst (us.map V.ref)) → RsT H' us (parts ls ls.length) → Q (.ref r) H'
theorem la_len {ls : List (List Nat)} (ok : ListsOk ls.length ls) (k : Nat) : (la ls k).length ≤ ls.length := by
  by_cases c : k < ls.length
  · exact ok.each (la_get c)
  · unfold la
    rw [List.getD_eq_getElem?_getD, List.getElem?_eq_none (by omega)]
    exact Nat.zero_le _
end K14
namespace K14
open PySem PySem.Spec PyProof.Rows L2
section
variable {P : Program} {w : World} {K : PySem.W.Frag} {mg : Str → Option Value} {base : Heap}
end
end K14
namespace K14
open PySem PySem.Spec PyProof.Rows L2
structure RowOk (n : Nat) (row : List Nat) : Prop where
  len : row.length = n
  nd : row.Nodup
  lt : ∀ j ∈ row, j < n
def befI (row : List Nat) (i j : Nat) : Option Nat := if j ∈ row.take i ∧ row.idxOf j ≠ j then some (row.idxOf j) else none
def bef (row : List Nat) (j : Nat) : Option Nat := if j ∈ row ∧ row.idxOf j ≠ j then some (row.idxOf j) else none
def befs (row : List Nat) : List (Option Nat) := (List.range row.length).map (bef row)
def nxt (row : List Nat) (p : Nat) : Option Nat := if row.getD p p = p then none else some (row.getD p p)
def nxts (row : List Nat) : List (Option Nat) := (List.range row.length).map (nxt row)
def spBefore : Sp := fun vs H Q _ => ∃ (t : Addr) (n : Nat) (row : List Nat), vs = [.ref t] ∧ H t = some (.tup (VI row)) ∧ RowOk n row ∧ n ≤ 100 ∧ ∀ r H', Same H H' → H' r = some (.tup (VH (befs row))) → Q (.ref r) H'
def spNext : Sp := fun vs H Q _ => ∃ (t : Addr) (n : Nat) (row : List Nat), vs = [.ref t] ∧ H t = some (.tup (VI row)) ∧ RowOk n row ∧ n ≤ 100 ∧ ∀ r H', Same H H' → H' r = some (.tup (VH (nxts row))) → Q (.ref r) H'
theorem idx_at {row : List Nat} (nd : row.Nodup) {i x : Nat} (e : row[i]? = some x) : row.idxOf x = i := by
  have hm := List.mem_of_getElem? e
  have hl := List.idxOf_lt_length_of_mem hm
  exact nodup_ix nd (by rw [List.getElem?_eq_getElem hl, List.getElem_idxOf]) e
theorem befI_succ {row : List Nat} (nd : row.Nodup) {i x : Nat} (e : row[i]? = some x) (j : Nat) : befI row (i + 1) j = if x ≠ i ∧ j = x then some i else befI row i j := by
  unfold befI
  have tk : row.take (i + 1) = row.take i ++ [x] := by
    rw [List.take_succ, e]
    rfl
  rw [tk]
  have ix := idx_at nd e
  by_cases c : j = x
  · subst c
    rw [ix]
    by_cases d : j = i
    · have hn : j ∉ row.take i := by
        intro h
        obtain ⟨k, hk, ek⟩ := List.mem_iff_getElem.mp h
        rw [List.getElem_take] at ek
        rw [List.length_take] at hk
        have := nodup_ix nd (show row[k]? = some j by rw [List.getElem?_eq_getElem (by omega), ek]) e
        omega
      rw [if_neg (fun h => h.2 d.symm), if_neg (fun h => h.1 d), if_neg (fun h => hn h.1)]
    · rw [if_pos ⟨by simp, fun h => d h.symm⟩, if_pos ⟨d, rfl⟩]
  · rw [if_neg (fun (h : x ≠ i ∧ j = x) => c h.2)]
    by_cases d : j ∈ row.take i ∧ row.idxOf j ≠ j
    · rw [if_pos ⟨by simp [d.1], d.2⟩, if_pos d]
    · rw [if_neg d, if_neg (fun h => d ⟨by simpa [c] using h.1, h.2⟩)]
section
variable {P : Program} {w : World} {K : PySem.W.Frag} {mg : Str → Option Value} {base : Heap}
end
end K14
namespace K14
open PySem PySem.Spec PyProof.Rows L2
structure PRow (ls : List (List Nat)) (row : List Nat) : Prop where
  ok : RowOk ls.length row
  on : ∀ (i x : Nat), row[i]? = some x → x ∈ la ls i ∨ x = i
theorem nodup_snoc {row : List Nat} {o : Nat} (h : row.Nodup) (n : o ∉ row) : (row ++ [o]).Nodup := by
  rw [List.nodup_append]
  refine ⟨h, by simp, fun x hx y hy e => ?_⟩
  rw [List.mem_singleton.mp hy] at e
  subst e
  exact n hx
theorem parts_ok {ls : List (List Nat)} : ∀ k row, row ∈ parts ls k → row.length = k ∧ row.Nodup ∧ ∀ (i x : Nat), row[i]? = some x → x ∈ la ls i ∨ x = i
  | 0, row, h => by
    rw [parts, List.mem_singleton] at h
    subst h
    exact ⟨rfl, List.nodup_nil, fun i x e => by simp at e⟩
  | k + 1, row, h => by
    rw [parts, List.mem_flatMap] at h
    obtain ⟨r, hr, hm⟩ := h
    unfold ext at hm
    obtain ⟨o, ho, rfl⟩ := List.mem_map.mp hm
    obtain ⟨h1, h2, h3⟩ := parts_ok k r hr
    rw [List.mem_filter, decide_eq_true_eq] at ho
    refine ⟨by simp [h1], nodup_snoc h2 ho.2, fun i x e => ?_⟩
    by_cases c : i < r.length
    · rw [List.getElem?_append_left c] at e
      exact h3 i x e
    · rw [List.getElem?_append_right (by omega), List.getElem?_singleton] at e
      split at e
      · cases e
        have : i = k := by omega
        subst this
        rcases List.mem_append.mp ho.1 with h | h
        · exact .inl h
        · exact .inr (List.mem_singleton.mp h)
      · cases e
theorem parts_all {ls : List (List Nat)} : ∀ (k : Nat) (row : List Nat), row.length = k → row.Nodup → (∀ (i x : Nat), row[i]? = some x → x ∈ la ls i ∨ x = i) → row ∈ parts ls k
  | 0, row, h, _, _ => by
    rw [parts, List.mem_singleton]
    exact List.eq_nil_of_length_eq_zero h
  | k + 1, row, h, nd, on => by
    rcases list_end row with rfl | ⟨r, o, rfl⟩
    · simp at h
    · rw [parts, List.mem_flatMap]
      have lr : r.length = k := by simpa using h
      rw [List.nodup_append] at nd
      refine ⟨r, parts_all k r lr nd.1 (fun i x e => on i x (by rw [List.getElem?_append_left (List.getElem?_eq_some_iff.mp e).1]; exact e)), ?_⟩
      unfold ext
      refine List.mem_map.mpr ⟨o, ?_, rfl⟩
      rw [List.mem_filter, decide_eq_true_eq]
      refine ⟨?_, fun hm => nd.2.2 o hm o (by simp) rfl⟩
      have := on k o (by rw [List.getElem?_append_right (by omega), lr]; simp)
      rcases this with h | h
      · exact List.mem_append.mpr (.inl h)
      · exact List.mem_append.mpr (.inr (by rw [h]; simp))
theorem parts_row_ok {ls : List (List Nat)} (ok : ListsOk ls.length ls) {row : List Nat} (h : row ∈ parts ls ls.length) : PRow ls row := by
  obtain ⟨h1, h2, h3⟩ := parts_ok _ _ h
  refine ⟨⟨h1, h2, fun j hj => ?_⟩, h3⟩
  obtain ⟨i, hi, e⟩ := List.mem_iff_getElem.mp hj
  have hi' : i < ls.length := by omega
  rcases h3 i j (by rw [List.getElem?_eq_getElem hi, e]) with h | h
  · exact (ok.mate hi' h).1
  · omega
theorem befs_get {row : List Nat} {p : Nat} (h : p < row.length) : ha (befs row) p = bef row p := by
  unfold ha befs
  rw [List.getD_eq_getElem?_getD, List.getElem?_map, List.getElem?_range h]
  rfl
theorem nxts_get {row : List Nat} {p : Nat} (h : p < row.length) : ha (nxts row) p = nxt row p := by
  unfold ha nxts
  rw [List.getD_eq_getElem?_getD, List.getElem?_map, List.getElem?_range h]
  rfl
theorem ha_lt {hs : List (Option Nat)} {p j : Nat} (e : ha hs p = some j) : p < hs.length := by
  unfold ha at e
  rw [List.getD_eq_getElem?_getD] at e
  by_cases c : p < hs.length
  · exact c
  · rw [List.getElem?_eq_none (by omega)] at e
    cases e
theorem bef_some {row : List Nat} {j i : Nat} (e : bef row j = some i) : row[i]? = some j ∧ i ≠ j := by
  unfold bef at e
  split at e
  · rename_i h
    cases e
    have hl := List.idxOf_lt_length_of_mem h.1
    exact ⟨by rw [List.getElem?_eq_getElem hl, List.getElem_idxOf], h.2⟩
  · cases e
theorem befs_ok {ls : List (List Nat)} (ok : ListsOk ls.length ls) {row : List Nat} (r : PRow ls row) : HoldsOk ls (befs row) := by
  refine ⟨by simp [befs, r.ok.len], fun p j e => ?_⟩
  have hp : p < row.length := by
    have := ha_lt e
    simpa [befs] using this
  rw [befs_get hp] at e
  obtain ⟨h1, h2⟩ := bef_some e
  have hj : j < ls.length := by
    have := (List.getElem?_eq_some_iff.mp h1).1
    rw [r.ok.len] at this
    exact this
  refine ⟨by rw [← r.ok.len]; exact hp, ?_⟩
  rcases r.on j p h1 with h | h
  · exact (ok.mate hj h).2.2
  · exact absurd h.symm h2
theorem nxts_ok {ls : List (List Nat)} {row : List Nat} (r : PRow ls row) : HoldsOk ls (nxts row) := by
  refine ⟨by simp [nxts, r.ok.len], fun p j e => ?_⟩
  have hp : p < row.length := by
    have := ha_lt e
    simpa [nxts] using this
  rw [nxts_get hp] at e
  unfold nxt at e
  split at e
  · cases e
  · rename_i h
    cases e
    have hx : row[p]? = some (row.getD p p) := by
      rw [List.getD_eq_getElem?_getD, List.getElem?_eq_getElem hp]
      rfl
    refine ⟨by rw [← r.ok.len]; exact hp, ?_⟩
    rcases r.on p _ hx with h' | h'
    · exact h'
    · exact absurd h' h
/-- nobody would rather have the one before than the next one, and no two bar -/
def Fit1 (ls : List (List Nat)) (row : List Nat) (es : List (Option Nat)) (p : Nat) : Prop :=
  ¬ (most ls (befs row) p < most ls (nxts row) p) ∧ ∀ o ∈ la ls p, ¬ ((la ls p).idxOf o < most ls es p ∧ (la ls o).idxOf p < most ls (befs row) o)
def Fits (ls : List (List Nat)) (row : List Nat) (es : List (Option Nat)) : Prop := ∀ p < ls.length, Fit1 ls row es p
def spFits : Sp := fun vs H Q _ => ∃ (a t e : Addr) (ls : List (List Nat)) (row : List Nat) (es : List (Option Nat)), vs = [.ref a, .ref t, .ref e] ∧ LX H a ls ∧ ListsOk ls.length ls ∧ ls.length ≤ 100 ∧ H t = some (.tup (VI row)) ∧ PRow ls row ∧ H e = some (.tup (VH es)) ∧ HoldsOk ls es ∧
  ∀ (b : Bool) H', Same H H' → (b = true ↔ Fits ls row es) → Q (.bl b) H'
section
variable {P : Program} {w : World} {K : PySem.W.Frag} {mg : Str → Option Value} {base : Heap}
end
end K14
namespace K14
open PySem PySem.Spec PyProof.Rows L2
/-! ### the mathematics of steady holds -/
theorem head_min : ∀ {s : List Nat} {g : Nat → Bool} {j o : Nat}, (s.filter g).head? = some j → o ∈ s.filter g → s.idxOf j ≤ s.idxOf o
  | [], g, j, o, h, _ => by simp at h
  | a :: t, g, j, o, h, ho => by
    rw [List.filter_cons] at h ho
    by_cases c : g a = true
    · rw [if_pos c] at h
      have e : a = j := by simpa using h
      subst e
      simp
    · rw [if_neg c] at h ho
      have ih := head_min h ho
      have hj : j ≠ a := fun e => by
        have := List.mem_of_mem_head? (show j ∈ (t.filter g).head? from h)
        rw [List.mem_filter, e] at this
        exact c this.2
      have ho' : o ≠ a := fun e => by
        rw [List.mem_filter, e] at ho
        exact c ho.2
      have e1 : (a == j) = false := beq_eq_false_iff_ne.mpr (Ne.symm hj)
      have e2 : (a == o) = false := beq_eq_false_iff_ne.mpr (Ne.symm ho')
      rw [List.idxOf_cons, List.idxOf_cons, e1, e2]
      show t.idxOf j + 1 ≤ t.idxOf o + 1
      omega
def fst (ls : List (List Nat)) (hs : List (Option Nat)) (p : Nat) : Option Nat := (leftL ls hs p).head?
theorem ha_firsts {ls : List (List Nat)} {hs : List (Option Nat)} {p : Nat} (h : p < ls.length) : ha (firsts ls hs) p = fst ls hs p := by
  unfold ha firsts fst
  rw [List.getD_eq_getElem?_getD, List.getElem?_map, List.getElem?_range h]
  rfl
section
variable {ls : List (List Nat)} {hs : List (Option Nat)} (ok : ListsOk ls.length ls)
include ok in
theorem leftL_filter {p : Nat} (hp : p < ls.length) : leftL ls hs p = (la ls p).filter (fun o => decide ((la ls p).idxOf o ≤ most ls hs p) && keepF ls hs p o) := by
  have tf := take_filter (ok.nda hp) (most ls hs p)
  unfold leftL
  rw [← tf, List.filter_filter]
  refine List.filter_congr fun x _ => ?_
  rw [Bool.and_comm]
theorem fst_mem {p j : Nat} (e : fst ls hs p = some j) : j ∈ leftL ls hs p := List.mem_of_mem_head? (show j ∈ (leftL ls hs p).head? from e)
include ok in
theorem fst_min {p j o : Nat} (hp : p < ls.length) (e : fst ls hs p = some j) (ho : o ∈ leftL ls hs p) : (la ls p).idxOf j ≤ (la ls p).idxOf o := by
  unfold fst at e
  rw [leftL_filter ok hp] at e ho
  exact head_min e ho
theorem fst_none {p : Nat} : fst ls hs p = none ↔ leftL ls hs p = [] := by
  unfold fst
  rw [List.head?_eq_none_iff]
include ok in
theorem left_sym {p o : Nat} (hp : p < ls.length) (h : o ∈ leftL ls hs p) : o < ls.length ∧ p ∈ leftL ls hs o := by
  obtain ⟨h1, h2, h3⟩ := (mem_left ok hp).mp h
  obtain ⟨k1, k2, k3⟩ := ok.mate hp h1
  exact ⟨k1, (mem_left ok k1).mpr ⟨k3, h3, h2⟩⟩
theorem idx_inj {p a b : Nat} (h1 : a ∈ la ls p) (h2 : b ∈ la ls p) (e : (la ls p).idxOf a = (la ls p).idxOf b) : a = b := by
  have l1 := List.idxOf_lt_length_of_mem h1
  have l2 := List.idxOf_lt_length_of_mem h2
  have e1 : (la ls p)[(la ls p).idxOf a]? = some a := by rw [List.getElem?_eq_getElem l1, List.getElem_idxOf]
  have e2 : (la ls p)[(la ls p).idxOf b]? = some b := by rw [List.getElem?_eq_getElem l2, List.getElem_idxOf]
  rw [e] at e1
  rw [e1] at e2
  exact Option.some.inj e2
/-- steady: whom one holds has one as its first one, and the other way round -/
structure Std (ls : List (List Nat)) (hs : List (Option Nat)) : Prop where
  a : ∀ p j, p < ls.length → ha hs p = some j → fst ls hs j = some p
  b : ∀ p j, p < ls.length → fst ls hs p = some j → ha hs j = some p
theorem hitB_iff {xs : List (Option Nat)} {o : Option Nat} {p : Nat} : hitB xs o p = true ↔ ∀ j, o = some j → ha xs j = some p := by
  cases o with
  | none => exact ⟨fun _ j e => (by cases e), fun _ => rfl⟩
  | some j =>
    unfold hitB
    rw [decide_eq_true_eq]
    exact ⟨fun h k e => (by cases e; exact h), fun h => h j rfl⟩
include ok in
theorem steadyB_iff (ho : HoldsOk ls hs) : steadyB ls hs = true ↔ Std ls hs := by
  unfold steadyB
  rw [Bool.and_eq_true, List.all_eq_true, List.all_eq_true]
  constructor
  · rintro ⟨h1, h2⟩
    refine ⟨fun p j hp e => ?_, fun p j hp e => ?_⟩
    · have := hitB_iff.mp (h1 p (List.mem_range.mpr hp)) j e
      have hj := (ok.mate hp (ho.on p j e).2).1
      rw [ha_firsts hj] at this
      exact this
    · exact hitB_iff.mp (h2 p (List.mem_range.mpr hp)) j (by rw [ha_firsts hp]; exact e)
  · intro h
    refine ⟨fun p hp => hitB_iff.mpr fun j e => ?_, fun p hp => hitB_iff.mpr fun j e => ?_⟩
    · have hp' := List.mem_range.mp hp
      have hj := (ok.mate hp' (ho.on p j e).2).1
      rw [ha_firsts hj]
      exact h.a p j hp' e
    · have hp' := List.mem_range.mp hp
      rw [ha_firsts hp'] at e
      exact h.b p j hp' e
theorem most_some {p j : Nat} (e : ha hs p = some j) : most ls hs p = (la ls p).idxOf j := by
  unfold most
  rw [e]
  rfl
theorem most_none {p : Nat} (e : ha hs p = none) : most ls hs p = (la ls p).length := by
  unfold most
  rw [e]
  rfl
theorem nodup_sub_len : ∀ {s t : List Nat}, s.Nodup → (∀ x ∈ s, x ∈ t) → s.length ≤ t.length
  | [], t, _, _ => Nat.zero_le _
  | a :: r, t, nd, h => by
    have h1 := nodup_sub_len (s := r) (t := t.erase a) (List.nodup_cons.mp nd).2 fun x hx => by
      have ne : x ≠ a := fun e => (List.nodup_cons.mp nd).1 (e ▸ hx)
      exact (List.mem_erase_of_ne ne).mpr (h x (by simp [hx]))
    have h2 := List.length_erase_of_mem (h a (by simp))
    have h3 : 0 < t.length := List.length_pos_of_mem (h a (by simp))
    rw [List.length_cons]
    omega
/-- pigeons -/
theorem pigeon : ∀ {n : Nat} {A B : Nat → Prop} [DecidablePred A] [DecidablePred B] (f : Nat → Nat), (∀ p < n, A p → f p < n ∧ B (f p)) → (∀ p q, p < n → q < n → A p → A q → f p = f q → p = q) → (∀ p, B p → A p) → ∀ p < n, A p → B p := by
  intro n A B _ _ f h1 h2 h3 p hp ha
  refine Classical.byContradiction fun hb => ?_
  have sub : ((List.range n).filter fun x => decide (A x)).length ≤ ((List.range n).filter fun x => decide (B x)).length := by
    have hm : (((List.range n).filter fun x => decide (A x)).map f).Nodup := by
      refine List.pairwise_map.mpr (List.Pairwise.imp_of_mem ?_ (List.Pairwise.filter _ (List.nodup_range (n := n))))
      intro x y hx hy ne e
      rw [List.mem_filter, List.mem_range, decide_eq_true_eq] at hx hy
      exact ne (h2 x y hx.1 hy.1 hx.2 hy.2 e)
    have := nodup_sub_len hm (t := (List.range n).filter fun x => decide (B x)) fun y hy => by
      obtain ⟨x, hx, rfl⟩ := List.mem_map.mp hy
      rw [List.mem_filter, List.mem_range, decide_eq_true_eq] at hx
      rw [List.mem_filter, List.mem_range, decide_eq_true_eq]
      exact h1 x hx.1 hx.2
    rwa [List.length_map] at this
  have less : (p :: ((List.range n).filter fun x => decide (B x))).length ≤ ((List.range n).filter fun x => decide (A x)).length := by
    refine nodup_sub_len ?_ fun y hy => ?_
    · rw [List.nodup_cons]
      refine ⟨fun h => ?_, List.Pairwise.filter _ (List.nodup_range (n := n))⟩
      rw [List.mem_filter, decide_eq_true_eq] at h
      exact hb h.2
    · rw [List.mem_filter, List.mem_range, decide_eq_true_eq]
      rcases List.mem_cons.mp hy with rfl | h
      · exact ⟨hp, ha⟩
      · rw [List.mem_filter, List.mem_range, decide_eq_true_eq] at h
        exact ⟨h.1, h3 y h.2⟩
  rw [List.length_cons] at less
  omega
end
end K14
namespace K14
open PySem PySem.Spec PyProof.Rows L2
section
variable {ls : List (List Nat)} {hs : List (Option Nat)} (ok : ListsOk ls.length ls)
include ok in
/-- in steady holds just those hold somebody who have somebody left -/
theorem std_held (ho : HoldsOk ls hs) (st : Std ls hs) {p : Nat} (hp : p < ls.length) : (ha hs p ≠ none ↔ leftL ls hs p ≠ []) := by
  have lt : ∀ p j, p < ls.length → ha hs p = some j → j < ls.length := fun p j hp e => (ok.mate hp (ho.on p j e).2).1
  have one : ∀ p, p < ls.length → ha hs p ≠ none → leftL ls hs p ≠ [] := fun p hp h => by
    cases e : ha hs p with
    | none => exact absurd e h
    | some j =>
      have h1 := fst_mem (st.a p j hp e)
      have h2 := (left_sym ok (lt p j hp e) h1).2
      exact List.ne_nil_of_mem h2
  refine ⟨one p hp, fun h => ?_⟩
  have key := pigeon (n := ls.length) (A := fun p => p < ls.length ∧ leftL ls hs p ≠ []) (B := fun p => p < ls.length ∧ ha hs p ≠ none) (fun p => (fst ls hs p).getD 0) (fun p hp h => ?_) (fun p q hp hq h1 h2 e => ?_) (fun p h => ⟨h.1, one p h.1 h.2⟩) p hp ⟨hp, h⟩
  · exact key.2
  · cases e : fst ls hs p with
    | none => exact absurd (fst_none.mp e) h.2
    | some j =>
      have hj := (left_sym ok hp (fst_mem e)).1
      refine ⟨hj, hj, ?_⟩
      show ha hs j ≠ none
      rw [st.b p j hp e]
      exact fun z => by cases z
  · cases e1 : fst ls hs p with
    | none => exact absurd (fst_none.mp e1) h1.2
    | some j =>
      cases e2 : fst ls hs q with
      | none => exact absurd (fst_none.mp e2) h2.2
      | some k =>
        rw [e1, e2] at e
        have : j = k := e
        subst this
        have a1 := st.b p j hp e1
        have a2 := st.b q j hq e2
        rw [a1] at a2
        exact Option.some.inj a2
def rowOf (ls : List (List Nat)) (hs : List (Option Nat)) : List Nat := (List.range ls.length).map fun p => (fst ls hs p).getD p
theorem rowOf_at {p : Nat} (hp : p < ls.length) : (rowOf ls hs)[p]? = some ((fst ls hs p).getD p) := by
  unfold rowOf
  rw [List.getElem?_map, List.getElem?_range hp]
  rfl
theorem rowOf_len : (rowOf ls hs).length = ls.length := by simp [rowOf]
include ok in
theorem row_parts (ho : HoldsOk ls hs) (st : Std ls hs) : rowOf ls hs ∈ parts ls ls.length := by
  have inj : ∀ p q, p < ls.length → q < ls.length → (fst ls hs p).getD p = (fst ls hs q).getD q → p = q := by
    intro p q hp hq e
    cases e1 : fst ls hs p with
    | none =>
      cases e2 : fst ls hs q with
      | none => rw [e1, e2] at e; exact e
      | some k =>
        rw [e1, e2] at e
        have e' : p = k := e
        have hk := st.b q k hq e2
        rw [← e'] at hk
        exact absurd (fst_none.mp e1) ((std_held ok ho st hp).mp (by rw [hk]; exact fun z => by cases z))
    | some j =>
      cases e2 : fst ls hs q with
      | none =>
        rw [e1, e2] at e
        have e' : j = q := e
        have hj := st.b p j hp e1
        rw [e'] at hj
        exact absurd (fst_none.mp e2) ((std_held ok ho st hq).mp (by rw [hj]; exact fun z => by cases z))
      | some k =>
        rw [e1, e2] at e
        have e' : j = k := e
        subst e'
        have a1 := st.b p j hp e1
        have a2 := st.b q j hq e2
        rw [a1] at a2
        exact Option.some.inj a2
  refine parts_all _ _ rowOf_len ?_ fun i x e => ?_
  · unfold rowOf
    refine List.pairwise_map.mpr (List.Pairwise.imp_of_mem ?_ (List.nodup_range (n := ls.length)))
    intro p q hp hq ne e
    exact ne (inj p q (List.mem_range.mp hp) (List.mem_range.mp hq) e)
  · have hi : i < ls.length := by
      have := (List.getElem?_eq_some_iff.mp e).1
      rwa [rowOf_len] at this
    rw [rowOf_at hi] at e
    have e := Option.some.inj e
    cases e1 : fst ls hs i with
    | none => rw [e1] at e; exact .inr e.symm
    | some j =>
      rw [e1] at e
      have : j = x := e
      subst this
      exact .inl ((mem_left ok hi).mp (fst_mem e1)).1
theorem bef_iff {row : List Nat} (nd : row.Nodup) {j i : Nat} : bef row j = some i ↔ row[i]? = some j ∧ i ≠ j := by
  refine ⟨bef_some, fun h => ?_⟩
  unfold bef
  have hm := List.mem_of_getElem? h.1
  have ix := idx_at nd h.1
  rw [if_pos ⟨hm, by rw [ix]; exact h.2⟩, ix]
theorem opt_ext {a b : Option Nat} (h : ∀ x, a = some x ↔ b = some x) : a = b := by
  cases a with
  | none =>
    cases b with
    | none => rfl
    | some y => exact absurd ((h y).mpr rfl) (fun z => by cases z)
  | some x => exact ((h x).mp rfl).symm
include ok in
theorem row_bef (ho : HoldsOk ls hs) (st : Std ls hs) {j : Nat} (hj : j < ls.length) : bef (rowOf ls hs) j = ha hs j := by
  have pr := parts_row_ok ok (row_parts ok ho st)
  refine opt_ext fun i => ?_
  rw [bef_iff pr.ok.nd]
  constructor
  · rintro ⟨h1, h2⟩
    have hi : i < ls.length := by
      have := (List.getElem?_eq_some_iff.mp h1).1
      rwa [rowOf_len] at this
    rw [rowOf_at hi] at h1
    have h1 := Option.some.inj h1
    cases e : fst ls hs i with
    | none => rw [e] at h1; exact absurd h1 h2
    | some k =>
      rw [e] at h1
      have : k = j := h1
      subst this
      exact st.b i k hi e
  · intro e
    have hi := (ok.mate hj (ho.on j i e).2)
    refine ⟨?_, hi.2.1⟩
    rw [rowOf_at hi.1, st.a j i hj e]
    rfl
theorem row_nxt {p : Nat} (ok : ListsOk ls.length ls) (hp : p < ls.length) : nxt (rowOf ls hs) p = fst ls hs p := by
  unfold nxt
  have e : (rowOf ls hs).getD p p = (fst ls hs p).getD p := by
    rw [List.getD_eq_getElem?_getD, rowOf_at hp]
    rfl
  rw [e]
  cases e1 : fst ls hs p with
  | none => exact if_pos rfl
  | some j =>
    have := (ok.mate hp ((mem_left ok hp).mp (fst_mem e1)).1).2.1
    rw [if_neg (show ¬ (some j).getD p = p from this)]
    rfl
theorem most_eq {h1 h2 : List (Option Nat)} {p : Nat} (e : ha h1 p = ha h2 p) : most ls h1 p = most ls h2 p := by
  unfold most
  rw [e]
include ok in
theorem std_fits (ho : HoldsOk ls hs) (st : Std ls hs) : Fits ls (rowOf ls hs) (nxts (rowOf ls hs)) := by
  intro p hp
  have hb : ∀ q, q < ls.length → most ls (befs (rowOf ls hs)) q = most ls hs q := fun q hq => most_eq (by rw [befs_get (by rw [rowOf_len]; exact hq), row_bef ok ho st hq])
  have hn : ha (nxts (rowOf ls hs)) p = fst ls hs p := by rw [nxts_get (by rw [rowOf_len]; exact hp), row_nxt ok hp]
  refine ⟨?_, fun o hom => ?_⟩
  · rw [hb p hp]
    cases e : fst ls hs p with
    | none =>
      have h0 : ha hs p = none := Classical.byContradiction fun z => (std_held ok ho st hp).mp z (fst_none.mp e)
      rw [most_none h0, most_none (hn.trans e)]
      omega
    | some j =>
      rw [most_some (hn.trans e)]
      have := ((mem_left ok hp).mp (fst_mem e)).2.1
      omega
  · obtain ⟨k1, _, k3⟩ := ok.mate hp hom
    rw [hb o k1]
    rintro ⟨h1, h2⟩
    cases e : fst ls hs p with
    | none =>
      have h0 : ha hs p = none := Classical.byContradiction fun z => (std_held ok ho st hp).mp z (fst_none.mp e)
      have hl := List.idxOf_lt_length_of_mem hom
      have : o ∈ leftL ls hs p := (mem_left ok hp).mpr ⟨hom, by rw [most_none h0]; omega, by omega⟩
      rw [fst_none.mp e] at this
      cases this
    | some j =>
      rw [most_some (hn.trans e)] at h1
      have hj := ((mem_left ok hp).mp (fst_mem e)).2.1
      have : o ∈ leftL ls hs p := (mem_left ok hp).mpr ⟨hom, by omega, by omega⟩
      have := fst_min ok hp e this
      omega
include ok in
/-- a parting in which nobody bars tells steady holds -/
theorem fits_std {row : List Nat} (hr : row ∈ parts ls ls.length) (ft : Fits ls row (nxts row)) : Std ls (befs row) := by
  have pr := parts_row_ok ok hr
  have rl := pr.ok.len
  have hb : ∀ q, q < ls.length → ha (befs row) q = bef row q := fun q hq => befs_get (by rw [rl]; exact hq)
  have hn : ∀ q, q < ls.length → ha (nxts row) q = nxt row q := fun q hq => nxts_get (by rw [rl]; exact hq)
  have nx : ∀ p j, p < ls.length → (nxt row p = some j ↔ row[p]? = some j ∧ j ≠ p) := fun p j hp => by
    have e : row[p]? = some (row.getD p p) := by rw [List.getD_eq_getElem?_getD, List.getElem?_eq_getElem (by omega)]; rfl
    unfold nxt
    rw [e]
    by_cases c : row.getD p p = p
    · rw [if_pos c, c]
      exact ⟨fun z => (by cases z), fun z => absurd (Option.some.inj z.1).symm z.2⟩
    · rw [if_neg c]
      exact ⟨fun z => ⟨z, by rw [← Option.some.inj z]; exact c⟩, fun z => z.1⟩
  have bf : ∀ p j, (bef row j = some p ↔ row[p]? = some j ∧ p ≠ j) := fun p j => bef_iff pr.ok.nd
  have ff : ∀ p, p < ls.length → fst ls (befs row) p = nxt row p := by
    intro p hp
    have fp := ft p hp
    cases e : nxt row p with
    | none =>
      rw [fst_none]
      refine List.eq_nil_iff_forall_not_mem.mpr fun o hom => ?_
      obtain ⟨m1, m2, m3⟩ := (mem_left ok hp).mp hom
      obtain ⟨k1, k2, k3⟩ := ok.mate hp m1
      refine fp.2 o m1 ⟨?_, ?_⟩
      · rw [most_none ((hn p hp).trans e)]
        exact List.idxOf_lt_length_of_mem m1
      · refine Nat.lt_of_le_of_ne m3 fun z => ?_
        cases eo : bef row o with
        | none =>
          rw [most_none ((hb o k1).trans eo)] at z
          have := List.idxOf_lt_length_of_mem k3
          omega
        | some q =>
          rw [most_some ((hb o k1).trans eo)] at z
          obtain ⟨r1, r2⟩ := (bf q o).mp eo
          have qm : q ∈ la ls o := (befs_ok ok pr).on o q ((hb o k1).trans eo) |>.2
          have : p = q := idx_inj k3 qm z
          subst this
          have := (nx p o hp).mpr ⟨r1, Ne.symm r2⟩
          rw [e] at this
          cases this
    | some j =>
      obtain ⟨r1, r2⟩ := (nx p j hp).mp e
      have hbj : bef row j = some p := (bf p j).mpr ⟨r1, Ne.symm r2⟩
      have jm : j ∈ la ls p := (pr.on p j r1).resolve_right r2
      obtain ⟨j1, _, j3⟩ := ok.mate hp jm
      have nm := most_some (ls := ls) ((hn p hp).trans e)
      have bm := most_some (ls := ls) ((hb j j1).trans hbj)
      have jl : j ∈ leftL ls (befs row) p := (mem_left ok hp).mpr ⟨jm, by have := fp.1; rw [nm] at this; omega, by rw [bm]; omega⟩
      cases ef : fst ls (befs row) p with
      | none =>
        rw [fst_none.mp ef] at jl
        cases jl
      | some o =>
        congr 1
        have om := fst_mem ef
        obtain ⟨m1, m2, m3⟩ := (mem_left ok hp).mp om
        obtain ⟨k1, k2, k3⟩ := ok.mate hp m1
        have le := fst_min ok hp ef jl
        refine Classical.byContradiction fun ne => ?_
        have lt : (la ls p).idxOf o < (la ls p).idxOf j := Nat.lt_of_le_of_ne le fun z => ne (idx_inj m1 jm z)
        refine fp.2 o m1 ⟨by rw [nm]; exact lt, Nat.lt_of_le_of_ne m3 fun z => ?_⟩
        cases eo : bef row o with
        | none =>
          rw [most_none ((hb o k1).trans eo)] at z
          have := List.idxOf_lt_length_of_mem k3
          omega
        | some q =>
          rw [most_some ((hb o k1).trans eo)] at z
          obtain ⟨r3, r4⟩ := (bf q o).mp eo
          have qm : q ∈ la ls o := ((befs_ok ok pr).on o q ((hb o k1).trans eo)).2
          have : p = q := idx_inj k3 qm z
          subst this
          rw [r1] at r3
          exact ne (Option.some.inj r3).symm
  refine ⟨fun p j hp e => ?_, fun p j hp e => ?_⟩
  · rw [hb p hp] at e
    obtain ⟨r1, r2⟩ := (bf j p).mp e
    have hj : j < ls.length := by
      have := (List.getElem?_eq_some_iff.mp r1).1
      omega
    rw [ff j hj]
    exact (nx j p hj).mpr ⟨r1, Ne.symm r2⟩
  · rw [ff p hp] at e
    obtain ⟨r1, r2⟩ := (nx p j hp).mp e
    have hj := pr.ok.lt j (List.mem_of_getElem? r1)
    rw [hb j hj]
    exact (bf p j).mpr ⟨r1, Ne.symm r2⟩
end
end K14
namespace K14
open PySem PySem.Spec PyProof.Rows L2
/-! ### there are steady holds: asking ends -/
def sumM (ls : List (List Nat)) (hs : List (Option Nat)) : Nat := ((List.range ls.length).map (most ls hs)).sum
theorem sum_lt {n : Nat} {f g : Nat → Nat} (h : ∀ i < n, f i ≤ g i) {j : Nat} (hj : j < n) (lt : f j < g j) : ((List.range n).map f).sum < ((List.range n).map g).sum := by
  have le : ∀ m, m ≤ n → ((List.range m).map f).sum ≤ ((List.range m).map g).sum := by
    intro m
    induction m with
    | zero => intro _; exact Nat.le_refl _
    | succ m ih =>
      intro hm
      rw [List.range_succ, List.map_append, List.map_append, List.sum_append, List.sum_append]
      have := ih (by omega)
      have := h m (by omega)
      simp
      omega
  have key : ∀ m, m ≤ n → j < m → ((List.range m).map f).sum < ((List.range m).map g).sum := by
    intro m
    induction m with
    | zero => intro _ h; omega
    | succ m ih =>
      intro hm hjm
      rw [List.range_succ, List.map_append, List.map_append, List.sum_append, List.sum_append]
      have h1 := h m (by omega)
      by_cases c : j = m
      · subst c
        have := le j (by omega)
        simp
        omega
      · have := ih (by omega) (by omega)
        simp
        omega
  exact key n (Nat.le_refl _) hj
/-- holds in which whom one holds has one as its first one -/
structure Half (ls : List (List Nat)) (hs : List (Option Nat)) : Prop where
  ok : HoldsOk ls hs
  a : ∀ p j, p < ls.length → ha hs p = some j → fst ls hs j = some p
theorem ha_set {hs : List (Option Nat)} {j p q : Nat} (hj : j < hs.length) : ha (hs.set j (some p)) q = if q = j then some p else ha hs q := by
  unfold ha
  rw [List.getD_eq_getElem?_getD, List.getElem?_set, List.getD_eq_getElem?_getD]
  by_cases c : j = q
  · subst c
    rw [if_pos rfl, if_pos hj, if_pos rfl]
    rfl
  · rw [if_neg c, if_neg (fun z => c z.symm)]
section
variable {ls : List (List Nat)} {hs : List (Option Nat)} (ok : ListsOk ls.length ls)
include ok in
theorem ask (h : Half ls hs) {p j : Nat} (hp : p < ls.length) (e : fst ls hs p = some j) (free : ∀ q, q < ls.length → ha hs q ≠ some p) : Half ls (hs.set j (some p)) ∧ sumM ls (hs.set j (some p)) < sumM ls hs := by
  have jm := fst_mem e
  obtain ⟨m1, m2, m3⟩ := (mem_left ok hp).mp jm
  obtain ⟨j1, j2, j3⟩ := ok.mate hp m1
  have jl : j < hs.length := by rw [h.ok.len]; exact j1
  have hset := fun q => ha_set (hs := hs) (j := j) (p := p) (q := q) jl
  have mj : most ls (hs.set j (some p)) j = (la ls j).idxOf p := most_some (by rw [hset, if_pos rfl])
  have mo : ∀ q, q ≠ j → most ls (hs.set j (some p)) q = most ls hs q := fun q nq => most_eq (by rw [hset, if_neg nq])
  have lt : (la ls j).idxOf p < most ls hs j := by
    refine Nat.lt_of_le_of_ne m3 fun z => ?_
    cases ej : ha hs j with
    | none =>
      rw [most_none ej] at z
      have := List.idxOf_lt_length_of_mem j3
      omega
    | some q =>
      rw [most_some ej] at z
      have qm := (h.ok.on j q ej).2
      have : p = q := idx_inj j3 qm z
      subst this
      exact free j j1 ej
  have le : ∀ q, q < ls.length → most ls (hs.set j (some p)) q ≤ most ls hs q := fun q _ => by
    by_cases c : q = j
    · subst c
      rw [mj]
      omega
    · rw [mo q c]
      exact Nat.le_refl _
  have okk : HoldsOk ls (hs.set j (some p)) := by
    refine ⟨by rw [List.length_set]; exact h.ok.len, fun q k ek => ?_⟩
    rw [hset] at ek
    by_cases c : q = j
    · rw [if_pos c] at ek
      cases ek
      rw [c]
      exact ⟨j1, j3⟩
    · rw [if_neg c] at ek
      exact h.ok.on q k ek
  have sub : ∀ q o, q < ls.length → o ∈ leftL ls (hs.set j (some p)) q → o ∈ leftL ls hs q := fun q o hq ho => by
    obtain ⟨a1, a2, a3⟩ := (mem_left ok hq).mp ho
    have k1 := (ok.mate hq a1).1
    exact (mem_left ok hq).mpr ⟨a1, Nat.le_trans a2 (le q hq), Nat.le_trans a3 (le o k1)⟩
  -- whoever stays left and was the first one is so still
  have stay : ∀ q k, q < ls.length → fst ls hs q = some k → k ∈ leftL ls (hs.set j (some p)) q → fst ls (hs.set j (some p)) q = some k := fun q k hq eq hk => by
    cases e2 : fst ls (hs.set j (some p)) q with
    | none => rw [fst_none.mp e2] at hk; cases hk
    | some o =>
      have om := fst_mem e2
      have h1 := fst_min ok hq e2 hk
      have h2 := fst_min ok hq eq (sub q o hq om)
      have a1 := ((mem_left ok hq).mp om).1
      have a2 := ((mem_left ok hq).mp hk).1
      rw [idx_inj a1 a2 (by omega)]
  refine ⟨⟨okk, fun q k hq ek => ?_⟩, sum_lt (fun q hq => le q hq) j1 (by rw [mj]; exact lt)⟩
  rw [hset] at ek
  by_cases c : q = j
  · rw [if_pos c] at ek
    cases ek
    rw [c]
    refine stay p j hp e ((mem_left ok hp).mpr ⟨m1, ?_, by rw [mj]; exact Nat.le_refl _⟩)
    rw [mo p (fun z => j2 z.symm)]
    exact m2
  · rw [if_neg c] at ek
    have eq := h.a q k hq ek
    have kl := (ok.mate hq (h.ok.on q k ek).2).1
    have qm := fst_mem eq
    obtain ⟨b1, b2, b3⟩ := (mem_left ok kl).mp qm
    refine stay k q kl eq ((mem_left ok kl).mpr ⟨b1, ?_, by rw [mo q c]; exact b3⟩)
    by_cases d : k = j
    · subst d
      rw [mj]
      have := fst_min ok kl eq ((left_sym ok hp jm).2)
      exact this
    · rw [mo k d]
      exact b2
include ok in
theorem std_ex : ∀ (n : Nat) (hs : List (Option Nat)), Half ls hs → sumM ls hs ≤ n → ∃ hs', HoldsOk ls hs' ∧ Std ls hs' := by
  intro n
  induction n with
  | zero =>
    intro hs h hn
    by_cases c : ∃ p j, p < ls.length ∧ fst ls hs p = some j ∧ ∀ q, q < ls.length → ha hs q ≠ some p
    · obtain ⟨p, j, hp, e, fr⟩ := c
      have := (ask ok h hp e fr).2
      omega
    · refine ⟨hs, h.ok, h.a, fun p j hp e => ?_⟩
      refine Classical.byContradiction fun ne => c ⟨p, j, hp, e, fun q hq eq => ?_⟩
      have := h.a q p hq eq
      rw [e] at this
      cases this
      exact ne eq
  | succ n ih =>
    intro hs h hn
    by_cases c : ∃ p j, p < ls.length ∧ fst ls hs p = some j ∧ ∀ q, q < ls.length → ha hs q ≠ some p
    · obtain ⟨p, j, hp, e, fr⟩ := c
      obtain ⟨h1, h2⟩ := ask ok h hp e fr
      exact ih _ h1 (by omega)
    · refine ⟨hs, h.ok, h.a, fun p j hp e => ?_⟩
      refine Classical.byContradiction fun ne => c ⟨p, j, hp, e, fun q hq eq => ?_⟩
      have := h.a q p hq eq
      rw [e] at this
      cases this
      exact ne eq
include ok in
theorem steady_ex : ∃ row, row ∈ parts ls ls.length ∧ Fits ls row (nxts row) := by
  have h0 : Half ls (List.replicate ls.length none) := by
    have hn : ∀ q, ha (List.replicate ls.length (none : Option Nat)) q = none := fun q => by
      unfold ha
      rw [List.getD_eq_getElem?_getD, List.getElem?_replicate]
      split <;> rfl
    exact ⟨⟨by simp, fun p j e => by rw [hn] at e; cases e⟩, fun p j _ e => by rw [hn] at e; cases e⟩
  obtain ⟨hs, ho, st⟩ := std_ex ok _ _ h0 (Nat.le_refl _)
  exact ⟨rowOf ls hs, row_parts ok ho st, std_fits ok ho st⟩
include ok in
/-- which holds are steady: those before of the partings in which nobody bars -/
theorem steady_iff (ho : HoldsOk ls hs) : steadyB ls hs = true ↔ ∃ row, row ∈ parts ls ls.length ∧ Fits ls row (nxts row) ∧ befs row = hs := by
  rw [steadyB_iff ok ho]
  constructor
  · intro st
    refine ⟨rowOf ls hs, row_parts ok ho st, std_fits ok ho st, ?_⟩
    apply List.ext_getElem?
    intro j
    by_cases c : j < ls.length
    · rw [ha_get (hs := befs (rowOf ls hs)) (by simp [befs, rowOf_len]; exact c), ha_get (by rw [ho.len]; exact c), befs_get (by rw [rowOf_len]; exact c), row_bef ok ho st c]
    · rw [List.getElem?_eq_none (by simp [befs, rowOf_len]; omega), List.getElem?_eq_none (by rw [ho.len]; omega)]
  · rintro ⟨row, h1, h2, rfl⟩
    exact fits_std ok h1 h2
theorem last_max : ∀ {s : List Nat} {g : Nat → Bool} {j : Nat}, s.Nodup → j ∈ s.filter g → (∀ o ∈ s.filter g, s.idxOf o ≤ s.idxOf j) → (s.filter g).getLast? = some j
  | [], g, j, _, h, _ => by simp at h
  | a :: t, g, j, nd, h, mx => by
    have tail : ∀ o, o ≠ a → (a :: t).idxOf o = t.idxOf o + 1 := fun o no => by
      have e : (a == o) = false := beq_eq_false_iff_ne.mpr (Ne.symm no)
      rw [List.idxOf_cons, e]
      rfl
    have na : ∀ o ∈ t, o ≠ a := fun o ho z => (List.nodup_cons.mp nd).1 (z ▸ ho)
    rw [List.filter_cons] at h mx ⊢
    by_cases c : g a = true
    · rw [if_pos c] at h mx ⊢
      by_cases d : j = a
      · subst d
        have emp : t.filter g = [] := by
          refine List.eq_nil_iff_forall_not_mem.mpr fun o ho => ?_
          have h1 := mx o (by simp [ho])
          have ht := (List.mem_filter.mp ho).1
          rw [tail o (na o ht)] at h1
          simp at h1
        rw [emp]
        rfl
      · have hj : j ∈ t.filter g := by
          rcases List.mem_cons.mp h with z | z
          · exact absurd z d
          · exact z
        have ih := last_max (List.nodup_cons.mp nd).2 hj fun o ho => by
          have h1 := mx o (by simp [ho])
          rw [tail o (na o (List.mem_filter.mp ho).1), tail j d] at h1
          omega
        rw [List.getLast?_cons, ih]
        rfl
    · rw [if_neg c] at h mx ⊢
      exact last_max (List.nodup_cons.mp nd).2 h fun o ho => by
        have h1 := mx o ho
        rw [tail o (na o (List.mem_filter.mp ho).1), tail j (na j (List.mem_filter.mp h).1)] at h1
        omega
include ok in
/-- steady holds leave as last ones those that are held -/
theorem last_held (ho : HoldsOk ls hs) (st : Std ls hs) {p : Nat} (hp : p < ls.length) : (leftL ls hs p).getLast? = ha hs p := by
  cases e : ha hs p with
  | none =>
    have : leftL ls hs p = [] := Classical.byContradiction fun z => (std_held ok ho st hp).mpr z e
    rw [this]
    rfl
  | some j =>
    obtain ⟨_, jm⟩ := ho.on p j e
    obtain ⟨j1, _, j3⟩ := ok.mate hp jm
    have h1 := fst_mem (st.a p j hp e)
    have h2 := (left_sym ok j1 h1).2
    rw [leftL_filter ok hp] at h2 ⊢
    refine last_max (ok.nda hp) h2 fun o hom => ?_
    have := (List.mem_filter.mp hom).2
    rw [Bool.and_eq_true, decide_eq_true_eq, most_some e] at this
    exact this.1
end
end K14
namespace K14
open PySem PySem.Spec PyProof.Rows L2
/-! ### rings turned out: steady holds that leave somebody three or more have lesser ones -/
theorem min_ex (f : Nat → Nat) : ∀ (l : List Nat), l ≠ [] → ∃ m, m ∈ l ∧ ∀ o ∈ l, f m ≤ f o
  | [], h => absurd rfl h
  | [a], _ => ⟨a, by simp, fun o ho => by rw [List.mem_singleton.mp ho]; exact Nat.le_refl _⟩
  | a :: b :: t, _ => by
    obtain ⟨m, hm, h⟩ := min_ex f (b :: t) (by simp)
    by_cases c : f a ≤ f m
    · refine ⟨a, by simp, fun o ho => ?_⟩
      rcases List.mem_cons.mp ho with rfl | ho
      · exact Nat.le_refl _
      · exact Nat.le_trans c (h o ho)
    · refine ⟨m, List.mem_cons_of_mem _ hm, fun o ho => ?_⟩
      rcases List.mem_cons.mp ho with rfl | ho
      · omega
      · exact h o ho
section
variable {ls : List (List Nat)} {hs : List (Option Nat)} (ok : ListsOk ls.length ls)
include ok in
theorem left_nd {p : Nat} (hp : p < ls.length) : (leftL ls hs p).Nodup := by
  unfold leftL
  exact List.Pairwise.filter _ ((ok.nda hp).sublist (List.take_sublist _ _))
/-- the second one -/
structure Snd (ls : List (List Nat)) (hs : List (Option Nat)) (p s : Nat) : Prop where
  mem : s ∈ leftL ls hs p
  ne : fst ls hs p ≠ some s
  min : ∀ o ∈ leftL ls hs p, fst ls hs p ≠ some o → (la ls p).idxOf s ≤ (la ls p).idxOf o
include ok in
theorem snd_ex {p : Nat} (hp : p < ls.length) (h2 : 2 ≤ (leftL ls hs p).length) : ∃ s, Snd ls hs p s := by
  have nd := left_nd (hs := hs) ok hp
  cases e : leftL ls hs p with
  | nil => rw [e] at h2; simp at h2
  | cons a r =>
    have ef : fst ls hs p = some a := by unfold fst; rw [e]; rfl
    rw [e] at nd h2
    have hr : r ≠ [] := fun z => by rw [z] at h2; simp at h2
    obtain ⟨m, hm, hmin⟩ := min_ex (fun o => (la ls p).idxOf o) r hr
    refine ⟨m, by rw [e]; exact List.mem_cons_of_mem _ hm, fun z => ?_, fun o ho ne => ?_⟩
    · rw [ef] at z
      cases z
      exact (List.nodup_cons.mp nd).1 hm
    · rw [e] at ho
      rcases List.mem_cons.mp ho with rfl | ho
      · exact absurd ef ne
      · exact hmin o ho
theorem two_of {l : List Nat} {a b : Nat} (ha : a ∈ l) (hb : b ∈ l) (ne : a ≠ b) : 2 ≤ l.length := by
  have := nodup_sub_len (s := [a, b]) (t := l) (by simp [ne]) fun x hx => by
    rcases List.mem_cons.mp hx with rfl | hx
    · exact ha
    · rw [List.mem_singleton.mp hx]; exact hb
  simpa using this
theorem left_le {p o : Nat} {hs' : List (Option Nat)} (le : ∀ q, q < ls.length → most ls hs' q ≤ most ls hs q) (okk : ListsOk ls.length ls) (hp : p < ls.length) (h : o ∈ leftL ls hs' p) : o ∈ leftL ls hs p := by
  obtain ⟨a1, a2, a3⟩ := (mem_left okk hp).mp h
  exact (mem_left okk hp).mpr ⟨a1, Nat.le_trans a2 (le p hp), Nat.le_trans a3 (le o (okk.mate hp a1).1)⟩
/-- the giver behind: whom the second one holds -/
structure Giv (ls : List (List Nat)) (hs : List (Option Nat)) (p s q : Nat) : Prop where
  sn : Snd ls hs p s
  ps : p ∈ leftL ls hs s
  sl : s < ls.length
  held : ha hs s = some q
  fq : fst ls hs q = some s
  ql : q < ls.length
  ne : q ≠ p
  two : 2 ≤ (leftL ls hs q).length
include ok in
theorem giv_ex (ho : HoldsOk ls hs) (st : Std ls hs) {p : Nat} (hp : p < ls.length) (h2 : 2 ≤ (leftL ls hs p).length) : ∃ s q, Giv ls hs p s q := by
  obtain ⟨s, sn⟩ := snd_ex (hs := hs) ok hp h2
  obtain ⟨sl, ps⟩ := left_sym ok hp sn.mem
  have hne : ha hs s ≠ none := (std_held ok ho st sl).mpr (List.ne_nil_of_mem ps)
  cases eh : ha hs s with
  | none => exact absurd eh hne
  | some q =>
    have fq := st.a s q sl eh
    have ql := (ok.mate sl (ho.on s q eh).2).1
    have nq : q ≠ p := fun z => by
      rw [z] at fq
      exact sn.ne fq
    refine ⟨s, q, sn, ps, sl, eh, fq, ql, nq, ?_⟩
    -- whom q holds is not s
    have sq := fst_mem fq
    have hq : ha hs q ≠ none := (std_held ok ho st ql).mpr (List.ne_nil_of_mem sq)
    cases ek : ha hs q with
    | none => exact absurd ek hq
    | some k =>
      have kl := (ok.mate ql (ho.on q k ek).2).1
      have fk := st.a q k ql ek
      have kq := (left_sym ok kl (fst_mem fk)).2
      refine two_of sq kq fun z => ?_
      rw [← z] at fk
      -- then q is the first one of s, and the last one, but p is left, too
      have h1 := fst_min ok sl fk ps
      obtain ⟨m1, m2, m3⟩ := (mem_left ok sl).mp ps
      rw [most_some eh] at m2
      exact nq (idx_inj (ho.on s q eh).2 m1 (by omega))
end
end K14
namespace K14
open PySem PySem.Spec PyProof.Rows L2
/-- givers on rings: closed under the giver behind, each the giver behind of one, none barred -/
structure Rng (ls : List (List Nat)) (hs : List (Option Nat)) (s g : Nat → Nat) (X : Nat → Prop) : Prop where
  giv : ∀ p, X p → Giv ls hs p (s p) (g p)
  lt : ∀ p, X p → p < ls.length
  nx : ∀ p, X p → X (g p)
  pr : ∀ p, X p → ∃ z, X z ∧ g z = p
  inj : ∀ p z, X p → X z → g p = g z → p = z
  good : ∀ z, X z → X (s z) → fst ls hs (s z) ≠ some z
  ne : ∃ p, X p
section
variable {ls : List (List Nat)} {hs : List (Option Nat)} {s g : Nat → Nat} {X : Nat → Prop} (ok : ListsOk ls.length ls)
open Classical in
/-- the holds behind such a ring turned out -/
noncomputable def outOf (ls : List (List Nat)) (hs : List (Option Nat)) (s : Nat → Nat) (X : Nat → Prop) : List (Option Nat) :=
  (List.range ls.length).map fun y => if h : ∃ x, X x ∧ s x = y then some (Classical.choose h) else ha hs y
theorem out_at {y : Nat} (hy : y < ls.length) : ha (outOf ls hs s X) y = (open Classical in if h : ∃ x, X x ∧ s x = y then some (Classical.choose h) else ha hs y) := by
  unfold ha outOf
  rw [List.getD_eq_getElem?_getD, List.getElem?_map, List.getElem?_range hy]
  rfl
theorem out_yes (R : Rng ls hs s g X) {x : Nat} (hx : X x) : ha (outOf ls hs s X) (s x) = some x := by
  have G := R.giv x hx
  rw [out_at G.sl]
  have h : ∃ x', X x' ∧ s x' = s x := ⟨x, hx, rfl⟩
  rw [dif_pos h]
  have c := Classical.choose_spec h
  have G2 := R.giv _ c.1
  have e1 := G2.held
  rw [c.2, G.held] at e1
  rw [R.inj _ x c.1 hx (Option.some.inj e1).symm]
theorem out_no {y : Nat} (hy : y < ls.length) (h : ∀ x, X x → s x ≠ y) : ha (outOf ls hs s X) y = ha hs y := by
  rw [out_at hy, dif_neg (fun ⟨x, h1, h2⟩ => h x h1 h2)]
include ok in
theorem turn_full (ho : HoldsOk ls hs) (st : Std ls hs) (R : Rng ls hs s g X) : HoldsOk ls (outOf ls hs s X) ∧ Std ls (outOf ls hs s X) ∧ (∀ q, q < ls.length → most ls (outOf ls hs s X) q ≤ most ls hs q) ∧ sumM ls (outOf ls hs s X) < sumM ls hs ∧
    (∀ x, X x → fst ls (outOf ls hs s X) x = some (s x)) ∧ ∀ p f, p < ls.length → ¬ X p → fst ls hs p = some f → fst ls (outOf ls hs s X) p = some f := by
  -- ranks
  have my : ∀ x, X x → most ls (outOf ls hs s X) (s x) = (la ls (s x)).idxOf x := fun x hx => most_some (out_yes R hx)
  have lt : ∀ x, X x → (la ls (s x)).idxOf x < most ls hs (s x) := fun x hx => by
    have G := R.giv x hx
    obtain ⟨m1, m2, m3⟩ := (mem_left ok G.sl).mp G.ps
    refine Nat.lt_of_le_of_ne m2 fun z => ?_
    rw [most_some G.held] at z
    exact G.ne (idx_inj (ho.on _ _ G.held).2 m1 z.symm)
  have mn : ∀ y, y < ls.length → (∀ x, X x → s x ≠ y) → most ls (outOf ls hs s X) y = most ls hs y := fun y hy h => most_eq (out_no hy h)
  have le : ∀ q, q < ls.length → most ls (outOf ls hs s X) q ≤ most ls hs q := fun q hq => by
    by_cases c : ∃ x, X x ∧ s x = q
    · obtain ⟨x, hx, ex⟩ := c; subst ex
      rw [my x hx]
      exact Nat.le_of_lt (lt x hx)
    · rw [mn q hq fun x hx z => c ⟨x, hx, z⟩]
      exact Nat.le_refl _
  have sub : ∀ {p o : Nat}, p < ls.length → o ∈ leftL ls (outOf ls hs s X) p → o ∈ leftL ls hs p := fun hp h => left_le le ok hp h
  have okk : HoldsOk ls (outOf ls hs s X) := by
    refine ⟨by simp [outOf], fun p j e => ?_⟩
    have hp : p < ls.length := by
      have := ha_lt e
      simpa [outOf] using this
    by_cases c : ∃ x, X x ∧ s x = p
    · obtain ⟨x, hx, ex⟩ := c; subst ex
      rw [out_yes R hx] at e
      cases e
      have G := R.giv j hx
      exact ⟨hp, ((mem_left ok hp).mp G.ps).1⟩
    · rw [out_no hp fun x hx z => c ⟨x, hx, z⟩] at e
      exact ho.on p j e
  -- who has its first one as such: whose first one is a taker
  have fstX : ∀ x, X x → ∃ z, X z ∧ g z = x ∧ fst ls hs x = some (s z) := fun x hx => by
    obtain ⟨z, hz, e⟩ := R.pr x hx
    refine ⟨z, hz, e, ?_⟩
    have := (R.giv z hz).fq
    rw [e] at this
    exact this
  -- the first one is the only possible one that is least
  have fst_is : ∀ {p k : Nat}, p < ls.length → k ∈ leftL ls (outOf ls hs s X) p → (∀ o ∈ leftL ls (outOf ls hs s X) p, (la ls p).idxOf k ≤ (la ls p).idxOf o) → fst ls (outOf ls hs s X) p = some k := fun {p k} hp hk hmin => by
    cases e : fst ls (outOf ls hs s X) p with
    | none => rw [fst_none.mp e] at hk; cases hk
    | some o =>
      have om := fst_mem e
      have h1 := fst_min ok hp e hk
      have h2 := hmin o om
      rw [idx_inj ((mem_left ok hp).mp om).1 ((mem_left ok hp).mp hk).1 (by omega)]
  have fA : ∀ x, X x → fst ls (outOf ls hs s X) x = some (s x) := fun x hx => by
    have G := R.giv x hx
    have xl := R.lt x hx
    obtain ⟨m1, m2, m3⟩ := (mem_left ok xl).mp G.sn.mem
    have bound : (la ls x).idxOf (s x) ≤ most ls (outOf ls hs s X) x := by
      by_cases c : ∃ z, X z ∧ s z = x
      · obtain ⟨z, hz, e⟩ := c
        have h1 := my z hz
        rw [e] at h1
        rw [h1]
        have Gz := R.giv z hz
        have zm := Gz.ps
        rw [e] at zm
        refine G.sn.min z zm ?_
        have := R.good z hz (by rw [e]; exact hx)
        rw [e] at this
        exact this
      · rw [mn x xl fun z hz e => c ⟨z, hz, e⟩]
        exact m2
    refine fst_is xl ((mem_left ok xl).mpr ⟨m1, bound, by rw [my x hx]; exact Nat.le_refl _⟩) fun o hom => ?_
    refine G.sn.min o (sub xl hom) fun ef => ?_
    obtain ⟨z, hz, e, ef2⟩ := fstX x hx
    rw [ef] at ef2
    cases ef2
    have b3 := ((mem_left ok xl).mp hom).2.2
    rw [my z hz] at b3
    have h4 := lt z hz
    rw [most_some (R.giv z hz).held, e] at h4
    omega
  have noS : ∀ p f, p < ls.length → ¬ X p → fst ls hs p = some f → ∀ x, X x → s x ≠ f := fun p f hp hx ef x hxx e => by
    have h1 := st.b p f hp ef
    have h2 := (R.giv x hxx).held
    rw [e, h1] at h2
    exact hx (by rw [Option.some.inj h2]; exact R.nx x hxx)
  have fB : ∀ p f, p < ls.length → ¬ X p → fst ls hs p = some f → fst ls (outOf ls hs s X) p = some f := fun p f hp hx ef => by
    have fm := fst_mem ef
    obtain ⟨m1, m2, m3⟩ := (mem_left ok hp).mp fm
    have fl := (ok.mate hp m1).1
    refine fst_is hp ((mem_left ok hp).mpr ⟨m1, ?_, by rw [mn f fl (noS p f hp hx ef)]; exact m3⟩) fun o hom => fst_min ok hp ef (sub hp hom)
    by_cases c : ∃ z, X z ∧ s z = p
    · obtain ⟨z, hz, e⟩ := c
      have h1 := my z hz
      rw [e] at h1
      rw [h1]
      have zm := (R.giv z hz).ps
      rw [e] at zm
      exact fst_min ok hp ef zm
    · rw [mn p hp fun z hz e => c ⟨z, hz, e⟩]
      exact m2
  have fC : ∀ p j, p < ls.length → fst ls (outOf ls hs s X) p = some j → ¬ X p → fst ls hs p = some j := fun p j hp e hx => by
    cases ef : fst ls hs p with
    | none =>
      have := sub hp (fst_mem e)
      rw [fst_none.mp ef] at this
      cases this
    | some f =>
      rw [fB p f hp hx ef] at e
      exact e
  refine ⟨okk, ⟨fun p j hp e => ?_, fun p j hp e => ?_⟩, le, ?_, fA, fB⟩
  · by_cases c : ∃ x, X x ∧ s x = p
    · obtain ⟨x, hx, ex⟩ := c; subst ex
      rw [out_yes R hx] at e
      cases e
      exact fA j hx
    · rw [out_no hp fun x hx z => c ⟨x, hx, z⟩] at e
      have h1 := st.a p j hp e
      have jl := (ok.mate hp (ho.on p j e).2).1
      refine fB j p jl (fun hx => ?_) h1
      obtain ⟨z, hz, _, ef⟩ := fstX j hx
      rw [h1] at ef
      exact c ⟨z, hz, (Option.some.inj ef).symm⟩
  · by_cases hx : X p
    · rw [fA p hx] at e
      cases e
      exact out_yes R hx
    · have e1 := fC p j hp e hx
      have jl := (ok.mate hp ((mem_left ok hp).mp (fst_mem e1)).1).1
      rw [out_no jl (noS p j hp hx e1)]
      exact st.b p j hp e1
  · obtain ⟨x, hx⟩ := R.ne
    exact sum_lt (fun q hq => le q hq) (R.giv x hx).sl (by rw [my x hx]; exact lt x hx)
include ok in
theorem turn (ho : HoldsOk ls hs) (st : Std ls hs) (R : Rng ls hs s g X) : ∃ hs', HoldsOk ls hs' ∧ Std ls hs' ∧ (∀ q, q < ls.length → most ls hs' q ≤ most ls hs q) ∧ sumM ls hs' < sumM ls hs :=
  let ⟨a, b, c, d, _⟩ := turn_full ok ho st R
  ⟨_, a, b, c, d⟩
end
end K14
namespace K14
open PySem PySem.Spec PyProof.Rows L2
def it (g : Nat → Nat) : Nat → Nat → Nat
  | 0, p => p
  | m + 1, p => g (it g m p)
theorem it_add (g : Nat → Nat) (a b p : Nat) : it g (a + b) p = it g a (it g b p) := by
  induction a with
  | zero => rw [Nat.zero_add]; rfl
  | succ a ih => rw [Nat.succ_add]; show g (it g (a + b) p) = g (it g a (it g b p)); rw [ih]
theorem meets {n : Nat} {x : Nat → Nat} (h : ∀ m, x m < n) : ∃ i j, i < j ∧ x i = x j := by
  refine Classical.byContradiction fun c => ?_
  have nd : ((List.range (n + 1)).map x).Nodup := by
    refine List.pairwise_map.mpr (List.Pairwise.imp ?_ (List.pairwise_lt_range (n := n + 1)))
    intro a b lt e
    exact c ⟨a, b, lt, e⟩
  have := nodup_sub_len nd (t := List.range n) fun y hy => by
    obtain ⟨m, _, rfl⟩ := List.mem_map.mp hy
    exact List.mem_range.mpr (h m)
  simp at this
  omega
section
variable {ls : List (List Nat)} {hs : List (Option Nat)} (ok : ListsOk ls.length ls)
include ok in
theorem ring_ex (ho : HoldsOk ls hs) (st : Std ls hs) {p0 : Nat} (hp : p0 < ls.length) (h3 : 3 ≤ (leftL ls hs p0).length) : ∃ s g X, Rng ls hs s g X := by
  have ch : ∃ f : Nat → Nat × Nat, ∀ p, p < ls.length → 2 ≤ (leftL ls hs p).length → Giv ls hs p (f p).1 (f p).2 := by
    classical
    refine ⟨fun p => if h : ∃ s q, Giv ls hs p s q then (Classical.choose h, Classical.choose (Classical.choose_spec h)) else (0, 0), fun p hp h2 => ?_⟩
    have h := giv_ex ok ho st hp h2
    dsimp only
    rw [dif_pos h]
    exact Classical.choose_spec (Classical.choose_spec h)
  obtain ⟨f, hf⟩ := ch
  have well : ∀ m, it (fun p => (f p).2) m p0 < ls.length ∧ 2 ≤ (leftL ls hs (it (fun p => (f p).2) m p0)).length := by
    intro m
    induction m with
    | zero => exact ⟨hp, by show 2 ≤ (leftL ls hs p0).length; omega⟩
    | succ m ih =>
      have G := hf _ ih.1 ih.2
      exact ⟨G.ql, G.two⟩
  obtain ⟨i, j, lt, eij⟩ := meets fun m => (well m).1
  have per : ∀ m, i ≤ m → it (fun p => (f p).2) (m + (j - i)) p0 = it (fun p => (f p).2) m p0 := fun m hm => by
    have e1 : m + (j - i) = (m - i) + j := by omega
    have e2 : m = (m - i) + i := by omega
    rw [e1, it_add, ← eij, ← it_add, ← e2]
  refine ⟨fun p => (f p).1, fun p => (f p).2, fun a => ∃ m, i ≤ m ∧ a = it (fun p => (f p).2) m p0, ?_⟩
  have giv : ∀ p, (∃ m, i ≤ m ∧ p = it (fun p => (f p).2) m p0) → Giv ls hs p (f p).1 (f p).2 := by
    rintro p ⟨m, hm, rfl⟩
    exact hf _ (well m).1 (well m).2
  have lt' : ∀ p, (∃ m, i ≤ m ∧ p = it (fun p => (f p).2) m p0) → p < ls.length := by
    rintro p ⟨m, hm, rfl⟩
    exact (well m).1
  have pr : ∀ p, (∃ m, i ≤ m ∧ p = it (fun p => (f p).2) m p0) → ∃ z, (∃ m, i ≤ m ∧ z = it (fun p => (f p).2) m p0) ∧ (f z).2 = p := by
    rintro p ⟨m, hm, rfl⟩
    refine ⟨it (fun p => (f p).2) (m + (j - i) - 1) p0, ⟨_, by omega, rfl⟩, ?_⟩
    have := per m hm
    have e : m + (j - i) = (m + (j - i) - 1) + 1 := by omega
    rw [e] at this
    exact this
  refine ⟨giv, lt', ?_, pr, ?_, ?_, ⟨_, i, Nat.le_refl _, rfl⟩⟩
  · rintro p ⟨m, hm, rfl⟩
    exact ⟨m + 1, by omega, rfl⟩
  · rintro a b ⟨m, hm, rfl⟩ ⟨l, hl, rfl⟩ e
    have back : ∀ m, i ≤ m → it (fun p => (f p).2) m p0 = it (fun p => (f p).2) (j - i - 1) (it (fun p => (f p).2) (m + 1) p0) := fun m hm => by
      rw [← it_add]
      have e : j - i - 1 + (m + 1) = m + (j - i) := by omega
      rw [e, per m hm]
    have e' : it (fun p => (f p).2) (m + 1) p0 = it (fun p => (f p).2) (l + 1) p0 := e
    rw [back m hm, back l hl, e']
  · -- no giver is the first one of its second one, if this is a giver, too
    intro b0 hb0 hs0 hf0
    have one : ∀ b, (∃ m, i ≤ m ∧ b = it (fun p => (f p).2) m p0) → (∃ m, i ≤ m ∧ (f b).1 = it (fun p => (f p).2) m p0) → fst ls hs (f b).1 = some b →
        ∃ a, ((∃ m, i ≤ m ∧ a = it (fun p => (f p).2) m p0) ∧ (∃ m, i ≤ m ∧ (f a).1 = it (fun p => (f p).2) m p0) ∧ fst ls hs (f a).1 = some a) ∧ fst ls hs b = some a ∧ ∀ o ∈ leftL ls hs b, o = a ∨ o = (f b).1 := by
      intro b hb ha hfb
      have Gb := giv b hb
      have bl := lt' b hb
      have Sb := st.b _ b Gb.sl hfb
      have two : ∀ o ∈ leftL ls hs b, fst ls hs b = some o ∨ o = (f b).1 := fun o hom => by
        by_cases c : fst ls hs b = some o
        · exact .inl c
        · refine .inr ?_
          have h1 := Gb.sn.min o hom c
          obtain ⟨m1, m2, m3⟩ := (mem_left ok bl).mp hom
          rw [most_some Sb] at m2
          exact (idx_inj m1 (ho.on b _ Sb).2 (by omega))
      obtain ⟨a, hxa, ea⟩ := pr _ ha
      have Ga := giv a hxa
      have e1 := Ga.fq
      rw [ea, hfb] at e1
      have eb : b = (f a).1 := Option.some.inj e1
      have am := Ga.ps
      rw [← eb] at am
      have fb : fst ls hs b = some a := by
        rcases two a am with h | h
        · exact h
        · have := Ga.ne
          rw [ea] at this
          exact absurd h.symm this
      refine ⟨a, ⟨hxa, by rw [← eb]; exact hb, by rw [← eb]; exact fb⟩, fb, fun o hom => ?_⟩
      rcases two o hom with h | h
      · rw [fb] at h
        exact .inl (Option.some.inj h).symm
      · exact .inr h
    have back : ∀ q, q < ls.length → 2 ≤ (leftL ls hs q).length →
        ((∃ m, i ≤ m ∧ (f q).2 = it (fun p => (f p).2) m p0) ∧ (∃ m, i ≤ m ∧ (f (f q).2).1 = it (fun p => (f p).2) m p0) ∧ fst ls hs (f (f q).2).1 = some (f q).2) →
        ((∃ m, i ≤ m ∧ q = it (fun p => (f p).2) m p0) ∧ (∃ m, i ≤ m ∧ (f q).1 = it (fun p => (f p).2) m p0) ∧ fst ls hs (f q).1 = some q) := by
      rintro q hq h2 ⟨z1, z2, z3⟩
      have G := hf q hq h2
      obtain ⟨a, ⟨a1, a2, a3⟩, fa, _⟩ := one _ z1 z2 z3
      have e1 := G.fq
      rw [fa] at e1
      have ea : a = (f q).1 := Option.some.inj e1
      subst ea
      obtain ⟨c, ⟨c1, c2, c3⟩, fc, all⟩ := one _ a1 a2 a3
      rcases all q G.ps with h | h
      · rw [h]
        exact ⟨c1, c2, c3⟩
      · have Gt := giv _ a1
        have h1 := st.b _ _ Gt.sl a3
        rw [G.held] at h1
        exact absurd ((Option.some.inj h1).trans h.symm) G.ne
    have down : ∀ m, ((∃ l, i ≤ l ∧ it (fun p => (f p).2) m p0 = it (fun p => (f p).2) l p0) ∧ (∃ l, i ≤ l ∧ (f (it (fun p => (f p).2) m p0)).1 = it (fun p => (f p).2) l p0) ∧ fst ls hs (f (it (fun p => (f p).2) m p0)).1 = some (it (fun p => (f p).2) m p0)) →
        ((∃ l, i ≤ l ∧ p0 = it (fun p => (f p).2) l p0) ∧ (∃ l, i ≤ l ∧ (f p0).1 = it (fun p => (f p).2) l p0) ∧ fst ls hs (f p0).1 = some p0) := by
      intro m
      induction m with
      | zero => exact fun h => h
      | succ m ih => exact fun h => ih (back _ (well m).1 (well m).2 h)
    obtain ⟨m, hm, em⟩ := hb0
    subst em
    obtain ⟨z1, z2, z3⟩ := down m ⟨⟨m, hm, rfl⟩, hs0, hf0⟩
    obtain ⟨a, _, _, all⟩ := one p0 z1 z2 z3
    have := nodup_sub_len (left_nd (hs := hs) ok hp) (t := [a, (f p0).1]) fun o hom => by
      rcases all o hom with h | h <;> simp [h]
    simp at this
    omega
include ok in
/-- steady holds within any others that leave nobody more than two -/
theorem two_ex : ∀ (n : Nat) (hs : List (Option Nat)), HoldsOk ls hs → Std ls hs → sumM ls hs ≤ n → ∃ hs', HoldsOk ls hs' ∧ Std ls hs' ∧ (∀ q, q < ls.length → most ls hs' q ≤ most ls hs q) ∧ ∀ p, p < ls.length → (leftL ls hs' p).length ≤ 2 := by
  intro n
  induction n with
  | zero =>
    intro hs ho st hn
    by_cases c : ∃ p, p < ls.length ∧ 3 ≤ (leftL ls hs p).length
    · obtain ⟨p, hp, h3⟩ := c
      obtain ⟨s, g, X, R⟩ := ring_ex ok ho st hp h3
      obtain ⟨hs', _, _, _, lt⟩ := turn ok ho st R
      omega
    · exact ⟨hs, ho, st, fun q _ => Nat.le_refl _, fun p hp => Nat.le_of_not_lt fun h => c ⟨p, hp, h⟩⟩
  | succ n ih =>
    intro hs ho st hn
    by_cases c : ∃ p, p < ls.length ∧ 3 ≤ (leftL ls hs p).length
    · obtain ⟨p, hp, h3⟩ := c
      obtain ⟨s, g, X, R⟩ := ring_ex ok ho st hp h3
      obtain ⟨hs', ho', st', le, lt⟩ := turn ok ho st R
      obtain ⟨h2, o2, s2, l2, t2⟩ := ih hs' ho' st' (by omega)
      exact ⟨h2, o2, s2, fun q hq => Nat.le_trans (l2 q hq) (le q hq), t2⟩
    · exact ⟨hs, ho, st, fun q _ => Nat.le_refl _, fun p hp => Nat.le_of_not_lt fun h => c ⟨p, hp, h⟩⟩
end
end K14
namespace K14
open PySem PySem.Spec PyProof.Rows L2
/-- within these are all steady holds -/
def Top (ls : List (List Nat)) (hs : List (Option Nat)) : Prop := ∀ S, HoldsOk ls S → Std ls S → ∀ q, q < ls.length → most ls S q ≤ most ls hs q
structure Great (ls : List (List Nat)) (hs : List (Option Nat)) : Prop where
  ok : HoldsOk ls hs
  st : Std ls hs
  top : Top ls hs
section
variable {ls : List (List Nat)} {hs : List (Option Nat)} (ok : ListsOk ls.length ls)
include ok in
theorem ask_top (h : Half ls hs) (t : Top ls hs) {p j : Nat} (hp : p < ls.length) (e : fst ls hs p = some j) : Top ls (hs.set j (some p)) := by
  intro S so ss q hq
  have jm := fst_mem e
  obtain ⟨m1, m2, m3⟩ := (mem_left ok hp).mp jm
  obtain ⟨j1, j2, j3⟩ := ok.mate hp m1
  have jl : j < hs.length := by rw [h.ok.len]; exact j1
  have hset := fun q => ha_set (hs := hs) (j := j) (p := p) (q := q) jl
  by_cases c : q = j
  · subst c
    rw [most_some (show ha (hs.set q (some p)) q = some p by rw [hset, if_pos rfl])]
    refine Nat.le_of_not_lt fun lt => ?_
    have sub : ∀ o, o ∈ leftL ls S p → o ∈ leftL ls hs p := fun o ho => left_le (fun q hq => t S so ss q hq) ok hp ho
    have bound : (la ls p).idxOf q ≤ most ls S p := by
      cases ek : ha S p with
      | none =>
        rw [most_none ek]
        exact Nat.le_of_lt (List.idxOf_lt_length_of_mem m1)
      | some k =>
        rw [most_some ek]
        have kl := (ok.mate hp (so.on p k ek).2).1
        have km := (left_sym ok kl (fst_mem (ss.a p k hp ek))).2
        exact fst_min ok hp e (sub k km)
    have qm : q ∈ leftL ls S p := (mem_left ok hp).mpr ⟨m1, bound, by omega⟩
    cases ef : fst ls S p with
    | none => rw [fst_none.mp ef] at qm; cases qm
    | some f =>
      have fm := fst_mem ef
      have h1 := fst_min ok hp ef qm
      have h2 := fst_min ok hp e (sub f fm)
      have : f = q := idx_inj ((mem_left ok hp).mp fm).1 m1 (by omega)
      subst this
      rw [most_some (ss.b p f hp ef)] at lt
      omega
  · rw [most_eq (show ha (hs.set j (some p)) q = ha hs q by rw [hset, if_neg c])]
    exact t S so ss q hq
theorem half_none : Half ls (List.replicate ls.length none) := by
  have hn : ∀ q, ha (List.replicate ls.length (none : Option Nat)) q = none := fun q => by
    unfold ha
    rw [List.getD_eq_getElem?_getD, List.getElem?_replicate]
    split <;> rfl
  exact ⟨⟨by simp, fun p j e => by rw [hn] at e; cases e⟩, fun p j _ e => by rw [hn] at e; cases e⟩
theorem ha_none {n q : Nat} : ha (List.replicate n (none : Option Nat)) q = none := by
  unfold ha
  rw [List.getD_eq_getElem?_getD, List.getElem?_replicate]
  split <;> rfl
theorem most_le (ho : HoldsOk ls hs) {q : Nat} : most ls hs q ≤ (la ls q).length := by
  cases e : ha hs q with
  | none => rw [most_none e]; exact Nat.le_refl _
  | some j =>
    rw [most_some e]
    exact Nat.le_of_lt (List.idxOf_lt_length_of_mem (ho.on q j e).2)
theorem top_none : Top ls (List.replicate ls.length none) := fun S so _ q _ => by
  rw [most_none ha_none]
  exact most_le so
theorem great_of (h : Half ls hs) (t : Top ls hs) (no : ∀ p j, p < ls.length → fst ls hs p = some j → ∃ q, q < ls.length ∧ ha hs q = some p) : Great ls hs := by
  refine ⟨h.ok, ⟨h.a, fun p j hp e => ?_⟩, t⟩
  obtain ⟨q, hq, eq⟩ := no p j hp e
  have := h.a q p hq eq
  rw [e] at this
  rw [Option.some.inj this]
  exact eq
theorem most_inj {h1 h2 : List (Option Nat)} (o1 : HoldsOk ls h1) (o2 : HoldsOk ls h2) {q : Nat} (e : most ls h1 q = most ls h2 q) : ha h1 q = ha h2 q := by
  cases e1 : ha h1 q with
  | none =>
    cases e2 : ha h2 q with
    | none => rfl
    | some j =>
      rw [most_none e1, most_some e2] at e
      have := List.idxOf_lt_length_of_mem (o2.on q j e2).2
      omega
  | some i =>
    cases e2 : ha h2 q with
    | none =>
      rw [most_some e1, most_none e2] at e
      have := List.idxOf_lt_length_of_mem (o1.on q i e1).2
      omega
    | some j =>
      rw [most_some e1, most_some e2] at e
      rw [idx_inj (o1.on q i e1).2 (o2.on q j e2).2 e]
theorem great_one {h1 h2 : List (Option Nat)} (g1 : Great ls h1) (g2 : Great ls h2) : h1 = h2 := by
  apply List.ext_getElem?
  intro q
  by_cases c : q < ls.length
  · rw [ha_get (hs := h1) (by rw [g1.ok.len]; exact c), ha_get (hs := h2) (by rw [g2.ok.len]; exact c)]
    rw [most_inj g1.ok g2.ok (Nat.le_antisymm (g2.top h1 g1.ok g1.st q c) (g1.top h2 g2.ok g2.st q c))]
  · rw [List.getElem?_eq_none (by rw [g1.ok.len]; omega), List.getElem?_eq_none (by rw [g2.ok.len]; omega)]
include ok in
theorem great_go : ∀ (n : Nat) (hs : List (Option Nat)), Half ls hs → Top ls hs → sumM ls hs ≤ n → ∃ g, Great ls g := by
  intro n
  induction n with
  | zero =>
    intro hs h t hn
    by_cases c : ∃ p j, p < ls.length ∧ fst ls hs p = some j ∧ ∀ q, q < ls.length → ha hs q ≠ some p
    · obtain ⟨p, j, hp, e, fr⟩ := c
      have := (ask ok h hp e fr).2
      omega
    · exact ⟨hs, great_of h t fun p j hp e => Classical.byContradiction fun ne => c ⟨p, j, hp, e, fun q hq eq => ne ⟨q, hq, eq⟩⟩⟩
  | succ n ih =>
    intro hs h t hn
    by_cases c : ∃ p j, p < ls.length ∧ fst ls hs p = some j ∧ ∀ q, q < ls.length → ha hs q ≠ some p
    · obtain ⟨p, j, hp, e, fr⟩ := c
      obtain ⟨h1, h2⟩ := ask ok h hp e fr
      exact ih _ h1 (ask_top ok h t hp e) (by omega)
    · exact ⟨hs, great_of h t fun p j hp e => Classical.byContradiction fun ne => c ⟨p, j, hp, e, fun q hq eq => ne ⟨q, hq, eq⟩⟩⟩
include ok in
theorem great_ex : ∃ g, Great ls g := great_go ok _ _ half_none top_none (Nat.le_refl _)
/-! ### lasting partings -/
theorem nxt_bef {row : List Nat} (r : RowOk ls.length row) {p j : Nat} (hp : p < ls.length) : nxt row p = some j ↔ bef row j = some p := by
  rw [bef_iff r.nd]
  have hl : p < row.length := by rw [r.len]; exact hp
  unfold nxt
  rw [List.getD_eq_getElem?_getD, List.getElem?_eq_getElem hl]
  show (if row[p] = p then none else some row[p]) = some j ↔ _
  split
  · rename_i c
    constructor
    · intro e; cases e
    · rintro ⟨e1, e2⟩
      exact absurd ((Option.some.inj e1).symm.trans c).symm e2
  · rename_i c
    constructor
    · intro e
      cases e
      exact ⟨rfl, fun z => c z.symm⟩
    · rintro ⟨e1, e2⟩
      exact e1
include ok in
theorem fst_nxt {row : List Nat} (pr : PRow ls row) (st : Std ls (befs row)) {p : Nat} (hp : p < ls.length) : fst ls (befs row) p = nxt row p := by
  have ho := befs_ok ok pr
  refine opt_ext fun x => ?_
  constructor
  · intro e
    have h1 := st.b p x hp e
    have xl : x < ls.length := (ho.on x p h1).1
    rw [befs_get (by rw [pr.ok.len]; exact xl)] at h1
    exact (nxt_bef pr.ok hp).mpr h1
  · intro e
    have h1 := (nxt_bef pr.ok hp).mp e
    obtain ⟨h2, h3⟩ := (bef_iff pr.ok.nd).mp h1
    have xl : x < ls.length := pr.ok.lt x (List.mem_of_getElem? h2)
    refine st.a x p xl ?_
    rw [befs_get (by rw [pr.ok.len]; exact xl)]
    exact h1
include ok in
theorem firsts_nxt {row : List Nat} (pr : PRow ls row) (st : Std ls (befs row)) : firsts ls (befs row) = nxts row := by
  apply List.ext_getElem?
  intro p
  by_cases c : p < ls.length
  · rw [ha_get (hs := firsts ls (befs row)) (by rw [firsts_len]; exact c), ha_get (hs := nxts row) (by simp [nxts, pr.ok.len]; exact c), ha_firsts c, nxts_get (by rw [pr.ok.len]; exact c), fst_nxt ok pr st c]
  · rw [List.getElem?_eq_none (by rw [firsts_len]; omega), List.getElem?_eq_none (by simp [nxts, pr.ok.len]; omega)]
include ok in
theorem held_is {p o : Nat} (ho : HoldsOk ls hs) (h : o ∈ la ls p) (e : (la ls p).idxOf o = most ls hs p) : ha hs p = some o := by
  cases ek : ha hs p with
  | none =>
    rw [most_none ek] at e
    have := List.idxOf_lt_length_of_mem h
    omega
  | some k =>
    rw [most_some ek] at e
    rw [idx_inj h (ho.on p k ek).2 e]
include ok in
theorem lasts_iff {row : List Nat} (hr : row ∈ parts ls ls.length) : Fits ls row (befs row) ↔ Fits ls row (nxts row) ∧ ∀ p, p < ls.length → (leftL ls (befs row) p).length ≤ 2 := by
  have pr := parts_row_ok ok hr
  have ho := befs_ok ok pr
  constructor
  · intro ft
    refine ⟨fun p hp => ⟨(ft p hp).1, fun o om ⟨h1, h2⟩ => (ft p hp).2 o om ⟨?_, h2⟩⟩, fun p hp => ?_⟩
    · have := (ft p hp).1
      omega
    · have all : ∀ o ∈ leftL ls (befs row) p, o ∈ (ha (befs row) p).toList ++ (nxt row p).toList := fun o hom => by
        obtain ⟨m1, m2, m3⟩ := (mem_left ok hp).mp hom
        obtain ⟨o1, o2, o3⟩ := ok.mate hp m1
        rw [List.mem_append]
        by_cases c : (la ls p).idxOf o = most ls (befs row) p
        · rw [held_is ok ho m1 c]
          exact .inl (by simp)
        · by_cases d : (la ls o).idxOf p = most ls (befs row) o
          · have := held_is ok ho o3 d
            rw [befs_get (by rw [pr.ok.len]; exact o1)] at this
            rw [(nxt_bef pr.ok hp).mpr this]
            exact .inr (by simp)
          · exact absurd ⟨by omega, by omega⟩ ((ft p hp).2 o m1)
      have := nodup_sub_len (left_nd (hs := befs row) ok hp) all
      rw [List.length_append] at this
      have h1 : ∀ x : Option Nat, x.toList.length ≤ 1 := fun x => by cases x <;> simp
      have := h1 (ha (befs row) p)
      have := h1 (nxt row p)
      omega
  · rintro ⟨ft, two⟩ p hp
    refine ⟨(ft p hp).1, fun o om ⟨h1, h2⟩ => ?_⟩
    have st := fits_std ok hr ft
    obtain ⟨o1, o2, o3⟩ := ok.mate hp om
    have hom : o ∈ leftL ls (befs row) p := (mem_left ok hp).mpr ⟨om, by omega, by omega⟩
    cases eb : ha (befs row) p with
    | none => exact (std_held ok ho st hp).mpr (List.ne_nil_of_mem hom) eb
    | some b =>
      have bl := (ok.mate hp (ho.on p b eb).2).1
      have bm := (left_sym ok bl (fst_mem (st.a p b hp eb))).2
      have nb : o ≠ b := fun z => by rw [most_some eb, z] at h1; omega
      cases ef : fst ls (befs row) p with
      | none => rw [fst_none.mp ef] at hom; cases hom
      | some f =>
        have fm := fst_mem ef
        have hf := st.b p f hp ef
        have nf : o ≠ f := fun z => by
          rw [z, most_some hf] at h2
          omega
        by_cases c : f = b
        · subst c
          have i1 := fst_min ok hp ef hom
          rw [most_some eb] at h1
          omega
        · have := nodup_sub_len (s := [o, b, f]) (t := leftL ls (befs row) p) (by simp [nb, nf]; exact fun z => c z.symm) fun x hx => by
            simp only [List.mem_cons, List.not_mem_nil, or_false] at hx
            rcases hx with rfl | rfl | rfl
            · exact hom
            · exact bm
            · exact fm
          have h2 := two p hp
          simp at this
          omega
include ok in
theorem lasting_ex : ∃ row, row ∈ parts ls ls.length ∧ Fits ls row (befs row) := by
  obtain ⟨g, G⟩ := great_ex ok
  obtain ⟨S, so, ss, _, two⟩ := two_ex ok _ g G.ok G.st (Nat.le_refl _)
  have hr := row_parts ok so ss
  refine ⟨rowOf ls S, hr, (lasts_iff ok hr).mpr ⟨std_fits ok so ss, ?_⟩⟩
  have e : befs (rowOf ls S) = S := by
    apply List.ext_getElem?
    intro j
    by_cases c : j < ls.length
    · rw [ha_get (hs := befs (rowOf ls S)) (by simp [befs, rowOf_len]; exact c), ha_get (by rw [so.len]; exact c), befs_get (by rw [rowOf_len]; exact c), row_bef ok so ss c]
    · rw [List.getElem?_eq_none (by simp [befs, rowOf_len]; omega), List.getElem?_eq_none (by rw [so.len]; omega)]
  rw [e]
  exact two
include ok in
/-- the same persons hold in all steady holds -/
theorem single_same {g : List (Option Nat)} (G : Great ls g) (ho : HoldsOk ls hs) (st : Std ls hs) {p : Nat} (hp : p < ls.length) : leftL ls hs p = [] ↔ leftL ls g p = [] := by
  constructor
  · intro h
    refine Classical.byContradiction fun c => ?_
    have h1 := (std_held ok G.ok G.st hp).mpr c
    have h2 : ha hs p = none := Classical.byContradiction fun z => (std_held ok ho st hp).mp z h
    have le := G.top hs ho st p hp
    rw [most_none h2] at le
    cases ek : ha g p with
    | none => exact h1 ek
    | some k =>
      rw [most_some ek] at le
      have := List.idxOf_lt_length_of_mem (G.ok.on p k ek).2
      omega
  · intro h
    refine Classical.byContradiction fun c => ?_
    obtain ⟨o, t, e⟩ := List.exists_cons_of_ne_nil c
    have : o ∈ leftL ls g p := left_le (fun q hq => G.top hs ho st q hq) ok hp (by rw [e]; simp)
    rw [h] at this
    cases this
end
end K14
namespace K14
open PySem PySem.Spec PyProof.Rows L2
/-! ### asking with those who wait in a row -/
structure AO (ls : List (List Nat)) (hs : List (Option Nat)) (ws : List Nat) : Prop where
  half : Half ls hs
  top : Top ls hs
  nd : ws.Nodup
  fr : ∀ p ∈ ws, p < ls.length ∧ ∀ q, q < ls.length → ha hs q ≠ some p
  done : ∀ p, p < ls.length → p ∉ ws → (∀ q, q < ls.length → ha hs q ≠ some p) → fst ls hs p = none
section
variable {ls : List (List Nat)} {hs : List (Option Nat)} (ok : ListsOk ls.length ls)
theorem ao_start : AO ls (List.replicate ls.length none) (List.range ls.length) :=
  ⟨half_none, top_none, List.nodup_range, fun p hp => ⟨List.mem_range.mp hp, fun q _ e => by rw [ha_none] at e; cases e⟩, fun p hp h => absurd (List.mem_range.mpr hp) h⟩
theorem ao_pop {us : List Nat} {p : Nat} (a : AO ls hs (us ++ [p])) (e : fst ls hs p = none) : AO ls hs us := by
  refine ⟨a.half, a.top, (List.nodup_append.mp a.nd).1, fun x hx => a.fr x (by simp [hx]), fun x hx hn hf => ?_⟩
  by_cases c : x = p
  · rw [c]; exact e
  · exact a.done x hx (by simp [hn, c]) hf
include ok in
theorem ao_ask {us : List Nat} {p j : Nat} (a : AO ls hs (us ++ [p])) (e : fst ls hs p = some j) :
    AO ls (hs.set j (some p)) (us ++ (ha hs j).toList) ∧ sumM ls (hs.set j (some p)) < sumM ls hs := by
  obtain ⟨hp, free⟩ := a.fr p (by simp)
  obtain ⟨h1, h2⟩ := ask ok a.half hp e free
  have jm := fst_mem e
  obtain ⟨m1, m2, m3⟩ := (mem_left ok hp).mp jm
  obtain ⟨j1, j2, j3⟩ := ok.mate hp m1
  have jl : j < hs.length := by rw [a.half.ok.len]; exact j1
  have hset := fun q => ha_set (hs := hs) (j := j) (p := p) (q := q) jl
  have le : ∀ q, q < ls.length → most ls (hs.set j (some p)) q ≤ most ls hs q := fun q _ => by
    by_cases c : q = j
    · subst c
      rw [most_some (show ha (hs.set q (some p)) q = some p by rw [hset, if_pos rfl])]
      exact m3
    · rw [most_eq (show ha (hs.set j (some p)) q = ha hs q by rw [hset, if_neg c])]
      exact Nat.le_refl _
  have nd := List.nodup_append.mp a.nd
  have one : ∀ q, ha hs j = some q → q < ls.length ∧ q ≠ p ∧ ∀ k, k < ls.length → ha hs k = some q → k = j := fun q eq => by
    refine ⟨(ok.mate j1 (a.half.ok.on j q eq).2).1, fun z => free j j1 (by rw [← z]; exact eq), fun k hk ek => ?_⟩
    have f1 := a.half.a j q j1 eq
    have f2 := a.half.a k q hk ek
    rw [f1] at f2
    exact (Option.some.inj f2).symm
  refine ⟨⟨h1, ask_top ok a.half a.top hp e, ?_, ?_, ?_⟩, h2⟩
  · cases eq : ha hs j with
    | none => simpa using nd.1
    | some q =>
      rw [List.nodup_append]
      refine ⟨nd.1, by simp, fun x hx y hy z => ?_⟩
      have hy' : y = q := by simpa using hy
      subst hy'
      subst z
      exact (a.fr x (by simp [hx])).2 j j1 eq
  · intro x hx
    rcases List.mem_append.mp hx with hx | hx
    · have f := a.fr x (by simp [hx])
      refine ⟨f.1, fun q hq z => ?_⟩
      rw [hset] at z
      by_cases c : q = j
      · rw [if_pos c] at z
        cases z
        exact nd.2.2 p hx p (by simp) rfl
      · rw [if_neg c] at z
        exact f.2 q hq z
    · cases eq : ha hs j with
      | none => rw [eq] at hx; simp at hx
      | some y =>
        rw [eq] at hx
        have hx' : x = y := by simpa using hx
        subst hx'
        obtain ⟨b1, b2, b3⟩ := one x eq
        refine ⟨b1, fun q hq z => ?_⟩
        rw [hset] at z
        by_cases c : q = j
        · rw [if_pos c] at z
          exact b2 (Option.some.inj z).symm
        · rw [if_neg c] at z
          exact c (b3 q hq z)
  · intro x hx hn hf
    have xp : x ≠ p := fun z => hf j j1 (by rw [hset, if_pos rfl, z])
    have hf' : ∀ q, q < ls.length → ha hs q ≠ some x := fun q hq z => by
      by_cases c : q = j
      · subst c
        exact hn (by rw [z]; simp)
      · exact hf q hq (by rw [hset, if_neg c]; exact z)
    have hn' : x ∉ us ++ [p] := fun z => by
      rcases List.mem_append.mp z with z | z
      · exact hn (by simp [z])
      · exact xp (by simpa using z)
    have f0 := a.done x hx hn' hf'
    cases ef : fst ls (hs.set j (some p)) x with
    | none => rfl
    | some k =>
      have := left_le le ok hx (fst_mem ef)
      rw [fst_none.mp f0] at this
      cases this
theorem ao_end (a : AO ls hs []) : Great ls hs := great_of a.half a.top fun p j hp e => Classical.byContradiction fun c => by
  have := a.done p hp (by simp) fun q hq z => c ⟨q, hq, z⟩
  rw [e] at this
  cases this
end
end K14
namespace K14
open PySem PySem.Spec PyProof.Rows L2
/-! ### what stays when a ring is turned out -/
section
variable {ls : List (List Nat)} {hs S : List (Option Nat)} {s g : Nat → Nat} {X : Nat → Prop} (ok : ListsOk ls.length ls)
include ok in
/-- two steady holds leave nobody to the same persons -/
theorem left_none_same (ho : HoldsOk ls hs) (st : Std ls hs) (so : HoldsOk ls S) (ss : Std ls S) {p : Nat} (hp : p < ls.length) : leftL ls S p = [] ↔ leftL ls hs p = [] := by
  obtain ⟨g, G⟩ := great_ex ok
  rw [single_same ok G so ss hp, single_same ok G ho st hp]
include ok in
theorem fst_some (ho : HoldsOk ls hs) (st : Std ls hs) (so : HoldsOk ls S) (ss : Std ls S) {p o : Nat} (hp : p < ls.length) (h : o ∈ leftL ls hs p) : ∃ f, fst ls S p = some f := by
  cases e : fst ls S p with
  | some f => exact ⟨f, rfl⟩
  | none =>
    have := (left_none_same ok ho st so ss hp).mp (fst_none.mp e)
    rw [this] at h
    cases h
include ok in
theorem same_rank {p o o' : Nat} (h : o ∈ la ls p) (h' : o' ∈ la ls p) (e : (la ls p).idxOf o = (la ls p).idxOf o') : o = o' := by
  have h1 := List.idxOf_lt_length_of_mem h
  have e1 : (la ls p)[(la ls p).idxOf o]? = some o := by rw [List.getElem?_eq_getElem h1, List.getElem_idxOf]
  have h2 := List.idxOf_lt_length_of_mem h'
  have e2 : (la ls p)[(la ls p).idxOf o']? = some o' := by rw [List.getElem?_eq_getElem h2, List.getElem_idxOf]
  rw [e, e2] at e1
  exact (Option.some.inj e1).symm
include ok in
/-- the giver is ahead of the giver behind, for the taker between them -/
theorem Giv.ahead (ho : HoldsOk ls hs) {p t q : Nat} (G : Giv ls hs p t q) : (la ls t).idxOf p < (la ls t).idxOf q := by
  obtain ⟨a1, a2, a3⟩ := (mem_left ok G.sl).mp G.ps
  rw [most_some G.held] at a2
  refine Nat.lt_of_le_of_ne a2 fun z => G.ne ?_
  exact (same_rank ok a1 (ho.on t q G.held).2 z).symm
include ok in
/-- whoever's second one would have been its first one then -/
theorem second_is (ho : HoldsOk ls hs) (st : Std ls hs) (so : HoldsOk ls S) (ss : Std ls S) (le : ∀ y, y < ls.length → most ls S y ≤ most ls hs y) {p t q : Nat} (hp : p < ls.length) (G : Giv ls hs p t q) (ne : fst ls S p ≠ fst ls hs p) (h : (la ls t).idxOf p ≤ most ls S t) : fst ls S p = some t := by
  obtain ⟨f, ef⟩ := fst_some ok ho st so ss hp G.sn.mem
  have fm := fst_mem ef
  have fh := left_le le ok hp fm
  have f1 : fst ls hs p ≠ some f := fun z => ne (by rw [ef, z])
  have r1 := G.sn.min f fh f1
  obtain ⟨b1, b2, b3⟩ := (mem_left ok hp).mp fm
  obtain ⟨c1, c2, c3⟩ := (mem_left ok hp).mp G.sn.mem
  have sm : t ∈ leftL ls S p := (mem_left ok hp).mpr ⟨c1, by omega, h⟩
  have r2 := fst_min ok hp ef sm
  rw [ef, same_rank ok b1 c1 (by omega)]
include ok in
/-- if the giver behind keeps its first one, so does the giver -/
theorem back (ho : HoldsOk ls hs) (st : Std ls hs) (so : HoldsOk ls S) (ss : Std ls S) (le : ∀ y, y < ls.length → most ls S y ≤ most ls hs y) {p t q : Nat} (hp : p < ls.length) (G : Giv ls hs p t q) (h : fst ls S q = fst ls hs q) : fst ls S p = fst ls hs p := by
  refine Classical.byContradiction fun ne => ?_
  rw [G.fq] at h
  have sq := ss.b q t G.ql h
  have ah := G.ahead ok ho
  have e := second_is ok ho st so ss le hp G ne (by rw [most_some sq]; omega)
  have sp := ss.b p t hp e
  rw [sq] at sp
  exact G.ne (Option.some.inj sp)
include ok in
/-- lesser steady holds stay behind a ring exactly if no giver keeps its first one -/
theorem stays_iff (ho : HoldsOk ls hs) (st : Std ls hs) (so : HoldsOk ls S) (ss : Std ls S) (le : ∀ y, y < ls.length → most ls S y ≤ most ls hs y) (R : Rng ls hs s g X) :
    (∀ y, y < ls.length → most ls S y ≤ most ls (outOf ls hs s X) y) ↔ ∀ x, X x → fst ls S x ≠ fst ls hs x := by
  constructor
  · intro h x hx e
    obtain ⟨z, hz, rfl⟩ := R.pr x hx
    have G := R.giv z hz
    rw [G.fq] at e
    have sq := ss.b _ _ G.ql e
    have l := h (s z) G.sl
    rw [most_some sq, most_some (out_yes R hz)] at l
    have := G.ahead ok ho
    omega
  · intro h y hy
    by_cases c : ∃ x, X x ∧ s x = y
    · obtain ⟨x, hx, rfl⟩ := c
      rw [most_some (out_yes R hx)]
      refine Classical.byContradiction fun n => ?_
      have G := R.giv x hx
      have e := second_is ok ho st so ss le (R.lt x hx) G (h x hx) (by omega)
      have sp := ss.b x (s x) (R.lt x hx) e
      rw [most_some sp] at n
      omega
    · rw [most_eq (out_no hy fun x hx z => c ⟨x, hx, z⟩)]
      exact le y hy
include ok in
/-- in one ring all keep their first ones if one does -/
theorem all_keep (ho : HoldsOk ls hs) (st : Std ls hs) (so : HoldsOk ls S) (ss : Std ls S) (le : ∀ y, y < ls.length → most ls S y ≤ most ls hs y) (R : Rng ls hs s g X) {x : Nat} (e : fst ls S x = fst ls hs x) : ∀ (k z : Nat), X z → it g k z = x → fst ls S z = fst ls hs z
  | 0, z, hz, h => by
    have h' : z = x := h
    rw [h']
    exact e
  | k + 1, z, hz, h => by
    have h' : it g k (g z) = x := by
      have := it_add g k 1 z
      rw [h] at this
      exact this.symm
    exact back ok ho st so ss le (R.lt z hz) (R.giv z hz) (all_keep ho st so ss le R e k (g z) (R.nx z hz) h')
end
end K14
namespace K14
open PySem PySem.Spec PyProof.Rows L2
/-! ### odd rings are all there is, where nothing lesser is -/
theorem two_mem {l : List Nat} {a b c : Nat} (h : l.length = 2) (ha : a ∈ l) (hb : b ∈ l) (ne : a ≠ b) (hc : c ∈ l) : c = a ∨ c = b := by
  refine Classical.byContradiction fun n => ?_
  have n1 : c ≠ a := fun z => n (.inl z)
  have n2 : c ≠ b := fun z => n (.inr z)
  have := nodup_sub_len (s := [a, b, c]) (t := l) (by simp [ne, Ne.symm n1, Ne.symm n2]) fun x hx => by
    simp only [List.mem_cons, List.not_mem_nil, or_false] at hx
    rcases hx with rfl | rfl | rfl
    · exact ha
    · exact hb
    · exact hc
  simp at this
  omega
section
variable {ls : List (List Nat)} {hs S : List (Option Nat)} {s g : Nat → Nat} {X : Nat → Prop} (ok : ListsOk ls.length ls)
include ok in
theorem held_mem (ho : HoldsOk ls hs) (st : Std ls hs) {p j : Nat} (hp : p < ls.length) (e : ha hs p = some j) : j ∈ leftL ls hs p := by
  have h := last_held ok ho st hp
  rw [e] at h
  exact List.mem_of_getLast? h
include ok in
/-- in lesser steady holds that give no giver of an odd ring its first one: there are none -/
theorem odd_none (ho : HoldsOk ls hs) (st : Std ls hs) (so : HoldsOk ls S) (ss : Std ls S) (le : ∀ y, y < ls.length → most ls S y ≤ most ls hs y) (giv : ∀ x, X x → Giv ls hs x (s x) (g x)) (lt : ∀ x, X x → x < ls.length)
    (odd : ∀ x, X x → (∃ w, X w ∧ s w = x) ∧ (leftL ls hs x).length = 2) (ne : ∀ x, X x → fst ls S x ≠ fst ls hs x) (ex : ∃ x, X x) : False := by
  -- all are led to their second ones
  have key : ∀ x, X x → ∃ f, fst ls hs x = some f ∧ fst ls S x = some (s x) ∧ f ≠ s x ∧ ∀ o ∈ leftL ls hs x, o = f ∨ o = s x := by
    intro x hx
    have G := giv x hx
    obtain ⟨f, ef⟩ := fst_some ok so ss ho st (lt x hx) (o := (fst ls S x).getD 0) (by
      obtain ⟨f', ef'⟩ := fst_some ok ho st so ss (lt x hx) G.sn.mem
      rw [ef']
      exact fst_mem ef')
    have nf : f ≠ s x := fun z => G.sn.ne (by rw [ef, z])
    have all : ∀ o ∈ leftL ls hs x, o = f ∨ o = s x := fun o h => two_mem (odd x hx).2 (fst_mem ef) G.sn.mem nf h
    obtain ⟨f', ef'⟩ := fst_some ok ho st so ss (lt x hx) G.sn.mem
    rcases all f' (left_le le ok (lt x hx) (fst_mem ef')) with z | z
    · exact absurd (by rw [ef', ef, z]) (ne x hx)
    · exact ⟨f, ef, by rw [ef', z], nf, all⟩
  obtain ⟨x, hx⟩ := ex
  obtain ⟨⟨w, hw, rfl⟩, _⟩ := odd x hx
  obtain ⟨f, ef, eS, nf, all⟩ := key _ hx
  obtain ⟨_, _, eSw, _, _⟩ := key w hw
  have Sw := ss.b w (s w) (lt w hw) eSw
  have wm := held_mem ok so ss (lt _ hx) Sw
  have w2 : w = s (s w) := by
    rcases all w (left_le le ok (lt _ hx) wm) with z | z
    · exfalso
      have r1 := fst_min ok (lt _ hx) eS wm
      have r2 := fst_min ok (lt _ hx) ef (giv _ hx).sn.mem
      have e1 : (la ls (s w)).idxOf w = (la ls (s w)).idxOf f := congrArg (fun q => (la ls (s w)).idxOf q) z
      have m1 := ((mem_left ok (lt _ hx)).mp (fst_mem ef)).1
      have m2 := ((mem_left ok (lt _ hx)).mp (giv _ hx).sn.mem).1
      exact nf (same_rank ok m1 m2 (by omega))
    · exact z
  -- its second one is held
  have Gw := giv w hw
  have hm := held_mem ok ho st (lt _ hx) Gw.held
  rcases all (g w) hm with z | z
  · -- held first: the same as the last
    have m1 := ((mem_left ok (lt _ hx)).mp (giv _ hx).sn.mem)
    have r2 := fst_min ok (lt _ hx) ef (giv _ hx).sn.mem
    rw [most_some Gw.held, z] at m1
    have m2 := ((mem_left ok (lt _ hx)).mp (fst_mem ef)).1
    exact nf (same_rank ok m2 m1.1 (by omega))
  · rw [← w2] at z
    exact Gw.ne z
end
end K14
namespace K14
open PySem PySem.Spec PyProof.Rows L2
/-! ### a ring that is not odd may be turned out -/
/-- barred: its taker's first one is itself, and its taker gives, too -/
def Bad (ls : List (List Nat)) (hs : List (Option Nat)) (s : Nat → Nat) (X : Nat → Prop) (z : Nat) : Prop := X z ∧ X (s z) ∧ fst ls hs (s z) = some z
section
variable {ls : List (List Nat)} {hs : List (Option Nat)} {s g : Nat → Nat} {X : Nat → Prop} (ok : ListsOk ls.length ls)
include ok in
/-- who is barred has just two left -/
theorem bad_two (ho : HoldsOk ls hs) (st : Std ls hs) (giv : ∀ x, X x → Giv ls hs x (s x) (g x)) (lt : ∀ x, X x → x < ls.length) {z : Nat} (h : Bad ls hs s X z) : ∃ f, fst ls hs z = some f ∧ f ≠ s z ∧ ha hs z = some (s z) ∧ ∀ o ∈ leftL ls hs z, o = f ∨ o = s z := by
  obtain ⟨h1, h2, h3⟩ := h
  have G := giv z h1
  have hd := st.b (s z) z G.sl h3
  obtain ⟨f, ef⟩ := fst_some ok ho st ho st (lt z h1) G.sn.mem
  refine ⟨f, ef, fun e => G.sn.ne (by rw [ef, e]), hd, fun o h => ?_⟩
  by_cases c : o = f
  · exact .inl c
  · refine .inr ?_
    have r1 := G.sn.min o h (fun e => c (by rw [ef] at e; exact (Option.some.inj e).symm))
    obtain ⟨b1, b2, b3⟩ := (mem_left ok (lt z h1)).mp h
    obtain ⟨c1, c2, c3⟩ := (mem_left ok (lt z h1)).mp G.sn.mem
    rw [most_some hd] at b2
    exact same_rank ok b1 c1 (by omega)
include ok in
theorem bad_step (ho : HoldsOk ls hs) (st : Std ls hs) (giv : ∀ x, X x → Giv ls hs x (s x) (g x)) (lt : ∀ x, X x → x < ls.length) (pr : ∀ p, X p → ∃ z, X z ∧ g z = p) {z : Nat} (h : Bad ls hs s X z) : ∃ w, Bad ls hs s X w ∧ s w = z := by
  obtain ⟨f, ef, nf, hd, all⟩ := bad_two ok ho st giv lt h
  obtain ⟨h1, h2, h3⟩ := h
  obtain ⟨w, hw, gw⟩ := pr _ h2
  have G := giv w hw
  have e1 := G.fq
  rw [gw, h3] at e1
  have sw : s w = z := (Option.some.inj e1).symm
  refine ⟨w, ⟨hw, by rw [sw]; exact h1, ?_⟩, sw⟩
  have wm := G.ps
  rw [sw] at wm
  rw [sw, ef]
  rcases all w wm with e | e
  · rw [e]
  · exfalso
    have n := G.ne
    rw [gw] at n
    exact n e.symm
include ok in
theorem bad_next (ho : HoldsOk ls hs) (st : Std ls hs) (giv : ∀ x, X x → Giv ls hs x (s x) (g x)) (lt : ∀ x, X x → x < ls.length) (pr : ∀ p, X p → ∃ z, X z ∧ g z = p) {z : Nat} (h : Bad ls hs s X z) : Bad ls hs s X (s z) := by
  have ex : ∀ q : {z : Nat // Bad ls hs s X z}, ∃ w : {z : Nat // Bad ls hs s X z}, s w.1 = q.1 := fun q => by
    obtain ⟨w, hw, e⟩ := bad_step ok ho st giv lt pr q.2
    exact ⟨⟨w, hw⟩, e⟩
  obtain ⟨φ, hφ⟩ : ∃ φ : {z : Nat // Bad ls hs s X z} → {z : Nat // Bad ls hs s X z}, ∀ q, s (φ q).1 = q.1 := ⟨fun q => Classical.choose (ex q), fun q => Classical.choose_spec (ex q)⟩
  let F : Nat → {z : Nat // Bad ls hs s X z} := fun k => Nat.rec ⟨z, h⟩ (fun _ q => φ q) k
  have F0 : (F 0).1 = z := rfl
  have F1 : ∀ k, s (F (k + 1)).1 = (F k).1 := fun k => hφ (F k)
  obtain ⟨i, j, ij, e⟩ := meets (x := fun k => (F k).1) (n := ls.length) fun m => lt _ (F m).2.1
  -- going back from both
  have down : ∀ a b, (F a).1 = (F b).1 → a ≤ b → (F (b - a)).1 = z := by
    intro a
    induction a with
    | zero =>
      intro b e _
      rw [Nat.sub_zero, ← e]
      exact F0
    | succ a ih =>
      intro b e le
      match b, le with
      | b + 1, le =>
        have e' : (F a).1 = (F b).1 := by rw [← F1 a, ← F1 b, e]
        have := ih b e' (by omega)
        rw [show b + 1 - (a + 1) = b - a by omega]
        exact this
  have d := down i j e (by omega)
  obtain ⟨k, hk⟩ : ∃ k, j - i = k + 1 := ⟨j - i - 1, by omega⟩
  rw [hk] at d
  have := F1 k
  rw [d] at this
  rw [this]
  exact (F k).2
include ok in
/-- if one of a ring is barred, the ring is odd -/
theorem bad_odd (ho : HoldsOk ls hs) (st : Std ls hs) (giv : ∀ x, X x → Giv ls hs x (s x) (g x)) (lt : ∀ x, X x → x < ls.length) (pr : ∀ p, X p → ∃ z, X z ∧ g z = p) (conn : ∀ x y, X x → X y → ∃ k, it g k x = y) {z : Nat} (h : Bad ls hs s X z) :
    ∀ x, X x → (∃ w, X w ∧ s w = x) ∧ (leftL ls hs x).length = 2 := by
  have step : ∀ x, Bad ls hs s X x → Bad ls hs s X (g x) := fun x hx => by
    have h1 := bad_next ok ho st giv lt pr hx
    have h2 := bad_next ok ho st giv lt pr h1
    have e1 := (giv x hx.1).held
    have e2 := st.b _ _ (giv _ h1.1).sl h1.2.2
    rw [e1] at e2
    rw [Option.some.inj e2]
    exact h2
  have all : ∀ k, Bad ls hs s X (it g k z) := by
    intro k
    induction k with
    | zero => exact h
    | succ k ih =>
      have : it g (k + 1) z = g (it g k z) := by rw [Nat.add_comm, it_add g 1 k z]; rfl
      rw [this]
      exact step _ ih
  intro x hx
  obtain ⟨k, rfl⟩ := conn z x h.1 hx
  have hb := all k
  obtain ⟨w, hw, e⟩ := bad_step ok ho st giv lt pr hb
  obtain ⟨f, ef, nf, hd, two⟩ := bad_two ok ho st giv lt hb
  refine ⟨⟨w, hw.1, e⟩, ?_⟩
  have lo := two_of (fst_mem ef) (giv _ hx).sn.mem nf
  have hi := nodup_sub_len (left_nd (hs := hs) ok (lt _ hx)) (t := [f, s (it g k z)]) fun o ho' => by
    rcases two o ho' with rfl | e
    · simp
    · rw [e]; simp
  simp at hi
  omega
end
end K14
namespace K14
open PySem PySem.Spec PyProof.Rows L2
/-! ### the rings that givers lead to -/
section
variable {ls : List (List Nat)} {hs S : List (Option Nat)} {s g : Nat → Nat} (ok : ListsOk ls.length ls)
def Orb (g : Nat → Nat) (x0 : Nat) (x : Nat) : Prop := ∃ k, x = it g k x0
theorem it_one (g : Nat → Nat) (k p : Nat) : it g (k + 1) p = g (it g k p) := by
  rw [Nat.add_comm, it_add g 1 k p]
  rfl
theorem it_in (g : Nat → Nat) (k p : Nat) : it g (k + 1) p = it g k (g p) := by
  rw [it_add g k 1 p]
  rfl
/-- all on the way have two or more left -/
theorem way (G : ∀ p, p < ls.length → 2 ≤ (leftL ls hs p).length → Giv ls hs p (s p) (g p)) {p : Nat} (hp : p < ls.length) (h2 : 2 ≤ (leftL ls hs p).length) : ∀ k, it g k p < ls.length ∧ 2 ≤ (leftL ls hs (it g k p)).length
  | 0 => ⟨hp, h2⟩
  | k + 1 => by
    obtain ⟨a, b⟩ := way G hp h2 k
    rw [it_one]
    have := G _ a b
    exact ⟨this.ql, this.two⟩
theorem turns {m x0 : Nat} (hm : it g m x0 = x0) : ∀ k, it g m (it g k x0) = it g k x0 := fun k => by
  rw [← it_add, Nat.add_comm, it_add, hm]
theorem turns_all {m x0 : Nat} (hm : it g m x0 = x0) : ∀ c, it g (c * m) x0 = x0
  | 0 => by rw [Nat.zero_mul]; rfl
  | c + 1 => by rw [Nat.succ_mul, it_add, hm, turns_all hm c]
/-- such a ring -/
theorem orb_giv (G : ∀ p, p < ls.length → 2 ≤ (leftL ls hs p).length → Giv ls hs p (s p) (g p)) {x0 : Nat} (hp : x0 < ls.length) (h2 : 2 ≤ (leftL ls hs x0).length) : ∀ x, Orb g x0 x → Giv ls hs x (s x) (g x) := by
  rintro x ⟨k, rfl⟩
  obtain ⟨a, b⟩ := way G hp h2 k
  exact G _ a b
theorem orb_lt (G : ∀ p, p < ls.length → 2 ≤ (leftL ls hs p).length → Giv ls hs p (s p) (g p)) {x0 : Nat} (hp : x0 < ls.length) (h2 : 2 ≤ (leftL ls hs x0).length) : ∀ x, Orb g x0 x → x < ls.length := by
  rintro x ⟨k, rfl⟩
  exact (way G hp h2 k).1
theorem orb_nx {x0 : Nat} : ∀ x, Orb g x0 x → Orb g x0 (g x) := by
  rintro x ⟨k, rfl⟩
  exact ⟨k + 1, (it_one g k x0).symm⟩
theorem orb_pr {x0 m : Nat} (m1 : 1 ≤ m) (hm : it g m x0 = x0) : ∀ x, Orb g x0 x → ∃ z, Orb g x0 z ∧ g z = x := by
  rintro x ⟨k, rfl⟩
  obtain ⟨n, rfl⟩ : ∃ n, m = n + 1 := ⟨m - 1, by omega⟩
  refine ⟨it g n (it g k x0), ⟨n + k, it_add g n k x0 ▸ rfl⟩, ?_⟩
  show it g (n + 1) (it g k x0) = it g k x0
  exact turns hm k
theorem orb_inj {x0 m : Nat} (m1 : 1 ≤ m) (hm : it g m x0 = x0) : ∀ x z, Orb g x0 x → Orb g x0 z → g x = g z → x = z := by
  rintro x z ⟨k, rfl⟩ ⟨j, rfl⟩ e
  obtain ⟨n, rfl⟩ : ∃ n, m = n + 1 := ⟨m - 1, by omega⟩
  have a := turns hm k
  have b := turns hm j
  rw [it_in, e, ← it_in, b] at a
  exact a.symm
theorem orb_conn {x0 m : Nat} (m1 : 1 ≤ m) (hm : it g m x0 = x0) : ∀ x y, Orb g x0 x → Orb g x0 y → ∃ k, it g k x = y := by
  rintro x y ⟨k, rfl⟩ ⟨j, rfl⟩
  refine ⟨j + (k * m - k), ?_⟩
  have le : k ≤ k * m := Nat.le_mul_of_pos_right _ (by omega)
  rw [← it_add, show j + (k * m - k) + k = j + k * m by omega, it_add, turns_all hm]
/-- odd, as the document says it -/
def OddX (ls : List (List Nat)) (hs : List (Option Nat)) (s : Nat → Nat) (X : Nat → Prop) : Prop := ∀ x, X x → (∃ w, X w ∧ s w = x) ∧ (leftL ls hs x).length = 2
include ok in
/-- a ring that is not odd may be turned out -/
theorem orb_rng (ho : HoldsOk ls hs) (st : Std ls hs) (G : ∀ p, p < ls.length → 2 ≤ (leftL ls hs p).length → Giv ls hs p (s p) (g p)) {x0 m : Nat} (hp : x0 < ls.length) (h2 : 2 ≤ (leftL ls hs x0).length) (m1 : 1 ≤ m) (hm : it g m x0 = x0) (n : ¬ OddX ls hs s (Orb g x0)) :
    Rng ls hs s g (Orb g x0) where
  giv := orb_giv G hp h2
  lt := orb_lt G hp h2
  nx := orb_nx
  pr := orb_pr m1 hm
  inj := orb_inj m1 hm
  good := fun z h1 h2' e => n (bad_odd ok ho st (orb_giv G hp h2) (orb_lt G hp h2) (orb_pr m1 hm) (orb_conn m1 hm) ⟨h1, h2', e⟩)
  ne := ⟨x0, 0, rfl⟩
include ok in
/-- if there are other steady holds within, there is a ring that is not odd -/
theorem lesser_ring (ho : HoldsOk ls hs) (st : Std ls hs) (so : HoldsOk ls S) (ss : Std ls S) (le : ∀ y, y < ls.length → most ls S y ≤ most ls hs y) (ne : S ≠ hs) (G : ∀ p, p < ls.length → 2 ≤ (leftL ls hs p).length → Giv ls hs p (s p) (g p)) :
    ∃ x0 m, x0 < ls.length ∧ 2 ≤ (leftL ls hs x0).length ∧ 1 ≤ m ∧ it g m x0 = x0 ∧ ¬ OddX ls hs s (Orb g x0) := by
  -- somebody has another first one
  obtain ⟨p, hp, hn⟩ : ∃ p, p < ls.length ∧ fst ls S p ≠ fst ls hs p := by
    refine Classical.byContradiction fun c => ne ?_
    have all : ∀ p, p < ls.length → fst ls S p = fst ls hs p := fun p hp => Classical.byContradiction fun z => c ⟨p, hp, z⟩
    apply List.ext_getElem?
    intro q
    by_cases hq : q < ls.length
    · rw [ha_get (by rw [so.len]; exact hq), ha_get (by rw [ho.len]; exact hq)]
      congr 1
      cases e1 : ha hs q with
      | some j =>
        have jl := (ok.mate hq (ho.on q j e1).2).1
        have f1 := st.a q j hq e1
        rw [← all j jl] at f1
        exact ss.b j q jl f1
      | none =>
        cases e2 : ha S q with
        | none => rfl
        | some j =>
          have jl := (ok.mate hq (so.on q j e2).2).1
          have f1 := ss.a q j hq e2
          rw [all j jl] at f1
          rw [st.b j q jl f1] at e1
          cases e1
    · rw [List.getElem?_eq_none (by rw [so.len]; omega), List.getElem?_eq_none (by rw [ho.len]; omega)]
  -- it has two left
  have two : ∀ q, q < ls.length → fst ls S q ≠ fst ls hs q → 2 ≤ (leftL ls hs q).length := fun q hq n => by
    cases e1 : fst ls S q with
    | none =>
      exfalso
      have z := (left_none_same ok ho st so ss hq).mp (fst_none.mp e1)
      exact n (by rw [e1, fst_none.mpr z])
    | some f =>
      have fm := left_le le ok hq (fst_mem e1)
      obtain ⟨f2, e2⟩ := fst_some ok so ss ho st hq (fst_mem e1)
      exact two_of fm (fst_mem e2) fun z => n (by rw [e1, e2, z])
  have all : ∀ k, fst ls S (it g k p) ≠ fst ls hs (it g k p) := by
    intro k
    induction k with
    | zero => exact hn
    | succ k ih =>
      obtain ⟨a, b⟩ := way G hp (two p hp hn) k
      rw [it_one]
      exact fun e => ih (back ok ho st so ss le a (G _ a b) e)
  obtain ⟨i, j, ij, e⟩ := meets (x := fun k => it g k p) (n := ls.length) fun m => (way G hp (two p hp hn) m).1
  obtain ⟨a, b⟩ := way G hp (two p hp hn) i
  have hm : it g (j - i) (it g i p) = it g i p := by
    rw [← it_add, show j - i + i = j by omega]
    exact e.symm
  refine ⟨it g i p, j - i, a, b, by omega, hm, fun odd => ?_⟩
  refine odd_none ok ho st so ss le (orb_giv G a b) (orb_lt G a b) odd (fun x hx => ?_) ⟨_, 0, rfl⟩
  obtain ⟨k, rfl⟩ := hx
  rw [← it_add]
  exact all (k + i)
end
end K14
namespace K14
open PySem PySem.Spec PyProof.Rows L2
/-! ### the rings that "behind" leads to, nobody standing for an end -/
/-- the one behind; the end is behind itself -/
def gB (bs : List (Option Nat)) (p : Nat) : Nat := (ha bs p).getD bs.length
/-- the ring from p on, of m persons -/
def ringL (g : Nat → Nat) (p m : Nat) : List Nat := (List.range m).map fun k => it g k p
theorem ringL_succ {g : Nat → Nat} {p m : Nat} : ringL g p (m + 1) = ringL g p m ++ [it g m p] := by
  unfold ringL
  rw [List.range_succ, List.map_append]
  rfl
theorem ringL_len {g : Nat → Nat} {p m : Nat} : (ringL g p m).length = m := by simp [ringL]
theorem ringL_at {g : Nat → Nat} {p m k : Nat} (h : k < m) : (ringL g p m)[k]? = some (it g k p) := by
  unfold ringL
  rw [List.getElem?_map, List.getElem?_range h]
  rfl
theorem ringL_mem {g : Nat → Nat} {p m x : Nat} : x ∈ ringL g p m ↔ ∃ k, k < m ∧ it g k p = x := by
  unfold ringL
  rw [List.mem_map]
  exact ⟨fun ⟨k, h, e⟩ => ⟨k, List.mem_range.mp h, e⟩, fun ⟨k, h, e⟩ => ⟨k, List.mem_range.mpr h, e⟩⟩
/-- on a ring of just m persons -/
structure Cyc (g : Nat → Nat) (p m : Nat) : Prop where
  one : 1 ≤ m
  back : it g m p = p
  least : ∀ k, 1 ≤ k → k < m → it g k p ≠ p
theorem Cyc.uniq {g : Nat → Nat} {p m m' : Nat} (a : Cyc g p m) (b : Cyc g p m') : m = m' := by
  rcases Nat.lt_trichotomy m m' with h | h | h
  · exact absurd a.back (b.least m a.one h)
  · exact h
  · exact absurd b.back (a.least m' b.one h)
theorem Cyc.inj {g : Nat → Nat} {p m i j : Nat} (c : Cyc g p m) (hj : j < m) (ij : i < j) : it g i p ≠ it g j p := fun e => by
  refine c.least (j - i) (by omega) (by omega) ?_
  have h1 : it g (m - i) (it g i p) = p := by
    rw [← it_add, show m - i + i = m by omega]
    exact c.back
  rw [e, ← it_add, show m - i + j = (j - i) + m by omega, it_add, c.back] at h1
  exact h1
theorem Cyc.turn {g : Nat → Nat} {p m : Nat} (c : Cyc g p m) (a : Nat) : Cyc g (it g a p) m where
  one := c.one
  back := turns c.back a
  least := fun k h1 h2 e => by
    refine c.least k h1 h2 ?_
    -- back to p
    have hb : ∃ b, it g b (it g a p) = p := by
      refine ⟨a * m - a, ?_⟩
      have le : a ≤ a * m := Nat.le_mul_of_pos_right _ c.one
      rw [← it_add, show a * m - a + a = a * m by omega, turns_all c.back]
    obtain ⟨b, hb⟩ := hb
    have : it g b (it g k (it g a p)) = it g b (it g a p) := by rw [e]
    rw [← it_add, Nat.add_comm, it_add, hb] at this
    exact this
theorem Cyc.le {g : Nat → Nat} {p m n : Nat} (c : Cyc g p m) (h : ∀ k, it g k p < n) : m ≤ n := by
  have nd : (ringL g p m).Nodup := by
    refine List.pairwise_map.mpr (List.Pairwise.imp_of_mem ?_ (List.pairwise_lt_range (n := m)))
    intro a b _ hb lt
    exact c.inj (List.mem_range.mp hb) lt
  have := nodup_sub_len nd (t := List.range n) fun y hy => by
    obtain ⟨k, _, rfl⟩ := ringL_mem.mp hy
    exact List.mem_range.mpr (h k)
  simpa [ringL] using this
/-- turned to another person of it -/
theorem rot {g : Nat → Nat} {p m a : Nat} (hm : it g m p = p) (h : a < m) : (ringL g p m).drop a ++ (ringL g p m).take a = ringL g (it g a p) m := by
  apply List.ext_getElem?
  intro k
  by_cases c1 : k < m - a
  · rw [List.getElem?_append_left (by rw [List.length_drop, ringL_len]; omega), List.getElem?_drop, ringL_at (by omega), ringL_at (by omega), ← it_add, Nat.add_comm]
  · rw [List.getElem?_append_right (by rw [List.length_drop, ringL_len]; omega), List.length_drop, ringL_len]
    by_cases c2 : k < m
    · rw [List.getElem?_take, if_pos (by omega), ringL_at (by omega), ringL_at c2, ← it_add, show k + a = (k - (m - a)) + m by omega, it_add, hm]
    · rw [List.getElem?_eq_none (by rw [List.length_take, ringL_len]; omega), List.getElem?_eq_none (by rw [ringL_len]; omega)]
/-! ### how many are on the ring of a person -/
def per (bs : List (Option Nat)) (p : Nat) : Nat := match (List.range bs.length).find? fun k => decide (it (gB bs) (k + 1) p = p) with
  | some k => k + 1
  | none => 0
theorem find_least {f : Nat → Bool} {n k : Nat} (h : (List.range n).find? f = some k) : k < n ∧ f k = true ∧ ∀ j, j < k → f j = false := by
  obtain ⟨h1, as, bs, e, h2⟩ := List.find?_eq_some_iff_append.mp h
  have hk : k < n := List.mem_range.mp (by rw [e]; simp)
  refine ⟨hk, h1, fun j hj => ?_⟩
  have hm : j ∈ as := by
    have hl : as.length = k := by
      have : (List.range n)[as.length]? = some k := by rw [e, List.getElem?_append_right (Nat.le_refl _)]; simp
      have hlt : as.length < n := by
        have := congrArg List.length e
        simp at this
        omega
      rw [List.getElem?_range hlt] at this
      exact Option.some.inj this
    have : (List.range n)[j]? = some j := List.getElem?_range (by omega)
    rw [e, List.getElem?_append_left (by omega)] at this
    exact List.mem_of_getElem? this
  simpa using h2 j hm
theorem per_cyc {bs : List (Option Nat)} {p : Nat} (h : per bs p ≠ 0) : Cyc (gB bs) p (per bs p) := by
  unfold per at h ⊢
  cases e : (List.range bs.length).find? fun k => decide (it (gB bs) (k + 1) p = p) with
  | none => rw [e] at h; exact absurd rfl h
  | some k =>
    obtain ⟨_, h1, h2⟩ := find_least e
    refine ⟨Nat.le_add_left _ _, of_decide_eq_true h1, fun j j1 j2 => ?_⟩
    have := of_decide_eq_false (h2 (j - 1) (by show j - 1 < k; have : j < k + 1 := j2; omega))
    rw [show j - 1 + 1 = j by omega] at this
    exact this
theorem cyc_per {bs : List (Option Nat)} {p m : Nat} (c : Cyc (gB bs) p m) (h : ∀ k, it (gB bs) k p < bs.length) : per bs p = m := by
  have hn : per bs p ≠ 0 := by
    unfold per
    cases e : (List.range bs.length).find? fun k => decide (it (gB bs) (k + 1) p = p) with
    | some k => exact Nat.succ_ne_zero _
    | none =>
      have := List.find?_eq_none.mp e (m - 1) (List.mem_range.mpr (by have := c.le h; have := c.one; omega))
      rw [show m - 1 + 1 = m by have := c.one; omega] at this
      exact absurd (decide_eq_true c.back) this
  exact (per_cyc hn).uniq c
/-- the least of its ring -/
def isLst (bs : List (Option Nat)) (p : Nat) : Bool := decide (per bs p ≠ 0) && (List.range (per bs p)).all fun k => decide (p ≤ it (gB bs) k p)
def ringsA (bs : List (Option Nat)) : List (List Nat) := ((List.range bs.length).filter (isLst bs)).map fun p => ringL (gB bs) p (per bs p)
theorem isLst_iff {bs : List (Option Nat)} {p : Nat} : isLst bs p = true ↔ per bs p ≠ 0 ∧ ∀ k, k < per bs p → p ≤ it (gB bs) k p := by
  unfold isLst
  rw [Bool.and_eq_true, decide_eq_true_eq, List.all_eq_true]
  exact ⟨fun ⟨a, b⟩ => ⟨a, fun k hk => of_decide_eq_true (b k (List.mem_range.mpr hk))⟩, fun ⟨a, b⟩ => ⟨a, fun k hk => decide_eq_true (b k (List.mem_range.mp hk))⟩⟩
/-- who is behind is one of them -/
def Clo (bs : List (Option Nat)) : Prop := ∀ p q, ha bs p = some q → q < bs.length
theorem ha_none_of {bs : List (Option Nat)} {p : Nat} (h : bs.length ≤ p) : ha bs p = none := by
  unfold ha
  rw [List.getD_eq_getElem?_getD, List.getElem?_eq_none h]
  rfl
theorem gB_end {bs : List (Option Nat)} : gB bs bs.length = bs.length := by
  unfold gB
  rw [ha_none_of (Nat.le_refl _)]
  rfl
theorem gB_le {bs : List (Option Nat)} (cl : Clo bs) (p : Nat) : gB bs p ≤ bs.length := by
  unfold gB
  cases e : ha bs p with
  | none => exact Nat.le_refl _
  | some q => exact Nat.le_of_lt (cl p q e)
theorem gB_some {bs : List (Option Nat)} {p : Nat} (h : gB bs p < bs.length) : ha bs p = some (gB bs p) := by
  unfold gB at h ⊢
  cases e : ha bs p with
  | none => rw [e] at h; exact absurd h (Nat.lt_irrefl _)
  | some q => rfl
/-- who is on a ring and leads to some that nobody leaves is one of them -/
theorem cyc_in {g : Nat → Nat} {T : Nat → Prop} (tc : ∀ x, T x → T (g x)) {p m k : Nat} (m1 : 1 ≤ m) (hm : it g m p = p) (h : T (it g k p)) : T p := by
  have all : ∀ j, T (it g j (it g k p)) := fun j => by
    induction j with
    | zero => exact h
    | succ j ih => exact tc _ ih
  have := all (k * m - k)
  have le : k ≤ k * m := Nat.le_mul_of_pos_right _ m1
  rw [← it_add, show k * m - k + k = k * m by omega, turns_all hm] at this
  exact this
/-- on a ring nobody is at the end -/
theorem cyc_lt {bs : List (Option Nat)} (cl : Clo bs) {p m : Nat} (hp : p < bs.length) (m1 : 1 ≤ m) (hm : it (gB bs) m p = p) : ∀ k, it (gB bs) k p < bs.length := by
  intro k
  have le : it (gB bs) k p ≤ bs.length := by
    cases k with
    | zero => exact Nat.le_of_lt hp
    | succ k => exact gB_le cl _
  refine Nat.lt_of_le_of_ne le fun e => ?_
  have : p = bs.length := cyc_in (T := fun x => x = bs.length) (fun x hx => by rw [hx]; exact gB_end) m1 hm (k := k) e
  omega
theorem gB_way {bs : List (Option Nat)} {p : Nat} (h : ∀ k, it (gB bs) k p < bs.length) (k : Nat) : ha bs (it (gB bs) k p) = some (it (gB bs) (k + 1) p) := gB_some (h (k + 1))
/-- the rings of the met ones -/
structure Met (bs : List (Option Nat)) (T : Nat → Prop) (Rr : List (List Nat)) : Prop where
  lt : ∀ x, T x → x < bs.length
  clo : ∀ x, T x → gB bs x < bs.length → T (gB bs x)
  nd : Rr.Nodup
  iff : ∀ r, r ∈ Rr ↔ ∃ p, p < bs.length ∧ isLst bs p = true ∧ T p ∧ r = ringL (gB bs) p (per bs p)
theorem Met.start {bs : List (Option Nat)} : Met bs (fun _ => False) [] := ⟨fun _ h => h.elim, fun _ h => h.elim, by simp, fun r => by simp⟩
section
variable {bs : List (Option Nat)} (cl : Clo bs) {T : Nat → Prop} {Rr : List (List Nat)} {first j : Nat}
/-- the walk from first on: none of it met, all unlike -/
structure Way9 (bs : List (Option Nat)) (T : Nat → Prop) (first j : Nat) : Prop where
  lt : ∀ k, k < j → it (gB bs) k first < bs.length
  new : ∀ k, k < j → ¬ T (it (gB bs) k first)
  nd : ∀ i k, i < k → k < j → it (gB bs) i first ≠ it (gB bs) k first
def With (bs : List (Option Nat)) (T : Nat → Prop) (first j : Nat) : Nat → Prop := fun x => T x ∨ ∃ k, k < j ∧ it (gB bs) k first = x
include cl in
/-- no new ring where the way ends or comes to those met before -/
theorem Met.none (M : Met bs T Rr) (W : Way9 bs T first j) (h : it (gB bs) j first = bs.length ∨ T (it (gB bs) j first)) : Met bs (With bs T first j) Rr where
  lt := fun x hx => hx.elim (M.lt x) fun ⟨k, hk, e⟩ => e ▸ W.lt k hk
  clo := fun x hx lt => by
    rcases hx with hx | ⟨k, hk, rfl⟩
    · exact .inl (M.clo x hx lt)
    · by_cases c : k + 1 < j
      · exact .inr ⟨k + 1, c, rfl⟩
      · have e : k + 1 = j := by omega
        rw [← e] at h
        rcases h with h | h
        · exact absurd (show gB bs (it (gB bs) k first) = bs.length from h) (by omega)
        · exact .inl h
  nd := M.nd
  iff := fun r => by
    rw [M.iff]
    constructor
    · rintro ⟨p, h1, h2, h3, h4⟩
      exact ⟨p, h1, h2, .inl h3, h4⟩
    · rintro ⟨p, h1, h2, h3, h4⟩
      rcases h3 with h3 | ⟨k, hk, rfl⟩
      · exact ⟨p, h1, h2, h3, h4⟩
      · exfalso
        have c := per_cyc (isLst_iff.mp h2).1
        have key : (it (gB bs) k first = bs.length ∨ T (it (gB bs) k first)) := by
          refine cyc_in (T := fun x => x = bs.length ∨ T x) (fun x hx => ?_) c.one c.back (k := j - k) ?_
          · rcases hx with rfl | hx
            · exact .inl gB_end
            · by_cases d : gB bs x < bs.length
              · exact .inr (M.clo x hx d)
              · exact .inl (by have := gB_le cl x; omega)
          · rw [← it_add, show j - k + k = j by omega]
            exact h
        rcases key with e | e
        · omega
        · exact W.new k hk e
include cl in
/-- a new ring where the way comes to itself -/
theorem Met.one (M : Met bs T Rr) (W : Way9 bs T first j) {i : Nat} (hi : i < j) (h : it (gB bs) j first = it (gB bs) i first) {mn a : Nat} (am : a < j - i) (ea : mn = it (gB bs) a (it (gB bs) i first)) (least : ∀ k, k < j - i → mn ≤ it (gB bs) k (it (gB bs) i first)) :
    Cyc (gB bs) (it (gB bs) i first) (j - i) ∧ Met bs (With bs T first j) (Rr ++ [ringL (gB bs) mn (j - i)]) := by
  have c : Cyc (gB bs) (it (gB bs) i first) (j - i) := ⟨by omega, by rw [← it_add, show j - i + i = j by omega]; exact h, fun k k1 k2 e => by
    rw [← it_add] at e
    exact W.nd i (k + i) (by omega) (by omega) e.symm⟩
  refine ⟨c, ?_⟩
  have cm : Cyc (gB bs) mn (j - i) := ea ▸ c.turn a
  have mlt : mn < bs.length := by
    rw [ea, ← it_add]
    exact W.lt _ (by omega)
  have pm : per bs mn = j - i := cyc_per cm (cyc_lt cl mlt cm.one cm.back)
  have on : ∀ k, ∃ b, b < j - i ∧ it (gB bs) k mn = it (gB bs) b (it (gB bs) i first) := fun k => by
    have all : ∀ n, ∃ b, b < j - i ∧ it (gB bs) n (it (gB bs) i first) = it (gB bs) b (it (gB bs) i first) := fun n => by
      refine ⟨n % (j - i), Nat.mod_lt _ (by omega), ?_⟩
      conv => lhs; rw [← Nat.mod_add_div n (j - i), it_add, Nat.mul_comm, turns_all c.back]
    rw [ea, ← it_add]
    exact all _
  have lm : isLst bs mn = true := isLst_iff.mpr ⟨by rw [pm]; omega, fun k _ => by
    obtain ⟨b, hb, e⟩ := on k
    rw [e]
    exact least b hb⟩
  have new : With bs T first j mn ∧ ¬ T mn := by
    rw [ea, ← it_add]
    exact ⟨.inr ⟨_, by omega, rfl⟩, W.new _ (by omega)⟩
  exact {
    lt := fun x hx => hx.elim (M.lt x) fun ⟨k, hk, e⟩ => e ▸ W.lt k hk
    clo := fun x hx lt => by
      rcases hx with hx | ⟨k, hk, rfl⟩
      · exact .inl (M.clo x hx lt)
      · by_cases d : k + 1 < j
        · exact .inr ⟨k + 1, d, rfl⟩
        · have e : k + 1 = j := by omega
          refine .inr ⟨i, hi, ?_⟩
          rw [← h, ← e]
          rfl
    nd := by
      refine List.nodup_append.mpr ⟨M.nd, by simp, fun x hx y hy => ?_⟩
      simp at hy
      subst hy
      rintro rfl
      obtain ⟨p, h1, h2, h3, h4⟩ := (M.iff _).mp hx
      have hl := congrArg List.length h4
      rw [ringL_len, ringL_len] at hl
      have h5 : (ringL (gB bs) mn (j - i))[0]? = (ringL (gB bs) p (per bs p))[0]? := by rw [h4]
      rw [ringL_at (by omega), ringL_at (by omega)] at h5
      have : mn = p := Option.some.inj h5
      subst this
      exact new.2 h3
    iff := fun r => by
      rw [List.mem_append, M.iff]
      constructor
      · rintro (⟨p, h1, h2, h3, h4⟩ | h)
        · exact ⟨p, h1, h2, .inl h3, h4⟩
        · simp at h
          exact ⟨mn, mlt, lm, new.1, by rw [pm]; exact h⟩
      · rintro ⟨p, h1, h2, h3, h4⟩
        rcases h3 with h3 | ⟨k, hk, rfl⟩
        · exact .inl ⟨p, h1, h2, h3, h4⟩
        · right
          -- it is on that ring, and its least one
          obtain ⟨q0, q1⟩ := isLst_iff.mp h2
          have cp := per_cyc q0
          obtain ⟨b, hb⟩ : ∃ b, it (gB bs) k first = it (gB bs) b (it (gB bs) i first) := by
            refine cyc_in (T := fun x => ∃ b, x = it (gB bs) b (it (gB bs) i first)) (fun x ⟨b, hx⟩ => ⟨b + 1, by rw [hx]; rfl⟩) cp.one cp.back (k := j - k) ?_
            rw [← it_add, show j - k + k = j by omega]
            exact ⟨0, h⟩
          have cp2 : Cyc (gB bs) (it (gB bs) k first) (j - i) := hb ▸ c.turn b
          have e1 : per bs (it (gB bs) k first) = j - i := cp.uniq cp2
          -- mn is on its ring
          obtain ⟨d, hd⟩ : ∃ d, mn = it (gB bs) d (it (gB bs) k first) := by
            rw [hb, ea]
            refine ⟨a + (b * (j - i) - b), ?_⟩
            have le : b ≤ b * (j - i) := Nat.le_mul_of_pos_right _ (by omega)
            rw [← it_add (gB bs) (a + (b * (j - i) - b)) b, show a + (b * (j - i) - b) + b = a + b * (j - i) by omega, it_add (gB bs) a (b * (j - i)), turns_all c.back]
          have e2 : mn = it (gB bs) (d % (j - i)) (it (gB bs) k first) := by
            rw [hd]
            conv => lhs; rw [← Nat.mod_add_div d (j - i), it_add, Nat.mul_comm, turns_all cp2.back]
          have le1 : it (gB bs) k first ≤ mn := by
            rw [e2]
            exact q1 _ (by rw [e1]; exact Nat.mod_lt _ (by omega))
          have le2 : mn ≤ it (gB bs) k first := by
            have : it (gB bs) k first = it (gB bs) (b % (j - i)) (it (gB bs) i first) := by
              rw [hb]
              conv => lhs; rw [← Nat.mod_add_div b (j - i), it_add, Nat.mul_comm, turns_all c.back]
            rw [this]
            exact least _ (Nat.mod_lt _ (by omega))
          have e3 : it (gB bs) k first = mn := by omega
          rw [List.mem_singleton, h4, e1, e3] }
/-- where all are met, these are all -/
theorem Met.all (M : Met bs T Rr) (h : ∀ p, p < bs.length → T p) : (∀ r, r ∈ ringsA bs ↔ r ∈ Rr) ∧ (ringsA bs).Nodup := by
  refine ⟨fun r => ?_, ?_⟩
  · rw [M.iff]
    unfold ringsA
    rw [List.mem_map]
    constructor
    · rintro ⟨p, hp, rfl⟩
      obtain ⟨h1, h2⟩ := List.mem_filter.mp hp
      have h1 := List.mem_range.mp h1
      exact ⟨p, h1, h2, h p h1, rfl⟩
    · rintro ⟨p, h1, h2, _, rfl⟩
      exact ⟨p, List.mem_filter.mpr ⟨List.mem_range.mpr h1, h2⟩, rfl⟩
  · unfold ringsA
    refine List.pairwise_map.mpr ((List.pairwise_lt_range.filter _).imp_of_mem ?_)
    intro p q hp hq lt e
    have l1 := per_cyc (isLst_iff.mp (List.mem_filter.mp hp).2).1
    have l2 := per_cyc (isLst_iff.mp (List.mem_filter.mp hq).2).1
    have h5 : (ringL (gB bs) p (per bs p))[0]? = (ringL (gB bs) q (per bs q))[0]? := by rw [e]
    rw [ringL_at l1.one, ringL_at l2.one] at h5
    have : p = q := Option.some.inj h5
    omega
end
/-- the rings by their least persons -/
theorem ringsA_asc (bs : List (Option Nat)) : (ringsA bs).Pairwise fun x y => x.headD 0 < y.headD 0 := by
  unfold ringsA
  refine List.pairwise_map.mpr ((List.pairwise_lt_range.filter _).imp_of_mem ?_)
  intro p q hp hq lt
  have l1 := (per_cyc (isLst_iff.mp (List.mem_filter.mp hp).2).1).one
  have l2 := (per_cyc (isLst_iff.mp (List.mem_filter.mp hq).2).1).one
  have e : ∀ x m, 1 ≤ m → (ringL (gB bs) x m).headD 0 = x := fun x m h => by
    rw [List.headD_eq_head?_getD, List.head?_eq_getElem?, ringL_at h]
    rfl
  rw [e _ _ l1, e _ _ l2]
  exact lt
theorem ringsA_one {bs : List (Option Nat)} {r : List Nat} (h : r ∈ ringsA bs) : ∃ p m, p < bs.length ∧ m = per bs p ∧ Cyc (gB bs) p m ∧ r = ringL (gB bs) p m := by
  unfold ringsA at h
  obtain ⟨p, hp, rfl⟩ := List.mem_map.mp h
  obtain ⟨h1, h2⟩ := List.mem_filter.mp hp
  exact ⟨p, _, List.mem_range.mp h1, rfl, per_cyc (isLst_iff.mp h2).1, rfl⟩
end K14
namespace K14
open PySem PySem.Spec PyProof.Rows L2
/-! ### defs that ask repr of data: their promise, where no repr is under way -/
def RunG (P : Program) (w : World) (K : PySem.W.Frag) (mg : Str → Option Value) (base : Heap) (k : Nat) (f : Addr) (fd : FuncData) (ps : List Str) (sp : Sp) : Prop :=
  ∀ (A : Around) (outer : List Env) (s : Shared) (H : Hp) (args : Args) (us : List Value) (vs : List V) (Q : VK) (E : XK), A.guards = some [] → Room k A → Env0 P w K mg base A outer s H →
    BindsTo s fd args (ps.zip us) → Vals vs us → sp vs H Q E → codeAny (model P w) A (.call (.ref f) args) (CR CX0 outer P w H s Q E) s
theorem call_repr {X : Cx} (hg : X.A.guards = some []) (hu : X.A.units + 64 < cLine) :
    CallR X (.builtin "repr") (fun xs H Q => ∃ a d, xs = [.ref a] ∧ Dp X.K H (.ref a) d ∧ d.showable = true ∧ d.hasDict = false ∧ d.depth ≤ 60 ∧ d.shown.length ≤ sizeLine ∧ Q (.str d.shown) H) := by
  intro pins s σ H xs us Q I r h
  obtain ⟨a, d, rfl, hd, hs, hn, hz, hl, q⟩ := h
  obtain ⟨u, rfl, ru⟩ := vals1 r
  obtain ⟨as, rd⟩ := Dp.reads I d _ _ hd ru
  cases ru
  exact repr_of_reads' rd hs (PyData.noDict_hsm hn) hg (by omega) (fun _ _ e => e) (fun h' t tk keep => ⟨.str d.shown, H, I.kept keep, ⟨t, rfl⟩, q⟩) hl
section
variable {P : Program} {w : World} {K : PySem.W.Frag} {mg : Str → Option Value} {base : Heap}
theorem okG {x qual : Str} {st : Stmt} {f : Addr} {fd : FuncData} {N ps : List Str} {k : Nat} {sp : Sp} (F : Fun K x qual st f fd) (S : FnScope N ps (defScope st)) (len : ∀ vs H Q E, sp vs H Q E → vs.length = ps.length)
    (body : ∀ (cdv : Value) (A : Around) (outer : List Env) (s : Shared) (H : Hp) (vs : List V) (Q : VK) (E : XK), A.guards = some [] → Room k (A.deeper (envOfC qual (defScope st) s.heap.objs.size f cdv)) → sp vs H Q E →
      ∃ t, PSs (cxOf CX0 P w K mg base N qual (defScope st) f cdv A outer s H E).nox (defBody st) t ∧ t { nx := fun _ H' => Q .non H', rt := Q } (start N vs) H) : RunG P w K mg base (k + 1) f fd ps sp := by
  obtain ⟨oc, od, kV, doc, pm, an, cdv, ct, osl, rfl, lk, hcd⟩ := F.ex
  intro A outer s H args us vs Q E hA room e0 bind rel promise
  have KX := e0.mod.kin.keeps (h' := s.heap) fun b o e => (e0.bs b o e).1
  have lim := e0.mod.nolimit.keeps (h' := s.heap) fun b o e => (e0.bs b o e).1
  have kinds : ∀ y ∈ ps.zip us, (defScope st).names.lookup y.1 = some .local ∨ ((defScope st).names.lookup y.1 = some .cell ∧ ((cellsFrom (s.heap.objs.size + 1) (defScope st).names []).lookup y.1).isSome = true) := by
    intro y hy
    cases S.par y.1 (List.of_mem_zip (show (y.1, y.2) ∈ ps.zip us from hy)).1 with
    | inl q => exact .inl q
    | inr q => exact .inr ⟨q, PySem.W.cellsFrom_some _ _ _ (.inl q)⟩
  apply codeAny_call_function room.depth (KX _ _ lk) rfl S.co S.gen rfl (PySem.W.codeRec_of KX hcd) (bind _ _ _ _ _)
  apply wpAny_newFunctionEnv_cells S.kind kinds
  intro env he s1 x
  subst he
  obtain ⟨t, ht, hq⟩ := body cdv A outer s H vs Q E hA (room.deeper _) promise
  have I := inv_start (CX := CX0) (E := E) S room.hd e0 (len _ _ _ _ promise) rel x
  refine ⟨lim.keeps x.toInCall.keep, codeAny_func (wpAny_mono (ht.nox.run [] s1 (start N vs) H _ I hq) ?_ (fun _ _ z => z))⟩
  intro fl s' z
  cases fl with
  | ret u => exact let ⟨v, _, H', J, rv, q⟩ := z; ⟨v, H', J.os, J.bare, J.base, J.hok, rv, q⟩
  | next => exact let ⟨_, H', J, q⟩ := z; ⟨V.non, H', J.os, J.bare, J.base, J.hok, rfl, q⟩
  | brk => exact let ⟨_, _, _, q⟩ := z; q.elim
  | cont => exact let ⟨_, _, _, q⟩ := z; q.elim
end
section
variable {P : Program} {w : World} {K : PySem.W.Frag} {mg mb : Str → Option Value} {s₁ : Shared} {a : Addr} {vs : List Value} {H : Hp}
/-- the call of the law: nothing is tracked but the script at a -/
theorem env_law (KX : K.In s₁.heap) (hns : s₁.heap.Ns mainGlobals mg) (hb : s₁.heap.Ns builtinsNs mb) (hbb : ∀ x : Str, x ≠ "__name__" → mb x = bootBuiltins x) (hlim : s₁.heap.NoLimit) (hg : s₁.gens = #[])
    (ha : s₁.heap.get? a = some { cls := .type "list", data := .seq vs.toArray }) (hok : HOk P w H s₁.heap) (one : ∀ b u, H b = some u → b = a) (apart : ∀ u, H a = some u → K.lookup a = none) :
    K.In (hidT s₁.heap H) ∧ (hidT s₁.heap H).Ns mainGlobals mg ∧ Env0 P w K mg (hidT s₁.heap H) callerA [] s₁ H := by
  have free : ∀ b, b ≠ a → H b = none := by
    intro b n
    cases e : H b with
    | none => rfl
    | some u => exact (n (one b u e)).elim
  have low : ∀ {b : Addr} {o : Obj}, s₁.heap.get? b = some o → b ≠ a → (hidT s₁.heap H).get? b = some o := fun e n => hidT_get e (free _ n)
  have ns : ∀ {b : Addr} {m : Str → Option Value}, s₁.heap.Ns b m → (hidT s₁.heap H).Ns b m := by
    rintro b m ⟨o, es, ep, e, d, r⟩
    refine ⟨o, es, ep, low e ?_, d, r⟩
    intro z
    rw [z, ha] at e
    cases e
    cases d
  have kin : K.In (hidT s₁.heap H) := by
    intro b o e
    by_cases n : b = a
    · subst n
      cases q : H b with
      | none => exact hidT_get (KX _ _ e) q
      | some u =>
        have z := apart u q
        rw [z] at e
        cases e
    · exact low (KX _ _ e) n
  obtain ⟨mc, l1, l2⟩ := hlim
  exact ⟨kin, ns hns, ⟨rfl, ⟨kin, ns hns, ⟨mb, ns hb, hbb⟩, ⟨mc, ns l1, l2⟩⟩, fun b o e => of_hidT e, Nat.le_of_eq (hidT_size _ _), trivial, (fun b z => nomatch z), hok, .of_eq hg⟩⟩
theorem run_law {k : Nat} {fa : Addr} {fd : FuncData} {x : Str} {sp : Sp} (env : Env0 P w K mg (hidT s₁.heap H) callerA [] s₁ H) (F : RunG P w K mg (hidT s₁.heap H) k fa fd [x] sp) (hr : Room k callerA)
    (hbind : ∀ (s : Shared) (u : Value), BindsTo s fd ⟨[u], []⟩ [(x, u)]) (hO : Only H) (hok : HOk P w H s₁.heap) (hsp : sp [.ref a] H (fun v _ => v = .bl true) fun _ _ _ => False) :
    codeAny (model P w) callerA (.call (.ref fa) ⟨[.ref a], []⟩) (fun r s' => r = .ok (.ret (.bool true)) ∧ OldK s₁.heap s'.heap ∧ s'.os = s₁.os ∧ AllBare s'.gens) s₁ := by
  have run := F callerA [] s₁ H ⟨[.ref a], []⟩ [.ref a] [.ref a] _ _ rfl hr env (hbind s₁ (.ref a)) (.cons rfl .nil) hsp
  refine codeAny_mono run ?_
  intro r s' h
  match r, h with
  | .ok (.ret u), h =>
    obtain ⟨v, H', os, bare, un, hok', r', q⟩ := h
    have q2 : v = V.bl true := q
    subst q2
    obtain rfl : u = Value.bool true := r'
    refine ⟨rfl, OldK.of_keep ?_, os, bare⟩
    intro b o e
    cases q : H b with
    | none => exact un.keep b o e q (fun z => nomatch z) (fun z => nomatch z)
    | some u =>
      rcases hO b with z | ⟨ob, xs, z⟩
      · rw [q] at z
        cases z
      · have e1 := (hok b _ z).1
        have e2 := (hok' b _ (un.frzs b ob _ z)).1
        rw [e] at e1
        cases e1
        exact e2
end
/-- the goal behind k_head, from such a promise of the law -/
theorem walkG {l : PySem.W.OpenLaw} {n k : Nat} {q : Program} {loose : List Str} {XP : (Str → Option Value) → Heap → Prop} {YP : World → Heap → Prop} {d : DefRec} {K : Params → PySem.W.Frag} {sp : PySem.W.Frag → Sp} {x : Str}
    (hn : l.most = some n) (hn2 : n ≤ sizeLine) (hdf : d.params.defaults = []) (hr : Room k callerA) (hY : ∀ (w : World) (h : Heap), YP w h → (K w.params).In h)
    (F : ∀ (w : World) (mg : Str → Option Value) (fa : Addr) (h : Heap), (K w.params).In h → h.Ns mainGlobals mg → mg d.name = some (.ref fa) →
      ∃ fd : FuncData, (∀ (s : Shared) (u : Value), BindsTo s fd ⟨[u], []⟩ [(x, u)]) ∧ ∀ base : Heap, (K w.params).In base → base.Ns mainGlobals mg → RunG l.prog w (K w.params) mg base k fa fd [x] (sp (K w.params)))
    (hsp : ∀ (K : PySem.W.Frag) (H : Hp) (a : Addr) (ns : List Int), ns.length ≤ n → SqL K H a (ns.map V.int) → sp K [.ref a] H (fun v _ => v = .bl true) fun _ _ _ => False) :
    PySem.W.WalkO q loose XP YP l.row.toRowW d [] (fun f vs => PySem.call f vs) := by
  apply Att.attach_call hn hdf
  intro w s₀ s₁ mg mb fa o pm cd doc a vs ns G Y ho hd hcd hmg hobj hints hlen hg
  have KX := hY w _ Y
  obtain ⟨fd, hb, hF⟩ := F w mg fa _ KX G.T.g hmg
  have rel := vals_ints hints
  have hz : (ns.map V.int).length ≤ sizeLine := by rw [List.length_map]; exact Nat.le_trans hlen hn2
  cases hk : (K w.params).lookup a with
  | some o' =>
    have e := KX a o' hk
    rw [hobj] at e
    cases e
    have ok0 : HOk l.prog w (fun _ => none) s₁.heap := fun b u z => nomatch z
    obtain ⟨k1, k2, k3⟩ := env_law (P := l.prog) (w := w) (H := fun _ => none) KX G.T.g G.T.b G.T.builtins G.T.nolimit hg hobj ok0 (fun b u z => nomatch z) (fun u z => nomatch z)
    refine run_law k3 (hF _ k1 k2) hr hb (fun b => .inl rfl) ok0 (hsp _ _ a ns hlen ?_)
    exact .inr ⟨_, vs.toArray, _, hk, rfl, rfl, rfl, by rw [List.size_toArray, ← rel.length]; exact hz, by simpa using rel⟩
  | none =>
    have at_ : (upd (fun _ => none) a (.frz { cls := .type "list", data := .seq vs.toArray } (.lst (ns.map V.int)))) a = some (.frz { cls := .type "list", data := .seq vs.toArray } (.lst (ns.map V.int))) := upd_same
    have off : ∀ b, b ≠ a → (upd (fun _ => none) a (.frz { cls := .type "list", data := .seq vs.toArray } (.lst (ns.map V.int)))) b = none := fun b n => upd_ne n
    generalize upd (fun _ => none) a (.frz { cls := .type "list", data := .seq vs.toArray } (.lst (ns.map V.int))) = H at at_ off
    have only : Only H := by
      intro b
      by_cases n : b = a
      · exact .inr ⟨_, _, by rw [n]; exact at_⟩
      · exact .inl (off b n)
    have ok1 : HOk l.prog w H s₁.heap := by
      intro b u z
      by_cases n : b = a
      · rw [n, at_] at z
        cases z
        rw [n]
        exact ⟨hobj, hz, vs, _, rel, hobj⟩
      · rw [off b n] at z
        cases z
    have one : ∀ b u, H b = some u → b = a := by
      intro b u z
      by_cases n : b = a
      · exact n
      · rw [off b n] at z
        cases z
    obtain ⟨k1, k2, k3⟩ := env_law (P := l.prog) (w := w) (H := H) KX G.T.g G.T.b G.T.builtins G.T.nolimit hg hobj ok1 one (fun u z => hk)
    exact run_law k3 (hF _ k1 k2) hr hb only ok1 (hsp _ _ a ns hlen (.inl (.inr ⟨_, at_⟩)))
/-! ### a def called with all its arguments by keywords -/
section
variable {X : Cx} {CX : CXT} {k : Nat} {f : Addr} {fd : FuncData} {ps ks : List Str} {sp : Sp} {E : XK} {x : Str} {p pos : Pos} {kws : List Keyword} {tk : TA} {g : List Value → List Value → List Value} {gV : List V → List V → List V}
theorem pe_named (F : FnOk X.prog X.w X.K X.mg X.base CX k f fd ps sp) (hr : Room k X.A) (hg : Gl X x) (hm : X.mg x = some (.ref f)) (kp : PySem.W.keepIn X.K (.ref f) = true) (b : KBinds X.K fd ps ks g gV) (hx : Passes CX X E) (hkw : PK X kws tk)
    (h1 : (backToKw pos (keywordEach kws X.env)).all (·.1.isSome) = true := by rfl) (h2 : (backToKw pos (keywordEach kws X.env)).filterMap (·.1) = ks := by rfl) (h3 : (x == ("__debug__" : Str)) = false := by decide)
    (h4 : ((backTo pos (starEach [] X.env)).any (·.1) || (backToKw pos (keywordEach kws X.env)).any (·.1.isNone)) = false := by rfl) :
    PE X (.Call (.Name x p) [] kws pos) (tCallK sp gV E tNil tk) := by
  constructor
  intro pins s σ H Q I h
  apply wpAny_Call_Name_kw (ld_glob I hg hm _ h3)
  apply PySem.W.callWith_KW0 (h₀ := X.base) I.ok.mod.kin kp h1 _ h4
  refine thn (hkw.run pos pins s σ H _ I h) ?_
  rintro ws s2 ⟨zs, H2, I2, rz, q2⟩
  refine ⟨I2.kIn, ?_⟩
  rw [h2]
  exact run_fnk (us := []) (vs := []) F hr b hx I2 .nil rz q2
end

/-! ### calls of defs that ask repr of data -/
theorem call_repr_bl {X : Cx} : CallR X (.builtin "repr") (fun xs H Q => ∃ b, xs = [.bl b] ∧ Q (.str (if b then "True" else "False")) H) := by
  intro pins s σ H xs us Q I r h
  obtain ⟨b, rfl, q⟩ := h
  obtain ⟨u, rfl, ru⟩ := vals1 r
  cases ru
  exact PySem.P.repr_of_bool ⟨.str (if b then "True" else "False"), H, I.tok _, ⟨_, rfl⟩, q⟩
section
variable {X : Cx} {k : Nat} {f : Addr} {fd : FuncData} {ps : List Str} {sp : Sp} {x : Str} {p pos : Pos} {e : Expr} {es : List Expr} {t : TA}
theorem pe_callG (F : RunG X.prog X.w X.K X.mg X.base k f fd ps sp) (len : ∀ vs H Q E, sp vs H Q E → vs.length = ps.length) (hA : X.A.guards = some []) (hr : Room k X.A) (hg : Gl X x) (hm : X.mg x = some (.ref f)) (hk : PySem.W.keepIn X.K (.ref f) = true) (hb : Binds X.K fd ps []) {E : XK} (hx : Passes CX0 X E)
    (ha : PA X (e :: es) t) (hdb : (x == ("__debug__" : Str)) = false := by decide) (he : starEach (e :: es) X.env = (false, eval e X.env) :: starEach es X.env := by rfl) (hpl : (backTo pos (starEach es X.env)).any (·.1) = false := by rfl) :
    PE X (.Call (.Name x p) (e :: es) [] pos) (tCall sp [] E t) := by
  refine ⟨fun pins s σ H Q I h => wpAny_Call_Name_kw (ld_glob I hg hm ?_ hdb)⟩
  refine PySem.W.callWith_K (h₀ := X.base) I.ok.mod.kin hk (thn (ha.run pos pins s σ H _ I h) fun us s1 ⟨vs, H1, I1, r, q⟩ => ⟨I1.kIn, ?_⟩) he hpl
  have r2 : Vals (vs ++ []) (us ++ []) := r.append .nil
  have hl : (us ++ []).length = ps.length := by rw [← r2.length]; exact len _ _ _ _ q
  refine wpAny_call (codeAny_mono (F X.A X.stack s1 H1 ⟨us, []⟩ (us ++ []) (vs ++ []) _ E hA hr I1.env0 (hb s1 us I1.kIn hl) r2 q) fun r s' hq => ?_)
  cases r with
  | error e => exact hx pins σ H1 s1 e s' I1 hq
  | ok fl =>
    cases fl with
    | ret u => exact I1.after hq
    | next => exact False.elim hq
    | brk => exact False.elim hq
    | cont => exact False.elim hq
end
end K14
namespace K14
open PySem PySem.Spec PyProof.Rows L2
theorem vals_rev : ∀ {zs : List V} {ws : List Value}, Vals zs ws → Vals zs.reverse ws.reverse
  | [], _, .nil => .nil
  | z :: zs, _, .cons (b := w) r t => by
    rw [List.reverse_cons, List.reverse_cons]
    exact (vals_rev t).append (.cons r .nil)
/-- a def of two parameters called by keywords, the last one first -/
theorem named2 {K : PySem.W.Frag} {x qual : Str} {st : Stmt} {f : Addr} {fd : FuncData} {n m : Str} (F : Fun K x qual st f fd)
    (h0 : ∀ (kV doc pm : Value) (an : Option Addr) (cdv ct u v : Value), bindArgs (PySem.W.fnOf x qual (defArgs st) (defBody st) (defScope st) .none kV doc pm an cdv ct) ⟨[u, v], []⟩ = pure [(n, u), (m, v)])
    (h1 : ∀ (kV doc pm : Value) (an : Option Addr) (cdv ct u v : Value), bindArgs (PySem.W.fnOf x qual (defArgs st) (defBody st) (defScope st) .none kV doc pm an cdv ct) ⟨[u], [(m, v)]⟩ = pure [(n, u), (m, v)])
    (h2 : ∀ (kV doc pm : Value) (an : Option Addr) (cdv ct u v : Value), bindArgs (PySem.W.fnOf x qual (defArgs st) (defBody st) (defScope st) .none kV doc pm an cdv ct) ⟨[], [(m, v), (n, u)]⟩ = pure [(n, u), (m, v)]) :
    KBinds K fd [n, m] [m, n] (fun us ws => us ++ ws.reverse) (fun vs zs => vs ++ zs.reverse) := by
  obtain ⟨oc, od, kV, doc, pm, an, cdv, ct, osl, rfl, lk, hcd⟩ := F.ex
  refine ⟨fun s us ws _ hl => ?_, fun a b => a.append (vals_rev b)⟩
  have hl' : ws.length + us.length = 2 := by simpa [Nat.add_comm] using hl
  match us, ws, hl' with
  | [u, v], [], _ => exact .of_eq (h0 kV doc pm an cdv ct u v)
  | [u], [v], _ => exact .of_eq (h1 kV doc pm an cdv ct u v)
  | [], [v, u], _ => exact .of_eq (h2 kV doc pm an cdv ct u v)
/-- .. of three parameters -/
theorem named3 {K : PySem.W.Frag} {x qual : Str} {st : Stmt} {f : Addr} {fd : FuncData} {n m o : Str} (F : Fun K x qual st f fd)
    (h0 : ∀ (kV doc pm : Value) (an : Option Addr) (cdv ct u v t : Value), bindArgs (PySem.W.fnOf x qual (defArgs st) (defBody st) (defScope st) .none kV doc pm an cdv ct) ⟨[u, v, t], []⟩ = pure [(n, u), (m, v), (o, t)])
    (h1 : ∀ (kV doc pm : Value) (an : Option Addr) (cdv ct u v t : Value), bindArgs (PySem.W.fnOf x qual (defArgs st) (defBody st) (defScope st) .none kV doc pm an cdv ct) ⟨[u, v], [(o, t)]⟩ = pure [(n, u), (m, v), (o, t)])
    (h2 : ∀ (kV doc pm : Value) (an : Option Addr) (cdv ct u v t : Value), bindArgs (PySem.W.fnOf x qual (defArgs st) (defBody st) (defScope st) .none kV doc pm an cdv ct) ⟨[u], [(o, t), (m, v)]⟩ = pure [(n, u), (m, v), (o, t)])
    (h3 : ∀ (kV doc pm : Value) (an : Option Addr) (cdv ct u v t : Value), bindArgs (PySem.W.fnOf x qual (defArgs st) (defBody st) (defScope st) .none kV doc pm an cdv ct) ⟨[], [(o, t), (m, v), (n, u)]⟩ = pure [(n, u), (m, v), (o, t)]) :
    KBinds K fd [n, m, o] [o, m, n] (fun us ws => us ++ ws.reverse) (fun vs zs => vs ++ zs.reverse) := by
  obtain ⟨oc, od, kV, doc, pm, an, cdv, ct, osl, rfl, lk, hcd⟩ := F.ex
  refine ⟨fun s us ws _ hl => ?_, fun a b => a.append (vals_rev b)⟩
  have hl' : ws.length + us.length = 3 := by simpa [Nat.add_comm] using hl
  match us, ws, hl' with
  | [u, v, t], [], _ => exact .of_eq (h0 kV doc pm an cdv ct u v t)
  | [u, v], [t], _ => exact .of_eq (h1 kV doc pm an cdv ct u v t)
  | [u], [t, v], _ => exact .of_eq (h2 kV doc pm an cdv ct u v t)
  | [], [t, v, u], _ => exact .of_eq (h3 kV doc pm an cdv ct u v t)
theorem left_sub {n : Nat} {ls : List (List Nat)} (ok : ListsOk n ls) (hn : ls.length = n) {h1 h2 : List (Option Nat)} (le : withinB ls h1 h2 = true) {p o : Nat} (hp : p < n) (h : o ∈ leftL ls h1 p) : o ∈ leftL ls h2 p := by
  unfold withinB at le
  rw [List.all_eq_true] at le
  have le' : ∀ q, q < n → most ls h1 q ≤ most ls h2 q := fun q hq => of_decide_eq_true (le q (List.mem_range.mpr (by omega)))
  obtain ⟨m1, m2, m3⟩ := (mem_left ok hp).mp h
  have k1 := (ok.mate hp m1).1
  exact (mem_left ok hp).mpr ⟨m1, Nat.le_trans m2 (le' p hp), Nat.le_trans m3 (le' o k1)⟩
theorem named1 {K : PySem.W.Frag} {x qual : Str} {st : Stmt} {f : Addr} {fd : FuncData} {n : Str} (F : Fun K x qual st f fd)
    (h0 : ∀ (kV doc pm : Value) (an : Option Addr) (cdv ct u : Value), bindArgs (PySem.W.fnOf x qual (defArgs st) (defBody st) (defScope st) .none kV doc pm an cdv ct) ⟨[u], []⟩ = pure [(n, u)])
    (h1 : ∀ (kV doc pm : Value) (an : Option Addr) (cdv ct u : Value), bindArgs (PySem.W.fnOf x qual (defArgs st) (defBody st) (defScope st) .none kV doc pm an cdv ct) ⟨[], [(n, u)]⟩ = pure [(n, u)]) :
    KBinds K fd [n] [n] (fun us ws => us ++ ws) (fun vs zs => vs ++ zs) := by
  obtain ⟨oc, od, kV, doc, pm, an, cdv, ct, osl, rfl, lk, hcd⟩ := F.ex
  refine ⟨fun s us ws _ hl => ?_, fun a b => a.append b⟩
  match us, ws, hl with
  | [u], [], _ => exact .of_eq (h0 kV doc pm an cdv ct u)
  | [], [u], _ => exact .of_eq (h1 kV doc pm an cdv ct u)
end K14
namespace K14
open PySem PySem.Spec PyProof.Rows L2
theorem int_len {n : Nat} (h : n < 2 ^ 20) : (((toString ((n : Nat) : Int) : String) : Str)).length ≤ 20 := by
  have h1 := nat_repr_length_le (n := n) (k := 20) (by decide) h
  rw [PySem.ofString_length]
  exact h1
/-- what repr asks of data -/
structure Rp (d : PyData) : Prop where
  sh : d.showable = true
  nd : d.hasDict = false
  dp : d.depth ≤ 60
  ln : d.shown.length ≤ sizeLine
structure RpI (d : PyData) (m B : Nat) : Prop where
  sh : d.showable = true
  nd : d.hasDict = false
  dp : d.depth ≤ m
  ln : d.shown.length ≤ B
theorem rp_tup {xs : List PyData} {m B : Nat} (h : ∀ x ∈ xs, RpI x m B) : RpI (.tuple xs) (m + 1) ((B + 2) * xs.length + 10) := by
  have all : ∀ xs : List PyData, (∀ x ∈ xs, RpI x m B) → PyData.showableAll xs = true ∧ PyData.hasDictAll xs = false ∧ PyData.depthAll xs ≤ m ∧ piled (PyData.shownAll xs) ≤ (B + 2) * xs.length := by
    intro xs
    induction xs with
    | nil => intro _; exact ⟨by simp [PyData.showableAll], by simp [PyData.hasDictAll], by simp [PyData.depthAll], by simp [PyData.shownAll, piled]⟩
    | cons c r ih =>
      intro h
      obtain ⟨a1, a2, a3, a4⟩ := ih fun x hx => h x (by simp [hx])
      have hc := h c (by simp)
      have h1 := hc.ln
      refine ⟨by simp only [PyData.showableAll, hc.sh, a1, Bool.and_self], by simp only [PyData.hasDictAll, hc.nd, a2, Bool.or_self], ?_, ?_⟩
      · simp only [PyData.depthAll]
        have := hc.dp
        omega
      · rw [PyData.shownAll, piled_cons, List.length_cons, Nat.mul_succ]
        omega
  obtain ⟨a1, a2, a3, a4⟩ := all xs h
  refine ⟨by simp only [PyData.showable]; exact a1, by simp only [PyData.hasDict]; exact a2, by simp only [PyData.depth]; omega, ?_⟩
  have e : (PyData.tuple xs).shown = tupleText (PyData.shownAll xs) := by simp only [PyData.shown]
  rw [e]
  have h1 := fmt_text (PyData.shownAll xs)
  omega
theorem rp_int {n : Nat} (h : n < 2 ^ 20) : RpI (.int (n : Nat)) 0 20 := by
  have lg : (n : Int).natAbs.log2 < 1920 := by
    rw [Int.natAbs_natCast]
    by_cases h0 : n = 0
    · subst h0; decide
    · have := (Nat.log2_lt h0).mpr h
      omega
  exact ⟨by simp only [PyData.showable, decide_eq_true lg], by simp only [PyData.hasDict], by simp only [PyData.depth]; omega, by simp only [PyData.shown]; exact int_len h⟩
theorem rp_none : RpI .none 0 20 := ⟨by simp only [PyData.showable], by simp only [PyData.hasDict], by simp only [PyData.depth]; omega, by simp only [PyData.shown]; decide⟩
theorem rp_dI {s : List Nat} (l : s.length ≤ 60) (h : ∀ j ∈ s, j < 60) : RpI (dI s) 1 2000 := by
  have := rp_tup (xs := s.map fun j => PyData.int (j : Nat)) (m := 0) (B := 20) fun x hx => by
    obtain ⟨j, hj, rfl⟩ := List.mem_map.mp hx
    exact rp_int (Nat.lt_of_lt_of_le (h j hj) (by decide))
  refine ⟨this.sh, this.nd, this.dp, Nat.le_trans this.ln ?_⟩
  rw [List.length_map]
  omega
theorem rp_dL {ls : List (List Nat)} (l : ls.length ≤ 60) (h : ∀ s ∈ ls, s.length ≤ 60 ∧ ∀ j ∈ s, j < 60) : Rp (dL ls) := by
  have := rp_tup (xs := ls.map dI) (m := 1) (B := 2000) fun x hx => by
    obtain ⟨s, hs, rfl⟩ := List.mem_map.mp hx
    exact rp_dI (h s hs).1 (h s hs).2
  refine ⟨this.sh, this.nd, Nat.le_trans this.dp (by decide), Nat.le_trans this.ln ?_⟩
  rw [List.length_map]
  exact Nat.le_trans (m := 200000) (by omega) (by decide)
theorem rp_dH {hs : List (Option Nat)} (l : hs.length ≤ 60) (h : ∀ j, some j ∈ hs → j < 60) : Rp (dH hs) := by
  have := rp_tup (xs := hs.map fun o => match o with | none => PyData.none | some j => .int (j : Nat)) (m := 0) (B := 20) fun x hx => by
    obtain ⟨o, ho, rfl⟩ := List.mem_map.mp hx
    cases o with
    | none => exact rp_none
    | some j => exact rp_int (Nat.lt_of_lt_of_le (h j ho) (by decide))
  refine ⟨this.sh, this.nd, Nat.le_trans this.dp (by decide), Nat.le_trans this.ln ?_⟩
  rw [List.length_map]
  exact Nat.le_trans (m := 200000) (by omega) (by decide)
end K14
namespace K14
open PySem PySem.Spec PyProof.Rows L2
structure Has (P : Program) (w : World) (K : PySem.W.Frag) (mg : Str → Option Value) (base : Heap) (k : Nat) (x : Str) (ps : List Str) (sp : Sp) (f : Addr) (fd : FuncData) : Prop where
  ok : FnOk P w K mg base CX0 k f fd ps sp
  b : Binds K fd ps []
  k : PySem.W.keepIn K (.ref f) = true
  m : mg x = some (.ref f)
structure HasG (P : Program) (w : World) (K : PySem.W.Frag) (mg : Str → Option Value) (base : Heap) (k : Nat) (x : Str) (ps : List Str) (sp : Sp) (f : Addr) (fd : FuncData) : Prop where
  ok : RunG P w K mg base k f fd ps sp
  b : Binds K fd ps []
  k : PySem.W.keepIn K (.ref f) = true
  m : mg x = some (.ref f)
/-- within, by the law's ranks -/
def inB (ls : List (List Nat)) (h1 h2 : List (Option Nat)) : Bool := (List.range ls.length).all fun p => decide (most ls h1 p ≤ most ls h2 p)
theorem inB_iff {ls : List (List Nat)} {h1 h2 : List (Option Nat)} : inB ls h1 h2 = true ↔ ∀ p, p < ls.length → most ls h1 p ≤ most ls h2 p := by
  unfold inB
  rw [List.all_eq_true]
  exact ⟨fun h p hp => of_decide_eq_true (h p (List.mem_range.mpr hp)), fun h p hp => decide_eq_true (h p (List.mem_range.mp hp))⟩
def spLIn : Sp := fun vs H Q _ => ∃ (a t u : Addr) (ls : List (List Nat)) (h1 h2 : List (Option Nat)), vs = [.ref a, .ref t, .ref u] ∧ LX H a ls ∧ H t = some (.tup (VH h1)) ∧ H u = some (.tup (VH h2)) ∧ HoldsOk ls h1 ∧ HoldsOk ls h2 ∧ ls.length ≤ 100 ∧ ∀ H', Same H H' → Q (.bl (inB ls h1 h2)) H'
section
variable {P : Program} {w : World} {K : PySem.W.Frag} {mg : Str → Option Value} {base : Heap}
end
end K14
namespace K14
open PySem PySem.Spec PyProof.Rows L2
/-- the giver behind, if there are two left -/
def givO (ls : List (List Nat)) (hs : List (Option Nat)) (p : Nat) : Option Nat := (leftL ls hs p)[1]?.bind fun b => ha hs b
def givA (ls : List (List Nat)) (hs : List (Option Nat)) : List (Option Nat) := (List.range ls.length).map (givO ls hs)
theorem givA_len {ls : List (List Nat)} {hs : List (Option Nat)} : (givA ls hs).length = ls.length := by simp [givA]
def spGivers : Sp := fun vs H Q _ => ∃ (t l : Addr) (ls : List (List Nat)) (hs : List (Option Nat)), vs = [.ref t, .ref l] ∧ H t = some (.tup (VH hs)) ∧ LT H l (leftA ls hs) ∧ HoldsOk ls hs ∧ ListsOk ls.length ls ∧ ls.length ≤ 100 ∧ ∀ r H', Same H H' → H' r = some (.lst (VH (givA ls hs))) → Q (.ref r) H'
theorem scGivers : FnScope ["holds", "lists", "some"] ["holds", "lists"] (defScope sGiversBehind) := ⟨rfl, rfl, rfl, by decide +kernel, rfl, by decide +kernel, by decide +kernel⟩
abbrev rLen (K : PySem.W.Frag) : List V → Hp → VK → Prop := fun xs H Q => ∃ p ys, xs = [V.ref p] ∧ (SqL K H p ys ∨ SqT K H p ys) ∧ Q (V.int ys.length) H
section
variable {P : Program} {w : World} {K : PySem.W.Frag} {mg : Str → Option Value} {base : Heap}
theorem ok_givers {f : Addr} {fd : FuncData} {k : Nat} (F : Fun K "_givers_behind" "_givers_behind" sGiversBehind f fd) (ml : mg "len" = none) : FnOk P w K mg base CX0 (k + 1) f fd ["holds", "lists"] spGivers := by
  refine F.ok scGivers (fun vs H Q E h => ?_) (fun cdv A outer s H vs Q E hr h => ?_)
  · obtain ⟨t, l, ls, hs, rfl, _⟩ := h
    rfl
  · obtain ⟨t, l, ls, hs, rfl, et, lt, ho, ok, n100, q⟩ := h
    refine ⟨_, pss_one (ps_ret (pe_lc (own := [("some", 2)]) (g := gName 2) (tt := tYes) (te := tIf (tTest (tOp (rI0 fun i j => V.bl (decide (i > j))) (tCB (rLen K) (tCons (tVar 2) tNil)) (tC (.int 1)))) (tOp (rIxT K) (tVar 0) (tOp (rIxT K) (tVar 2) (tC (.int 1)))) (tC .non)) rfl scGivers.nd (pi_tup (pv 1))
          (blkOk_by (own := [("some", 2)]) (N := ["holds", "lists", "some"]) (sc := defScope sGiversBehind) (by decide +kernel)) (fun _ _ _ _ _ => pg_name (i := 2) scGivers.nd rfl (Or.inl rfl)) (fun _ _ _ _ _ => pts_nil)
          (fun _ _ _ _ _ => pe_ifExp (pt_cmpR op_gt (pe_callB call_len_seq (by rfl) ml PySem.boot_len (pa_cons (pv 2) pa_nil)) pe_int (nomark _)) (pe_ix ix_tup (pv 0) (pe_ix ix_tup (pv 2) pe_int (fun _ _ => rfl)) (fun _ _ => rfl)) pe_non))), ?_⟩
    obtain ⟨as, ea, al, rows⟩ := lt
    have al' : as.length = ls.length := by rw [al, leftA_len]
    refine ⟨_, rfl, l, rfl, ⟨_, SqT.of ea⟩, fun D nD => ?_⟩
    refine lc_same (walk_tup (K := K) (a := l) (xs := as.map V.ref)) (by rw [List.length_map]; omega) (fun i => hv (givO ls hs i)) nD (fun _ sm => SqT.of (sm _ _ ea)) ?_ ?_
    · rintro i x Ha Hb Z out hi sm ⟨rfl, ex⟩
      rw [List.length_map, al'] at hi
      have ex' : (as.map V.ref)[i]? = some x := ex
      rw [List.getElem?_map, List.getElem?_eq_getElem (by omega)] at ex'
      cases ex'
      have er : Tp Hb as[i] (VI (leftL ls hs i)) := (rows i _ _ (List.getElem?_eq_getElem (by omega)) (by unfold leftA; simp [hi])).imp (sm _ _) fun e => e.same sm
      refine gn ⟨rfl, _, rfl, as[i], _, rfl, .inr er.sq, _, _, rfl, rfl, decide (1 < (leftL ls hs i).length), ?_, ?_⟩
      · refine congrArg V.bl ?_
        rw [VI_len, decide_eq_decide]
        omega
      · refine ite2 (fun c => ?_) (fun c => ?_)
        · have c := of_decide_eq_true c
          have e1 : (leftL ls hs i)[1]? = some (leftL ls hs i)[1] := List.getElem?_eq_getElem c
          have bm := ((mem_left ok hi).mp (List.getElem_mem c)).1
          have bl := (ok.mate hi bm).1
          have ov : givO ls hs i = ha hs (leftL ls hs i)[1] := by unfold givO; rw [e1]; rfl
          refine ⟨_, rfl, _, rfl, as[i], _, 1, _, rfl, rfl, er.sq, atI_nat (j := 1) (VI_get e1), t, _, _, _, rfl, rfl, SqT.of (sm _ _ et), atI_nat (VH_get (ha_get (by rw [ho.len]; exact bl))), ?_⟩
          rw [← ov]
          exact out _ same_rfl
        · have c : ¬ 1 < (leftL ls hs i).length := fun z => c (decide_eq_true z)
          have ov : givO ls hs i = none := by unfold givO; rw [List.getElem?_eq_none (by omega)]; rfl
          have := out Hb same_rfl
          rw [ov] at this
          exact this
    · intro H1 s1 eD
      refine q D H1 s1 ?_
      rw [eD, List.length_map, al']
      unfold VH givA
      rw [List.map_map]
      rfl
end
end K14
namespace K14
open PySem PySem.Spec PyProof.Rows L2
/-! ### the rings of steady holds, as the program finds them -/
def sF (ls : List (List Nat)) (hs : List (Option Nat)) (p : Nat) : Nat := (leftL ls hs p).getD 1 0
abbrev gF (ls : List (List Nat)) (hs : List (Option Nat)) : Nat → Nat := gB (givA ls hs)
theorem givA_at {ls : List (List Nat)} {hs : List (Option Nat)} {p : Nat} (hp : p < ls.length) : ha (givA ls hs) p = givO ls hs p := by
  unfold ha givA
  rw [List.getD_eq_getElem?_getD, List.getElem?_map, List.getElem?_range hp]
  rfl
section
variable {ls : List (List Nat)} {hs : List (Option Nat)} (ok : ListsOk ls.length ls)
include ok in
theorem snd_at {p : Nat} (hp : p < ls.length) {s : Nat} (S : Snd ls hs p s) : (leftL ls hs p)[1]? = some s := by
  have nd := left_nd (hs := hs) ok hp
  have sf := leftL_filter (hs := hs) ok hp
  cases e : leftL ls hs p with
  | nil => have := S.mem; rw [e] at this; cases this
  | cons a r =>
    have ef : fst ls hs p = some a := by unfold fst; rw [e]; rfl
    cases r with
    | nil =>
      have := S.mem
      rw [e, List.mem_singleton] at this
      exact absurd (by rw [ef, this]) S.ne
    | cons b r =>
      rw [e] at nd
      have nab : a ≠ b := fun z => (List.nodup_cons.mp nd).1 (by rw [z]; simp)
      have h1 := S.min b (by rw [e]; simp) (by rw [ef]; exact fun z => nab (Option.some.inj z))
      have f2 : (la ls p).filter (fun o => decide (o ≠ a) && (decide ((la ls p).idxOf o ≤ most ls hs p) && keepF ls hs p o)) = b :: r := by
        rw [← List.filter_filter, ← sf, e, List.filter_cons_of_neg (by simp)]
        refine List.filter_eq_self.mpr fun x hx => ?_
        have : x ≠ a := fun z => (List.nodup_cons.mp nd).1 (z ▸ hx)
        simpa using this
      have hs' : s ∈ b :: r := by
        have := S.mem
        rw [e] at this
        rcases List.mem_cons.mp this with h | h
        · exact absurd (by rw [ef, h]) S.ne
        · exact h
      have h2 := head_min (s := la ls p) (j := b) (o := s) (by rw [f2]; rfl) (by rw [f2]; exact hs')
      have mb : b ∈ leftL ls hs p := by rw [e]; simp
      have : s = b := idx_inj ((mem_left ok hp).mp S.mem).1 ((mem_left ok hp).mp mb).1 (by omega)
      rw [this]
      rfl
include ok in
theorem giv_at (ho : HoldsOk ls hs) (st : Std ls hs) : ∀ p, p < ls.length → 2 ≤ (leftL ls hs p).length → Giv ls hs p (sF ls hs p) (gF ls hs p) := by
  intro p hp h2
  obtain ⟨s, q, G⟩ := giv_ex ok ho st hp h2
  have e1 := snd_at ok hp G.sn
  have es : sF ls hs p = s := by
    unfold sF
    rw [List.getD_eq_getElem?_getD, e1]
    rfl
  have eg : gF ls hs p = q := by
    show (ha (givA ls hs) p).getD _ = q
    rw [givA_at hp]
    unfold givO
    rw [e1]
    show (ha hs s).getD _ = q
    rw [G.held]
    rfl
  rw [es, eg]
  exact G
include ok in
theorem giv_clo (ho : HoldsOk ls hs) : Clo (givA ls hs) := by
  intro p q e
  rw [givA_len]
  by_cases hp : p < ls.length
  · rw [givA_at hp] at e
    unfold givO at e
    cases e1 : (leftL ls hs p)[1]? with
    | none => rw [e1] at e; cases e
    | some b =>
      rw [e1] at e
      have h := ho.on b q e
      exact (ok.mate h.1 h.2).1
  · rw [ha_none_of (by rw [givA_len]; omega)] at e
    cases e
include ok in
/-- on a ring all have two left -/
theorem orb_two (ho : HoldsOk ls hs) {p m : Nat} (hp : p < ls.length) (c : Cyc (gF ls hs) p m) (k : Nat) : it (gF ls hs) k p < ls.length ∧ 2 ≤ (leftL ls hs (it (gF ls hs) k p)).length := by
  have lt := cyc_lt (giv_clo ok ho) (by rw [givA_len]; exact hp) c.one c.back
  have hk := lt k
  rw [givA_len] at hk
  refine ⟨hk, ?_⟩
  have e := gB_way lt k
  rw [givA_at hk] at e
  unfold givO at e
  cases e1 : (leftL ls hs (it (gF ls hs) k p))[1]? with
  | none => rw [e1] at e; cases e
  | some b => have := (List.getElem?_eq_some_iff.mp e1).1; omega
/-- a ring told as pairs -/
def prs (ls : List (List Nat)) (hs : List (Option Nat)) (r : List Nat) : List (Nat × Nat) := r.map fun x => (x, (leftL ls hs x).headD 0)
theorem head_some {l : List Nat} (h : 1 ≤ l.length) : l.head? = some (l.headD 0) := by
  cases l with
  | nil => simp at h
  | cons a t => rfl
def oddB (L : List (List Nat)) (ps : List (Nat × Nat)) : Bool := ps.all fun x => decide (x.1 ∈ ps.map Prod.snd) && decide ((la L x.1).length = 2)
theorem la_leftA {p : Nat} (hp : p < ls.length) : la (leftA ls hs) p = leftL ls hs p := by
  unfold la leftA
  rw [List.getD_eq_getElem?_getD, List.getElem?_map, List.getElem?_range hp]
  rfl
include ok in
theorem odd_iff (ho : HoldsOk ls hs) (st : Std ls hs) {p m : Nat} (hp : p < ls.length) (c : Cyc (gF ls hs) p m) : oddB (leftA ls hs) (prs ls hs (ringL (gF ls hs) p m)) = true ↔ OddX ls hs (sF ls hs) (Orb (gF ls hs) p) := by
  have two := orb_two ok ho hp c
  have G := giv_at ok ho st
  have onr : ∀ k, it (gF ls hs) k p ∈ ringL (gF ls hs) p m := fun k => by
    refine ringL_mem.mpr ⟨k % m, Nat.mod_lt _ c.one, ?_⟩
    conv => rhs; rw [← Nat.mod_add_div k m, it_add, Nat.mul_comm, turns_all c.back]
  -- the first one of a giver is the second one of the one ahead of it
  have tk : ∀ k, (leftL ls hs (it (gF ls hs) (k + 1) p)).headD 0 = sF ls hs (it (gF ls hs) k p) := fun k => by
    have g := G _ (two k).1 (two k).2
    have e := g.fq
    unfold fst at e
    have e2 := head_some (l := leftL ls hs (it (gF ls hs) (k + 1) p)) (by have := (two (k + 1)).2; omega)
    have e3 : (leftL ls hs (gF ls hs (it (gF ls hs) k p))).head? = some ((leftL ls hs (it (gF ls hs) (k + 1) p)).headD 0) := e2
    rw [e] at e3
    exact (Option.some.inj e3).symm
  have tks : ∀ y, y ∈ (prs ls hs (ringL (gF ls hs) p m)).map Prod.snd ↔ ∃ w, Orb (gF ls hs) p w ∧ sF ls hs w = y := fun y => by
    unfold prs
    rw [List.map_map, List.mem_map]
    constructor
    · rintro ⟨x, hx, e⟩
      obtain ⟨k, hk, rfl⟩ := ringL_mem.mp hx
      -- x is behind somebody
      obtain ⟨n, rfl⟩ : ∃ n, m = n + 1 := ⟨m - 1, by have := c.one; omega⟩
      refine ⟨it (gF ls hs) (n + k) p, ⟨_, rfl⟩, ?_⟩
      rw [← tk (n + k), show n + k + 1 = k + (n + 1) by omega, it_add, c.back]
      exact e
    · rintro ⟨w, ⟨k, rfl⟩, e⟩
      exact ⟨it (gF ls hs) (k + 1) p, onr _, by show (leftL ls hs _).headD 0 = y; rw [tk]; exact e⟩
  unfold oddB OddX
  rw [List.all_eq_true]
  constructor
  · rintro h x ⟨k, rfl⟩
    have := h (it (gF ls hs) k p, (leftL ls hs (it (gF ls hs) k p)).headD 0) (List.mem_map.mpr ⟨_, onr k, rfl⟩)
    rw [Bool.and_eq_true, decide_eq_true_eq, decide_eq_true_eq] at this
    refine ⟨(tks _).mp this.1, ?_⟩
    have h2 := this.2
    rw [la_leftA (two k).1] at h2
    exact h2
  · intro h x hx
    unfold prs at hx
    obtain ⟨y, hy, rfl⟩ := List.mem_map.mp hx
    obtain ⟨k, hk, rfl⟩ := ringL_mem.mp hy
    obtain ⟨h1, h2⟩ := h _ ⟨k, rfl⟩
    rw [Bool.and_eq_true, decide_eq_true_eq, decide_eq_true_eq]
    refine ⟨(tks _).mpr h1, ?_⟩
    show (la (leftA ls hs) (it (gF ls hs) k p)).length = 2
    rw [la_leftA (two k).1]
    exact h2
end
/-- there is a ring of just so many persons -/
theorem cyc_ex {g : Nat → Nat} {x : Nat} : ∀ (n m : Nat), m ≤ n → 1 ≤ m → it g m x = x → ∃ k, Cyc g x k
  | 0, m, h, h1, _ => by omega
  | n + 1, m, h, h1, e => by
    by_cases c : ∃ k, 1 ≤ k ∧ k < m ∧ it g k x = x
    · obtain ⟨k, k1, k2, k3⟩ := c
      exact cyc_ex n k (by omega) k1 k3
    · exact ⟨m, h1, e, fun k k1 k2 k3 => c ⟨k, k1, k2, k3⟩⟩
/-- every ring is told, from its least person on -/
theorem ring_told {bs : List (Option Nat)} (cl : Clo bs) {x m : Nat} (hx : x < bs.length) (m1 : 1 ≤ m) (hm : it (gB bs) m x = x) : ∃ p k, p < bs.length ∧ Cyc (gB bs) p k ∧ ringL (gB bs) p k ∈ ringsA bs ∧ Orb (gB bs) p = Orb (gB bs) x := by
  obtain ⟨k, c⟩ := cyc_ex m m (Nat.le_refl _) m1 hm
  obtain ⟨mn, hmn, le⟩ := min_ex id (ringL (gB bs) x k) (fun z => by
    have := congrArg List.length z
    rw [ringL_len] at this
    have := c.one
    simp at *
    omega)
  obtain ⟨a, ha, rfl⟩ := ringL_mem.mp hmn
  have lt := cyc_lt cl hx m1 hm
  have cm := c.turn a
  have pm : per bs (it (gB bs) a x) = k := cyc_per cm (cyc_lt cl (lt a) cm.one cm.back)
  have on : ∀ j, it (gB bs) j x ∈ ringL (gB bs) x k := fun j => by
    refine ringL_mem.mpr ⟨j % k, Nat.mod_lt _ c.one, ?_⟩
    conv => rhs; rw [← Nat.mod_add_div j k, it_add, Nat.mul_comm, turns_all c.back]
  refine ⟨it (gB bs) a x, k, lt a, cm, ?_, ?_⟩
  · unfold ringsA
    refine List.mem_map.mpr ⟨it (gB bs) a x, List.mem_filter.mpr ⟨List.mem_range.mpr (lt a), ?_⟩, by rw [pm]⟩
    refine isLst_iff.mpr ⟨by rw [pm]; have := c.one; omega, fun j _ => ?_⟩
    rw [← it_add]
    exact le _ (on _)
  · funext y
    apply propext
    constructor
    · rintro ⟨j, rfl⟩
      exact ⟨j + a, (it_add _ _ _ _).symm⟩
    · rintro ⟨j, rfl⟩
      refine ⟨j + (a * k - a), ?_⟩
      have le : a ≤ a * k := Nat.le_mul_of_pos_right _ c.one
      rw [← it_add, show j + (a * k - a) + a = j + a * k by omega, it_add, turns_all c.back]
/-! ### the holds behind a ring -/
structure Past (hs : List (Option Nat)) (ps : List (Nat × Nat)) (hs' : List (Option Nat)) : Prop where
  len : hs'.length = hs.length
  yes : ∀ k x y, ps[k]? = some x → ps[(k + ps.length - 1) % ps.length]? = some y → ha hs' x.2 = some y.1
  no : ∀ q, (∀ x ∈ ps, x.2 ≠ q) → ha hs' q = ha hs q
section
variable {ls : List (List Nat)} {hs hs' : List (Option Nat)} (ok : ListsOk ls.length ls)
include ok in
theorem takers (ho : HoldsOk ls hs) (st : Std ls hs) {p m : Nat} (hp : p < ls.length) (c : Cyc (gF ls hs) p m) (k : Nat) : (leftL ls hs (it (gF ls hs) (k + 1) p)).headD 0 = sF ls hs (it (gF ls hs) k p) ∧ fst ls hs (it (gF ls hs) k p) = some ((leftL ls hs (it (gF ls hs) k p)).headD 0) := by
  have two := orb_two ok ho hp c
  have g := giv_at ok ho st _ (two k).1 (two k).2
  have hd := fun k => head_some (l := leftL ls hs (it (gF ls hs) k p)) (by have := (two k).2; omega)
  refine ⟨?_, hd k⟩
  have e3 : (leftL ls hs (gF ls hs (it (gF ls hs) k p))).head? = some ((leftL ls hs (it (gF ls hs) (k + 1) p)).headD 0) := hd (k + 1)
  have e := g.fq
  unfold fst at e
  rw [e] at e3
  exact (Option.some.inj e3).symm
include ok in
/-- unlike takers -/
theorem takers_nd (ho : HoldsOk ls hs) (st : Std ls hs) {p m : Nat} (hp : p < ls.length) (c : Cyc (gF ls hs) p m) : ((prs ls hs (ringL (gF ls hs) p m)).map Prod.snd).Nodup := by
  unfold prs ringL
  rw [List.map_map, List.map_map]
  refine List.pairwise_map.mpr (List.Pairwise.imp_of_mem ?_ (List.pairwise_lt_range (n := m)))
  intro a b _ hb lt e
  have hb := List.mem_range.mp hb
  have e' : (leftL ls hs (it (gF ls hs) a p)).headD 0 = (leftL ls hs (it (gF ls hs) b p)).headD 0 := e
  have two := orb_two ok ho hp c
  have f1 := (takers ok ho st hp c a).2
  have f2 := (takers ok ho st hp c b).2
  rw [← e'] at f2
  have h1 := st.b _ _ (two a).1 f1
  have h2 := st.b _ _ (two b).1 f2
  rw [h1] at h2
  exact c.inj hb lt (Option.some.inj h2)
include ok in
theorem past_out (ho : HoldsOk ls hs) (st : Std ls hs) {p m : Nat} (hp : p < ls.length) (c : Cyc (gF ls hs) p m) (R : Rng ls hs (sF ls hs) (gF ls hs) (Orb (gF ls hs) p)) (P : Past hs (prs ls hs (ringL (gF ls hs) p m)) hs') :
    ∀ y, y < ls.length → ha hs' y = ha (outOf ls hs (sF ls hs) (Orb (gF ls hs) p)) y := by
  intro y hy
  have pl : (prs ls hs (ringL (gF ls hs) p m)).length = m := by unfold prs; rw [List.length_map, ringL_len]
  have pat : ∀ k, k < m → (prs ls hs (ringL (gF ls hs) p m))[k]? = some (it (gF ls hs) k p, (leftL ls hs (it (gF ls hs) k p)).headD 0) := fun k hk => by
    unfold prs
    rw [List.getElem?_map, ringL_at hk]
    rfl
  by_cases h : ∃ x, Orb (gF ls hs) p x ∧ sF ls hs x = y
  · obtain ⟨x, ⟨k, rfl⟩, rfl⟩ := h
    rw [out_yes R ⟨k, rfl⟩]
    -- the place of the one behind
    have hk : it (gF ls hs) k p = it (gF ls hs) (k % m) p := by
      conv => lhs; rw [← Nat.mod_add_div k m, it_add, Nat.mul_comm, turns_all c.back]
    have lm : k % m < m := Nat.mod_lt _ c.one
    rw [hk]
    by_cases d : k % m + 1 < m
    · have := P.yes (k % m + 1) _ (it (gF ls hs) (k % m) p, (leftL ls hs (it (gF ls hs) (k % m) p)).headD 0) (pat _ d) (by
        rw [pl, show k % m + 1 + m - 1 = k % m + m by omega, Nat.add_mod_right, Nat.mod_eq_of_lt lm]
        exact pat _ lm)
      rw [← (takers ok ho st hp c (k % m)).1]
      exact this
    · have e : k % m + 1 = m := by omega
      have := P.yes 0 _ (it (gF ls hs) (k % m) p, (leftL ls hs (it (gF ls hs) (k % m) p)).headD 0) (pat 0 c.one) (by
        rw [pl, show 0 + m - 1 = k % m by omega, Nat.mod_eq_of_lt lm]
        exact pat _ lm)
      rw [← (takers ok ho st hp c (k % m)).1, e, c.back]
      exact this
  · rw [out_no hy fun x hx z => h ⟨x, hx, z⟩]
    refine P.no y fun x hx z => ?_
    obtain ⟨r, hr, rfl⟩ := List.mem_map.mp hx
    obtain ⟨k, hk, rfl⟩ := ringL_mem.mp hr
    obtain ⟨n, rfl⟩ : ∃ n, m = n + 1 := ⟨m - 1, by have := c.one; omega⟩
    refine h ⟨it (gF ls hs) (n + k) p, ⟨_, rfl⟩, ?_⟩
    rw [← (takers ok ho st hp c (n + k)).1, show n + k + 1 = k + (n + 1) by omega, it_add, c.back]
    exact z
include ok in
theorem past_ok (ho : HoldsOk ls hs) (st : Std ls hs) {p m : Nat} (hp : p < ls.length) (c : Cyc (gF ls hs) p m) (R : Rng ls hs (sF ls hs) (gF ls hs) (Orb (gF ls hs) p)) (P : Past hs (prs ls hs (ringL (gF ls hs) p m)) hs') : HoldsOk ls hs' := by
  refine ⟨by rw [P.len, ho.len], fun y j e => ?_⟩
  by_cases hy : y < ls.length
  · refine ⟨hy, ?_⟩
    rw [past_out ok ho st hp c R P y hy] at e
    by_cases h : ∃ x, Orb (gF ls hs) p x ∧ sF ls hs x = y
    · obtain ⟨x, hx, rfl⟩ := h
      rw [out_yes R hx] at e
      have e := Option.some.inj e
      subst e
      exact ((mem_left ok (R.giv x hx).sl).mp (R.giv x hx).ps).1
    · rw [out_no hy fun x hx z => h ⟨x, hx, z⟩] at e
      exact (ho.on y j e).2
  · rw [ha_none_of (by rw [P.len, ho.len]; omega)] at e
    cases e
end
end K14
namespace K14
open PySem PySem.Spec PyProof.Rows L2
section
variable {ls : List (List Nat)} {hs hs' : List (Option Nat)} (ok : ListsOk ls.length ls)
include ok in
/-- the holds behind a ring are the holds turned out -/
theorem past_eq (ho : HoldsOk ls hs) (st : Std ls hs) {p m : Nat} (hp : p < ls.length) (c : Cyc (gF ls hs) p m) (R : Rng ls hs (sF ls hs) (gF ls hs) (Orb (gF ls hs) p)) (P : Past hs (prs ls hs (ringL (gF ls hs) p m)) hs') : hs' = outOf ls hs (sF ls hs) (Orb (gF ls hs) p) := by
  have h1 := past_out ok ho st hp c R P
  have l2 : (outOf ls hs (sF ls hs) (Orb (gF ls hs) p)).length = ls.length := (turn_full ok ho st R).1.len
  apply List.ext_getElem?
  intro y
  by_cases hy : y < ls.length
  · rw [ha_get (by rw [P.len, ho.len]; exact hy), ha_get (by rw [l2]; exact hy), h1 y hy]
  · rw [List.getElem?_eq_none (by rw [P.len, ho.len]; omega), List.getElem?_eq_none (by rw [l2]; omega)]
include ok in
theorem past_std (ho : HoldsOk ls hs) (st : Std ls hs) {p m : Nat} (hp : p < ls.length) (c : Cyc (gF ls hs) p m) (R : Rng ls hs (sF ls hs) (gF ls hs) (Orb (gF ls hs) p)) (P : Past hs (prs ls hs (ringL (gF ls hs) p m)) hs') : Std ls hs' := by
  rw [past_eq ok ho st hp c R P]
  exact (turn_full ok ho st R).2.1
/-! ### odd rings -/
/-- what the document says of them -/
structure OddRing (ls : List (List Nat)) (hs : List (Option Nat)) (p m : Nat) : Prop where
  two : ∀ k, (leftL ls hs (it (gF ls hs) k p)).length = 2
  odd : m % 2 = 1
  three : 3 ≤ m
  /-- the first one of a person has it as its second one -/
  back : ∀ k, ∃ j, fst ls hs (it (gF ls hs) k p) = some (it (gF ls hs) j p) ∧ sF ls hs (it (gF ls hs) j p) = it (gF ls hs) k p
  held : ∀ k, ha hs (it (gF ls hs) k p) = some (sF ls hs (it (gF ls hs) k p))
  twice : ∀ k, it (gF ls hs) k p = it (sF ls hs) (2 * k) p
/-- s as a map of a ring: it goes round -/
theorem it_two {s g : Nat → Nat} {p : Nat} (h : ∀ k, s (s (it g k p)) = g (it g k p)) : ∀ k, it g k p = it s (2 * k) p
  | 0 => rfl
  | k + 1 => by
    rw [it_one, ← h k, it_two h k, show 2 * (k + 1) = 2 * k + 1 + 1 by omega, it_one, it_one]
include ok in
theorem odd_ring (ho : HoldsOk ls hs) (st : Std ls hs) {p m : Nat} (hp : p < ls.length) (c : Cyc (gF ls hs) p m) (odd : OddX ls hs (sF ls hs) (Orb (gF ls hs) p)) : OddRing ls hs p m := by
  have two := orb_two ok ho hp c
  have G := fun k => giv_at ok ho st _ (two k).1 (two k).2
  have hl := fun k => (odd _ ⟨k, rfl⟩).2
  -- the second one is of the ring
  have lt : ∀ k, ∃ n, n < m ∧ it (gF ls hs) k p = it (gF ls hs) n p := fun k => ⟨k % m, Nat.mod_lt _ c.one, by conv => lhs; rw [← Nat.mod_add_div k m, it_add, Nat.mul_comm, turns_all c.back]⟩
  have sinj : ∀ i j, sF ls hs (it (gF ls hs) i p) = sF ls hs (it (gF ls hs) j p) → it (gF ls hs) i p = it (gF ls hs) j p := fun i j e => by
    have h1 := (G i).held
    have h2 := (G j).held
    rw [e, h2] at h1
    exact (orb_inj c.one c.back _ _ ⟨j, rfl⟩ ⟨i, rfl⟩ (Option.some.inj h1)).symm
  have son : ∀ k, ∃ j, sF ls hs (it (gF ls hs) k p) = it (gF ls hs) j p := by
    -- as many seconds as persons, and all persons are seconds
    have nd1 : ((ringL (gF ls hs) p m).map (sF ls hs)).Nodup := by
      unfold ringL
      rw [List.map_map]
      refine List.pairwise_map.mpr (List.Pairwise.imp_of_mem ?_ (List.pairwise_lt_range (n := m)))
      intro i j _ hj ij e
      exact c.inj (List.mem_range.mp hj) ij (sinj i j e)
    have nd0 : (ringL (gF ls hs) p m).Nodup := by
      unfold ringL
      refine List.pairwise_map.mpr (List.Pairwise.imp_of_mem ?_ (List.pairwise_lt_range (n := m)))
      intro i j _ hj ij e
      exact c.inj (List.mem_range.mp hj) ij e
    have sub : ∀ x ∈ ringL (gF ls hs) p m, x ∈ (ringL (gF ls hs) p m).map (sF ls hs) := fun x hx => by
      obtain ⟨k, hk, rfl⟩ := ringL_mem.mp hx
      obtain ⟨w, ⟨j, rfl⟩, e⟩ := (odd _ ⟨k, rfl⟩).1
      obtain ⟨n, hn, en⟩ := lt j
      rw [en] at e
      exact List.mem_map.mpr ⟨_, ringL_mem.mpr ⟨n, hn, rfl⟩, e⟩
    intro k
    obtain ⟨n, hn, en⟩ := lt k
    rw [en]
    refine Classical.byContradiction fun no => ?_
    have h := nodup_sub_len (s := sF ls hs (it (gF ls hs) n p) :: ringL (gF ls hs) p m) (t := (ringL (gF ls hs) p m).map (sF ls hs)) (List.nodup_cons.mpr ⟨fun z => by
      obtain ⟨j, _, e⟩ := ringL_mem.mp z
      exact no ⟨j, e.symm⟩, nd0⟩) fun x hx => by
      rcases List.mem_cons.mp hx with rfl | hx
      · exact List.mem_map.mpr ⟨_, ringL_mem.mpr ⟨n, hn, rfl⟩, rfl⟩
      · exact sub x hx
    rw [List.length_cons, List.length_map] at h
    omega
  -- the last one left is the second one
  have held : ∀ k, ha hs (it (gF ls hs) k p) = some (sF ls hs (it (gF ls hs) k p)) := fun k => by
    have h1 := last_held ok ho st (two k).1
    have h2 := hl k
    have h3 : (leftL ls hs (it (gF ls hs) k p)).getLast? = (leftL ls hs (it (gF ls hs) k p))[1]? := by
      rw [List.getLast?_eq_getElem?, h2]
    rw [← h1, h3]
    unfold sF
    rw [List.getD_eq_getElem?_getD, List.getElem?_eq_getElem (by omega)]
    rfl
  have ss : ∀ k, sF ls hs (sF ls hs (it (gF ls hs) k p)) = gF ls hs (it (gF ls hs) k p) := fun k => by
    obtain ⟨j, e⟩ := son k
    have h1 := (G k).held
    rw [e, held j] at h1
    rw [e]
    exact Option.some.inj h1
  have two' := it_two ss
  have all : ∀ n, ∃ k, it (sF ls hs) n p = it (gF ls hs) k p := by
    intro n
    induction n with
    | zero => exact ⟨0, rfl⟩
    | succ n ih =>
      obtain ⟨k, e⟩ := ih
      obtain ⟨j, e2⟩ := son k
      exact ⟨j, by rw [it_one, e, e2]⟩
  have sinj2 : ∀ i j, it (sF ls hs) (i + 1) p = it (sF ls hs) (j + 1) p → it (sF ls hs) i p = it (sF ls hs) j p := fun i j e => by
    rw [it_one, it_one] at e
    obtain ⟨a, ea⟩ := all i
    obtain ⟨b, eb⟩ := all j
    rw [ea, eb] at e
    rw [ea, eb]
    exact sinj a b e
  have canc : ∀ a n, it (sF ls hs) (n + a) p = it (sF ls hs) a p → it (sF ls hs) n p = p := by
    intro a
    induction a with
    | zero => intro n e; exact e
    | succ a ih =>
      intro n e
      exact ih n (sinj2 _ _ e)
  have nes : ∀ k, sF ls hs (it (gF ls hs) k p) ≠ it (gF ls hs) k p := fun k e => by
    have := (G k).ps
    rw [e] at this
    have h := ((mem_left ok (two k).1).mp this).1
    exact (ok.mate (two k).1 h).2.1 rfl
  -- an odd number of steps leads back
  obtain ⟨r, rodd, hr⟩ : ∃ r, r % 2 = 1 ∧ it (sF ls hs) r p = p := by
    obtain ⟨j, e⟩ := son 0
    have e' : it (sF ls hs) 1 p = it (sF ls hs) (2 * j) p := by
      rw [← two' j]
      exact e
    have j0 : j ≠ 0 := fun z => by
      rw [z] at e
      exact nes 0 e
    refine ⟨2 * j - 1, by omega, ?_⟩
    refine canc 1 (2 * j - 1) ?_
    rw [show 2 * j - 1 + 1 = 2 * j by omega]
    exact e'.symm
  have r1 : 1 ≤ r := by omega
  obtain ⟨d, cd⟩ := cyc_ex r r (Nat.le_refl _) r1 hr
  have mod0 : ∀ n, it (sF ls hs) n p = p → n % d = 0 := fun n e => by
    have e2 : it (sF ls hs) (n % d) p = p := by
      rw [← Nat.mod_add_div n d, it_add, Nat.mul_comm, turns_all cd.back] at e
      exact e
    have l := Nat.mod_lt n cd.one
    refine Classical.byContradiction fun z => ?_
    exact cd.least _ (by omega) l e2
  have dodd : d % 2 = 1 := by
    have h1 := mod0 r hr
    have h2 : r = d * (r / d) := by have := Nat.mod_add_div r d; omega
    rcases Nat.mod_two_eq_zero_or_one d with h | h
    · exfalso
      have : r % 2 = 0 := by rw [h2, Nat.mul_mod, h]; simp
      omega
    · exact h
  -- the ring has just so many
  have md : m = d := by
    have c2 : Cyc (gF ls hs) p d := by
      refine ⟨cd.one, ?_, fun k k1 k2 e => ?_⟩
      · rw [two' d, Nat.mul_comm, Nat.mul_two, it_add, cd.back, cd.back]
      · rw [two' k] at e
        have h := mod0 _ e
        -- d odd, divides 2k
        have h2 : 2 * k = d * (2 * k / d) := by have := Nat.mod_add_div (2 * k) d; omega
        have h3 : (2 * k / d) % 2 = 0 := by
          rcases Nat.mod_two_eq_zero_or_one (2 * k / d) with h | h
          · exact h
          · exfalso
            have : (2 * k) % 2 = 1 := by rw [h2, Nat.mul_mod, h, dodd]
            omega
        obtain ⟨n, hn⟩ : ∃ n, 2 * k / d = 2 * n := ⟨2 * k / d / 2, by omega⟩
        rw [hn] at h2
        have h4 : k = d * n := by
          have : 2 * k = 2 * (d * n) := by rw [h2, Nat.mul_left_comm]
          omega
        rcases Nat.eq_zero_or_pos n with n0 | n0
        · rw [n0] at h4
          omega
        · have := Nat.le_mul_of_pos_right d n0
          omega
    exact c.uniq c2
  refine ⟨hl, by rw [md]; exact dodd, ?_, fun k => ?_, held, two'⟩
  · have m1 : m ≠ 1 := fun z => by
      have h := c.back
      rw [z] at h
      have h2 : it (sF ls hs) 2 p = p := by
        have := two' 1
        rw [h] at this
        exact this.symm
      have h3 : it (sF ls hs) 1 p = p := by
        have e1 := mod0 2 h2
        rw [← md, z] at e1
        have hd := cd.back
        rw [← md, z] at hd
        exact hd
      exact nes 0 h3
    have : m % 2 = 1 := by rw [md]; exact dodd
    omega
  · -- the one ahead
    obtain ⟨n, hn, en⟩ := lt k
    have one := c.one
    obtain ⟨i, hi⟩ : ∃ i, it (gF ls hs) k p = it (gF ls hs) (i + 1) p := by
      refine ⟨k + m - 1, ?_⟩
      rw [show k + m - 1 + 1 = k + m by omega, it_add, c.back]
    obtain ⟨j, hj⟩ := son i
    refine ⟨j, ?_, ?_⟩
    · rw [hi, ← hj]
      exact (G i).fq
    · rw [← hj, ss i, hi]
      rfl
end
end K14
namespace K14
open PySem PySem.Spec PyProof.Rows L2
theorem orb_ring {g : Nat → Nat} {p m : Nat} (c : Cyc g p m) {x : Nat} : Orb g p x ↔ x ∈ ringL g p m := by
  constructor
  · rintro ⟨k, rfl⟩
    refine ringL_mem.mpr ⟨k % m, Nat.mod_lt _ c.one, ?_⟩
    conv => rhs; rw [← Nat.mod_add_div k m, it_add, Nat.mul_comm, turns_all c.back]
  · intro h
    obtain ⟨k, _, e⟩ := ringL_mem.mp h
    exact ⟨k, e.symm⟩
/-! rings met from behind: which ring a person leads to -/
theorem ringsA_min {bs : List (Option Nat)} {y m a : Nat} (c : Cyc (gB bs) y m) (h : ∀ k, it (gB bs) k y < bs.length) (le : ∀ k, it (gB bs) a y ≤ it (gB bs) k y) : ringL (gB bs) (it (gB bs) a y) m ∈ ringsA bs := by
  have c2 := c.turn a
  have h2 : ∀ k, it (gB bs) k (it (gB bs) a y) < bs.length := fun k => by rw [← it_add]; exact h _
  have p := cyc_per c2 h2
  unfold ringsA
  refine List.mem_map.mpr ⟨it (gB bs) a y, List.mem_filter.mpr ⟨List.mem_range.mpr (h a), isLst_iff.mpr ⟨by rw [p]; have := c.one; omega, fun k _ => ?_⟩⟩, by rw [p]⟩
  rw [← it_add]
  exact le _
theorem ringsA_uniq {bs : List (Option Nat)} {r r' : List Nat} (h : r ∈ ringsA bs) (h' : r' ∈ ringsA bs) {y : Nat} (hy : y ∈ r) (hy' : y ∈ r') : r = r' := by
  have out : ∀ {r : List Nat}, r ∈ ringsA bs → y ∈ r → ∃ p m, Cyc (gB bs) p m ∧ r = ringL (gB bs) p m ∧ (∃ k, it (gB bs) k p = y) ∧ ∀ k, p ≤ it (gB bs) k p := fun {r} h hy => by
    unfold ringsA at h
    obtain ⟨p, hp, rfl⟩ := List.mem_map.mp h
    obtain ⟨_, hl⟩ := List.mem_filter.mp hp
    obtain ⟨h1, h2⟩ := isLst_iff.mp hl
    have c := per_cyc h1
    obtain ⟨k, _, ek⟩ := ringL_mem.mp hy
    refine ⟨p, per bs p, c, rfl, ⟨k, ek⟩, fun k => ?_⟩
    have e : it (gB bs) k p = it (gB bs) (k % per bs p) p := by
      conv => lhs; rw [← Nat.mod_add_div k (per bs p), it_add, Nat.mul_comm, turns_all c.back]
    rw [e]
    exact h2 _ (Nat.mod_lt _ c.one)
  obtain ⟨p, m, c, rfl, ⟨k, ek⟩, le⟩ := out h hy
  obtain ⟨p', m', c', rfl, ⟨k', ek'⟩, le'⟩ := out h' hy'
  have back : ∀ {p m k : Nat}, Cyc (gB bs) p m → ∃ j, it (gB bs) j (it (gB bs) k p) = p := fun {p m k} c => by
    refine ⟨m - k % m, ?_⟩
    have e : it (gB bs) k p = it (gB bs) (k % m) p := by
      conv => lhs; rw [← Nat.mod_add_div k m, it_add, Nat.mul_comm, turns_all c.back]
    have hk := Nat.mod_lt k c.one
    rw [e, ← it_add, show m - k % m + k % m = m by omega, c.back]
  obtain ⟨j, ej⟩ := back (k := k) c
  obtain ⟨j', ej'⟩ := back (k := k') c'
  rw [ek] at ej
  rw [ek'] at ej'
  have e : p = p' := by
    have h1 := le (j' + k)
    rw [it_add, ek, ej'] at h1
    have h2 := le' (j + k')
    rw [it_add, ek', ej] at h2
    omega
  subst e
  rw [c.uniq c']
/-- behind as many steps as there are persons one is on a ring -/
theorem on_ring {g : Nat → Nat} {n x : Nat} (h : ∀ k, it g k x < n) : ∃ m, Cyc g (it g n x) m := by
  obtain ⟨i, j, ij, jn, e⟩ : ∃ i j, i < j ∧ j ≤ n ∧ it g i x = it g j x := by
    refine Classical.byContradiction fun no => ?_
    have nd : ((List.range (n + 1)).map fun k => it g k x).Nodup := by
      refine List.pairwise_map.mpr (List.Pairwise.imp_of_mem ?_ (List.pairwise_lt_range (n := n + 1)))
      intro i j _ hj ij e
      exact no ⟨i, j, ij, by have := List.mem_range.mp hj; omega, e⟩
    have := nodup_sub_len (t := List.range n) nd fun y hy => by
      obtain ⟨k, _, rfl⟩ := List.mem_map.mp hy
      exact List.mem_range.mpr (h k)
    simp at this
    omega
  have back : it g (j - i) (it g n x) = it g n x := by
    have e1 : it g n x = it g (n - i) (it g i x) := by rw [← it_add, show n - i + i = n by omega]
    conv => lhs; rw [← it_add, show j - i + n = n - i + j by omega, it_add, ← e, ← e1]
  exact cyc_ex _ _ (Nat.le_refl _) (by omega) back
end K14
namespace K14
open PySem PySem.Spec PyProof.Rows L2
def spRingFrom : Sp := fun vs H Q _ => ∃ (b : Addr) (bs : List (Option Nat)) (g : Nat → Nat) (p m : Nat), vs = [.ref b, .int p] ∧ H b = some (.lst (VH bs)) ∧ bs.length ≤ 100 ∧ 1 ≤ m ∧ m ≤ 100 ∧ it g m p = p ∧ (∀ k, 1 ≤ k → k < m → it g k p ≠ p) ∧ (∀ k, it g k p < bs.length ∧ ha bs (it g k p) = some (it g (k + 1) p)) ∧
  ∀ r H', Same H H' → Ex H' r (VI (ringL g p m)) → Q (.ref r) H'
theorem scRingFrom : FnScope ["behind", "person", "ring"] ["behind", "person"] (defScope sRingFrom) := ⟨rfl, rfl, rfl, by decide +kernel, rfl, by decide +kernel, by decide +kernel⟩
section
variable {P : Program} {w : World} {K : PySem.W.Frag} {mg : Str → Option Value} {base : Heap}
theorem ok_ring_from {f : Addr} {fd : FuncData} {k : Nat} (F : Fun K "ring_from" "ring_from" sRingFrom f fd) (mt : mg "tuple" = none) : FnOk P w K mg base CX0 (k + 1) f fd ["behind", "person"] spRingFrom := by
  refine F.ok scRingFrom (fun vs H Q E h => ?_) (fun cdv A outer s H vs Q E hr h => ?_)
  · obtain ⟨b, bs, g, p, m, rfl, _⟩ := h
    rfl
  · obtain ⟨b, bs, g, p, m, rfl, eb, n100, m1, m100, hm, least, at_, q⟩ := h
    refine ⟨_, pss_cons (ps_set (i := 2) scRingFrom.nd rfl (.inl rfl) (pe_lst (pa_cons (pv 1) pa_nil)))
      (pss_cons (ps_while PassesOwn.never (pt_cmpR op_ne (pe_ix ix_list (pv 0) (pe_ix ix_list (pv 2) (pe_un un_neg pe_int) (fun _ _ => rfl)) (fun _ _ => rfl)) (pv 1) (nomark _))
        (pss_one (ps_expr (pe_bm PySem.F.plainAttrs_list PySem.F.slot_list_append PySem.F.type_list_append mt_append (pv 2) (pa_cons (pe_ix ix_list (pv 0) (pe_ix ix_list (pv 2) (pe_un un_neg pe_int) (fun _ _ => rfl)) (fun _ _ => rfl)) pa_nil)))))
      (pss_one (ps_ret (pe_callTy call_tupleX (by rfl) mt (by decide +kernel) (pa_cons (pv 2) pa_nil))))), ?_⟩
    refine ⟨_, rfl, (by show 1 ≤ sizeLine; decide), fun D nD => gn ?_⟩
    dsimp only [List.set, L2.start]
    refine tw (fun d σ H' => ∃ n, σ = [some (.ref b), some (.int (p : Nat)), some (.ref D)] ∧ Same H H' ∧ H' D = some (.lst (VI (ringL g p (n + 1)))) ∧ n + 1 ≤ m ∧ d = m - n)
      (fun σ H' => σ = [some (.ref b), some (.int (p : Nat)), some (.ref D)] ∧ Same H H' ∧ H' D = some (.lst (VI (ringL g p m))))
      ⟨0, rfl, same_upd nD, upd_same, m1, rfl⟩ ?_ (fun out => ?_)
    · rintro σ H' ⟨rfl, s', eD⟩
      exact ⟨_, rfl, D, _, rfl, SqL.of eD, fun r H9 nr sm ex _ => q r H9 (s'.trans sm) ex⟩
    · rintro d σ H3 ⟨n, rfl, s3, eD, nm, rfl⟩
      have eb3 := s3 _ _ eb
      have last : atI (VI (ringL g p (n + 1))) (-1) = some (.int (it g n p : Nat)) := by
        rw [ringL_succ, VI_app]
        exact atI_last _ _
      obtain ⟨il, ih⟩ := at_ n
      have nx : atI (VH bs) ((it g n p : Nat) : Int) = some (.int (it g (n + 1) p : Nat)) := by
        have := VH_get (ha_get il)
        rw [ih] at this
        exact atI_nat this
      refine ⟨_, rfl, _, rfl, _, rfl, D, _, -1, _, rfl, rfl, SqL.of eD, last, b, _, _, _, rfl, rfl, SqL.of eb3, nx, _, rfl, rfl, decide (it g (n + 1) p ≠ p), ?_, ?_⟩
      · refine congrArg V.bl ?_
        by_cases c : it g (n + 1) p = p
        · rw [c]
          simp
        · have : V.int ((it g (n + 1) p : Nat) : Int) ≠ V.int ((p : Nat) : Int) := fun z => c (by have := V.int.inj z; omega)
          rw [decide_eq_true c, decide_eq_false this]
          rfl
      · refine ite2 (fun c => ?_) (fun c => ?_)
        · have c := of_decide_eq_true c
          have lt : n + 2 ≤ m := by
            refine Classical.byContradiction fun z => c ?_
            rw [show n + 1 = m by omega]
            exact hm
          refine ⟨fun σ' H' => ∃ m', m' < m - n ∧ ∃ n', σ' = [some (.ref b), some (.int (p : Nat)), some (.ref D)] ∧ Same H H' ∧ H' D = some (.lst (VI (ringL g p (n' + 1)))) ∧ n' + 1 ≤ m ∧ m' = m - n', fun _ _ h => h, ?_⟩
          refine ⟨_, rfl, .inl ⟨rfl, _, SqL.of eD⟩, _, rfl, _, rfl, _, rfl, D, _, -1, _, rfl, rfl, SqL.of eD, last, b, _, _, _, rfl, rfl, SqL.of eb3, nx, D, _, _, rfl, rfl, eD, ?_, _, ?_, n + 1, rfl, s3.fresh nD, ?_, lt, rfl⟩
          · rw [VI_len]
            unfold ringL
            rw [List.length_map, List.length_range]
            exact sz6 (by omega)
          · omega
          · rw [upd_same, ringL_succ (m := n + 1), VI_app]
            rfl
        · have c : it g (n + 1) p = p := Classical.byContradiction fun z => c (decide_eq_true z)
          have e : n + 1 = m := by
            refine Classical.byContradiction fun z => ?_
            exact least (n + 1) (by omega) (by omega) c
          refine out _ _ ⟨rfl, s3, ?_⟩
          rw [← e]
          exact eD
end
end K14
/-! min, max and sum of a tuple of ints -/
namespace PySem
open Sem (wp)
section
variable {prog : Program} {w : World} {A : Around} {E : Value → Shared → Prop} {s : Shared} {l : Addr} {xs : Array (Int × Tok)}
theorem iter_intTup {Q : Value → Shared → Prop} (hl : s.heap.IsTuple l (intItems xs))
    (h : ∀ s₂ : Shared, s₂ = { s with heap := s.heap.push { cls := .type "tuple_iterator", data := .fields #[.ref l, .int 0 0] } } →
      (s₂.heap.IsTupleIter s.heap.objs.size l 0 ∧ s₂.heap.IsTuple l (intItems xs)) → (∀ b ∈ [s.heap.objs.size, l], b < s₂.heap.objs.size) → l ≠ s.heap.objs.size → Q (.ref s.heap.objs.size) s₂) :
    wpAny (model prog w) A (pyIter (.ref l)) Q E s := by
  have hlt : l < s.heap.objs.size := by obtain ⟨_, e, _⟩ := hl; exact Heap.lt_size e
  refine wpAny_pyIter_tuple hl (h _ rfl ⟨⟨_, Heap.get?_push_size _ rfl, rfl, rfl⟩, hl.push _⟩ (fun b hb => ?_) (Nat.ne_of_lt hlt))
  show b < (s.heap.push _).objs.size
  rw [Heap.size_push]
  rcases List.mem_cons.mp hb with rfl | hb
  · exact Nat.lt_succ_self _
  · rcases List.mem_cons.mp hb with rfl | hb
    · exact Nat.lt_succ_of_lt hlt
    · cases hb
theorem old_keptT {h' : Heap} {o0 : Obj} (hk : ∀ b o, b ∉ [s.heap.objs.size] → (s.heap.push o0).get? b = some o → h'.get? b = some o) :
    ∀ b o, s.heap.get? b = some o → h'.get? b = some o := fun b o e => by
  refine hk b o (fun hm => ?_) (Heap.get?_push_of_some _ e)
  rcases List.mem_cons.mp hm with e1 | hm
  · exact absurd (e1 ▸ Heap.lt_size e) (Nat.lt_irrefl _)
  · cases hm
theorem max_intTup {Q : Value → Shared → Prop} (hh : A.handled = none) (hl : s.heap.IsTuple l (intItems xs)) (hne : 0 < xs.size)
    (h : ∀ v h' tk, (intItems xs)[argBest (fun i j => decide (numAt xs i > numAt xs j)) (xs.size - 1)]? = some v → (∀ b o, s.heap.get? b = some o → h'.get? b = some o) → Q v { s with heap := h', toks := tk }) :
    wpAny (model prog w) A (call (.builtin "max") [.ref l]) Q E s := by
  refine call_max_walk (iter_intTup hl fun s₂ e st hfp hlI => ?_)
  subst e
  refine ⟨_, _, _, _, _, _, _, rfl, Walks.tuple (A := A.in1) hh _ l hlI (intItems xs), st, hfp, by simpa [intItems] using hne, CmpOf.ints_gt (numAt xs) (fun _ _ => intItems_at), fun v h' tk hP hk => ?_⟩
  exact h v h' tk (by simpa [intItems] using hP) (old_keptT hk)
theorem min_intTup {Q : Value → Shared → Prop} (hh : A.handled = none) (hl : s.heap.IsTuple l (intItems xs)) (hne : 0 < xs.size)
    (h : ∀ v h' tk, (intItems xs)[argBest (fun i j => decide (numAt xs i < numAt xs j)) (xs.size - 1)]? = some v → (∀ b o, s.heap.get? b = some o → h'.get? b = some o) → Q v { s with heap := h', toks := tk }) :
    wpAny (model prog w) A (call (.builtin "min") [.ref l]) Q E s := by
  refine call_min_walk (iter_intTup hl fun s₂ e st hfp hlI => ?_)
  subst e
  refine ⟨_, _, _, _, _, _, _, rfl, Walks.tuple (A := A.in1) hh _ l hlI (intItems xs), st, hfp, by simpa [intItems] using hne, CmpOf.ints_lt (numAt xs) (fun _ _ => intItems_at), fun v h' tk hP hk => ?_⟩
  exact h v h' tk (by simpa [intItems] using hP) (old_keptT hk)
end
end PySem
namespace L2
open PySem PySem.Spec PyProof.Rows
section
variable {prog : Program} {w : World} {A : Around} {E : Value → Shared → Prop} {s : Shared} {l : Addr} {its : List Value} {ns : List Int} {Q : Value → Shared → Prop}
theorem max_rawT (hh : A.handled = none) (hl : s.heap.IsTuple l its.toArray) (hi : IntsAre its ns) (hne : 0 < ns.length)
    (h : ∀ h' tk M t', (∀ b o, s.heap.get? b = some o → h'.get? b = some o) → M ∈ ns → (∀ a, a ∈ ns → a ≤ M) → Q (.int M t') { s with heap := h', toks := tk }) : wpAny (model prog w) A (call (.builtin "max") [.ref l]) Q E s := by
  obtain ⟨xs, e⟩ := hi.allInts.items
  have hn : numsOf (intItems xs).toList = ns := by rw [← e]; exact hi.numsOf
  rw [nums_intItems] at hn
  subst hn
  rw [e] at hl
  have hsz : 0 < xs.size := by simpa using hne
  refine PySem.max_intTup hh hl hsz fun v h' tk hv hk => ?_
  obtain ⟨t, rfl⟩ := intItems_at hv
  obtain ⟨h1, h2⟩ := argBest_gt (numAt xs) (xs.size - 1)
  refine h h' tk _ t hk ?_ fun a ha => ?_
  · rw [numAt_eq]; exact PySem.getD_mem (by rw [List.length_map, Array.length_toList]; omega)
  · obtain ⟨j, hj, rfl⟩ := mem_getD ha
    rw [List.length_map, Array.length_toList] at hj
    rw [← numAt_eq]; exact h2 j (by omega)
theorem min_rawT (hh : A.handled = none) (hl : s.heap.IsTuple l its.toArray) (hi : IntsAre its ns) (hne : 0 < ns.length)
    (h : ∀ h' tk M t', (∀ b o, s.heap.get? b = some o → h'.get? b = some o) → M ∈ ns → (∀ a, a ∈ ns → M ≤ a) → Q (.int M t') { s with heap := h', toks := tk }) : wpAny (model prog w) A (call (.builtin "min") [.ref l]) Q E s := by
  obtain ⟨xs, e⟩ := hi.allInts.items
  have hn : numsOf (intItems xs).toList = ns := by rw [← e]; exact hi.numsOf
  rw [nums_intItems] at hn
  subst hn
  rw [e] at hl
  have hsz : 0 < xs.size := by simpa using hne
  refine PySem.min_intTup hh hl hsz fun v h' tk hv hk => ?_
  obtain ⟨t, rfl⟩ := intItems_at hv
  obtain ⟨h1, h2⟩ := argBest_lt (numAt xs) (xs.size - 1)
  refine h h' tk _ t hk ?_ fun a ha => ?_
  · rw [numAt_eq]; exact PySem.getD_mem (by rw [List.length_map, Array.length_toList]; omega)
  · obtain ⟨j, hj, rfl⟩ := mem_getD ha
    rw [List.length_map, Array.length_toList] at hj
    rw [← numAt_eq]; exact h2 j (by omega)
end
section
variable {X : Cx}
/-- max(t), min(t) of a tuple of ints -/
def rMaxT (K : PySem.W.Frag) : List V → Hp → VK → Prop := fun vs H Q => ∃ (a : Addr) (ns : List Int), vs = [V.ref a] ∧ SqT K H a (ns.map V.int) ∧ 0 < ns.length ∧ ∀ m, m ∈ ns → (∀ y, y ∈ ns → y ≤ m) → Q (.int m) H
def rMinT (K : PySem.W.Frag) : List V → Hp → VK → Prop := fun vs H Q => ∃ (a : Addr) (ns : List Int), vs = [V.ref a] ∧ SqT K H a (ns.map V.int) ∧ 0 < ns.length ∧ ∀ m, m ∈ ns → (∀ y, y ∈ ns → m ≤ y) → Q (.int m) H
theorem cr_maxT (hc : X.calm = true) : CallR X (.builtin "max") (rMaxT X.K) := by
  intro pins s σ H vs us Q I r h
  obtain ⟨a, ns, rfl, hs, hne, q⟩ := h
  obtain ⟨its, rv, p, _⟩ := I.tuple hs
  rw [Vals.ref1 r]
  exact max_rawT (I.ok.hd hc) p rv.ints hne fun h' tk m t' hk h1 h2 => ⟨.int _, H, I.kept hk, ⟨_, rfl⟩, q m h1 h2⟩
theorem cr_minT (hc : X.calm = true) : CallR X (.builtin "min") (rMinT X.K) := by
  intro pins s σ H vs us Q I r h
  obtain ⟨a, ns, rfl, hs, hne, q⟩ := h
  obtain ⟨its, rv, p, _⟩ := I.tuple hs
  rw [Vals.ref1 r]
  exact min_rawT (I.ok.hd hc) p rv.ints hne fun h' tk m t' hk h1 h2 => ⟨.int _, H, I.kept hk, ⟨_, rfl⟩, q m h1 h2⟩
end
end L2
namespace K14
open PySem PySem.Spec PyProof.Rows L2
theorem slTo {K : PySem.W.Frag} {H : Hp} {a : Addr} {s : List Nat} {m : Nat} {Q : VK} (e : Tp H a (VI s)) (hm : m ≤ s.length) (q : ∀ b H', Same H H' → Tp H' b (VI (s.take m)) → Q (.ref b) H') : rSlA K (.ref a) none (some ((m : Nat) : Int)) H Q := by
  have ek : HT.sIx (VI s).length (VI s).length (some ((m : Nat) : Int)) = min m (VI s).length := HT.sIx_nat _ _ m
  have e0 : HT.sIx (VI s).length 0 none = 0 := HT.sIx_none _ _
  refine ⟨a, VI s, rfl, e.sq, fun h => ?_, fun h p np => ?_⟩
  · have hm2 : s.length ≤ m := by
      have := h.2
      rw [ek, VI_len] at this
      omega
    refine q a H same_rfl ?_
    rw [List.take_of_length_le hm2]
    exact e
  · refine q p _ (same_upd np) (.inl ?_)
    rw [upd_same]
    unfold cutV
    rw [e0, ek, List.drop_zero, Nat.sub_zero, VI_len, Nat.min_eq_left hm]
    congr 2
    unfold VI
    rw [List.map_take]
theorem slFrom {K : PySem.W.Frag} {H : Hp} {a : Addr} {s : List Nat} {m : Nat} {Q : VK} (e : Tp H a (VI s)) (hm : m ≤ s.length) (q : ∀ b H', Same H H' → Tp H' b (VI (s.drop m)) → Q (.ref b) H') : rSlA K (.ref a) (some ((m : Nat) : Int)) none H Q := by
  have ek : HT.sIx (VI s).length 0 (some ((m : Nat) : Int)) = min m (VI s).length := HT.sIx_nat _ _ m
  have e0 : HT.sIx (VI s).length (VI s).length none = (VI s).length := HT.sIx_none _ _
  refine ⟨a, VI s, rfl, e.sq, fun h => ?_, fun h p np => ?_⟩
  · have hm2 : m = 0 := by
      have := h.1
      rw [ek, VI_len] at this
      by_cases c : s.length = 0
      · omega
      · omega
    refine q a H same_rfl ?_
    rw [hm2]
    exact e
  · refine q p _ (same_upd np) (.inl ?_)
    rw [upd_same]
    unfold cutV
    rw [e0, ek, VI_len, Nat.min_eq_left hm]
    congr 2
    rw [List.take_of_length_le (by rw [List.length_drop, VI_len]; exact Nat.le_refl _)]
    unfold VI
    rw [List.map_drop]
theorem catTT {K : PySem.W.Frag} {H : Hp} {a b : Addr} {s t : List Nat} {Q : VK} (ea : Tp H a (VI s)) (eb : Tp H b (VI t)) (hz : s.length + t.length ≤ 100000) (q : ∀ c H', Same H H' → Tp H' c (VI (s ++ t)) → Q (.ref c) H') : rCatA K (.ref a) (.ref b) H Q := by
  refine ⟨a, b, _, _, rfl, rfl, ea.sq, eb.sq, by rw [VI_len, VI_len, sizeLine_eq]; omega, fun h => ?_, fun _ h => ?_, fun _ _ p np => ?_⟩
  · have : s = [] := List.map_eq_nil_iff.mp h
    subst this
    exact q b H same_rfl eb
  · have : t = [] := List.map_eq_nil_iff.mp h
    subst this
    refine q a H same_rfl ?_
    rw [List.append_nil]
    exact ea
  · refine q p _ (same_upd np) (.inl ?_)
    rw [upd_same, VI_app]
def spFromLeast : Sp := fun vs H Q _ => ∃ (t : Addr) (s : List Nat), vs = [.ref t] ∧ Ex H t (VI s) ∧ 0 < s.length ∧ s.length ≤ 1000 ∧ ∀ r H' mn, mn ∈ s → (∀ y ∈ s, mn ≤ y) → Same H H' → Tp H' r (VI (s.drop (s.idxOf mn) ++ s.take (s.idxOf mn))) → Q (.ref r) H'
theorem scFromLeast : FnScope ["ring", "at"] ["ring"] (defScope sFromLeast) := ⟨rfl, rfl, rfl, by decide +kernel, rfl, by decide +kernel, by decide +kernel⟩
section
variable {P : Program} {w : World} {K : PySem.W.Frag} {mg : Str → Option Value} {base : Heap}
theorem ok_from_least {f : Addr} {fd : FuncData} {k : Nat} (F : Fun K "from_least" "from_least" sFromLeast f fd) (mmi : mg "min" = none) : FnOk P w K mg base CX0 (k + 1) f fd ["ring"] spFromLeast := by
  refine F.ok scFromLeast (fun vs H Q E h => ?_) (fun cdv A outer s H vs Q E hr h => ?_)
  · obtain ⟨t, s, rfl, _⟩ := h
    rfl
  · obtain ⟨t, rg, rfl, ex, n0, n1, q⟩ := h
    refine ⟨_, pss_cons (ps_set (i := 1) scFromLeast.nd rfl (.inl rfl) (pe_bmT PySem.F.plainAttrs_tuple PySem.F.slot_tuple_index PySem.F.type_tuple_index mt_tupIdx (pv 0) (pa_cons (pe_callB (cr_minT rfl) (by rfl) mmi (by decide +kernel) (pa_cons (pv 0) pa_nil)) pa_nil)))
      (pss_one (ps_ret (pe_op op_catA (pe_slice sl_tupA (pv 0) (po_some (pv 1)) po_none) (pe_slice sl_tupA (pv 0) po_none (po_some (pv 1)))))), ?_⟩
    have tp : Tp H t (VI rg) := .inr ex
    refine ⟨_, rfl, ⟨t, _, rfl, ex⟩, _, rfl, t, rg.map fun j => ((j : Nat) : Int), rfl, ?_, by rw [List.length_map]; exact n0, fun m hm le => ?_⟩
    · have e : (rg.map fun j => ((j : Nat) : Int)).map V.int = VI rg := by rw [List.map_map]; rfl
      rw [e]
      exact tp.sq
    · obtain ⟨mn, hmn, rfl⟩ := List.mem_map.mp hm
      have least : ∀ y ∈ rg, mn ≤ y := fun y hy => by
        have := le _ (List.mem_map.mpr ⟨y, hy, rfl⟩)
        omega
      have il : rg.idxOf mn < rg.length := List.idxOf_lt_length_of_mem hmn
      refine ⟨t, rg, mn, rfl, rfl, tp.sq, hmn, ?_⟩
      refine ⟨_, rfl, _, rfl, ?_⟩
      dsimp only [L2.tNoPart]
      refine ⟨_, rfl, slFrom tp (Nat.le_of_lt il) fun b H1 s1 eb => ?_⟩
      refine ⟨_, rfl, ?_⟩
      dsimp only [L2.tNoPart]
      refine ⟨_, rfl, _, rfl, slTo (tp.same s1) (Nat.le_of_lt il) fun c H2 s2 ec => ?_⟩
      refine catTT (eb.same s2) ec (by rw [List.length_drop, List.length_take]; omega) fun d H3 s3 ed => ?_
      exact q d H3 mn hmn least ((s1.trans s2).trans s3) ed
end
end K14
set_option maxHeartbeats 4000000
/-! sorted(xs), xs a list of tuples of ints, each of any length from 1 on, any number of them -/
namespace SrtI
open PySem PySem.Spec PyProof.Rows SrtO
/-- by the first unlike number, else the shorter one -/
def lexL : List Int → List Int → Bool
  | [], [] => false
  | [], _ :: _ => true
  | _ :: _, [] => false
  | x :: s, y :: t => if x = y then lexL s t else decide (x < y)
def lexF (fin : Bool) : List Int → List Int → Bool
  | [], _ => fin
  | _ :: _, [] => fin
  | x :: s, y :: t => if x = y then lexF fin s t else decide (x < y)
theorem lexF_L : ∀ (s t : List Int), lexF (decide (s.length < t.length)) s t = lexL s t
  | [], [] => by simp [lexF, lexL]
  | [], _ :: _ => by simp [lexF, lexL]
  | _ :: _, [] => by simp [lexF, lexL]
  | x :: s, y :: t => by
    have h := lexF_L s t
    have e : decide ((x :: s).length < (y :: t).length) = decide (s.length < t.length) := by simp
    rw [e]
    unfold lexF lexL
    rw [h]
theorem lexL_refl : ∀ s : List Int, lexL s s = false
  | [] => rfl
  | x :: s => by
    unfold lexL
    rw [if_pos rfl]
    exact lexL_refl s
theorem lexL_asym : ∀ s t : List Int, lexL s t = true → lexL t s = false
  | [], [], h => by cases h
  | [], _ :: _, _ => rfl
  | _ :: _, [], h => by cases h
  | x :: s, y :: t, h => by
    unfold lexL at h ⊢
    by_cases e : x = y
    · rw [if_pos e] at h
      rw [if_pos e.symm]
      exact lexL_asym s t h
    · rw [if_neg e] at h
      rw [if_neg fun z => e z.symm]
      have := of_decide_eq_true h
      exact decide_eq_false (by omega)
theorem lexL_tr : ∀ s t u : List Int, lexL t s = false → lexL u t = false → lexL u s = false
  | [], t, [], _, _ => rfl
  | [], t, _ :: _, _, _ => rfl
  | _ :: _, [], u, h1, h2 => by cases h1
  | _ :: _, _ :: _, [], h1, h2 => by cases h2
  | x :: s, y :: t, z :: u, h1, h2 => by
    unfold lexL at h1 h2 ⊢
    by_cases e1 : y = x
    · rw [if_pos e1] at h1
      by_cases e2 : z = y
      · rw [if_pos e2] at h2
        rw [if_pos (e2.trans e1)]
        exact lexL_tr s t u h1 h2
      · rw [if_neg e2] at h2
        rw [if_neg fun q => e2 (q.trans e1.symm)]
        have := of_decide_eq_false h2
        exact decide_eq_false (by omega)
    · rw [if_neg e1] at h1
      have a := of_decide_eq_false h1
      by_cases e2 : z = y
      · rw [if_pos e2] at h2
        rw [if_neg fun q => e1 (e2.symm.trans q)]
        exact decide_eq_false (by omega)
      · rw [if_neg e2] at h2
        have b := of_decide_eq_false h2
        rw [if_neg (by omega)]
        exact decide_eq_false (by omega)
theorem lexL_swo {α : Type} (k : α → List Int) : Swo fun v u => lexL (k v) (k u) := ⟨fun x y h => lexL_asym _ _ h, fun x y z h1 h2 => lexL_tr _ _ _ h1 h2⟩
section
variable {prog : Program} {w : World} {A : Around} {E : Value → Shared → Prop} {s : Shared}
def IsInts (h : Heap) (v : Value) (ns : List Int) : Prop := ∃ (a : Addr) (o : Obj) (its : Array Value) (n : Nat), v = .ref a ∧ h.get? a = some o ∧ o.cls = .type "tuple" ∧ o.data = .seq its n ∧ IntsAre its.toList ns
theorem IsInts.keeps {h h' : Heap} {v : Value} {ns : List Int} (p : IsInts h v ns) (k : ∀ b o, h.get? b = some o → o.cls = .type "tuple" → h'.get? b = some o) : IsInts h' v ns := by
  obtain ⟨a, o, its, n, e, ho, hc, hd, hi⟩ := p
  exact ⟨a, o, its, n, e, k _ _ ho hc, hc, hd, hi⟩
theorem kat_ints {b fin : Bool} {Q : Bool → Shared → Prop} {xs ys : List Value} {ns ms : List Int} (i : Nat) (hx : IntsAre xs ns) (hy : IntsAre ys ms) (h : Q (lexF fin ns ms) s) : PySem.W.KatLex prog w A b fin Q (xs.zip ys) i s := by
  induction hx generalizing ys ms i with
  | nil => exact PySem.W.kat_nil h
  | @cons p t xs ns hx ih =>
    cases hy with
    | nil => exact PySem.W.kat_nil h
    | @cons q u ys ms hy =>
      show PySem.W.KatLex prog w A b fin Q ((Value.int p t, Value.int q u) :: xs.zip ys) i s
      refine PySem.W.kat_cons (wpAny_eqBool_int ?_)
      unfold lexF at h
      by_cases e : p = q
      · rw [if_pos e] at h
        subst e
        rw [beq_self_eq_true]
        refine PySem.W.kat_yes ?_
        first
          | exact ih (i + 1) hy h
          | exact ih _ _ (i + 1) hy h
      · rw [if_neg e] at h
        rw [show (p == q) = false from beq_eq_false_iff_ne.mpr e]
        refine PySem.W.kat_no (TS.oneLt_ints _ ?_)
        exact h
theorem ints_cmp {vs : List Value} {k : Value → List Int} (hp : ∀ v ∈ vs, IsInts s.heap v (k v)) : Cmp prog w A s (tuples' true) (fun p => p.1 ∈ vs) (lt2 fun v u => lexL (k v) (k u)) := by
  intro p q hm hm'
  have h1 := hp _ hm
  have h2 := hp _ hm'
  show wpAny (model prog w) A (keyLt' (tuples' true) p.1 q.1) (fun r s' => s' = s ∧ r = lexL (k p.1) (k q.1)) (fun _ _ => False) s
  generalize k p.1 = x at h1 ⊢
  generalize k q.1 = x' at h2 ⊢
  obtain ⟨a, o, its, n, e, ho, hc, hd, hi⟩ := h1
  obtain ⟨a', o', its', n', e', ho', hc', hd', hi'⟩ := h2
  rw [e, e']
  refine PySem.W.kat_lt ho hd ho' hd' (kat_ints 0 hi hi' ⟨rfl, ?_⟩)
  rw [← lexF_L]
  congr 1
  have l1 : its.size = x.length := by rw [← hi.length]; simp
  have l2 : its'.size = x'.length := by rw [← hi'.length]; simp
  rw [l1, l2]
theorem firsts_of {h : Heap} {k : Value → List Int} : ∀ {vs : List Value}, (∀ v ∈ vs, IsInts h v (k v) ∧ 1 ≤ (k v).length) → ∃ fs : List Value, PySem.W.KatTups h vs fs ∧ fs.length = vs.length ∧ ∀ f ∈ fs, ∃ x t, f = Value.int x t
  | [], _ => ⟨[], PySem.W.KatTups.nil, rfl, fun _ hm => by simp at hm⟩
  | v :: vs, hp => by
    obtain ⟨fs, h1, h2, h3⟩ := firsts_of (vs := vs) fun v' hm => hp v' (List.mem_cons_of_mem _ hm)
    obtain ⟨⟨a, o, its, n, e, ho, hc, hd, hi⟩, hl⟩ := hp v (List.mem_cons_self ..)
    subst e
    generalize k (.ref a) = ns at hi hl
    obtain ⟨its⟩ := its
    have hi' : IntsAre its ns := hi
    cases hi' with
    | nil => simp at hl
    | @cons x t us ns hy =>
      refine ⟨.int x t :: fs, PySem.W.KatTups.cons ho hc hd rfl h1, by rw [List.length_cons, List.length_cons, h2], fun f hm => ?_⟩
      rcases List.mem_cons.mp hm with rfl | hm
      · exact ⟨x, t, rfl⟩
      · exact h3 f hm
theorem ints_sortableO {a : Addr} {vs : List Value} {k : Value → List Int} (h0 : 0 < vs.length) (hp : ∀ v ∈ vs, IsInts s.heap v (k v) ∧ 1 ≤ (k v).length) (ha : ∀ o, s.heap.get? a = some o → o.cls ≠ .type "tuple") : SortableO prog w A s a vs fun v u => lexL (k v) (k u) := by
  intro h' keep
  have hp' : ∀ v ∈ vs, IsInts h' v (k v) ∧ 1 ≤ (k v).length := fun v hm => ⟨(hp v hm).1.keeps fun b o e c => keep b o (fun z => by subst z; exact ha o e c) e, (hp v hm).2⟩
  obtain ⟨fs, h1, h2, h3⟩ := firsts_of hp'
  refine ⟨tuples' true, fun Q E hq => ?_, ints_cmp fun v hm => (hp' v hm).1⟩
  refine PySem.W.kat_kind (T := .type "int") h1 (by omega) (fun f hm => ?_) (by rfl) ?_
  · obtain ⟨x, t, rfl⟩ := h3 f hm
    exact PySem.W.Looks.now
  · have e : (Value.type "int" != Value.type "tuple") = true := by first | decide +kernel | rfl | decide
    rw [e]
    exact hq
theorem sorted_intsO {l : Addr} {vs : List Value} {k : Value → List Int} {Q : Value → Shared → Prop} (hl : s.heap.IsList l vs.toArray) (hz : vs.length ≤ sizeLine) (hp : ∀ v ∈ vs, IsInts s.heap v (k v) ∧ 1 ≤ (k v).length)
    (h : ∀ (h' : Heap) (d : Addr) (out : List Value), Srtd (fun v u => lexL (k v) (k u)) out → Stb (fun v u => lexL (k v) (k u)) out vs → (∀ b o, s.heap.get? b = some o → h'.get? b = some o) → s.heap.objs.size ≤ d → (∃ n, h'.get? d = some (seqObj "list" out.toArray n)) → Q (.ref d) { s with heap := h' }) :
    wpAny (model prog w) A (call (.builtin "sorted") [.ref l]) Q E s := by
  refine sorted_ord (lexL_swo k) hl hz (fun h2 h₁ a ha kk => ?_) fun out hs hb => ?_
  · refine ints_sortableO (s := { s with heap := h₁ }) (by omega) (fun v hm => ⟨(hp v hm).1.keeps fun b o e _ => (kk b o e).2, (hp v hm).2⟩) fun o e => ?_
    have e' : some o = some (seqObj "list" vs.toArray 0) := e.symm.trans ha
    cases e'
    intro c
    exact absurd (Value.type.inj c) (by decide)
  · exact h _ _ out hs hb (fun b o e => sortedAll_old e) (Nat.le_succ _) (sortedAll_at s.heap vs out.toArray)
end
end SrtI
namespace L2
open PySem PySem.Spec PyProof.Rows
abbrev ltI (k : V → List Int) (x y : V) : Bool := SrtI.lexL (k x) (k y)
/-- sorted(xs), xs a list of tuples of ints, each with one or more (k says which): a new list, sorted, equal ones in their order -/
def rSortedI (K : PySem.W.Frag) : List V → Hp → VK → Prop := fun vs H Q => ∃ (a : Addr) (xs : List V) (k : V → List Int), vs = [V.ref a] ∧ SqL K H a xs ∧ (∀ x ∈ xs, ∃ t, x = V.ref t ∧ SqT K H t ((k x).map V.int) ∧ 1 ≤ (k x).length) ∧
  ∀ ys p, SrtO.Srtd (ltI k) ys → SrtO.Stb (ltI k) ys xs → H p = none → Q (.ref p) (upd H p (.lst ys))
section
variable {X : Cx}
theorem cr_sortedI : CallR X (.builtin "sorted") (rSortedI X.K) := by
  intro pins s σ H vs us Q I r h
  obtain ⟨a, xs, k, rfl, hs, hx, q⟩ := h
  obtain ⟨its, rv, hl, hz⟩ := I.list hs
  obtain ⟨u, rfl, ru⟩ := vals1 r
  obtain rfl : u = Value.ref a := ru
  obtain ⟨e1, e2⟩ := refs_back rv fun x m => by
    obtain ⟨t, e, _⟩ := hx x m
    exact ⟨t, e⟩
  refine SrtI.sorted_intsO (k := fun u => k (backV u)) hl.isList (by rw [← rv.length]; exact hz) (fun v hv => ?_) fun h' d out h1 h2 kp hd hn => ?_
  · obtain ⟨t, rfl⟩ := e2 v hv
    have hm : V.ref t ∈ xs := by rw [e1]; exact List.mem_map.mpr ⟨_, hv, rfl⟩
    obtain ⟨t', e, ht, h1⟩ := hx _ hm
    cases e
    obtain ⟨its2, r2, ⟨o, ho, hc, n, hd⟩, _⟩ := I.tuple ht
    exact ⟨⟨t, o, its2.toArray, n, rfl, ho, hc, hd, (by show IntsAre its2.toArray.toList (k (V.ref t)); simpa using intsAre_of r2)⟩, h1⟩
  · have h3 : ∀ u ∈ out, ∃ a, u = Value.ref a := fun u hu => e2 u (h2.perm.mem_iff.mp hu)
    obtain ⟨n, hn⟩ := hn
    have hb : SrtO.Stb (ltI k) (out.map backV) xs := by
      rw [e1]
      exact SrtO.Stb.map (SrtI.lexL_swo k) backV h2
    refine ⟨.ref d, upd H d (.lst (out.map backV)), I.laid (t' := s.toks) kp hd ⟨?_, out, n, vals_back h3, hn⟩, rfl, q _ d (SrtO.srtd_map h1) hb (I.hok.fresh hd)⟩
    rw [hb.len]
    exact hz
end
end L2
namespace K14
open PySem PySem.Spec PyProof.Rows L2
theorem permOf {α : Type} [DecidableEq α] : ∀ {L L' : List α}, L.Nodup → L'.Nodup → (∀ x, x ∈ L ↔ x ∈ L') → L.Perm L'
  | [], L', _, _, h => by
    cases L' with
    | nil => exact .nil
    | cons a t => exact absurd ((h a).mpr (by simp)) (by simp)
  | a :: t, L', n1, n2, h => by
    have ha : a ∈ L' := (h a).mp (by simp)
    have nt := List.nodup_cons.mp n1
    refine ((permOf nt.2 (n2.erase a) fun x => ?_).cons a).trans (List.perm_cons_erase ha).symm
    rw [n2.mem_erase_iff]
    constructor
    · intro hx
      exact ⟨fun e => nt.1 (e ▸ hx), (h x).mp (by simp [hx])⟩
    · rintro ⟨ne, hx⟩
      rcases List.mem_cons.mp ((h x).mpr hx) with e | e
      · exact absurd e ne
      · exact e
/-! ### a sorted list of rows -/
def vInt : V → Int
  | .int i => i
  | _ => 0
def rowI (H : Hp) (x : V) : List Int := match x with
  | .ref t => match H t with
    | some (.tup vs) => vs.map vInt
    | some (.frz _ (.tup vs)) => vs.map vInt
    | _ => []
  | _ => []
def nInts (s : List Nat) : List Int := s.map fun j => ((j : Nat) : Int)
theorem nInts_inj {s t : List Nat} (h : nInts s = nInts t) : s = t := by
  have := congrArg (List.map Int.toNat) h
  unfold nInts at this
  rw [List.map_map, List.map_map] at this
  have e : (Int.toNat ∘ fun j : Nat => (j : Int)) = id := by
    funext j
    simp
  rw [e, List.map_id, List.map_id] at this
  exact this
theorem rowI_at {H : Hp} {t : Addr} {s : List Nat} (e : Tp H t (VI s)) : rowI H (.ref t) = nInts s := by
  have m : (VI s).map vInt = nInts s := by
    unfold VI nInts
    rw [List.map_map]
    rfl
  rcases e with e | ⟨o, _, _, e⟩
  · unfold rowI
    simp only [e, m]
  · unfold rowI
    simp only [e, m]
theorem lexL_eq : ∀ {s t : List Int}, SrtI.lexL s t = false → SrtI.lexL t s = false → s = t
  | [], [], _, _ => rfl
  | [], _ :: _, h, _ => by cases h
  | _ :: _, [], _, h => by cases h
  | x :: s, y :: t, h1, h2 => by
    unfold SrtI.lexL at h1 h2
    by_cases e : x = y
    · rw [if_pos e] at h1
      rw [if_pos e.symm] at h2
      rw [e, lexL_eq h1 h2]
    · rw [if_neg e] at h1
      rw [if_neg fun z => e z.symm] at h2
      have a := of_decide_eq_false h1
      have b := of_decide_eq_false h2
      omega
theorem lex_head {s t : List Nat} (hs : 1 ≤ s.length) (ht : 1 ≤ t.length) (h : s.headD 0 < t.headD 0) : SrtI.lexL (nInts t) (nInts s) = false := by
  cases s with
  | nil => simp at hs
  | cons a s =>
    cases t with
    | nil => simp at ht
    | cons b t =>
      have h' : a < b := h
      show (if (b : Int) = (a : Int) then _ else decide ((b : Int) < (a : Int))) = false
      rw [if_neg (by omega)]
      exact decide_eq_false (by omega)
theorem refs_all {ys : List V} {us : List Addr} (pys : ys.Perm (us.map V.ref)) : ∃ us' : List Addr, ys = us'.map V.ref := by
  have all : ∀ y ∈ ys, ∃ u, y = V.ref u := fun y hy => by
    obtain ⟨u, _, rfl⟩ := List.mem_map.mp (pys.mem_iff.mp hy)
    exact ⟨u, rfl⟩
  clear pys
  induction ys with
  | nil => exact ⟨[], rfl⟩
  | cons y r ih =>
    obtain ⟨u, rfl⟩ := all y (by simp)
    obtain ⟨w, hw⟩ := ih fun z hz => all z (by simp [hz])
    exact ⟨u :: w, by rw [hw]; rfl⟩
theorem Rws.at {H : Hp} {us : List Addr} {R : List (List Nat)} (t : Rws H us R) {j : Nat} {x : V} (h : (us.map V.ref)[j]? = some x) : ∃ u r, x = .ref u ∧ R[j]? = some r ∧ Tp H u (VI r) := by
  rw [List.getElem?_map] at h
  cases e : us[j]? with
  | none => rw [e] at h; cases h
  | some u =>
    rw [e] at h
    cases h
    have hl := (List.getElem?_eq_some_iff.mp e).1
    have hr : j < R.length := by rw [← t.1]; exact hl
    exact ⟨u, R[j], rfl, List.getElem?_eq_getElem hr, t.2 j u _ e (List.getElem?_eq_getElem hr)⟩
theorem sort_rowsP {K : PySem.W.Frag} {H : Hp} {a : Addr} {us : List Addr} {R R' : List (List Nat)} {Q : VK} (e : H a = some (.lst (us.map V.ref))) (t : Rws H us R) (pm : R'.Perm R) (asc : R'.Pairwise fun x y => SrtI.lexL (nInts y) (nInts x) = false) (ne : ∀ r ∈ R, 1 ≤ r.length)
    (q : ∀ us' p, H p = none → Rws H us' R' → Q (.ref p) (upd H p (.lst (us'.map V.ref)))) : rSortedI K [.ref a] H Q := by
  refine ⟨a, us.map V.ref, rowI H, rfl, SqL.of e, fun x hx => ?_, fun ys p so st np => ?_⟩
  · obtain ⟨j, hj, ej⟩ := List.mem_iff_getElem.mp hx
    obtain ⟨u, r, rfl, er, eu⟩ := t.at (by rw [List.getElem?_eq_getElem hj, ej])
    refine ⟨u, rfl, ?_, ?_⟩
    · rw [rowI_at eu]
      unfold nInts
      rw [List.map_map]
      exact eu.sq
    · rw [rowI_at eu]
      unfold nInts
      rw [List.length_map]
      exact ne r (List.mem_of_getElem? er)
  · have pys := st.perm
    obtain ⟨us', rfl⟩ := refs_all pys
    have c0 : (us.map V.ref).map (rowI H) = R.map nInts := by
      apply List.ext_getElem?
      intro j
      rw [List.getElem?_map, List.getElem?_map, List.getElem?_map]
      have tl := t.1
      by_cases c : j < us.length
      · have ex : (us.map V.ref)[j]? = some (.ref us[j]) := by rw [List.getElem?_map, List.getElem?_eq_getElem c]; rfl
        obtain ⟨u, r, eu0, er, eu⟩ := t.at ex
        cases eu0
        rw [er, List.getElem?_eq_getElem c]
        show some (rowI H (.ref us[j])) = _
        rw [rowI_at eu]
        rfl
      · rw [List.getElem?_eq_none (by omega), List.getElem?_eq_none (by omega)]
        rfl
    have c1 : ((us'.map V.ref).map (rowI H)).Perm (R'.map nInts) := by
      refine (pys.map (rowI H)).trans ?_
      rw [c0]
      exact (pm.map _).symm
    have c2 : (us'.map V.ref).map (rowI H) = R'.map nInts := by
      refine List.Perm.eq_of_pairwise (le := fun x y => SrtI.lexL y x = false) (fun x y _ _ h1 h2 => lexL_eq h2 h1) ?_ ?_ c1
      · exact List.pairwise_map.mpr so
      · exact List.pairwise_map.mpr asc
    refine q us' p np ⟨?_, fun j u r e1 e2 => ?_⟩
    · have := congrArg List.length c2
      simpa using this
    · have hu : V.ref u ∈ us.map V.ref := pys.mem_iff.mp (List.mem_map.mpr ⟨u, List.mem_of_getElem? e1, rfl⟩)
      obtain ⟨i, hi, ei⟩ := List.mem_iff_getElem.mp hu
      obtain ⟨u2, r2, eu2, er2, eu3⟩ := t.at (show (us.map V.ref)[i]? = some (V.ref u) by rw [List.getElem?_eq_getElem hi, ei])
      cases eu2
      have h2 : ((us'.map V.ref).map (rowI H))[j]? = some (rowI H (.ref u)) := by rw [List.getElem?_map, List.getElem?_map, e1]; rfl
      rw [c2, List.getElem?_map, e2, rowI_at eu3] at h2
      have h3 : nInts r = nInts r2 := Option.some.inj h2
      rw [nInts_inj h3]
      exact eu3
theorem sort_rows {K : PySem.W.Frag} {H : Hp} {a : Addr} {us : List Addr} {R R' : List (List Nat)} {Q : VK} (e : H a = some (.lst (us.map V.ref))) (t : Rws H us R) (pm : R'.Perm R) (asc : R'.Pairwise fun x y => x.headD 0 < y.headD 0) (ne : ∀ r ∈ R, 1 ≤ r.length)
    (q : ∀ us' p, H p = none → Rws H us' R' → Q (.ref p) (upd H p (.lst (us'.map V.ref)))) : rSortedI K [.ref a] H Q :=
  sort_rowsP e t pm (asc.imp_of_mem fun {x y} hx hy h => lex_head (ne x (pm.mem_iff.mp hx)) (ne y (pm.mem_iff.mp hy)) h) ne q
/-! ### a dict of numbers by numbers -/
def kvf (x : Nat × Nat) : Key × V := (Sum.inl (x.1 : Int), V.int (x.2 : Nat))
def kvO (L : List (Nat × Nat)) : List (Key × V) := L.map kvf
def getO (L : List (Nat × Nat)) (o : Nat) : Option Nat := (L.find? fun x => decide (x.1 = o)).map Prod.snd
theorem kvO_val {o : Nat} : ∀ (L : List (Nat × Nat)), valV (kvO L) (Sum.inl (o : Int)) = (getO L o).map fun j => V.int (j : Nat)
  | [] => rfl
  | x :: t => by
    show valV (kvf x :: kvO t) _ = _
    by_cases c : x.1 = o
    · rw [valV_pos (by show (Sum.inl (x.1 : Int) : Key) = _; rw [c])]
      unfold getO
      rw [List.find?_cons_of_pos (by simpa using c)]
      rfl
    · rw [valV_neg (fun z => c (by have := Sum.inl.inj z; omega))]
      rw [kvO_val t]
      unfold getO
      rw [List.find?_cons_of_neg (by simpa using c)]
theorem getO_none {L : List (Nat × Nat)} {o : Nat} : getO L o = none ↔ o ∉ L.map Prod.fst := by
  unfold getO
  rw [Option.map_eq_none_iff, List.find?_eq_none]
  constructor
  · intro h z
    obtain ⟨x, hx, e⟩ := List.mem_map.mp z
    exact h x hx (by simpa using e)
  · intro h x hx z
    exact h (List.mem_map.mpr ⟨x, hx, by simpa using z⟩)
theorem getO_mem {L : List (Nat × Nat)} {o v : Nat} (h : getO L o = some v) : (o, v) ∈ L := by
  unfold getO at h
  obtain ⟨x, h1, rfl⟩ := Option.map_eq_some_iff.mp h
  have h2 := List.find?_some h1
  have h3 : x.1 = o := by simpa using h2
  rw [← h3]
  exact List.mem_of_find?_eq_some h1
theorem kvO_any {o : Nat} (L : List (Nat × Nat)) : ((kvO L).any fun kv => decide (kv.1 = Sum.inl (o : Int))) = L.any fun x => decide (x.1 = o) := by
  unfold kvO
  rw [List.any_map]
  congr 1
  funext x
  show decide ((Sum.inl (x.1 : Int) : Key) = Sum.inl (o : Int)) = _
  rw [decide_eq_decide]
  constructor
  · intro z
    have := Sum.inl.inj z
    omega
  · intro z
    rw [z]
theorem kvO_put {o p : Nat} {L : List (Nat × Nat)} (h : o ∉ L.map Prod.fst) : putK (kvO L) (Sum.inl (o : Int)) (.int (p : Nat)) = kvO (L ++ [(o, p)]) := by
  unfold putK
  rw [kvO_any]
  rw [if_neg]
  · unfold kvO
    rw [List.map_append]
    rfl
  · intro z
    obtain ⟨x, hx, e⟩ := List.any_eq_true.mp z
    exact h (List.mem_map.mpr ⟨x, hx, by simpa using e⟩)
theorem Tp.ne_of {H : Hp} {a p : Addr} {xs : List V} {o : HO} (t : Tp H a xs) (e : H p = some o) (n1 : ∀ ys, o ≠ .tup ys) (n2 : ∀ u ys, o ≠ .frz u (.tup ys)) : a ≠ p := fun z => by
  subst z
  rcases t with e2 | ⟨u, _, _, e2⟩
  · rw [e] at e2
    exact n1 _ (Option.some.inj e2)
  · rw [e] at e2
    exact n2 _ _ (Option.some.inj e2)
theorem Rws.put {H : Hp} {us : List Addr} {R : List (List Nat)} {p : Addr} {o o' : HO} (t : Rws H us R) (e : H p = some o) (n1 : ∀ ys, o ≠ .tup ys) (n2 : ∀ u ys, o ≠ .frz u (.tup ys)) : Rws (upd H p o') us R :=
  ⟨t.1, fun i a s e1 e2 => (t.2 i a s e1 e2).put ((t.2 i a s e1 e2).ne_of e n1 n2)⟩
theorem Rws.snoc {H : Hp} {us : List Addr} {R : List (List Nat)} {u : Addr} {r : List Nat} (t : Rws H us R) (e : Tp H u (VI r)) : Rws H (us ++ [u]) (R ++ [r]) := by
  refine ⟨by rw [List.length_append, List.length_append, t.1]; rfl, fun i a s e1 e2 => ?_⟩
  by_cases c : i < us.length
  · rw [List.getElem?_append_left c] at e1
    rw [List.getElem?_append_left (by rw [← t.1]; exact c)] at e2
    exact t.2 i a s e1 e2
  · rw [List.getElem?_append_right (by omega)] at e1
    rw [List.getElem?_append_right (by have := t.1; omega)] at e2
    have h1 : i - us.length = 0 := by
      have := (List.getElem?_eq_some_iff.mp e1).1
      simp at this
      omega
    have h2 : i - R.length = 0 := by have := t.1; omega
    rw [h1] at e1
    rw [h2] at e2
    cases e1
    cases e2
    exact e
end K14
namespace K14
open PySem PySem.Spec PyProof.Rows L2
theorem roomU {k : Nat} {A : Around} (r : Room k A) : A.units + 1 < cLine := by
  have := r.units
  omega
def spAllRings : Sp := fun vs H Q _ => ∃ (b : Addr) (bs : List (Option Nat)), vs = [.ref b] ∧ H b = some (.lst (VH bs)) ∧ bs.length ≤ 100 ∧ Clo bs ∧ ∀ r H', Same H H' → LT H' r (ringsA bs) → Q (.ref r) H'
theorem scAllRings : FnScope ["behind", "rings", "met", "first", "person"] ["behind"] (defScope sAllRings) := ⟨rfl, rfl, rfl, by decide +kernel, rfl, by decide +kernel, by decide +kernel⟩
/-- the person on the way, or nobody -/
def pvV (n c : Nat) : V := if c < n then .int (c : Nat) else .non
theorem pvV_lt {n c : Nat} (h : c < n) : pvV n c = .int (c : Nat) := if_pos h
theorem pvV_ge {n c : Nat} (h : ¬ c < n) : pvV n c = .non := if_neg h
theorem hv_pv {bs : List (Option Nat)} (cl : Clo bs) (p : Nat) : hv (ha bs p) = pvV bs.length (gB bs p) := by
  unfold gB
  cases e : ha bs p with
  | none => rw [pvV_ge (by show ¬ bs.length < bs.length; omega)]; rfl
  | some q => rw [pvV_lt (by exact cl p q e)]; rfl
/-- what holds of the met ones -/
structure LMet (bs : List (Option Nat)) (L : List (Nat × Nat)) (i : Nat) : Prop where
  nd : (L.map Prod.fst).Nodup
  lt : ∀ x, x ∈ L → x.2 < i
  old : ∀ p, p < i → p ∈ L.map Prod.fst
/-- the dict while somebody walks -/
def wL (bs : List (Option Nat)) (L : List (Nat × Nat)) (i j : Nat) : List (Nat × Nat) := L ++ (ringL (gB bs) i j).map fun x => (x, i)
theorem wL_keys {bs : List (Option Nat)} {L : List (Nat × Nat)} {i j : Nat} : (wL bs L i j).map Prod.fst = L.map Prod.fst ++ ringL (gB bs) i j := by
  unfold wL
  rw [List.map_append, List.map_map]
  congr 1
  conv => rhs; rw [← List.map_id (ringL (gB bs) i j)]
  exact List.map_congr_left fun _ _ => rfl
theorem wL_succ {bs : List (Option Nat)} {L : List (Nat × Nat)} {i j : Nat} : wL bs L i (j + 1) = wL bs L i j ++ [(it (gB bs) j i, i)] := by
  unfold wL
  rw [ringL_succ, List.map_append, List.append_assoc]
  rfl
theorem wL_with {bs : List (Option Nat)} {L : List (Nat × Nat)} {i j : Nat} : (fun x => x ∈ (wL bs L i j).map Prod.fst) = With bs (fun x => x ∈ L.map Prod.fst) i j := by
  funext x
  apply propext
  show x ∈ (wL bs L i j).map Prod.fst ↔ _
  rw [wL_keys, List.mem_append, ringL_mem]
  exact Iff.rfl
theorem wL_nd {bs : List (Option Nat)} {L : List (Nat × Nat)} {i j : Nat} (nd : (L.map Prod.fst).Nodup) (W : Way9 bs (fun x => x ∈ L.map Prod.fst) i j) : ((wL bs L i j).map Prod.fst).Nodup := by
  rw [wL_keys]
  refine List.nodup_append.mpr ⟨nd, ?_, fun a ha b hb => ?_⟩
  · refine List.pairwise_map.mpr (List.Pairwise.imp_of_mem ?_ (List.pairwise_lt_range (n := j)))
    intro a b _ hb lt
    exact W.nd a b lt (List.mem_range.mp hb)
  · rintro rfl
    obtain ⟨k, hk, rfl⟩ := ringL_mem.mp hb
    exact W.new k hk ha
theorem wL_le {bs : List (Option Nat)} {L : List (Nat × Nat)} {i j : Nat} (ll : ∀ x, x ∈ L.map Prod.fst → x < bs.length) (nd : (L.map Prod.fst).Nodup) (W : Way9 bs (fun x => x ∈ L.map Prod.fst) i j) : (wL bs L i j).length ≤ bs.length ∧ j ≤ bs.length := by
  have h := nodup_sub_len (wL_nd nd W) (t := List.range bs.length) fun x hx => by
    rw [wL_keys, List.mem_append] at hx
    refine List.mem_range.mpr ?_
    rcases hx with hx | hx
    · exact ll x hx
    · obtain ⟨k, hk, rfl⟩ := ringL_mem.mp hx
      exact W.lt k hk
  rw [List.length_map, List.length_range] at h
  refine ⟨h, ?_⟩
  unfold wL at h
  rw [List.length_append, List.length_map, ringL_len] at h
  omega
/-- the walk goes on -/
theorem Way9.more {bs : List (Option Nat)} {T : Nat → Prop} {i j : Nat} (W : Way9 bs T i j) (lt : it (gB bs) j i < bs.length) (n : ¬ With bs T i j (it (gB bs) j i)) : Way9 bs T i (j + 1) where
  lt := fun k hk => by
    by_cases c : k < j
    · exact W.lt k c
    · rw [show k = j by omega]; exact lt
  new := fun k hk => by
    by_cases c : k < j
    · exact W.new k c
    · rw [show k = j by omega]; exact fun z => n (.inl z)
  nd := fun a k ak hk => by
    by_cases c : k < j
    · exact W.nd a k ak c
    · rw [show k = j by omega] at ak ⊢
      exact fun z => n (.inr ⟨a, ak, z⟩)
theorem walk0 {bs : List (Option Nat)} {T : Nat → Prop} {i : Nat} : Way9 bs T i 0 := ⟨fun _ h => absurd h (Nat.not_lt_zero _), fun _ h => absurd h (Nat.not_lt_zero _), fun _ _ _ h => absurd h (Nat.not_lt_zero _)⟩
/-- all that stands at a turn -/
structure Turn9 (bs : List (Option Nat)) (H H' : Hp) (D1 D2 : Addr) (us : List Addr) (Rr : List (List Nat)) (L : List (Nat × Nat)) : Prop where
  sm : Same H H'
  e1 : H' D1 = some (.lst (us.map V.ref))
  e2 : H' D2 = some (.dK (kvO L))
  n1 : H D1 = none
  n2 : H D2 = none
  rw' : Rws H' us Rr
theorem Turn9.ne {bs : List (Option Nat)} {H H' : Hp} {D1 D2 : Addr} {us : List Addr} {Rr : List (List Nat)} {L : List (Nat × Nat)} (t : Turn9 bs H H' D1 D2 us Rr L) : D1 ≠ D2 := fun z => by
  have a := t.e1
  rw [z, t.e2] at a
  cases a
theorem Turn9.same {bs : List (Option Nat)} {H H1 H2 : Hp} {D1 D2 : Addr} {us : List Addr} {Rr : List (List Nat)} {L : List (Nat × Nat)} (t : Turn9 bs H H1 D1 D2 us Rr L) (s : Same H1 H2) : Turn9 bs H H2 D1 D2 us Rr L :=
  ⟨t.sm.trans s, s _ _ t.e1, s _ _ t.e2, t.n1, t.n2, t.rw'.same s⟩
section
variable {P : Program} {w : World} {K : PySem.W.Frag} {mg : Str → Option Value} {base : Heap}
set_option maxHeartbeats 1000000 in
theorem ok_all_rings {f f1 f2 : Addr} {fd d1 d2 : FuncData} {k : Nat} (F : Fun K "all_rings" "all_rings" sAllRings f fd)
    (Rf : Has P w K mg base k "ring_from" ["behind", "person"] spRingFrom f1 d1) (Fl : Has P w K mg base k "from_least" ["ring"] spFromLeast f2 d2)
    (ml : mg "len" = none) (mrg : mg "range" = none) (mt : mg "tuple" = none) (mso : mg "sorted" = none) : FnOk P w K mg base CX0 (k + 1) f fd ["behind"] spAllRings := by
  refine F.ok scAllRings (fun vs H Q E h => ?_) (fun cdv A outer s H vs Q E hr h => ?_)
  · obtain ⟨b, bs, rfl, _⟩ := h
    rfl
  · obtain ⟨b, bs, rfl, eb, n100, cl, q⟩ := h
    refine ⟨_, pss_cons (ps_set (i := 1) scAllRings.nd rfl (.inl rfl) (pe_lst pa_nil))
      (pss_cons (ps_set (i := 2) scAllRings.nd rfl (.inl rfl) pe_dnewK)
      (pss_cons (ps_for PassesOwn.never rfl (pi_range1 rfl mrg (pa_cons (pe_callB call_len_seq (by rfl) ml PySem.boot_len (pa_cons (pv 0) pa_nil)) pa_nil)) (pg_name (i := 3) scAllRings.nd rfl (.inl rfl))
        (pss_cons (ps_set (i := 4) scAllRings.nd rfl (.inl rfl) (pv 3))
        (pss_cons (ps_while PassesOwn.never (PW.pt (pw_and (pt_cmpR op_notN (pv 4) pe_non (nomark _)) (pw_and1 (pt_cmp (pc_dnotin (roomU hr) (pv 4) (pv 2))))))
          (pss_cons (ps_asg (pv 3) (pg_sub (pv 2) (pv 4) (set_dict (roomU hr))))
          (pss_one (ps_set (i := 4) scAllRings.nd rfl (.inl rfl) (pe_ix ix_list (pv 0) (pv 4) (fun _ _ => rfl))))))
        (pss_one (ps_if (PW.pt (pw_and (pt_cmpR op_notN (pv 4) pe_non (nomark _)) (pw_and1 (pt_cmpR op_eq (pe_dget (roomU hr) (pv 2) (pv 4) (fun _ _ => rfl)) (pv 3) (nomark _)))))
          (pss_one (ps_expr (pe_bm PySem.F.plainAttrs_list PySem.F.slot_list_append PySem.F.type_list_append mt_append (pv 1) (pa_cons (pe_call Fl.ok hr rfl Fl.m Fl.k Fl.b .nil pass0 (pa_cons (pe_call Rf.ok hr rfl Rf.m Rf.k Rf.b .nil pass0 (pa_cons (pv 0) (pa_cons (pv 4) pa_nil))) pa_nil)) pa_nil)))) pss_nil)))))
      (pss_one (ps_ret (pe_callTy call_tuple_of (by rfl) mt (by decide +kernel) (pa_cons (pe_callB cr_sortedI (by rfl) mso (by decide +kernel) (pa_cons (pv 1) pa_nil)) pa_nil)))))), ?_⟩
    refine ⟨(by show 0 ≤ sizeLine; decide), fun D1 nD1 => gn ?_⟩
    refine fun D2 nD2 => gn ?_
    dsimp only [List.set, L2.start]
    have n12 : D1 ≠ D2 := ne_of_none upd_same nD2
    have nD2' : H D2 = none := by
      rw [upd_ne (Ne.symm n12)] at nD2
      exact nD2
    have t0 : Turn9 bs H (upd (upd H D1 (.lst [])) D2 (.dK [])) D1 D2 [] [] [] :=
      ⟨(same_rfl.fresh nD1).fresh nD2', by rw [upd_ne n12]; exact upd_same, upd_same, nD1, nD2', rfl, fun i a s e => by cases e⟩
    generalize upd (upd H D1 (.lst [])) D2 (.dK []) = G0 at t0
    refine ⟨_, rfl, b, _, rfl, .inl (SqL.of (t0.sm _ _ eb)), ?_⟩
    have vl : (VH bs).length = bs.length := by unfold VH; rw [List.length_map]
    rw [vl]
    refine ⟨_, rfl, by omega, by omega, for_it (J := Itr 0 bs.length) (n := bs.length) walk_range0 (fun i σ H' => ∃ (y3 y4 : Option V) (us : List Addr) (Rr : List (List Nat)) (L : List (Nat × Nat)), σ = [some (.ref b), some (.ref D1), some (.ref D2), y3, y4] ∧ Turn9 bs H H' D1 D2 us Rr L ∧ LMet bs L i ∧ Met bs (fun x => x ∈ L.map Prod.fst) Rr ∧ us.length ≤ i)
      ⟨none, none, [], [], [], rfl, t0, ⟨List.nodup_nil, by simp, fun p h => absurd h (Nat.not_lt_zero _)⟩, by simpa using Met.start, Nat.le_refl _⟩ (fun _ _ _ _ _ => trivial) ?_ ?_⟩
    · rintro i x σ H2 H3 hi ⟨y3, y4, us, Rr, L, rfl, t, lm, M, ul⟩ ⟨rfl, rfl⟩
      refine gn ?_
      refine ⟨_, rfl, gn ?_⟩
      dsimp only [List.set]
      -- the way from i on
      refine tw (fun d σ H' => ∃ j, σ = [some (.ref b), some (.ref D1), some (.ref D2), some (.int (i : Nat)), some (pvV bs.length (it (gB bs) j i))] ∧ Turn9 bs H H' D1 D2 us Rr (wL bs L i j) ∧ Way9 bs (fun x => x ∈ L.map Prod.fst) i j ∧ d = bs.length - j)
        (fun σ H' => ∃ j, σ = [some (.ref b), some (.ref D1), some (.ref D2), some (.int (i : Nat)), some (pvV bs.length (it (gB bs) j i))] ∧ Turn9 bs H H' D1 D2 us Rr (wL bs L i j) ∧ Way9 bs (fun x => x ∈ L.map Prod.fst) i j ∧ (it (gB bs) j i = bs.length ∨ With bs (fun x => x ∈ L.map Prod.fst) i j (it (gB bs) j i)))
        ⟨0, by rw [show it (gB bs) 0 i = i from rfl, pvV_lt hi], by unfold wL ringL; simpa using t, walk0, rfl⟩ ?_ (fun out => ?_)
      · -- behind the way
        rintro σ H' ⟨j, rfl, t', W, h⟩
        have jle := (wL_le M.lt lm.nd W).2
        have lnd := wL_nd lm.nd W
        -- what the test finds
        have lm' : LMet bs (wL bs L i j) (i + 1) := by
          refine ⟨lnd, fun x hx => ?_, fun p hp => ?_⟩
          · unfold wL at hx
            rcases List.mem_append.mp hx with hx | hx
            · have := lm.lt x hx
              omega
            · obtain ⟨y, _, rfl⟩ := List.mem_map.mp hx
              show i < i + 1
              omega
          · rw [wL_keys, List.mem_append]
            by_cases c : p < i
            · exact .inl (lm.old p c)
            · have e : p = i := by omega
              subst e
              by_cases c0 : j = 0
              · subst c0
                have h' : p = bs.length ∨ With bs (fun x => x ∈ L.map Prod.fst) p 0 p := h
                rcases h' with h' | h' | ⟨k, hk, _⟩
                · omega
                · exact .inl h'
                · omega
              · exact .inr (ringL_mem.mpr ⟨0, by omega, rfl⟩)
        refine ⟨_, rfl, rfl, _, rfl, ?_⟩
        by_cases c : it (gB bs) j i < bs.length
        · rw [pvV_lt c]
          refine iteT ?_
          have hw : With bs (fun x => x ∈ L.map Prod.fst) i j (it (gB bs) j i) := h.resolve_left (by omega)
          have hw' : it (gB bs) j i ∈ (wL bs L i j).map Prod.fst := by
            have := congrFun (wL_with (bs := bs) (L := L) (i := i) (j := j)) (it (gB bs) j i)
            rw [← this] at hw
            exact hw
          obtain ⟨v, hv'⟩ : ∃ v, getO (wL bs L i j) (it (gB bs) j i) = some v := by
            cases e : getO (wL bs L i j) (it (gB bs) j i) with
            | none => exact absurd hw' (getO_none.mp e)
            | some v => exact ⟨v, rfl⟩
          have gd : DGet H' D2 (.int ((it (gB bs) j i : Nat) : Int)) (some (.int (v : Nat))) := by
            have := DGet.k (k := Sum.inl ((it (gB bs) j i : Nat) : Int)) t'.e2
            rw [kvO_val, hv'] at this
            exact this
          refine ⟨_, rfl, _, rfl, D2, _, rfl, gd, _, rfl, rfl, _, rfl, ?_⟩
          have ed : decide (V.int (v : Nat) = V.int (i : Nat)) = decide (v = i) := by
            rw [decide_eq_decide]
            constructor
            · intro z
              have := V.int.inj z
              omega
            · intro z
              rw [z]
          rw [ed]
          by_cases cv : v = i
          · rw [decide_eq_true cv]
            refine iteT ?_
            subst cv
            -- a new one: a ring
            obtain ⟨a0, ha0, ea0⟩ : ∃ a0, a0 < j ∧ it (gB bs) a0 v = it (gB bs) j v := by
              have hm := getO_mem hv'
              unfold wL at hm
              rcases List.mem_append.mp hm with hm | hm
              · have := lm.lt _ hm
                simp at this
              · obtain ⟨y, hy, e⟩ := List.mem_map.mp hm
                obtain ⟨a0, h1, h2⟩ := ringL_mem.mp hy
                have : y = it (gB bs) j v := congrArg Prod.fst e
                exact ⟨a0, h1, by rw [h2, this]⟩
            -- the numbers of the ring
            have hmin := fun mn a am ea least => Met.one cl M W ha0 ea0.symm (mn := mn) (a := a) am ea least
            rw [← ea0]
            generalize hc : it (gB bs) a0 v = cc at hmin
            obtain ⟨mn0, hmn0, le0⟩ := min_ex id (ringL (gB bs) cc (j - a0)) (by intro z; have := congrArg List.length z; rw [ringL_len] at this; simp at this; omega)
            obtain ⟨a1, ha1, ea1⟩ := ringL_mem.mp hmn0
            have cyc := (hmin mn0 a1 ha1 ea1.symm (fun k hk => le0 _ (ringL_mem.mpr ⟨k, hk, rfl⟩))).1
            have cclt : cc < bs.length := by rw [← hc, ea0]; exact c
            have way := cyc_lt cl cclt cyc.one cyc.back
            refine ⟨_, rfl, .inl ⟨rfl, _, SqL.of t'.e1⟩, _, rfl, _, rfl, b, bs, gB bs, cc, j - a0, rfl, t'.sm _ _ eb, n100, by omega, by omega, cyc.back, cyc.least, fun k => ⟨way k, gB_way way k⟩, fun r1 H4 s4 ex4 => ?_⟩
            refine ⟨r1, _, rfl, ex4, by rw [ringL_len]; omega, by rw [ringL_len]; omega, fun r2 H5 mn hmn least s5 tp5 => ?_⟩
            have il : (ringL (gB bs) cc (j - a0)).idxOf mn < j - a0 := by
              have := List.idxOf_lt_length_of_mem hmn
              rw [ringL_len] at this
              exact this
            have ei : it (gB bs) ((ringL (gB bs) cc (j - a0)).idxOf mn) cc = mn := by
              have h1 := ringL_at (g := gB bs) (p := cc) il
              rw [List.getElem?_eq_getElem (by rw [ringL_len]; exact il), List.getElem_idxOf] at h1
              exact (Option.some.inj h1).symm
            have M2 := (hmin mn _ il ei.symm (fun k hk => least _ (ringL_mem.mpr ⟨k, hk, rfl⟩))).2
            rw [rot cyc.back il, ei] at tp5
            have t5 := (t'.same s4).same s5
            refine ⟨D1, _, _, rfl, rfl, t5.e1, by rw [List.length_map]; exact sz6 (by omega), ?_⟩
            refine ⟨_, _, us ++ [r2], Rr ++ [ringL (gB bs) mn (j - a0)], wL bs L v j, rfl, ?_, lm', ?_, by rw [List.length_append]; simp; omega⟩
            · refine ⟨t5.sm.fresh t5.n1, ?_, by rw [upd_ne (Ne.symm t5.ne)]; exact t5.e2, t5.n1, t5.n2, ?_⟩
              · rw [upd_same, List.map_append]
                rfl
              · exact (t5.rw'.put t5.e1 (fun _ z => by cases z) (fun _ _ z => by cases z)).snoc (tp5.put (tp5.ne_of t5.e1 (fun _ z => by cases z) (fun _ _ z => by cases z)))
            · rw [wL_with]
              exact M2
          · rw [decide_eq_false cv]
            refine iteF ?_
            refine ⟨_, _, us, Rr, wL bs L i j, rfl, t', lm', ?_, by omega⟩
            rw [wL_with]
            refine Met.none cl M W (.inr ?_)
            have hm := getO_mem hv'
            unfold wL at hm
            rcases List.mem_append.mp hm with hm | hm
            · exact List.mem_map.mpr ⟨_, hm, rfl⟩
            · obtain ⟨y, hy, e⟩ := List.mem_map.mp hm
              exact absurd (congrArg Prod.snd e).symm cv
        · rw [pvV_ge c]
          refine iteF (iteF ?_)
          refine ⟨_, _, us, Rr, wL bs L i j, rfl, t', lm', ?_, by omega⟩
          rw [wL_with]
          refine Met.none cl M W (.inl ?_)
          rcases h with h | h
          · exact h
          · exfalso
            rcases h with h | ⟨k, hk, e⟩
            · exact c (M.lt _ h)
            · rw [← e] at c
              exact c (W.lt k hk)
      · -- a step on the way
        rintro d σ H4 ⟨j, rfl, t', W, rfl⟩
        refine ⟨_, rfl, rfl, _, rfl, ?_⟩
        by_cases c : it (gB bs) j i < bs.length
        · rw [pvV_lt c]
          refine iteT ?_
          refine ⟨_, rfl, _, rfl, D2, _, rfl, DGet.k (k := Sum.inl ((it (gB bs) j i : Nat) : Int)) t'.e2, _, rfl, ?_⟩
          rw [kvO_val]
          by_cases cw : With bs (fun x => x ∈ L.map Prod.fst) i j (it (gB bs) j i)
          · have hw' : it (gB bs) j i ∈ (wL bs L i j).map Prod.fst := by
              have := congrFun (wL_with (bs := bs) (L := L) (i := i) (j := j)) (it (gB bs) j i)
              rw [← this] at cw
              exact cw
            cases e : getO (wL bs L i j) (it (gB bs) j i) with
            | none => exact absurd hw' (getO_none.mp e)
            | some v =>
              refine iteF (out _ _ ⟨j, ?_, t', W, .inr cw⟩)
              rw [pvV_lt c]
          · have hw' : it (gB bs) j i ∉ (wL bs L i j).map Prod.fst := fun z => cw (by
              have := congrFun (wL_with (bs := bs) (L := L) (i := i) (j := j)) (it (gB bs) j i)
              rw [← this]
              exact z)
            rw [getO_none.mpr hw']
            refine iteT ?_
            have W2 := W.more c cw
            have le2 := wL_le M.lt lm.nd W
            have jle := (wL_le M.lt lm.nd W2).2
            refine ⟨fun σ' H' => ∃ m', m' < bs.length - j ∧ ∃ j', σ' = [some (.ref b), some (.ref D1), some (.ref D2), some (.int (i : Nat)), some (pvV bs.length (it (gB bs) j' i))] ∧ Turn9 bs H H' D1 D2 us Rr (wL bs L i j') ∧ Way9 bs (fun x => x ∈ L.map Prod.fst) i j' ∧ m' = bs.length - j', fun _ _ h => h, ?_⟩
            refine ⟨_, rfl, _, rfl, _, rfl, D2, _, rfl, DPut.k (k := Sum.inl ((it (gB bs) j i : Nat) : Int)) t'.e2 (by unfold kvO; rw [List.length_map]; exact sz6 (by omega)), ?_⟩
            rw [kvO_put hw', ← wL_succ]
            have t2 : Turn9 bs H (upd H4 D2 (.dK (kvO (wL bs L i (j + 1))))) D1 D2 us Rr (wL bs L i (j + 1)) :=
              ⟨t'.sm.fresh t'.n2, by rw [upd_ne t'.ne]; exact t'.e1, upd_same, t'.n1, t'.n2, t'.rw'.put t'.e2 (fun _ z => by cases z) (fun _ _ z => by cases z)⟩
            generalize upd H4 D2 (.dK (kvO (wL bs L i (j + 1)))) = H5 at t2
            refine ⟨_, rfl, _, rfl, b, _, _, _, rfl, rfl, SqL.of (t2.sm _ _ eb), atI_nat (VH_get (ha_get c)), gn ?_⟩
            dsimp only [List.set]
            refine ⟨bs.length - (j + 1), by omega, j + 1, ?_, t2, W2, rfl⟩
            rw [hv_pv cl]
            rfl
        · rw [pvV_ge c]
          refine iteF (iteF (out _ _ ⟨j, ?_, t', W, .inl ?_⟩))
          · rw [pvV_ge c]
          · have : it (gB bs) j i ≤ bs.length := by
              cases j with
              | zero => exact Nat.le_of_lt hi
              | succ j => exact gB_le cl _
            omega
    · rintro σ H2 ⟨y3, y4, us, Rr, L, rfl, t, lm, M, ul⟩
      obtain ⟨h1, h2⟩ := Met.all M lm.old
      refine ⟨_, rfl, ?_⟩
      dsimp only [L2.tNil]
      refine sort_rows (R' := ringsA bs) t.e1 t.rw' (permOf h2 M.nd h1) (ringsA_asc bs) (fun r hr => ?_) fun us' p np rs => ?_
      · obtain ⟨p, m, _, _, cy, rfl⟩ := ringsA_one ((h1 r).mpr hr)
        rw [ringL_len]
        exact cy.one
      · refine ⟨p, _, rfl, .inl ⟨SqL.of upd_same, fun r nr => ?_⟩⟩
        have s1 : Same H2 (upd H2 p (.lst (us'.map V.ref))) := same_upd np
        refine q r _ ((t.sm.trans s1).trans (same_upd nr)) ⟨us', upd_same, ?_⟩
        exact (rs.same s1).same (same_upd nr)
end
end K14
set_option maxHeartbeats 4000000
/-! t * k of a tuple that is not empty, k from 1 on: t * 1 is t -/
namespace K14
open PySem PySem.Spec PyProof.Rows L2
theorem tup_mul1 (l : Addr) (items : Array Value) (n : Nat) (dd : Option Addr) (sl : Array (Option Value)) (u : Tok) :
    Meets (Builtin.«tuple.__mul__» ⟨[.ref l, .int 1 u], []⟩) (fun _ R s => s.heap.get? l = some { cls := .type "tuple", dict := dd, data := .seq items n, slots := sl } ∧ R (.ok (.ret (.ref l))) s) :=
  .of_wp fun prog w A R s h => by
    obtain ⟨hp, g, d, tk, os⟩ := s
    obtain ⟨hl, h⟩ := h
    have f1 := AutoSeq1.idx_int
    have hone : (items.isEmpty || (1 : Int) == 1) = true := by simp
    wp_walk using wpAny_loadPart' hl
    repeat (first
      | (refine wpAny_ite_false (decide_eq_false (by decide)) ?_; wp_walk using wpAny_loadPart' hl)
      | (refine wpAny_ite_true (by rw [hone]; rfl) ?_; wp_walk using wpAny_loadPart' hl)
      | (refine wpAny_ite_true (decide_eq_true hone) ?_; wp_walk using wpAny_loadPart' hl))
    exact ⟨_, rfl, h⟩
def rRepA (K : PySem.W.Frag) : R2 := fun x y H Q => (∃ l xs, x = .ref l ∧ y = .int 1 ∧ SqT K H l xs ∧ Q (.ref l) H) ∨ rRepT K x y H Q
theorem op_repA {X : Cx} : OpR X (binaryOp .Mult) (rRepA X.K) := by
  intro pins st σ H x y v u Q I rx ry h
  rcases h with ⟨l, xs, rfl, rfl, hT, q⟩ | h
  · cases rx
    obtain ⟨t, rfl⟩ := ry
    obtain ⟨its, r, ⟨⟨cls, dd, data, sl⟩, ho, hc, n, hd⟩, hs⟩ := I.tuple hT
    simp only at hc hd
    subst hc hd
    exact wpAny_binaryOp_repeat_ref (T := "tuple") (U := "int") (by decide) ⟨_, ho, rfl⟩ (fun s' => typeIs_int s' 1 t) noFill_tuple_mul F.fills_int_mul F.slot_int_rmul repeat_tuple F.slot_int_index.lookup
      (call_meets F.slot_int_rmul (typeIs_int st 1 t) F.entry_int_rmul (F.args_int_rmul_2 _ _) (int_rmul_tuple 1 t l its.toArray n dd sl)
        ⟨ho, rfl, ⟨_, ho, rfl⟩, call_meets F.slot_tuple_mul ⟨_, ho, rfl⟩ F.entry_tuple_mul (F.args_tuple_mul_2 _ _) (tup_mul1 l its.toArray n dd sl t) ⟨ho, ⟨.ref l, H, I, rfl, q⟩⟩⟩)
  · exact op_repT pins st σ H x y v u Q I rx ry h
end K14
namespace K14
open PySem PySem.Spec PyProof.Rows L2
theorem tupOf_same {H H' : Hp} {v : V} (p : Pl H v) (s : Same H H') : tupOf H' v = tupOf H v := by
  cases p with
  | non => rfl
  | bl b => rfl
  | int i => rfl
  | str z => rfl
  | lst e => simp [tupOf, e, s _ _ e]
  | tup e => simp [tupOf, e, s _ _ e]
theorem pl_VH {H : Hp} {hs : List (Option Nat)} : ∀ x ∈ VH hs, Pl H x := fun x hx => by
  obtain ⟨o, _, rfl⟩ := List.mem_map.mp hx
  cases o with
  | none => exact .non
  | some j => exact .int _
theorem catV {K : PySem.W.Frag} {H : Hp} {a b : Addr} {xs ys : List V} {Q : VK} (ea : H a = some (.tup xs)) (eb : H b = some (.tup ys)) (le : xs.length + ys.length ≤ 1000) (q : ∀ c H', Same H H' → H' c = some (.tup (xs ++ ys)) → Q (.ref c) H') : rCatA K (.ref a) (.ref b) H Q := by
  refine ⟨a, b, xs, ys, rfl, rfl, SqT.of ea, SqT.of eb, sz5 (by omega), fun h => ?_, fun _ h => ?_, fun _ _ p np => q p _ (same_upd np) upd_same⟩
  · subst h
    exact q b H same_rfl eb
  · subst h
    exact q a H same_rfl (by rw [List.append_nil]; exact ea)
theorem leftA_get {ls : List (List Nat)} {hs : List (Option Nat)} {p : Nat} (h : p < ls.length) : (leftA ls hs)[p]? = some (leftL ls hs p) := by
  unfold leftA
  rw [List.getElem?_map, List.getElem?_range h]
  rfl
theorem bstr_eq (b : Bool) : (!decide (V.str (if b then "True" else "False") = V.str (if b then "True" else "False"))) = false := by simp
theorem hv_inj {a b : Option Nat} (e : hv a = hv b) : a = b := by
  cases a with
  | none =>
    cases b with
    | none => rfl
    | some j => cases e
  | some i =>
    cases b with
    | none => cases e
    | some j =>
      have : ((i : Nat) : Int) = (j : Nat) := V.int.inj e
      congr 1
      omega
theorem VH_inj {a b : List (Option Nat)} (e : VH a = VH b) : a = b := by
  unfold VH at e
  exact List.map_inj_right (fun x y h => hv_inj h) |>.mp e
theorem holdsV_ok {H : Hp} {v : V} {ls : List (List Nat)} {hs : List (Option Nat)} (ho : HoldsOk ls hs) (ok : ListsOk ls.length ls) (e : tupOf H v = some (VH hs)) : holdsV H ls v = true := by
  unfold holdsV
  rw [e]
  show (decide ((VH hs).length = ls.length) && _) = true
  rw [Bool.and_eq_true, decide_eq_true_eq, List.all_eq_true]
  refine ⟨by rw [VH_len, ho.len], fun p hp => ?_⟩
  rw [List.mem_range, VH_len] at hp
  have eg : (VH hs).getD p .non = hv (ha hs p) := by
    rw [List.getD_eq_getElem?_getD, VH_get (ha_get hp)]
    rfl
  rw [eg]
  cases eh : ha hs p with
  | none => rfl
  | some j =>
    obtain ⟨h1, h2⟩ := ho.on p j eh
    have h3 := (ok.mate h1 h2).1
    show (decide ((0 : Int) ≤ (j : Nat)) && decide (((j : Nat) : Int) < (ls.length : Nat)) && decide (((j : Nat) : Int).toNat ∈ la ls p)) = true
    simp [h2, h3]
theorem eq_dH (hs : List (Option Nat)) : PyData.eqv (dH hs) (dH hs) = true := by
  refine SeqAt.eqv_refl _ ?_
  have := sh_dH hs
  unfold SeqAt.shaped at this
  rw [Bool.and_eq_true] at this
  exact this.1
def dLi (s : List Nat) : PyData := .list (s.map fun j => .int (j : Nat))
theorem sh_dLi (s : List Nat) : SeqAt.shaped (dLi s) = true := by
  have h := shaped_ints (s.map fun j => ((j : Nat) : Int))
  rw [List.map_map] at h
  exact h
theorem dp_dLi {K : PySem.W.Frag} {H : Hp} {a : Addr} {s : List Nat} (e : H a = some (.lst (VI s))) : Dp K H (.ref a) (dLi s) := by
  refine .lst (SqL.of e) ?_
  unfold VI
  clear e
  induction s with
  | nil => exact .nil
  | cons c r ih => exact .cons (.int _) ih
theorem eq_dLi (s : List Nat) : PyData.eqv (dLi s) (dLi s) = true := by
  refine SeqAt.eqv_refl _ ?_
  have := sh_dLi s
  unfold SeqAt.shaped at this
  rw [Bool.and_eq_true] at this
  exact this.1
theorem tup_its {H : Hp} {u : Addr} {hs : List (Option Nat)} (e : H u = some (.tup (VH hs))) (l : hs.length ≤ 100) : ∀ xs, tupOf H (.ref u) = some xs → xs.length ≤ 1000 ∧ ∀ x ∈ xs, Pl H x := fun xs ex => by
  have tu : tupOf H (.ref u) = some (VH hs) := by simp [tupOf, e]
  rw [tu] at ex
  cases ex
  exact ⟨by rw [VH_len]; omega, fun x hx => pl_VH x hx⟩
theorem holds_yes {H : Hp} {u : Addr} {ls : List (List Nat)} {hs : List (Option Nat)} (e : H u = some (.tup (VH hs))) (ho : HoldsOk ls hs) (ok : ListsOk ls.length ls) : holdsV H ls (.ref u) = true := holdsV_ok ho ok (by simp [tupOf, e])
theorem same_hs {H : Hp} {u : Addr} {hs hs' : List (Option Nat)} (e : H u = some (.tup (VH hs))) (e2 : tupOf H (.ref u) = some (VH hs')) : hs' = hs := by
  have tu : tupOf H (.ref u) = some (VH hs) := by simp [tupOf, e]
  rw [tu] at e2
  exact (VH_inj (Option.some.inj e2)).symm
theorem slC {K : PySem.W.Frag} {H : Hp} {a : Addr} {xs : List V} {lo hi : Option Int} {Q : VK} (ea : H a = some (.tup xs)) (q : ∀ c H', Same H H' → H' c = some (.tup (cutV xs lo hi)) → Q (.ref c) H') : rSlA K (.ref a) lo hi H Q := by
  refine ⟨a, xs, rfl, SqT.of ea, fun h => q a H same_rfl ?_, fun _ p np => q p _ (same_upd np) upd_same⟩
  unfold cutV
  rw [h.1, h.2, List.drop_zero, Nat.sub_zero, List.take_length]
  exact ea
theorem cut_take (xs : List V) (o : Nat) : cutV xs none (some ((o : Nat) : Int)) = xs.take o := by
  unfold cutV
  rw [HT.sIx_none, show HT.sIx xs.length xs.length (some ((o : Nat) : Int)) = min o xs.length from HT.sIx_nat _ _ o, List.drop_zero, Nat.sub_zero]
  by_cases c : o ≤ xs.length
  · rw [Nat.min_eq_left c]
  · rw [Nat.min_eq_right (by omega), List.take_length, List.take_of_length_le (by omega)]
theorem cut_drop (xs : List V) (o : Nat) : cutV xs (some ((o : Nat) + 1 : Int)) none = xs.drop (o + 1) := by
  unfold cutV
  rw [HT.sIx_none, show HT.sIx xs.length 0 (some ((o : Nat) + 1 : Int)) = min (o + 1) xs.length from HT.sIx_nat _ _ (o + 1)]
  by_cases c : o + 1 ≤ xs.length
  · rw [Nat.min_eq_left c, List.take_of_length_le (by simp)]
  · rw [Nat.min_eq_right (by omega), List.drop_eq_nil_of_le (Nat.le_refl _), List.drop_eq_nil_of_le (by omega)]
    simp
theorem set_cut : ∀ (xs : List V) (o : Nat) (v : V), o < xs.length → xs.take o ++ ([v] ++ xs.drop (o + 1)) = xs.set o v
  | [], o, v, h => by simp at h
  | x :: r, 0, v, h => by simp
  | x :: r, o + 1, v, h => by
    have := set_cut r o v (by simpa using h)
    simpa using this
def item (o : Option Nat) : PyData := match o with | none => .none | some j => .int (j : Nat)
theorem item_eqv (a b : Option Nat) : PyData.eqv (item a) (item b) = decide (a = b) := by
  cases a with
  | none =>
    cases b with
    | none => rfl
    | some j => rfl
  | some i =>
    cases b with
    | none => rfl
    | some j =>
      show ((i : Int) == (j : Int)) = _
      by_cases c : i = j
      · subst c; simp
      · rw [decide_eq_false (fun e => c (Option.some.inj e))]
        rw [beq_eq_false_iff_ne]
        omega
theorem eqvAll_items : ∀ (a b : List (Option Nat)), PyData.eqvAll (a.map item) (b.map item) = decide (a = b)
  | [], [] => rfl
  | [], y :: t => rfl
  | x :: s, [] => rfl
  | x :: s, y :: t => by
    simp only [List.map_cons, PyData.eqvAll, item_eqv, eqvAll_items s t]
    by_cases c : x = y
    · subst c
      by_cases d : s = t
      · subst d; simp
      · simp [d]
    · simp [c]
theorem eqv_dH (a b : List (Option Nat)) : PyData.eqv (dH a) (dH b) = decide (a = b) := by
  have := eqvAll_items a b
  show PyData.eqv (.tuple (a.map item)) (.tuple (b.map item)) = _
  simp only [PyData.eqv]
  exact this
def lookL (ls : List (List Nat)) : Bool := (List.range ls.length).all fun i => decide ((la ls i).Nodup) && (la ls i).all fun j => decide (j < ls.length) && decide (j ≠ i) && decide (i ∈ la ls j)
theorem lists_of {ls : List (List Nat)} (h : lookL ls = true) : ListsOk ls.length ls := by
  unfold lookL at h
  rw [List.all_eq_true] at h
  have g : ∀ (i : Nat) (s : List Nat), ls[i]? = some s → i < ls.length ∧ la ls i = s := fun i s e => by
    refine ⟨(List.getElem?_eq_some_iff.mp e).1, ?_⟩
    unfold la
    rw [List.getD_eq_getElem?_getD, e]
    rfl
  refine ⟨rfl, fun i s e => ?_, fun i s j e hj => ?_⟩
  · obtain ⟨hi, es⟩ := g i s e
    have := h i (List.mem_range.mpr hi)
    rw [Bool.and_eq_true, es] at this
    exact of_decide_eq_true this.1
  · obtain ⟨hi, es⟩ := g i s e
    have := h i (List.mem_range.mpr hi)
    rw [Bool.and_eq_true, es, List.all_eq_true] at this
    have z := this.2 j hj
    rw [Bool.and_eq_true, Bool.and_eq_true] at z
    have h1 := of_decide_eq_true z.1.1
    exact ⟨h1, of_decide_eq_true z.1.2, la ls j, la_get h1, of_decide_eq_true z.2⟩
def lookH (ls : List (List Nat)) (hs : List (Option Nat)) : Bool := decide (hs.length = ls.length) && (List.range hs.length).all fun p => match ha hs p with | none => true | some j => decide (j ∈ la ls p)
theorem holds_of {ls : List (List Nat)} {hs : List (Option Nat)} (h : lookH ls hs = true) : HoldsOk ls hs := by
  unfold lookH at h
  rw [Bool.and_eq_true, List.all_eq_true] at h
  have hl := of_decide_eq_true h.1
  refine ⟨hl, fun p j e => ?_⟩
  have hp : p < hs.length := ha_lt e
  have := h.2 p (List.mem_range.mpr hp)
  rw [e] at this
  exact ⟨by omega, of_decide_eq_true this⟩
def lookN (ns : List (List Nat)) : Bool := (ns.all fun s => decide (1 ≤ s.length) && decide (s.length ≤ 6) && s.all fun c => decide (97 ≤ c) && decide (c ≤ 122)) && (List.range ns.length).all fun i => match ns[i]?, ns[i + 1]? with | some s, some t => decide (s < t) | _, _ => true
theorem names_look {ns : List (List Nat)} (h : lookN ns = true) : NamesOk ns.length ns := by
  unfold lookN at h
  rw [Bool.and_eq_true, List.all_eq_true, List.all_eq_true] at h
  refine ⟨rfl, fun s hs => ?_, fun i s t e1 e2 => ?_⟩
  · have := h.1 s hs
    rw [Bool.and_eq_true, Bool.and_eq_true, List.all_eq_true] at this
    refine ⟨of_decide_eq_true this.1.1, of_decide_eq_true this.1.2, fun c hc => ?_⟩
    have z := this.2 c hc
    rw [Bool.and_eq_true] at z
    exact ⟨of_decide_eq_true z.1, of_decide_eq_true z.2⟩
  · have := h.2 i (List.mem_range.mpr (List.getElem?_eq_some_iff.mp e1).1)
    rw [e1, e2] at this
    exact of_decide_eq_true this
theorem repN {K : PySem.W.Frag} {H : Hp} {t : Addr} {m : Nat} {Q : VK} (e : H t = some (.tup [.non])) (h1 : 1 ≤ m) (h2 : m ≤ 1000) (q : ∀ c H', Same H H' → H' c = some (.tup (VH (List.replicate m none))) → Q (.ref c) H') : rRepA K (.ref t) (.int (m : Nat)) H Q := by
  by_cases c : m = 1
  · subst c
    exact .inl ⟨t, [.non], rfl, rfl, SqT.of e, q t H same_rfl e⟩
  · refine .inr ⟨t, (m : Int), [.non], rfl, rfl, SqT.of e, by simp, by omega, by omega, by simp, fun p np => q p _ (same_upd np) ?_⟩
    rw [upd_same]
    congr 2
    rw [Int.toNat_natCast]
    unfold VH
    rw [List.map_replicate]
    clear c h1 h2 q
    induction m with
    | zero => rfl
    | succ n ih => rw [List.replicate_succ, List.flatten_cons, ih, List.replicate_succ]; rfl
theorem none_ok {ls : List (List Nat)} {m : Nat} (h : ls.length = m) : HoldsOk ls (List.replicate m none) := by
  refine ⟨by simp [h], fun p j e => ?_⟩
  unfold ha at e
  rw [List.getD_eq_getElem?_getD, List.getElem?_replicate] at e
  split at e <;> cases e
theorem holdsV_same {H H' : Hp} {ls : List (List Nat)} {v : V} (p : Pl H v) (s : Same H H') : holdsV H' ls v = holdsV H ls v := by
  unfold holdsV
  rw [tupOf_same p s]
theorem lt_five {H : Hp} {t r1 r2 r3 r4 r5 : Addr} {s1 s2 s3 s4 s5 : List Nat} (e : H t = some (.tup [.ref r1, .ref r2, .ref r3, .ref r4, .ref r5]))
    (e1 : H r1 = some (.tup (VI s1))) (e2 : H r2 = some (.tup (VI s2))) (e3 : H r3 = some (.tup (VI s3))) (e4 : H r4 = some (.tup (VI s4))) (e5 : H r5 = some (.tup (VI s5))) : LT H t [s1, s2, s3, s4, s5] := by
  refine ⟨[r1, r2, r3, r4, r5], e, rfl, fun i a s h1 h2 => ?_⟩
  match i, h1, h2 with
  | 0, h1, h2 => cases h1; cases h2; exact .inl e1
  | 1, h1, h2 => cases h1; cases h2; exact .inl e2
  | 2, h1, h2 => cases h1; cases h2; exact .inl e3
  | 3, h1, h2 => cases h1; cases h2; exact .inl e4
  | 4, h1, h2 => cases h1; cases h2; exact .inl e5
  | _ + 5, h1, h2 => cases h1
theorem stays {H : Hp} {p : Addr} {o : HO} (n : H p = none) {b : Addr} {u : HO} (e : H b = some u) : (upd H p o) b = some u := same_upd n b u e
theorem repZ {K : PySem.W.Frag} {H : Hp} {t : Addr} {m : Nat} {z : Int} {Q : VK} (hz : z = (m : Nat)) (e : H t = some (.tup [.non])) (h1 : 1 ≤ m) (h2 : m ≤ 1000) (q : ∀ c H', Same H H' → H' c = some (.tup (VH (List.replicate m none))) → Q (.ref c) H') : rRepA K (.ref t) (.int z) H Q := by
  subst hz
  exact repN e h1 h2 q
end K14
namespace K14
open PySem PySem.Spec PyProof.Rows L2
def spNoHolds (C : Addr) : Sp := fun vs H Q _ => ∃ (wi : Addr) (ns ls : List (List Nat)), vs = [.ref wi] ∧ WAt C H wi ns ls ∧ ∀ r H', Same H H' → H' r = some (.tup (VH (List.replicate ls.length none))) → Q (.ref r) H'
def spHeldRanksL (C : Addr) : Sp := fun vs H Q _ => ∃ (wi b : Addr) (ns ls : List (List Nat)) (hs : List (Option Nat)), vs = [.ref wi, .ref b] ∧ WAt C H wi ns ls ∧ H b = some (.lst (VH hs)) ∧ HoldsOk ls hs ∧ ∀ r H', Same H H' → H' r = some (.tup (VM ls hs)) → Q (.ref r) H'
def spAskedOut (C : Addr) : Sp := fun vs H Q _ => ∃ (wi : Addr) (ns ls : List (List Nat)), vs = [.ref wi] ∧ WAt C H wi ns ls ∧ ∀ r g H', Great ls g → Same H H' → H' r = some (.tup (VH g)) → Q (.ref r) H'
theorem Same.keep {H H' : Hp} {D : Addr} {o : HO} (s : Same H H') (n : H D = none) : Same H (upd H' D o) := s.fresh n
theorem rg_VI (n : Nat) : rgV 0 (n : Nat) = VI (List.range n) := by
  unfold rgV VI
  rw [Int.sub_zero, Int.toNat_natCast]
  refine List.map_congr_left fun i _ => ?_
  rw [Int.zero_add]
theorem VH_set (hs : List (Option Nat)) (j p : Nat) : (VH hs).set j (.int (p : Nat)) = VH (hs.set j (some p)) := by
  unfold VH
  rw [List.map_set]
  rfl
theorem VM_set {ls : List (List Nat)} {hs : List (Option Nat)} {j p : Nat} (hj : j < hs.length) : (VM ls hs).set j (.int ((la ls j).idxOf p : Nat)) = VM ls (hs.set j (some p)) := by
  apply List.ext_getElem?
  intro i
  rw [List.getElem?_set]
  by_cases c : i < ls.length
  · rw [VM_get c]
    by_cases d : j = i
    · subst d
      rw [if_pos rfl, if_pos (by rw [VM, List.length_map, List.length_range]; exact c), VM_get (hs := hs.set j (some p)) c, most_some (show ha (hs.set j (some p)) j = some p by rw [ha_set hj, if_pos rfl])]
    · rw [if_neg d, VM_get c, most_eq (show ha (hs.set j (some p)) i = ha hs i by rw [ha_set hj, if_neg (fun z => d z.symm)])]
  · have l1 : (VM ls hs)[i]? = none := List.getElem?_eq_none (by rw [VM, List.length_map, List.length_range]; omega)
    have l2 : (VM ls (hs.set j (some p)))[i]? = none := List.getElem?_eq_none (by rw [VM, List.length_map, List.length_range]; omega)
    rw [l1, l2]
    split
    · rename_i z
      subst z
      rw [if_neg (by rw [VM, List.length_map, List.length_range]; omega)]
    · rfl
section
variable {P : Program} {w : World} {K : PySem.W.Frag} {mg : Str → Option Value} {base : Heap}
theorem ok_held_ranksL {f fr C : Addr} {fd dr : FuncData} {k : Nat} (F : Fun K "held_ranks" "held_ranks" sHeldRanks f fd)
    (Gr : FnOk P w K mg base CX0 k fr dr ["wishes", "person", "other"] (spRankOf C)) (br : Binds K dr ["wishes", "person", "other"] []) (kr : PySem.W.keepIn K (.ref fr) = true) (mr : mg "rank_of" = some (.ref fr)) (mt : mg "tuple" = none) (me : mg "enumerate" = none) : FnOk P w K mg base CX0 (k + 1) f fd ["wishes", "holds"] (spHeldRanksL C) := by
  refine F.ok scHeldRanks (fun vs H Q E h => ?_) (fun cdv A outer s H vs Q E hr h => ?_)
  · obtain ⟨wi, b, ns, ls, hs, rfl, _⟩ := h
    rfl
  · obtain ⟨wi, b, ns, ls, hs, rfl, W, eb, ho, q⟩ := h
    refine ⟨_, pss_one (ps_ret (pe_callTy call_tuple_of (by rfl) mt (by decide +kernel) (pa_cons (pe_lc (own := [("person", 2), ("held", 3)]) (tt := tYes) rfl scHeldRanks.nd (pi_enum (by rfl) me (pa_cons (pv 1) pa_nil))
          (blkOk_by (own := [("person", 2), ("held", 3)]) (N := ["wishes", "holds", "person", "held"]) (sc := defScope sHeldRanks) (by decide +kernel)) (g := gTup K 2 (gCons (gName 2) (gCons (gName 3) gNil))) (fun _ _ _ _ _ => pg_tup rfl (pgs_cons (pg_name (i := 2) scHeldRanks.nd rfl (Or.inl rfl)) (pgs_cons (pg_name (i := 3) scHeldRanks.nd rfl (Or.inl rfl)) pgs_nil))) (fun _ _ _ _ _ => pts_nil)
          (fun _ _ _ _ _ => pe_call Gr hr rfl mr kr br .nil pass0 (pa_cons (pv 0) (pa_cons (pv 2) (pa_cons (pv 3) pa_nil))))) pa_nil))), ?_⟩
    refine ⟨_, rfl, b, _, rfl, SqL.of eb, fun D nD => ?_⟩
    have n60 := W.n60.2
    refine lc_same (walk_enum (K := K) (a := b) (xs := VH hs)) (by rw [VH_len, ho.len]; omega) (fun i => .int (most ls hs i : Nat)) nD (fun _ sm => SqL.of (sm _ _ eb)) ?_ ?_
    · rintro i x H1 H2 Z out hi sm ⟨U, x0, x1, rfl, nU, rfl, y1, y2⟩
      cases y1
      have s2 : Same H1 (upd H1 U (.tup [.int (i : Nat), x1])) := same_upd nU
      rw [VH_len] at hi
      have il : i < ls.length := by rw [← ho.len]; exact hi
      have y3 : (VH hs)[i]? = some x1 := y2
      rw [VH_get (ha_get hi)] at y3
      cases y3
      refine ⟨U, _, rfl, SqT.of upd_same, rfl, _, _, rfl, gn ⟨_, _, rfl, gn ⟨rfl, rfl, ?_⟩⟩⟩
      refine ⟨_, rfl, _, rfl, _, rfl, wi, ns, ls, i, ha hs i, rfl, (W.same sm).same s2, il, fun j ej => ?_, ?_⟩
      · exact (W.ok.both i _ j (la_get il) (ho.on i j ej).2).1
      · rw [rkO_N fun j ej => (ho.on i j ej).2]
        exact out _ s2
    · intro H1 sm e5
      refine ⟨D, _, rfl, .inl ⟨SqL.of e5, fun r nr => q r _ (sm.fresh (sm.free nr)) ?_⟩⟩
      rw [upd_same, VH_len, ho.len]
      rfl
end
end K14
namespace K14
open PySem PySem.Spec PyProof.Rows L2
section
variable {J : It} {n : Nat} {G : Hp → Prop} {Y : Nat → Hp → V → Hp → Prop}
/-- a comprehension with a test, that leaves all as it stood -/
theorem lc_pick (w : Walk J n G Y) {g : TG} {tt : TT} {te : TE} {vs : List Nat} {σ : L2.St} {H0 : Hp} {D : Addr} {Qd : Hp → Prop} (hn : n ≤ 100000) (sel : Nat → Bool) (val : Nat → V) (nD : H0 D = none) (hG : ∀ H, Same H0 H → G H)
    (hs : ∀ (i : Nat) (x : V) (H H' : Hp) (R : Hp → Prop) (Z : V → Hp → Prop), (∀ H3, Same H H3 → sel i = true → Z (val i) H3) → (∀ H3, Same H H3 → sel i = false → R H3) → i < n → Same H0 H → Y i H x H' → g x (wipe σ vs) H' fun σ2 H2 => wipe σ2 vs = wipe σ vs ∧ tt σ2 H2 fun b H3 => if b = true then te σ2 H3 Z else R H3)
    (hd : ∀ H, Same H0 H → H D = some (.lst (((List.range n).filter sel).map val)) → Qd H) :
    ∃ W : Nat → Nat → Hp → Prop, (∃ m, W 0 m (upd H0 D (.lst []))) ∧ ∀ i m H, W i m H →
      (J.stop i H ∧ Qd H) ∨ (J.go i H ∧ ∃ Nx : Hp → Prop, (∀ H', Nx H' → ∃ m', m' < m ∧ W (i + 1) m' H') ∧ ∀ x H', J.yld i H x H' → g x (wipe σ vs) H' fun σ2 H2 => wipe σ2 vs = wipe σ vs ∧ tt σ2 H2 fun b H3 =>
        if b = true then te σ2 H3 fun y H4 => ∃ acc, H4 D = some (.lst acc) ∧ acc.length < sizeLine ∧ Nx (upd H4 D (.lst (acc ++ [y]))) else Nx H3) := by
  refine lc_it w (fun i H => Same H0 H ∧ H D = some (.lst (((List.range i).filter sel).map val))) ⟨same_upd nD, by rw [upd_same]; rfl⟩ (fun i H _ h => hG H h.1) (fun i x H H' hi h y => ?_) (fun H h => hd H h.1 h.2)
  refine hs i x H H' (fun H => Same H0 H ∧ H D = some (.lst (((List.range (i + 1)).filter sel).map val))) (fun v H3 => ∃ acc, H3 D = some (.lst acc) ∧ acc.length < sizeLine ∧ (fun H => Same H0 H ∧ H D = some (.lst (((List.range (i + 1)).filter sel).map val))) (upd H3 D (.lst (acc ++ [v])))) (fun H3 z ft => ?_) (fun H3 z ff => ?_) hi h.1 y
  · refine ⟨_, z _ _ h.2, ?_, (h.1.trans z).fresh nD, ?_⟩
    · rw [List.length_map]
      refine sz6' (Nat.le_trans (List.length_filter_le _ _) ?_)
      rw [List.length_range]
      omega
    · rw [upd_same, List.range_succ, List.filter_append, List.filter_cons, if_pos ft, List.filter_nil, List.map_append]
      rfl
  · refine ⟨h.1.trans z, ?_⟩
    rw [z _ _ h.2, List.range_succ, List.filter_append, List.filter_cons, if_neg (by rw [ff]; decide), List.filter_nil, List.append_nil]
/-- a tuple of numbers, or None -/
def OV (H : Hp) (v : V) : Option (List Nat) → Prop
  | none => v = .non
  | some s => ∃ t, v = .ref t ∧ H t = some (.tup (VI s))
theorem OV.same {H H' : Hp} {v : V} {o : Option (List Nat)} (h : OV H v o) (s : Same H H') : OV H' v o := by
  cases o with
  | none => exact h
  | some l => obtain ⟨t, e, et⟩ := h; exact ⟨t, e, s _ _ et⟩
theorem OV.put {H : Hp} {v : V} {o : Option (List Nat)} {D : Addr} {acc acc' : List V} (h : OV H v o) (eD : H D = some (.lst acc)) : OV (upd H D (.lst acc')) v o := by
  cases o with
  | none => exact h
  | some l =>
    obtain ⟨t, e, et⟩ := h
    refine ⟨t, e, ?_⟩
    rw [upd_ne (fun z => by rw [z, eD] at et; cases et)]
    exact et
/-- a comprehension of new tuples of numbers, or None, that leaves all else as it stood -/
theorem lc_opt (w : Walk J n G Y) {g : TG} {te : TE} {vs : List Nat} {σ : L2.St} {H0 : Hp} {D : Addr} {Qd : Hp → Prop} (hn : n ≤ 100000) (X : Nat → Option (List Nat)) (nD : H0 D = none) (hG : ∀ H, Same H0 H → G H)
    (hs : ∀ (i : Nat) (x : V) (H H' : Hp) (Z : V → Hp → Prop), (∀ v H3, Same H H3 → OV H3 v (X i) → Z v H3) → i < n → Same H0 H → Y i H x H' → g x (wipe σ vs) H' fun σ2 H2 => wipe σ2 vs = wipe σ vs ∧ te σ2 H2 Z)
    (hd : ∀ (rs : List V) H, Same H0 H → H D = some (.lst rs) → rs.length = n → (∀ (j : Nat) (v : V), rs[j]? = some v → OV H v (X j)) → Qd H) :
    ∃ W : Nat → Nat → Hp → Prop, (∃ m, W 0 m (upd H0 D (.lst []))) ∧ ∀ i m H, W i m H →
      (J.stop i H ∧ Qd H) ∨ (J.go i H ∧ ∃ Nx : Hp → Prop, (∀ H', Nx H' → ∃ m', m' < m ∧ W (i + 1) m' H') ∧ ∀ x H', J.yld i H x H' → g x (wipe σ vs) H' fun σ2 H2 => wipe σ2 vs = wipe σ vs ∧ tYes σ2 H2 fun b H3 =>
        if b = true then te σ2 H3 fun y H4 => ∃ acc, H4 D = some (.lst acc) ∧ acc.length < sizeLine ∧ Nx (upd H4 D (.lst (acc ++ [y]))) else Nx H3) := by
  refine lc_it w (fun i H => ∃ rs : List V, Same H0 H ∧ H D = some (.lst rs) ∧ rs.length = i ∧ ∀ (j : Nat) (v : V), rs[j]? = some v → OV H v (X j)) ⟨[], same_upd nD, upd_same, rfl, fun _ _ e => by simp at e⟩ (fun i H _ ⟨_, h, _⟩ => hG H h) (fun i x H H' hi ⟨rs, sm, eD, rl, old⟩ y => ?_) (fun H ⟨rs, sm, eD, rl, old⟩ => hd rs H sm eD rl old)
  refine hs i x H H' (fun v H3 => ∃ acc, H3 D = some (.lst acc) ∧ acc.length < sizeLine ∧ (fun H => ∃ rs : List V, Same H0 H ∧ H D = some (.lst rs) ∧ rs.length = i + 1 ∧ ∀ (j : Nat) (v : V), rs[j]? = some v → OV H v (X j)) (upd H3 D (.lst (acc ++ [v])))) (fun v H3 s3 ov => ?_) hi sm y
  have eD3 := s3 _ _ eD
  refine ⟨_, eD3, by rw [rl]; exact sz6' (by omega), rs ++ [v], (sm.trans s3).fresh nD, upd_same, by simp [rl], ?_⟩
  intro j u e
  by_cases c : j < rs.length
  · rw [List.getElem?_append_left c] at e
    exact ((old j u e).same s3).put eD3
  · rw [List.getElem?_append_right (by omega), List.getElem?_singleton] at e
    split at e
    · cases e
      have : j = i := by omega
      subst this
      exact ov.put eD3
    · cases e
end
/-- a tuple of those -/
def OT (H : Hp) (r : Addr) (xs : List (Option (List Nat))) : Prop := ∃ vs : List V, H r = some (.tup vs) ∧ vs.length = xs.length ∧ ∀ (j : Nat) (v : V) (o : Option (List Nat)), vs[j]? = some v → xs[j]? = some o → OV H v o
theorem OT.same {H H' : Hp} {r : Addr} {xs : List (Option (List Nat))} (t : OT H r xs) (s : Same H H') : OT H' r xs := let ⟨vs, e, l, q⟩ := t; ⟨vs, s _ _ e, l, fun j v o e1 e2 => (q j v o e1 e2).same s⟩
def dO1 : Option (List Nat) → PyData
  | none => .none
  | some s => dI s
def dO (xs : List (Option (List Nat))) : PyData := .tuple (xs.map dO1)
theorem dp_all {K : PySem.W.Frag} {H : Hp} : ∀ {vs : List V} {xs : List (Option (List Nat))}, vs.length = xs.length → (∀ (j : Nat) (v : V) (o : Option (List Nat)), vs[j]? = some v → xs[j]? = some o → OV H v o) → DpAll K H vs (xs.map dO1)
  | [], [], _, _ => .nil
  | [], _ :: _, l, _ => by cases l
  | _ :: _, [], l, _ => by cases l
  | v :: vs, o :: xs, l, h => by
    refine .cons ?_ (dp_all (by simpa using l) fun j u p e1 e2 => h (j + 1) u p (by simpa using e1) (by simpa using e2))
    have h0 := h 0 v o rfl rfl
    cases o with
    | none => cases h0; exact .non
    | some s => obtain ⟨t, rfl, et⟩ := h0; exact dp_dI (.inl et)
theorem dp_dO {K : PySem.W.Frag} {H : Hp} {r : Addr} {xs : List (Option (List Nat))} (t : OT H r xs) : Dp K H (.ref r) (dO xs) := by
  obtain ⟨vs, e, l, q⟩ := t
  exact .tup (SqT.of e) (dp_all l q)
theorem sh_dO (xs : List (Option (List Nat))) : SeqAt.shaped (dO xs) = true := by
  unfold dO
  refine shaped_of ?_ ?_
  · simp only [PyData.canLay0]
    refine layAll fun x hx => ?_
    obtain ⟨o, _, rfl⟩ := List.mem_map.mp hx
    cases o with
    | none => rfl
    | some s => exact (lay_dI s).1
  · simp only [PyData.depth]
    have := depAll (xs := xs.map dO1) (d := 2) fun x hx => by
      obtain ⟨o, _, rfl⟩ := List.mem_map.mp hx
      cases o with
      | none => simp [PyData.depth, dO1]
      | some s => exact (lay_dI s).2
    omega
theorem eq_dO (xs : List (Option (List Nat))) : PyData.eqv (dO xs) (dO xs) = true := by
  refine SeqAt.eqv_refl _ ?_
  have := sh_dO xs
  unfold SeqAt.shaped at this
  rw [Bool.and_eq_true] at this
  exact this.1
theorem eq_dI (s : List Nat) : PyData.eqv (dI s) (dI s) = true := by
  refine SeqAt.eqv_refl _ ?_
  exact (lay_dI s).1
theorem rp_of {d : PyData} {m B : Nat} (h : RpI d m B) (hm : m ≤ 60) (hB : B ≤ 1000000) : Rp d := ⟨h.sh, h.nd, Nat.le_trans h.dp hm, Nat.le_trans h.ln (Nat.le_trans hB (by decide))⟩
theorem rp_dO {xs : List (Option (List Nat))} (l : xs.length ≤ 60) (h : ∀ s, some s ∈ xs → s.length ≤ 60 ∧ ∀ j ∈ s, j < 60) : Rp (dO xs) := by
  unfold dO
  refine rp_of (rp_tup (m := 1) (B := 2000) fun x hx => ?_) (by decide) (by rw [List.length_map]; omega)
  obtain ⟨o, ho, rfl⟩ := List.mem_map.mp hx
  cases o with
  | none => exact ⟨rp_none.sh, rp_none.nd, Nat.le_trans rp_none.dp (by decide), Nat.le_trans rp_none.ln (by decide)⟩
  | some s => exact rp_dI (h s ho).1 (h s ho).2
theorem rp_dI' {s : List Nat} (l : s.length ≤ 60) (h : ∀ j ∈ s, j < 60) : Rp (dI s) := rp_of (rp_dI l h) (by decide) (by decide)
end K14
namespace K14
open PySem PySem.Spec PyProof.Rows L2
section
variable {J : It} {n : Nat} {G : Hp → Prop} {Y : Nat → Hp → V → Hp → Prop}
/-- a comprehension of things that have a property, all else as it stood -/
theorem lc_objs (w : Walk J n G Y) {g : TG} {te : TE} {vs : List Nat} {σ : L2.St} {H0 : Hp} {D : Addr} {Qd : Hp → Prop} (hn : n ≤ 100000) (Pr : Nat → Hp → Addr → Prop) (mono : ∀ i H H' r, Pr i H r → Same H H' → Pr i H' r)
    (keep : ∀ i H H' r ys, Pr i H r → H D = some (.lst ys) → (∀ b o, b ≠ D → H b = some o → H' b = some o) → Pr i H' r) (nD : H0 D = none) (hG : ∀ H, Same H0 H → G H)
    (hs : ∀ (i : Nat) (x : V) (H H' : Hp) (Z : V → Hp → Prop), (∀ r H3, Same H H3 → Pr i H3 r → Z (.ref r) H3) → i < n → Same H0 H → Y i H x H' → g x (wipe σ vs) H' fun σ2 H2 => wipe σ2 vs = wipe σ vs ∧ te σ2 H2 Z)
    (hd : ∀ (rs : List Addr) H, Same H0 H → H D = some (.lst (rs.map V.ref)) → rs.length = n → (∀ (j : Nat) (r : Addr), rs[j]? = some r → Pr j H r) → Qd H) :
    ∃ W : Nat → Nat → Hp → Prop, (∃ m, W 0 m (upd H0 D (.lst []))) ∧ ∀ i m H, W i m H →
      (J.stop i H ∧ Qd H) ∨ (J.go i H ∧ ∃ Nx : Hp → Prop, (∀ H', Nx H' → ∃ m', m' < m ∧ W (i + 1) m' H') ∧ ∀ x H', J.yld i H x H' → g x (wipe σ vs) H' fun σ2 H2 => wipe σ2 vs = wipe σ vs ∧ tYes σ2 H2 fun b H3 =>
        if b = true then te σ2 H3 fun y H4 => ∃ acc, H4 D = some (.lst acc) ∧ acc.length < sizeLine ∧ Nx (upd H4 D (.lst (acc ++ [y]))) else Nx H3) := by
  refine lc_it w (fun i H => ∃ rs : List Addr, Same H0 H ∧ H D = some (.lst (rs.map V.ref)) ∧ rs.length = i ∧ ∀ (j : Nat) (r : Addr), rs[j]? = some r → Pr j H r) ⟨[], same_upd nD, upd_same, rfl, fun _ _ e => by simp at e⟩ (fun i H _ ⟨_, h, _⟩ => hG H h) (fun i x H H' hi ⟨rs, sm, eD, rl, old⟩ y => ?_) (fun H ⟨rs, sm, eD, rl, old⟩ => hd rs H sm eD rl old)
  refine hs i x H H' (fun v H3 => ∃ acc, H3 D = some (.lst acc) ∧ acc.length < sizeLine ∧ (fun H => ∃ rs : List Addr, Same H0 H ∧ H D = some (.lst (rs.map V.ref)) ∧ rs.length = i + 1 ∧ ∀ (j : Nat) (r : Addr), rs[j]? = some r → Pr j H r) (upd H3 D (.lst (acc ++ [v])))) (fun r H3 s3 er => ?_) hi sm y
  have eD3 := s3 _ _ eD
  refine ⟨_, eD3, ?_, rs ++ [r], (sm.trans s3).fresh nD, by rw [upd_same]; simp, by simp [rl], ?_⟩
  · rw [List.length_map, rl]
    exact sz6' (by omega)
  · intro j q e
    by_cases c : j < rs.length
    · rw [List.getElem?_append_left c] at e
      exact keep j H3 _ q _ (mono j H H3 q (old j q e) s3) eD3 fun b o nb eb => by rw [upd_ne nb]; exact eb
    · have hj : j = rs.length := by
        have := (List.getElem?_eq_some_iff.mp e).1
        simp at this
        omega
      subst hj
      simp at e
      subst e
      rw [rl]
      exact keep i H3 _ _ _ er eD3 fun b o nb eb => by rw [upd_ne nb]; exact eb
end
/-! ### rings of pairs -/
def rows2 (L : List (Nat × Nat)) : List (List Nat) := L.map fun x => [x.1, x.2]
/-- a tuple of pairs -/
def RP (H : Hp) (r : Addr) (ps : List (Nat × Nat)) : Prop := ∃ us : List Addr, H r = some (.tup (us.map V.ref)) ∧ us.length = ps.length ∧ ∀ (j : Nat) (u : Addr) (x : Nat × Nat), us[j]? = some u → ps[j]? = some x → H u = some (.tup (VI [x.1, x.2]))
def RPs (H : Hp) (us : List Addr) (R : List (List (Nat × Nat))) : Prop := us.length = R.length ∧ ∀ (j : Nat) (u : Addr) (ps : List (Nat × Nat)), us[j]? = some u → R[j]? = some ps → RP H u ps
theorem RP.same {H H' : Hp} {r : Addr} {ps : List (Nat × Nat)} (t : RP H r ps) (s : Same H H') : RP H' r ps := let ⟨us, e, l, a⟩ := t; ⟨us, s _ _ e, l, fun j u x e1 e2 => s _ _ (a j u x e1 e2)⟩
theorem RPs.same {H H' : Hp} {us : List Addr} {R : List (List (Nat × Nat))} (t : RPs H us R) (s : Same H H') : RPs H' us R := ⟨t.1, fun j u ps e1 e2 => (t.2 j u ps e1 e2).same s⟩
theorem RP.keep {H H' : Hp} {D r : Addr} {ps : List (Nat × Nat)} {ys : List V} (t : RP H r ps) (eD : H D = some (.lst ys)) (k : ∀ b o, b ≠ D → H b = some o → H' b = some o) : RP H' r ps := by
  obtain ⟨us, e, l, a⟩ := t
  have ne : ∀ b xs, H b = some (.tup xs) → b ≠ D := fun b xs eb z => by
    rw [z, eD] at eb
    cases eb
  exact ⟨us, k _ _ (ne _ _ e) e, l, fun j u x e1 e2 => k _ _ (ne _ _ (a j u x e1 e2)) (a j u x e1 e2)⟩
theorem RP.at {H : Hp} {ps : List (Nat × Nat)} {us : List Addr} (l : us.length = ps.length) (a : ∀ (j : Nat) (u : Addr) (x : Nat × Nat), us[j]? = some u → ps[j]? = some x → H u = some (.tup (VI [x.1, x.2]))) {j : Nat} {v : V} (h : (us.map V.ref)[j]? = some v) : ∃ u x, v = .ref u ∧ ps[j]? = some x ∧ H u = some (.tup (VI [x.1, x.2])) := by
  rw [List.getElem?_map] at h
  cases e : us[j]? with
  | none => rw [e] at h; cases h
  | some u =>
    rw [e] at h
    cases h
    have hl := (List.getElem?_eq_some_iff.mp e).1
    have hr : j < ps.length := by rw [← l]; exact hl
    exact ⟨u, ps[j], rfl, List.getElem?_eq_getElem hr, a j u _ e (List.getElem?_eq_getElem hr)⟩
def spWithTakers : Sp := fun vs H Q _ => ∃ (g l : Addr) (r : List Nat) (L : List (List Nat)), vs = [.ref g, .ref l] ∧ Tp H g (VI r) ∧ LT H l L ∧ r.length ≤ 100 ∧ (∀ x ∈ r, x < L.length ∧ 1 ≤ (la L x).length) ∧
  ∀ c H', Same H H' → RP H' c (r.map fun x => (x, (la L x).headD 0)) → Q (.ref c) H'
theorem scWithTakers : FnScope ["givers", "lists", "giver"] ["givers", "lists"] (defScope sWithTakers) := ⟨rfl, rfl, rfl, by decide +kernel, rfl, by decide +kernel, by decide +kernel⟩
def ringsP (ls : List (List Nat)) (hs : List (Option Nat)) : List (List (Nat × Nat)) := (ringsA (givA ls hs)).map (prs ls hs)
def spRingsIn : Sp := fun vs H Q _ => ∃ (t l : Addr) (ls : List (List Nat)) (hs : List (Option Nat)), vs = [.ref t, .ref l] ∧ H t = some (.tup (VH hs)) ∧ LT H l (leftA ls hs) ∧ HoldsOk ls hs ∧ ListsOk ls.length ls ∧ ls.length ≤ 100 ∧
  ∀ c us H', Same H H' → H' c = some (.tup (us.map V.ref)) → RPs H' us (ringsP ls hs) → Q (.ref c) H'
theorem scRingsIn : FnScope ["holds", "lists", "givers"] ["holds", "lists"] (defScope sRingsIn) := ⟨rfl, rfl, rfl, by decide +kernel, rfl, by decide +kernel, by decide +kernel⟩
theorem head_la {L : List (List Nat)} {x : Nat} (h : 1 ≤ (la L x).length) : (la L x)[0]? = some ((la L x).headD 0) := by
  rw [← List.head?_eq_getElem?]
  exact head_some h
section
variable {P : Program} {w : World} {K : PySem.W.Frag} {mg : Str → Option Value} {base : Heap}
theorem ok_with_takers {f : Addr} {fd : FuncData} {k : Nat} (F : Fun K "_with_takers" "_with_takers" sWithTakers f fd) (mt : mg "tuple" = none) : FnOk P w K mg base CX0 (k + 1) f fd ["givers", "lists"] spWithTakers := by
  refine F.ok scWithTakers (fun vs H Q E h => ?_) (fun cdv A outer s H vs Q E hr h => ?_)
  · obtain ⟨g, l, r, L, rfl, _⟩ := h
    rfl
  · obtain ⟨g, l, r, L, rfl, eg, lt, n100, all, q⟩ := h
    refine ⟨_, pss_one (ps_ret (pe_callTy call_tuple_of (by rfl) mt (by decide +kernel) (pa_cons (pe_lc (own := [("giver", 2)]) (g := gName 2) (tt := tYes) (te := tTup (tCons (tVar 2) (tCons (tOp (rIxT K) (tOp (rIxT K) (tVar 1) (tVar 2)) (tC (.int 0))) tNil))) rfl scWithTakers.nd (pi_tup (pv 0))
        (blkOk_by (own := [("giver", 2)]) (N := ["givers", "lists", "giver"]) (sc := defScope sWithTakers) (by decide +kernel)) (fun _ _ _ _ _ => pg_name (i := 2) scWithTakers.nd rfl (Or.inl rfl)) (fun _ _ _ _ _ => pts_nil)
        (fun _ _ _ _ _ => pe_tup (pa_cons (pv 2) (pa_cons (pe_ix ix_tup (pe_ix ix_tup (pv 1) (pv 2) (fun _ _ => rfl)) pe_int (fun _ _ => rfl)) pa_nil)))) pa_nil))), ?_⟩
    obtain ⟨as, ea, al, rows⟩ := lt
    refine ⟨_, rfl, g, rfl, ⟨_, eg.sq⟩, fun D nD => ?_⟩
    refine lc_rows (walk_tup (K := K) (a := g) (xs := VI r)) (by rw [VI_len]; omega) (fun i => VI [r.getD i 0, (la L (r.getD i 0)).headD 0]) nD (fun _ sm => (eg.same sm).sq) ?_ ?_
    · rintro i x Ha Hb Z out hi sm ⟨rfl, ex⟩
      rw [VI_len] at hi
      have er : r[i]? = some (r.getD i 0) := by rw [List.getD_eq_getElem?_getD, List.getElem?_eq_getElem hi]; rfl
      have := VI_get er
      rw [this] at ex
      cases ex
      obtain ⟨xl, x1⟩ := all _ (List.mem_of_getElem? er)
      generalize r.getD i 0 = y at er xl x1 out
      have ea' := sm _ _ ea
      have ay : as[y]? = some as[y] := List.getElem?_eq_getElem (by omega)
      have ey := (rows y _ _ ay (la_get xl)).same sm
      refine gn ⟨rfl, _, rfl, _, rfl, _, rfl, l, _, _, _, rfl, rfl, SqT.of ea', atI_nat (by rw [List.getElem?_map, ay]; rfl), as[y], _, 0, _, rfl, rfl, ey.sq, atI_nat (j := 0) (VI_get (head_la x1)), (by show 2 ≤ sizeLine; decide), fun p np => out p _ (same_upd np) upd_same⟩
    · intro rs H2 sm eD rl rws
      refine ⟨D, _, rfl, .inl ⟨SqL.of eD, fun c nc => q c _ (sm.fresh (sm.free nc)) ⟨rs, upd_same, ?_, fun j u x e1 e2 => ?_⟩⟩⟩
      · rw [rl, VI_len, List.length_map]
      · rw [List.getElem?_map] at e2
        cases e : r[j]? with
        | none => rw [e] at e2; cases e2
        | some y =>
          rw [e] at e2
          cases e2
          have := rws j u e1
          rw [show r.getD j 0 = y by rw [List.getD_eq_getElem?_getD, e]; rfl] at this
          exact ofN nc this
theorem ok_rings_in {f f1 f2 f3 : Addr} {fd d1 d2 d3 : FuncData} {k : Nat} (F : Fun K "_rings_in" "_rings_in" sRingsIn f fd) (Wt : Has P w K mg base k "_with_takers" ["givers", "lists"] spWithTakers f1 d1) (Ar : Has P w K mg base k "all_rings" ["behind"] spAllRings f2 d2)
    (Gb : Has P w K mg base k "_givers_behind" ["holds", "lists"] spGivers f3 d3) (mt : mg "tuple" = none) : FnOk P w K mg base CX0 (k + 1) f fd ["holds", "lists"] spRingsIn := by
  refine F.ok scRingsIn (fun vs H Q E h => ?_) (fun cdv A outer s H vs Q E hr h => ?_)
  · obtain ⟨t, l, ls, hs, rfl, _⟩ := h
    rfl
  · obtain ⟨t, l, ls, hs, rfl, et, lt, ho, ok, n100, q⟩ := h
    refine ⟨_, pss_one (ps_ret (pe_callTy call_tuple_of (by rfl) mt (by decide +kernel) (pa_cons (pe_lc (own := [("givers", 2)]) (g := gName 2) (tt := tYes) (te := tCall spWithTakers [] E0 (tCons (tVar 2) (tCons (tVar 1) tNil))) rfl scRingsIn.nd (pi_tup (pe_call Ar.ok hr rfl Ar.m Ar.k Ar.b .nil pass0 (pa_cons (pe_call Gb.ok hr rfl Gb.m Gb.k Gb.b .nil pass0 (pa_cons (pv 0) (pa_cons (pv 1) pa_nil))) pa_nil)))
        (blkOk_by (own := [("givers", 2)]) (N := ["holds", "lists", "givers"]) (sc := defScope sRingsIn) (by decide +kernel)) (fun _ _ _ _ _ => pg_name (i := 2) scRingsIn.nd rfl (Or.inl rfl)) (fun _ _ _ _ _ => pts_nil)
        (fun _ _ _ _ _ => pe_call Wt.ok hr rfl Wt.m Wt.k Wt.b .nil pass0 (pa_cons (pv 2) (pa_cons (pv 1) pa_nil)))) pa_nil))), ?_⟩
    refine ⟨_, rfl, _, rfl, t, l, ls, hs, rfl, et, lt, ho, ok, n100, fun b H1 s1 eb => ?_⟩
    have gl : (givA ls hs).length = ls.length := givA_len
    refine ⟨b, givA ls hs, rfl, eb, by omega, giv_clo ok ho, fun a H2 s2 ra => ?_⟩
    obtain ⟨us0, ea, ra'⟩ := ra
    have al := ra'.1
    have al2 : (ringsA (givA ls hs)).length ≤ 100 := by
      unfold ringsA
      rw [List.length_map]
      refine Nat.le_trans (List.length_filter_le _ _) ?_
      rw [List.length_range]
      omega
    have lt2 := (lt.same s1).same s2
    refine ⟨a, rfl, ⟨_, SqT.of ea⟩, fun D nD => ?_⟩
    refine lc_objs (walk_tup (K := K) (a := a) (xs := us0.map V.ref)) (by rw [List.length_map]; omega) (fun i H r => ∀ ps, (ringsP ls hs)[i]? = some ps → RP H r ps) (fun i H H' r h s ps e => (h ps e).same s) (fun i H H' r ys h eD k ps e => (h ps e).keep eD k) nD (fun _ sm => SqT.of (sm _ _ ea)) ?_ ?_
    · rintro i x Ha Hb Z out hi sm ⟨rfl, ex⟩
      rw [List.length_map] at hi
      obtain ⟨u, r, rfl, er, eu⟩ := ra'.at ex
      obtain ⟨p, m, hp, _, cy, er2⟩ := ringsA_one (List.mem_of_getElem? er)
      rw [gl] at hp
      have two := orb_two ok ho hp cy
      have cm : m ≤ 100 := by
        have := cy.le fun k => (two k).1
        omega
      have inr : ∀ x ∈ r, x < ls.length ∧ 2 ≤ (leftL ls hs x).length := fun x hx => by
        rw [er2] at hx
        obtain ⟨k, _, rfl⟩ := ringL_mem.mp hx
        exact two k
      refine gn ⟨rfl, _, rfl, _, rfl, u, l, r, leftA ls hs, rfl, eu.same sm, lt2.same sm, by rw [er2, ringL_len]; exact cm, fun x hx => ?_, fun c H4 s4 rp => out c H4 s4 fun ps e => ?_⟩
      · obtain ⟨h1, h2⟩ := inr x hx
        rw [leftA_len, la_leftA h1]
        omega
      · unfold ringsP at e
        rw [List.getElem?_map, er] at e
        cases e
        have : prs ls hs r = r.map fun x => (x, (la (leftA ls hs) x).headD 0) := by
          unfold prs
          refine List.map_congr_left fun x hx => ?_
          rw [la_leftA (inr x hx).1]
        rw [this]
        exact rp
    · intro rs H4 sm eD rl rws
      rw [List.length_map] at rl
      refine ⟨D, _, rfl, .inl ⟨SqL.of eD, fun c nc => q c rs _ (((s1.trans s2).trans sm).fresh (((s1.trans s2).trans sm).free nc)) upd_same ⟨?_, fun j u ps e1 e2 => ?_⟩⟩⟩
      · unfold ringsP
        rw [List.length_map]
        omega
      · exact (rws j u e1 ps e2).same (same_upd nc)
end
end K14
namespace K14
open PySem PySem.Spec PyProof.Rows L2
def spIsOdd : Sp := fun vs H Q _ => ∃ (l r : Addr) (L : List (List Nat)) (ps : List (Nat × Nat)), vs = [.ref l, .ref r] ∧ LT H l L ∧ RP H r ps ∧ ps.length ≤ 100 ∧ (∀ x ∈ ps, x.1 < L.length) ∧ ∀ H', Same H H' → Q (.bl (oddB L ps)) H'
theorem scIsOdd : FnScope ["lists", "ring", "takers", "_", "taker", "giver"] ["lists", "ring"] (defScope sIsOdd) := ⟨rfl, rfl, rfl, by decide +kernel, rfl, by decide +kernel, by decide +kernel⟩
def spIsOddTurn (C : Addr) : Sp := fun vs H Q _ => ∃ (wi t r : Addr) (ns ls : List (List Nat)) (hs : List (Option Nat)) (ps : List (Nat × Nat)), vs = [.ref wi, .ref t, .ref r] ∧ WAt C H wi ns ls ∧ H t = some (.tup (VH hs)) ∧ HoldsOk ls hs ∧ RP H r ps ∧ ps.length ≤ 100 ∧ (∀ x ∈ ps, x.1 < ls.length) ∧ ∀ H', Same H H' → Q (.bl (oddB (leftA ls hs) ps)) H'
theorem scIsOddTurn : FnScope ["wishes", "holds", "ring"] ["wishes", "holds", "ring"] (defScope sIsOddTurn) := ⟨rfl, rfl, rfl, by decide +kernel, rfl, by decide +kernel, by decide +kernel⟩
def goodP (ls : List (List Nat)) (hs : List (Option Nat)) : List (List (Nat × Nat)) := (ringsP ls hs).filter fun ps => !oddB (leftA ls hs) ps
def spGoodRings (C : Addr) : Sp := fun vs H Q _ => ∃ (wi t : Addr) (ns ls : List (List Nat)) (hs : List (Option Nat)), vs = [.ref wi, .ref t] ∧ WAt C H wi ns ls ∧ H t = some (.tup (VH hs)) ∧ HoldsOk ls hs ∧
  ∀ c us H', Same H H' → H' c = some (.tup (us.map V.ref)) → RPs H' us (goodP ls hs) → Q (.ref c) H'
theorem scGoodRings : FnScope ["wishes", "holds", "lists", "ring"] ["wishes", "holds"] (defScope sGoodRings) := ⟨rfl, rfl, rfl, by decide +kernel, rfl, by decide +kernel, by decide +kernel⟩
theorem sel_filter {α : Type} [Inhabited α] (xs : List α) (f : α → Bool) : (((List.range xs.length).filter fun i => f (xs.getD i default)).map fun i => xs.getD i default) = xs.filter f := by
  have e : xs = (List.range xs.length).map fun i => xs.getD i default := by
    apply List.ext_getElem?
    intro i
    rw [List.getElem?_map]
    by_cases c : i < xs.length
    · rw [List.getElem?_range c, List.getElem?_eq_getElem c]
      show some xs[i] = some (xs.getD i default)
      rw [List.getD_eq_getElem?_getD, List.getElem?_eq_getElem c]
      rfl
    · rw [List.getElem?_eq_none (by omega), List.getElem?_eq_none (by simp; omega)]
      rfl
  conv => rhs; rw [e, List.filter_map]
  rfl
section
variable {P : Program} {w : World} {K : PySem.W.Frag} {mg : Str → Option Value} {base : Heap}
theorem ok_is_odd {f : Addr} {fd : FuncData} {k : Nat} (F : Fun K "_is_odd" "_is_odd" sIsOdd f fd) (ml : mg "len" = none) (ma : mg "all" = none) : FnOk P w K mg base CX0 (k + 1) f fd ["lists", "ring"] spIsOdd := by
  refine F.ok scIsOdd (fun vs H Q E h => ?_) (fun cdv A outer s H vs Q E hr h => ?_)
  · obtain ⟨l, r, L, ps, rfl, _⟩ := h
    rfl
  · obtain ⟨l, r, L, ps, rfl, lt, rp, n100, lts, q⟩ := h
    refine ⟨_, pss_cons (ps_set (i := 2) scIsOdd.nd rfl (.inr rfl) (pe_lc (own := [("_", 3), ("taker", 4)]) (g := gTup K 2 (gCons (gName 3) (gCons (gName 4) gNil))) (tt := tYes) (te := tVar 4) rfl scIsOdd.nd (pi_tup (pv 1))
        (blkOk_by (own := [("_", 3), ("taker", 4)]) (N := ["lists", "ring", "takers", "_", "taker", "giver"]) (sc := defScope sIsOdd) (by decide +kernel)) (fun _ _ _ _ _ => pg_tup rfl (pgs_cons (pg_name (i := 3) scIsOdd.nd rfl (Or.inl rfl)) (pgs_cons (pg_name (i := 4) scIsOdd.nd rfl (Or.inl rfl)) pgs_nil))) (fun _ _ _ _ _ => pts_nil)
        (fun _ _ _ _ _ => pv 4)))
      (pss_one (ps_ret (pe_callB (cr_all rfl) (by rfl) ma (by decide +kernel) (pa_cons (pe_lc (own := [("giver", 5), ("_", 3)]) (g := gTup K 2 (gCons (gName 5) (gCons (gName 3) gNil))) (tt := tYes) (te := tAndV (tOp (rIn K false) (tVar 5) (tVar 2)) (tOp rEq (tCB (rLen K) (tCons (tOp (rIxT K) (tVar 0) (tVar 5)) tNil)) (tC (.int 2)))) rfl scIsOdd.nd (pi_tup (pv 1))
        (blkOk_by (own := [("giver", 5), ("_", 3)]) (N := ["lists", "ring", "takers", "_", "taker", "giver"]) (sc := defScope sIsOdd) (by decide +kernel)) (fun _ _ _ _ _ => pg_tup rfl (pgs_cons (pg_name (i := 5) scIsOdd.nd rfl (Or.inl rfl)) (pgs_cons (pg_name (i := 3) scIsOdd.nd rfl (Or.inl rfl)) pgs_nil))) (fun _ _ _ _ _ => pts_nil)
        (fun _ _ _ _ _ => pe_and (pe_cmpR op_in_seq (pv 5) (pv 2) (by rfl)) (pe_one (pe_cmpR op_eq (pe_callB call_len_seq (by rfl) ml PySem.boot_len (pa_cons (pe_ix ix_tup (pv 0) (pv 5) (fun _ _ => rfl)) pa_nil)) pe_int (nomark _))))) pa_nil)))), ?_⟩
    obtain ⟨us, er, ul, ra⟩ := rp
    obtain ⟨as, ea, al, rows⟩ := lt
    refine ⟨_, rfl, r, rfl, ⟨_, SqT.of er⟩, fun D nD => ?_⟩
    refine lc_same (walk_tup (K := K) (a := r) (xs := us.map V.ref)) (by rw [List.length_map]; omega) (fun i => .int ((ps.getD i (0, 0)).2 : Nat)) nD (fun _ sm => SqT.of (sm _ _ er)) ?_ ?_
    · rintro i x Ha Hb Z out hi sm ⟨rfl, ex⟩
      obtain ⟨u, y, rfl, ey, eu⟩ := RP.at ul ra ex
      rw [show ps.getD i (0, 0) = y by rw [List.getD_eq_getElem?_getD, ey]; rfl] at out
      refine ⟨u, _, rfl, SqT.of (sm _ _ eu), rfl, _, _, rfl, gn ⟨_, _, rfl, gn ⟨rfl, ?_⟩⟩⟩
      exact ⟨rfl, _, rfl, out _ same_rfl⟩
    · intro H1 s1 eD
      have eD' : H1 D = some (.lst (VI (ps.map Prod.snd))) := by
        rw [eD, List.length_map, ul]
        congr 2
        unfold VI
        rw [List.map_map]
        apply List.ext_getElem?
        intro i
        rw [List.getElem?_map, List.getElem?_map]
        by_cases c : i < ps.length
        · rw [List.getElem?_range c, List.getElem?_eq_getElem c]
          show some (V.int ((ps.getD i (0, 0)).2 : Nat)) = _
          rw [List.getD_eq_getElem?_getD, List.getElem?_eq_getElem c]
          rfl
        · rw [List.getElem?_eq_none (by simp; omega), List.getElem?_eq_none (by omega)]
          rfl
      refine gn ?_
      dsimp only [List.set]
      refine ⟨_, rfl, r, rfl, ⟨_, SqT.of (s1 _ _ er)⟩, fun D2 nD2 => ?_⟩
      refine lc_same (walk_tup (K := K) (a := r) (xs := us.map V.ref)) (by rw [List.length_map]; omega) (fun i => .bl (decide ((ps.getD i (0, 0)).1 ∈ ps.map Prod.snd) && decide ((la L (ps.getD i (0, 0)).1).length = 2))) nD2 (fun _ sm => SqT.of (sm _ _ (s1 _ _ er))) ?_ ?_
      · rintro i x Ha Hb Z out hi sm ⟨rfl, ex⟩
        obtain ⟨u, y, rfl, ey, eu⟩ := RP.at ul ra ex
        rw [show ps.getD i (0, 0) = y by rw [List.getD_eq_getElem?_getD, ey]; rfl] at out
        have yl := lts y (List.mem_of_getElem? ey)
        refine ⟨u, _, rfl, SqT.of ((s1.trans sm) _ _ eu), rfl, _, _, rfl, gn ⟨_, _, rfl, gn ⟨rfl, ?_⟩⟩⟩
        dsimp only [List.set]
        refine ⟨rfl, _, rfl, _, rfl, D, _, rfl, .inl (SqL.of (sm _ _ eD')), rfl, flat_VI _, ?_⟩
        show ∃ c, V.bl (inV (.int (y.1 : Nat)) (VI (ps.map Prod.snd))) = .bl c ∧ _
        rw [inV_VI]
        refine ⟨_, rfl, ?_⟩
        have ay : as[y.1]? = some as[y.1] := List.getElem?_eq_getElem (by omega)
        have et := ((rows y.1 _ _ ay (la_get yl)).same s1).same sm
        by_cases c : y.1 ∈ ps.map Prod.snd
        · rw [decide_eq_true c]
          refine iteT ?_
          refine ⟨_, rfl, _, rfl, l, _, _, _, rfl, rfl, SqT.of ((s1.trans sm) _ _ ea), atI_nat (by rw [List.getElem?_map, ay]; rfl), as[y.1], _, rfl, .inr et.sq, ?_⟩
          refine ⟨rfl, ?_⟩
          have o2 := out _ same_rfl
          rw [decide_eq_true c, Bool.true_and] at o2
          have : decide (V.int ((VI (la L y.1)).length : Nat) = V.int 2) = decide ((la L y.1).length = 2) := by
            rw [VI_len, decide_eq_decide]
            constructor
            · intro z
              have := V.int.inj z
              omega
            · intro z
              rw [z]
              rfl
          rw [this]
          exact o2
        · rw [decide_eq_false c]
          have o2 := out _ same_rfl
          rw [decide_eq_false c, Bool.false_and] at o2
          exact iteF o2
      · intro H2 s2 eD2
        refine ⟨D2, ps.map fun x => decide (x.1 ∈ ps.map Prod.snd) && decide ((la L x.1).length = 2), rfl, SqL.of ?_, ?_⟩
        · rw [eD2, List.length_map, ul]
          congr 2
          rw [List.map_map]
          apply List.ext_getElem?
          intro i
          rw [List.getElem?_map, List.getElem?_map]
          by_cases c : i < ps.length
          · rw [List.getElem?_range c, List.getElem?_eq_getElem c]
            show some (V.bl _) = some (V.bl _)
            rw [List.getD_eq_getElem?_getD, List.getElem?_eq_getElem c]
            rfl
          · rw [List.getElem?_eq_none (by simp; omega), List.getElem?_eq_none (by omega)]
            rfl
        · have : (ps.map fun x => decide (x.1 ∈ ps.map Prod.snd) && decide ((la L x.1).length = 2)).all id = oddB L ps := by
            unfold oddB
            rw [List.all_map]
            rfl
          rw [this]
          exact q _ (s1.trans s2)
theorem ok_is_odd_turn {f f1 f2 C : Addr} {fd d1 d2 : FuncData} {k : Nat} (F : Fun K "is_odd_turn" "is_odd_turn" sIsOddTurn f fd) (Io : Has P w K mg base k "_is_odd" ["lists", "ring"] spIsOdd f1 d1) (Ll : Has P w K mg base k "left_lists" ["wishes", "holds"] (spLeftLists C) f2 d2) : FnOk P w K mg base CX0 (k + 1) f fd ["wishes", "holds", "ring"] (spIsOddTurn C) := by
  refine F.ok scIsOddTurn (fun vs H Q E h => ?_) (fun cdv A outer s H vs Q E hr h => ?_)
  · obtain ⟨wi, t, r, ns, ls, hs, ps, rfl, _⟩ := h
    rfl
  · obtain ⟨wi, t, r, ns, ls, hs, ps, rfl, W, et, ho, rp, n100, lts, q⟩ := h
    refine ⟨_, pss_one (ps_ret (pe_call Io.ok hr rfl Io.m Io.k Io.b .nil pass0 (pa_cons (pe_call Ll.ok hr rfl Ll.m Ll.k Ll.b .nil pass0 (pa_cons (pv 0) (pa_cons (pv 1) pa_nil))) (pa_cons (pv 2) pa_nil)))), ?_⟩
    refine ⟨_, rfl, _, rfl, wi, t, ns, ls, hs, rfl, W, et, ho, fun l H1 s1 lt => ?_⟩
    exact ⟨_, rfl, l, r, leftA ls hs, ps, rfl, lt, rp.same s1, n100, fun x hx => by rw [leftA_len]; exact lts x hx, fun H2 s2 => q H2 (s1.trans s2)⟩
theorem ok_good_rings {f f1 f2 f3 C : Addr} {fd d1 d2 d3 : FuncData} {k : Nat} (F : Fun K "good_rings" "good_rings" sGoodRings f fd) (Io : Has P w K mg base k "_is_odd" ["lists", "ring"] spIsOdd f1 d1) (Ll : Has P w K mg base k "left_lists" ["wishes", "holds"] (spLeftLists C) f2 d2)
    (Ri : Has P w K mg base k "_rings_in" ["holds", "lists"] spRingsIn f3 d3) (mt : mg "tuple" = none) : FnOk P w K mg base CX0 (k + 1) f fd ["wishes", "holds"] (spGoodRings C) := by
  refine F.ok scGoodRings (fun vs H Q E h => ?_) (fun cdv A outer s H vs Q E hr h => ?_)
  · obtain ⟨wi, t, ns, ls, hs, rfl, _⟩ := h
    rfl
  · obtain ⟨wi, t, ns, ls, hs, rfl, W, et, ho, q⟩ := h
    refine ⟨_, pss_cons (ps_set (i := 2) scGoodRings.nd rfl (.inr rfl) (pe_call Ll.ok hr rfl Ll.m Ll.k Ll.b .nil pass0 (pa_cons (pv 0) (pa_cons (pv 1) pa_nil))))
      (pss_one (ps_ret (pe_callTy call_tuple_of (by rfl) mt (by decide +kernel) (pa_cons (pe_lc (own := [("ring", 3)]) (g := gName 3) (tt := tNot (tB (tCall spIsOdd [] E0 (tCons (tVar 2) (tCons (tVar 3) tNil))))) (te := tVar 3) rfl scGoodRings.nd (pi_tup (pe_call Ri.ok hr rfl Ri.m Ri.k Ri.b .nil pass0 (pa_cons (pv 1) (pa_cons (pv 2) pa_nil))))
        (blkOk_by (own := [("ring", 3)]) (N := ["wishes", "holds", "lists", "ring"]) (sc := defScope sGoodRings) (by decide +kernel)) (fun _ _ _ _ _ => pg_name (i := 3) scGoodRings.nd rfl (Or.inl rfl)) (fun _ _ _ _ _ => pts_one (pt_not (pt_val (pe_call Io.ok hr rfl Io.m Io.k Io.b .nil pass0 (pa_cons (pv 2) (pa_cons (pv 3) pa_nil))))))
        (fun _ _ _ _ _ => pv 3)) pa_nil)))), ?_⟩
    refine ⟨_, rfl, _, rfl, wi, t, ns, ls, hs, rfl, W, et, ho, fun l H1 s1 lt => gn ?_⟩
    dsimp only [List.set]
    have n60 := W.n60.2
    have W1 := W.same s1
    refine ⟨_, rfl, _, rfl, t, l, ls, hs, rfl, s1 _ _ et, lt, ho, W.ok, by omega, fun c us H2 s2 ec rps => ?_⟩
    have lt2 := lt.same s2
    have ul := rps.1
    have rl : (ringsP ls hs).length ≤ 100 := by
      unfold ringsP ringsA
      rw [List.length_map, List.length_map]
      refine Nat.le_trans (List.length_filter_le _ _) ?_
      rw [List.length_range, givA_len]
      omega
    refine ⟨c, rfl, ⟨_, SqT.of ec⟩, fun D nD => ?_⟩
    refine lc_pick (walk_tup (K := K) (a := c) (xs := us.map V.ref)) (by rw [List.length_map]; omega) (fun i => !oddB (leftA ls hs) ((ringsP ls hs).getD i [])) (fun i => .ref (us.getD i default)) nD (fun _ sm => SqT.of (sm _ _ ec)) ?_ ?_
    · rintro i x Ha Hb R Z yes' no' hi sm ⟨rfl, ex⟩
      rw [List.length_map] at hi
      have eu : us[i]? = some us[i] := List.getElem?_eq_getElem hi
      rw [List.getElem?_map, eu] at ex
      cases ex
      have hi2 : i < (ringsP ls hs).length := by omega
      have ep : (ringsP ls hs)[i]? = some (ringsP ls hs)[i] := List.getElem?_eq_getElem hi2
      have rp := (rps.2 i _ _ eu ep).same sm
      rw [show (ringsP ls hs).getD i [] = (ringsP ls hs)[i] by rw [List.getD_eq_getElem?_getD, ep]; rfl] at yes' no'
      rw [show us.getD i default = us[i] by rw [List.getD_eq_getElem?_getD, eu]; rfl] at yes'
      have hm : (ringsP ls hs)[i] ∈ ringsP ls hs := List.getElem_mem hi2
      generalize (ringsP ls hs)[i] = ps at rp yes' no' hm
      unfold ringsP at hm
      obtain ⟨r, hr', rfl⟩ := List.mem_map.mp hm
      obtain ⟨p, m, hp, _, cy, er2⟩ := ringsA_one hr'
      rw [givA_len] at hp
      have two := orb_two W.ok ho hp cy
      refine gn ⟨rfl, _, rfl, _, rfl, l, _, leftA ls hs, prs ls hs r, rfl, lt2.same sm, rp, ?_, fun x hx => ?_, fun H3 s3 => ⟨_, rfl, ?_⟩⟩
      · unfold prs
        rw [List.length_map, er2, ringL_len]
        have := cy.le fun k => (two k).1
        omega
      · unfold prs at hx
        obtain ⟨y, hy, rfl⟩ := List.mem_map.mp hx
        rw [er2] at hy
        obtain ⟨k, _, rfl⟩ := ringL_mem.mp hy
        rw [leftA_len]
        exact (two k).1
      · cases hb : oddB (leftA ls hs) (prs ls hs r) with
        | true => exact iteF (no' _ s3 (by rw [hb]; rfl))
        | false => exact iteT ⟨_, rfl, yes' _ s3 (by rw [hb]; rfl)⟩
    · intro H3 s3 eD
      refine ⟨D, _, rfl, .inl ⟨SqL.of eD, fun d nd => ?_⟩⟩
      have s13 := (s1.trans s2).trans s3
      rw [List.length_map]
      refine q d (((List.range us.length).filter fun i => !oddB (leftA ls hs) ((ringsP ls hs).getD i [])).map fun i => us.getD i default) _ (s13.fresh (s13.free nd)) ?_ ⟨?_, fun j u ps e1 e2 => ?_⟩
      · rw [upd_same, List.map_map]
        rfl
      · have := sel_filter (ringsP ls hs) (fun ps => !oddB (leftA ls hs) ps)
        unfold goodP
        rw [← this, List.length_map, List.length_map, ul]
        rfl
      · have := sel_filter (ringsP ls hs) (fun ps => !oddB (leftA ls hs) ps)
        unfold goodP at e2
        rw [← this, List.getElem?_map] at e2
        rw [List.getElem?_map, ul] at e1
        have hd : (default : List (Nat × Nat)) = [] := rfl
        rw [hd] at e2
        cases e3 : ((List.range (ringsP ls hs).length).filter fun i => !oddB (leftA ls hs) ((ringsP ls hs).getD i []))[j]? with
        | none => rw [e3] at e1; cases e1
        | some i =>
          rw [e3] at e1 e2
          cases e1
          cases e2
          have hi := List.mem_range.mp (List.mem_filter.mp (List.mem_of_getElem? e3)).1
          have eu : us[i]? = some us[i] := List.getElem?_eq_getElem (by omega)
          have ep : (ringsP ls hs)[i]? = some (ringsP ls hs)[i] := List.getElem?_eq_getElem hi
          have rp := (rps.2 i _ _ eu ep).same s3
          have q1 : us.getD i default = us[i] := by rw [List.getD_eq_getElem?_getD, eu]; rfl
          have q2 : (ringsP ls hs).getD i [] = (ringsP ls hs)[i] := by rw [List.getD_eq_getElem?_getD, ep]; rfl
          show RP _ (us.getD i default) ((ringsP ls hs).getD i [])
          rw [q1, q2]
          exact rp.same (same_upd nd)
end
end K14
/-! isinstance of a caught error that has fields; a lambda heard: told, or refused with its word -/
namespace K14
open PySem PySem.Spec PyProof.Rows L2
def rIsX (K : PySem.W.Frag) (D a : Addr) (cls : Value) (d : Option Addr) : List V → Hp → VK → Prop := fun xs H Q => ∃ (c : V) (cv : Value) (b : Bool) (dd : Addr) (fs : List (Str × V)), xs = [.ref a, c] ∧ cls = .ref D ∧ d = some dd ∧ H dd = some (.xd fs) ∧ (∀ u, RelV c u → u = cv) ∧ PySem.W.kitOne K (.ref D) cv = some b ∧ Q (.bl b) H
theorem call_isX {X : Cx} {a D : Addr} {oe : Obj} {cls : Value} {d : Option Addr} {pn : List (Addr × Obj)} (C : ExcC X.K D) (hz : Zc cls d oe) (hf : ∃ vs, oe.data = .fields vs) : CallR (X.suite a ((a, oe) :: pn)) (.builtin "isinstance") (rIsX X.K D a cls d) := by
  intro pins s σ H xs us Q I r h
  obtain ⟨c, cv, b, dd, fs, rfl, rfl, rfl, ea, hcv, e, q⟩ := h
  match us, r with
  | _, .cons rx (.cons rt .nil) =>
    have e1 := hcv _ rt
    subst e1
    cases rx
    have at_a := (I.pin (a, oe) (List.mem_append_left _ List.mem_cons_self)).1
    obtain ⟨vs, hv⟩ := hf
    obtain ⟨mA, ns, _⟩ := (I.hok dd _ ea : ObjOk X.prog X.w H s.heap dd (.xd fs))
    obtain ⟨od, od1, _⟩ := lookIn_ns ns
    have J : PySem.W.InstAt s.heap a oe D (some od) := ⟨at_a, hz.1, by unfold PySem.W.notCls; rw [hv] <;> rfl, by rw [hz.2]; exact od1⟩
    have isc : (PySem.W.clsIn X.K D).isSome = true := by
      obtain ⟨cd, hc, _⟩ := PySem.W.any_some C.hd
      rw [hc]
      rfl
    exact PySem.W.kia_one (PySem.W.kitx_exc isc C.hg C.hk C.hs C.ha C.hn C.ht C.hm) I.kIn J e (fun z => nomatch z) fun tk => ⟨.bl b, H, I.kept (t' := tk) fun _ _ z => z, rfl, q⟩
/-- what the top says of the errors: Refused at CR, MateError at CM -/
structure ErrT (K : PySem.W.Frag) (mg : Str → Option Value) (CR CM fI : Addr) : Prop where
  o : OexC K CR
  x : XfC K CR
  c : ExcC K CR
  noW : PySem.W.findIn K (.ref CR) "word" = some none
  iC : PySem.W.findIn K (.ref CR) "__init__" = some (some (.ref fI))
  tI : PySem.W.typeIn K (.ref fI) = some (.type "function")
  gR : mg "Refused" = some (.ref CR)
  gM : mg "MateError" = some (.ref CM)
  kM : PySem.W.keepIn K (.ref CM) = true
  ex : PySem.W.exmOne K (.ref CR) (.ref CR) = some true
  is : PySem.W.kitOne K (.ref CR) (.ref CM) = some true
/-- what is made of a lambda that is heard -/
def THeard (CR : Addr) : (XK → Hp → VK → Prop) → Hp → VK → Prop := fun tl H Q =>
  tl (fun cls d H' => cls = .ref CR ∧ ∃ (dd : Addr) (wd : V), d = some dd ∧ H' dd = some (.xd [("word", wd)]) ∧ ∀ p, H' p = none → Q (.ref p) (upd H' p (.tup [.str "refused", wd]))) H
    fun v H' => 2 ≤ sizeLine ∧ ∀ p, H' p = none → Q (.ref p) (upd H' p (.tup [.str "told", v]))
theorem scHeard : FnScope ["action", "error"] ["action"] (defScope sLHeard) := ⟨rfl, rfl, rfl, by decide +kernel, rfl, by decide +kernel, by decide +kernel⟩
theorem two_of_len {σ : L2.St} (h : σ.length = 2) : ∃ x y, σ = [x, y] := by
  match σ, h with
  | [x, y], _ => exact ⟨x, y, rfl⟩
theorem heard_gives {X : Cx} {g CR CM fI : Addr} {cdg : Value} {q : Str} (T : ErrT X.K X.mg CR CM fI) (mis : X.mg "isinstance" = none) : LamX.GivesTo X ["action", "error"] "_law_heard" (defScope sLHeard) g cdg (defBody sLHeard) "action" q (THeard CR) := by
  intro f c' s H Q tl act hc h
  have s2 : ([V.str "told", V.non] : List V).length ≤ sizeLine := by show 2 ≤ sizeLine; decide
  refine ⟨_, pss_one (ps_try_as (X := (cxOf C8.CX0 X.prog X.w X.K X.mg X.base ["action", "error"] "_law_heard" (defScope sLHeard) g cdg X.A X.stack s H C8.E0).nox) (i := 1) (c := .ref CR)
      (tb := fun W D σ H => ∃ Ech : XK, (∀ cls d σ' H', σ'.length = 2 → Ech cls d H' → W cls d σ' H') ∧ σ[0]? = some (some (.ref f)) ∧ H c' = some (LamX.CodeO c' q) ∧ tl Ech H fun v H1 => 2 ≤ sizeLine ∧ ∀ p, H1 p = none → D.rt (.ref p) (upd H1 p (.tup [.str "told", v])))
      (ts := fun a cls d => tRet (tTup (tCons (tC (.str "refused")) (tCons (tIf (tB (tCB (rIsX X.K CR a cls d) (tCons (tVar 1) (tCons (tC (.ref CM)) tNil)))) (tXf a cls d CR "word" (tVar 1)) (tC (.str "mixed"))) tNil))))
      rfl rfl scHeard.nd rfl rfl ⟨rfl, by decide, .inl T.gR⟩ LamX.takes0 (fun W pn xe tk _ => ?_) (fun a oe cls d pn hz hf => ?_)), ?_⟩
  · refine ⟨fun pins s' σ H' D I h' => ?_⟩
    obtain ⟨Ech, hW, h1, h2, h3⟩ := h'
    have tk0 : Takes ((cxOf C8.CX0 X.prog X.w X.K X.mg X.base ["action", "error"] "_law_heard" (defScope sLHeard) g cdg X.A X.stack s H C8.E0).tr pn xe) (fun cls d σ' H' => W cls d σ' H' ∨ σ'.length ≠ 2) := by
      rintro u s9 ⟨a, B, sI, pins9, σ9, H9, cls, d, e, I9, nb, up, sky, na, os, ag, w⟩
      refine tk u s9 ⟨a, B, sI, pins9, σ9, H9, cls, d, e, I9, nb, up, sky, na, os, ag, ?_⟩
      rcases w with w | w
      · exact w
      · exact absurd I9.len w
    have hW0 : ∀ cls d σ' H', Ech cls d H' → W cls d σ' H' ∨ σ'.length ≠ 2 := fun cls d σ' H' hE => by
      by_cases c : σ'.length = 2
      · exact .inl (hW cls d σ' H' c hE)
      · exact .inr c
    refine (pss_one (ps_ret (pe_tup (pa_cons pe_str (pa_cons (act _ pn xe Ech _ _ tk0 hW0) pa_nil))))).run pins s' σ H' D I ?_
    exact ⟨h1, h2, h3⟩
  · exact pss_one (ps_ret (pe_tup (pa_cons pe_str (pa_cons (pe_ifExp (pt_val (pe_callB (call_isX T.c hz hf) (by rfl) mis (by decide +kernel) (pa_cons (pv 1) (pa_cons (pe_glob (v := .ref CM) rfl T.gM rfl) pa_nil)))) (pe_xf T.x T.noW hz hf (pv 1)) pe_str) pa_nil))))
  · refine ⟨fun cls d H' => cls = .ref CR ∧ ∃ (dd : Addr) (wd : V), d = some dd ∧ H' dd = some (.xd [("word", wd)]) ∧ ∀ p, H' p = none → Q (.ref p) (upd H' p (.tup [.str "refused", wd])), fun cls d σ' H' l2 hE => ?_, rfl, hc, ?_⟩
    · obtain ⟨x, y, rfl⟩ := two_of_len l2
      obtain ⟨rfl, dd, wd, rfl, ed, qq⟩ := hE
      refine ⟨true, T.ex, fun _ a na => ?_, fun z => nomatch z⟩
      refine ⟨_, rfl, .ref CM, .ref CM, true, dd, _, rfl, rfl, rfl, ed, fun u r => r, T.is, true, rfl, iteT ?_⟩
      exact ⟨_, rfl, rfl, rfl, dd, _, wd, rfl, ed, by simp [List.lookup], (by show 2 ≤ sizeLine; decide), qq⟩
    · exact h
end K14
namespace K14
open PySem PySem.Spec PyProof.Rows L2
theorem atI_behind {α : Type} {xs : List α} {k : Nat} {v : α} (hk : k < xs.length) (h : xs[(k + xs.length - 1) % xs.length]? = some v) : atI xs ((k : Int) - 1) = some v := by
  cases k with
  | zero =>
    rcases List.eq_nil_or_concat xs with rfl | ⟨ys, y, rfl⟩
    · simp at hk
    · have hl : (ys ++ [y]).length = ys.length + 1 := by simp
      rw [show ys.concat y = ys ++ [y] by simp] at h ⊢
      rw [hl, show 0 + (ys.length + 1) - 1 = ys.length by omega, Nat.mod_eq_of_lt (by omega), List.getElem?_append_right (Nat.le_refl _)] at h
      simp at h
      subst h
      exact atI_last _ _
  | succ j =>
    rw [show j + 1 + xs.length - 1 = j + xs.length by omega, Nat.add_mod_right, Nat.mod_eq_of_lt (by omega)] at h
    have := atI_nat h
    rw [show (((j + 1 : Nat) : Int) - 1) = (j : Int) by omega]
    exact this
def spHoldsPast : Sp := fun vs H Q _ => ∃ (t r : Addr) (hs : List (Option Nat)) (ps : List (Nat × Nat)), vs = [.ref t, .ref r] ∧ H t = some (.tup (VH hs)) ∧ hs.length ≤ 100 ∧ RP H r ps ∧ ps.length ≤ 100 ∧ (ps.map Prod.snd).Nodup ∧ (∀ x ∈ ps, x.2 < hs.length) ∧
  ∀ c hs' H', Same H H' → Past hs ps hs' → H' c = some (.tup (VH hs')) → Q (.ref c) H'
/-- the first k of a ring turned -/
structure PastK (hs : List (Option Nat)) (ps : List (Nat × Nat)) (k : Nat) (hs' : List (Option Nat)) : Prop where
  len : hs'.length = hs.length
  yes : ∀ i x y, i < k → ps[i]? = some x → ps[(i + ps.length - 1) % ps.length]? = some y → ha hs' x.2 = some y.1
  no : ∀ q, (∀ i x, i < k → ps[i]? = some x → x.2 ≠ q) → ha hs' q = ha hs q
theorem PastK.step {hs hs' : List (Option Nat)} {ps : List (Nat × Nat)} {k : Nat} {x y : Nat × Nat} (P : PastK hs ps k hs') (nd : (ps.map Prod.snd).Nodup) (ex : ps[k]? = some x) (ey : ps[(k + ps.length - 1) % ps.length]? = some y) (lt : x.2 < hs.length) : PastK hs ps (k + 1) (hs'.set x.2 (some y.1)) where
  len := by rw [List.length_set, P.len]
  yes := fun i x' y' hi e1 e2 => by
    rw [ha_set (by rw [P.len]; exact lt)]
    by_cases c : i = k
    · subst c
      rw [ex] at e1
      cases e1
      rw [if_pos rfl]
      rw [ey] at e2
      cases e2
      rfl
    · rw [if_neg]
      · exact P.yes i x' y' (by omega) e1 e2
      · intro z
        have h1 : (ps.map Prod.snd)[i]? = some x.2 := by rw [List.getElem?_map, e1, ← z]; rfl
        have h2 : (ps.map Prod.snd)[k]? = some x.2 := by rw [List.getElem?_map, ex]; rfl
        exact c (nodup_ix nd h1 h2)
  no := fun q h => by
    rw [ha_set (by rw [P.len]; exact lt), if_neg fun z => h k x (by omega) ex z.symm]
    exact P.no q fun i x' hi e => h i x' (by omega) e
def spTurnedOut (C : Addr) : Sp := fun vs H Q _ => ∃ (wi t r : Addr) (ns ls : List (List Nat)) (hs : List (Option Nat)) (ps : List (Nat × Nat)), vs = [.ref wi, .ref t, .ref r] ∧ WAt C H wi ns ls ∧ H t = some (.tup (VH hs)) ∧ HoldsOk ls hs ∧ RP H r ps ∧ ps.length ≤ 100 ∧ (∀ x ∈ ps, x.1 < ls.length ∧ x.2 < ls.length) ∧ (ps.map Prod.snd).Nodup ∧ oddB (leftA ls hs) ps = false ∧
  ∀ c hs' H', Same H H' → Past hs ps hs' → H' c = some (.tup (VH hs')) → Q (.ref c) H'
section
variable {P : Program} {w : World} {K : PySem.W.Frag} {mg : Str → Option Value} {base : Heap}
end
end K14
namespace K14
open PySem PySem.Spec PyProof.Rows L2
def spRefInit (CR : Addr) : Sp := fun vs H Q _ => ∃ (a : Addr) (wd : V), vs = [.ref a, wd] ∧ H a = some (exo a CR none) ∧ ∀ dx, H dx = none → dx ≠ a → Q .non (upd (upd H dx (exd dx [("word", wd)])) a (exo a CR (some dx)))
theorem scRefInit : FnScope ["self", "word"] ["self", "word"] (defScope sRefusedInit) := ⟨rfl, rfl, rfl, by decide +kernel, rfl, by decide +kernel, by decide +kernel⟩
def spTurnedX (C CR : Addr) : Sp := fun vs H _ E => ∃ (wi t r : Addr) (ns ls : List (List Nat)) (hs : List (Option Nat)) (ps : List (Nat × Nat)), vs = [.ref wi, .ref t, .ref r] ∧ WAt C H wi ns ls ∧ H t = some (.tup (VH hs)) ∧ HoldsOk ls hs ∧ RP H r ps ∧ ps.length ≤ 100 ∧ (∀ x ∈ ps, x.1 < ls.length) ∧ oddB (leftA ls hs) ps = true ∧
  ∀ dd H', Same H H' → H' dd = some (.xd [("word", .str "odd")]) → E (.ref CR) (some dd) H'
section
variable {P : Program} {w : World} {K : PySem.W.Frag} {mg : Str → Option Value} {base : Heap}
theorem ok_ref_init {f CR CM : Addr} {fd : FuncData} {k : Nat} (F : Fun K "__init__" "Refused.__init__" sRefusedInit f fd) (T : ErrT K mg CR CM f) : FnOk P w K mg base CX0 (k + 1) f fd ["self", "word"] (spRefInit CR) := by
  refine F.ok scRefInit (fun vs H Q E h => ?_) (fun cdv A outer s H vs Q E hr h => ?_)
  · obtain ⟨a, wd, rfl, _⟩ := h
    rfl
  · obtain ⟨a, wd, rfl, ea, q⟩ := h
    refine ⟨_, pss_one (ps_ost (pv 0) (pv 1)), ?_⟩
    exact ⟨_, rfl, _, rfl, a, CR, rfl, T.o, T.noW, .inl ⟨ea, q⟩⟩
/-- Refused(word) made: what is left -/
theorem made_ref {CR : Addr} {H : Hp} {wd : V} {Q : XK} (q : ∀ dd H', Same H H' → H' dd = some (.xd [("word", wd)]) → Q (.ref CR) (some dd) H') : tMkO CR (spRefInit CR) [] (tCons (tC wd) tNil) [] H Q := by
  refine ⟨by simp, fun a na => ⟨a, wd, rfl, upd_same, fun dx ndx ne => ⟨rfl, dx, [("word", wd)], upd_same, ?_, ?_, ?_⟩⟩⟩
  · rw [upd_ne ne, upd_same]
  · rw [upd_ne ne] at ndx
    exact ndx
  · have ndx' : H dx = none := by
      rw [upd_ne ne] at ndx
      exact ndx
    refine q dx _ (fun b o e => ?_) upd_same
    have n1 : b ≠ a := ne_of_none e na
    have n2 : b ≠ dx := ne_of_none e ndx'
    rw [upd_ne n2, del_ne n1, upd_ne n1, upd_ne n2, upd_ne n1]
    exact e
end
end K14
namespace K14
open PySem PySem.Spec PyProof.Rows L2
section
variable {J : It} {n : Nat} {G : Hp → Prop} {Y : Nat → Hp → V → Hp → Prop}
/-- a comprehension of new lists -/
theorem lc_lsts (w : Walk J n G Y) {g : TG} {te : TE} {vs : List Nat} {σ : L2.St} {H0 : Hp} {D : Addr} {Qd : Hp → Prop} (hn : n ≤ 100000) (X : Nat → List V) (nD : H0 D = none) (hG : ∀ H, Same H0 H → G H)
    (hs : ∀ (i : Nat) (x : V) (H H' : Hp) (Z : V → Hp → Prop), (∀ r H3, Same H H3 → H r = none → H3 r = some (.lst (X i)) → Z (.ref r) H3) → i < n → Same H0 H → Y i H x H' → g x (wipe σ vs) H' fun σ2 H2 => wipe σ2 vs = wipe σ vs ∧ te σ2 H2 Z)
    (hd : ∀ (rs : List Addr) H, Same H0 H → H D = some (.lst (rs.map V.ref)) → rs.length = n → (∀ (j : Nat) (r : Addr), rs[j]? = some r → H0 r = none ∧ r ≠ D ∧ H r = some (.lst (X j))) → Qd H) :
    ∃ W : Nat → Nat → Hp → Prop, (∃ m, W 0 m (upd H0 D (.lst []))) ∧ ∀ i m H, W i m H →
      (J.stop i H ∧ Qd H) ∨ (J.go i H ∧ ∃ Nx : Hp → Prop, (∀ H', Nx H' → ∃ m', m' < m ∧ W (i + 1) m' H') ∧ ∀ x H', J.yld i H x H' → g x (wipe σ vs) H' fun σ2 H2 => wipe σ2 vs = wipe σ vs ∧ tYes σ2 H2 fun b H3 =>
        if b = true then te σ2 H3 fun y H4 => ∃ acc, H4 D = some (.lst acc) ∧ acc.length < sizeLine ∧ Nx (upd H4 D (.lst (acc ++ [y]))) else Nx H3) := by
  refine lc_it w (fun i H => ∃ rs : List Addr, Same H0 H ∧ H D = some (.lst (rs.map V.ref)) ∧ rs.length = i ∧ ∀ (j : Nat) (r : Addr), rs[j]? = some r → H0 r = none ∧ r ≠ D ∧ H r = some (.lst (X j))) ⟨[], same_upd nD, upd_same, rfl, fun _ _ e => by simp at e⟩ (fun i H _ ⟨_, h, _⟩ => hG H h) (fun i x H H' hi ⟨rs, sm, eD, rl, old⟩ y => ?_) (fun H ⟨rs, sm, eD, rl, old⟩ => hd rs H sm eD rl old)
  refine hs i x H H' (fun v H3 => ∃ acc, H3 D = some (.lst acc) ∧ acc.length < sizeLine ∧ (fun H => ∃ rs : List Addr, Same H0 H ∧ H D = some (.lst (rs.map V.ref)) ∧ rs.length = i + 1 ∧ ∀ (j : Nat) (r : Addr), rs[j]? = some r → H0 r = none ∧ r ≠ D ∧ H r = some (.lst (X j))) (upd H3 D (.lst (acc ++ [v])))) (fun r H3 s3 nr er => ?_) hi sm y
  have eD3 := s3 _ _ eD
  have nrD : r ≠ D := fun z => by
    rw [z, eD] at nr
    cases nr
  refine ⟨_, eD3, ?_, rs ++ [r], (sm.trans s3).fresh nD, by rw [upd_same]; simp, by simp [rl], ?_⟩
  · rw [List.length_map, rl]
    exact sz6' (by omega)
  · intro j q e
    by_cases c : j < rs.length
    · rw [List.getElem?_append_left c] at e
      obtain ⟨o1, o2, o3⟩ := old j q e
      exact ⟨o1, o2, by rw [upd_ne o2]; exact s3 _ _ o3⟩
    · have hj : j = rs.length := by
        have := (List.getElem?_eq_some_iff.mp e).1
        simp at this
        omega
      subst hj
      simp at e
      subst e
      rw [rl]
      exact ⟨sm.free nr, nrD, by rw [upd_ne nrD]; exact er⟩
end
/-- lists that go round -/
def rnd (m one : Nat) : List Nat := (List.range (m / 2)).map fun at_ => (one + 1 + 2 * at_) % m
theorem rnd_ok {m : Nat} (hm : m = 4 ∨ m = 6) : ∀ i, i < m → (rnd m i).Nodup ∧ ∀ j ∈ rnd m i, j < m ∧ j ≠ i ∧ i ∈ rnd m j := by
  rcases hm with rfl | rfl
  · decide
  · decide
theorem rnd_len {m one : Nat} : (rnd m one).length = m / 2 := by simp [rnd]
theorem round_lists {m : Nat} {ls : List (List Nat)} (hm : m = 4 ∨ m = 6) (ll : ls.length = m) (pm : ∀ (i : Nat) (s : List Nat), ls[i]? = some s → s.Perm (rnd m i)) : ListsOk m ls where
  len := ll
  nd := fun i s e => by
    have hi : i < m := by have := (List.getElem?_eq_some_iff.mp e).1; omega
    exact (pm i s e).nodup_iff.mpr (rnd_ok hm i hi).1
  both := fun i s j e hj => by
    have hi : i < m := by have := (List.getElem?_eq_some_iff.mp e).1; omega
    obtain ⟨h1, h2, h3⟩ := (rnd_ok hm i hi).2 j ((pm i s e).mem_iff.mp hj)
    have et : ls[j]? = some ls[j] := List.getElem?_eq_getElem (by omega)
    exact ⟨h1, h2, ls[j], et, (pm j _ et).mem_iff.mpr h3⟩
def spRound : Sp := fun vs H Q _ => ∃ (h l : Addr) (m : Nat), vs = [.ref h, .int m] ∧ Src H h l ∧ (m = 4 ∨ m = 6) ∧
  ∀ (r : Addr) (ls : List (List Nat)) (H' : Hp), Src H' h l → Bar h l H H' → H r = none → LX H' r ls → ls.length = m → ListsOk ls.length ls → (∀ (i : Nat) (s : List Nat), ls[i]? = some s → s.Perm (rnd m i)) → Q (.ref r) H'
theorem scRound : FnScope ["heap", "many", "lists", "one", "at", "row"] ["heap", "many"] (defScope sLRound) := ⟨rfl, rfl, rfl, by decide +kernel, rfl, by decide +kernel, by decide +kernel⟩
abbrev rTupX (K : PySem.W.Frag) : List V → Hp → VK → Prop := fun xs H Q => ∃ p ys, xs = [.ref p] ∧ SqL K H p ys ∧ ∀ l H', H l = none → Same H H' → Ex H' l ys → (∀ b o, b ≠ l → H' b = some o → H b = some o) → Q (.ref l) H'
theorem call_tupleXL {X : Cx} : CallR X (.type "tuple") (rTupX X.K) := call_tupleX
section
variable {P : Program} {w : World} {K : PySem.W.Frag} {mg : Str → Option Value} {base : Heap}
theorem ok_round {f f1 f2 : Addr} {fd d1 d2 : FuncData} {k : Nat} (F : Fun K "_law_round" "_law_round" sLRound f fd) (Dr : Has P w K mg base k "_law_draw" ["heap", "many"] spDraw f1 d1) (Sh : Has P w K mg base k "_law_shuffled" ["heap", "some"] spShuffled f2 d2)
    (mr : mg "range" = none) (mt : mg "tuple" = none) (mi : mg "int" = none) (mli : mg "list" = none) : FnOk P w K mg base CX0 (k + 1) f fd ["heap", "many"] spRound := by
  refine F.ok scRound (fun vs H Q E h => ?_) (fun cdv A outer s H vs Q E hr h => ?_)
  · obtain ⟨h, l, m, rfl, _⟩ := h
    rfl
  · obtain ⟨h, l, m, rfl, src, hm, q⟩ := h
    refine ⟨_, pss_cons (ps_setLc (i := 2) (own := [("one", 3)]) (g := gName 3) (tt := tYes) rfl scRound.nd rfl rfl (sw_true rfl rfl rfl (by decide +kernel)) (pi_range1 rfl mr (pa_cons (pv 1) pa_nil))
          (blkOk_by (own := [("one", 3)]) (N := ["heap", "many", "lists", "one", "at", "row"]) (sc := defScope sLRound) (by decide +kernel)) (fun _ _ _ _ _ => pg_name (i := 3) scRound.nd rfl (Or.inr rfl)) (fun _ _ _ _ _ => pts_nil)
          (fun _ _ _ _ _ => pe_lc (own := [("at", 4)]) (g := gName 4) (tt := tYes) rfl scRound.nd (pi_range1 (by rfl) mr (pa_cons (pe_op op_fdiv (pv 1) pe_int) pa_nil))
              (blkOk_by (own := [("at", 4)]) (by rfl)) (fun _ _ _ _ _ => pg_name (i := 4) scRound.nd rfl (Or.inl rfl)) (fun _ _ _ _ _ => pts_nil)
              (fun _ _ _ _ _ => pe_op op_mod (pe_callTy call_int1 (by rfl) mi (by decide +kernel) (pa_cons (pe_op op_add (pe_op op_add (pv 3) pe_int) (pe_op op_mul pe_int (pv 4))) pa_nil)) (pv 1))))
      (pss_cons (ps_if (pt_cmpR op_eq (pe_call Dr.ok hr rfl Dr.m Dr.k Dr.b .nil pass0 (pa_cons (pv 0) (pa_cons pe_int pa_nil))) pe_int (nomark _))
        (pss_cons (ps_set (i := 3) scRound.nd rfl (.inl rfl) (pe_call Dr.ok hr rfl Dr.m Dr.k Dr.b .nil pass0 (pa_cons (pv 0) (pa_cons (pv 1) pa_nil))))
        (pss_one (ps_asg (pe_callTy call_list_of (by rfl) mli (by decide +kernel) (pa_cons (pe_call Sh.ok hr rfl Sh.m Sh.k Sh.b .nil pass0 (pa_cons (pv 0) (pa_cons (pe_ix ix_list (pv 2) (pv 3) (fun _ _ => rfl)) pa_nil))) pa_nil)) (pg_sub (pv 2) (pv 3) set_list)))) pss_nil)
      (pss_one (ps_ret (pe_callTy call_tuple_of (by rfl) mt (by decide +kernel) (pa_cons (pe_lc (own := [("row", 5)]) (g := gName 5) (tt := tYes) (te := tCB (rTupX K) (tCons (tVar 5) tNil)) rfl scRound.nd (pi_list (pv 2))
          (blkOk_by (own := [("row", 5)]) (N := ["heap", "many", "lists", "one", "at", "row"]) (sc := defScope sLRound) (by decide +kernel)) (fun _ _ _ _ _ => pg_name (i := 5) scRound.nd rfl (Or.inl rfl)) (fun _ _ _ _ _ => pts_nil)
          (fun _ _ _ _ _ => pe_callTy call_tupleXL (by rfl) mt (by decide +kernel) (pa_cons (pv 5) pa_nil))) pa_nil))))), ?_⟩
    have m6 : 4 ≤ m ∧ m ≤ 6 := by omega
    refine ⟨_, rfl, _, rfl, by omega, by omega, fun D nD => ?_⟩
    refine lc_lsts (J := Itr 0 m) (n := m) walk_range0 (by omega) (fun one => VI (rnd m one)) nD (fun _ _ => trivial) ?_ ?_
    · rintro one x Ha Hb Z out hi sm ⟨rfl, rfl⟩
      refine gn ⟨rfl, _, rfl, _, _, rfl, rfl, ⟨by decide, by decide⟩, (m / 2 : Nat), ?_, by omega, by omega, fun C nC => ?_⟩
      · have e : ((m : Nat) : Int) / 2 = ((m / 2 : Nat) : Int) := by omega
        show [V.int (((m : Nat) : Int) / 2)] = _
        rw [e]
      rw [show (((m / 2 : Nat) : Int)).toNat = m / 2 by omega]
      refine lc_same (J := Itr 0 (m / 2)) (n := m / 2) walk_range0 (by omega) (fun at_ => .int (((one + 1 + 2 * at_) % m : Nat) : Nat)) nC (fun _ _ => trivial) ?_ ?_
      · rintro at_ x H5 H6 Z' out' hi' sm' ⟨rfl, rfl⟩
        refine gn ⟨rfl, _, rfl, _, _, rfl, rfl, _, rfl, _, _, rfl, rfl, .inl ⟨by decide, by decide⟩, _, _, rfl, rfl, .inl ⟨_, rfl, _, rfl, _, _, rfl, rfl, by omega, ?_⟩⟩
        have e : ((one : Nat) + 1 + 2 * (at_ : Nat) : Int) % (m : Nat) = (((one + 1 + 2 * at_) % m : Nat) : Nat) := by simp
        show Z' (.int (((one : Nat) + 1 + 2 * (at_ : Nat) : Int) % (m : Nat))) _
        rw [e]
        exact out' _ same_rfl
      · intro H5 s5 eC
        exact out C H5 s5 nC (by rw [eC]; unfold rnd VI; rw [List.map_map]; rfl)
    · intro rs H1 s1 eD rl rows
      refine gn ?_
      dsimp only [List.set, L2.start]
      have src1 := src.same s1
      have rq : ∀ j r, rs[j]? = some r → r ≠ h ∧ r ≠ l := fun j r e => src.new (rows j r e).1
      obtain ⟨nDh, nDl⟩ := src.new nD
      refine seqcut (fun σ' H' => ∃ (y : Option V) (us : List Addr) (ll : List (List Nat)), σ' = [some (.ref h), some (.int (m : Nat)), some (.ref D), y, none, none] ∧ Src H' h l ∧ Bar h l H H' ∧ H' D = some (.lst (us.map V.ref)) ∧ us.length = m ∧ ll.length = m ∧ (∀ (j : Nat) (u : Addr) (s : List Nat), us[j]? = some u → ll[j]? = some s → H' u = some (.lst (VI s))) ∧ ∀ (i : Nat) (s : List Nat), ll[i]? = some s → s.Perm (rnd m i)) ?_ (fun out => ?_)
      · rintro σ' H' ⟨y, us, ll, rfl, sr, br, eD', ul, lll, ru, pm⟩
        refine ⟨_, rfl, D, rfl, ⟨_, SqL.of eD'⟩, fun C nC => ?_⟩
        refine lc_objs (walk_list (K := K) (a := D) (xs := us.map V.ref)) (by rw [List.length_map]; omega) (fun i H r => ∀ s, ll[i]? = some s → Ex H r (VI s)) (fun i H H' r e s s' e' => (e s' e').same s) (fun i H H' r ys e eD k s e' => ?_) nC (fun _ sm => SqL.of (sm _ _ eD')) ?_ ?_
        · obtain ⟨o, d, c, ex⟩ := e s e'
          exact ⟨o, d, c, k _ _ (Ex.ne_lst ⟨o, d, c, ex⟩ eD) ex⟩
        · rintro i x Ha Hb Z out hi sm ⟨rfl, ex⟩
          rw [List.length_map] at hi
          have eu : us[i]? = some us[i] := List.getElem?_eq_getElem hi
          rw [List.getElem?_map, eu] at ex
          cases ex
          have es : ll[i]? = some ll[i] := List.getElem?_eq_getElem (by omega)
          have e1 := sm _ _ (ru i _ _ eu es)
          refine gn ⟨rfl, _, rfl, us[i], _, rfl, SqL.of e1, fun r H3 nr s3 ex _ => out r H3 s3 fun s e => ?_⟩
          rw [es] at e
          cases e
          exact ex
        · intro ts H3 s3 eC tl rws
          rw [List.length_map] at tl
          have br3 := br.trans (.same s3)
          refine ⟨C, _, rfl, .inl ⟨SqL.of eC, fun r nr => ?_⟩⟩
          refine q r ll _ ((sr.same s3).updn nr) (br3.fresh (br3.free (sr.same s3) nr)) (br3.free (sr.same s3) nr) ⟨ts, upd_same, by omega, fun i a s e1 e2 => ((rws i a e1) s e2).same (same_upd nr)⟩ lll ?_ pm
          rw [lll]
          exact round_lists hm lll pm
      · -- one of them in another sequence
        have ll0 : ∀ i, i < m → ((List.range m).map (rnd m))[i]? = some (rnd m i) := fun i hi => by rw [List.getElem?_map, List.getElem?_range hi]; rfl
        have rows0 : ∀ (j : Nat) (u : Addr) (s : List Nat), rs[j]? = some u → ((List.range m).map (rnd m))[j]? = some s → H1 u = some (.lst (VI s)) := fun j u s e1 e2 => by
          have hj : j < m := by have := (List.getElem?_eq_some_iff.mp e1).1; omega
          rw [ll0 j hj] at e2
          cases e2
          exact (rows j u e1).2.2
        have pm0 : ∀ (i : Nat) (s : List Nat), ((List.range m).map (rnd m))[i]? = some s → s.Perm (rnd m i) := fun i s e => by
          have hi : i < m := by have := (List.getElem?_eq_some_iff.mp e).1; simpa using this
          rw [ll0 i hi] at e
          cases e
          exact .refl _
        refine ⟨_, rfl, h, l, 3, rfl, src1, by decide, by decide, fun d1 H2 a0 a1 sr2 br2 => ⟨rfl, _, rfl, ?_⟩⟩
        have up : ∀ {H2 : Hp}, Bar h l H1 H2 → H2 D = some (.lst (rs.map V.ref)) ∧ ∀ (j : Nat) (u : Addr) (s : List Nat), rs[j]? = some u → ((List.range m).map (rnd m))[j]? = some s → H2 u = some (.lst (VI s)) := fun br => ⟨br _ _ nDh nDl eD, fun j u s e1 e2 => br _ _ (rq j u e1).1 (rq j u e1).2 (rows0 j u s e1 e2)⟩
        have b1 : Bar h l H H1 := .same s1
        refine ite2 (fun c => ?_) (fun c => ?_)
        · refine ⟨_, rfl, _, rfl, h, l, (m : Nat), rfl, sr2, by omega, by omega, fun d2 H3 c0 c1 sr3 br3 => gn ?_⟩
          dsimp only [List.set]
          obtain ⟨d, rfl⟩ : ∃ d : Nat, d2 = (d : Nat) := ⟨d2.toNat, by omega⟩
          have dl : d < m := by omega
          obtain ⟨eD3, ru3⟩ := up (br2.trans br3)
          have er : rs[d]? = some rs[d] := List.getElem?_eq_getElem (by omega)
          refine ⟨_, rfl, _, rfl, _, rfl, D, _, _, _, rfl, rfl, SqL.of eD3, atI_nat (by rw [List.getElem?_map, er]; rfl), h, l, rs[d], VI (rnd m d), rfl, sr3, .inl (ru3 d _ _ er (ll0 d dl)), (rq d _ er).1, (rq d _ er).2, by rw [VI_len, rnd_len]; omega, fun t ys H4 py sr4 br4 nt et => ?_⟩
          obtain ⟨s, rfl, ps⟩ := perm_VI py
          refine ⟨t, _, rfl, .inr (Tp.sq (.inr et)), fun B nB => ?_⟩
          obtain ⟨eD4, ru4⟩ := up ((br2.trans br3).trans br4)
          have brB : Bar h l H1 (upd H4 B (.lst (VI s))) := ((br2.trans br3).trans br4).trans (.same (same_upd nB))
          obtain ⟨eD5, ru5⟩ := up brB
          refine ⟨_, rfl, _, rfl, D, _, (d : Int), d, rfl, rfl, eD5, by rw [List.length_map, rl]; exact ixN_nat dl, ?_⟩
          have nDB : D ≠ B := ne_of_none eD4 nB
          have H0B : H B = none := b1.free src1 (((br2.trans br3).trans br4).free sr4 nB)
          refine out _ _ ⟨_, rs.set d B, ((List.range m).map (rnd m)).set d s, rfl, (sr4.updn nB).put nDh nDl, ?_, ?_, by rw [List.length_set, rl], by rw [List.length_set]; simp, fun j u s' e1 e2 => ?_, fun i s' e => ?_⟩
          · exact (b1.trans brB).fresh nD
          · rw [upd_same, List.map_set]
          · by_cases cj : j = d
            · subst cj
              rw [List.getElem?_set_self (by omega)] at e1
              rw [List.getElem?_set_self (by simpa using dl)] at e2
              cases e1
              cases e2
              rw [upd_ne (Ne.symm nDB), upd_same]
            · rw [List.getElem?_set_ne (Ne.symm cj)] at e1 e2
              rw [upd_ne (rows j u e1).2.1]
              exact ru5 j u s' e1 e2
          · by_cases ci : i = d
            · subst ci
              rw [List.getElem?_set_self (by simpa using dl)] at e
              cases e
              exact ps
            · rw [List.getElem?_set_ne (Ne.symm ci)] at e
              exact pm0 i s' e
        · obtain ⟨eD2, ru2⟩ := up br2
          exact out _ _ ⟨none, rs, (List.range m).map (rnd m), rfl, sr2, b1.trans br2, eD2, rl, by simp, ru2, pm0⟩
end
end K14
namespace K14
open PySem PySem.Spec PyProof.Rows L2
/-- the first and the last one -/
def endO : List Nat → Option (List Nat)
  | [] => none
  | a :: t => some [a, ((a :: t).getLast?).getD 0]
theorem endO_some {s : List Nat} {e : List Nat} (h : endO s = some e) : ∃ a b, e = [a, b] ∧ a ∈ s ∧ b ∈ s := by
  cases s with
  | nil => cases h
  | cons a t =>
    cases h
    refine ⟨a, _, rfl, by simp, ?_⟩
    cases e : (a :: t).getLast? with
    | none => simp at e
    | some z => exact List.mem_of_getLast? e
def endsA (ls : List (List Nat)) (hs : List (Option Nat)) : List (Option (List Nat)) := (List.range ls.length).map fun p => endO (leftL ls hs p)
theorem endsA_len {ls : List (List Nat)} {hs : List (Option Nat)} : (endsA ls hs).length = ls.length := by simp [endsA]
theorem endsA_at {ls : List (List Nat)} {hs : List (Option Nat)} {p : Nat} (h : p < ls.length) : (endsA ls hs)[p]? = some (endO (leftL ls hs p)) := by simp [endsA, h]
def singleL (ls : List (List Nat)) (hs : List (Option Nat)) : List Nat := (List.range ls.length).filter fun p => (ha hs p).isNone
/-- of a list left: the first and the last one, or None -/
abbrev teEnds (K : PySem.W.Frag) (i : Nat) : TE := tIf (fun σ H Q => tVar i σ H fun x H' => ∃ k, TruV K x H' k ∧ Q k H') (tTup (tCons (tOp (rIxT K) (tVar i) (tC (.int 0))) (tCons (tOp (rIxT K) (tVar i) (tUn (rU fun i => V.int (-i)) (tC (.int 1)))) tNil))) (tC .non)
theorem te_ends {K : PySem.W.Frag} {i : Nat} {σ : L2.St} {H : Hp} {c : Addr} {s : List Nat} {Q : VK} (es : σ[i]? = some (some (.ref c))) (ec : Tp H c (VI s)) (q : ∀ v H', Same H H' → OV H' v (endO s) → Q v H') : teEnds K i σ H Q := by
  refine ⟨_, es, _, .inr (.inl ⟨_, ec.sq, rfl⟩), ?_⟩
  cases s with
  | nil => exact iteF (q .non H same_rfl rfl)
  | cons a t =>
    refine iteT ?_
    have sq := ec.sq (K := K)
    refine ⟨_, es, c, _, 0, .int (a : Nat), rfl, rfl, sq, atI_nat (j := 0) rfl, _, es, _, rfl, c, _, -1, .int (((a :: t).getLast?).getD 0 : Nat), rfl, rfl, sq, ?_, (by show 2 ≤ sizeLine; decide), fun r nr => ?_⟩
    · rcases list_end (a :: t) with h | ⟨ys, z, h⟩
      · cases h
      · rw [h, VI_app, List.getLast?_append]
        exact atI_last _ _
    · exact q (.ref r) _ (same_upd nr) ⟨r, rfl, upd_same⟩
def spEndsLeft (C : Addr) : Sp := fun vs H Q _ => ∃ (wi : Addr) (ns ls : List (List Nat)), vs = [.ref wi] ∧ WAt C H wi ns ls ∧ ∀ r g H', Great ls g → Same H H' → OT H' r (endsA ls g) → Q (.ref r) H'
def spLeftSingle (C : Addr) : Sp := fun vs H Q _ => ∃ (wi : Addr) (ns ls : List (List Nat)), vs = [.ref wi] ∧ WAt C H wi ns ls ∧ ∀ r g H', Great ls g → Same H H' → H' r = some (.tup (VI (singleL ls g))) → Q (.ref r) H'
section
variable {P : Program} {w : World} {K : PySem.W.Frag} {mg : Str → Option Value} {base : Heap}
end
end K14
namespace K14
open PySem PySem.Spec PyProof.Rows L2
theorem eqv_dI_nil (s : List Nat) : PyData.eqv (dI s) (.tuple []) = s.isEmpty := by
  cases s with
  | nil => decide
  | cons c r => simp [dI, PyData.eqv, PyData.eqvAll]
theorem sh_dI (s : List Nat) : SeqAt.shaped (dI s) = true := shaped_of (lay_dI s).1 (Nat.le_trans (lay_dI s).2 (by decide))
theorem flat_VH (hs : List (Option Nat)) : (VH hs).all flatV = true := by
  unfold VH
  rw [List.all_map, List.all_eq_true]
  intro o _
  cases o <;> rfl
def spOut : Sp := fun vs H Q _ => ∃ (a : Addr) (ls : List (List Nat)), vs = [.ref a] ∧ LX H a ls ∧ 1 ≤ ls.length ∧ ls.length ≤ 60 ∧ ListsOk ls.length ls ∧ ∀ (r : Addr) (g : List (Option Nat)) (H' : Hp), Great ls g → Same H H' → H' r = some (.tup (VH g)) → Q (.ref r) H'
theorem scOut : FnScope ["lists", "holds", "turn", "left", "some", "first", "row", "person"] ["lists"] (defScope sLOut) := ⟨rfl, rfl, rfl, by decide +kernel, rfl, by decide +kernel, by decide +kernel⟩
theorem inV_VH {hs : List (Option Nat)} {p : Nat} : inV (.int (p : Nat)) (VH hs) = true ↔ some p ∈ hs := by
  unfold inV VH
  rw [List.any_map, List.any_eq_true]
  constructor
  · rintro ⟨x, hx, e⟩
    cases x with
    | none => cases e
    | some j =>
      have : ((j : Nat) : Int) = (p : Int) := eq_of_beq e
      have : j = p := by omega
      rw [← this]
      exact hx
  · intro h
    exact ⟨some p, h, beq_self_eq_true _⟩
/-- whoever can ask -/
def askers (ls : List (List Nat)) (hs : List (Option Nat)) : List Nat := (List.range ls.length).filter fun p => !(leftL ls hs p).isEmpty && !inV (.int (p : Nat)) (VH hs)
theorem asker_iff {ls : List (List Nat)} {hs : List (Option Nat)} (hl : hs.length = ls.length) {p : Nat} : p ∈ askers ls hs ↔ p < ls.length ∧ (∃ j, fst ls hs p = some j) ∧ ∀ q, q < ls.length → ha hs q ≠ some p := by
  unfold askers
  rw [List.mem_filter, List.mem_range, Bool.and_eq_true]
  refine and_congr_right fun hp => and_congr ?_ ?_
  · unfold fst
    cases leftL ls hs p with
    | nil => simp
    | cons a t => simp
  · have : (!inV (.int (p : Nat)) (VH hs)) = true ↔ ¬ some p ∈ hs := by
      rw [← inV_VH (hs := hs)]
      cases inV (.int (p : Nat)) (VH hs) <;> simp
    rw [this]
    constructor
    · intro h q hq e
      have hq' : q < hs.length := by omega
      have := ha_get (hs := hs) hq'
      rw [e] at this
      exact h (List.mem_of_getElem? this)
    · intro h hm
      obtain ⟨q, hq, e⟩ := List.mem_iff_getElem.mp hm
      refine h q (by omega) ?_
      unfold ha
      rw [List.getD_eq_getElem?_getD, List.getElem?_eq_getElem hq, e]
      rfl
theorem great_no {ls : List (List Nat)} {g : List (Option Nat)} (G : Great ls g) : askers ls g = [] := by
  refine List.eq_nil_iff_forall_not_mem.mpr fun p hp => ?_
  obtain ⟨h1, ⟨j, h2⟩, h3⟩ := (asker_iff G.ok.len).mp hp
  have := G.st.b p j h1 h2
  exact h3 j (G.ok.on j p this).1 this
theorem no_great {ls : List (List Nat)} {hs : List (Option Nat)} (h : Half ls hs) (t : Top ls hs) (e : askers ls hs = []) : Great ls hs := great_of h t fun p j hp ef => Classical.byContradiction fun c => by
  have : p ∈ askers ls hs := (asker_iff h.ok.len).mpr ⟨hp, ⟨j, ef⟩, fun q hq z => c ⟨q, hq, z⟩⟩
  rw [e] at this
  cases this
section
variable {P : Program} {w : World} {K : PySem.W.Frag} {mg : Str → Option Value} {base : Heap}
theorem ok_out {f fl : Addr} {fd dl : FuncData} {k : Nat} (F : Fun K "_law_out" "_law_out" sLOut f fd)
    (L : FnOk P w K mg base CX0 k fl dl ["lists", "holds"] spLeft) (bL : Binds K dl ["lists", "holds"] []) (kL : PySem.W.keepIn K (.ref fl) = true) (mL : mg "_law_left" = some (.ref fl)) (ml : mg "len" = none) (mrg : mg "range" = none) (msu : mg "sum" = none) :
    FnOk P w K mg base CX0 (k + 1) f fd ["lists"] spOut := by
  refine F.ok scOut (fun vs H Q E h => ?_) (fun cdv A outer s H vs Q E hr h => ?_)
  · obtain ⟨a, ls, rfl, _⟩ := h
    rfl
  · obtain ⟨a, ls, rfl, lx, n1, n60, ok, q⟩ := h
    refine ⟨_, pss_cons (ps_set (i := 1) scOut.nd rfl (.inr rfl) (pe_op op_repA (pe_tup (pa_cons pe_non pa_nil)) (pe_callB call_len_seq (by rfl) ml PySem.boot_len (pa_cons (pv 0) pa_nil))))
      (pss_cons (ps_for PassesOwn.never rfl (pi_range1 rfl mrg (pa_cons (pe_op op_add pe_int (pe_callB (cr_sum rfl) (by rfl) msu (by decide +kernel) (pa_cons (pe_lc (own := [("row", 6)]) (g := gName 6) (tt := tYes) (te := tCB (fun xs H Q => ∃ p ys, xs = [V.ref p] ∧ (SqL K H p ys ∨ SqT K H p ys) ∧ Q (V.int ys.length) H) (tCons (tVar 6) tNil)) rfl scOut.nd (pi_tup (pv 0))
            (blkOk_by (own := [("row", 6)]) (N := ["lists", "holds", "turn", "left", "some", "first", "row", "person"]) (sc := defScope sLOut) (by decide +kernel)) (fun _ _ _ _ _ => pg_name (i := 6) scOut.nd rfl (Or.inl rfl)) (fun _ _ _ _ _ => pts_nil)
            (fun _ _ _ _ _ => pe_callB call_len_seq (by rfl) ml PySem.boot_len (pa_cons (pv 6) pa_nil))) pa_nil))) pa_nil)) (pg_name (i := 2) scOut.nd rfl (.inl rfl))
        (pss_cons (ps_set (i := 3) scOut.nd rfl (.inr rfl) (pe_call L hr rfl mL kL bL .nil pass0 (pa_cons (pv 0) (pa_cons (pv 1) pa_nil))))
        (pss_cons (ps_setLc (i := 4) (own := [("person", 7)]) (g := gName 7) (tt := tAnd (tTest (tOp (rNeD K) (tOp (rIxT K) (tVar 3) (tVar 7)) (tTup tNil))) (tTest (tOp (rIn K true) (tVar 7) (tVar 1)))) rfl scOut.nd rfl rfl (sw_true rfl rfl rfl (by decide +kernel)) (pi_range1 rfl mrg (pa_cons (pe_callB call_len_seq (by rfl) ml PySem.boot_len (pa_cons (pv 0) pa_nil)) pa_nil))
            (blkOk_by (own := [("person", 7)]) (N := ["lists", "holds", "turn", "left", "some", "first", "row", "person"]) (sc := defScope sLOut) (by decide +kernel)) (fun _ _ _ _ _ => pg_name (i := 7) scOut.nd rfl (Or.inl rfl)) (fun _ _ _ _ _ => pts_one (PW.pt (pw_and (pt_cmpR (op_neD hr.units) (pe_ix ix_tup (pv 3) (pv 7) (fun _ _ => rfl)) (pe_tup pa_nil) (nomark _)) (pw_and1 (pt_cmpR op_notIn_seq (pv 7) (pv 1) rfl)))))
            (fun _ _ _ _ _ => pv 7))
        (pss_cons (ps_if (pt_cmpR (op_eqD hr.units) (pv 4) (pe_lst pa_nil) (nomark _)) (pss_one ps_break) pss_nil)
          (pss_cons (ps_set (i := 5) scOut.nd rfl (.inl rfl) (pe_ix ix_tup (pe_ix ix_tup (pv 3) (pe_ix ix_list (pv 4) (pe_un un_neg pe_int) (fun _ _ => rfl)) (fun _ _ => rfl)) pe_int (fun _ _ => rfl)))
          (pss_one (ps_set (i := 1) scOut.nd rfl (.inr rfl) (pe_op op_catA (pe_op op_catA (pe_slice sl_tupA (pv 1) po_none (po_some (pv 5))) (pe_tup (pa_cons (pe_ix ix_list (pv 4) (pe_un un_neg pe_int) (fun _ _ => rfl)) pa_nil))) (pe_slice sl_tupA (pv 1) (po_some (pe_op op_add (pv 5) pe_int)) po_none)))))))))
      (pss_one (ps_ret (pv 1)))), ?_⟩
    obtain ⟨xs, ea, xl⟩ := lx.lt.len
    refine ⟨(by show 1 ≤ sizeLine; decide), fun u nu => ?_⟩
    have su := same_upd (o := .tup [.non]) nu
    refine ⟨_, rfl, a, xs, rfl, .inr (SqT.of (su _ _ ea)), ?_⟩
    rw [xl]
    refine repZ (m := ls.length) rfl upd_same n1 (by omega) fun p0 H1 s1 ep1 => gn ?_
    have s01 := su.trans s1
    have lx1 := lx.same s01
    have ea1 := s01 _ _ ea
    dsimp only [List.set, L2.start]
    -- how often
    refine ⟨_, rfl, a, rfl, ⟨_, SqT.of ea1⟩, fun D nD => ?_⟩
    refine lc_same (walk_tup (K := K) (a := a) (xs := xs)) (by omega) (fun p => .int ((la ls p).length : Nat)) nD (fun _ sm => SqT.of (sm _ _ ea1)) ?_ ?_
    · rintro m x Ha Hb Z out hm sm ⟨rfl, ex⟩
      obtain ⟨c, s', rfl, es, ec⟩ := lx1.lt.row ea1 ex
      have es' : s' = la ls m := by rw [la_of es]
      subst es'
      refine gn ⟨rfl, _, rfl, c, _, rfl, .inr (ec.same sm).sq, ?_⟩
      rw [VI_len]
      exact out _ same_rfl
    · intro H2 s2 eD
      have eD' : H2 D = some (.lst ((((List.range ls.length).map fun p => ((la ls p).length : Int))).map V.int)) := by
        rw [eD, xl, List.map_map]
        rfl
      have tot : ((List.range ls.length).map fun p => ((la ls p).length : Int)).sum = (sumM ls (List.replicate ls.length none) : Nat) := by
        have e : ∀ l : List Nat, (l.map fun p => ((la ls p).length : Int)).sum = ((l.map (most ls (List.replicate ls.length none))).sum : Nat) := by
          intro l
          induction l with
          | nil => rfl
          | cons x t ih =>
            rw [List.map_cons, List.map_cons, List.sum_cons, List.sum_cons, ih, most_none ha_none]
            omega
        exact e _
      have big : sumM ls (List.replicate ls.length none) ≤ 3600 := by
        have b : ∀ n, n ≤ ls.length → ((List.range n).map (most ls (List.replicate ls.length none))).sum ≤ n * 60 := by
          intro n
          induction n with
          | zero => intro _; exact Nat.le_refl _
          | succ n ih =>
            intro hn
            rw [List.range_succ, List.map_append, List.sum_append]
            have h1 := ih (by omega)
            have h2 : most ls (List.replicate ls.length none) n ≤ 60 := by
              rw [most_none ha_none]
              have := ok.each (la_get (show n < ls.length by omega))
              omega
            simp
            omega
        have := b ls.length (Nat.le_refl _)
        unfold sumM
        have : ls.length * 60 ≤ 60 * 60 := Nat.mul_le_mul_right 60 n60
        omega
      refine ⟨D, _, rfl, SqL.of eD', ?_⟩
      rw [tot]
      have s02 := s01.trans s2
      have ep2 := s2 _ _ ep1
      refine ⟨_, _, rfl, rfl, _, rfl, by omega, by omega, for_it (J := Itr 0 (1 + sumM ls (List.replicate ls.length none))) (n := 1 + sumM ls (List.replicate ls.length none)) walk_range0 (fun i σ H' => ∃ (hp : Addr) (hs : List (Option Nat)) (y2 y3 y4 y5 : Option V), σ = [some (.ref a), some (.ref hp), y2, y3, y4, y5, none, none] ∧ Same H H' ∧ H' hp = some (.tup (VH hs)) ∧ Half ls hs ∧ Top ls hs ∧ (Great ls hs ∨ sumM ls hs + i ≤ sumM ls (List.replicate ls.length none)))
        ⟨p0, _, none, none, none, none, rfl, s02, ep2, half_none, top_none, .inr (Nat.le_refl _)⟩ (fun _ _ _ _ _ => trivial) ?_ ?_⟩
      · rintro i z σ H4 H5 hi ⟨hp, hs, y2, y3, y4, y5, rfl, s4, eh, hf, tp, wh⟩ ⟨rfl, rfl⟩
        have ho := hf.ok
        refine gn ?_
        dsimp only [List.set]
        have lx5 := lx.same s4
        refine ⟨_, rfl, _, rfl, a, hp, ls, hs, rfl, lx5, eh, ho, ok, by omega, fun r1 H6 s6 l6 => gn ?_⟩
        dsimp only [List.set]
        have ea6 := s6 _ _ (s4 _ _ ea)
        refine ⟨_, rfl, a, xs, rfl, .inr (SqT.of ea6), ?_⟩
        rw [xl]
        refine ⟨_, rfl, by omega, by omega, fun S nS => ?_⟩
        have gR : ∀ i, i < ls.length → (VI (List.range ls.length)).getD i .non = .int (i : Nat) := fun i hi => by
          rw [List.getD_eq_getElem?_getD, VI_get (List.getElem?_range hi)]
          rfl
        refine lc_sel (J := Itr 0 ls.length) (n := ls.length) walk_range0 (by omega) (VI (List.range ls.length)) (fV fun p => !(leftL ls hs p).isEmpty && !inV (.int (p : Nat)) (VH hs)) (by simp [VI]) nS (fun _ _ => trivial) ?_ ?_
        · rintro q0 x Ha Hb R Z yes' no' hm sm ⟨rfl, rfl⟩
          rw [gR q0 hm] at yes' no'
          obtain ⟨rows2, c2, er2, ec2, ev2⟩ := (l6.same sm).at (leftA_get hm)
          refine gn ⟨rfl, _, rfl, _, rfl, r1, rows2, _, _, rfl, rfl, SqT.of er2, atI_nat ec2, (by show 0 ≤ sizeLine; decide), fun zz nz => ?_⟩
          have sz := same_upd (o := .tup []) nz
          refine ⟨dI (leftL ls hs q0), .tuple [], dp_dI (ev2.same sz), .tup (SqT.of upd_same) .nil, sh_dI _, by decide, _, rfl, ?_⟩
          rw [eqv_dI_nil]
          cases eo : (leftL ls hs q0).isEmpty with
          | true => exact iteF (iteF (no' _ sz (by show (!(leftL ls hs q0).isEmpty && !inV (.int (q0 : Nat)) (VH hs)) = false; rw [eo]; rfl)))
          | false =>
            refine iteT ⟨_, rfl, _, rfl, hp, _, rfl, .inr (SqT.of (sz _ _ (sm _ _ (s6 _ _ eh)))), rfl, flat_VH hs, !inV (.int (q0 : Nat)) (VH hs), rfl, ?_⟩
            cases ei : inV (.int (q0 : Nat)) (VH hs) with
            | true => exact iteF (no' _ sz (by show (!(leftL ls hs q0).isEmpty && !inV (.int (q0 : Nat)) (VH hs)) = false; rw [ei]; simp))
            | false => exact iteT ⟨_, rfl, yes' _ sz (by show (!(leftL ls hs q0).isEmpty && !inV (.int (q0 : Nat)) (VH hs)) = true; rw [eo, ei]; rfl)⟩
        · intro Hc sc eS
          rw [VI_filter] at eS
          refine gn ?_
          dsimp only [List.set]
          have s5c := s6.trans sc
          have l6c := l6.same sc
          have ehc := s5c _ _ eh
          refine ⟨_, rfl, Nat.zero_le _, fun z nz => ?_⟩
          have sz := same_upd (o := .lst []) nz
          have ez : (upd Hc z (.lst [])) z = some (.lst []) := upd_same
          have eS2 := sz _ _ eS
          have l6d := l6c.same sz
          have ehd := sz _ _ ehc
          have s5d := s5c.trans sz
          generalize upd Hc z (.lst []) = Hd at sz ez eS2 l6d ehd s5d
          have s0d := s4.trans s5d
          have eS2' : Hd S = some (.lst (VI (askers ls hs))) := eS2
          refine ⟨dLi (askers ls hs), .list [], dp_dLi eS2', .lst (SqL.of ez) .nil, sh_dLi _, by decide, _, rfl, ?_⟩
          rcases list_end (askers ls hs) with es | ⟨ys, q0, es⟩
          · have ee : PyData.eqv (dLi (askers ls hs)) (.list []) = true := by rw [es]; decide
            rw [ee]
            exact iteT ⟨_, rfl, q hp hs _ (no_great hf tp es) s0d ehd⟩
          · have ee : PyData.eqv (dLi (askers ls hs)) (.list []) = false := by
              rw [es]
              cases ys <;> simp [dLi, PyData.eqv, PyData.eqvAll]
            rw [ee]
            have hq : q0 ∈ askers ls hs := by rw [es]; simp
            obtain ⟨hq1, ⟨o, ef⟩, free⟩ := (asker_iff ho.len).mp hq
            have om := fst_mem ef
            have mm := (mem_left ok hq1).mp om
            have oo := ok.mate hq1 mm.1
            rw [es] at eS2'
            have eSL : Hd S = some (.lst (VI ys ++ [.int (q0 : Nat)])) := by rw [eS2', VI_app]; rfl
            have lt := (ask ok hf hq1 ef free).2
            have rest := wh.resolve_left fun G => by
              have := great_no G
              rw [es] at this
              simp at this
            have el : ∃ tl, leftL ls hs q0 = o :: tl := by
              unfold fst at ef
              cases e : leftL ls hs q0 with
              | nil => rw [e] at ef; cases ef
              | cons b t => rw [e] at ef; cases ef; exact ⟨t, rfl⟩
            obtain ⟨tl, el⟩ := el
            refine iteF ?_
            obtain ⟨rows, c, er, ec, ev⟩ := l6d.at (leftA_get hq1)
            have ecv := ev.sq (K := K)
            rw [el] at ecv
            refine ⟨_, rfl, _, rfl, _, rfl, S, _, -1, .int (q0 : Nat), rfl, rfl, SqL.of eSL, atI_last _ _, r1, rows, (q0 : Int), _, rfl, rfl, SqT.of er, atI_nat ec, c, _, 0, .int (o : Nat), rfl, rfl, ecv, atI_nat (j := 0) rfl, gn ?_⟩
            dsimp only [List.set]
            refine ⟨_, rfl, _, rfl, _, rfl, slC ehd fun c1 He s1' e1' => ?_⟩
            refine ⟨_, rfl, _, rfl, S, _, -1, .int (q0 : Nat), rfl, rfl, SqL.of (s1' _ _ eSL), atI_last _ _, (by show 1 ≤ sizeLine; decide), fun u2 nu2 => ?_⟩
            have sb := same_upd (o := .tup [.int (q0 : Nat)]) nu2
            have hol : o < (VH hs).length := by rw [VH_len, ho.len]; exact oo.1
            have lt1 : (cutV (VH hs) none (some ((o : Nat) : Int))).length ≤ 100 := by
              rw [cut_take, List.length_take, VH_len, ho.len]
              omega
            refine catV (sb _ _ e1') upd_same (by simp; omega) fun c2' Hf s2' e2' => ?_
            have sdf := s1'.trans (sb.trans s2')
            refine ⟨_, rfl, _, rfl, _, _, rfl, rfl, _, rfl, ?_⟩
            dsimp only [L2.tNoPart]
            refine slC (sdf _ _ ehd) fun c3 Hg s3' e3' => ?_
            have lt3 : (cutV (VH hs) (some ((o : Nat) + 1 : Int)) none).length ≤ 100 := by
              rw [cut_drop, List.length_drop, VH_len, ho.len]
              omega
            refine catV (s3' _ _ e2') e3' (by simp; omega) fun c4 Hh s4' e4' => gn ?_
            have sdh := sdf.trans (s3'.trans s4')
            refine ⟨c4, hs.set o (some q0), _, _, _, _, rfl, s0d.trans sdh, ?_, (ask ok hf hq1 ef free).1, ask_top ok hf tp hq1 ef, .inr (by omega)⟩
            rw [e4', cut_take, cut_drop]
            congr 2
            have := set_cut (VH hs) o (V.int (q0 : Nat)) hol
            rw [List.append_assoc] at *
            unfold VH at this ⊢
            rw [List.map_set]
            exact this
      · rintro σ H4 ⟨hp, hs, y2, y3, y4, y5, rfl, s4, eh, hf, tp, wh⟩
        refine ⟨_, rfl, q hp hs _ (wh.resolve_right (by omega)) s4 eh⟩
end
end K14
namespace K14
open PySem PySem.Spec PyProof.Rows L2
/-- lists of numbers at these places -/
def LsR (H : Hp) (us : List Addr) (R : List (List Nat)) : Prop := us.length = R.length ∧ ∀ (j : Nat) (u : Addr) (r : List Nat), us[j]? = some u → R[j]? = some r → H u = some (.lst (VI r))
theorem LsR.same {H H' : Hp} {us : List Addr} {R : List (List Nat)} (t : LsR H us R) (s : Same H H') : LsR H' us R := ⟨t.1, fun j u r e1 e2 => s _ _ (t.2 j u r e1 e2)⟩
theorem LsR.put {H : Hp} {us : List Addr} {R : List (List Nat)} {p : Addr} {o : HO} (t : LsR H us R) (n : ∀ u ∈ us, u ≠ p) : LsR (upd H p o) us R := ⟨t.1, fun j u r e1 e2 => by rw [upd_ne (n u (List.mem_of_getElem? e1))]; exact t.2 j u r e1 e2⟩
theorem LsR.snoc {H : Hp} {us : List Addr} {R : List (List Nat)} {u : Addr} {r : List Nat} (t : LsR H us R) (e : H u = some (.lst (VI r))) : LsR H (us ++ [u]) (R ++ [r]) := by
  refine ⟨by rw [List.length_append, List.length_append, t.1]; rfl, fun i a s e1 e2 => ?_⟩
  by_cases c : i < us.length
  · rw [List.getElem?_append_left c] at e1
    rw [List.getElem?_append_left (by rw [← t.1]; exact c)] at e2
    exact t.2 i a s e1 e2
  · rw [List.getElem?_append_right (by omega)] at e1
    rw [List.getElem?_append_right (by have := t.1; omega)] at e2
    have h1 : i - us.length = 0 := by
      have := (List.getElem?_eq_some_iff.mp e1).1
      simp at this
      omega
    have h2 : i - R.length = 0 := by have := t.1; omega
    rw [h1] at e1
    rw [h2] at e2
    cases e1
    cases e2
    exact e
/-- the rings of those below i -/
def ringsK (bs : List (Option Nat)) (i : Nat) : List (List Nat) := ((List.range i).filter (isLst bs)).map fun p => ringL (gB bs) p (per bs p)
theorem ringsK_succ {bs : List (Option Nat)} {i : Nat} : ringsK bs (i + 1) = ringsK bs i ++ if isLst bs i then [ringL (gB bs) i (per bs i)] else [] := by
  unfold ringsK
  rw [List.range_succ, List.filter_append, List.map_append]
  congr 1
  cases h : isLst bs i with
  | true => simp [List.filter_cons, h]
  | false => simp [List.filter_cons, h]
theorem per_none {bs : List (Option Nat)} {p : Nat} (hp : p < bs.length) (cl : Clo bs) (h : ∀ k, 1 ≤ k → k ≤ bs.length → it (gB bs) k p ≠ p) : isLst bs p = false := by
  cases e : isLst bs p with
  | false => rfl
  | true =>
    exfalso
    have c := per_cyc (isLst_iff.mp e).1
    exact h _ c.one (c.le (cyc_lt cl hp c.one c.back)) c.back
def spLRings : Sp := fun vs H Q _ => ∃ (a t : Addr) (ls : List (List Nat)) (hs : List (Option Nat)), vs = [.ref a, .ref t] ∧ LX H a ls ∧ H t = some (.tup (VH hs)) ∧ HoldsOk ls hs ∧ Std ls hs ∧ ListsOk ls.length ls ∧ ls.length ≤ 60 ∧
  ∀ r us H', Same H H' → H r = none → H' r = some (.lst (us.map V.ref)) → (∀ u ∈ us, H u = none) → LsR H' us (ringsA (givA ls hs)) → Q (.ref r) H'
/-- what stands while rings are looked for -/
structure LRAt (ls : List (List Nat)) (hs : List (Option Nat)) (H H2 H' : Hp) (D : Addr) (us : List Addr) (i : Nat) : Prop where
  sm : Same H H'
  keep : ∀ b o, b ≠ D → H2 b = some o → H' b = some o
  eD : H' D = some (.lst (us.map V.ref))
  un : ∀ u ∈ us, u ≠ D ∧ H u = none
  lr : LsR H' us (ringsK (givA ls hs) i)
  ul : us.length ≤ i
theorem LRAt.next {ls : List (List Nat)} {hs : List (Option Nat)} {H H2 H3 H4 : Hp} {D : Addr} {us : List Addr} {i : Nat} (a : LRAt ls hs H H2 H3 D us i) (s : Same H3 H4) : LRAt ls hs H H2 H4 D us i :=
  ⟨a.sm.trans s, fun b o n e => s _ _ (a.keep b o n e), s _ _ a.eD, a.un, a.lr.same s, a.ul⟩
/-- a list of one's own is written -/
theorem LRAt.own {ls : List (List Nat)} {hs : List (Option Nat)} {H H2 H3 : Hp} {D C : Addr} {us : List Addr} {i : Nat} {o : HO} (a : LRAt ls hs H H2 H3 D us i) (nC : H2 C = none) (nC0 : H C = none) (nD : C ≠ D) (nu : ∀ u ∈ us, u ≠ C) : LRAt ls hs H H2 (upd H3 C o) D us i :=
  ⟨a.sm.fresh nC0, fun b x n e => by rw [upd_ne (ne_of_none e nC)]; exact a.keep b x n e, by rw [upd_ne (Ne.symm nD)]; exact a.eD, a.un, a.lr.put nu, a.ul⟩
theorem LT.keepD {H2 H' : Hp} {D r : Addr} {L : List (List Nat)} {ys : List V} (t : LT H2 r L) (eD : H2 D = some (.lst ys)) (k : ∀ b o, b ≠ D → H2 b = some o → H' b = some o) : LT H' r L := by
  obtain ⟨as, ea, al, rows⟩ := t
  refine ⟨as, k _ _ (fun z => by rw [z, eD] at ea; cases ea) ea, al, fun i a s e1 e2 => ?_⟩
  rcases rows i a s e1 e2 with e | ⟨o, d, c, e⟩
  · exact .inl (k _ _ (fun z => by rw [z, eD] at e; cases e) e)
  · exact .inr ⟨o, d, c, k _ _ (fun z => by rw [z, eD] at e; cases e) e⟩
theorem scLRings : FnScope ["lists", "holds", "left", "found", "person", "ring", "at", "turn"] ["lists", "holds"] (defScope sLRings) := ⟨rfl, rfl, rfl, by decide +kernel, rfl, by decide +kernel, by decide +kernel⟩
section
variable {P : Program} {w : World} {K : PySem.W.Frag} {mg : Str → Option Value} {base : Heap}
set_option maxHeartbeats 1000000 in
theorem ok_l_rings {f f1 : Addr} {fd d1 : FuncData} {k : Nat} (F : Fun K "_law_rings" "_law_rings" sLRings f fd) (Lf : Has P w K mg base k "_law_left" ["lists", "holds"] spLeft f1 d1) (ml : mg "len" = none) (mrg : mg "range" = none) (mmi : mg "min" = none) : FnOk P w K mg base CX0 (k + 1) f fd ["lists", "holds"] spLRings := by
  refine F.ok scLRings (fun vs H Q E h => ?_) (fun cdv A outer s H vs Q E hr h => ?_)
  · obtain ⟨a, t, ls, hs, rfl, _⟩ := h
    rfl
  · obtain ⟨a, t, ls, hs, rfl, lx, et, ho, st, ok, n60, q⟩ := h
    refine ⟨_, pss_cons (ps_par (i := 2) (j := 3) rfl scLRings.nd rfl rfl (by decide) rfl rfl (pa_cons (pe_call Lf.ok hr rfl Lf.m Lf.k Lf.b .nil pass0 (pa_cons (pv 0) (pa_cons (pv 1) pa_nil))) (pa_cons (pe_lst pa_nil) pa_nil)) (by rfl))
      (pss_cons (ps_for PassesOwn.never rfl (pi_range1 rfl mrg (pa_cons (pe_callB call_len_seq (by rfl) ml PySem.boot_len (pa_cons (pv 0) pa_nil)) pa_nil)) (pg_name (i := 4) scLRings.nd rfl (.inl rfl))
      (pss_cons (ps_par (i := 5) (j := 6) rfl scLRings.nd rfl rfl (by decide) rfl rfl (pa_cons (pe_lst pa_nil) (pa_cons (pv 4) pa_nil)) (by rfl))
      (pss_one (ps_if (pt_cmpR op_gt (pe_callB call_len_seq (by rfl) ml PySem.boot_len (pa_cons (pe_ix ix_tup (pv 2) (pv 4) (fun _ _ => rfl)) pa_nil)) pe_int (nomark _)) (pss_cons (ps_for PassesOwn.never rfl (pi_range1 rfl mrg (pa_cons (pe_callB call_len_seq (by rfl) ml PySem.boot_len (pa_cons (pv 0) pa_nil)) pa_nil)) (pg_name (i := 7) scLRings.nd rfl (.inl rfl))
      (pss_cons (ps_expr (pe_bm PySem.F.plainAttrs_list PySem.F.slot_list_append PySem.F.type_list_append mt_append (pv 5) (pa_cons (pv 6) pa_nil)))
      (pss_cons (ps_set (i := 6) scLRings.nd rfl (.inl rfl) (pe_ix ix_tup (pv 1) (pe_ix ix_tup (pe_ix ix_tup (pv 2) (pv 6) (fun _ _ => rfl)) pe_int (fun _ _ => rfl)) (fun _ _ => rfl)))
      (pss_one (ps_if (pt_cmpR op_eq (pv 6) (pv 4) (nomark _)) (pss_one ps_break) pss_nil)))))
      (pss_one (ps_if (PW.pt (pw_and (pt_cmpR op_eq (pv 6) (pv 4) (nomark _)) (pw_and1 (pt_cmpR op_eq (pe_callB (cr_min rfl) (by rfl) mmi (by decide +kernel) (pa_cons (pv 5) pa_nil)) (pv 4) (nomark _))))) (pss_one (ps_expr (pe_bm PySem.F.plainAttrs_list PySem.F.slot_list_append PySem.F.type_list_append mt_append (pv 3) (pa_cons (pv 5) pa_nil)))) pss_nil))) pss_nil))))
      (pss_one (ps_ret (pv 3)))), ?_⟩
    have gl : (givA ls hs).length = ls.length := givA_len
    have cl := giv_clo ok ho
    have G := giv_at ok ho st
    obtain ⟨xsl, eal, xll⟩ := lx.lt.len
    refine ⟨_, rfl, _, rfl, a, t, ls, hs, rfl, lx, et, ho, ok, by omega, fun lf H1 s1 llf => ?_⟩
    refine ⟨(by show 0 ≤ sizeLine; decide), fun D nD => ⟨_, _, rfl, ?_⟩⟩
    dsimp only [List.set, L2.start]
    have nD0 : H D = none := s1.free nD
    have s02 := s1.trans (same_upd (o := .lst []) nD)
    have eD2 := upd_same (H := H1) (a := D) (o := .lst [])
    have llf2 := llf.same (same_upd (o := .lst []) nD)
    generalize upd H1 D (.lst []) = H2 at s02 eD2 llf2
    obtain ⟨as, ea, al, rows⟩ := id llf2
    rw [leftA_len] at al
    refine ⟨_, rfl, a, _, rfl, .inr (SqT.of (s02 _ _ eal)), ?_⟩
    rw [xll]
    refine ⟨_, rfl, by omega, by omega, for_it (J := Itr 0 ls.length) (n := ls.length) walk_range0 (fun i σ H' => ∃ (y4 y5 y6 y7 : Option V) (us : List Addr), σ = [some (.ref a), some (.ref t), some (.ref lf), some (.ref D), y4, y5, y6, y7] ∧ LRAt ls hs H H2 H' D us i)
      ⟨none, none, none, none, [], rfl, s02, fun _ _ _ e => e, eD2, by simp, ⟨rfl, fun _ _ _ e => by cases e⟩, Nat.le_refl _⟩ (fun _ _ _ _ _ => trivial) ?_ ?_⟩
    · rintro i x σ H3' H3 hi ⟨y4, y5, y6, y7, us, rfl, at3⟩ ⟨rfl, rfl⟩
      refine gn ?_
      dsimp only [List.set]
      refine ⟨(by show 0 ≤ sizeLine; decide), fun C nC => ⟨_, rfl, _, _, rfl, ?_⟩⟩
      dsimp only [List.set]
      have nC0 : H C = none := at3.sm.free nC
      have nCD : C ≠ D := fun z => by rw [z, at3.eD] at nC; cases nC
      have nC2 : H2 C = none := by
        cases e : H2 C with
        | none => rfl
        | some o => rw [at3.keep C o nCD e] at nC; cases nC
      have nuC : ∀ u ∈ us, u ≠ C := fun u hu z => by
        obtain ⟨j, hj, ej⟩ := List.mem_iff_getElem.mp hu
        have := at3.lr.2 j u _ (by rw [List.getElem?_eq_getElem hj, ej]) (List.getElem?_eq_getElem (by rw [← at3.lr.1]; exact hj))
        rw [z, nC] at this
        cases this
      have at4 := at3.own (o := .lst []) nC2 nC0 nCD nuC
      have eC4 := upd_same (H := H3) (a := C) (o := .lst [])
      generalize upd H3 C (.lst []) = H4 at at4 eC4
      have llf4 := llf2.keepD eD2 at4.keep
      obtain ⟨as, ea, al, rows⟩ := id llf4
      rw [leftA_len] at al
      have row := fun (p : Nat) (hp : p < ls.length) => rows p as[p] (leftL ls hs p) (List.getElem?_eq_getElem (by omega)) (leftA_get hp)
      have asat : ∀ p, (hp : p < ls.length) → (as.map V.ref)[p]? = some (.ref as[p]) := fun p hp => by rw [List.getElem?_map, List.getElem?_eq_getElem (by omega)]; rfl
      refine ⟨_, rfl, _, rfl, lf, _, _, _, rfl, rfl, SqT.of ea, atI_nat (asat i hi), as[i], _, rfl, .inr (row i hi).sq, _, _, rfl, rfl, decide (1 < (leftL ls hs i).length), ?_, ?_⟩
      · refine congrArg V.bl ?_
        rw [VI_len, decide_eq_decide]
        omega
      refine ite2 (fun c => ?_) (fun c => ?_)
      · have c := of_decide_eq_true c
        have wy := way G hi (show 2 ≤ (leftL ls hs i).length by omega)
        refine seqcut (fun σ' H' => ∃ (j : Nat) (y7 : Option V), σ' = [some (.ref a), some (.ref t), some (.ref lf), some (.ref D), some (.int (i : Nat)), some (.ref C), some (.int (it (gF ls hs) j i : Nat)), y7] ∧ LRAt ls hs H H2 H' D us i ∧ H' C = some (.lst (VI (ringL (gF ls hs) i j))) ∧ (Cyc (gF ls hs) i j ∨ ((∀ k, 1 ≤ k → k ≤ ls.length → it (gF ls hs) k i ≠ i) ∧ it (gF ls hs) j i ≠ i))) ?_ (fun out => ?_)
        · rintro σ' H5 ⟨j, y7, rfl, at5, eC5, wh⟩
          refine ⟨_, rfl, _, rfl, rfl, decide (it (gF ls hs) j i = i), ?_, ?_⟩
          · refine congrArg V.bl ?_
            rw [decide_eq_decide]
            constructor
            · intro z
              have := V.int.inj z
              omega
            · intro z
              exact congrArg (fun n : Nat => V.int (n : Int)) z
          rcases wh with cy | ⟨no, nj⟩
          · rw [decide_eq_true cy.back]
            refine iteT ?_
            have pj : per (givA ls hs) i = j := cyc_per cy (cyc_lt cl (by rw [gl]; exact hi) cy.one cy.back)
            have jle : j ≤ ls.length := by
              have := cy.le (cyc_lt cl (by rw [gl]; exact hi) cy.one cy.back)
              rw [gl] at this
              exact this
            have eCi : H5 C = some (.lst (((ringL (gF ls hs) i j).map fun x => ((x : Nat) : Int)).map V.int)) := by rw [eC5, List.map_map]; rfl
            refine ⟨_, rfl, C, _, rfl, SqL.of eCi, by rw [List.length_map, ringL_len]; exact cy.one, fun mn hmn le => ?_⟩
            obtain ⟨m, hm, rfl⟩ := List.mem_map.mp hmn
            have lst : decide (m = i) = isLst (givA ls hs) i := by
              cases e : isLst (givA ls hs) i with
              | true =>
                have h1 := (isLst_iff.mp e).2
                rw [pj] at h1
                obtain ⟨k, hk, ek⟩ := ringL_mem.mp hm
                have h2 := h1 k hk
                have h3 := le _ (List.mem_map.mpr ⟨i, ringL_mem.mpr ⟨0, cy.one, rfl⟩, rfl⟩)
                have h4 : it (gF ls hs) k i = m := ek
                have h2' : i ≤ it (gF ls hs) k i := h2
                exact decide_eq_true (by omega)
              | false =>
                refine decide_eq_false fun z => ?_
                have : isLst (givA ls hs) i = true := isLst_iff.mpr ⟨by rw [pj]; have := cy.one; omega, fun k hk => by
                  rw [pj] at hk
                  have := le _ (List.mem_map.mpr ⟨_, ringL_mem.mpr ⟨k, hk, rfl⟩, rfl⟩)
                  have h2 : ((m : Nat) : Int) ≤ (it (gF ls hs) k i : Nat) := this
                  have h3 : i ≤ it (gF ls hs) k i := by omega
                  exact h3⟩
                rw [this] at e
                cases e
            refine ⟨_, rfl, rfl, decide (m = i), ?_, ?_⟩
            · refine congrArg V.bl ?_
              rw [decide_eq_decide]
              constructor
              · intro z
                have := V.int.inj z
                omega
              · intro z
                exact congrArg (fun n : Nat => V.int (n : Int)) z
            rw [lst]
            cases e : isLst (givA ls hs) i with
            | true =>
              refine iteT ?_
              refine ⟨_, rfl, .inl ⟨rfl, _, SqL.of at5.eD⟩, _, rfl, D, _, _, rfl, rfl, at5.eD, by rw [List.length_map]; exact sz6 (by have := at5.ul; omega), ?_⟩
              have unD : ∀ u ∈ us, u ≠ D := fun u hu => (at5.un u hu).1
              have eC7 : (upd H5 D (.lst (us.map V.ref ++ [.ref C]))) C = some (.lst (VI (ringL (gF ls hs) i j))) := by rw [upd_ne nCD]; exact eC5
              refine ⟨_, _, _, _, us ++ [C], rfl, at5.sm.fresh nD0, fun b o n e => by rw [upd_ne n]; exact at5.keep b o n e, by rw [upd_same, List.map_append]; rfl, fun u hu => ?_, ?_, by rw [List.length_append]; have := at5.ul; simp; omega⟩
              · rcases List.mem_append.mp hu with hu | hu
                · exact at5.un u hu
                · rw [List.mem_singleton] at hu
                  rw [hu]
                  exact ⟨nCD, nC0⟩
              · rw [ringsK_succ, e]
                have : (if true = true then [ringL (gB (givA ls hs)) i (per (givA ls hs) i)] else []) = [ringL (gF ls hs) i j] := by rw [if_pos rfl, pj]
                rw [this]
                exact (at5.lr.put unD).snoc eC7
            | false =>
              refine iteF ⟨_, _, _, _, us, rfl, at5.sm, at5.keep, at5.eD, at5.un, ?_, by have := at5.ul; omega⟩
              rw [ringsK_succ, e]
              simpa using at5.lr
          · rw [decide_eq_false nj]
            refine iteF ⟨_, _, _, _, us, rfl, at5.sm, at5.keep, at5.eD, at5.un, ?_, by have := at5.ul; omega⟩
            rw [ringsK_succ, per_none (by rw [gl]; exact hi) cl (by rw [gl]; exact no)]
            simpa using at5.lr
        · refine ⟨_, rfl, a, _, rfl, .inr (SqT.of (at4.sm _ _ eal)), ?_⟩
          rw [xll]
          refine ⟨_, rfl, by omega, by omega, for_it (J := Itr 0 ls.length) (n := ls.length) walk_range0 (fun j σ H' => ∃ y7 : Option V, σ = [some (.ref a), some (.ref t), some (.ref lf), some (.ref D), some (.int (i : Nat)), some (.ref C), some (.int (it (gF ls hs) j i : Nat)), y7] ∧ LRAt ls hs H H2 H' D us i ∧ H' C = some (.lst (VI (ringL (gF ls hs) i j))) ∧ ∀ k, 1 ≤ k → k ≤ j → it (gF ls hs) k i ≠ i)
            ⟨y7, rfl, at4, eC4, fun k k1 k2 => by omega⟩ (fun _ _ _ _ _ => trivial) ?_ ?_⟩
          · rintro j x σ H5' H5 hj ⟨y7, rfl, at5, eC5, no⟩ ⟨rfl, rfl⟩
            refine gn ?_
            dsimp only [List.set]
            obtain ⟨al1, al2⟩ := wy j
            have at6 := at5.own (o := .lst (VI (ringL (gF ls hs) i (j + 1)))) nC2 nC0 nCD nuC
            have e6 : VI (ringL (gF ls hs) i j) ++ [V.int (it (gF ls hs) j i : Nat)] = VI (ringL (gF ls hs) i (j + 1)) := by rw [ringL_succ, VI_app]; rfl
            refine ⟨_, rfl, .inl ⟨rfl, _, SqL.of eC5⟩, _, rfl, C, _, _, rfl, rfl, eC5, by rw [VI_len, ringL_len]; exact sz6 (by omega), ?_⟩
            rw [e6]
            have eC6 := upd_same (H := H5) (a := C) (o := .lst (VI (ringL (gF ls hs) i (j + 1))))
            generalize upd H5 C (.lst (VI (ringL (gF ls hs) i (j + 1)))) = H6 at at6 eC6
            have llf6 := llf2.keepD eD2 at6.keep
            obtain ⟨as6, ea6, al6, rows6⟩ := id llf6
            rw [leftA_len] at al6
            have GG := G _ al1 al2
            have e2 : (leftL ls hs (it (gF ls hs) j i))[1]? = some (sF ls hs (it (gF ls hs) j i)) := by
              unfold sF
              rw [List.getD_eq_getElem?_getD, List.getElem?_eq_getElem (by omega)]
              rfl
            have a6 : as6[it (gF ls hs) j i]? = some as6[it (gF ls hs) j i] := List.getElem?_eq_getElem (by omega)
            refine ⟨_, rfl, _, rfl, _, rfl, lf, _, _, _, rfl, rfl, SqT.of ea6, atI_nat (by rw [List.getElem?_map, a6]; rfl), as6[it (gF ls hs) j i], _, 1, _, rfl, rfl, (rows6 _ _ _ a6 (leftA_get al1)).sq, atI_nat (j := 1) (VI_get e2), t, _, _, _, rfl, rfl, SqT.of (at6.sm _ _ et), atI_nat (VH_get (ha_get (by rw [ho.len]; exact GG.sl))), gn ?_⟩
            dsimp only [List.set]
            rw [GG.held]
            have eq1 : gF ls hs (it (gF ls hs) j i) = it (gF ls hs) (j + 1) i := rfl
            rw [eq1]
            refine ⟨_, rfl, _, rfl, rfl, decide (it (gF ls hs) (j + 1) i = i), ?_, ?_⟩
            · refine congrArg V.bl ?_
              rw [decide_eq_decide]
              constructor
              · intro z
                have := V.int.inj z
                omega
              · intro z
                exact congrArg (fun n : Nat => V.int (n : Int)) z
            refine ite2 (fun e => ?_) (fun e => ?_)
            · have e := of_decide_eq_true e
              exact out _ _ ⟨j + 1, _, rfl, at6, eC6, .inl ⟨by omega, e, fun k k1 k2 => no k k1 (by omega)⟩⟩
            · have e : it (gF ls hs) (j + 1) i ≠ i := fun z => e (decide_eq_true z)
              refine ⟨_, rfl, at6, eC6, fun k k1 k2 => ?_⟩
              by_cases c9 : k = j + 1
              · rw [c9]; exact e
              · exact no k k1 (by omega)
          · rintro σ H5 ⟨y7, rfl, at5, eC5, no⟩
            exact out _ _ ⟨ls.length, y7, rfl, at5, eC5, .inr ⟨no, no _ (by omega) (Nat.le_refl _)⟩⟩
      · have c : ¬ 1 < (leftL ls hs i).length := fun z => c (decide_eq_true z)
        refine ⟨_, _, _, _, us, rfl, at4.sm, at4.keep, at4.eD, at4.un, ?_, by have := at4.ul; omega⟩
        have nol : isLst (givA ls hs) i = false := by
          cases e : isLst (givA ls hs) i with
          | false => rfl
          | true =>
            exfalso
            have := (orb_two ok ho hi (per_cyc (isLst_iff.mp e).1) 0).2
            exact c this
        rw [ringsK_succ, nol]
        simpa using at4.lr
    · rintro σ H3 ⟨y4, y5, y6, y7, us, rfl, at3⟩
      refine ⟨_, rfl, q D us H3 at3.sm nD0 at3.eD (fun u hu => (at3.un u hu).2) ?_⟩
      unfold ringsA
      rw [gl]
      exact at3.lr
end
end K14
namespace K14
open PySem PySem.Spec PyProof.Rows L2
/-- the ring and the holds that a law's helper is called with -/
structure RgAt (H : Hp) (a t u : Addr) (ls : List (List Nat)) (hs : List (Option Nat)) (p m : Nat) : Prop where
  lx : LX H a ls
  et : H t = some (.tup (VH hs))
  eu : H u = some (.lst (VI (ringL (gF ls hs) p m)))
  ho : HoldsOk ls hs
  st : Std ls hs
  ok : ListsOk ls.length ls
  n60 : ls.length ≤ 60
  hp : p < ls.length
  cy : Cyc (gF ls hs) p m
theorem RgAt.same {H H' : Hp} {a t u : Addr} {ls : List (List Nat)} {hs : List (Option Nat)} {p m : Nat} (r : RgAt H a t u ls hs p m) (s : Same H H') : RgAt H' a t u ls hs p m := ⟨r.lx.same s, s _ _ r.et, s _ _ r.eu, r.ho, r.st, r.ok, r.n60, r.hp, r.cy⟩
theorem RgAt.two {H : Hp} {a t u : Addr} {ls : List (List Nat)} {hs : List (Option Nat)} {p m : Nat} (r : RgAt H a t u ls hs p m) {x : Nat} (hx : x ∈ ringL (gF ls hs) p m) : x < ls.length ∧ 2 ≤ (leftL ls hs x).length := by
  obtain ⟨k, _, rfl⟩ := ringL_mem.mp hx
  exact orb_two r.ok r.ho r.hp r.cy k
theorem RgAt.len {H : Hp} {a t u : Addr} {ls : List (List Nat)} {hs : List (Option Nat)} {p m : Nat} (r : RgAt H a t u ls hs p m) : m ≤ 60 := Nat.le_trans (r.cy.le fun k => (orb_two r.ok r.ho r.hp r.cy k).1) r.n60
def spLTold : Sp := fun vs H Q _ => ∃ (a t u : Addr) (ls : List (List Nat)) (hs : List (Option Nat)) (p m : Nat), vs = [.ref a, .ref t, .ref u] ∧ RgAt H a t u ls hs p m ∧ ∀ c H', Same H H' → RP H' c (prs ls hs (ringL (gF ls hs) p m)) → Q (.ref c) H'
theorem scLTold : FnScope ["lists", "holds", "ring", "left", "giver"] ["lists", "holds", "ring"] (defScope sLTold) := ⟨rfl, rfl, rfl, by decide +kernel, rfl, by decide +kernel, by decide +kernel⟩
def spLIsOdd : Sp := fun vs H Q _ => ∃ (a t u : Addr) (ls : List (List Nat)) (hs : List (Option Nat)) (p m : Nat), vs = [.ref a, .ref t, .ref u] ∧ RgAt H a t u ls hs p m ∧ ∀ H', Same H H' → Q (.bl (oddB (leftA ls hs) (prs ls hs (ringL (gF ls hs) p m)))) H'
theorem scLIsOdd : FnScope ["lists", "holds", "ring", "left", "takers", "giver"] ["lists", "holds", "ring"] (defScope sLIsOdd) := ⟨rfl, rfl, rfl, by decide +kernel, rfl, by decide +kernel, by decide +kernel⟩
def spLTurned : Sp := fun vs H Q _ => ∃ (a t u : Addr) (ls : List (List Nat)) (hs : List (Option Nat)) (p m : Nat), vs = [.ref a, .ref t, .ref u] ∧ RgAt H a t u ls hs p m ∧ ∀ c hs' H', Same H H' → Past hs (prs ls hs (ringL (gF ls hs) p m)) hs' → H' c = some (.tup (VH hs')) → Q (.ref c) H'
theorem scLTurned : FnScope ["lists", "holds", "ring", "left", "found", "giver", "second"] ["lists", "holds", "ring"] (defScope sLTurned) := ⟨rfl, rfl, rfl, by decide +kernel, rfl, by decide +kernel, by decide +kernel⟩
def goodR (ls : List (List Nat)) (hs : List (Option Nat)) : List (List Nat) := (ringsA (givA ls hs)).filter fun r => !oddB (leftA ls hs) (prs ls hs r)
def spLGood : Sp := fun vs H Q _ => ∃ (a t : Addr) (ls : List (List Nat)) (hs : List (Option Nat)), vs = [.ref a, .ref t] ∧ LX H a ls ∧ H t = some (.tup (VH hs)) ∧ HoldsOk ls hs ∧ Std ls hs ∧ ListsOk ls.length ls ∧ ls.length ≤ 60 ∧
  ∀ r us H', Same H H' → H r = none → H' r = some (.lst (us.map V.ref)) → (∀ u ∈ us, H u = none) → LsR H' us (goodR ls hs) → Q (.ref r) H'
theorem scLGood : FnScope ["lists", "holds", "ring"] ["lists", "holds"] (defScope sLGood) := ⟨rfl, rfl, rfl, by decide +kernel, rfl, by decide +kernel, by decide +kernel⟩
theorem ringR {ls : List (List Nat)} {hs : List (Option Nat)} {r : List Nat} (h : r ∈ ringsA (givA ls hs)) : ∃ p m, p < ls.length ∧ Cyc (gF ls hs) p m ∧ r = ringL (gF ls hs) p m := by
  obtain ⟨p, m, hp, _, cy, e⟩ := ringsA_one h
  rw [givA_len] at hp
  exact ⟨p, m, hp, cy, e⟩
theorem VI_item {s : List Nat} {i : Nat} {x : V} (h : (VI s)[i]? = some x) (hi : i < s.length) : x = .int ((s.getD i 0 : Nat) : Int) ∧ s[i]? = some (s.getD i 0) := by
  have e : s[i]? = some (s.getD i 0) := by rw [List.getD_eq_getElem?_getD, List.getElem?_eq_getElem hi]; rfl
  have := VI_get e
  rw [this] at h
  exact ⟨(Option.some.inj h).symm, e⟩
theorem map_getD {α β : Type} (xs : List α) (d : α) (f : α → β) : ((List.range xs.length).map fun i => f (xs.getD i d)) = xs.map f := by
  apply List.ext_getElem?
  intro i
  rw [List.getElem?_map, List.getElem?_map]
  by_cases c : i < xs.length
  · rw [List.getElem?_range c, List.getElem?_eq_getElem c]
    show some (f (xs.getD i d)) = some (f xs[i])
    rw [List.getD_eq_getElem?_getD, List.getElem?_eq_getElem c]
    rfl
  · rw [List.getElem?_eq_none (by simp; omega), List.getElem?_eq_none (by omega)]
    rfl
section
variable {P : Program} {w : World} {K : PySem.W.Frag} {mg : Str → Option Value} {base : Heap}
theorem ok_l_told {f f1 : Addr} {fd d1 : FuncData} {k : Nat} (F : Fun K "_law_told" "_law_told" sLTold f fd) (Lf : Has P w K mg base k "_law_left" ["lists", "holds"] spLeft f1 d1) (mt : mg "tuple" = none) : FnOk P w K mg base CX0 (k + 1) f fd ["lists", "holds", "ring"] spLTold := by
  refine F.ok scLTold (fun vs H Q E h => ?_) (fun cdv A outer s H vs Q E hr h => ?_)
  · obtain ⟨a, t, u, ls, hs, p, m, rfl, _⟩ := h
    rfl
  · obtain ⟨a, t, u, ls, hs, p, m, rfl, R, q⟩ := h
    refine ⟨_, pss_cons (ps_set (i := 3) scLTold.nd rfl (.inr rfl) (pe_call Lf.ok hr rfl Lf.m Lf.k Lf.b .nil pass0 (pa_cons (pv 0) (pa_cons (pv 1) pa_nil))))
      (pss_one (ps_ret (pe_callTy call_tuple_of (by rfl) mt (by decide +kernel) (pa_cons (pe_lc (own := [("giver", 4)]) (g := gName 4) (tt := tYes) (te := tTup (tCons (tVar 4) (tCons (tOp (rIxT K) (tOp (rIxT K) (tVar 3) (tVar 4)) (tC (.int 0))) tNil))) rfl scLTold.nd (pi_list (pv 2))
          (blkOk_by (own := [("giver", 4)]) (N := ["lists", "holds", "ring", "left", "giver"]) (sc := defScope sLTold) (by decide +kernel)) (fun _ _ _ _ _ => (pg_name (i := 4) scLTold.nd rfl (Or.inl rfl))) (fun _ _ _ _ _ => pts_nil)
          (fun _ _ _ _ _ => (pe_tup (pa_cons (pv 4) (pa_cons (pe_ix ix_tup (pe_ix ix_tup (pv 3) (pv 4) (fun _ _ => rfl)) pe_int (fun _ _ => rfl)) pa_nil))))) pa_nil)))), ?_⟩
    have n60 := R.n60
    have rl := R.len
    refine ⟨_, rfl, _, rfl, a, t, ls, hs, rfl, R.lx, R.et, R.ho, R.ok, by omega, fun lf H1 s1 llf => gn ?_⟩
    dsimp only [List.set, L2.start]
    obtain ⟨as, ea, al, rows⟩ := id llf
    rw [leftA_len] at al
    have eu1 := s1 _ _ R.eu
    refine ⟨_, rfl, u, rfl, ⟨_, SqL.of eu1⟩, fun D nD => ?_⟩
    refine lc_rows (walk_list (K := K) (a := u) (xs := VI (ringL (gF ls hs) p m))) (by rw [VI_len, ringL_len]; omega) (fun i => VI [(ringL (gF ls hs) p m).getD i 0, (leftL ls hs ((ringL (gF ls hs) p m).getD i 0)).headD 0]) nD (fun _ sm => SqL.of (sm _ _ eu1)) ?_ ?_
    · rintro i x Ha Hb Z out hi sm ⟨rfl, ex⟩
      rw [VI_len] at hi
      obtain ⟨rfl, er⟩ := VI_item ex hi
      obtain ⟨yl, y2⟩ := R.two (List.mem_of_getElem? er)
      generalize (ringL (gF ls hs) p m).getD i 0 = y at er yl y2 out
      have ay : as[y]? = some as[y] := List.getElem?_eq_getElem (by omega)
      have ey := (rows y _ _ ay (leftA_get yl)).same sm
      refine gn ⟨rfl, _, rfl, _, rfl, _, rfl, lf, _, _, _, rfl, rfl, SqT.of (sm _ _ ea), atI_nat (by rw [List.getElem?_map, ay]; rfl), as[y], _, 0, _, rfl, rfl, ey.sq, atI_nat (j := 0) (VI_get (by rw [← List.head?_eq_getElem?]; exact head_some (by omega))), (by show 2 ≤ sizeLine; decide), fun p np => out p _ (same_upd np) upd_same⟩
    · intro rs H2 sm eD rl2 rws
      rw [VI_len] at rl2
      refine ⟨D, _, rfl, .inl ⟨SqL.of eD, fun c nc => q c _ ((s1.trans sm).fresh ((s1.trans sm).free nc)) ⟨rs, upd_same, ?_, fun j v x e1 e2 => ?_⟩⟩⟩
      · unfold prs
        rw [rl2, List.length_map]
      · unfold prs at e2
        rw [List.getElem?_map] at e2
        cases e : (ringL (gF ls hs) p m)[j]? with
        | none => rw [e] at e2; cases e2
        | some y =>
          rw [e] at e2
          cases e2
          have := rws j v e1
          rw [show (ringL (gF ls hs) p m).getD j 0 = y by rw [List.getD_eq_getElem?_getD, e]; rfl] at this
          exact ofN nc this
theorem ok_l_is_odd {f f1 : Addr} {fd d1 : FuncData} {k : Nat} (F : Fun K "_law_is_odd" "_law_is_odd" sLIsOdd f fd) (Lf : Has P w K mg base k "_law_left" ["lists", "holds"] spLeft f1 d1) (ml : mg "len" = none) (ma : mg "all" = none) : FnOk P w K mg base CX0 (k + 1) f fd ["lists", "holds", "ring"] spLIsOdd := by
  refine F.ok scLIsOdd (fun vs H Q E h => ?_) (fun cdv A outer s H vs Q E hr h => ?_)
  · obtain ⟨a, t, u, ls, hs, p, m, rfl, _⟩ := h
    rfl
  · obtain ⟨a, t, u, ls, hs, p, m, rfl, R, q⟩ := h
    refine ⟨_, pss_cons (ps_set (i := 3) scLIsOdd.nd rfl (.inr rfl) (pe_call Lf.ok hr rfl Lf.m Lf.k Lf.b .nil pass0 (pa_cons (pv 0) (pa_cons (pv 1) pa_nil))))
      (pss_cons (ps_set (i := 4) scLIsOdd.nd rfl (.inr rfl) (pe_lc (own := [("giver", 5)]) (g := gName 5) (tt := tYes) (te := tOp (rIxT K) (tOp (rIxT K) (tVar 3) (tVar 5)) (tC (.int 0))) rfl scLIsOdd.nd (pi_list (pv 2))
          (blkOk_by (own := [("giver", 5)]) (N := ["lists", "holds", "ring", "left", "takers", "giver"]) (sc := defScope sLIsOdd) (by decide +kernel)) (fun _ _ _ _ _ => (pg_name (i := 5) scLIsOdd.nd rfl (Or.inl rfl))) (fun _ _ _ _ _ => pts_nil)
          (fun _ _ _ _ _ => (pe_ix ix_tup (pe_ix ix_tup (pv 3) (pv 5) (fun _ _ => rfl)) pe_int (fun _ _ => rfl)))))
      (pss_one (ps_ret (pe_callB (cr_all rfl) (by rfl) ma (by decide +kernel) (pa_cons (pe_lc (own := [("giver", 5)]) (g := gName 5) (tt := tYes) (te := tAndV (tOp (rIn K false) (tVar 5) (tVar 4)) (tOp rEq (tCB (rLen K) (tCons (tOp (rIxT K) (tVar 3) (tVar 5)) tNil)) (tC (.int 2)))) rfl scLIsOdd.nd (pi_list (pv 2))
          (blkOk_by (own := [("giver", 5)]) (N := ["lists", "holds", "ring", "left", "takers", "giver"]) (sc := defScope sLIsOdd) (by decide +kernel)) (fun _ _ _ _ _ => (pg_name (i := 5) scLIsOdd.nd rfl (Or.inl rfl))) (fun _ _ _ _ _ => pts_nil)
          (fun _ _ _ _ _ => (pe_and (pe_cmpR op_in_seq (pv 5) (pv 4) (by rfl)) (pe_one (pe_cmpR op_eq (pe_callB call_len_seq (by rfl) ml PySem.boot_len (pa_cons (pe_ix ix_tup (pv 3) (pv 5) (fun _ _ => rfl)) pa_nil)) pe_int (nomark _)))))) pa_nil))))), ?_⟩
    have n60 := R.n60
    have rl := R.len
    refine ⟨_, rfl, _, rfl, a, t, ls, hs, rfl, R.lx, R.et, R.ho, R.ok, by omega, fun lf H1 s1 llf => gn ?_⟩
    dsimp only [List.set, L2.start]
    obtain ⟨as, ea, al, rows⟩ := id llf
    rw [leftA_len] at al
    have eu1 := s1 _ _ R.eu
    have ro := fun x (hx : x ∈ ringL (gF ls hs) p m) => R.two hx
    generalize hrg : ringL (gF ls hs) p m = rg at eu1 ro q
    have rgl : rg.length ≤ 60 := by rw [← hrg, ringL_len]; exact rl
    refine ⟨_, rfl, u, rfl, ⟨_, SqL.of eu1⟩, fun D nD => ?_⟩
    refine lc_same (walk_list (K := K) (a := u) (xs := VI rg)) (by rw [VI_len]; omega) (fun i => .int ((leftL ls hs (rg.getD i 0)).headD 0 : Nat)) nD (fun _ sm => SqL.of (sm _ _ eu1)) ?_ ?_
    · rintro i x Ha Hb Z out hi sm ⟨rfl, ex⟩
      rw [VI_len] at hi
      obtain ⟨rfl, er⟩ := VI_item ex hi
      obtain ⟨yl, y2⟩ := ro _ (List.mem_of_getElem? er)
      generalize rg.getD i 0 = y at er yl y2 out
      have ay : as[y]? = some as[y] := List.getElem?_eq_getElem (by omega)
      have ey := (rows y _ _ ay (leftA_get yl)).same sm
      exact gn ⟨rfl, _, rfl, _, rfl, lf, _, _, _, rfl, rfl, SqT.of (sm _ _ ea), atI_nat (by rw [List.getElem?_map, ay]; rfl), as[y], _, 0, _, rfl, rfl, ey.sq, atI_nat (j := 0) (VI_get (by rw [← List.head?_eq_getElem?]; exact head_some (by omega))), out _ same_rfl⟩
    · intro H2 s2 eD
      have eD' : H2 D = some (.lst (VI ((prs ls hs rg).map Prod.snd))) := by
        rw [eD, VI_len]
        have := map_getD rg 0 fun y => V.int ((leftL ls hs y).headD 0 : Nat)
        rw [this]
        unfold prs VI
        rw [List.map_map, List.map_map]
        rfl
      refine gn ?_
      dsimp only [List.set]
      have ea2 := s2 _ _ ea
      refine ⟨_, rfl, u, rfl, ⟨_, SqL.of (s2 _ _ eu1)⟩, fun D2 nD2 => ?_⟩
      refine lc_same (walk_list (K := K) (a := u) (xs := VI rg)) (by rw [VI_len]; omega) (fun i => .bl (decide (rg.getD i 0 ∈ (prs ls hs rg).map Prod.snd) && decide ((la (leftA ls hs) (rg.getD i 0)).length = 2))) nD2 (fun _ sm => SqL.of (sm _ _ (s2 _ _ eu1))) ?_ ?_
      · rintro i x Ha Hb Z out hi sm ⟨rfl, ex⟩
        rw [VI_len] at hi
        obtain ⟨rfl, er⟩ := VI_item ex hi
        obtain ⟨yl, y2⟩ := ro _ (List.mem_of_getElem? er)
        generalize rg.getD i 0 = y at er yl y2 out
        have ay : as[y]? = some as[y] := List.getElem?_eq_getElem (by omega)
        have ey := ((rows y _ _ ay (leftA_get yl)).same s2).same sm
        refine gn ⟨rfl, _, rfl, _, rfl, D, _, rfl, .inl (SqL.of (sm _ _ eD')), rfl, flat_VI _, ?_⟩
        show ∃ c, V.bl (inV (.int (y : Nat)) (VI ((prs ls hs rg).map Prod.snd))) = .bl c ∧ _
        rw [inV_VI]
        refine ⟨_, rfl, ?_⟩
        have o2 := out _ same_rfl
        by_cases c : y ∈ (prs ls hs rg).map Prod.snd
        · rw [decide_eq_true c, Bool.true_and] at o2
          rw [decide_eq_true c]
          refine iteT ?_
          refine ⟨_, rfl, _, rfl, lf, _, _, _, rfl, rfl, SqT.of (sm _ _ ea2), atI_nat (by rw [List.getElem?_map, ay]; rfl), as[y], _, rfl, .inr ey.sq, ?_⟩
          refine ⟨rfl, ?_⟩
          have : decide (V.int ((VI (leftL ls hs y)).length : Nat) = V.int 2) = decide ((la (leftA ls hs) y).length = 2) := by
            rw [VI_len, la_leftA yl, decide_eq_decide]
            constructor
            · intro z
              have := V.int.inj z
              omega
            · intro z
              rw [z]
              rfl
          rw [this]
          exact o2
        · rw [decide_eq_false c, Bool.false_and] at o2
          rw [decide_eq_false c]
          exact iteF o2
      · intro H3 s3 eD3
        refine ⟨D2, rg.map fun y => decide (y ∈ (prs ls hs rg).map Prod.snd) && decide ((la (leftA ls hs) y).length = 2), rfl, SqL.of ?_, ?_⟩
        · rw [eD3, VI_len, List.map_map]
          exact congrArg (fun z => some (HO.lst z)) (map_getD rg 0 fun y => V.bl (decide (y ∈ (prs ls hs rg).map Prod.snd) && decide ((la (leftA ls hs) y).length = 2)))
        · have : (rg.map fun y => decide (y ∈ (prs ls hs rg).map Prod.snd) && decide ((la (leftA ls hs) y).length = 2)).all id = oddB (leftA ls hs) (prs ls hs rg) := by
            unfold oddB
            rw [List.all_map]
            conv => rhs; unfold prs
            rw [List.all_map]
            rfl
          rw [this]
          exact q _ ((s1.trans s2).trans s3)
theorem ok_l_turned {f f1 : Addr} {fd d1 : FuncData} {k : Nat} (F : Fun K "_law_turned" "_law_turned" sLTurned f fd) (Lf : Has P w K mg base k "_law_left" ["lists", "holds"] spLeft f1 d1) (mli : mg "list" = none) (mt : mg "tuple" = none) : FnOk P w K mg base CX0 (k + 1) f fd ["lists", "holds", "ring"] spLTurned := by
  refine F.ok scLTurned (fun vs H Q E h => ?_) (fun cdv A outer s H vs Q E hr h => ?_)
  · obtain ⟨a, t, u, ls, hs, p, m, rfl, _⟩ := h
    rfl
  · obtain ⟨a, t, u, ls, hs, p, m, rfl, R, q⟩ := h
    refine ⟨_, pss_cons (ps_par (i := 3) (j := 4) rfl scLTurned.nd rfl rfl (by decide) rfl rfl (pa_cons (pe_call Lf.ok hr rfl Lf.m Lf.k Lf.b .nil pass0 (pa_cons (pv 0) (pa_cons (pv 1) pa_nil))) (pa_cons (pe_callTy call_list_of (by rfl) mli (by decide +kernel) (pa_cons (pv 1) pa_nil)) pa_nil)) (by rfl))
      (pss_cons (ps_for PassesOwn.never rfl (pi_list (pv 2)) (pg_name (i := 5) scLTurned.nd rfl (.inl rfl))
      (pss_cons (ps_set (i := 6) scLTurned.nd rfl (.inl rfl) (pe_ix ix_tup (pe_ix ix_tup (pv 3) (pv 5) (fun _ _ => rfl)) pe_int (fun _ _ => rfl)))
      (pss_one (ps_asg (pv 5) (pg_sub (pv 4) (pv 6) set_list)))))
      (pss_one (ps_ret (pe_callTy call_tuple_of (by rfl) mt (by decide +kernel) (pa_cons (pv 4) pa_nil))))), ?_⟩
    have n60 := R.n60
    have rl := R.len
    have G := giv_at R.ok R.ho R.st
    have two := orb_two R.ok R.ho R.hp R.cy
    refine ⟨_, rfl, _, rfl, a, t, ls, hs, rfl, R.lx, R.et, R.ho, R.ok, by omega, fun lf H1 s1 llf => ?_⟩
    obtain ⟨as, ea, al, rows⟩ := id llf
    rw [leftA_len] at al
    refine ⟨_, rfl, t, _, rfl, .inr (SqT.of (s1 _ _ R.et)), fun D nD => ⟨_, _, rfl, ?_⟩⟩
    dsimp only [List.set, L2.start]
    have nD0 := s1.free nD
    have sD := same_upd (o := .lst (VH hs)) nD
    have eu1 := sD _ _ (s1 _ _ R.eu)
    refine ⟨_, rfl, u, rfl, ⟨_, SqL.of eu1⟩, ?_⟩
    refine for_it (walk_list (K := K) (a := u) (xs := VI (ringL (gF ls hs) p m))) (fun i σ H' => ∃ (y5 y6 : Option V) (hs' : List (Option Nat)), σ = [some (.ref a), some (.ref t), some (.ref u), some (.ref lf), some (.ref D), y5, y6] ∧ Same H1 H' ∧ H' D = some (.lst (VH hs')) ∧ hs'.length = hs.length ∧ (∀ j, j < i → ha hs' (sF ls hs (it (gF ls hs) j p)) = some (it (gF ls hs) j p)) ∧ ∀ y, (∀ j, j < i → sF ls hs (it (gF ls hs) j p) ≠ y) → ha hs' y = ha hs y)
      ⟨none, none, hs, rfl, sD, upd_same, rfl, fun j h => absurd h (Nat.not_lt_zero _), fun _ _ => rfl⟩ (fun i σ H' _ ⟨_, _, _, _, sm, _⟩ => SqL.of (sm _ _ (s1 _ _ R.eu))) ?_ ?_
    · rintro i x σ H2 H3 hi ⟨y5, y6, hs', rfl, sm, eD, hl, yes, no⟩ ⟨rfl, ex⟩
      rw [VI_len, ringL_len] at hi
      have ey := VI_get (ringL_at (g := gF ls hs) (p := p) hi)
      rw [ey] at ex
      cases ex
      obtain ⟨yl, y2⟩ := two i
      have GG := G _ yl y2
      have e2 : (leftL ls hs (it (gF ls hs) i p))[1]? = some (sF ls hs (it (gF ls hs) i p)) := by
        unfold sF
        rw [List.getD_eq_getElem?_getD, List.getElem?_eq_getElem (by omega)]
        rfl
      have ay : as[it (gF ls hs) i p]? = some as[it (gF ls hs) i p] := List.getElem?_eq_getElem (by omega)
      refine gn ?_
      dsimp only [List.set]
      refine ⟨_, rfl, _, rfl, lf, _, _, _, rfl, rfl, SqT.of (sm _ _ ea), atI_nat (by rw [List.getElem?_map, ay]; rfl), as[it (gF ls hs) i p], _, 1, _, rfl, rfl, ((rows _ _ _ ay (leftA_get yl)).same sm).sq, atI_nat (j := 1) (VI_get e2), gn ?_⟩
      dsimp only [List.set]
      have sl : sF ls hs (it (gF ls hs) i p) < hs'.length := by rw [hl, R.ho.len]; exact GG.sl
      refine ⟨_, rfl, _, rfl, _, rfl, D, _, ((sF ls hs (it (gF ls hs) i p) : Nat) : Int), sF ls hs (it (gF ls hs) i p), rfl, rfl, eD, by unfold VH; rw [List.length_map]; exact ixN_nat sl, ?_⟩
      refine ⟨_, _, hs'.set (sF ls hs (it (gF ls hs) i p)) (some (it (gF ls hs) i p)), rfl, sm.fresh nD, ?_, by rw [List.length_set, hl], fun j hj => ?_, fun y hy => ?_⟩
      · rw [upd_same]
        unfold VH
        rw [List.map_set]
        rfl
      · rw [ha_set sl]
        by_cases c : j = i
        · subst c
          rw [if_pos rfl]
        · rw [if_neg fun z => ?_]
          · exact yes j (by omega)
          · -- unlike seconds
            obtain ⟨zl, z2⟩ := two j
            have GJ := G _ zl z2
            have h1 := GG.held
            have h2 := GJ.held
            rw [z, h1] at h2
            have h3 : it (gF ls hs) (i + 1) p = it (gF ls hs) (j + 1) p := Option.some.inj h2
            have := orb_inj R.cy.one R.cy.back _ _ ⟨i, rfl⟩ ⟨j, rfl⟩ h3
            exact R.cy.inj (i := j) (j := i) hi (by omega) this.symm
      · rw [ha_set sl, if_neg fun z => hy i (by omega) z.symm]
        exact no y fun j hj => hy j (by omega)
    · rintro σ H2 ⟨y5, y6, hs', rfl, sm, eD, hl, yes, no⟩
      rw [VI_len, ringL_len] at yes no
      have pl : (prs ls hs (ringL (gF ls hs) p m)).length = m := by unfold prs; rw [List.length_map, ringL_len]
      have pat : ∀ k x, (prs ls hs (ringL (gF ls hs) p m))[k]? = some x → k < m ∧ x = (it (gF ls hs) k p, (leftL ls hs (it (gF ls hs) k p)).headD 0) := fun k x e => by
        have hk : k < m := by rw [← pl]; exact (List.getElem?_eq_some_iff.mp e).1
        unfold prs at e
        rw [List.getElem?_map, ringL_at hk] at e
        exact ⟨hk, (Option.some.inj e).symm⟩
      have tk := fun k => (takers R.ok R.ho R.st R.hp R.cy k).1
      have past : Past hs (prs ls hs (ringL (gF ls hs) p m)) hs' := by
        refine ⟨hl, fun k x y e1 e2 => ?_, fun z hz => no z fun j hj e => ?_⟩
        · rw [pl] at e2
          obtain ⟨hk, rfl⟩ := pat k x e1
          obtain ⟨hk2, rfl⟩ := pat _ y e2
          show ha hs' ((leftL ls hs (it (gF ls hs) k p)).headD 0) = some (it (gF ls hs) ((k + m - 1) % m) p)
          have one := R.cy.one
          cases k with
          | zero =>
            have e0 : (0 + m - 1) % m = m - 1 := by rw [Nat.zero_add, Nat.mod_eq_of_lt (by omega)]
            rw [e0]
            have := tk (m - 1)
            rw [show m - 1 + 1 = m by omega, R.cy.back] at this
            show ha hs' ((leftL ls hs p).headD 0) = _
            rw [this]
            exact yes (m - 1) (by omega)
          | succ k =>
            have e0 : (k + 1 + m - 1) % m = k := by rw [show k + 1 + m - 1 = k + m by omega, Nat.add_mod_right, Nat.mod_eq_of_lt (by omega)]
            rw [e0, tk k]
            exact yes k (by omega)
        · obtain ⟨n, hn⟩ : ∃ n, m = n + 1 := ⟨m - 1, by have := R.cy.one; omega⟩
          by_cases c : j + 1 < m
          · refine hz (it (gF ls hs) (j + 1) p, (leftL ls hs (it (gF ls hs) (j + 1) p)).headD 0) (List.mem_map.mpr ⟨_, ringL_mem.mpr ⟨j + 1, c, rfl⟩, rfl⟩) ?_
            rw [← e]
            exact tk j
          · have ej : j + 1 = m := by omega
            refine hz (p, (leftL ls hs p).headD 0) (List.mem_map.mpr ⟨_, ringL_mem.mpr ⟨0, R.cy.one, rfl⟩, rfl⟩) ?_
            rw [← e]
            have := tk j
            rw [ej, R.cy.back] at this
            exact this
      refine ⟨_, rfl, D, _, rfl, .inl ⟨SqL.of eD, fun c nc => q c hs' _ ((s1.trans sm).fresh ((s1.trans sm).free nc)) past upd_same⟩⟩
theorem ok_l_good {f f1 f2 : Addr} {fd d1 d2 : FuncData} {k : Nat} (F : Fun K "_law_good" "_law_good" sLGood f fd) (Rg : Has P w K mg base k "_law_rings" ["lists", "holds"] spLRings f1 d1) (Io : Has P w K mg base k "_law_is_odd" ["lists", "holds", "ring"] spLIsOdd f2 d2) : FnOk P w K mg base CX0 (k + 1) f fd ["lists", "holds"] spLGood := by
  refine F.ok scLGood (fun vs H Q E h => ?_) (fun cdv A outer s H vs Q E hr h => ?_)
  · obtain ⟨a, t, ls, hs, rfl, _⟩ := h
    rfl
  · obtain ⟨a, t, ls, hs, rfl, lx, et, ho, st, ok, n60, q⟩ := h
    refine ⟨_, pss_one (ps_ret (pe_lc (own := [("ring", 2)]) (g := gName 2) (tt := tNot (tB (tCall spLIsOdd [] E0 (tCons (tVar 0) (tCons (tVar 1) (tCons (tVar 2) tNil)))))) (te := tVar 2) rfl scLGood.nd (pi_list (pe_call Rg.ok hr rfl Rg.m Rg.k Rg.b .nil pass0 (pa_cons (pv 0) (pa_cons (pv 1) pa_nil))))
          (blkOk_by (own := [("ring", 2)]) (N := ["lists", "holds", "ring"]) (sc := defScope sLGood) (by decide +kernel)) (fun _ _ _ _ _ => (pg_name (i := 2) scLGood.nd rfl (Or.inl rfl))) (fun _ _ _ _ _ => (pts_one (pt_not (pt_val (pe_call Io.ok hr rfl Io.m Io.k Io.b .nil pass0 (pa_cons (pv 0) (pa_cons (pv 1) (pa_cons (pv 2) pa_nil))))))))
          (fun _ _ _ _ _ => (pv 2)))), ?_⟩
    refine ⟨_, rfl, _, rfl, a, t, ls, hs, rfl, lx, et, ho, st, ok, n60, fun r us H1 s1 nr er un lr => ?_⟩
    have ul := lr.1
    have rl : (ringsA (givA ls hs)).length ≤ 60 := by
      unfold ringsA
      rw [List.length_map]
      refine Nat.le_trans (List.length_filter_le _ _) ?_
      rw [List.length_range, givA_len]
      exact n60
    refine ⟨r, rfl, ⟨_, SqL.of er⟩, fun D nD => ?_⟩
    refine lc_pick (walk_list (K := K) (a := r) (xs := us.map V.ref)) (by rw [List.length_map]; omega) (fun i => !oddB (leftA ls hs) (prs ls hs ((ringsA (givA ls hs)).getD i []))) (fun i => .ref (us.getD i default)) nD (fun _ sm => SqL.of (sm _ _ er)) ?_ ?_
    · rintro i x Ha Hb R Z yes' no' hi sm ⟨rfl, ex⟩
      rw [List.length_map] at hi
      have eu : us[i]? = some us[i] := List.getElem?_eq_getElem hi
      rw [List.getElem?_map, eu] at ex
      cases ex
      obtain ⟨rg, ep⟩ : ∃ rg, (ringsA (givA ls hs))[i]? = some rg := ⟨_, List.getElem?_eq_getElem (by omega)⟩
      have eR := sm _ _ (lr.2 i _ _ eu ep)
      rw [show (ringsA (givA ls hs)).getD i [] = rg by rw [List.getD_eq_getElem?_getD, ep]; rfl] at yes' no'
      rw [show us.getD i default = us[i] by rw [List.getD_eq_getElem?_getD, eu]; rfl] at yes'
      obtain ⟨p, m, hp, cy, rfl⟩ := ringR (List.mem_of_getElem? ep)
      refine gn ⟨rfl, _, rfl, _, rfl, _, rfl, a, t, us[i], ls, hs, p, m, rfl, ⟨(lx.same s1).same sm, sm _ _ (s1 _ _ et), eR, ho, st, ok, n60, hp, cy⟩, fun H3 s3 => ⟨_, rfl, ?_⟩⟩
      cases hb : oddB (leftA ls hs) (prs ls hs (ringL (gF ls hs) p m)) with
      | true => exact iteF (no' _ s3 (by rw [hb]; rfl))
      | false => exact iteT ⟨_, rfl, yes' _ s3 (by rw [hb]; rfl)⟩
    · intro H3 s3 eD
      have s13 := s1.trans s3
      rw [List.length_map] at eD
      have sf := sel_filter (ringsA (givA ls hs)) fun r => !oddB (leftA ls hs) (prs ls hs r)
      have hd : (default : List Nat) = [] := rfl
      rw [hd] at sf
      refine q D (((List.range us.length).filter fun i => !oddB (leftA ls hs) (prs ls hs ((ringsA (givA ls hs)).getD i []))).map fun i => us.getD i default) _ s13 (s1.free nD) (by rw [eD, List.map_map]; rfl) (fun u hu => ?_) ⟨?_, fun j u rg e1 e2 => ?_⟩
      · obtain ⟨i, hi, rfl⟩ := List.mem_map.mp hu
        have hi := List.mem_range.mp (List.mem_filter.mp hi).1
        rw [List.getD_eq_getElem?_getD, List.getElem?_eq_getElem hi]
        exact un _ (List.getElem_mem hi)
      · unfold goodR
        rw [← sf, List.length_map, List.length_map, ul]
      · unfold goodR at e2
        rw [← sf, List.getElem?_map] at e2
        rw [List.getElem?_map, ul] at e1
        cases e3 : ((List.range (ringsA (givA ls hs)).length).filter fun i => !oddB (leftA ls hs) (prs ls hs ((ringsA (givA ls hs)).getD i [])))[j]? with
        | none => rw [e3] at e1; cases e1
        | some i =>
          rw [e3] at e1 e2
          cases e1
          cases e2
          have hi := List.mem_range.mp (List.mem_filter.mp (List.mem_of_getElem? e3)).1
          have eu : us[i]? = some us[i] := List.getElem?_eq_getElem (by omega)
          have ep : (ringsA (givA ls hs))[i]? = some (ringsA (givA ls hs))[i] := List.getElem?_eq_getElem hi
          have q1 : us.getD i default = us[i] := by rw [List.getD_eq_getElem?_getD, eu]; rfl
          have q2 : (ringsA (givA ls hs)).getD i [] = (ringsA (givA ls hs))[i] := by rw [List.getD_eq_getElem?_getD, ep]; rfl
          show H3 (us.getD i default) = some (.lst (VI ((ringsA (givA ls hs)).getD i [])))
          rw [q1, q2]
          exact s3 _ _ (lr.2 i _ _ eu ep)
end
end K14
namespace K14
open PySem PySem.Spec PyProof.Rows L2
def spGiverB (C : Addr) : Sp := fun vs H Q _ => ∃ (wi t : Addr) (ns ls : List (List Nat)) (hs : List (Option Nat)) (p b : Nat), vs = [.ref wi, .ref t, .int (p : Nat)] ∧ WAt C H wi ns ls ∧ H t = some (.tup (VH hs)) ∧ HoldsOk ls hs ∧ p < ls.length ∧ ha (givA ls hs) p = some b ∧ ∀ H', Same H H' → Q (.int (b : Nat)) H'
def spGiverBX (C CR : Addr) : Sp := fun vs H _ E => ∃ (wi t : Addr) (ns ls : List (List Nat)) (hs : List (Option Nat)) (p : Nat), vs = [.ref wi, .ref t, .int (p : Nat)] ∧ WAt C H wi ns ls ∧ H t = some (.tup (VH hs)) ∧ HoldsOk ls hs ∧ p < ls.length ∧ ha (givA ls hs) p = none ∧
  ∀ dd H', Same H H' → H' dd = some (.xd [("word", .str "list")]) → E (.ref CR) (some dd) H'
theorem scGiverB : FnScope ["wishes", "holds", "person", "behind"] ["wishes", "holds", "person"] (defScope sGiverBehind) := ⟨rfl, rfl, rfl, by decide +kernel, rfl, by decide +kernel, by decide +kernel⟩
def spTurnF (C : Addr) : Sp := fun vs H Q _ => ∃ (wi t : Addr) (ns ls : List (List Nat)) (hs : List (Option Nat)) (p : Nat), vs = [.ref wi, .ref t, .int (p : Nat)] ∧ WAt C H wi ns ls ∧ H t = some (.tup (VH hs)) ∧ HoldsOk ls hs ∧ Std ls hs ∧ p < ls.length ∧ 2 ≤ (leftL ls hs p).length ∧
  ∀ c R H', Same H H' → R ∈ ringsA (givA ls hs) → it (gF ls hs) ls.length p ∈ R → RP H' c (prs ls hs R) → Q (.ref c) H'
def spTurnFX (C CR : Addr) : Sp := fun vs H _ E => ∃ (wi t : Addr) (ns ls : List (List Nat)) (hs : List (Option Nat)) (p : Nat), vs = [.ref wi, .ref t, .int (p : Nat)] ∧ WAt C H wi ns ls ∧ H t = some (.tup (VH hs)) ∧ HoldsOk ls hs ∧ p < ls.length ∧ (leftL ls hs p).length < 2 ∧
  ∀ dd H', Same H H' → H' dd = some (.xd [("word", .str "list")]) → E (.ref CR) (some dd) H'
theorem scTurnF : FnScope ["wishes", "holds", "person", "lists", "behind", "_"] ["wishes", "holds", "person"] (defScope sTurnFrom) := ⟨rfl, rfl, rfl, by decide +kernel, rfl, by decide +kernel, by decide +kernel⟩
def spTurnRings (C : Addr) : Sp := fun vs H Q _ => ∃ (wi t : Addr) (ns ls : List (List Nat)) (hs : List (Option Nat)), vs = [.ref wi, .ref t] ∧ WAt C H wi ns ls ∧ H t = some (.tup (VH hs)) ∧ HoldsOk ls hs ∧
  ∀ c us H', Same H H' → H' c = some (.tup (us.map V.ref)) → RPs H' us (ringsP ls hs) → Q (.ref c) H'
theorem scTurnR : FnScope ["wishes", "holds"] ["wishes", "holds"] (defScope sTurnRings) := ⟨rfl, rfl, rfl, by decide +kernel, rfl, by decide +kernel, by decide +kernel⟩
theorem giv_get {ls : List (List Nat)} {hs : List (Option Nat)} {p : Nat} (hp : p < ls.length) : (VH (givA ls hs))[p]? = some (hv (ha (givA ls hs) p)) := VH_get (ha_get (by rw [givA_len]; exact hp))
section
variable {P : Program} {w : World} {K : PySem.W.Frag} {mg : Str → Option Value} {base : Heap}
theorem ok_giver_behind {f f1 f2 C : Addr} {fd d1 d2 : FuncData} {k : Nat} (F : Fun K "giver_behind" "giver_behind" sGiverBehind f fd) (Gs : Has P w K mg base k "_givers_behind" ["holds", "lists"] spGivers f1 d1) (Ll : Has P w K mg base k "left_lists" ["wishes", "holds"] (spLeftLists C) f2 d2) : FnOk P w K mg base CX0 (k + 1) f fd ["wishes", "holds", "person"] (spGiverB C) := by
  refine F.ok scGiverB (fun vs H Q E h => ?_) (fun cdv A outer s H vs Q E hr h => ?_)
  · obtain ⟨wi, t, ns, ls, hs, p, b, rfl, _⟩ := h
    rfl
  · obtain ⟨wi, t, ns, ls, hs, p, b, rfl, W, et, ho, hp, eb, q⟩ := h
    refine ⟨_, pss_cons (ps_set (i := 3) scGiverB.nd rfl (.inl rfl) (pe_ix ix_list (pe_call Gs.ok hr rfl Gs.m Gs.k Gs.b .nil pass0 (pa_cons (pv 1) (pa_cons (pe_call Ll.ok hr rfl Ll.m Ll.k Ll.b .nil pass0 (pa_cons (pv 0) (pa_cons (pv 1) pa_nil))) pa_nil))) (pv 2) (fun _ _ => rfl)))
      (pss_cons (ps_if (pt_cmpR op_isN1 (pv 3) pe_non (nomark _)) (pss_one ps_never) pss_nil)
      (pss_one (ps_ret (pv 3)))), ?_⟩
    have n60 := W.n60.2
    refine ⟨_, rfl, _, rfl, _, rfl, wi, t, ns, ls, hs, rfl, W, et, ho, fun l H1 s1 ll => ⟨t, l, ls, hs, rfl, s1 _ _ et, ll, ho, W.ok, by omega, fun r H2 s2 er => ?_⟩⟩
    refine ⟨_, rfl, r, _, _, _, rfl, rfl, SqL.of er, atI_nat (giv_get hp), gn ?_⟩
    dsimp only [List.set, L2.start]
    rw [eb]
    refine ⟨_, rfl, rfl, false, rfl, iteF ?_⟩
    exact ⟨_, rfl, q _ (s1.trans s2)⟩
theorem ok_giver_behindX {f f1 f2 fI C CR CM : Addr} {fd d1 d2 dI' : FuncData} {k : Nat} (F : Fun K "giver_behind" "giver_behind" sGiverBehind f fd) (T : ErrT K mg CR CM fI) (Gs : Has P w K mg base (k + 1) "_givers_behind" ["holds", "lists"] spGivers f1 d1) (Ll : Has P w K mg base (k + 1) "left_lists" ["wishes", "holds"] (spLeftLists C) f2 d2)
    (GI : FnOk P w K mg base CX0 k fI dI' ["self", "word"] (spRefInit CR)) (bI : Binds K dI' ["self", "word"] []) : FnOk P w K mg base (L2.CX P w) (k + 2) f fd ["wishes", "holds", "person"] (spGiverBX C CR) := by
  refine F.okX scGiverB (fun vs H Q E h => ?_) (fun cdv A outer s H vs Q E hr h => ?_)
  · obtain ⟨wi, t, ns, ls, hs, p, rfl, _⟩ := h
    rfl
  · obtain ⟨wi, t, ns, ls, hs, p, rfl, W, et, ho, hp, eb, q⟩ := h
    refine ⟨_, pss_cons (ps_set (i := 3) scGiverB.nd rfl (.inl rfl) (pe_ix ix_list (pe_call Gs.ok hr rfl Gs.m Gs.k Gs.b .nil pass0 (pa_cons (pv 1) (pa_cons (pe_call Ll.ok hr rfl Ll.m Ll.k Ll.b .nil pass0 (pa_cons (pv 0) (pa_cons (pv 1) pa_nil))) pa_nil))) (pv 2) (fun _ _ => rfl)))
      (pss_cons (ps_if (pt_cmpR op_isN1 (pv 3) pe_non (nomark _)) (pss_one (ps_raise rfl (takes_of rfl rfl rfl rfl) (pmk_oex T.o T.iC T.tI GI hr bI .nil pass0 rfl T.gR (pa_cons pe_str pa_nil)))) pss_nil)
      (pss_one (ps_ret (pv 3)))), ?_⟩
    have n60 := W.n60.2
    refine ⟨_, rfl, _, rfl, _, rfl, wi, t, ns, ls, hs, rfl, W, et, ho, fun l H1 s1 ll => ⟨t, l, ls, hs, rfl, s1 _ _ et, ll, ho, W.ok, by omega, fun r H2 s2 er => ?_⟩⟩
    refine ⟨_, rfl, r, _, _, _, rfl, rfl, SqL.of er, atI_nat (giv_get hp), gn ?_⟩
    dsimp only [List.set, L2.start]
    rw [eb]
    refine ⟨_, rfl, rfl, true, rfl, iteT ?_⟩
    exact made_ref fun dd H3 s3 ed => q dd H3 ((s1.trans s2).trans s3) ed
theorem ok_turn_fromX {f f1 f2 f3 f4 f5 fI C CR CM : Addr} {fd d1 d2 d3 d4 d5 dI' : FuncData} {k : Nat} (F : Fun K "turn_from" "turn_from" sTurnFrom f fd) (T : ErrT K mg CR CM fI) (Gs : Has P w K mg base (k + 1) "_givers_behind" ["holds", "lists"] spGivers f1 d1) (Ll : Has P w K mg base (k + 1) "left_lists" ["wishes", "holds"] (spLeftLists C) f2 d2)
    (Rf : Has P w K mg base (k + 1) "ring_from" ["behind", "person"] spRingFrom f3 d3) (Fl : Has P w K mg base (k + 1) "from_least" ["ring"] spFromLeast f4 d4) (Wt : Has P w K mg base (k + 1) "_with_takers" ["givers", "lists"] spWithTakers f5 d5)
    (GI : FnOk P w K mg base CX0 k fI dI' ["self", "word"] (spRefInit CR)) (bI : Binds K dI' ["self", "word"] []) (ml : mg "len" = none) : FnOk P w K mg base (L2.CX P w) (k + 2) f fd ["wishes", "holds", "person"] (spTurnFX C CR) := by
  refine F.okX scTurnF (fun vs H Q E h => ?_) (fun cdv A outer s H vs Q E hr h => ?_)
  · obtain ⟨wi, t, ns, ls, hs, p, rfl, _⟩ := h
    rfl
  · obtain ⟨wi, t, ns, ls, hs, p, rfl, W, et, ho, hp, l2, q⟩ := h
    refine ⟨_, pss_cons (ps_set (i := 3) scTurnF.nd rfl (.inl rfl) (pe_call Ll.ok hr rfl Ll.m Ll.k Ll.b .nil pass0 (pa_cons (pv 0) (pa_cons (pv 1) pa_nil))))
      (pss_cons (ps_if (pt_cmpR op_lt (pe_callB call_len_seq (by rfl) ml PySem.boot_len (pa_cons (pe_ix ix_tup (pv 3) (pv 2) (fun _ _ => rfl)) pa_nil)) pe_int (nomark _)) (pss_one (ps_raise rfl (takes_of rfl rfl rfl rfl) (pmk_oex T.o T.iC T.tI GI hr bI .nil pass0 rfl T.gR (pa_cons pe_str pa_nil)))) pss_nil)
      (pss_cons ps_never
      (pss_cons ps_never
      (pss_one ps_never)))), ?_⟩
    have n60 := W.n60.2
    refine ⟨_, rfl, _, rfl, wi, t, ns, ls, hs, rfl, W, et, ho, fun l H1 s1 ll => gn ?_⟩
    dsimp only [List.set, L2.start]
    obtain ⟨as, ea, al, rows⟩ := id ll
    rw [leftA_len] at al
    have ay : as[p]? = some as[p] := List.getElem?_eq_getElem (by omega)
    have ey := rows p _ _ ay (leftA_get hp)
    refine ⟨_, rfl, _, rfl, l, _, _, _, rfl, rfl, SqT.of ea, atI_nat (by rw [List.getElem?_map, ay]; rfl), as[p], _, rfl, .inr ey.sq, ?_⟩
    rw [VI_len]
    refine ⟨_, _, rfl, rfl, true, congrArg V.bl (decide_eq_true (by omega)), iteT ?_⟩
    exact made_ref fun dd H3 s3 ed => q dd H3 (s1.trans s3) ed
theorem ok_turn_from {f f1 f2 f3 f4 f5 C : Addr} {fd d1 d2 d3 d4 d5 : FuncData} {k : Nat} (F : Fun K "turn_from" "turn_from" sTurnFrom f fd) (Gs : Has P w K mg base k "_givers_behind" ["holds", "lists"] spGivers f1 d1) (Ll : Has P w K mg base k "left_lists" ["wishes", "holds"] (spLeftLists C) f2 d2)
    (Rf : Has P w K mg base k "ring_from" ["behind", "person"] spRingFrom f3 d3) (Fl : Has P w K mg base k "from_least" ["ring"] spFromLeast f4 d4) (Wt : Has P w K mg base k "_with_takers" ["givers", "lists"] spWithTakers f5 d5) (ml : mg "len" = none) : FnOk P w K mg base CX0 (k + 1) f fd ["wishes", "holds", "person"] (spTurnF C) := by
  refine F.ok scTurnF (fun vs H Q E h => ?_) (fun cdv A outer s H vs Q E hr h => ?_)
  · obtain ⟨wi, t, ns, ls, hs, p, rfl, _⟩ := h
    rfl
  · obtain ⟨wi, t, ns, ls, hs, p, rfl, W, et, ho, st, hp, l2, q⟩ := h
    refine ⟨_, pss_cons (ps_set (i := 3) scTurnF.nd rfl (.inl rfl) (pe_call Ll.ok hr rfl Ll.m Ll.k Ll.b .nil pass0 (pa_cons (pv 0) (pa_cons (pv 1) pa_nil))))
      (pss_cons (ps_if (pt_cmpR op_lt (pe_callB call_len_seq (by rfl) ml PySem.boot_len (pa_cons (pe_ix ix_tup (pv 3) (pv 2) (fun _ _ => rfl)) pa_nil)) pe_int (nomark _)) (pss_one ps_never) pss_nil)
      (pss_cons (ps_set (i := 4) scTurnF.nd rfl (.inl rfl) (pe_call Gs.ok hr rfl Gs.m Gs.k Gs.b .nil pass0 (pa_cons (pv 1) (pa_cons (pv 3) pa_nil))))
      (pss_cons (ps_for PassesOwn.never rfl (pi_tup (pv 3)) (pg_name (i := 5) scTurnF.nd rfl (.inl rfl))
      (pss_one (ps_set (i := 2) scTurnF.nd rfl (.inl rfl) (pe_ix ix_list (pv 4) (pv 2) (fun _ _ => rfl)))))
      (pss_one (ps_ret (pe_call Wt.ok hr rfl Wt.m Wt.k Wt.b .nil pass0 (pa_cons (pe_call Fl.ok hr rfl Fl.m Fl.k Fl.b .nil pass0 (pa_cons (pe_call Rf.ok hr rfl Rf.m Rf.k Rf.b .nil pass0 (pa_cons (pv 4) (pa_cons (pv 2) pa_nil))) pa_nil)) (pa_cons (pv 3) pa_nil)))))))), ?_⟩
    have n60 := W.n60.2
    have ok := W.ok
    have on : ∀ k, it (gF ls hs) k p < ls.length ∧ 2 ≤ (leftL ls hs (it (gF ls hs) k p)).length := way (giv_at ok ho st) hp l2
    refine ⟨_, rfl, _, rfl, wi, t, ns, ls, hs, rfl, W, et, ho, fun l H1 s1 ll => gn ?_⟩
    dsimp only [List.set, L2.start]
    obtain ⟨as, ea, al, rows⟩ := id ll
    rw [leftA_len] at al
    have ay : as[p]? = some as[p] := List.getElem?_eq_getElem (by omega)
    have ey := rows p _ _ ay (leftA_get hp)
    refine ⟨_, rfl, _, rfl, l, _, _, _, rfl, rfl, SqT.of ea, atI_nat (by rw [List.getElem?_map, ay]; rfl), as[p], _, rfl, .inr ey.sq, ?_⟩
    rw [VI_len]
    refine ⟨_, _, rfl, rfl, false, congrArg V.bl (decide_eq_false (by omega)), iteF ?_⟩
    refine ⟨_, rfl, _, rfl, t, l, ls, hs, rfl, s1 _ _ et, ll, ho, ok, by omega, fun b H2 s2 eb => gn ?_⟩
    dsimp only [List.set]
    have ea2 := s2 _ _ ea
    refine ⟨_, rfl, l, rfl, ⟨_, SqT.of ea2⟩, for_it (walk_tup (K := K) (a := l) (xs := as.map V.ref)) (fun i σ H' => ∃ y5 : Option V, σ = [some (.ref wi), some (.ref t), some (.int (it (gF ls hs) i p : Nat)), some (.ref l), some (.ref b), y5] ∧ Same H2 H')
      ⟨none, rfl, same_rfl⟩ (fun i σ H' _ ⟨_, _, sm⟩ => SqT.of (sm _ _ ea2)) ?_ ?_⟩
    · rintro i x σ H3' H3 hi ⟨y5, rfl, s3⟩ ⟨rfl, ex⟩
      refine gn ?_
      dsimp only [List.set]
      have gb : ha (givA ls hs) (it (gF ls hs) i p) = some (it (gF ls hs) (i + 1) p) := gB_way (bs := givA ls hs) (p := p) (fun k => by rw [givA_len]; exact (on k).1) i
      have gg := giv_get (hs := hs) (on i).1
      rw [gb] at gg
      refine ⟨_, rfl, _, rfl, b, _, _, _, rfl, rfl, SqL.of (s3 _ _ eb), atI_nat gg, gn ?_⟩
      dsimp only [List.set]
      exact ⟨_, rfl, s3⟩
    · rintro σ H3 ⟨y5, rfl, s3⟩
      rw [List.length_map, al]
      obtain ⟨m, cy⟩ := on_ring (g := gF ls hs) (n := ls.length) (x := p) fun k => (on k).1
      have on2 : ∀ k, it (gF ls hs) k (it (gF ls hs) ls.length p) < ls.length ∧ 2 ≤ (leftL ls hs (it (gF ls hs) k (it (gF ls hs) ls.length p))).length := fun k => by rw [← it_add]; exact on _
      generalize hy : it (gF ls hs) ls.length p = y at cy on2 q
      have m60 : m ≤ ls.length := cy.le fun k => (on2 k).1
      refine ⟨_, rfl, _, rfl, b, givA ls hs, gF ls hs, y, m, rfl, s3 _ _ eb, by rw [givA_len]; omega, cy.one, by omega, cy.back, cy.least, fun k => ⟨by rw [givA_len]; exact (on2 k).1, gB_way (bs := givA ls hs) (p := y) (fun k => by rw [givA_len]; exact (on2 k).1) k⟩, fun r H4 s4 er => ?_⟩
      refine ⟨r, _, rfl, er, by rw [ringL_len]; exact cy.one, by rw [ringL_len]; omega, fun r2 H5 mn hm le s5 er2 => ?_⟩
      have am : (ringL (gF ls hs) y m).idxOf mn < m := by
        have := List.idxOf_lt_length_iff.mpr hm
        rw [ringL_len] at this
        exact this
      have ea' : it (gF ls hs) ((ringL (gF ls hs) y m).idxOf mn) y = mn := by
        have h1 := ringL_at (g := gF ls hs) (p := y) am
        have h2 : (ringL (gF ls hs) y m)[(ringL (gF ls hs) y m).idxOf mn]? = some mn := by
          rw [List.getElem?_eq_getElem (by rw [ringL_len]; exact am), List.getElem_idxOf]
        rw [h2] at h1
        exact (Option.some.inj h1).symm
      rw [rot cy.back am] at er2
      have lek : ∀ k, it (gF ls hs) ((ringL (gF ls hs) y m).idxOf mn) y ≤ it (gF ls hs) k y := fun k => by
        rw [ea']
        exact le _ ((orb_ring cy).mp ⟨k, rfl⟩)
      have memA := ringsA_min (bs := givA ls hs) cy (fun k => by rw [givA_len]; exact (on2 k).1) lek
      have ymem : y ∈ ringL (gF ls hs) (it (gF ls hs) ((ringL (gF ls hs) y m).idxOf mn) y) m := by
        refine ringL_mem.mpr ?_
        have c2 := cy.turn ((ringL (gF ls hs) y m).idxOf mn)
        have : Orb (gF ls hs) (it (gF ls hs) ((ringL (gF ls hs) y m).idxOf mn) y) y := ⟨m - (ringL (gF ls hs) y m).idxOf mn, by rw [← it_add, show m - (ringL (gF ls hs) y m).idxOf mn + (ringL (gF ls hs) y m).idxOf mn = m by omega, cy.back]⟩
        exact ringL_mem.mp ((orb_ring c2).mp this)
      have inR : ∀ x ∈ ringL (gF ls hs) (it (gF ls hs) ((ringL (gF ls hs) y m).idxOf mn) y) m, x < ls.length ∧ 2 ≤ (leftL ls hs x).length := fun x hx => by
        obtain ⟨k, _, rfl⟩ := ringL_mem.mp hx
        rw [← it_add]
        exact on2 _
      generalize ringL (gF ls hs) (it (gF ls hs) ((ringL (gF ls hs) y m).idxOf mn) y) m = R at er2 memA ymem inR
      refine ⟨_, rfl, r2, l, R, leftA ls hs, rfl, er2, ll.same ((s2.trans s3).trans (s4.trans s5)), ?_, fun x hx => ⟨by rw [leftA_len]; exact (inR x hx).1, by rw [la_leftA (inR x hx).1]; have := (inR x hx).2; omega⟩, fun c H6 s6 rp => ?_⟩
      · obtain ⟨p0, m0, hp0, cy0, rfl⟩ := ringR memA
        rw [ringL_len]
        have := cy0.le fun k => (orb_two ok ho hp0 cy0 k).1
        omega
      · have e : (R.map fun x => (x, (la (leftA ls hs) x).headD 0)) = prs ls hs R := by
          unfold prs
          exact List.map_congr_left fun x hx => by rw [la_leftA (inR x hx).1]
        rw [e] at rp
        exact q c R H6 (((s1.trans s2).trans s3).trans ((s4.trans s5).trans s6)) memA ymem rp
theorem ok_turn_rings {f f1 f2 C : Addr} {fd d1 d2 : FuncData} {k : Nat} (F : Fun K "turn_rings" "turn_rings" sTurnRings f fd) (Ri : Has P w K mg base k "_rings_in" ["holds", "lists"] spRingsIn f1 d1) (Ll : Has P w K mg base k "left_lists" ["wishes", "holds"] (spLeftLists C) f2 d2) : FnOk P w K mg base CX0 (k + 1) f fd ["wishes", "holds"] (spTurnRings C) := by
  refine F.ok scTurnR (fun vs H Q E h => ?_) (fun cdv A outer s H vs Q E hr h => ?_)
  · obtain ⟨wi, t, ns, ls, hs, rfl, _⟩ := h
    rfl
  · obtain ⟨wi, t, ns, ls, hs, rfl, W, et, ho, q⟩ := h
    refine ⟨_, pss_one (ps_ret (pe_call Ri.ok hr rfl Ri.m Ri.k Ri.b .nil pass0 (pa_cons (pv 1) (pa_cons (pe_call Ll.ok hr rfl Ll.m Ll.k Ll.b .nil pass0 (pa_cons (pv 0) (pa_cons (pv 1) pa_nil))) pa_nil)))), ?_⟩
    have n60 := W.n60.2
    exact ⟨_, rfl, _, rfl, _, rfl, wi, t, ns, ls, hs, rfl, W, et, ho, fun l H1 s1 ll => ⟨t, l, ls, hs, rfl, s1 _ _ et, ll, ho, W.ok, by omega, fun c us H2 s2 ec rp => q c us H2 (s1.trans s2) ec rp⟩⟩
end
end K14
/-! t[::-1], t a tuple; x in t, items of any depth -/
namespace HT
open PySem PyProof.Rows
open PySem.SeqAt
open PySem.AutoSeq1 (wpAny_loadPart')
open PySem.MeetsSeq PySem.MeetsSeq2 PySem.MeetsSeq3
section
variable {prog : Program} {w : World} {A : Around} {E : Value → Shared → Prop} {s : Shared}
theorem adjust_rev (n : Nat) : Builtin.Slice.sliceAdjust none none (-1) (n : Int) = ((n : Int) - 1, -1) := by
  unfold Builtin.Slice.sliceAdjust
  rfl
theorem places_rev (n : Nat) : Builtin.Slice.slicePlaces ((n : Int) - 1) (-1) (-1) = n := by
  unfold Builtin.Slice.slicePlaces
  rw [if_neg (by decide)]
  by_cases h : (n : Int) - 1 > -1
  · rw [if_pos h]
    have : -(-1 : Int) = 1 := rfl
    rw [this, Int.ediv_one]
    omega
  · rw [if_neg h]
    omega
theorem sliceApplied_rev {sl : Addr} {vl vu vs : Value} {n : Nat} {Q : Int × Int × Nat → Shared → Prop} (hs : s.heap.IsSliceOf sl vl vu vs) (pl : IsPart vl none) (pu : IsPart vu none) (ps : IsPart vs (some (-1)))
    (h : Q ((n : Int) - 1, -1, n) s) : wpAny (model prog w) A (Builtin.Slice.sliceApplied (.ref sl) (pure (n : Int))) Q E s := by
  obtain ⟨os, hos, hcs, hds⟩ := id hs
  unfold Builtin.Slice.sliceApplied Builtin.Slice.sliceFields
  refine wpAny_bind (wpAny_bind (wpAny_field hos hds (x := vl) rfl (wpAny_bind (wpAny_field hos hds (x := vu) rfl (wpAny_bind (wpAny_field hos hds (x := vs) rfl (wpAny_pure ?_)))))))
  refine wpAny_bind (slicePart_ ps ?_)
  show wpAny _ _ (if ((-1 : Int) == 0) = true then _ else _) _ _ s
  rw [if_neg (by decide)]
  refine wpAny_bind (slicePart_ pl (wpAny_bind (slicePart_ pu (wpAny_bind (wpAny_pure ?_)))))
  show wpAny _ _ (match Builtin.Slice.sliceAdjust none none (-1) (n : Int) with | (lo, hi) => pure (lo, (-1 : Int), Builtin.Slice.slicePlaces lo hi (-1))) _ _ s
  rw [adjust_rev n]
  show wpAny _ _ (pure ((n : Int) - 1, (-1 : Int), Builtin.Slice.slicePlaces ((n : Int) - 1) (-1) (-1))) _ _ s
  rw [places_rev]
  exact wpAny_pure h
theorem fm_congr {α β : Type} {f g : α → Option β} : ∀ {l : List α}, (∀ x ∈ l, f x = g x) → l.filterMap f = l.filterMap g
  | [], _ => rfl
  | x :: l, h => by
    rw [List.filterMap_cons, List.filterMap_cons, h x (by simp), fm_congr fun y hy => h y (by simp [hy])]
theorem pick_rev (xs : Array Value) : ((List.range xs.size).filterMap fun (m : Nat) => xs[((xs.size : Int) - 1 + (m : Int) * (-1)).toNat]?).toArray = xs.toList.reverse.toArray := by
  have e : ((List.range xs.size).filterMap fun (m : Nat) => xs[((xs.size : Int) - 1 + (m : Int) * (-1)).toNat]?) = ((List.range xs.size).map fun m => xs.size - 1 - m).filterMap (xs[·]?) := by
    rw [List.filterMap_map]
    refine fm_congr fun m hm => ?_
    have hm := List.mem_range.mp hm
    have : ((xs.size : Int) - 1 + (m : Int) * (-1)).toNat = xs.size - 1 - m := by omega
    rw [this]
    rfl
  rw [e, PySem.W.krv_range, List.filterMap_reverse, PySem.W.krv_all]
theorem getItem_tuple_rev {t sl : Addr} {items : Array Value} {vl vu vs : Value} {Q : Value → Shared → Prop} (ht : IsTup s.heap t items) (hs : s.heap.IsSliceOf sl vl vu vs) (pl : IsPart vl none) (pu : IsPart vu none) (ps : IsPart vs (some (-1)))
    (h : Q (.ref s.heap.objs.size) { s with heap := s.heap.push { cls := .type "tuple", data := .seq items.toList.reverse.toArray } })
    (hsz : items.size ≤ sizeLine) : wpAny (model prog w) A (getItem (.ref t) (.ref sl)) Q E s := by
  have htake : sizeOk (.seq items.toList.reverse.toArray) := by
    show items.toList.reverse.toArray.size ≤ sizeLine
    rw [List.size_toArray, List.length_reverse, Array.length_toList]
    omega
  obtain ⟨os, hos, hcs, hds⟩ := id hs
  have hTs : s.TypeIs (.ref sl) "slice" := ⟨os, hos, hcs⟩
  unfold getItem
  try with_reducible refine wpAny_holding ?_
  first | refine wpAny_bind (wpAny_pure ?_) | skip
  refine wpAny_bind (wpAny_sequenceKey ht.typeIs (by decide) ?_)
  refine wpAny_bind (wpAny_callSpecial?_slot (name := Str.ofString "__getitem__") ht.typeIs PyProof.Rows.slot_tuple_getitem
    (wpAny_call_entry PyProof.Rows.slot_tuple_getitem ht.typeIs entry_tuple_getitem ?_ (args_tuple_getitem _ _)))
  show wpAny _ _ (Builtin.Tuple.tupleItemsOf (.ref t) >>= _) _ _ s
  refine wpAny_bind (tupleItemsOf_ ht ?_)
  refine wpAny_bind (wpAny_typeOf hTs ?_)
  rw [if_pos (by decide)]
  refine wpAny_bind (sliceApplied_rev hs pl pu ps ?_)
  have hno : ¬ ((((items.size : Int) - 1) == 0 && (-1 : Int) == 1 && items.size == items.size) = true) := by
    intro q
    rw [Bool.and_eq_true, Bool.and_eq_true] at q
    exact absurd q.1.2 (by decide)
  show wpAny _ _ (if (((items.size : Int) - 1) == 0 && (-1 : Int) == 1 && items.size == items.size) = true then _ else _) _ _ s
  rw [if_neg hno, pick_rev]
  first
    | exact wpAny_bind (m := Builtin.Tuple.tupleExact _) (wpAny_newObj_type (wpAny_pure ⟨_, rfl, wpAny_pure h⟩) htake)
    | exact wpAny_bind (m := Builtin.Tuple.tupleExact _) (wpAny_newObj_type (wpAny_bind (wpAny_pure (wpAny_pure ⟨_, rfl, wpAny_pure h⟩))) htake)
    | exact wpAny_bind (wpAny_bind (m := Builtin.Tuple.tupleExact _) (wpAny_newObj_type (wpAny_pure (wpAny_pure ⟨_, rfl, wpAny_pure h⟩)) htake))
    | exact wpAny_bind (wpAny_bind (m := Builtin.Tuple.tupleExact _) (wpAny_newObj_type (wpAny_pure ⟨_, rfl, wpAny_pure h⟩) htake))
end
end HT
namespace L2
open PySem PySem.Spec PyProof.Rows
section
variable {X : Cx}
def tRevT (K : PySem.W.Frag) (te : TE) : TE := fun σ H Q => te σ H fun x H1 => ∃ a xs, x = .ref a ∧ SqT K H1 a xs ∧ ∀ p, H1 p = none → Q (.ref p) (upd H1 p (.tup xs.reverse))
theorem pe_revT {e : Expr} {te : TE} {k : Nat} {p1 p2 p3 pos : Pos} (he : PE X e te) : PE X (.Subscript e (.Slice none none (some (.UnaryOp .USub (.Constant (.int 1) k p1) p2)) p3) pos) (tRevT X.K te) := by
  refine ⟨fun pins s σ H Q I h => ?_⟩
  refine Subscript_ (thn (he.run pins s σ H _ I h) fun v s1 ⟨x, H1, I1, r1, q1⟩ => ?_)
  obtain ⟨a, xs, ex, hx, q⟩ := q1
  subst ex
  cases r1
  have hst : PO X (some (.UnaryOp .USub (.Constant (.int 1) k p1) p2)) (tPart (tUn (rU fun i => .int (-i)) (tC (.int 1)))) := po_some (pe_un un_neg pe_int)
  refine wpAny_Slice (thn (po_none.run pins s1 σ H1 (fun o H2 => o = none ∧ H2 = H1) I1 ⟨rfl, rfl⟩) fun vl s2 ⟨l, H2, I2, pl, el, e2⟩ => ?_)
  subst el e2
  refine thn (po_none.run pins s2 σ H2 (fun o H3 => o = none ∧ H3 = H2) I2 ⟨rfl, rfl⟩) fun vu s3 ⟨u, H3, I3, pu, eu, e3⟩ => ?_
  subst eu e3
  refine thn (hst.run pins s3 σ H3 (fun o H4 => o = some (-1) ∧ H4 = H3) I3 ⟨1, rfl, -1, rfl, rfl, rfl⟩) fun vs s4 ⟨o, H4, I4, ps, eo, e4⟩ => ?_
  subst eo e4
  have I5 : Inv X pins σ H4 { s4 with heap := s4.heap.push { cls := .type "slice", data := .fields #[vl, vu, vs] } } := I4.kept (t' := s4.toks) fun b ob q => Heap.get?_push_of_some _ q
  obtain ⟨its, r, ht, hz⟩ := I5.tuple hx
  have hlen : its.toArray.size = xs.length := by rw [List.size_toArray]; exact r.length.symm
  show wpAny (model X.prog X.w) X.A (subscriptTail e (.Slice none none (some (.UnaryOp .USub (.Constant (.int 1) k p1) p2)) p3) (.ref a) (.ref s4.heap.objs.size)) (EP X pins σ Q) X.xe { s4 with heap := s4.heap.push { cls := .type "slice", data := .fields #[vl, vu, vs] } }
  refine tail_any (ops := [.ref a, .ref s4.heap.objs.size]) ht.typeIs (PyProof.Rows.slot_tuple_getitem.lookup) ?_ (by with_unfolding_all rfl)
  refine HT.getItem_tuple_rev ht (Heap.IsSliceOf.new _ vl vu vs) pl pu ps ?_ (by rw [hlen]; exact hz)
  refine ⟨.ref _, _, I5.laid (t' := s4.toks) (o := .tup xs.reverse) (fun b ob q => Heap.get?_push_of_some _ q) (Nat.le_refl _) ?_, rfl, q _ (I5.hok.fresh (Nat.le_refl _))⟩
  exact ⟨by rw [List.length_reverse]; exact hz, _, r.reverse, IsTup.new _ _⟩
/-! ### x in t -/
def rInDT (K : PySem.W.Frag) : R2 := fun x y H Q => ∃ d ds, Dp K H x d ∧ Dp K H y (.tuple ds) ∧ SeqAt.shaped d = true ∧ SeqAt.shaped (.tuple ds) = true ∧ Q (.bl (ds.any fun z => PyData.eqv z d)) H
def rNotInDT (K : PySem.W.Frag) : R2 := fun x y H Q => ∃ d ds, Dp K H x d ∧ Dp K H y (.tuple ds) ∧ SeqAt.shaped d = true ∧ SeqAt.shaped (.tuple ds) = true ∧ Q (.bl (!ds.any fun z => PyData.eqv z d)) H
theorem op_inDT (hu : X.A.units + 65 < cLine) : OpR X (compareOp .In) (rInDT X.K) := by
  intro pins s σ H x y v u Q I rx ry h
  obtain ⟨d, ds, hd, he, sd, se, q⟩ := h
  obtain ⟨as, r1⟩ := Dp.reads I d x v hd rx
  obtain ⟨bs, r2⟩ := Dp.reads I (.tuple ds) y u he ry
  exact SeqAt.in_tuple_reads r2 r1 (SeqAt.canLay_of_shaped se) (SeqAt.canLay_of_shaped sd) (room_in_shaped sd hu) ⟨.bl _, H, I, rfl, q⟩
theorem op_notInDT (hu : X.A.units + 65 < cLine) : OpR X (compareOp .NotIn) (rNotInDT X.K) := by
  intro pins s σ H x y v u Q I rx ry h
  obtain ⟨d, ds, hd, he, sd, se, q⟩ := h
  obtain ⟨as, r1⟩ := Dp.reads I d x v hd rx
  obtain ⟨bs, r2⟩ := Dp.reads I (.tuple ds) y u he ry
  exact SeqAt.notIn_tuple_reads r2 r1 (SeqAt.canLay_of_shaped se) (SeqAt.canLay_of_shaped sd) (room_in_shaped sd hu) ⟨.bl _, H, I, rfl, q⟩
end
end L2
/-! repr of data without strings, dicts and numbers below 0: unlike data have unlike texts -/
namespace ShX
open PySem PySem.Spec PyProof.Rows
abbrev cd (s : Str) : List Nat := s.cps.toList
theorem cd_app (a b : Str) : cd (a ++ b) = cd a ++ cd b := by
  show (a ++ b).cps.toList = _
  rw [Str.cps_append, Array.toList_append]
def rsS : List Str → List Nat
  | [] => []
  | t :: ts => 44 :: 32 :: (cd t ++ rsS ts)
def itS : List Str → List Nat
  | [] => []
  | t :: ts => cd t ++ rsS ts
theorem tf : ∀ (ts : List Str) (k : Nat) (acc : Str), 0 < k → cd (textFrom k acc ts) = cd acc ++ rsS ts
  | [], _, acc, _ => by simp [textFrom, rsS]
  | t :: ts, k, acc, h => by
    show cd (textFrom (k + 1) (acc ++ (if k > 0 then ", " else "" : String) ++ t) ts) = _
    rw [tf ts (k + 1) _ (Nat.succ_pos k), if_pos h, cd_app, cd_app]
    show cd acc ++ [44, 32] ++ cd t ++ rsS ts = cd acc ++ (44 :: 32 :: (cd t ++ rsS ts))
    simp
theorem cd_list (ts : List Str) : cd (listText ts) = 91 :: (itS ts ++ [93]) := by
  unfold listText
  rw [cd_app]
  cases ts with
  | nil => rfl
  | cons t ts =>
    have e : cd (textFrom 0 "[" (t :: ts)) = 91 :: (cd t ++ rsS ts) := by
      show cd (textFrom 1 (("[" : Str) ++ (if 0 > 0 then ", " else "" : String) ++ t) ts) = _
      rw [tf ts 1 _ (by decide), cd_app, cd_app, if_neg (by decide)]
      show [91] ++ [] ++ cd t ++ rsS ts = _
      simp
    rw [e]
    show 91 :: (cd t ++ rsS ts) ++ [93] = 91 :: ((cd t ++ rsS ts) ++ [93])
    rfl
theorem cd_join : ∀ ts : List Str, cd (Str.join ", " ts) = itS ts
  | [] => rfl
  | [x] => by show cd x = cd x ++ []; simp
  | x :: y :: r => by
    show cd (x ++ (", " : String) ++ Str.join ", " (y :: r)) = cd x ++ (44 :: 32 :: (cd y ++ rsS r))
    rw [cd_app, cd_app, cd_join (y :: r)]
    show cd x ++ [44, 32] ++ (cd y ++ rsS r) = _
    simp
def clo : Nat → List Nat
  | 1 => [44, 41]
  | _ => [41]
theorem cd_tup (ts : List Str) : cd (tupleText ts) = 40 :: (itS ts ++ clo ts.length) := by
  unfold tupleText
  rw [cd_app, cd_app, cd_join]
  show [40] ++ itS ts ++ _ = _
  by_cases h : ts.length = 1
  · rw [h]
    simp [clo]
    rfl
  · have e : (ts.length == 1) = false := by simpa using h
    rw [e]
    have c : clo ts.length = [41] := by
      unfold clo
      split
      · exact absurd ‹_› h
      · rfl
    rw [c]
    simp
    rfl
mutual
/-- data that is plain enough -/
def pln : PyData → Bool
  | .none => true
  | .bool _ => true
  | .int i => decide (0 ≤ i)
  | .str _ => false
  | .list xs => plnAll xs
  | .tuple xs => plnAll xs
  | .dict _ => false
def plnAll : List PyData → Bool
  | [] => true
  | x :: xs => pln x && plnAll xs
end
/-- what may stand behind -/
def stops (a : List Nat) : Prop := ∀ c t, a = c :: t → c = 44 ∨ c = 41 ∨ c = 93
def closer (a : List Nat) : Prop := (∃ t, a = 93 :: t) ∨ (∃ t, a = 41 :: t) ∨ ∃ t, a = 44 :: 41 :: t
theorem closer.stops {a : List Nat} (h : closer a) : stops a := by
  rintro c t rfl
  rcases h with ⟨_, e⟩ | ⟨_, e⟩ | ⟨_, e⟩ <;> cases e <;> simp
def sh (x : PyData) : List Nat := cd x.shown
def its (xs : List PyData) : List Nat := itS (PyData.shownAll xs)
def rss (xs : List PyData) : List Nat := rsS (PyData.shownAll xs)
theorem sh_none : sh .none = [78, 111, 110, 101] := by
  unfold sh
  simp only [PyData.shown]
  rfl
theorem sh_true : sh (.bool true) = [84, 114, 117, 101] := by
  unfold sh
  simp only [PyData.shown]
  rfl
theorem sh_false : sh (.bool false) = [70, 97, 108, 115, 101] := by
  unfold sh
  simp only [PyData.shown]
  rfl
theorem sh_nat (n : Nat) : sh (.int (n : Nat)) = TL.numL n := by
  unfold sh
  simp only [PyData.shown]
  exact TL.tl_num n
theorem sh_list (xs : List PyData) : sh (.list xs) = 91 :: (its xs ++ [93]) := by
  unfold sh
  simp only [PyData.shown]
  exact cd_list _
theorem len_all : ∀ xs : List PyData, (PyData.shownAll xs).length = xs.length
  | [] => by simp [PyData.shownAll]
  | x :: xs => by simp [PyData.shownAll, len_all xs]
theorem sh_tup (xs : List PyData) : sh (.tuple xs) = 40 :: (its xs ++ clo xs.length) := by
  unfold sh
  simp only [PyData.shown]
  rw [cd_tup, len_all]
  rfl
theorem its_nil : its [] = [] := by
  unfold its
  simp only [PyData.shownAll]
  rfl
theorem its_cons (x : PyData) (xs : List PyData) : its (x :: xs) = sh x ++ rss xs := by
  unfold its
  simp only [PyData.shownAll]
  rfl
theorem rss_nil : rss [] = [] := by
  unfold rss
  simp only [PyData.shownAll]
  rfl
theorem rss_cons (x : PyData) (xs : List PyData) : rss (x :: xs) = 44 :: 32 :: (sh x ++ rss xs) := by
  unfold rss
  simp only [PyData.shownAll]
  rfl
/-- how a text begins -/
def heads (x : PyData) (c : Nat) : Prop := match x with
  | .none => c = 78
  | .bool true => c = 84
  | .bool false => c = 70
  | .int _ => 48 ≤ c ∧ c ≤ 57
  | .list _ => c = 91
  | .tuple _ => c = 40
  | _ => False
theorem head_of {x : PyData} (p : pln x = true) : ∃ c t, sh x = c :: t ∧ heads x c := by
  match x, p with
  | .none, _ => exact ⟨_, _, sh_none, rfl⟩
  | .bool true, _ => exact ⟨_, _, sh_true, rfl⟩
  | .bool false, _ => exact ⟨_, _, sh_false, rfl⟩
  | .int i, p =>
    have hi : 0 ≤ i := by simpa [pln] using p
    obtain ⟨n, rfl⟩ := Int.eq_ofNat_of_zero_le hi
    rw [sh_nat]
    cases e : TL.numL n with
    | nil => exact absurd e (TL.numL_ne n)
    | cons c t =>
      have := TL.numL_digits n c (by rw [e]; simp)
      exact ⟨c, t, rfl, this⟩
  | .list xs, _ => exact ⟨_, _, sh_list xs, rfl⟩
  | .tuple xs, _ => exact ⟨_, _, sh_tup xs, rfl⟩
theorem digs {l m : List Nat} {a b : List Nat} (hl : ∀ c ∈ l, 48 ≤ c ∧ c ≤ 57) (hm : ∀ c ∈ m, 48 ≤ c ∧ c ≤ 57) (sa : stops a) (sb : stops b) (e : l ++ a = m ++ b) : l = m ∧ a = b := by
  induction l generalizing m with
  | nil =>
    cases m with
    | nil => exact ⟨rfl, e⟩
    | cons c t =>
      have h1 := hm c (by simp)
      rcases sa c (t ++ b) (by simpa using e) with h | h | h <;> omega
  | cons c t ih =>
    cases m with
    | nil =>
      have h1 := hl c (by simp)
      rcases sb c (t ++ a) (by simpa using e.symm) with h | h | h <;> omega
    | cons d u =>
      have e2 : c :: (t ++ a) = d :: (u ++ b) := e
      injection e2 with e3 e4
      obtain ⟨h1, h2⟩ := ih (fun x hx => hl x (by simp [hx])) (fun x hx => hm x (by simp [hx])) e4
      exact ⟨by rw [e3, h1], h2⟩
theorem heads_of {x y : PyData} {c : Nat} (hx : heads x c) (hy : heads y c) :
    (x = .none ∧ y = .none) ∨ (x = .bool true ∧ y = .bool true) ∨ (x = .bool false ∧ y = .bool false) ∨ (∃ i j, x = .int i ∧ y = .int j) ∨ (∃ xs ys, x = .list xs ∧ y = .list ys) ∨ ∃ xs ys, x = .tuple xs ∧ y = .tuple ys := by
  unfold heads at hx hy
  split at hx <;> split at hy <;> first | omega | (simp; done) | (exact absurd hx id) | (exact absurd hy id) | skip
  all_goals first | exact .inl ⟨rfl, rfl⟩ | exact .inr (.inl ⟨rfl, rfl⟩) | exact .inr (.inr (.inl ⟨rfl, rfl⟩)) | exact .inr (.inr (.inr (.inl ⟨_, _, rfl, rfl⟩))) | exact .inr (.inr (.inr (.inr (.inl ⟨_, _, rfl, rfl⟩)))) | exact .inr (.inr (.inr (.inr (.inr ⟨_, _, rfl, rfl⟩))))
theorem clo_closer (n : Nat) (a : List Nat) : closer (clo n ++ a) := by
  unfold clo
  split
  · exact .inr (.inr ⟨a, rfl⟩)
  · exact .inr (.inl ⟨a, rfl⟩)
theorem rs_stops (xs : List PyData) {c : List Nat} (h : closer c) : stops (rss xs ++ c) := by
  cases xs with
  | nil => rw [rss_nil]; exact h.stops
  | cons x xs =>
    rw [rss_cons]
    rintro d t e
    injection e with e1 e2
    exact .inl e1.symm
mutual
theorem shInj : ∀ (x : PyData), pln x = true → ∀ (y : PyData) (a b : List Nat), pln y = true → stops a → stops b → sh x ++ a = sh y ++ b → x = y ∧ a = b
  | .none, px, y, a, b, py, sa, sb, e => by
    obtain ⟨c, t, ey, hy⟩ := head_of py
    rw [sh_none, ey] at e
    injection e with e1 e2
    rw [← e1] at hy
    rcases heads_of (x := .none) rfl hy with ⟨_, h⟩ | ⟨h, _⟩ | ⟨h, _⟩ | ⟨_, _, h, _⟩ | ⟨_, _, h, _⟩ | ⟨_, _, h, _⟩ <;> try cases h
    rw [sh_none] at ey
    injection ey with _ e3
    rw [← e3] at e2
    exact ⟨rfl, by simpa using e2⟩
  | .bool true, px, y, a, b, py, sa, sb, e => by
    obtain ⟨c, t, ey, hy⟩ := head_of py
    rw [sh_true, ey] at e
    injection e with e1 e2
    rw [← e1] at hy
    rcases heads_of (x := .bool true) rfl hy with ⟨h, _⟩ | ⟨_, h⟩ | ⟨h, _⟩ | ⟨_, _, h, _⟩ | ⟨_, _, h, _⟩ | ⟨_, _, h, _⟩ <;> try cases h
    rw [sh_true] at ey
    injection ey with _ e3
    rw [← e3] at e2
    exact ⟨rfl, by simpa using e2⟩
  | .bool false, px, y, a, b, py, sa, sb, e => by
    obtain ⟨c, t, ey, hy⟩ := head_of py
    rw [sh_false, ey] at e
    injection e with e1 e2
    rw [← e1] at hy
    rcases heads_of (x := .bool false) rfl hy with ⟨h, _⟩ | ⟨h, _⟩ | ⟨_, h⟩ | ⟨_, _, h, _⟩ | ⟨_, _, h, _⟩ | ⟨_, _, h, _⟩ <;> try cases h
    rw [sh_false] at ey
    injection ey with _ e3
    rw [← e3] at e2
    exact ⟨rfl, by simpa using e2⟩
  | .int i, px, y, a, b, py, sa, sb, e => by
    obtain ⟨c, t, ex, hx⟩ := head_of px
    obtain ⟨d, u, ey, hy⟩ := head_of py
    have e' := e
    rw [ex, ey] at e'
    injection e' with e1 e2
    rw [← e1] at hy
    rcases heads_of hx hy with ⟨h, _⟩ | ⟨h, _⟩ | ⟨h, _⟩ | ⟨_, j, _, h⟩ | ⟨_, _, h, _⟩ | ⟨_, _, h, _⟩ <;> try cases h
    obtain ⟨n, rfl⟩ := Int.eq_ofNat_of_zero_le (a := i) (by simpa [pln] using px)
    obtain ⟨m, rfl⟩ := Int.eq_ofNat_of_zero_le (a := j) (by simpa [pln] using py)
    rw [sh_nat, sh_nat] at e
    obtain ⟨h1, h2⟩ := digs (fun c hc => TL.numL_digits n c hc) (fun c hc => TL.numL_digits m c hc) sa sb e
    rw [TL.numL_inj h1]
    exact ⟨rfl, h2⟩
  | .str s, px, _, _, _, _, _, _, _ => by simp [pln] at px
  | .dict s, px, _, _, _, _, _, _, _ => by simp [pln] at px
  | .list xs, px, y, a, b, py, sa, sb, e => by
    obtain ⟨d, u, ey, hy⟩ := head_of py
    have e' := e
    rw [sh_list, ey] at e'
    injection e' with e1 e2
    rw [← e1] at hy
    rcases heads_of (x := .list xs) rfl hy with ⟨h, _⟩ | ⟨h, _⟩ | ⟨h, _⟩ | ⟨_, _, h, _⟩ | ⟨_, ys, _, h⟩ | ⟨_, _, h, _⟩ <;> try cases h
    rw [sh_list, sh_list] at e
    injection e with _ e3
    have e3 : (its xs ++ [93]) ++ a = (its ys ++ [93]) ++ b := e3
    rw [List.append_assoc, List.append_assoc] at e3
    obtain ⟨h1, h2⟩ := itInj xs (by simpa [pln] using px) ys ([93] ++ a) ([93] ++ b) (by simpa [pln] using py) (.inl ⟨a, rfl⟩) (.inl ⟨b, rfl⟩) e3
    rw [h1]
    exact ⟨rfl, by simpa using h2⟩
  | .tuple xs, px, y, a, b, py, sa, sb, e => by
    obtain ⟨d, u, ey, hy⟩ := head_of py
    have e' := e
    rw [sh_tup, ey] at e'
    injection e' with e1 e2
    rw [← e1] at hy
    rcases heads_of (x := .tuple xs) rfl hy with ⟨h, _⟩ | ⟨h, _⟩ | ⟨h, _⟩ | ⟨_, _, h, _⟩ | ⟨_, _, h, _⟩ | ⟨_, ys, _, h⟩ <;> try cases h
    rw [sh_tup, sh_tup] at e
    injection e with _ e3
    have e3 : (its xs ++ clo xs.length) ++ a = (its ys ++ clo ys.length) ++ b := e3
    rw [List.append_assoc, List.append_assoc] at e3
    obtain ⟨h1, h2⟩ := itInj xs (by simpa [pln] using px) ys (clo xs.length ++ a) (clo ys.length ++ b) (by simpa [pln] using py) (clo_closer _ _) (clo_closer _ _) e3
    subst h1
    exact ⟨rfl, List.append_cancel_left h2⟩
theorem itInj : ∀ (xs : List PyData), plnAll xs = true → ∀ (ys : List PyData) (c d : List Nat), plnAll ys = true → closer c → closer d → its xs ++ c = its ys ++ d → xs = ys ∧ c = d
  | [], _, [], c, d, _, _, _, e => by rw [its_nil] at e; exact ⟨rfl, e⟩
  | [], _, y :: ys, c, d, py, hc, hd, e => by
    exfalso
    have py' : pln y = true := by simp [plnAll] at py; exact py.1
    obtain ⟨k, u, ey, hy⟩ := head_of py'
    rw [its_nil, its_cons, ey] at e
    have hk := hc.stops k _ e
    unfold heads at hy
    split at hy <;> omega
  | x :: xs, px, [], c, d, _, hc, hd, e => by
    exfalso
    have px' : pln x = true := by simp [plnAll] at px; exact px.1
    obtain ⟨k, u, ex, hx⟩ := head_of px'
    rw [its_nil, its_cons, ex] at e
    have hk := hd.stops k _ e.symm
    unfold heads at hx
    split at hx <;> omega
  | x :: xs, px, y :: ys, c, d, py, hc, hd, e => by
    have px2 : pln x = true ∧ plnAll xs = true := by simpa [plnAll] using px
    have py2 : pln y = true ∧ plnAll ys = true := by simpa [plnAll] using py
    rw [its_cons, its_cons, List.append_assoc, List.append_assoc] at e
    obtain ⟨h1, h2⟩ := shInj x px2.1 y _ _ py2.1 (rs_stops xs hc) (rs_stops ys hd) e
    obtain ⟨h3, h4⟩ := rsInj xs px2.2 ys c d py2.2 hc hd h2
    rw [h1, h3]
    exact ⟨rfl, h4⟩
theorem rsInj : ∀ (xs : List PyData), plnAll xs = true → ∀ (ys : List PyData) (c d : List Nat), plnAll ys = true → closer c → closer d → rss xs ++ c = rss ys ++ d → xs = ys ∧ c = d
  | [], _, [], c, d, _, _, _, e => by rw [rss_nil] at e; exact ⟨rfl, e⟩
  | [], _, y :: ys, c, d, py, hc, hd, e => by
    exfalso
    rw [rss_nil, rss_cons] at e
    have e : c = 44 :: 32 :: (sh y ++ rss ys ++ d) := by simpa using e
    rcases hc with ⟨t, h⟩ | ⟨t, h⟩ | ⟨t, h⟩ <;> rw [h] at e <;> simp at e
  | x :: xs, px, [], c, d, _, hc, hd, e => by
    exfalso
    rw [rss_nil, rss_cons] at e
    have e : d = 44 :: 32 :: (sh x ++ rss xs ++ c) := by simpa using e.symm
    rcases hd with ⟨t, h⟩ | ⟨t, h⟩ | ⟨t, h⟩ <;> rw [h] at e <;> simp at e
  | x :: xs, px, y :: ys, c, d, py, hc, hd, e => by
    have px2 : pln x = true ∧ plnAll xs = true := by simpa [plnAll] using px
    have py2 : pln y = true ∧ plnAll ys = true := by simpa [plnAll] using py
    rw [rss_cons, rss_cons] at e
    have e : sh x ++ (rss xs ++ c) = sh y ++ (rss ys ++ d) := by simpa using e
    obtain ⟨h1, h2⟩ := shInj x px2.1 y _ _ py2.1 (rs_stops xs hc) (rs_stops ys hd) e
    obtain ⟨h3, h4⟩ := rsInj xs px2.2 ys c d py2.2 hc hd h2
    rw [h1, h3]
    exact ⟨rfl, h4⟩
end
/-- unlike data have unlike texts -/
theorem shown_inj {x y : PyData} (px : pln x = true) (py : pln y = true) (h : x.shown = y.shown) : x = y :=
  (shInj x px y [] [] py (fun _ _ z => by cases z) (fun _ _ z => by cases z) (by unfold sh; rw [h])).1
end ShX
namespace K14
open PySem PySem.Spec PyProof.Rows L2
/-! any values as rings -/
theorem units65 {k : Nat} {A : Around} (r : Room k A) : A.units + 65 < cLine := by
  have := r.un
  omega
def perB (H : Hp) (v : V) (n : Nat) : Bool := match tupOf H v with
  | some xs => xs.all fun x => isBel x n
  | none => false
def rowsB (H : Hp) (v : V) (n : Nat) : Bool := match tupOf H v with
  | some xs => xs.all fun x => perB H x n
  | none => false
/-- a value of plain items; of such -/
structure It1 (H : Hp) (v : V) : Prop where
  pl : Pl H v
  its : ∀ xs, tupOf H v = some xs → xs.length ≤ 1000 ∧ ∀ x ∈ xs, Pl H x
structure It2 (H : Hp) (v : V) : Prop where
  pl : Pl H v
  its : ∀ xs, tupOf H v = some xs → xs.length ≤ 1000 ∧ ∀ x ∈ xs, It1 H x
theorem It1.same {H H' : Hp} {v : V} (t : It1 H v) (s : Same H H') : It1 H' v := ⟨t.pl.same s, fun xs e => by
  rw [tupOf_same t.pl s] at e
  exact ⟨(t.its xs e).1, fun x hx => ((t.its xs e).2 x hx).same s⟩⟩
theorem It2.same {H H' : Hp} {v : V} (t : It2 H v) (s : Same H H') : It2 H' v := ⟨t.pl.same s, fun xs e => by
  rw [tupOf_same t.pl s] at e
  exact ⟨(t.its xs e).1, fun x hx => ((t.its xs e).2 x hx).same s⟩⟩
theorem perB_same {H H' : Hp} {v : V} (t : It1 H v) (s : Same H H') (n : Nat) : perB H' v n = perB H v n := by
  unfold perB
  rw [tupOf_same t.pl s]
theorem all_congr {α : Type} {f g : α → Bool} : ∀ {l : List α}, (∀ x ∈ l, f x = g x) → l.all f = l.all g
  | [], _ => rfl
  | x :: l, h => by
    rw [List.all_cons, List.all_cons, h x (by simp), all_congr fun y hy => h y (by simp [hy])]
theorem rowsB_same {H H' : Hp} {v : V} (t : It2 H v) (s : Same H H') (n : Nat) : rowsB H' v n = rowsB H v n := by
  unfold rowsB
  rw [tupOf_same t.pl s]
  cases e : tupOf H v with
  | none => rfl
  | some xs => exact all_congr fun x hx => perB_same ((t.its xs e).2 x hx) s n
def spPersV : Sp := fun vs H Q _ => ∃ (v : V) (n : Nat), vs = [v, .int n] ∧ It1 H v ∧ ∀ H', Same H H' → Q (.bl (perB H v n)) H'
def spRowsV : Sp := fun vs H Q _ => ∃ (v : V) (n : Nat), vs = [v, .int n] ∧ It2 H v ∧ ∀ H', Same H H' → Q (.bl (rowsB H v n)) H'
theorem scRowsV : FnScope ["value", "many", "row"] ["value", "many"] (defScope sAreRowsOfPersons) := ⟨rfl, rfl, rfl, by decide +kernel, rfl, by decide +kernel, by decide +kernel⟩
theorem pl_isi {K : PySem.W.Frag} {H : Hp} {v : V} (p : Pl H v) : (∃ a xs, v = .ref a ∧ H a = some (.tup xs) ∧ tupOf H v = some xs) ∨ (tupOf H v = none ∧ ∃ T, TyX K H v (.type T) ∧ PySem.W.kitOne K (.type T) (.type "tuple") = some false) := by
  cases p with
  | non => exact .inr ⟨rfl, _, .base .non, kit_ty (by decide +kernel)⟩
  | bl b => exact .inr ⟨rfl, _, .base (.bl b), kit_ty (by decide +kernel)⟩
  | int i => exact .inr ⟨rfl, _, .base (.int i), kit_ty (by decide +kernel)⟩
  | str s => exact .inr ⟨rfl, _, .base (.str s), kit_ty (by decide +kernel)⟩
  | lst e => exact .inr ⟨by simp [tupOf, e], _, .base (.lst e), kit_ty (by decide +kernel)⟩
  | tup e => exact .inl ⟨_, _, rfl, e, by simp [tupOf, e]⟩
theorem at_getD {α : Type} {xs : List α} {i : Nat} {x d : α} (e : xs[i]? = some x) : xs.getD i d = x := by rw [List.getD_eq_getElem?_getD, e]; rfl
section
variable {P : Program} {w : World} {K : PySem.W.Frag} {mg : Str → Option Value} {base : Heap}
theorem ok_persons_v {f g : Addr} {fd gd : FuncData} {k : Nat} (F : Fun K "are_persons" "are_persons" sArePersons f fd) (G : Has P w K mg base k "is_below" ["value", "bound"] spIsBelow g gd) (mis : mg "isinstance" = none) (mt : mg "tuple" = none) (ma : mg "all" = none) : FnOk P w K mg base CX0 (k + 1) f fd ["value", "many"] spPersV := by
  refine F.ok scArePersons (fun vs H Q E h => ?_) (fun cdv A outer s H vs Q E hr h => ?_)
  · obtain ⟨v, n, rfl, _⟩ := h
    rfl
  · obtain ⟨v, n, rfl, it, q⟩ := h
    refine ⟨_, pss_one (ps_ret (pe_and (pe_callB call_isi (by rfl) mis (by decide +kernel) (pa_cons (pv 0) (pa_cons (pe_bltn (v := .ty "tuple") (by rfl) mt (by decide +kernel) rfl) pa_nil)))
      (pe_one (pe_callB (cr_all rfl) (by rfl) ma (by decide +kernel) (pa_cons (pe_lc (own := [("person", 2)]) (g := gName 2) (tt := tYes) rfl scArePersons.nd (pi_tup (pv 0))
          (blkOk_by (own := [("person", 2)]) (N := ["value", "many", "person"]) (sc := defScope sArePersons) (by decide +kernel)) (fun _ _ _ _ _ => pg_name (i := 2) scArePersons.nd rfl (Or.inl rfl)) (fun _ _ _ _ _ => pts_nil)
          (fun _ _ _ _ _ => pe_call G.ok hr rfl G.m G.k G.b .nil pass0 (pa_cons (pv 2) (pa_cons (pv 1) pa_nil)))) pa_nil))))), ?_⟩
    rcases pl_isi (K := K) it.pl with ⟨a, xs, rfl, ea, et⟩ | ⟨en, T, ty, kt⟩
    · obtain ⟨xl, xp⟩ := it.its xs et
      refine (⟨_, rfl, _, _, _, _, true, rfl, .ty _, .base (.tup ea), kit_ty (by decide +kernel), ⟨_, rfl, iteT ⟨_, rfl, a, rfl, ⟨_, SqT.of ea⟩, fun D nD => ?_⟩⟩⟩)
      refine lc_same (walk_tup (K := K) (a := a) (xs := xs)) (by omega) (fun i => .bl (isBel (xs.getD i .non) n)) nD (fun _ sm => SqT.of (sm _ _ ea)) ?_ ?_
      · rintro i x H1 H2 Z out hi sm ⟨rfl, ex⟩
        rw [at_getD ex] at out
        exact gn ⟨rfl, _, rfl, _, rfl, x, n, rfl, (xp x (List.mem_of_getElem? ex)).same sm, out _ same_rfl⟩
      · intro H1 sm e1
        refine ⟨D, (List.range xs.length).map fun i => isBel (xs.getD i .non) n, rfl, SqL.of (by rw [e1, List.map_map]; rfl), ?_⟩
        have := q H1 sm
        unfold perB at this
        rw [et] at this
        rw [map_getD xs .non fun x => isBel x n, List.all_map]
        exact this
    · refine (⟨_, rfl, _, _, _, _, false, rfl, .ty _, ty, kt, ⟨false, rfl, ?_⟩⟩)
      have := q H same_rfl
      unfold perB at this
      rw [en] at this
      exact this
theorem ok_rows_v {f g : Addr} {fd gd : FuncData} {k : Nat} (F : Fun K "are_rows_of_persons" "are_rows_of_persons" sAreRowsOfPersons f fd) (G : Has P w K mg base k "are_persons" ["value", "many"] spPersV g gd) (mis : mg "isinstance" = none) (mt : mg "tuple" = none) (ma : mg "all" = none) : FnOk P w K mg base CX0 (k + 1) f fd ["value", "many"] spRowsV := by
  refine F.ok scRowsV (fun vs H Q E h => ?_) (fun cdv A outer s H vs Q E hr h => ?_)
  · obtain ⟨v, n, rfl, _⟩ := h
    rfl
  · obtain ⟨v, n, rfl, it, q⟩ := h
    refine ⟨_, pss_one (ps_ret (pe_and (pe_callB call_isi (by rfl) mis (by decide +kernel) (pa_cons (pv 0) (pa_cons (pe_bltn (v := .ty "tuple") (by rfl) mt (by decide +kernel) rfl) pa_nil)))
      (pe_one (pe_callB (cr_all rfl) (by rfl) ma (by decide +kernel) (pa_cons (pe_lc (own := [("row", 2)]) (g := gName 2) (tt := tYes) rfl scRowsV.nd (pi_tup (pv 0))
          (blkOk_by (own := [("row", 2)]) (N := ["value", "many", "row"]) (sc := defScope sAreRowsOfPersons) (by decide +kernel)) (fun _ _ _ _ _ => pg_name (i := 2) scRowsV.nd rfl (Or.inl rfl)) (fun _ _ _ _ _ => pts_nil)
          (fun _ _ _ _ _ => pe_call G.ok hr rfl G.m G.k G.b .nil pass0 (pa_cons (pv 2) (pa_cons (pv 1) pa_nil)))) pa_nil))))), ?_⟩
    rcases pl_isi (K := K) it.pl with ⟨a, xs, rfl, ea, et⟩ | ⟨en, T, ty, kt⟩
    · obtain ⟨xl, xp⟩ := it.its xs et
      refine (⟨_, rfl, _, _, _, _, true, rfl, .ty _, .base (.tup ea), kit_ty (by decide +kernel), ⟨_, rfl, iteT ⟨_, rfl, a, rfl, ⟨_, SqT.of ea⟩, fun D nD => ?_⟩⟩⟩)
      refine lc_same (walk_tup (K := K) (a := a) (xs := xs)) (by omega) (fun i => .bl (perB H (xs.getD i .non) n)) nD (fun _ sm => SqT.of (sm _ _ ea)) ?_ ?_
      · rintro i x H1 H2 Z out hi sm ⟨rfl, ex⟩
        rw [at_getD ex] at out
        have ix := xp x (List.mem_of_getElem? ex)
        refine gn ⟨rfl, _, rfl, _, rfl, x, n, rfl, ix.same sm, fun H3 s3 => ?_⟩
        rw [perB_same ix sm]
        exact out _ s3
      · intro H1 sm e1
        refine ⟨D, (List.range xs.length).map fun i => perB H (xs.getD i .non) n, rfl, SqL.of (by rw [e1, List.map_map]; rfl), ?_⟩
        have := q H1 sm
        unfold rowsB at this
        rw [et] at this
        rw [map_getD xs .non fun x => perB H x n, List.all_map]
        exact this
    · refine (⟨_, rfl, _, _, _, _, false, rfl, .ty _, ty, kt, ⟨false, rfl, ?_⟩⟩)
      have := q H same_rfl
      unfold rowsB at this
      rw [en] at this
      exact this
end
end K14
namespace K14
open PySem PySem.Spec PyProof.Rows L2
/-! values and their data, at most two deep, of None, bools and numbers -/
inductive All2 {α β : Type} (R : α → β → Prop) : List α → List β → Prop
  | nil : All2 R [] []
  | cons {x : α} {y : β} {xs : List α} {ys : List β} : R x y → All2 R xs ys → All2 R (x :: xs) (y :: ys)
theorem All2.len {α β : Type} {R : α → β → Prop} : ∀ {xs : List α} {ys : List β}, All2 R xs ys → xs.length = ys.length
  | _, _, .nil => rfl
  | _, _, .cons _ t => by rw [List.length_cons, List.length_cons, t.len]
theorem All2.mono {α β : Type} {R S : α → β → Prop} (h : ∀ x y, R x y → S x y) : ∀ {xs : List α} {ys : List β}, All2 R xs ys → All2 S xs ys
  | _, _, .nil => .nil
  | _, _, .cons a t => .cons (h _ _ a) (t.mono h)
theorem All2.left {α β : Type} {R : α → β → Prop} : ∀ {xs : List α} {ys : List β}, All2 R xs ys → ∀ x ∈ xs, ∃ y, R x y
  | _, _, .nil, _, h => by cases h
  | _, _, .cons a t, x, h => by
    rcases List.mem_cons.mp h with rfl | h
    · exact ⟨_, a⟩
    · exact t.left x h
theorem All2.app {α β : Type} {R : α → β → Prop} : ∀ {xs : List α} {ys : List β} {us : List α} {vs : List β}, All2 R xs ys → All2 R us vs → All2 R (xs ++ us) (ys ++ vs)
  | _, _, _, _, .nil, b => b
  | _, _, _, _, .cons a t, b => .cons a (t.app b)
inductive FD : V → PyData → Prop
  | non : FD .non .none
  | bl (b : Bool) : FD (.bl b) (.bool b)
  | int (n : Nat) : FD (.int (n : Nat)) (.int (n : Nat))
inductive VD1 (H : Hp) : V → PyData → Prop
  | flat {v : V} {d : PyData} : FD v d → VD1 H v d
  | tup {a : Addr} {xs : List V} {ds : List PyData} : H a = some (.tup xs) → xs.length ≤ 1000 → All2 FD xs ds → VD1 H (.ref a) (.tuple ds)
  | lst {a : Addr} {xs : List V} {ds : List PyData} : H a = some (.lst xs) → xs.length ≤ 1000 → All2 FD xs ds → VD1 H (.ref a) (.list ds)
inductive VD2 (H : Hp) : V → PyData → Prop
  | flat {v : V} {d : PyData} : FD v d → VD2 H v d
  | tup {a : Addr} {xs : List V} {ds : List PyData} : H a = some (.tup xs) → xs.length ≤ 1000 → All2 (VD1 H) xs ds → VD2 H (.ref a) (.tuple ds)
  | lst {a : Addr} {xs : List V} {ds : List PyData} : H a = some (.lst xs) → xs.length ≤ 1000 → All2 (VD1 H) xs ds → VD2 H (.ref a) (.list ds)
variable {H H' : Hp} {v : V} {d : PyData} {K : PySem.W.Frag}
theorem VD1.same (t : VD1 H v d) (s : Same H H') : VD1 H' v d := by
  cases t with
  | flat f => exact .flat f
  | tup e l a => exact .tup (s _ _ e) l a
  | lst e l a => exact .lst (s _ _ e) l a
theorem VD2.same (t : VD2 H v d) (s : Same H H') : VD2 H' v d := by
  cases t with
  | flat f => exact .flat f
  | tup e l a => exact .tup (s _ _ e) l (a.mono fun _ _ h => h.same s)
  | lst e l a => exact .lst (s _ _ e) l (a.mono fun _ _ h => h.same s)
theorem FD.pl (f : FD v d) : Pl H v := by
  cases f with
  | non => exact .non
  | bl b => exact .bl b
  | int n => exact .int _
theorem FD.none_ (f : FD v d) : tupOf H v = none := by cases f <;> rfl
theorem FD.dp (f : FD v d) : Dp K H v d := by
  cases f with
  | non => exact .non
  | bl b => exact .bl b
  | int n => exact .int _
theorem FD.pln (f : FD v d) : ShX.pln d = true := by
  cases f with
  | non => simp [ShX.pln]
  | bl b => simp [ShX.pln]
  | int n => simp [ShX.pln]
theorem dp_all2 {R : V → PyData → Prop} (h : ∀ x y, R x y → Dp K H x y) : ∀ {xs : List V} {ds : List PyData}, All2 R xs ds → DpAll K H xs ds
  | _, _, .nil => .nil
  | _, _, .cons a t => .cons (h _ _ a) (dp_all2 h t)
theorem pln_all2 {R : V → PyData → Prop} (h : ∀ x y, R x y → ShX.pln y = true) : ∀ {xs : List V} {ds : List PyData}, All2 R xs ds → ShX.plnAll ds = true
  | _, _, .nil => by simp [ShX.plnAll]
  | _, _, .cons a t => by simp [ShX.plnAll, h _ _ a, pln_all2 h t]
theorem VD1.dp (t : VD1 H v d) : Dp K H v d := by
  cases t with
  | flat f => exact f.dp
  | tup e l a => exact .tup (SqT.of e) (dp_all2 (fun _ _ h => h.dp) a)
  | lst e l a => exact .lst (SqL.of e) (dp_all2 (fun _ _ h => h.dp) a)
theorem VD2.dp (t : VD2 H v d) : Dp K H v d := by
  cases t with
  | flat f => exact f.dp
  | tup e l a => exact .tup (SqT.of e) (dp_all2 (fun _ _ h => h.dp) a)
  | lst e l a => exact .lst (SqL.of e) (dp_all2 (fun _ _ h => h.dp) a)
theorem VD1.pln (t : VD1 H v d) : ShX.pln d = true := by
  cases t with
  | flat f => exact f.pln
  | tup e l a => simp [ShX.pln, pln_all2 (fun _ _ h => h.pln) a]
  | lst e l a => simp [ShX.pln, pln_all2 (fun _ _ h => h.pln) a]
theorem VD2.pln (t : VD2 H v d) : ShX.pln d = true := by
  cases t with
  | flat f => exact f.pln
  | tup e l a => simp [ShX.pln, pln_all2 (fun _ _ h => h.pln) a]
  | lst e l a => simp [ShX.pln, pln_all2 (fun _ _ h => h.pln) a]
theorem tupOf_lst {a : Addr} {xs : List V} (e : H a = some (.lst xs)) : tupOf H (.ref a) = none := by simp [tupOf, e]
theorem tupOf_tup {a : Addr} {xs : List V} (e : H a = some (.tup xs)) : tupOf H (.ref a) = some xs := by simp [tupOf, e]
theorem VD1.it (t : VD1 H v d) : It1 H v := by
  cases t with
  | flat f => exact ⟨f.pl, fun xs e => by rw [f.none_] at e; cases e⟩
  | tup e l a => exact ⟨.tup e, fun xs e2 => by
      rw [tupOf_tup e] at e2
      cases e2
      exact ⟨l, fun x hx => (a.left x hx).elim fun _ f => f.pl⟩⟩
  | lst e l a => exact ⟨.lst e, fun xs e2 => by rw [tupOf_lst e] at e2; cases e2⟩
theorem VD2.it (t : VD2 H v d) : It2 H v := by
  cases t with
  | flat f => exact ⟨f.pl, fun xs e => by rw [f.none_] at e; cases e⟩
  | tup e l a => exact ⟨.tup e, fun xs e2 => by
      rw [tupOf_tup e] at e2
      cases e2
      exact ⟨l, fun x hx => (a.left x hx).elim fun _ f => f.it⟩⟩
  | lst e l a => exact ⟨.lst e, fun xs e2 => by rw [tupOf_lst e] at e2; cases e2⟩
/-! ### which of them are rows of persons -/
theorem bel_iff (f : FD v d) {n : Nat} : isBel v n = true ↔ ∃ j, j < n ∧ d = .int (j : Nat) := by
  cases f with
  | non => exact ⟨fun h => (by cases h), fun ⟨j, _, e⟩ => (by cases e)⟩
  | bl b => exact ⟨fun h => (by cases h), fun ⟨j, _, e⟩ => (by cases e)⟩
  | int m =>
    constructor
    · intro h
      refine ⟨m, ?_, rfl⟩
      simp [isBel] at h
      exact h
    · rintro ⟨j, hj, e⟩
      have e : ((m : Nat) : Int) = (j : Nat) := PyData.int.inj e
      have : m = j := by omega
      subst this
      simp [isBel]
      exact hj
theorem bels_iff {n : Nat} : ∀ {xs : List V} {ds : List PyData}, All2 FD xs ds → (xs.all (fun x => isBel x n) = true ↔ ∃ s : List Nat, (∀ j ∈ s, j < n) ∧ ds = s.map fun j => .int (j : Nat))
  | _, _, .nil => ⟨fun _ => ⟨[], by simp, rfl⟩, fun _ => rfl⟩
  | _, _, .cons (x := x) (y := y) (xs := xs) (ys := ys) a t => by
    rw [List.all_cons, Bool.and_eq_true, bel_iff a, bels_iff t]
    constructor
    · rintro ⟨⟨j, hj, rfl⟩, s, hs, rfl⟩
      exact ⟨j :: s, fun k hk => by
        rcases List.mem_cons.mp hk with rfl | hk
        · exact hj
        · exact hs k hk, rfl⟩
    · rintro ⟨s, hs, e⟩
      cases s with
      | nil => cases e
      | cons j s =>
        rw [List.map_cons] at e
        injection e with e1 e2
        exact ⟨⟨j, hs j (by simp), e1⟩, s, fun k hk => hs k (by simp [hk]), e2⟩
theorem per_iff (t : VD1 H v d) {n : Nat} : perB H v n = true ↔ ∃ s : List Nat, (∀ j ∈ s, j < n) ∧ d = dI s := by
  unfold perB
  cases t with
  | flat f =>
    rw [f.none_]
    refine ⟨fun h => (by cases h), fun ⟨s, _, e⟩ => ?_⟩
    unfold dI at e
    cases f <;> cases e
  | tup e l a =>
    rw [tupOf_tup e]
    refine (bels_iff a).trans ⟨fun ⟨s, h, e2⟩ => ⟨s, h, by rw [e2]; rfl⟩, fun ⟨s, h, e2⟩ => ⟨s, h, ?_⟩⟩
    exact PyData.tuple.inj e2
  | lst e l a =>
    rw [tupOf_lst e]
    refine ⟨fun h => (by cases h), fun ⟨s, _, e2⟩ => ?_⟩
    unfold dI at e2
    cases e2
theorem pers_iff {n : Nat} : ∀ {xs : List V} {ds : List PyData}, All2 (VD1 H) xs ds → (xs.all (fun x => perB H x n) = true ↔ ∃ rows : List (List Nat), (∀ s ∈ rows, ∀ j ∈ s, j < n) ∧ ds = rows.map dI)
  | _, _, .nil => ⟨fun _ => ⟨[], by simp, rfl⟩, fun _ => rfl⟩
  | _, _, .cons (x := x) (y := y) (xs := xs) (ys := ys) a t => by
    rw [List.all_cons, Bool.and_eq_true, per_iff a, pers_iff t]
    constructor
    · rintro ⟨⟨s, hs, rfl⟩, rows, hr, rfl⟩
      exact ⟨s :: rows, fun k hk => by
        rcases List.mem_cons.mp hk with rfl | hk
        · exact hs
        · exact hr k hk, rfl⟩
    · rintro ⟨rows, hr, e⟩
      cases rows with
      | nil => cases e
      | cons s rows =>
        rw [List.map_cons] at e
        injection e with e1 e2
        exact ⟨⟨s, hr s (by simp), e1⟩, rows, fun k hk => hr k (by simp [hk]), e2⟩
theorem rows_iff (t : VD2 H v d) {n : Nat} : rowsB H v n = true ↔ ∃ rows : List (List Nat), (∀ s ∈ rows, ∀ j ∈ s, j < n) ∧ d = dL rows := by
  unfold rowsB
  cases t with
  | flat f =>
    rw [f.none_]
    refine ⟨fun h => (by cases h), fun ⟨s, _, e⟩ => ?_⟩
    unfold dL at e
    cases f <;> cases e
  | tup e l a =>
    rw [tupOf_tup e]
    refine (pers_iff a).trans ⟨fun ⟨s, h, e2⟩ => ⟨s, h, by rw [e2]; rfl⟩, fun ⟨s, h, e2⟩ => ⟨s, h, ?_⟩⟩
    exact PyData.tuple.inj e2
  | lst e l a =>
    rw [tupOf_lst e]
    refine ⟨fun h => (by cases h), fun ⟨s, _, e2⟩ => ?_⟩
    unfold dL at e2
    cases e2
/-! ### equal, and of the same text -/
theorem eqvI (s t : List Nat) : PyData.eqv (dI s) (dI t) = decide (s = t) := by
  have e : ∀ s, dI s = dH (s.map some) := fun s => by
    unfold dI dH
    rw [List.map_map]
    rfl
  rw [e, e, eqv_dH, decide_eq_decide]
  exact ⟨fun h => (List.map_inj_right fun _ _ e => Option.some.inj e).mp h, fun h => by rw [h]⟩
theorem eqvIs : ∀ (a b : List (List Nat)), PyData.eqvAll (a.map dI) (b.map dI) = decide (a = b)
  | [], [] => rfl
  | [], y :: t => rfl
  | x :: s, [] => rfl
  | x :: s, y :: t => by
    simp only [List.map_cons, PyData.eqvAll, eqvI, eqvIs s t]
    by_cases c : x = y
    · subst c
      by_cases d : s = t
      · subst d; simp
      · simp [d]
    · simp [c]
theorem eqvL (a b : List (List Nat)) : PyData.eqv (dL a) (dL b) = decide (a = b) := by
  have := eqvIs a b
  show PyData.eqv (.tuple (a.map dI)) (.tuple (b.map dI)) = _
  simp only [PyData.eqv]
  exact this
theorem dI_inj {a b : List Nat} (h : dI a = dI b) : a = b := by
  have := eqvI a b
  rw [h, eqvI] at this
  simpa using this.symm
theorem dL_inj {a b : List (List Nat)} (h : dL a = dL b) : a = b := by
  have := eqvL a b
  rw [h, eqvL] at this
  simpa using this.symm
theorem pln_dI (s : List Nat) : ShX.pln (dI s) = true := by
  unfold dI
  simp only [ShX.pln]
  induction s with
  | nil => simp [ShX.plnAll]
  | cons a t ih => simp [ShX.plnAll, ShX.pln, ih]
theorem pln_dL (ls : List (List Nat)) : ShX.pln (dL ls) = true := by
  unfold dL
  simp only [ShX.pln]
  induction ls with
  | nil => simp [ShX.plnAll]
  | cons a t ih => simp [ShX.plnAll, pln_dI, ih]
/-- a value is a turn ring exactly if its text is that of one -/
theorem turn_iff (t : VD2 H v d) {n : Nat} {R : List (List (List Nat))} (hR : ∀ rows ∈ R, ∀ s ∈ rows, ∀ j ∈ s, j < n) :
    (rowsB H v n && (R.map dL).any fun z => PyData.eqv z d) = R.any fun rows => decide ((dL rows).shown = d.shown) := by
  rw [List.any_map]
  cases hb : rowsB H v n with
  | true =>
    obtain ⟨rows, hr, rfl⟩ := (rows_iff t).mp hb
    rw [Bool.true_and]
    refine congrArg (fun f => R.any f) (funext fun x => ?_)
    show PyData.eqv (dL x) (dL rows) = _
    rw [eqvL, decide_eq_decide]
    exact ⟨fun h => by rw [h], fun h => dL_inj (ShX.shown_inj (pln_dL _) (pln_dL _) h)⟩
  | false =>
    rw [Bool.false_and]
    refine Eq.symm ?_
    rw [Bool.eq_false_iff]
    intro h
    obtain ⟨rows, hm, e⟩ := List.any_eq_true.mp h
    have e := ShX.shown_inj (pln_dL _) t.pln (of_decide_eq_true e)
    have := (rows_iff t (n := n)).mpr ⟨rows, hR rows hm, e.symm⟩
    rw [hb] at this
    cases this
end K14
namespace K14
open PySem PySem.Spec PyProof.Rows L2
/-- tuples of holds at these places -/
def HsT (H : Hp) (us : List Addr) (hss : List (List (Option Nat))) : Prop := us.length = hss.length ∧ ∀ (j : Nat) (u : Addr) (r : List (Option Nat)), us[j]? = some u → hss[j]? = some r → H u = some (.tup (VH r))
theorem HsT.same {H H' : Hp} {us : List Addr} {hss : List (List (Option Nat))} (t : HsT H us hss) (s : Same H H') : HsT H' us hss := ⟨t.1, fun j u r e1 e2 => s _ _ (t.2 j u r e1 e2)⟩
theorem HsT.bar {H H' : Hp} {h l : Addr} {us : List Addr} {hss : List (List (Option Nat))} (t : HsT H us hss) (s : Src H h l) (b : Bar h l H H') : HsT H' us hss := ⟨t.1, fun j u r e1 e2 => tup_bar s b (t.2 j u r e1 e2)⟩
theorem HsT.at {H : Hp} {us : List Addr} {hss : List (List (Option Nat))} {j : Nat} {x : V} (t : HsT H us hss) (e : (us.map V.ref)[j]? = some x) : ∃ u r, x = .ref u ∧ hss[j]? = some r ∧ H u = some (.tup (VH r)) := by
  rw [List.getElem?_map] at e
  cases h : us[j]? with
  | none => rw [h] at e; cases e
  | some u =>
    rw [h] at e
    have hj := (List.getElem?_eq_some_iff.mp h).1
    have hr : j < hss.length := by rw [← t.1]; exact hj
    exact ⟨u, hss[j], (Option.some.inj e).symm, List.getElem?_eq_getElem hr, t.2 j u _ h (List.getElem?_eq_getElem hr)⟩
def spSteadies : Sp := fun vs H Q _ => ∃ (a : Addr) (ls : List (List Nat)), vs = [.ref a] ∧ LX H a ls ∧ Few ls ∧ ListsOk ls.length ls ∧ ∀ (r : Addr) (us : List Addr) (rows : List (List Nat)) H', Same H H' → H r = none → H' r = some (.lst (us.map V.ref)) → HsT H' us (rows.map befs) → rows.length ≤ 7776 → rows.Sublist (parts ls ls.length) → (∀ row, row ∈ rows ↔ row ∈ parts ls ls.length ∧ Fits ls row (nxts row)) → Q (.ref r) H'
section
variable {P : Program} {w : World} {K : PySem.W.Frag} {mg : Str → Option Value} {base : Heap}
end
end K14
namespace K14
open PySem PySem.Spec PyProof.Rows L2
def spSome : Sp := fun vs H Q _ => ∃ (h l z : Addr) (ns : List Nat), vs = [.ref h, .ref z] ∧ Src H h l ∧ H z = some (.lst (VI ns)) ∧ z ≠ h ∧ z ≠ l ∧ ns ≠ [] ∧ ns.length < 10000 ∧ (∀ n ∈ ns, 1 ≤ n ∧ n ≤ 26) ∧
  ∀ (r : Addr) (ls : List (List Nat)) (H' : Hp), Src H' h l → Bar h l H H' → LX H' r ls → ListsOk ls.length ls → 1 ≤ ls.length → ls.length ≤ 26 → Q (.ref r) H'
theorem scSome : FnScope ["heap", "sizes", "many", "share"] ["heap", "sizes"] (defScope sLSomeLists) := ⟨rfl, rfl, rfl, by decide +kernel, rfl, by decide +kernel, by decide +kernel⟩
/-! ### lists of lists as data -/
def dLL (R : List (List Nat)) : PyData := .list (R.map dLi)
theorem lay_dLi (s : List Nat) : PyData.canLay0 (dLi s) = true ∧ PyData.depth (dLi s) ≤ 2 := by
  unfold dLi
  constructor
  · simp only [PyData.canLay0]
    refine layAll fun x hx => ?_
    obtain ⟨j, _, rfl⟩ := List.mem_map.mp hx
    rfl
  · simp only [PyData.depth]
    have := depAll (xs := s.map fun j => PyData.int (j : Nat)) (d := 1) fun x hx => by
      obtain ⟨j, _, rfl⟩ := List.mem_map.mp hx
      simp [PyData.depth]
    omega
theorem sh_dLL (R : List (List Nat)) : SeqAt.shaped (dLL R) = true := by
  unfold dLL
  refine shaped_of ?_ ?_
  · simp only [PyData.canLay0]
    refine layAll fun x hx => ?_
    obtain ⟨j, _, rfl⟩ := List.mem_map.mp hx
    exact (lay_dLi j).1
  · simp only [PyData.depth]
    have := depAll (xs := R.map dLi) (d := 2) fun x hx => by
      obtain ⟨j, _, rfl⟩ := List.mem_map.mp hx
      exact (lay_dLi j).2
    omega
theorem dpAll_of {K : PySem.W.Frag} {H : Hp} {α : Type} (d : α → PyData) : ∀ (us : List Addr) (R : List α), us.length = R.length → (∀ (j : Nat) (u : Addr) (x : α), us[j]? = some u → R[j]? = some x → Dp K H (.ref u) (d x)) → DpAll K H (us.map V.ref) (R.map d)
  | [], [], _, _ => .nil
  | [], _ :: _, h, _ => by cases h
  | _ :: _, [], h, _ => by cases h
  | u :: us, x :: R, h, q => .cons (q 0 u x rfl rfl) (dpAll_of d us R (by simpa using h) fun j u x e1 e2 => q (j + 1) u x e1 e2)
theorem dp_dLL {K : PySem.W.Frag} {H : Hp} {r : Addr} {us : List Addr} {R : List (List Nat)} (e : H r = some (.lst (us.map V.ref))) (t : LsR H us R) : Dp K H (.ref r) (dLL R) :=
  .lst (SqL.of e) (dpAll_of _ us R t.1 fun j u r e1 e2 => dp_dLi (t.2 j u r e1 e2))
theorem eqv_dLL_nil (R : List (List Nat)) : PyData.eqv (dLL R) (.list []) = R.isEmpty := by
  cases R with
  | nil => decide
  | cons a t => simp [dLL, PyData.eqv, PyData.eqvAll]
theorem HsT.put {H : Hp} {us : List Addr} {R : List (List (Option Nat))} {p : Addr} {o o' : HO} (t : HsT H us R) (e : H p = some o) (n1 : ∀ ys, o ≠ .tup ys) : HsT (upd H p o') us R :=
  ⟨t.1, fun i a s e1 e2 => by
    have h := t.2 i a s e1 e2
    rw [upd_ne fun z => by rw [z, e] at h; exact n1 _ (Option.some.inj h)]
    exact h⟩
theorem HsT.snoc {H : Hp} {us : List Addr} {R : List (List (Option Nat))} {u : Addr} {r : List (Option Nat)} (t : HsT H us R) (e : H u = some (.tup (VH r))) : HsT H (us ++ [u]) (R ++ [r]) := by
  refine ⟨by rw [List.length_append, List.length_append, t.1]; rfl, fun i a s e1 e2 => ?_⟩
  by_cases c : i < us.length
  · rw [List.getElem?_append_left c] at e1
    rw [List.getElem?_append_left (by rw [← t.1]; exact c)] at e2
    exact t.2 i a s e1 e2
  · rw [List.getElem?_append_right (by omega)] at e1
    rw [List.getElem?_append_right (by have := t.1; omega)] at e2
    have h1 : i - us.length = 0 := by
      have := (List.getElem?_eq_some_iff.mp e1).1
      simp at this
      omega
    have h2 : i - R.length = 0 := by have := t.1; omega
    rw [h1] at e1
    rw [h2] at e2
    cases e1
    cases e2
    exact e
/-- lists all of which have some length: their sum -/
theorem sum_lens (ls : List (List Nat)) (b : Nat) (h : ∀ p, p < ls.length → (la ls p).length ≤ b) : ∀ n, n ≤ ls.length → ∃ N : Nat, ((List.range n).map fun p => ((la ls p).length : Int)).sum = (N : Nat) ∧ N ≤ n * b
  | 0, _ => ⟨0, rfl, Nat.zero_le _⟩
  | n + 1, hn => by
    obtain ⟨N, e, le⟩ := sum_lens ls b h n (by omega)
    refine ⟨N + (la ls n).length, ?_, ?_⟩
    · rw [List.range_succ, List.map_append, List.sum_append, e]
      simp
    · have := h n (by omega)
      rw [Nat.succ_mul]
      omega
def spStages : Sp := fun vs H Q _ => ∃ (h l a : Addr) (ls : List (List Nat)), vs = [.ref h, .ref a] ∧ Src H h l ∧ LX H a ls ∧ ListsOk ls.length ls ∧ 1 ≤ ls.length ∧ ls.length ≤ 26 ∧
  ∀ (r F U : Addr) (us : List Addr) (hss : List (List (Option Nat))) (H' : Hp), Src H' h l → Bar h l H H' → H' r = some (.lst [.ref F, .ref U]) → H' F = some (.lst (us.map V.ref)) → F ≠ h → F ≠ l → HsT H' us hss → 1 ≤ us.length → us.length ≤ 2000 → (∀ S ∈ hss, HoldsOk ls S ∧ Std ls S) → Q (.ref r) H'
theorem scStages : FnScope ["heap", "lists", "found", "row", "turn", "rings", "ring", "some"] ["heap", "lists"] (defScope sLStages) := ⟨rfl, rfl, rfl, by decide +kernel, rfl, by decide +kernel, by decide +kernel⟩
/-- what stands while rings are turned -/
structure StAt (ls : List (List Nat)) (h l : Addr) (H H' : Hp) (F U : Addr) (us : List Addr) (u : Addr) (hss : List (List (Option Nat))) (S : List (Option Nat)) (xs : List V) (i : Nat) : Prop where
  src : Src H' h l
  bar : Bar h l H H'
  eF : H' F = some (.lst ((us ++ [u]).map V.ref))
  eU : H' U = some (.lst xs)
  nF : H F = none
  nU : H U = none
  ne : F ≠ U
  ht : HsT H' (us ++ [u]) (hss ++ [S])
  all : ∀ S' ∈ hss ++ [S], HoldsOk ls S' ∧ Std ls S'
  xl : xs.length ≤ i
  ul : us.length ≤ i
section
variable {P : Program} {w : World} {K : PySem.W.Frag} {mg : Str → Option Value} {base : Heap}
theorem ok_some {f f1 f2 f3 f4 : Addr} {fd d1 d2 d3 d4 : FuncData} {k : Nat} (F : Fun K "_law_some_lists" "_law_some_lists" sLSomeLists f fd) (Pk : Has P w K mg base k "_law_pick" ["heap", "some"] spPick f1 d1) (Dr : Has P w K mg base k "_law_draw" ["heap", "many"] spDraw f2 d2) (Rd : Has P w K mg base k "_law_round" ["heap", "many"] spRound f3 d3)
    (Ls : Has P w K mg base k "_law_lists" ["heap", "many", "share"] spLists f4 d4) : FnOk P w K mg base CX0 (k + 1) f fd ["heap", "sizes"] spSome := by
  refine F.ok scSome (fun vs H Q E h => ?_) (fun cdv A outer s H vs Q E hr h => ?_)
  · obtain ⟨h, l, z, ns, rfl, _⟩ := h
    rfl
  · obtain ⟨h, l, z, ns, rfl, src, ez, zh, zl, ne, n4, all, q⟩ := h
    refine ⟨_, pss_cons (ps_par (i := 2) (j := 3) rfl scSome.nd rfl rfl (by decide) rfl rfl (pa_cons (pe_call Pk.ok hr rfl Pk.m Pk.k Pk.b .nil pass0 (pa_cons (pv 0) (pa_cons (pv 1) pa_nil))) (pa_cons (pe_call Pk.ok hr rfl Pk.m Pk.k Pk.b .nil pass0 (pa_cons (pv 0) (pa_cons (pe_lst (pa_cons pe_int (pa_cons pe_int (pa_cons pe_int (pa_cons pe_int (pa_cons pe_int pa_nil)))))) pa_nil))) pa_nil)) (by rfl))
      (pss_one (ps_ret (pe_ifExp (pt_cmpR op_eq (pe_call Dr.ok hr rfl Dr.m Dr.k Dr.b .nil pass0 (pa_cons (pv 0) (pa_cons pe_int pa_nil))) pe_int (nomark _)) (pe_call Rd.ok hr rfl Rd.m Rd.k Rd.b .nil pass0 (pa_cons (pv 0) (pa_cons (pe_call Pk.ok hr rfl Pk.m Pk.k Pk.b .nil pass0 (pa_cons (pv 0) (pa_cons (pe_lst (pa_cons pe_int (pa_cons pe_int pa_nil))) pa_nil))) pa_nil))) (pe_call Ls.ok hr rfl Ls.m Ls.k Ls.b .nil pass0 (pa_cons (pv 0) (pa_cons (pv 2) (pa_cons (pv 3) pa_nil))))))), ?_⟩
    have s0 : 0 < (VI ns).length := by
      rw [VI_len]
      exact List.length_pos_iff.mpr ne
    refine ⟨_, rfl, _, rfl, h, l, z, _, rfl, src, .inl ez, zh, zl, s0, by rw [VI_len]; exact n4, fun j y H1 hy sr1 br1 => ?_⟩
    obtain ⟨many, em, rfl⟩ := VI_at hy
    obtain ⟨m1, m26⟩ := all many (List.mem_of_getElem? em)
    refine ⟨_, rfl, (by show 5 ≤ sizeLine; decide), fun v nv => ?_⟩
    obtain ⟨nvh, nvl⟩ := sr1.new nv
    refine ⟨h, l, v, _, rfl, sr1.updn nv, .inl upd_same, nvh, nvl, by simp, by simp, fun j' y' H2 hy' sr2 br2 => ⟨_, _, rfl, ?_⟩⟩
    obtain ⟨sh, rfl, sh0, sh1⟩ : ∃ sh : Int, y' = .int sh ∧ 0 < sh ∧ sh < 1000 := by
      match j', hy' with
      | 0, hy' => exact ⟨4, (Option.some.inj hy').symm, by decide, by decide⟩
      | 1, hy' => exact ⟨9, (Option.some.inj hy').symm, by decide, by decide⟩
      | 2, hy' => exact ⟨99, (Option.some.inj hy').symm, by decide, by decide⟩
      | 3, hy' => exact ⟨99, (Option.some.inj hy').symm, by decide, by decide⟩
      | 4, hy' => exact ⟨2, (Option.some.inj hy').symm, by decide, by decide⟩
    dsimp only [List.set, L2.start]
    have b2 : Bar h l H H2 := br1.trans ((Bar.same (same_upd nv)).trans br2)
    refine ⟨_, rfl, h, l, 3, rfl, sr2, by decide, by decide, fun d H3 d0 d3 sr3 br3 => ⟨rfl, _, rfl, ?_⟩⟩
    have b3 := b2.trans br3
    refine ite2 (fun c => ?_) (fun c => ?_)
    · refine ⟨_, rfl, _, rfl, (by show 2 ≤ sizeLine; decide), fun v3 nv3 => ?_⟩
      obtain ⟨nvh3, nvl3⟩ := sr3.new nv3
      refine ⟨h, l, v3, _, rfl, sr3.updn nv3, .inl upd_same, nvh3, nvl3, by simp, by simp, fun j3 y3 H4 hy3 sr4 br4 => ?_⟩
      obtain ⟨m3, rfl, hm3⟩ : ∃ m3 : Nat, y3 = .int (m3 : Nat) ∧ (m3 = 4 ∨ m3 = 6) := by
        match j3, hy3 with
        | 0, hy3 => exact ⟨4, (Option.some.inj hy3).symm, .inl rfl⟩
        | 1, hy3 => exact ⟨6, (Option.some.inj hy3).symm, .inr rfl⟩
      exact ⟨h, l, m3, rfl, sr4, hm3, fun r3 ls3 H5 sr5 br5 nr3 lx5 ll3 ok3 pm3 => q r3 ls3 H5 sr5 (b3.trans ((Bar.same (same_upd nv3)).trans (br4.trans br5))) lx5 ok3 (by omega) (by omega)⟩
    · exact ⟨_, rfl, _, rfl, _, rfl, h, l, many, sh, rfl, sr3, by omega, sh0, sh1, fun r ls H4 ok sr4 br4 na lx4 => q r ls H4 sr4 (b3.trans br4) lx4 (by rw [ok.len]; exact ok) (by rw [ok.len]; exact m1) (by rw [ok.len]; exact m26)⟩
set_option maxHeartbeats 1000000 in
theorem ok_stages {f f1 f2 f3 f4 f5 : Addr} {fd d1 d2 d3 d4 d5 : FuncData} {k : Nat} (F : Fun K "_law_stages" "_law_stages" sLStages f fd) (Pk : Has P w K mg base k "_law_pick" ["heap", "some"] spPick f1 d1) (Ou : Has P w K mg base k "_law_out" ["lists"] spOut f2 d2) (Go : Has P w K mg base k "_law_good" ["lists", "holds"] spLGood f3 d3)
    (Te : Has P w K mg base k "_law_told" ["lists", "holds", "ring"] spLTold f4 d4) (Tu : Has P w K mg base k "_law_turned" ["lists", "holds", "ring"] spLTurned f5 d5) (ml : mg "len" = none) (mrg : mg "range" = none) (msu : mg "sum" = none) (mt : mg "tuple" = none) : FnOk P w K mg base CX0 (k + 1) f fd ["heap", "lists"] spStages := by
  refine F.ok scStages (fun vs H Q E h => ?_) (fun cdv A outer s H vs Q E hr h => ?_)
  · obtain ⟨h, l, a, ls, rfl, _⟩ := h
    rfl
  · obtain ⟨h, l, a, ls, rfl, src, lx, ok, n1, n26, q⟩ := h
    refine ⟨_, pss_cons (ps_par (i := 2) (j := 3) rfl scStages.nd rfl rfl (by decide) rfl rfl (pa_cons (pe_lst (pa_cons (pe_call Ou.ok hr rfl Ou.m Ou.k Ou.b .nil pass0 (pa_cons (pv 1) pa_nil)) pa_nil)) (pa_cons (pe_lst pa_nil) pa_nil)) (by rfl))
      (pss_cons (ps_for PassesOwn.never rfl (pi_range1 rfl mrg (pa_cons (pe_op op_add pe_int (pe_callB (cr_sum rfl) (by rfl) msu (by decide +kernel) (pa_cons (pe_lc (own := [("some", 7)]) (g := gName 7) (tt := tYes) (te := tCB (rLen K) (tCons (tVar 7) tNil)) rfl scStages.nd (pi_tup (pv 1))
          (blkOk_by (own := [("some", 7)]) (N := ["heap", "lists", "found", "row", "turn", "rings", "ring", "some"]) (sc := defScope sLStages) (by decide +kernel)) (fun _ _ _ _ _ => (pg_name (i := 7) scStages.nd rfl (Or.inl rfl))) (fun _ _ _ _ _ => pts_nil)
          (fun _ _ _ _ _ => (pe_callB call_len_seq (by rfl) ml PySem.boot_len (pa_cons (pv 7) pa_nil)))) pa_nil))) pa_nil)) (pg_name (i := 4) scStages.nd rfl (.inl rfl))
      (pss_cons (ps_set (i := 5) scStages.nd rfl (.inl rfl) (pe_call Go.ok hr rfl Go.m Go.k Go.b .nil pass0 (pa_cons (pv 1) (pa_cons (pe_ix ix_list (pv 2) (pe_un un_neg pe_int) (fun _ _ => rfl)) pa_nil))))
      (pss_cons (ps_if (pt_cmpR (op_eqD hr.units) (pv 5) (pe_lst pa_nil) (nomark _)) (pss_one ps_break) pss_nil)
      (pss_cons (ps_set (i := 6) scStages.nd rfl (.inl rfl) (pe_call Pk.ok hr rfl Pk.m Pk.k Pk.b .nil pass0 (pa_cons (pv 0) (pa_cons (pv 5) pa_nil))))
      (pss_cons (ps_expr (pe_bm PySem.F.plainAttrs_list PySem.F.slot_list_append PySem.F.type_list_append mt_append (pv 3) (pa_cons (pe_call Te.ok hr rfl Te.m Te.k Te.b .nil pass0 (pa_cons (pv 1) (pa_cons (pe_ix ix_list (pv 2) (pe_un un_neg pe_int) (fun _ _ => rfl)) (pa_cons (pv 6) pa_nil)))) pa_nil)))
      (pss_one (ps_expr (pe_bm PySem.F.plainAttrs_list PySem.F.slot_list_append PySem.F.type_list_append mt_append (pv 2) (pa_cons (pe_call Tu.ok hr rfl Tu.m Tu.k Tu.b .nil pass0 (pa_cons (pv 1) (pa_cons (pe_ix ix_list (pv 2) (pe_un un_neg pe_int) (fun _ _ => rfl)) (pa_cons (pv 6) pa_nil)))) pa_nil)))))))))
      (pss_one (ps_ret (pe_lst (pa_cons (pv 2) (pa_cons (pe_callTy call_tuple_of (by rfl) mt (by decide +kernel) (pa_cons (pv 3) pa_nil)) pa_nil)))))), ?_⟩
    refine ⟨_, rfl, a, ls, rfl, lx, n1, by omega, ok, fun e g H1 G s1 eg => ⟨(by show 1 ≤ sizeLine; decide), fun F nF => ?_⟩⟩
    refine ⟨(by show 0 ≤ sizeLine; decide), fun U nU => ⟨_, _, rfl, ?_⟩⟩
    dsimp only [List.set, L2.start]
    have nF0 : H F = none := s1.free nF
    have sFF := same_upd (o := .lst [.ref e]) nF
    have nU1 : H1 U = none := sFF.free nU
    have nFU : F ≠ U := ne_of_none upd_same nU
    have sU := same_upd (o := .lst []) nU
    have s0 := s1.trans (sFF.trans sU)
    have st0 : StAt ls h l H (upd (upd H1 F (.lst [.ref e])) U (.lst [])) F U [] e [] g [] 0 :=
      ⟨(src.same s0), .same s0, by rw [upd_ne nFU]; exact upd_same, upd_same, nF0, s1.free nU1, nFU, ⟨rfl, fun j u r e1 e2 => by
        match j, e1, e2 with
        | 0, e1, e2 => cases e1; cases e2; exact (sFF.trans sU) _ _ eg
        | _ + 1, e1, e2 => cases e1⟩, fun S' hS' => by
        rw [List.nil_append, List.mem_singleton] at hS'
        rw [hS']
        exact ⟨G.ok, G.st⟩, Nat.le_refl _, Nat.le_refl _⟩
    generalize upd (upd H1 F (.lst [.ref e])) U (.lst []) = H2 at st0 s0
    obtain ⟨nFh, nFl⟩ := src.new nF0
    obtain ⟨nUh, nUl⟩ := src.new st0.nU
    refine seqcut (fun σ' H' => ∃ (y4 y5 y6 : Option V) (us : List Addr) (u : Addr) (hss : List (List (Option Nat))) (S : List (Option Nat)) (xs : List V), σ' = [some (.ref h), some (.ref a), some (.ref F), some (.ref U), y4, y5, y6, none] ∧ StAt ls h l H H' F U us u hss S xs 700) ?_ (fun out => ?_)
    · rintro σ' H5 ⟨y4, y5, y6, us, u, hss, S, xs, rfl, at5⟩
      refine ⟨_, rfl, _, rfl, U, _, rfl, .inl ⟨SqL.of at5.eU, fun V1 nV1 => ⟨(by show 2 ≤ sizeLine; decide), fun r nr => ?_⟩⟩⟩
      have s6 := (same_upd (o := .tup xs) nV1).trans (same_upd (o := .lst [.ref F, .ref V1]) nr)
      refine q r F V1 (us ++ [u]) (hss ++ [S]) _ (at5.src.same s6) (at5.bar.trans (.same s6)) upd_same (s6 _ _ at5.eF) nFh nFl (at5.ht.same s6) (by simp) (by have := at5.ul; simp; omega) at5.all
    have lx2 := lx.same s0
    obtain ⟨xs, ea, xl⟩ := lx2.lt.len
    refine ⟨_, rfl, a, rfl, ⟨_, SqT.of ea⟩, fun D nD => ?_⟩
    refine lc_same (walk_tup (K := K) (a := a) (xs := xs)) (by omega) (fun p => .int ((la ls p).length : Nat)) nD (fun _ sm => SqT.of (sm _ _ ea)) ?_ ?_
    · rintro m x Ha Hb Z out hm sm ⟨rfl, ex⟩
      obtain ⟨c, s', rfl, es, ec⟩ := lx2.lt.row ea ex
      have es' : s' = la ls m := by rw [la_of es]
      subst es'
      refine gn ⟨rfl, _, rfl, c, _, rfl, .inr (ec.same sm).sq, ?_⟩
      rw [VI_len]
      exact out _ same_rfl
    · intro H3 s3 eD
      obtain ⟨N, eN, leN⟩ := sum_lens ls 26 (fun p hp => by have := ok.each (la_get hp); omega) ls.length (Nat.le_refl _)
      refine ⟨D, (List.range ls.length).map fun p => ((la ls p).length : Int), rfl, SqL.of (by rw [eD, xl, List.map_map]; rfl), ?_⟩
      rw [eN]
      have N676 : N ≤ 676 := by
        have := Nat.mul_le_mul_right 26 n26
        omega
      have st3 : StAt ls h l H H3 F U [] e [] g [] 0 := ⟨st0.src.same s3, st0.bar.trans (.same s3), s3 _ _ st0.eF, s3 _ _ st0.eU, st0.nF, st0.nU, st0.ne, st0.ht.same s3, st0.all, st0.xl, st0.ul⟩
      refine ⟨_, _, rfl, rfl, _, rfl, by omega, by omega, ?_⟩
      rw [show ((1 : Int) + (N : Nat)).toNat = 1 + N by omega]
      refine for_it (J := Itr 0 (1 + N)) (n := 1 + N) walk_range0 (fun i σ H' => ∃ (y4 y5 y6 : Option V) (us : List Addr) (u : Addr) (hss : List (List (Option Nat))) (S : List (Option Nat)) (xs : List V), σ = [some (.ref h), some (.ref a), some (.ref F), some (.ref U), y4, y5, y6, none] ∧ StAt ls h l H H' F U us u hss S xs i)
        ⟨none, none, none, [], e, [], g, [], rfl, st3⟩ (fun _ _ _ _ _ => trivial) ?_ ?_
      · rintro i x σ H4' H4 hi ⟨y4, y5, y6, us, u, hss, S, xs, rfl, at4⟩ ⟨rfl, rfl⟩
        refine gn ?_
        dsimp only [List.set]
        have eF4 : H4 F = some (.lst (us.map V.ref ++ [.ref u])) := by rw [at4.eF, List.map_append]; rfl
        have eS : H4 u = some (.tup (VH S)) := at4.ht.2 us.length u S (by simp) (by rw [List.getElem?_append_right (by have := at4.ht.1; simp at this; omega)]; have := at4.ht.1; simp at this; rw [this]; simp)
        obtain ⟨so, ss⟩ := at4.all S (by simp)
        have lx4 := lx.bar src at4.bar
        refine ⟨_, rfl, _, rfl, _, rfl, F, _, -1, _, rfl, rfl, SqL.of eF4, atI_last _ _, a, u, ls, S, rfl, lx4, eS, so, ss, ok, by omega, fun r rs H5 s5 nr er unr lr => gn ?_⟩
        dsimp only [List.set]
        refine ⟨_, rfl, (by show 0 ≤ sizeLine; decide), fun z nz => ?_⟩
        have sz := same_upd (o := .lst []) nz
        refine ⟨dLL (goodR ls S), .list [], dp_dLL (sz _ _ er) (lr.same sz), .lst (SqL.of upd_same) .nil, sh_dLL _, by decide, _, rfl, ?_⟩
        rw [eqv_dLL_nil]
        have s6 := s5.trans sz
        generalize upd H5 z (.lst []) = H6 at sz s6
        have at6 : StAt ls h l H H6 F U us u hss S xs i := ⟨at4.src.same s6, at4.bar.trans (.same s6), s6 _ _ at4.eF, s6 _ _ at4.eU, at4.nF, at4.nU, at4.ne, at4.ht.same s6, at4.all, at4.xl, at4.ul⟩
        cases eg : goodR ls S with
        | nil => exact iteT (out _ _ ⟨_, _, _, us, u, hss, S, xs, rfl, at6.src, at6.bar, at6.eF, at6.eU, at6.nF, at6.nU, at6.ne, at6.ht, at6.all, by have := at6.xl; omega, by have := at6.ul; omega⟩)
        | cons g0 gt =>
          refine iteF ?_
          have er6 := sz _ _ er
          have lr6 := lr.same sz
          have rsl : 0 < rs.length := by rw [lr.1, eg]; simp
          have gl : (goodR ls S).length ≤ 60 := by
            unfold goodR ringsA
            refine Nat.le_trans (List.length_filter_le _ _) ?_
            rw [List.length_map]
            refine Nat.le_trans (List.length_filter_le _ _) ?_
            rw [List.length_range, givA_len]
            omega
          have nr4 : r ≠ h ∧ r ≠ l := at4.src.new nr
          have nrs : ∀ x ∈ rs, x ≠ h ∧ x ≠ l := fun x hx => at4.src.new (unr x hx)
          refine ⟨_, rfl, _, rfl, h, l, r, _, rfl, at6.src, .inl er6, nr4.1, nr4.2, by rw [List.length_map]; exact rsl, by rw [List.length_map, lr.1]; omega, fun kk vv H7 hv sr7 br7 => gn ?_⟩
          dsimp only [List.set]
          obtain ⟨w1, ew1, rfl⟩ : ∃ w1, rs[kk]? = some w1 ∧ vv = .ref w1 := by
            rw [List.getElem?_map] at hv
            cases e1 : rs[kk]? with
            | none => rw [e1] at hv; cases hv
            | some w1 => rw [e1] at hv; exact ⟨w1, rfl, (Option.some.inj hv).symm⟩
          obtain ⟨rg, erg⟩ : ∃ rg, (goodR ls S)[kk]? = some rg := ⟨_, List.getElem?_eq_getElem (by rw [← lr.1]; exact (List.getElem?_eq_some_iff.mp ew1).1)⟩
          have ew7 := br7 _ _ (nrs w1 (List.mem_of_getElem? ew1)).1 (nrs w1 (List.mem_of_getElem? ew1)).2 (lr6.2 kk w1 rg ew1 erg)
          have hrg := List.mem_of_getElem? erg
          unfold goodR at hrg
          obtain ⟨hr1, hr2⟩ := List.mem_filter.mp hrg
          obtain ⟨p, m, hp, cy, rfl⟩ := ringR hr1
          have nodd : ¬ OddX ls S (sF ls S) (Orb (gF ls S) p) := fun z => by
            have h2' : (!oddB (leftA ls S) (prs ls S (ringL (gF ls S) p m))) = true := hr2
            rw [(odd_iff ok so ss hp cy).mpr z] at h2'
            cases h2'
          have RR : Rng ls S (sF ls S) (gF ls S) (Orb (gF ls S) p) := orb_rng ok so ss (giv_at ok so ss) hp (orb_two ok so hp cy 0).2 cy.one cy.back nodd
          have at7 : StAt ls h l H H7 F U us u hss S xs i := ⟨sr7, at6.bar.trans br7, br7 _ _ nFh nFl at6.eF, br7 _ _ nUh nUl at6.eU, at6.nF, at6.nU, at6.ne, at6.ht.bar at6.src br7, at6.all, at6.xl, at6.ul⟩
          have eF7 : H7 F = some (.lst (us.map V.ref ++ [.ref u])) := by rw [at7.eF, List.map_append]; rfl
          have eS7 := tup_bar at6.src br7 (s6 _ _ eS)
          have lx7 := lx.bar src at7.bar
          have R7 : RgAt H7 a u w1 ls S p m := ⟨lx7, eS7, ew7, so, ss, ok, by omega, hp, cy⟩
          refine ⟨_, rfl, .inl ⟨rfl, _, SqL.of at7.eU⟩, _, rfl, _, rfl, _, rfl, F, _, -1, _, rfl, rfl, SqL.of eF7, atI_last _ _, _, rfl, a, u, w1, ls, S, p, m, rfl, R7, fun c8 H8 s8 rp8 => ?_⟩
          refine ⟨U, _, _, rfl, rfl, s8 _ _ at7.eU, sz6 (by have := at7.xl; omega), ?_⟩
          have at9 : StAt ls h l H (upd H8 U (.lst (xs ++ [.ref c8]))) F U us u hss S (xs ++ [.ref c8]) (i + 1) :=
            ⟨(sr7.same s8).put nUh nUl, (at7.bar.trans (.same s8)).fresh at7.nU, by rw [upd_ne at7.ne]; exact s8 _ _ at7.eF, upd_same, at7.nF, at7.nU, at7.ne, (at7.ht.same s8).put (s8 _ _ at7.eU) (fun _ z => by cases z), at7.all, by have := at7.xl; simp; omega, by have := at7.ul; omega⟩
          have ew9 : (upd H8 U (.lst (xs ++ [.ref c8]))) w1 = some (.lst (VI (ringL (gF ls S) p m))) := by
            rw [upd_ne]
            · exact s8 _ _ ew7
            · intro z
              have := unr w1 (List.mem_of_getElem? ew1)
              rw [z, at4.eU] at this
              cases this
          have eS9 : (upd H8 U (.lst (xs ++ [.ref c8]))) u = some (.tup (VH S)) := by
            rw [upd_ne]
            · exact s8 _ _ eS7
            · intro z
              rw [z, at7.eU] at eS7
              cases eS7
          generalize upd H8 U (.lst (xs ++ [.ref c8])) = H9 at at9 ew9 eS9
          have eF9 : H9 F = some (.lst (us.map V.ref ++ [.ref u])) := by rw [at9.eF, List.map_append]; rfl
          have R9 : RgAt H9 a u w1 ls S p m := ⟨lx.bar src at9.bar, eS9, ew9, so, ss, ok, by omega, hp, cy⟩
          refine ⟨_, rfl, .inl ⟨rfl, _, SqL.of at9.eF⟩, _, rfl, _, rfl, _, rfl, F, _, -1, _, rfl, rfl, SqL.of eF9, atI_last _ _, _, rfl, a, u, w1, ls, S, p, m, rfl, R9, fun ca hs' Ha sa past ea' => ?_⟩
          refine ⟨F, _, _, rfl, rfl, sa _ _ at9.eF, by rw [List.length_map]; exact sz6 (by have := at9.ul; simp; omega), ?_⟩
          have so' := past_ok ok so ss hp cy RR past
          have ss' := past_std ok so ss hp cy RR past
          have eca : (upd Ha F (.lst ((us ++ [u]).map V.ref ++ [.ref ca]))) ca = some (.tup (VH hs')) := by
            rw [upd_ne]
            · exact ea'
            · intro z
              rw [z, sa _ _ at9.eF] at ea'
              cases ea'
          refine ⟨_, _, _, us ++ [u], ca, hss ++ [S], hs', xs ++ [.ref c8], rfl, (at9.src.same sa).put nFh nFl, (at9.bar.trans (.same sa)).fresh at9.nF, by rw [upd_same, List.map_append (l₂ := [ca])]; rfl, by rw [upd_ne (Ne.symm at9.ne)]; exact sa _ _ at9.eU, at9.nF, at9.nU, at9.ne, ?_, fun S' hS' => ?_, at9.xl, by have := at9.ul; have := at4.ul; simp; omega⟩
          · exact ((at9.ht.same sa).put (sa _ _ at9.eF) (fun _ z => by cases z)).snoc eca
          · rcases List.mem_append.mp hS' with hS' | hS'
            · exact at9.all S' hS'
            · rw [List.mem_singleton] at hS'
              rw [hS']
              exact ⟨so', ss'⟩
      · rintro σ H4 ⟨y4, y5, y6, us, u, hss, S, xs, rfl, at4⟩
        exact out _ _ ⟨_, _, _, us, u, hss, S, xs, rfl, at4.src, at4.bar, at4.eF, at4.eU, at4.nF, at4.nU, at4.ne, at4.ht, at4.all, by have := at4.xl; omega, by have := at4.ul; omega⟩
end
end K14
namespace K14
open PySem PySem.Spec PyProof.Rows L2
section
variable {H H' : Hp} {v : V} {d : PyData} {K : PySem.W.Frag}
theorem FD.lay (f : FD v d) : PyData.canLay0 d = true ∧ PyData.depth d ≤ 1 := by
  cases f <;> exact ⟨by simp [PyData.canLay0], by simp [PyData.depth]⟩
theorem lay_all2 {R : V → PyData → Prop} {m : Nat} (h : ∀ x y, R x y → PyData.canLay0 y = true ∧ PyData.depth y ≤ m) : ∀ {xs : List V} {ds : List PyData}, All2 R xs ds → PyData.canLayAll0 ds = true ∧ PyData.depthAll ds ≤ m
  | _, _, .nil => by simp [PyData.canLayAll0, PyData.depthAll]
  | _, _, .cons a t => by
    have h1 := h _ _ a
    have h2 := lay_all2 h t
    refine ⟨by simp [PyData.canLayAll0, h1.1, h2.1], ?_⟩
    simp only [PyData.depthAll]
    omega
theorem VD1.lay (t : VD1 H v d) : PyData.canLay0 d = true ∧ PyData.depth d ≤ 2 := by
  cases t with
  | flat f => exact ⟨f.lay.1, Nat.le_trans f.lay.2 (by decide)⟩
  | tup e l a => have h := lay_all2 (fun _ _ h => FD.lay h) a; exact ⟨by simp only [PyData.canLay0]; exact h.1, by simp only [PyData.depth]; have := h.2; omega⟩
  | lst e l a => have h := lay_all2 (fun _ _ h => FD.lay h) a; exact ⟨by simp only [PyData.canLay0]; exact h.1, by simp only [PyData.depth]; have := h.2; omega⟩
theorem VD2.lay (t : VD2 H v d) : PyData.canLay0 d = true ∧ PyData.depth d ≤ 3 := by
  cases t with
  | flat f => exact ⟨f.lay.1, Nat.le_trans f.lay.2 (by decide)⟩
  | tup e l a => have h := lay_all2 (fun _ _ h => VD1.lay h) a; exact ⟨by simp only [PyData.canLay0]; exact h.1, by simp only [PyData.depth]; have := h.2; omega⟩
  | lst e l a => have h := lay_all2 (fun _ _ h => VD1.lay h) a; exact ⟨by simp only [PyData.canLay0]; exact h.1, by simp only [PyData.depth]; have := h.2; omega⟩
theorem VD2.shaped (t : VD2 H v d) : SeqAt.shaped d = true := shaped_of t.lay.1 (Nat.le_trans t.lay.2 (by decide))
/-! ### rings of pairs as data -/
def dRR (R : List (List (Nat × Nat))) : PyData := .tuple (R.map fun ps => dL (rows2 ps))
theorem RP.lt {r : Addr} {ps : List (Nat × Nat)} (t : RP H r ps) : LT H r (rows2 ps) := by
  obtain ⟨us, e, l, a⟩ := t
  refine ⟨us, e, by unfold rows2; rw [List.length_map]; exact l, fun j u s e1 e2 => ?_⟩
  unfold rows2 at e2
  rw [List.getElem?_map] at e2
  cases e3 : ps[j]? with
  | none => rw [e3] at e2; cases e2
  | some x =>
    rw [e3] at e2
    cases e2
    exact .inl (a j u x e1 e3)
theorem dp_dRR {r : Addr} {us : List Addr} {R : List (List (Nat × Nat))} (e : H r = some (.tup (us.map V.ref))) (t : RPs H us R) : Dp K H (.ref r) (dRR R) :=
  .tup (SqT.of e) (dpAll_of _ us R t.1 fun j u ps e1 e2 => dp_dL (t.2 j u ps e1 e2).lt)
theorem sh_dRR (R : List (List (Nat × Nat))) : SeqAt.shaped (dRR R) = true := by
  have ld : ∀ ls, PyData.canLay0 (dL ls) = true ∧ PyData.depth (dL ls) ≤ 3 := fun ls => by
    unfold dL
    constructor
    · simp only [PyData.canLay0]
      refine layAll fun x hx => ?_
      obtain ⟨j, _, rfl⟩ := List.mem_map.mp hx
      exact (lay_dI j).1
    · simp only [PyData.depth]
      have := depAll (xs := ls.map dI) (d := 2) fun x hx => by
        obtain ⟨j, _, rfl⟩ := List.mem_map.mp hx
        exact (lay_dI j).2
      omega
  unfold dRR
  refine shaped_of ?_ ?_
  · simp only [PyData.canLay0]
    refine layAll fun x hx => ?_
    obtain ⟨j, _, rfl⟩ := List.mem_map.mp hx
    exact (ld _).1
  · simp only [PyData.depth]
    have := depAll (xs := R.map fun ps => dL (rows2 ps)) (d := 3) fun x hx => by
      obtain ⟨j, _, rfl⟩ := List.mem_map.mp hx
      exact (ld _).2
    omega
end
theorem ringsP_lt {ls : List (List Nat)} {hs : List (Option Nat)} (ok : ListsOk ls.length ls) (ho : HoldsOk ls hs) (st : Std ls hs) : ∀ ps ∈ ringsP ls hs, ∀ x ∈ ps, x.1 < ls.length ∧ x.2 < ls.length := fun ps hps x hx => by
  unfold ringsP at hps
  obtain ⟨r, hr, rfl⟩ := List.mem_map.mp hps
  obtain ⟨p, m, hp, cy, rfl⟩ := ringR hr
  unfold prs at hx
  obtain ⟨y, hy, rfl⟩ := List.mem_map.mp hx
  obtain ⟨k, _, rfl⟩ := ringL_mem.mp hy
  have two := orb_two ok ho hp cy
  exact ⟨(two k).1, (left_sym ok (two k).1 (fst_mem (takers ok ho st hp cy k).2)).1⟩
def isRingB (ls : List (List Nat)) (hs : List (Option Nat)) (d : PyData) : Bool := (ringsP ls hs).any fun ps => decide ((dL (rows2 ps)).shown = d.shown)
def spIsTurnRing (C : Addr) : Sp := fun vs H Q _ => ∃ (wi t : Addr) (v : V) (ns ls : List (List Nat)) (hs : List (Option Nat)) (d : PyData), vs = [.ref wi, .ref t, v] ∧ WAt C H wi ns ls ∧ H t = some (.tup (VH hs)) ∧ HoldsOk ls hs ∧ Std ls hs ∧ VD2 H v d ∧
  ∀ H', Same H H' → Q (.bl (isRingB ls hs d)) H'
theorem scIsTurnRing : FnScope ["wishes", "holds", "value"] ["wishes", "holds", "value"] (defScope sIsTurnRing) := ⟨rfl, rfl, rfl, by decide +kernel, rfl, by decide +kernel, by decide +kernel⟩
section
variable {P : Program} {w : World} {K : PySem.W.Frag} {mg : Str → Option Value} {base : Heap}
theorem ok_is_turn_ring {f f1 f2 C : Addr} {fd d1 d2 : FuncData} {k : Nat} (F : Fun K "is_turn_ring" "is_turn_ring" sIsTurnRing f fd) (Ar : Has P w K mg base k "are_rows_of_persons" ["value", "many"] spRowsV f1 d1) (Tr : Has P w K mg base k "turn_rings" ["wishes", "holds"] (spTurnRings C) f2 d2) (ml : mg "len" = none) : FnOk P w K mg base CX0 (k + 1) f fd ["wishes", "holds", "value"] (spIsTurnRing C) := by
  refine F.ok scIsTurnRing (fun vs H Q E h => ?_) (fun cdv A outer s H vs Q E hr h => ?_)
  · obtain ⟨wi, t, v, ns, ls, hs, d, rfl, _⟩ := h
    rfl
  · obtain ⟨wi, t, v, ns, ls, hs, d, rfl, W, et, ho, st, vd, q⟩ := h
    refine ⟨_, pss_one (ps_ret (pe_and (pe_call Ar.ok hr rfl Ar.m Ar.k Ar.b .nil pass0 (pa_cons (pv 2) (pa_cons (pe_callB call_len_seq (by rfl) ml PySem.boot_len (pa_cons (pv 1) pa_nil)) pa_nil))) (pe_one (pe_cmpR (op_inDT (units65 hr)) (pv 2) (pe_call Tr.ok hr rfl Tr.m Tr.k Tr.b .nil pass0 (pa_cons (pv 0) (pa_cons (pv 1) pa_nil))) rfl)))), ?_⟩
    have key := turn_iff vd (n := ls.length) (R := (ringsP ls hs).map rows2) (fun rows hr s hs' j hj => by
      obtain ⟨ps, hps, rfl⟩ := List.mem_map.mp hr
      unfold rows2 at hs'
      obtain ⟨x, hx, rfl⟩ := List.mem_map.mp hs'
      have := ringsP_lt W.ok ho st ps hps x hx
      simp only [List.mem_cons, List.not_mem_nil, or_false] at hj
      rcases hj with rfl | rfl
      · exact this.1
      · exact this.2)
    have key2 : (rowsB H v ls.length && (((ringsP ls hs).map fun ps => dL (rows2 ps)).any fun z => PyData.eqv z d)) = isRingB ls hs d := by
      rw [List.map_map, List.any_map (f := rows2)] at key
      exact key
    refine ⟨_, rfl, _, rfl, t, _, rfl, .inr (SqT.of et), ?_⟩
    rw [VH_len, ho.len]
    refine ⟨v, ls.length, rfl, vd.it, fun H1 s1 => ⟨_, rfl, ?_⟩⟩
    rw [← key2] at q
    cases hb : rowsB H v ls.length with
    | false =>
      rw [hb, Bool.false_and] at q
      exact q H1 s1
    | true =>
      rw [hb, Bool.true_and] at q
      refine iteT ⟨_, rfl, _, rfl, _, rfl, wi, t, ns, ls, hs, rfl, W.same s1, s1 _ _ et, ho, fun c us H2 s2 ec rp => ?_⟩
      exact ⟨d, _, ((vd.same s1).same s2).dp, dp_dRR ec rp, vd.shaped, sh_dRR _, q H2 (s1.trans s2)⟩
end
end K14
namespace K14
open PySem PySem.Spec PyProof.Rows L2
/-! values that a law spoils a ring to -/
theorem its_len : ∀ xs : List PyData, (ShX.its xs).length ≤ piled (PyData.shownAll xs)
  | [] => by rw [ShX.its_nil]; exact Nat.zero_le _
  | x :: xs => by
    have rl : ∀ ys : List PyData, (ShX.rss ys).length = piled (PyData.shownAll ys) := fun ys => by
      induction ys with
      | nil => rw [ShX.rss_nil]; simp [PyData.shownAll, piled]
      | cons y ys ih =>
        rw [ShX.rss_cons]
        simp only [PyData.shownAll]
        rw [piled_cons, List.length_cons, List.length_cons, List.length_append, ih]
        show (ShX.cd y.shown).length + _ + 1 + 1 = y.shown.length + 2 + _
        show y.shown.cps.toList.length + _ + 1 + 1 = y.shown.cps.size + 2 + _
        rw [Array.length_toList]
        omega
    rw [ShX.its_cons, List.length_append, rl]
    simp only [PyData.shownAll]
    rw [piled_cons]
    have e : (ShX.sh x).length = x.shown.length := by
      show x.shown.cps.toList.length = x.shown.cps.size
      rw [Array.length_toList]
    rw [e]
    omega
theorem rp_lst {xs : List PyData} {m B : Nat} (h : ∀ x ∈ xs, RpI x m B) : RpI (.list xs) (m + 1) ((B + 2) * xs.length + 10) := by
  have t := rp_tup h
  have all : ∀ xs : List PyData, (∀ x ∈ xs, RpI x m B) → piled (PyData.shownAll xs) ≤ (B + 2) * xs.length := by
    intro xs
    induction xs with
    | nil => intro _; simp [PyData.shownAll, piled]
    | cons c r ih =>
      intro h
      have a4 := ih fun x hx => h x (by simp [hx])
      have h1 := (h c (by simp)).ln
      simp only [PyData.shownAll]
      rw [piled_cons, List.length_cons, Nat.mul_succ]
      omega
  refine ⟨by have := t.sh; simp only [PyData.showable] at this ⊢; exact this, by have := t.nd; simp only [PyData.hasDict] at this ⊢; exact this, by have := t.dp; simp only [PyData.depth] at this ⊢; exact this, ?_⟩
  have e : (PyData.list xs).shown.length = (ShX.sh (.list xs)).length := by
    show (PyData.list xs).shown.cps.size = (PyData.list xs).shown.cps.toList.length
    rw [Array.length_toList]
  rw [e, ShX.sh_list, List.length_cons, List.length_append]
  have h1 := its_len xs
  have h2 := all xs h
  simp only [List.length_cons, List.length_nil]
  omega
theorem call_repr_non {X : Cx} : CallR X (.builtin "repr") (fun xs H Q => xs = [.non] ∧ Q (.str "None") H) := by
  intro pins s σ H xs us Q I r h
  obtain ⟨rfl, q⟩ := h
  obtain ⟨u, rfl, ru⟩ := vals1 r
  cases ru
  exact PySem.P.repr_of_none ⟨.str "None", H, I.tok _, ⟨_, rfl⟩, q⟩
theorem rp_bl (b : Bool) : RpI (.bool b) 0 20 := ⟨by simp only [PyData.showable], by simp only [PyData.hasDict], by simp only [PyData.depth]; omega, by cases b <;> (simp only [PyData.shown]; decide)⟩
theorem RpI.up {d : PyData} {m B m' B' : Nat} (r : RpI d m B) (h1 : m ≤ m') (h2 : B ≤ B') : RpI d m' B' := ⟨r.sh, r.nd, Nat.le_trans r.dp h1, Nat.le_trans r.ln h2⟩
inductive Fl : V → Prop
  | non : Fl .non
  | bl (b : Bool) : Fl (.bl b)
  | int (n : Nat) : n < 2 ^ 20 → Fl (.int (n : Nat))
theorem Fl.d {v : V} (f : Fl v) : ∃ d, FD v d ∧ RpI d 0 20 := by
  cases f with
  | non => exact ⟨_, .non, rp_none⟩
  | bl b => exact ⟨_, .bl b, rp_bl b⟩
  | int n h => exact ⟨_, .int n, rp_int h⟩
def N1 (h l : Addr) (H : Hp) (x : V) : Prop := Fl x ∨ ∃ a xs, x = .ref a ∧ (H a = some (.tup xs) ∨ H a = some (.lst xs)) ∧ a ≠ h ∧ a ≠ l ∧ xs.length ≤ 3 ∧ ∀ y ∈ xs, Fl y
def N2 (h l : Addr) (H : Hp) (x : V) : Prop := x = .non ∨ ∃ a xs, x = .ref a ∧ (H a = some (.tup xs) ∨ H a = some (.lst xs)) ∧ a ≠ h ∧ a ≠ l ∧ xs.length ≤ 130 ∧ ∀ y ∈ xs, N1 h l H y
variable {H H' : Hp} {h l : Addr} {x : V}
theorem N1.bar (t : N1 h l H x) (b : Bar h l H H') : N1 h l H' x := by
  rcases t with f | ⟨a, xs, rfl, e, n1, n2, q⟩
  · exact .inl f
  · exact .inr ⟨a, xs, rfl, e.imp (b _ _ n1 n2) (b _ _ n1 n2), n1, n2, q⟩
theorem N2.bar (t : N2 h l H x) (b : Bar h l H H') : N2 h l H' x := by
  rcases t with f | ⟨a, xs, rfl, e, n1, n2, q, i⟩
  · exact .inl f
  · exact .inr ⟨a, xs, rfl, e.imp (b _ _ n1 n2) (b _ _ n1 n2), n1, n2, q, fun y hy => (i y hy).bar b⟩
theorem all2_of {α β : Type} {R : α → β → Prop} : ∀ {xs : List α}, (∀ x ∈ xs, ∃ y, R x y) → ∃ ys, All2 R xs ys
  | [], _ => ⟨[], .nil⟩
  | x :: xs, h => by
    obtain ⟨y, hy⟩ := h x (by simp)
    obtain ⟨ys, hys⟩ := all2_of (xs := xs) fun z hz => h z (by simp [hz])
    exact ⟨y :: ys, .cons hy hys⟩
theorem all2_right {α β : Type} {R : α → β → Prop} {S : β → Prop} (h : ∀ x y, R x y → S y) : ∀ {xs : List α} {ys : List β}, All2 R xs ys → ∀ y ∈ ys, S y
  | _, _, .nil, _, hy => by cases hy
  | _, _, .cons a t, y, hy => by
    rcases List.mem_cons.mp hy with rfl | hy
    · exact h _ _ a
    · exact all2_right h t y hy
theorem N1.d (t : N1 h l H x) : ∃ d, VD1 H x d ∧ RpI d 1 100 := by
  rcases t with f | ⟨a, xs, rfl, e, _, _, q, i⟩
  · obtain ⟨d, h1, h2⟩ := f.d
    exact ⟨d, .flat h1, h2.up (by decide) (by decide)⟩
  · obtain ⟨ds, A⟩ := all2_of fun y hy => (i y hy).d
    have A1 : All2 FD xs ds := A.mono fun _ _ h => h.1
    have r : ∀ y ∈ ds, RpI y 0 20 := all2_right (fun _ _ h => h.2) A
    have dl : ds.length ≤ 3 := by rw [← A.len]; exact q
    rcases e with e | e
    · exact ⟨_, .tup e (by omega) A1, (rp_tup r).up (by decide) (by omega)⟩
    · exact ⟨_, .lst e (by omega) A1, (rp_lst r).up (by decide) (by omega)⟩
theorem N2.d (t : N2 h l H x) : ∃ d, VD2 H x d ∧ RpI d 2 20000 := by
  rcases t with f | ⟨a, xs, rfl, e, _, _, q, i⟩
  · rw [f]
    exact ⟨.none, .flat .non, rp_none.up (by decide) (by decide)⟩
  · obtain ⟨ds, A⟩ := all2_of fun y hy => (i y hy).d
    have A1 : All2 (VD1 H) xs ds := A.mono fun _ _ h => h.1
    have r : ∀ y ∈ ds, RpI y 1 100 := all2_right (fun _ _ h => h.2) A
    have dl : ds.length ≤ 130 := by rw [← A.len]; exact q
    rcases e with e | e
    · exact ⟨_, .tup e (by omega) A1, (rp_tup r).up (by decide) (by omega)⟩
    · exact ⟨_, .lst e (by omega) A1, (rp_lst r).up (by decide) (by omega)⟩
end K14
namespace K14
open PySem PySem.Spec PyProof.Rows L2
def NT (h l : Addr) (H : Hp) (a : Addr) (L : Nat) : Prop := ∃ xs, H a = some (.tup xs) ∧ a ≠ h ∧ a ≠ l ∧ xs.length ≤ L ∧ ∀ y ∈ xs, N1 h l H y
theorem NT.bar {h l a : Addr} {H H' : Hp} {L : Nat} (t : NT h l H a L) (b : Bar h l H H') : NT h l H' a L := let ⟨xs, e, n1, n2, q, i⟩ := t; ⟨xs, b _ _ n1 n2 e, n1, n2, q, fun y hy => (i y hy).bar b⟩
theorem NT.n2 {h l a : Addr} {H : Hp} {L : Nat} (t : NT h l H a L) (hL : L ≤ 130 := by decide) : N2 h l H (.ref a) := let ⟨xs, e, n1, n2, q, i⟩ := t; .inr ⟨a, xs, rfl, .inl e, n1, n2, by omega, i⟩
theorem nt_sl {K : PySem.W.Frag} {h l a : Addr} {H : Hp} {L : Nat} {lo hi : Option Int} {Q : VK} (t : NT h l H a L) (s : Src H h l) (q : ∀ c H', Bar h l H H' → Src H' h l → NT h l H' c L → Q (.ref c) H') : rSlA K (.ref a) lo hi H Q := by
  obtain ⟨xs, e, n1, n2, hl, i⟩ := id t
  refine ⟨a, xs, rfl, SqT.of e, fun _ => q a H .refl s t, fun _ p np => ?_⟩
  have sm := same_upd (o := .tup (cutV xs lo hi)) np
  obtain ⟨m1, m2⟩ := s.new np
  refine q p _ (.same sm) (s.same sm) ⟨_, upd_same, m1, m2, Nat.le_trans (cutV_length xs lo hi) hl, fun y hy => ?_⟩
  unfold cutV at hy
  exact (i y (List.mem_of_mem_drop (List.mem_of_mem_take hy))).bar (.same sm)
theorem nt_slN {K : PySem.W.Frag} {σ : L2.St} {h l a : Addr} {H : Hp} {L : Nat} {lo : Option Int} {Q : VK} (t : NT h l H a L) (s : Src H h l) (q : ∀ c H', Bar h l H H' → Src H' h l → NT h l H' c L → Q (.ref c) H') : tNoPart σ H (fun u H3 => rSlA K (.ref a) lo u H3 Q) := nt_sl (K := K) (lo := lo) (hi := none) t s q
theorem nt_cat {K : PySem.W.Frag} {h l a b : Addr} {H : Hp} {L L' : Nat} {Q : VK} (t : NT h l H a L) (u : NT h l H b L') (s : Src H h l) (hz : L + L' ≤ 1000) (q : ∀ c H', Bar h l H H' → Src H' h l → NT h l H' c (L + L') → Q (.ref c) H') : rCatA K (.ref a) (.ref b) H Q := by
  obtain ⟨xs, e, n1, n2, hl, i⟩ := id t
  obtain ⟨ys, e2, m1, m2, hl2, i2⟩ := id u
  refine ⟨a, b, xs, ys, rfl, rfl, SqT.of e, SqT.of e2, Nat.le_trans (m := 1000) (by omega) (by show 1000 ≤ sizeLine; decide), fun _ => q b H .refl s ⟨ys, e2, m1, m2, by omega, i2⟩, fun _ _ => q a H .refl s ⟨xs, e, n1, n2, by omega, i⟩, fun _ _ p np => ?_⟩
  have sm := same_upd (o := .tup (xs ++ ys)) np
  obtain ⟨k1, k2⟩ := s.new np
  refine q p _ (.same sm) (s.same sm) ⟨_, upd_same, k1, k2, by rw [List.length_append]; omega, fun y hy => ?_⟩
  rcases List.mem_append.mp hy with hy | hy
  · exact (i y hy).bar (.same sm)
  · exact (i2 y hy).bar (.same sm)
theorem N1.put {h l D : Addr} {H : Hp} {v : V} {o : HO} {ys : List V} (t : N1 h l H v) (e : H D = some (.lst ys)) (k : 3 < ys.length) : N1 h l (upd H D o) v := by
  rcases t with f | ⟨a, xs, rfl, ea, n1, n2, q, i⟩
  · exact .inl f
  · have ne : a ≠ D := fun z => by
      rw [z, e] at ea
      rcases ea with ea | ea
      · cases ea
      · cases ea
        omega
    exact .inr ⟨a, xs, rfl, by rw [upd_ne ne]; exact ea, n1, n2, q, i⟩
theorem N2.put {h l D : Addr} {H : Hp} {v : V} {o : HO} {ys : List V} (t : N2 h l H v) (n : ∀ a, v = .ref a → a ≠ D) (e : H D = some (.lst ys)) (k : 3 < ys.length) : N2 h l (upd H D o) v := by
  rcases t with f | ⟨a, xs, rfl, ea, n1, n2, q, i⟩
  · exact .inl f
  · exact .inr ⟨a, xs, rfl, by rw [upd_ne (n a rfl)]; exact ea, n1, n2, q, fun y hy => (i y hy).put e k⟩
theorem NT.put {h l D a : Addr} {H : Hp} {o : HO} {ys : List V} {L : Nat} (t : NT h l H a L) (e : H D = some (.lst ys)) (k : 3 < ys.length) : NT h l (upd H D o) a L := by
  obtain ⟨xs, ea, n1, n2, q, i⟩ := t
  exact ⟨xs, by rw [upd_ne fun z => by rw [z, e] at ea; cases ea]; exact ea, n1, n2, q, fun y hy => (i y hy).put e k⟩
theorem N2.ne {h l D : Addr} {H : Hp} {v : V} (t : N2 h l H v) (n : H D = none) : ∀ a, v = .ref a → a ≠ D := fun a ev z => by
  rcases t with f | ⟨b, xs, rfl, ea, _⟩
  · rw [ev] at f
    cases f
  · cases ev
    rw [z, n] at ea
    rcases ea with ea | ea <;> cases ea
/-! rows of values that are written out one behind the other -/
def CE (h l : Addr) (C : L2.St → Hp → Prop) (P : Hp → V → Prop) (t : TE) : Prop := ∀ σ H (Q : VK), C σ H → (∀ v H', Bar h l H H' → C σ H' → P H' v → Q v H') → t σ H Q
def CA (h l : Addr) (C : L2.St → Hp → Prop) (P : Hp → V → Prop) (t : TA) (n : Nat) : Prop := ∀ σ H (Q : List V → Hp → Prop), C σ H → (∀ xs H', Bar h l H H' → C σ H' → xs.length = n → (∀ x ∈ xs, P H' x) → Q xs H') → t σ H Q
theorem ca_nil {h l : Addr} {C : L2.St → Hp → Prop} {P : Hp → V → Prop} : CA h l C P tNil 0 := fun _ H _ c q => q [] H .refl c rfl fun _ hx => by cases hx
theorem ca_cons {h l : Addr} {C : L2.St → Hp → Prop} {P : Hp → V → Prop} {t : TE} {ts : TA} {n : Nat} (mono : ∀ H H' v, P H v → Bar h l H H' → P H' v) (a : CE h l C P t) (r : CA h l C P ts n) : CA h l C P (tCons t ts) (n + 1) := fun σ H Q c q => a σ H _ c fun v H1 b1 c1 p1 => r σ H1 _ c1 fun xs H2 b2 c2 l2 p2 => q (v :: xs) H2 (b1.trans b2) c2 (by rw [List.length_cons, l2]) fun x hx => by
  rcases List.mem_cons.mp hx with rfl | hx
  · exact mono _ _ _ p1 b2
  · exact p2 x hx
theorem ca_lst {h l : Addr} {C : L2.St → Hp → Prop} {P : Hp → V → Prop} {ts : TA} {n : Nat} {σ : L2.St} {H : Hp} {Q : List V → Hp → Prop} (A : CA h l C P ts n) (c : C σ H) (hn : n ≤ 1000) (q : ∀ D xs H', Bar h l H H' → C σ H' → xs.length = n → (∀ x ∈ xs, P H' x) → H' D = none → Q [.ref D] (upd H' D (.lst xs))) : tCons (tLst ts) tNil σ H Q :=
  A σ H _ c fun xs H' b c' ln px => ⟨by rw [ln]; exact Nat.le_trans hn (by show 1000 ≤ sizeLine; decide), fun p np => q p xs H' b c' ln px np⟩
theorem for_lst {K : PySem.W.Frag} {h l : Addr} {C : L2.St → Hp → Prop} {P : Hp → V → Prop} {ts : TA} {n : Nat} {σ : L2.St} {H : Hp} {g : TG} {tb : TS} {D : Ends} (A : CA h l C P ts n) (c : C σ H) (hn : n ≤ 1000)
    (q : ∀ p xs H', Bar h l H H' → C σ H' → xs.length = n → (∀ x ∈ xs, P H' x) → H' p = none → tFor (iList K (tC (.ref p))) g tb D σ (upd H' p (.lst xs))) : tFor (iList K (tLst ts)) g tb D σ H :=
  A σ H _ c fun xs H' b c' ln px => ⟨by rw [ln]; exact Nat.le_trans hn (by show 1000 ≤ sizeLine; decide), fun p np => q p xs H' b c' ln px np⟩
abbrev PF : Hp → V → Prop := fun _ v => Fl v
theorem pf_mono {h l : Addr} : ∀ (H H' : Hp) (v : V), PF H v → Bar h l H H' → PF H' v := fun _ _ _ f _ => f
section
variable {h l : Addr} {C : L2.St → Hp → Prop} (cS : ∀ σ H, C σ H → Src H h l) (cUp : ∀ σ H p o, C σ H → H p = none → C σ (upd H p o))
include cS cUp in
theorem ce_tup {ts : TA} {n : Nat} (A : CA h l C PF ts n) (hn : n ≤ 3 := by decide) : CE h l C (N1 h l) (tTup ts) := fun σ H Q c q => A σ H _ c fun xs H1 b c1 ln px => ⟨by rw [ln]; exact Nat.le_trans hn (by show 3 ≤ sizeLine; decide), fun p np =>
  q (.ref p) _ (b.trans (.same (same_upd np))) (cUp _ _ _ _ c1 np) (.inr ⟨p, xs, rfl, .inl upd_same, ((cS _ _ c1).new np).1, ((cS _ _ c1).new np).2, by omega, px⟩)⟩
include cS cUp in
theorem ce_lst {ts : TA} {n : Nat} (A : CA h l C PF ts n) (hn : n ≤ 3 := by decide) : CE h l C (N1 h l) (tLst ts) := fun σ H Q c q => A σ H _ c fun xs H1 b c1 ln px => ⟨by rw [ln]; exact Nat.le_trans hn (by show 3 ≤ sizeLine; decide), fun p np =>
  q (.ref p) _ (b.trans (.same (same_upd np))) (cUp _ _ _ _ c1 np) (.inr ⟨p, xs, rfl, .inr upd_same, ((cS _ _ c1).new np).1, ((cS _ _ c1).new np).2, by omega, px⟩)⟩
theorem ce_var {i : Nat} {v : V} (e : ∀ {σ H}, C σ H → σ[i]? = some (some v)) (f : Fl v) : CE h l C PF (tVar i) := fun σ H Q c q => ⟨_, e c, q _ _ .refl c f⟩
theorem ce_c {v : V} (f : Fl v) : CE h l C PF (tC v) := fun σ H Q c q => q _ _ .refl c f
end
def spSpoilt : Sp := fun vs H Q _ => ∃ (h l r : Addr) (many : Nat) (ps : List (Nat × Nat)), vs = [.ref h, .ref r, .int (many : Nat)] ∧ Src H h l ∧ RP H r ps ∧ r ≠ h ∧ r ≠ l ∧ 1 ≤ ps.length ∧ ps.length ≤ 60 ∧ (∀ x ∈ ps, x.1 < 60 ∧ x.2 < 60) ∧ 0 < many ∧ many ≤ 60 ∧
  ∀ D vs' H', Src H' h l → Bar h l H H' → H' D = some (.lst vs') → D ≠ h → D ≠ l → vs'.length ≤ 16 → (∀ v ∈ vs', N2 h l H' v) → Q (.ref D) H'
theorem scSpo : FnScope ["heap", "ring", "many", "at", "found", "giver", "taker", "pair"] ["heap", "ring", "many"] (defScope sSpoilt) := ⟨rfl, rfl, rfl, by decide +kernel, rfl, by decide +kernel, by decide +kernel⟩
section
variable {P : Program} {w : World} {K : PySem.W.Frag} {mg : Str → Option Value} {base : Heap}
set_option maxHeartbeats 1000000 in
theorem ok_spoilt {f f1 : Addr} {fd d1 : FuncData} {k : Nat} (F : Fun K "_law_spoilt" "_law_spoilt" sSpoilt f fd) (Dr : Has P w K mg base k "_law_draw" ["heap", "many"] spDraw f1 d1) (ml : mg "len" = none) (mli : mg "list" = none) : FnOk P w K mg base CX0 (k + 1) f fd ["heap", "ring", "many"] spSpoilt := by
  refine F.ok scSpo (fun vs H Q E h => ?_) (fun cdv A outer s H vs Q E hr h => ?_)
  · obtain ⟨h, l, r, many, ps, rfl, _⟩ := h
    rfl
  · obtain ⟨h, l, r, many, ps, rfl, src, rp, rh, rl, p1, p60, lts, m1, m60, q⟩ := h
    refine ⟨_, pss_cons (ps_par (i := 3) (j := 4) rfl scSpo.nd rfl rfl (by decide) rfl rfl (pa_cons (pe_call Dr.ok hr rfl Dr.m Dr.k Dr.b .nil pass0 (pa_cons (pv 0) (pa_cons (pe_callB call_len_seq (by rfl) ml PySem.boot_len (pa_cons (pv 1) pa_nil)) pa_nil))) (pa_cons (pe_lst (pa_cons (pe_callTy call_list_of (by rfl) mli (by decide +kernel) (pa_cons (pv 1) pa_nil)) (pa_cons (pe_revT (pv 1)) (pa_cons (pe_op op_catA (pe_slice sl_tupA (pv 1) (po_some pe_int) po_none) (pe_slice sl_tupA (pv 1) po_none (po_some pe_int))) (pa_cons (pe_slice sl_tupA (pv 1) po_none (po_some (pe_un un_neg pe_int))) (pa_cons pe_non (pa_cons (pe_tup pa_nil) (pa_cons (pe_op op_catA (pv 1) (pe_slice sl_tupA (pv 1) po_none (po_some pe_int))) (pa_cons (pv 1) pa_nil))))))))) pa_nil)) (by rfl))
      (pss_cons (ps_asg (pe_ix ix_tup (pv 1) (pv 3) (fun _ _ => rfl)) (pg_tup (by rfl) (pgs_cons (pg_name (i := 5) scSpo.nd rfl (.inl rfl)) (pgs_cons (pg_name (i := 6) scSpo.nd rfl (.inl rfl)) pgs_nil))))
      (pss_cons (ps_for PassesOwn.never rfl (pi_list (pe_lst (pa_cons (pe_tup (pa_cons (pv 6) (pa_cons (pv 5) pa_nil))) (pa_cons (pe_tup (pa_cons (pv 5) pa_nil)) (pa_cons (pe_lst (pa_cons (pv 5) (pa_cons (pv 6) pa_nil))) (pa_cons (pe_tup (pa_cons (pv 5) (pa_cons pe_bl pa_nil))) (pa_cons (pe_tup (pa_cons (pv 5) (pa_cons (pv 2) pa_nil))) (pa_cons pe_non (pa_cons (pe_tup (pa_cons (pv 5) (pa_cons pe_non pa_nil))) (pa_cons (pe_tup (pa_cons (pv 5) (pa_cons (pe_call Dr.ok hr rfl Dr.m Dr.k Dr.b .nil pass0 (pa_cons (pv 0) (pa_cons (pv 2) pa_nil))) pa_nil))) pa_nil)))))))))) (pg_name (i := 7) scSpo.nd rfl (.inl rfl))
      (pss_one (ps_expr (pe_bm PySem.F.plainAttrs_list PySem.F.slot_list_append PySem.F.type_list_append mt_append (pv 4) (pa_cons (pe_op op_catA (pe_op op_catA (pe_slice sl_tupA (pv 1) po_none (po_some (pv 3))) (pe_tup (pa_cons (pv 7) pa_nil))) (pe_slice sl_tupA (pv 1) (po_some (pe_op op_add (pv 3) pe_int)) po_none)) pa_nil)))))
      (pss_one (ps_ret (pv 4))))), ?_⟩
    obtain ⟨us, er, ul, ra⟩ := id rp
    refine ⟨_, rfl, _, rfl, r, _, rfl, .inr (SqT.of er), h, l, _, rfl, src, by rw [List.length_map, ul]; omega, by rw [List.length_map, ul]; omega, fun at' H1 at0 atl src1 br1 => ?_⟩
    rw [List.length_map, ul] at atl
    obtain ⟨at_, rfl⟩ := Int.eq_ofNat_of_zero_le at0
    have atl : at_ < ps.length := by omega
    have er1 := tup_bar src br1 er
    have une : ∀ u ∈ us, u ≠ h ∧ u ≠ l := fun u hu => by
      obtain ⟨j, hj, ej⟩ := List.mem_iff_getElem.mp hu
      exact src.ne (ra j u ps[j] (by rw [List.getElem?_eq_getElem hj, ej]) (List.getElem?_eq_getElem (by omega))) fun _ z => by cases z
    have nt1 : NT h l H1 r 60 := ⟨_, er1, rh, rl, by rw [List.length_map]; omega, fun y hy => by
      obtain ⟨u, hu, rfl⟩ := List.mem_map.mp hy
      obtain ⟨j, hj, ej⟩ := List.mem_iff_getElem.mp hu
      have hx := lts ps[j] (List.getElem_mem (by omega))
      refine .inr ⟨u, _, rfl, .inl (br1 _ _ (une u hu).1 (une u hu).2 (ra j u ps[j] (by rw [List.getElem?_eq_getElem hj, ej]) (List.getElem?_eq_getElem (by omega)))), (une u hu).1, (une u hu).2, by simp [VI], fun z hz => ?_⟩
      unfold VI at hz
      simp only [List.map_cons, List.map_nil, List.mem_cons, List.not_mem_nil, or_false] at hz
      rcases hz with rfl | rfl
      · exact .int _ (Nat.lt_of_lt_of_le hx.1 (by decide))
      · exact .int _ (Nat.lt_of_lt_of_le hx.2 (by decide))⟩
    obtain ⟨σ0, e0⟩ : ∃ σ0 : L2.St, σ0 = start ["heap", "ring", "many", "at", "found", "giver", "taker", "pair"] [.ref h, .ref r, .int (many : Nat)] := ⟨_, rfl⟩
    have cr : ∀ {σ : L2.St}, σ = σ0 → σ[1]? = some (some (.ref r)) := fun e => by rw [e, e0]; rfl
    obtain ⟨C, hC⟩ : ∃ C : L2.St → Hp → Prop, C = fun σ H => σ = σ0 ∧ Src H h l ∧ NT h l H r 60 := ⟨_, rfl⟩
    have cI : ∀ {σ H}, σ = σ0 → Src H h l → NT h l H r 60 → C σ H := fun a b c => by rw [hC]; exact ⟨a, b, c⟩
    have cO : ∀ {σ H}, C σ H → σ = σ0 ∧ Src H h l ∧ NT h l H r 60 := fun c => by rw [hC] at c; exact c
    have m2 : ∀ H H' v, N2 h l H v → Bar h l H H' → N2 h l H' v := fun _ _ _ t b => t.bar b
    rw [← e0]
    refine ca_lst (h := h) (l := l) (C := C) (P := N2 h l) (ca_cons m2 ?e1 (ca_cons m2 ?e2 (ca_cons m2 ?e3 (ca_cons m2 ?e4 (ca_cons m2 ?e5 (ca_cons m2 ?e6 (ca_cons m2 ?e7 (ca_cons m2 ?e8 ca_nil)))))))) (cI rfl src1 nt1) (by decide) ?rest
    case e1 =>
      intro σ H Q c q
      obtain ⟨e, s, t⟩ := cO c
      obtain ⟨xs, ex, n1, n2, hl, i⟩ := id t
      refine ⟨_, cr e, r, xs, rfl, .inr (SqT.of ex), fun D nD => ?_⟩
      have sm := same_upd (o := .lst xs) nD
      obtain ⟨k1, k2⟩ := s.new nD
      exact q _ _ (.same sm) (cI e (s.same sm) (t.bar (.same sm))) (.inr ⟨D, xs, rfl, .inr upd_same, k1, k2, by omega, fun y hy => (i y hy).bar (.same sm)⟩)
    case e2 =>
      intro σ H Q c q
      obtain ⟨e, s, t⟩ := cO c
      obtain ⟨xs, ex, n1, n2, hl, i⟩ := id t
      refine ⟨_, cr e, r, xs, rfl, SqT.of ex, fun D nD => ?_⟩
      have sm := same_upd (o := .tup xs.reverse) nD
      obtain ⟨k1, k2⟩ := s.new nD
      exact q _ _ (.same sm) (cI e (s.same sm) (t.bar (.same sm))) (.inr ⟨D, _, rfl, .inl upd_same, k1, k2, by rw [List.length_reverse]; omega, fun y hy => (i y (List.mem_reverse.mp hy)).bar (.same sm)⟩)
    case e3 =>
      intro σ H Q c q
      obtain ⟨e, s, t⟩ := cO c
      refine ⟨_, cr e, _, rfl, nt_slN t s fun c1 Ha b1 s1 t1 => ?_⟩
      refine ⟨_, cr e, _, rfl, nt_sl (t.bar b1) s1 fun c2 Hb b2 s2 t2 => ?_⟩
      refine nt_cat (t1.bar b2) t2 s2 (by decide) fun c3 Hc b3 s3 t3 => ?_
      exact q _ _ (b1.trans (b2.trans b3)) (cI e s3 (t.bar (b1.trans (b2.trans b3)))) t3.n2
    case e4 =>
      intro σ H Q c q
      obtain ⟨e, s, t⟩ := cO c
      refine ⟨_, cr e, _, rfl, _, rfl, nt_sl t s fun c1 Ha b1 s1 t1 => ?_⟩
      exact q _ _ b1 (cI e s1 (t.bar b1)) t1.n2
    case e5 =>
      intro σ H Q c q
      exact q _ _ .refl c (.inl rfl)
    case e6 =>
      intro σ H Q c q
      obtain ⟨e, s, t⟩ := cO c
      refine ⟨(by show 0 ≤ sizeLine; decide), fun D nD => ?_⟩
      have sm := same_upd (o := .tup []) nD
      obtain ⟨k1, k2⟩ := s.new nD
      exact q _ _ (.same sm) (cI e (s.same sm) (t.bar (.same sm))) (.inr ⟨D, _, rfl, .inl upd_same, k1, k2, by simp, fun y hy => by cases hy⟩)
    case e7 =>
      intro σ H Q c q
      obtain ⟨e, s, t⟩ := cO c
      refine ⟨_, cr e, _, cr e, _, rfl, nt_sl t s fun c2 Hb b2 s2 t2 => ?_⟩
      refine nt_cat (t.bar b2) t2 s2 (by decide) fun c3 Hc b3 s3 t3 => ?_
      exact q _ _ (b2.trans b3) (cI e s3 (t.bar (b2.trans b3))) t3.n2
    case e8 =>
      intro σ H Q c q
      obtain ⟨e, s, t⟩ := cO c
      exact ⟨_, cr e, q _ _ .refl c t.n2⟩
    case rest =>
      intro D xs H2 b2 c2 x8 px nD
      obtain ⟨_, src2, nt2⟩ := cO c2
      have sD := same_upd (o := .lst xs) nD
      obtain ⟨Dh, Dl⟩ := src2.new nD
      have b13 := br1.trans (b2.trans (.same sD))
      have src3 := src2.same sD
      have nt3 := nt2.bar (.same sD)
      have eD3 : (upd H2 D (.lst xs)) D = some (.lst xs) := upd_same
      have px3 : ∀ x ∈ xs, N2 h l (upd H2 D (.lst xs)) x ∧ ∀ a, x = .ref a → a ≠ D := fun x hx => ⟨(px x hx).bar (.same sD), (px x hx).ne nD⟩
      have nD0 : H D = none := by
        cases e : H D with
        | none => rfl
        | some o =>
          have := (br1.trans b2) _ _ Dh Dl e
          rw [nD] at this
          cases this
      have er3 := tup_bar src b13 er
      generalize upd H2 D (.lst xs) = H3 at b13 src3 nt3 eD3 px3 er3
      refine ⟨_, _, rfl, ?_⟩
      rw [e0]
      dsimp only [List.set, L2.start]
      have hu : at_ < us.length := by omega
      have eu := tup_bar src b13 (ra at_ us[at_] ps[at_] (List.getElem?_eq_getElem hu) (List.getElem?_eq_getElem atl))
      have xl := lts ps[at_] (List.getElem_mem atl)
      generalize ps[at_] = x at eu xl
      refine ⟨_, rfl, _, rfl, r, _, _, .ref us[at_], rfl, rfl, SqT.of er3, atI_nat (by rw [List.getElem?_map, List.getElem?_eq_getElem hu]; rfl), us[at_], _, rfl, SqT.of eu, rfl, _, _, rfl, gn ⟨_, _, rfl, gn ⟨rfl, ?_⟩⟩⟩
      dsimp only [List.set]
      have f1 : Fl (.int (x.1 : Nat)) := .int _ (Nat.lt_of_lt_of_le xl.1 (by decide))
      have f2 : Fl (.int (x.2 : Nat)) := .int _ (Nat.lt_of_lt_of_le xl.2 (by decide))
      have fm : Fl (.int (many : Nat)) := .int _ (Nat.lt_of_le_of_lt m60 (by decide))
      refine seqcut (fun σ' H' => ∃ (y7 : Option V) (ys : List V), σ' = [some (.ref h), some (.ref r), some (.int (many : Nat)), some (.int (at_ : Nat)), some (.ref D), some (.int (x.1 : Nat)), some (.int (x.2 : Nat)), y7] ∧ Src H' h l ∧ Bar h l H H' ∧ H' D = some (.lst ys) ∧ ys.length ≤ 16 ∧ ∀ y ∈ ys, N2 h l H' y) ?_ (fun out => ?_)
      · rintro σ' H' ⟨y7, ys, rfl, sr, br, eD, yl, yn⟩
        exact ⟨_, rfl, q D ys H' sr br eD Dh Dl yl yn⟩
      obtain ⟨σ1, e1⟩ : ∃ σ1 : L2.St, σ1 = [some (.ref h), some (.ref r), some (.int (many : Nat)), some (.int (at_ : Nat)), some (.ref D), some (.int (x.1 : Nat)), some (.int (x.2 : Nat)), none] := ⟨_, rfl⟩
      obtain ⟨C1, hC1⟩ : ∃ C1 : L2.St → Hp → Prop, C1 = fun σ H => σ = σ1 ∧ Src H h l := ⟨_, rfl⟩
      have cO1 : ∀ {σ H}, C1 σ H → σ = σ1 ∧ Src H h l := fun c => by rw [hC1] at c; exact c
      have cI1 : ∀ {σ H}, σ = σ1 → Src H h l → C1 σ H := fun a b => by rw [hC1]; exact ⟨a, b⟩
      have cS : ∀ σ H, C1 σ H → Src H h l := fun _ _ c => (cO1 c).2
      have cUp : ∀ σ H p o, C1 σ H → H p = none → C1 σ (upd H p o) := fun _ _ _ _ c n => cI1 (cO1 c).1 ((cO1 c).2.same (same_upd n))
      have v5 : CE h l C1 PF (tVar 5) := ce_var (fun c => by rw [(cO1 c).1, e1]; rfl) f1
      have v6 : CE h l C1 PF (tVar 6) := ce_var (fun c => by rw [(cO1 c).1, e1]; rfl) f2
      have v2 : CE h l C1 PF (tVar 2) := ce_var (fun c => by rw [(cO1 c).1, e1]; rfl) fm
      have m1' : ∀ H H' v, N1 h l H v → Bar h l H H' → N1 h l H' v := fun _ _ _ t b => t.bar b
      refine for_lst (h := h) (l := l) (C := C1) (P := N1 h l) (ca_cons m1' (ce_tup cS cUp (ca_cons pf_mono v6 (ca_cons pf_mono v5 ca_nil))) (ca_cons m1' (ce_tup cS cUp (ca_cons pf_mono v5 ca_nil)) (ca_cons m1' (ce_lst cS cUp (ca_cons pf_mono v5 (ca_cons pf_mono v6 ca_nil))) (ca_cons m1' (ce_tup cS cUp (ca_cons pf_mono v5 (ca_cons pf_mono (ce_c (.bl true)) ca_nil))) (ca_cons m1' (ce_tup cS cUp (ca_cons pf_mono v5 (ca_cons pf_mono v2 ca_nil))) (ca_cons m1' (fun σ H Q c q => q _ _ .refl c (.inl .non)) (ca_cons m1' (ce_tup cS cUp (ca_cons pf_mono v5 (ca_cons pf_mono (ce_c .non) ca_nil))) (ca_cons m1' (ce_tup cS cUp (ca_cons pf_mono v5 (ca_cons pf_mono ?dr ca_nil))) ca_nil)))))))) (cI1 (by rw [e1]; rfl) src3) (by decide) ?rest2
      case dr =>
        intro σ Ha Q c q
        obtain ⟨e, s⟩ := cO1 c
        refine ⟨_, by rw [e, e1]; rfl, _, by rw [e, e1]; rfl, h, l, _, rfl, s, by omega, by omega, fun kk Hb k0 k1 sb bb => ?_⟩
        obtain ⟨kn, rfl⟩ := Int.eq_ofNat_of_zero_le k0
        exact q _ _ bb (cI1 e sb) (.int _ (Nat.lt_of_lt_of_le (show kn < 60 by omega) (by decide)))
      case rest2 =>
        intro p zs H4 b4 c4 z8 pz np
        have src4 := (cO1 c4).2
        have sp := same_upd (o := .lst zs) np
        obtain ⟨ph, pl⟩ := src4.new np
        have b35 := b4.trans (.same sp)
        have src5 := src4.same sp
        have eD5 := b35 _ _ Dh Dl eD3
        have nt5 := nt3.bar b35
        have ep : (upd H4 p (.lst zs)) p = some (.lst zs) := upd_same
        have pz5 : ∀ z ∈ zs, N1 h l (upd H4 p (.lst zs)) z := fun z hz => (pz z hz).bar (.same sp)
        have px5 : ∀ z ∈ xs, N2 h l (upd H4 p (.lst zs)) z ∧ ∀ a, z = .ref a → a ≠ D := fun z hz => ⟨(px3 z hz).1.bar b35, (px3 z hz).2⟩
        have b15 := b13.trans b35
        have pD : p ≠ D := fun z => by
          rw [z] at np
          have := b4 _ _ Dh Dl eD3
          rw [np] at this
          cases this
        generalize upd H4 p (.lst zs) = H5 at src5 eD5 nt5 ep pz5 px5 b15
        refine ⟨p, rfl, ⟨_, SqL.of ep⟩, ?_⟩
        refine for_it (walk_list (K := K) (a := p) (xs := zs)) (fun i σ H' => ∃ (y7 : Option V) (ys : List V), σ = [some (.ref h), some (.ref r), some (.int (many : Nat)), some (.int (at_ : Nat)), some (.ref D), some (.int (x.1 : Nat)), some (.int (x.2 : Nat)), y7] ∧ Src H' h l ∧ Bar h l H H' ∧ H' D = some (.lst ys) ∧ ys.length = 8 + i ∧ (∀ y ∈ ys, N2 h l H' y ∧ ∀ a, y = .ref a → a ≠ D) ∧ NT h l H' r 60 ∧ H' p = some (.lst zs) ∧ ∀ z ∈ zs, N1 h l H' z)
          ⟨none, xs, rfl, src5, b15, eD5, by omega, px5, nt5, ep, pz5⟩ (fun i σ H' _ ⟨_, _, _, _, _, _, _, _, _, ep', _⟩ => SqL.of ep') ?_ ?_
        · rintro i z σ H6' H6 hi ⟨y7, ys, rfl, src6, b6, eD6, yl, yn, nt6, ep6, pz6⟩ ⟨rfl, ez⟩
          have zn := pz6 z (List.mem_of_getElem? ez)
          refine gn ?_
          dsimp only [List.set]
          refine ⟨_, rfl, .inl ⟨rfl, _, SqL.of eD6⟩, _, rfl, _, rfl, _, rfl, nt_sl nt6 src6 fun c1 Ha ba sa ta => ?_⟩
          refine ⟨_, rfl, (by show 1 ≤ sizeLine; decide), fun c2 nc2 => ?_⟩
          have s2' := same_upd (o := .tup [z]) nc2
          obtain ⟨k1, k2⟩ := sa.new nc2
          have tb : NT h l (upd Ha c2 (.tup [z])) c2 1 := ⟨_, upd_same, k1, k2, by simp, fun y hy => by
            rw [List.mem_singleton] at hy
            rw [hy]
            exact (zn.bar ba).bar (.same s2')⟩
          have bb := ba.trans (.same s2')
          refine nt_cat (ta.bar (.same s2')) tb (sa.same s2') (by decide) fun c3 Hc bc sc tc => ?_
          have bd := bb.trans bc
          refine ⟨_, rfl, _, rfl, _, _, rfl, rfl, _, rfl, nt_slN (nt6.bar bd) sc fun c4 Hd b4' sd td => ?_⟩
          refine nt_cat (tc.bar b4') td sd (by decide) fun c5 He be se te => ?_
          have b6e := bd.trans (b4'.trans be)
          have eDe := b6e _ _ Dh Dl eD6
          refine ⟨D, _, _, rfl, rfl, eDe, sz6 (by omega), ?_⟩
          have y3 : 3 < ys.length := by omega
          have epe := b6e _ _ ph pl ep6
          have c5D : c5 ≠ D := fun z => by
            obtain ⟨_, e5, _⟩ := te
            rw [z, eDe] at e5
            cases e5
          refine ⟨_, ys ++ [.ref c5], rfl, se.put Dh Dl, (b6.trans b6e).fresh nD0, upd_same, by rw [List.length_append]; simp; omega, fun y hy => ?_, (nt6.bar b6e).put eDe y3, by rw [upd_ne pD]; exact epe, fun z' hz' => ((pz6 z' hz').bar b6e).put eDe y3⟩
          rcases List.mem_append.mp hy with hy | hy
          · exact ⟨((yn y hy).1.bar b6e).put (yn y hy).2 eDe y3, (yn y hy).2⟩
          · rw [List.mem_singleton] at hy
            rw [hy]
            exact ⟨(te.n2 (by decide)).put (fun a ea => by cases ea; exact c5D) eDe y3, fun a ea => by cases ea; exact c5D⟩
        · rintro σ H6 ⟨y7, ys, rfl, src6, b6, eD6, yl, yn, _⟩
          exact out _ _ ⟨_, ys, rfl, src6, b6, eD6, by omega, fun y hy => (yn y hy).1⟩
end
end K14
set_option maxHeartbeats 2000000
/-! promises of defs while no repr is under way, with a table of errors that they may pass on, and tables of code objects (lambdas) -/
namespace K14
open PySem PySem.Spec PyProof.Rows L2
def RunX (P : Program) (w : World) (K : PySem.W.Frag) (mg : Str → Option Value) (base : Heap) (CX : CXT) (k : Nat) (f : Addr) (fd : FuncData) (ps : List Str) (sp : Sp) : Prop :=
  ∀ (A : Around) (outer : List Env) (s : Shared) (H : Hp) (args : Args) (us : List Value) (vs : List V) (Q : VK) (E : XK), A.guards = some [] → Room k A → Env0 P w K mg base A outer s H →
    BindsTo s fd args (ps.zip us) → Vals vs us → sp vs H Q E → codeAny (model P w) A (.call (.ref f) args) (CR CX outer P w H s Q E) s
section
variable {P : Program} {w : World} {K : PySem.W.Frag} {mg : Str → Option Value} {base : Heap} {CX : CXT}
theorem RunX.of {k : Nat} {f : Addr} {fd : FuncData} {ps : List Str} {sp : Sp} (F : FnOk P w K mg base CX k f fd ps sp) : RunX P w K mg base CX k f fd ps sp := fun A outer s H args us vs Q E _ => F.run A outer s H args us vs Q E
theorem okX {x qual : Str} {st : Stmt} {f : Addr} {fd : FuncData} {N ps : List Str} {k : Nat} {sp : Sp} (F : Fun K x qual st f fd) (S : FnScope N ps (defScope st)) (len : ∀ vs H Q E, sp vs H Q E → vs.length = ps.length)
    (body : ∀ (cdv : Value) (A : Around) (outer : List Env) (s : Shared) (H : Hp) (vs : List V) (Q : VK) (E : XK), A.guards = some [] → Room k (A.deeper (envOfC qual (defScope st) s.heap.objs.size f cdv)) → sp vs H Q E →
      ∃ t, PSs (cxOf CX P w K mg base N qual (defScope st) f cdv A outer s H E) (defBody st) t ∧ t { nx := fun _ H' => Q .non H', rt := Q } (start N vs) H) : RunX P w K mg base CX (k + 1) f fd ps sp := by
  obtain ⟨oc, od, kV, doc, pm, an, cdv, ct, osl, rfl, lk, hcd⟩ := F.ex
  intro A outer s H args us vs Q E hA room e0 bind rel promise
  have KX := e0.mod.kin.keeps (h' := s.heap) fun b o e => (e0.bs b o e).1
  have lim := e0.mod.nolimit.keeps (h' := s.heap) fun b o e => (e0.bs b o e).1
  have kinds : ∀ y ∈ ps.zip us, (defScope st).names.lookup y.1 = some .local ∨ ((defScope st).names.lookup y.1 = some .cell ∧ ((cellsFrom (s.heap.objs.size + 1) (defScope st).names []).lookup y.1).isSome = true) := by
    intro y hy
    cases S.par y.1 (List.of_mem_zip (show (y.1, y.2) ∈ ps.zip us from hy)).1 with
    | inl q => exact .inl q
    | inr q => exact .inr ⟨q, PySem.W.cellsFrom_some _ _ _ (.inl q)⟩
  apply codeAny_call_function room.depth (KX _ _ lk) rfl S.co S.gen rfl (PySem.W.codeRec_of KX hcd) (bind _ _ _ _ _)
  apply wpAny_newFunctionEnv_cells S.kind kinds
  intro env he s1 x
  subst he
  obtain ⟨t, ht, hq⟩ := body cdv A outer s H vs Q E hA (room.deeper _) promise
  have I := inv_start (CX := CX) (E := E) S room.hd e0 (len _ _ _ _ promise) rel x
  refine ⟨lim.keeps x.toInCall.keep, codeAny_func (wpAny_mono (ht.run [] s1 (start N vs) H _ I hq) ?_ (fun _ _ z => z))⟩
  intro fl s' z
  cases fl with
  | ret u => exact let ⟨v, _, H', J, rv, q⟩ := z; ⟨v, H', J.os, J.bare, J.base, J.hok, rv, q⟩
  | next => exact let ⟨_, H', J, q⟩ := z; ⟨V.non, H', J.os, J.bare, J.base, J.hok, rfl, q⟩
  | brk => exact let ⟨_, _, _, q⟩ := z; q.elim
  | cont => exact let ⟨_, _, _, q⟩ := z; q.elim
end
section
variable {X : Cx} {CX : CXT} {k : Nat} {f : Addr} {fd : FuncData} {ps : List Str} {sp : Sp} {x : Str} {p pos : Pos} {e : Expr} {es : List Expr} {t : TA}
theorem pe_callX (F : RunX X.prog X.w X.K X.mg X.base CX k f fd ps sp) (len : ∀ vs H Q E, sp vs H Q E → vs.length = ps.length) (hA : X.A.guards = some []) (hr : Room k X.A) (hg : Gl X x) (hm : X.mg x = some (.ref f)) (hk : PySem.W.keepIn X.K (.ref f) = true) (hb : Binds X.K fd ps []) {E : XK} (hx : Passes CX X E)
    (ha : PA X (e :: es) t) (hdb : (x == ("__debug__" : Str)) = false := by decide) (he : starEach (e :: es) X.env = (false, eval e X.env) :: starEach es X.env := by rfl) (hpl : (backTo pos (starEach es X.env)).any (·.1) = false := by rfl) :
    PE X (.Call (.Name x p) (e :: es) [] pos) (tCall sp [] E t) := by
  refine ⟨fun pins s σ H Q I h => wpAny_Call_Name_kw (ld_glob I hg hm ?_ hdb)⟩
  refine PySem.W.callWith_K (h₀ := X.base) I.ok.mod.kin hk (thn (ha.run pos pins s σ H _ I h) fun us s1 ⟨vs, H1, I1, r, q⟩ => ⟨I1.kIn, ?_⟩) he hpl
  have r2 : Vals (vs ++ []) (us ++ []) := r.append .nil
  have hl : (us ++ []).length = ps.length := by rw [← r2.length]; exact len _ _ _ _ q
  refine wpAny_call (codeAny_mono (F X.A X.stack s1 H1 ⟨us, []⟩ (us ++ []) (vs ++ []) _ E hA hr I1.env0 (hb s1 us I1.kIn hl) r2 q) fun r s' hq => ?_)
  cases r with
  | error e => exact hx pins σ H1 s1 e s' I1 hq
  | ok fl =>
    cases fl with
    | ret u => exact I1.after hq
    | next => exact False.elim hq
    | brk => exact False.elim hq
    | cont => exact False.elim hq
end
end K14
set_option maxHeartbeats 2000000
namespace K14
open PySem PySem.Spec PyProof.Rows L2
section
variable {P : Program} {w : World} {K : PySem.W.Frag} {mg mb : Str → Option Value} {s₁ : Shared} {a : Addr} {vs : List Value} {H : Hp} {cs : List (Addr × Addr)} {CX : CXT}
/-- the addresses of the tables -/
def tabOf (cs : List (Addr × Addr)) : List Addr := cs.map Prod.snd
/-- the call of the law: nothing is tracked but the script at a and the tables -/
theorem env_tabs (KX : K.In s₁.heap) (hns : s₁.heap.Ns mainGlobals mg) (hb : s₁.heap.Ns builtinsNs mb) (hbb : ∀ x : Str, x ≠ "__name__" → mb x = bootBuiltins x) (hlim : s₁.heap.NoLimit) (hg : s₁.gens = #[])
    (hT : ∀ p ∈ cs, s₁.heap.get? p.2 = some { cls := .none, data := .fields #[] }) (nT : ∀ p ∈ cs, K.lookup p.2 = none) (C : ∀ p ∈ cs, PySem.W.CodeHd s₁.heap p.1 p.2)
    (hbm : ∃ (bm : Addr) (ob : Obj), mg "__builtins__" = some (.ref bm) ∧ bm ≠ builtinsNs ∧ s₁.heap.get? bm = some ob ∧ ob.cls = .type "module" ∧ ob.dict = some builtinsNs ∧ ob.data = .plain)
    (ha : s₁.heap.get? a = some { cls := .type "list", data := .seq vs.toArray }) (hok : HOk P w H s₁.heap) (only : ∀ b u, H b = some u → b = a ∨ b ∈ tabOf cs) (apart : ∀ u, H a = some u → K.lookup a = none) :
    K.In (hidT s₁.heap H) ∧ (hidT s₁.heap H).Ns mainGlobals mg ∧ (∀ p ∈ cs, LamX.TabB (hidT s₁.heap H) mg p.1 p.2) ∧ Env0 P w K mg (hidT s₁.heap H) callerA [] s₁ H := by
  have tab : ∀ b, b ∈ tabOf cs → s₁.heap.get? b = some { cls := .none, data := .fields #[] } := by
    intro b hb
    obtain ⟨p, hp, rfl⟩ := List.mem_map.mp hb
    exact hT p hp
  have low : ∀ {b : Addr} {o : Obj}, s₁.heap.get? b = some o → b ≠ a → b ∉ tabOf cs → (hidT s₁.heap H).get? b = some o := by
    intro b o e n1 n2
    refine hidT_get e ?_
    cases q : H b with
    | none => rfl
    | some u => exact ((only b u q).elim n1 n2).elim
  have other : ∀ {b : Addr} {o : Obj}, s₁.heap.get? b = some o → (∀ xs n, o.data ≠ .seq xs n) → o.data ≠ .fields #[] → (hidT s₁.heap H).get? b = some o := by
    intro b o e h1 h2
    refine low e (fun z => ?_) (fun z => ?_)
    · rw [z, ha] at e
      cases e
      exact h1 _ _ rfl
    · rw [tab b z] at e
      cases e
      exact h2 rfl
  have ns : ∀ {b : Addr} {m : Str → Option Value}, s₁.heap.Ns b m → (hidT s₁.heap H).Ns b m := by
    rintro b m ⟨o, es, ep, e, d, r⟩
    exact ⟨o, es, ep, other e (fun xs n z => by rw [d] at z; cases z) (fun z => by rw [d] at z; cases z), d, r⟩
  have kin : K.In (hidT s₁.heap H) := by
    intro b o e
    refine hidT_get (KX _ _ e) ?_
    cases q : H b with
    | none => rfl
    | some u =>
      rcases only b u q with z | z
      · subst z
        rw [apart u q] at e
        cases e
      · obtain ⟨p, hp, rfl⟩ := List.mem_map.mp z
        rw [nT p hp] at e
        cases e
  obtain ⟨mc, l1, l2⟩ := hlim
  refine ⟨kin, ns hns, fun p hp => ⟨?_, ?_, fun z => ?_⟩, ⟨rfl, ⟨kin, ns hns, ⟨mb, ns hb, hbb⟩, ⟨mc, ns l1, l2⟩⟩, fun b o e => of_hidT e, Nat.le_of_eq (hidT_size _ _), trivial, (fun b z => nomatch z), hok, .of_eq hg⟩⟩
  · obtain ⟨o, us, file, tf, flags, tg, inF, text, tt, e1, r1, r2, r3, rest⟩ := C p hp
    refine ⟨o, us, file, tf, flags, tg, inF, text, tt, other e1 (fun xs n z => by rw [r2] at z; cases z) (fun z => ?_), r1, r2, r3, rest⟩
    rw [r2] at z
    cases z
    simp at r3
  · obtain ⟨bm, ob, b1, b2, b3, b4, b5, b6⟩ := hbm
    refine ⟨bm, ob, b1, b2, fun z => ?_, fun z => ?_, other b3 (fun xs n z => by rw [b6] at z; cases z) (fun z => by rw [b6] at z; cases z), b4, b5, b6⟩
    · obtain ⟨o, es, ep, e, d, _⟩ := hns
      rw [z, e] at b3
      cases b3
      rw [d] at b6
      cases b6
    · rw [z, hT p hp] at b3
      cases b3
      cases b6
  · obtain ⟨o, es, ep, e, d, _⟩ := hns
    rw [z, hT p hp] at e
    cases e
    cases d
theorem run_tabs {k : Nat} {fa : Addr} {fd : FuncData} {x : Str} {sp : Sp} (env : Env0 P w K mg (hidT s₁.heap H) callerA [] s₁ H) (F : RunX P w K mg (hidT s₁.heap H) CX k fa fd [x] sp) (hr : Room k callerA)
    (hbind : ∀ (s : Shared) (u : Value), BindsTo s fd ⟨[u], []⟩ [(x, u)]) (hT : ∀ p ∈ cs, s₁.heap.get? p.2 = some { cls := .none, data := .fields #[] }) (C : ∀ p ∈ cs, PySem.W.CodeHd s₁.heap p.1 p.2) (hH : ∀ p ∈ cs, H p.2 = some (.tbl #[]))
    (hO : ∀ b, H b = none ∨ b ∈ tabOf cs ∨ ∃ o xs, H b = some (.frz o (.lst xs))) (hok : HOk P w H s₁.heap) (hCX : ∀ e s', CX [] H s₁ (fun _ _ _ => False) e s' → False) (hsp : sp [.ref a] H (fun v _ => v = .bl true) fun _ _ _ => False) :
    codeAny (model P w) callerA (.call (.ref fa) ⟨[.ref a], []⟩) (fun r s' => r = .ok (.ret (.bool true)) ∧ OldK s₁.heap s'.heap ∧ s'.os = s₁.os ∧ AllBare s'.gens) s₁ := by
  have run := F callerA [] s₁ H ⟨[.ref a], []⟩ [.ref a] [.ref a] _ _ rfl hr env (hbind s₁ (.ref a)) (.cons rfl .nil) hsp
  refine codeAny_mono run ?_
  intro r s' h
  match r, h with
  | .error e, h => exact (hCX e s' h).elim
  | .ok (.ret u), h =>
    obtain ⟨v, H', os, bare, un, hok', r', q⟩ := h
    have q2 : v = V.bl true := q
    subst q2
    obtain rfl : u = Value.bool true := r'
    have kept : ∀ b o, b ∉ tabOf cs → s₁.heap.get? b = some o → s'.heap.get? b = some o := by
      intro b o nb e
      cases q : H b with
      | none => exact un.keep b o e q (fun z => nomatch z) (fun z => nomatch z)
      | some u =>
        rcases hO b with z | z | ⟨ob, xs, z⟩
        · rw [q] at z
          cases z
        · exact (nb z).elim
        · have e1 := (hok b _ z).1
          have e2 := (hok' b _ (un.frzs b ob _ z)).1
          rw [e] at e1
          cases e1
          exact e2
    have grown : ∀ p ∈ cs, ∃ more : Array Value, s'.heap.get? p.2 = some { cls := .none, data := .fields more } := by
      intro p hp
      obtain ⟨more, z⟩ := un.tbls p.2 #[] (hH p hp)
      exact ⟨_, hok' p.2 _ z⟩
    refine ⟨rfl, ⟨fun b o e => ?_, fun b o e => ?_⟩, os, bare⟩
    · by_cases z : b ∈ tabOf cs
      · obtain ⟨p, hp, rfl⟩ := List.mem_map.mp z
        obtain ⟨more, hm⟩ := grown p hp
        have e2 := hT p hp
        rw [e2] at e
        cases e
        exact .inr (.inl ⟨((C p hp).tab e2).isCodeTable, rfl, #[], more, rfl, by rw [Array.empty_append]; exact hm⟩)
      · exact .inl (kept b o z e)
    · by_cases z : b ∈ tabOf cs
      · obtain ⟨p, hp, rfl⟩ := List.mem_map.mp z
        obtain ⟨more, hm⟩ := grown p hp
        exact ⟨_, hm⟩
      · exact ⟨o, kept b o z e⟩
  | .ok .next, h => exact False.elim h
  | .ok .brk, h => exact False.elim h
  | .ok .cont, h => exact False.elim h
end
/-- what is known of the law's promise at the head's heap -/
def LawX (l : PySem.W.OpenLaw) (w : World) (K : PySem.W.Frag) (CX : CXT) (k n : Nat) (x : Str) (mg : Str → Option Value) (fa : Addr) (h : Heap) : Prop :=
  ∃ (fd : FuncData) (cs : List (Addr × Addr)) (sp : Sp), (∀ p ∈ cs, h.get? p.2 = some { cls := .none, data := .fields #[] }) ∧ (∀ p ∈ cs, K.lookup p.2 = none) ∧ (∀ p ∈ cs, PySem.W.CodeHd h p.1 p.2) ∧ (∀ (s : Shared) (u : Value), BindsTo s fd ⟨[u], []⟩ [(x, u)]) ∧
    (∀ (H : Hp) (a : Addr) (ns : List Int), ns.length ≤ n → (∀ p ∈ cs, H p.2 = some (.tbl #[])) → SqL K H a (ns.map V.int) → sp [.ref a] H (fun v _ => v = .bl true) fun _ _ _ => False) ∧
    ∀ base : Heap, K.In base → base.Ns mainGlobals mg → (∀ p ∈ cs, LamX.TabB base mg p.1 p.2) → RunX l.prog w K mg base CX k fa fd [x] sp
theorem walkX {l : PySem.W.OpenLaw} {n k : Nat} {q : Program} {loose : List Str} {XP : (Str → Option Value) → Heap → Prop} {YP : World → Heap → Prop} {d : DefRec} {K : Params → PySem.W.Frag} {CX : World → CXT} {x : Str}
    (hn : l.most = some n) (hn2 : n ≤ sizeLine) (hdf : d.params.defaults = []) (hr : Room k callerA) (hY : ∀ (w : World) (h : Heap), YP w h → (K w.params).In h)
    (F : ∀ (w : World) (mg : Str → Option Value) (fa : Addr) (h : Heap), YP w h → (K w.params).In h → h.Ns mainGlobals mg → mg d.name = some (.ref fa) → LawX l w (K w.params) (CX w) k n x mg fa h)
    (hCX : ∀ (w : World) (H : Hp) (s : Shared) (e : Value) (s' : Shared), CX w [] H s (fun _ _ _ => False) e s' → False) :
    PySem.W.WalkO q loose XP YP l.row.toRowW d [] (fun f vs => PySem.call f vs) := by
  apply Att.attach_call hn hdf
  intro w s₀ s₁ mg mb fa o pm cd doc a vs ns G Y ho hd hcd hmg hobj hints hlen hg
  have KX := hY w _ Y
  obtain ⟨fd, cs, sp, hT, nT, C, hb, hsp, hF⟩ := F w mg fa _ Y KX G.T.g hmg
  have rel := vals_ints hints
  have hz : (ns.map V.int).length ≤ sizeLine := by rw [List.length_map]; exact Nat.le_trans hlen hn2
  have aT : a ∉ tabOf cs := by
    intro z
    obtain ⟨p, hp, e⟩ := List.mem_map.mp z
    have := hT p hp
    rw [e, hobj] at this
    cases this
  have memT : ∀ p ∈ cs, p.2 ∈ tabOf cs := fun p hp => List.mem_map.mpr ⟨p, hp, rfl⟩
  have tab : ∀ b, b ∈ tabOf cs → s₁.heap.get? b = some { cls := .none, data := .fields #[] } := by
    intro b hb
    obtain ⟨p, hp, rfl⟩ := List.mem_map.mp hb
    exact hT p hp
  obtain ⟨H0, eH0⟩ : ∃ H0 : Hp, H0 = fun b => if b ∈ tabOf cs then some (.tbl #[]) else none := ⟨_, rfl⟩
  have in0 : ∀ b, b ∈ tabOf cs → H0 b = some (.tbl #[]) := fun b z => by rw [eH0]; exact if_pos z
  have out0 : ∀ b, b ∉ tabOf cs → H0 b = none := fun b z => by rw [eH0]; exact if_neg z
  have ok0 : HOk l.prog w H0 s₁.heap := by
    intro b u z
    by_cases m : b ∈ tabOf cs
    · rw [in0 b m] at z
      cases z
      exact tab b m
    · rw [out0 b m] at z
      cases z
  have only0 : ∀ b u, H0 b = some u → b ∈ tabOf cs := by
    intro b u z
    refine Classical.byContradiction fun m => ?_
    rw [out0 b m] at z
    cases z
  cases hk : (K w.params).lookup a with
  | some o' =>
    have e := KX a o' hk
    rw [hobj] at e
    cases e
    obtain ⟨k1, k2, k3, k4⟩ := env_tabs (P := l.prog) (w := w) (H := H0) KX G.T.g G.T.b G.T.builtins G.T.nolimit hg hT nT C G.T.bmain hobj ok0 (fun b u z => .inr (only0 b u z)) (fun u z => absurd (only0 a u z) aT)
    refine run_tabs k4 (hF _ k1 k2 k3) hr hb hT C (fun p hp => in0 _ (memT p hp)) (fun b => ?_) ok0 (fun e s' => hCX w H0 s₁ e s') (hsp _ a ns hlen (fun p hp => in0 _ (memT p hp)) ?_)
    · by_cases m : b ∈ tabOf cs
      · exact .inr (.inl m)
      · exact .inl (out0 b m)
    · exact .inr ⟨_, vs.toArray, _, hk, rfl, rfl, rfl, by rw [List.size_toArray, ← rel.length]; exact hz, by simpa using rel⟩
  | none =>
    obtain ⟨H, eH⟩ : ∃ H, H = upd H0 a (.frz { cls := .type "list", data := .seq vs.toArray } (.lst (ns.map V.int))) := ⟨_, rfl⟩
    have at_ : H a = some (.frz { cls := .type "list", data := .seq vs.toArray } (.lst (ns.map V.int))) := by rw [eH]; exact upd_same
    have off : ∀ b, b ≠ a → H b = H0 b := fun b n => by rw [eH]; exact upd_ne n
    have neA : ∀ p ∈ cs, p.2 ≠ a := fun p hp z => aT (z ▸ memT p hp)
    have tH : ∀ p ∈ cs, H p.2 = some (.tbl #[]) := fun p hp => (off _ (neA p hp)).trans (in0 _ (memT p hp))
    have ok1 : HOk l.prog w H s₁.heap := by
      intro b u z
      by_cases m : b = a
      · rw [m, at_] at z
        cases z
        rw [m]
        exact ⟨hobj, hz, vs, _, rel, hobj⟩
      · rw [off b m] at z
        by_cases t : b ∈ tabOf cs
        · rw [in0 b t] at z
          cases z
          exact tab b t
        · rw [out0 b t] at z
          cases z
    obtain ⟨k1, k2, k3, k4⟩ := env_tabs (P := l.prog) (w := w) (H := H) KX G.T.g G.T.b G.T.builtins G.T.nolimit hg hT nT C G.T.bmain hobj ok1 (fun b u z => by
      by_cases m : b = a
      · exact .inl m
      · rw [off b m] at z
        exact .inr (only0 b u z)) (fun u z => hk)
    refine run_tabs k4 (hF _ k1 k2 k3) hr hb hT C tH (fun b => ?_) ok1 (fun e s' => hCX w H s₁ e s') (hsp _ a ns hlen tH (.inl (.inr ⟨_, at_⟩)))
    by_cases m : b = a
    · exact .inr (.inr ⟨_, _, by rw [m]; exact at_⟩)
    · by_cases t : b ∈ tabOf cs
      · exact .inr (.inl t)
      · exact .inl ((off b m).trans (out0 b t))
end K14
namespace K14
open PySem PySem.Spec PyProof.Rows L2
section
variable {P : Program} {w : World} {K : PySem.W.Frag} {mg : Str → Option Value} {base : Heap}
/-- a def whose code object is known -/
theorem okC {x qual : Str} {st : Stmt} {f c : Addr} {fd : FuncData} {N ps : List Str} {k : Nat} {sp : Sp} (F : Fun K x qual st f fd) (hc : fd.code = .ref c) (S : FnScope N ps (defScope st)) (len : ∀ vs H Q E, sp vs H Q E → vs.length = ps.length)
    (hbody : ∀ (A : Around) (outer : List Env) (s : Shared) (H : Hp) (vs : List V) (Q : VK) (E : XK), Room k (A.deeper (envOfC qual (defScope st) s.heap.objs.size f (.ref c))) → sp vs H Q E →
      ∃ t, PSs (cxOf CX0 P w K mg base N qual (defScope st) f (.ref c) A outer s H E).nox (defBody st) t ∧ t { nx := fun _ H' => Q .non H', rt := Q } (start N vs) H) : FnOk P w K mg base CX0 (k + 1) f fd ps sp := by
  obtain ⟨oc, od, kV, doc, pm, an, cdv, ct, osl, rfl, lk, hcd⟩ := F.ex
  have e : cdv = .ref c := hc
  subst e
  exact fn_of lk hcd S len fun A outer s H vs Q E hr hsp => (hbody A outer s H vs Q E hr hsp).imp fun t z => ⟨z.1.nox, z.2⟩
/-- the same while no repr is under way -/
theorem okGC {x qual : Str} {st : Stmt} {f c : Addr} {fd : FuncData} {N ps : List Str} {k : Nat} {sp : Sp} (F : Fun K x qual st f fd) (hc : fd.code = .ref c) (S : FnScope N ps (defScope st)) (len : ∀ vs H Q E, sp vs H Q E → vs.length = ps.length)
    (body : ∀ (A : Around) (outer : List Env) (s : Shared) (H : Hp) (vs : List V) (Q : VK) (E : XK), A.guards = some [] → Room k (A.deeper (envOfC qual (defScope st) s.heap.objs.size f (.ref c))) → sp vs H Q E →
      ∃ t, PSs (cxOf CX0 P w K mg base N qual (defScope st) f (.ref c) A outer s H E).nox (defBody st) t ∧ t { nx := fun _ H' => Q .non H', rt := Q } (start N vs) H) : RunG P w K mg base (k + 1) f fd ps sp := by
  obtain ⟨oc, od, kV, doc, pm, an, cdv, ct, osl, e1, lk, hcd⟩ := F.ex
  subst e1
  have e : cdv = .ref c := hc
  subst e
  intro A outer s H args us vs Q E hA room e0 bind rel promise
  exact LamX.run_ofS lk hcd S room e0 bind rel (len _ _ _ _ promise) fun hr => (body A outer s H vs Q E hA hr promise).imp fun t z => ⟨z.1.nox, z.2⟩
/-- _law_heard, as it stands -/
structure HeardT (K : PySem.W.Frag) (mg : Str → Option Value) (g : Addr) (fd : FuncData) : Prop where
  F : Fun K "_law_heard" "_law_heard" sLHeard g fd
  b : Binds K fd ["action"] []
  k : PySem.W.keepIn K (.ref g) = true
  m : mg "_law_heard" = some (.ref g)
/-- the table of a def's lambdas -/
structure TabT (T : List (Addr × Str)) (base : Heap) (mg : Str → Option Value) (c P : Addr) (q : Str) : Prop where
  B : LamX.TabB base mg c P
  mem : (P, q) ∈ T
  one : ∀ p ∈ T, p.1 = P → p.2 = q
end
section
variable {X : Cx} {T : List (Addr × Str)}
/-- _law_heard(lambda: ..) -/
theorem pe_heard {g c P CR CM fI : Addr} {gd : FuncData} {k : Nat} {params : Arguments} {body : Expr} {scope : Scope} {t : XK → TE} {p lpos pos : Pos} (G : HeardT X.K X.mg g gd) (E : ErrT X.K X.mg CR CM fI) (mis : X.mg "isinstance" = none) (hg : Gl X "_law_heard")
    (B : TabT T X.base X.mg c P (X.env.qual ++ "<lambda>")) (hcode : X.env.code = .ref c) (hr : Room (k + 2) X.A) (L : LamX.LamS X.env.scope scope) (hdef : defaultsOf params X.env = ([], []))
    (hbind : ∀ (q : Str) (cl : List (Str × Addr)) (pm cv ctv : Value), bindArgs (PySem.W.kla_fn "<lambda>" q params body scope cl pm cv ctv) ⟨[], []⟩ = pure [])
    (hbody : ∀ (A : Around) (outer : List Env) (s : Shared) (H : Hp) (E : XK) (f c' : Addr), Room k (A.deeper (LamX.lamEnv X scope s.heap.objs.size f c')) → PE (LamX.lamCx X A outer s H E scope f c') body (t E)) :
    PE X (.Call (.Name "_law_heard" p) [.Lambda params body scope lpos] [] pos) (LamX.tLam T (THeard CR) t) := by
  obtain ⟨oc, od, kV, doc, pm, an, cdv, ct, osl, e1, lk, hcd⟩ := G.F.ex
  have b := G.b
  subst e1
  exact LamX.pe_lamcall hg G.m G.k lk hcd b scHeard rfl (.inl rfl) (heard_gives E mis) B.B hcode B.mem B.one hr L hdef hbind hbody
end
end K14
/-! what stands when a lambda was made: all but the tables -/
namespace K14
open PySem PySem.Spec PyProof.Rows L2
section
variable {H H' : Hp}
abbrev XN := LamX.ExtN
theorem XN.tup (s : LamX.ExtN H H') {b : Addr} {xs : List V} (e : H b = some (.tup xs)) : H' b = some (.tup xs) := s b _ e fun _ z => by cases z
theorem XN.lst (s : LamX.ExtN H H') {b : Addr} {xs : List V} (e : H b = some (.lst xs)) : H' b = some (.lst xs) := s b _ e fun _ z => by cases z
theorem Ex.ext {a : Addr} {xs : List V} (t : Ex H a xs) (s : LamX.ExtN H H') : Ex H' a xs := let ⟨o, d, c, e⟩ := t; ⟨o, d, c, s _ _ e fun _ z => by cases z⟩
theorem Tp.ext {a : Addr} {xs : List V} (t : Tp H a xs) (s : LamX.ExtN H H') : Tp H' a xs := t.imp (XN.tup s) (fun e => e.ext s)
theorem LT.ext {r : Addr} {ls : List (List Nat)} (t : LT H r ls) (s : LamX.ExtN H H') : LT H' r ls := let ⟨as, e, l, q⟩ := t; ⟨as, XN.tup s e, l, fun i a x e1 e2 => (q i a x e1 e2).ext s⟩
theorem LX.ext {r : Addr} {ls : List (List Nat)} (t : LX H r ls) (s : LamX.ExtN H H') : LX H' r ls := let ⟨as, e, l, q⟩ := t; ⟨as, XN.tup s e, l, fun i a x e1 e2 => (q i a x e1 e2).ext s⟩
theorem RT.ext {r : Addr} {ls : List (List Nat)} (t : RT H r ls) (s : LamX.ExtN H H') : RT H' r ls := let ⟨as, e, l, q⟩ := t; ⟨as, XN.tup s e, l, fun i a x e1 e2 => XN.tup s (q i a x e1 e2)⟩
theorem WAt.ext {C wi : Addr} {ns ls : List (List Nat)} (W : WAt C H wi ns ls) (s : LamX.ExtN H H') : WAt C H' wi ns ls := by
  obtain ⟨dx, n, l, r, e1, e2, e3, e4⟩ := W.ex
  exact ⟨W.n60, W.nok, W.ok, dx, n, l, r, s _ _ e1 (fun _ z => by cases z), XN.tup s e2, e3.ext s, e4.ext s⟩
theorem Src.ext {h l : Addr} (t : Src H h l) (s : LamX.ExtN H H') : Src H' h l := by
  obtain ⟨cs, z, a, b, r⟩ := t.ex
  exact ⟨cs, z, XN.lst s a, XN.lst s b, r⟩
theorem HsT.ext {us : List Addr} {hss : List (List (Option Nat))} (t : HsT H us hss) (s : LamX.ExtN H H') : HsT H' us hss := ⟨t.1, fun j u r e1 e2 => XN.tup s (t.2 j u r e1 e2)⟩
theorem LsR.ext {us : List Addr} {R : List (List Nat)} (t : LsR H us R) (s : LamX.ExtN H H') : LsR H' us R := ⟨t.1, fun j u r e1 e2 => XN.lst s (t.2 j u r e1 e2)⟩
theorem RP.ext {r : Addr} {ps : List (Nat × Nat)} (t : RP H r ps) (s : LamX.ExtN H H') : RP H' r ps := let ⟨us, e, l, a⟩ := t; ⟨us, XN.tup s e, l, fun j u x e1 e2 => XN.tup s (a j u x e1 e2)⟩
theorem RgAt.ext {a t u : Addr} {ls : List (List Nat)} {hs : List (Option Nat)} {p m : Nat} (r : RgAt H a t u ls hs p m) (s : LamX.ExtN H H') : RgAt H' a t u ls hs p m := ⟨r.lx.ext s, XN.tup s r.et, XN.lst s r.eu, r.ho, r.st, r.ok, r.n60, r.hp, r.cy⟩
theorem xn_of (s : Same H H') : LamX.ExtN H H' := LamX.ExtN.of s
/-- a list stays a list of its own: the tables stay too -/
theorem Tabs.put {T : List (Addr × Str)} {p : Addr} {xs : List V} {o : HO} (t : LamX.Tabs T H) (e : H p = some (.lst xs)) : LamX.Tabs T (upd H p o) := fun q hq => by
  obtain ⟨ps, h1, h2, h3⟩ := t q hq
  refine ⟨ps, ?_, h2, fun pos cv hc => ?_⟩
  · rw [upd_ne fun z => by rw [z, e] at h1; cases h1]
    exact h1
  · obtain ⟨c, e1, e2⟩ := h3 pos cv hc
    refine ⟨c, e1, ?_⟩
    rw [upd_ne fun z => by rw [z, e] at e2; cases e2]
    exact e2
theorem Tabs.bar {T : List (Addr × Str)} {h l : Addr} (t : LamX.Tabs T H) (s : Src H h l) (b : Bar h l H H') : LamX.Tabs T H' := fun q hq => by
  obtain ⟨ps, h1, h2, h3⟩ := t q hq
  refine ⟨ps, ?_, h2, fun pos cv hc => ?_⟩
  · obtain ⟨n1, n2⟩ := s.ne h1 fun _ z => by cases z
    exact b _ _ n1 n2 h1
  · obtain ⟨c, e1, e2⟩ := h3 pos cv hc
    obtain ⟨n1, n2⟩ := s.ne e2 fun _ z => by cases z
    exact ⟨c, e1, b _ _ n1 n2 e2⟩
/-! ### lists of ints as data -/
def dZ (ns : List Int) : PyData := .list (ns.map PyData.int)
theorem dp_dZ {K : PySem.W.Frag} {a : Addr} {ns : List Int} (e : H a = some (.lst (ns.map V.int))) : Dp K H (.ref a) (dZ ns) := by
  refine .lst (SqL.of e) ?_
  clear e
  induction ns with
  | nil => exact .nil
  | cons b t ih => exact .cons (.int b) ih
theorem sh_dZ (ns : List Int) : SeqAt.shaped (dZ ns) = true := by
  unfold dZ
  refine shaped_of ?_ ?_
  · simp only [PyData.canLay0]
    refine layAll fun x hx => ?_
    obtain ⟨j, _, rfl⟩ := List.mem_map.mp hx
    rfl
  · simp only [PyData.depth]
    have := depAll (xs := ns.map PyData.int) (d := 1) fun x hx => by
      obtain ⟨j, _, rfl⟩ := List.mem_map.mp hx
      simp [PyData.depth]
    omega
theorem asc_uniq {a b : List Int} (p : a.Perm b) (ha : a.Pairwise (· ≤ ·)) (hb : b.Pairwise (· ≤ ·)) : a = b := List.Perm.eq_of_pairwise (le := fun x y => x ≤ y) (fun x y _ _ h1 h2 => Int.le_antisymm h1 h2) ha hb p
end
end K14
namespace K14
open PySem PySem.Spec PyProof.Rows L2
/-- a def that gives its value, or raises: both promises at once -/
theorem fn_or {P : Program} {w : World} {K : PySem.W.Frag} {mg : Str → Option Value} {base : Heap} {CX : CXT} {k : Nat} {f : Addr} {fd : FuncData} {ps : List Str} {sp1 sp2 : Sp} (F1 : FnOk P w K mg base CX0 k f fd ps sp1) (F2 : FnOk P w K mg base CX k f fd ps sp2) : FnOk P w K mg base CX k f fd ps (fun vs H Q E => sp1 vs H Q E ∨ sp2 vs H Q E) where
  len := fun vs H Q E h => h.elim (F1.len vs H Q E) (F2.len vs H Q E)
  run := fun A outer s H args us vs Q E hr e0 hb hv h => by
    rcases h with h | h
    · refine codeAny_mono (F1.run A outer s H args us vs Q E hr e0 hb hv h) fun r s' q => ?_
      cases r with
      | error e => exact False.elim q
      | ok fl => cases fl <;> exact q
    · exact F2.run A outer s H args us vs Q E hr e0 hb hv h
theorem vals_take : ∀ (n : Nat) {zs : List V} {ws : List Value}, Vals zs ws → Vals (zs.take n) (ws.take n)
  | 0, _, _, _ => by rw [List.take_zero, List.take_zero]; exact .nil
  | n + 1, _, _, .nil => .nil
  | n + 1, _, _, .cons r t => by
    rw [List.take_succ_cons, List.take_succ_cons]
    exact .cons r (vals_take n t)
/-- of three parameters the last one by its name -/
theorem last1 {K : PySem.W.Frag} {x qual : Str} {st : Stmt} {f : Addr} {fd : FuncData} {n m o : Str} (F : Fun K x qual st f fd)
    (h0 : ∀ (kV doc pm : Value) (an : Option Addr) (cdv ct u v t : Value), bindArgs (PySem.W.fnOf x qual (defArgs st) (defBody st) (defScope st) .none kV doc pm an cdv ct) ⟨[u, v, t], []⟩ = pure [(n, u), (m, v), (o, t)])
    (h1 : ∀ (kV doc pm : Value) (an : Option Addr) (cdv ct u v t : Value), bindArgs (PySem.W.fnOf x qual (defArgs st) (defBody st) (defScope st) .none kV doc pm an cdv ct) ⟨[u, v], [(o, t)]⟩ = pure [(n, u), (m, v), (o, t)]) :
    KBinds K fd [n, m, o] [o] (fun us ws => us ++ ws.take 1) (fun vs zs => vs ++ zs.take 1) := by
  obtain ⟨oc, od, kV, doc, pm, an, cdv, ct, osl, rfl, lk, hcd⟩ := F.ex
  refine ⟨fun s us ws _ hl => ?_, fun a b => a.append (vals_take 1 b)⟩
  match us, ws, hl with
  | [u, v, t], [], _ => exact .of_eq (h0 kV doc pm an cdv ct u v t)
  | [u, v], t :: ws, _ => exact .of_eq (h1 kV doc pm an cdv ct u v t)
  | [], [], hl => simp at hl
  | [_], [], hl => simp at hl
  | [_, _], [], hl => simp at hl
  | [], _ :: _, hl => simp at hl
  | [_], _ :: _, hl => simp at hl
  | _ :: _ :: _ :: _ :: _, [], hl => simp at hl
  | _ :: _ :: _ :: _, _ :: _, hl => simp at hl
/-- the last two, the last one first -/
theorem last2 {K : PySem.W.Frag} {x qual : Str} {st : Stmt} {f : Addr} {fd : FuncData} {n m o : Str} (F : Fun K x qual st f fd)
    (h0 : ∀ (kV doc pm : Value) (an : Option Addr) (cdv ct u v t : Value), bindArgs (PySem.W.fnOf x qual (defArgs st) (defBody st) (defScope st) .none kV doc pm an cdv ct) ⟨[u, v, t], []⟩ = pure [(n, u), (m, v), (o, t)])
    (h1 : ∀ (kV doc pm : Value) (an : Option Addr) (cdv ct u v t : Value), bindArgs (PySem.W.fnOf x qual (defArgs st) (defBody st) (defScope st) .none kV doc pm an cdv ct) ⟨[u, v], [(o, t)]⟩ = pure [(n, u), (m, v), (o, t)])
    (h2 : ∀ (kV doc pm : Value) (an : Option Addr) (cdv ct u v t : Value), bindArgs (PySem.W.fnOf x qual (defArgs st) (defBody st) (defScope st) .none kV doc pm an cdv ct) ⟨[u], [(o, t), (m, v)]⟩ = pure [(n, u), (m, v), (o, t)]) :
    KBinds K fd [n, m, o] [o, m] (fun us ws => us ++ (ws.take 2).reverse) (fun vs zs => vs ++ (zs.take 2).reverse) := by
  obtain ⟨oc, od, kV, doc, pm, an, cdv, ct, osl, rfl, lk, hcd⟩ := F.ex
  refine ⟨fun s us ws _ hl => ?_, fun a b => a.append (vals_rev (vals_take 2 b))⟩
  match us, ws, hl with
  | [u, v, t], [], _ => exact .of_eq (h0 kV doc pm an cdv ct u v t)
  | [u, v], [t], _ => exact .of_eq (h1 kV doc pm an cdv ct u v t)
  | [u], t :: v :: ws, _ => exact .of_eq (h2 kV doc pm an cdv ct u v t)
  | [], [], hl => simp at hl
  | [_], [], hl => simp at hl
  | [_, _], [], hl => simp at hl
  | [], [_], hl => simp at hl
  | [_], [_], hl => simp at hl
  | [], _ :: _ :: _, hl => simp at hl
  | [_, _], _ :: _ :: _, hl => simp at hl
  | _ :: _ :: _ :: _ :: _, [], hl => simp at hl
  | _ :: _ :: _ :: _, [_], hl => simp at hl
  | _ :: _ :: _ :: _, _ :: _ :: _, hl => simp at hl
end K14
namespace K14
open PySem PySem.Spec PyProof.Rows L2
theorem LT.ext' {H H' : Hp} {r : Addr} {ls : List (List Nat)} (t : LT H r ls) (s : LamX.ExtN H H') : LT H' r ls := t.ext s
def dSL : PyData := .tuple [.str "refused", .str "list"]
theorem dp_dSL {K : PySem.W.Frag} {H : Hp} {a : Addr} (e : H a = some (.tup [.str "refused", .str "list"])) : Dp K H (.ref a) dSL := .tup (SqT.of e) (.cons (.str _) (.cons (.str _) .nil))
theorem sh_dSL : SeqAt.shaped dSL = true := by decide +kernel
def dT (b : Nat) : PyData := .tuple [.str "told", .int (b : Nat)]
theorem dp_dT {K : PySem.W.Frag} {H : Hp} {a : Addr} {b : Nat} (e : H a = some (.tup [.str "told", .int (b : Nat)])) : Dp K H (.ref a) (dT b) := .tup (SqT.of e) (.cons (.str _) (.cons (.int _) .nil))
theorem rp_told : RpI (.str "told") 0 20 := ⟨by simp only [PyData.showable], by simp only [PyData.hasDict], by simp only [PyData.depth]; omega, by simp only [PyData.shown]; decide +kernel⟩
theorem rp_dT {b : Nat} (h : b < 60) : Rp (dT b) := by
  have := rp_tup (xs := [.str "told", .int (b : Nat)]) (m := 0) (B := 20) fun x hx => by
    simp only [List.mem_cons, List.not_mem_nil, or_false] at hx
    rcases hx with rfl | rfl
    · exact rp_told
    · exact rp_int (Nat.lt_of_lt_of_le h (by decide))
  exact ⟨this.sh, this.nd, Nat.le_trans this.dp (by decide), Nat.le_trans this.ln (by show 54 ≤ sizeLine; decide)⟩
def dTR (ps : List (Nat × Nat)) : PyData := .tuple [.str "told", dL (rows2 ps)]
theorem dp_dTR {K : PySem.W.Frag} {H : Hp} {a c : Addr} {ps : List (Nat × Nat)} (e : H a = some (.tup [.str "told", .ref c])) (t : RP H c ps) : Dp K H (.ref a) (dTR ps) := .tup (SqT.of e) (.cons (.str _) (.cons (dp_dL t.lt) .nil))
theorem rp_rows {ps : List (Nat × Nat)} (l : ps.length ≤ 60) (h : ∀ x ∈ ps, x.1 < 60 ∧ x.2 < 60) : RpI (dL (rows2 ps)) 2 121000 := by
  have := rp_tup (xs := (rows2 ps).map dI) (m := 1) (B := 2000) fun d hd => by
    obtain ⟨s, hs, rfl⟩ := List.mem_map.mp hd
    unfold rows2 at hs
    obtain ⟨x, hx, rfl⟩ := List.mem_map.mp hs
    refine rp_dI (by simp) fun j hj => ?_
    simp only [List.mem_cons, List.not_mem_nil, or_false] at hj
    rcases hj with rfl | rfl
    · exact (h x hx).1
    · exact (h x hx).2
  refine this.up (Nat.le_refl _) ?_
  unfold rows2
  rw [List.length_map, List.length_map]
  omega
theorem rp_dTR {ps : List (Nat × Nat)} (l : ps.length ≤ 60) (h : ∀ x ∈ ps, x.1 < 60 ∧ x.2 < 60) : Rp (dTR ps) := by
  have := rp_tup (xs := [.str "told", dL (rows2 ps)]) (m := 2) (B := 121000) fun x hx => by
    simp only [List.mem_cons, List.not_mem_nil, or_false] at hx
    rcases hx with rfl | rfl
    · exact rp_told.up (by decide) (by decide)
    · exact rp_rows l h
  exact ⟨this.sh, this.nd, Nat.le_trans this.dp (by decide), Nat.le_trans this.ln (by show (121000 + 2) * 2 + 10 ≤ sizeLine; decide)⟩
/-- a list left, read by hand -/
structure LeftAt (H : Hp) (lf : Addr) (as : List Addr) (ls : List (List Nat)) (hs : List (Option Nat)) : Prop where
  e : H lf = some (.tup (as.map V.ref))
  row : ∀ p, p < ls.length → ∃ b, as[p]? = some b ∧ Tp H b (VI (leftL ls hs p))
theorem LeftAt.of {H : Hp} {lf : Addr} {ls : List (List Nat)} {hs : List (Option Nat)} (t : LT H lf (leftA ls hs)) : ∃ as, LeftAt H lf as ls hs := by
  obtain ⟨as, ea, al, rows⟩ := id t
  rw [leftA_len] at al
  refine ⟨as, ea, fun p hp => ?_⟩
  have ay : as[p]? = some as[p] := List.getElem?_eq_getElem (by omega)
  exact ⟨_, ay, rows p _ _ ay (leftA_get hp)⟩
theorem LeftAt.same {H H' : Hp} {lf : Addr} {as : List Addr} {ls : List (List Nat)} {hs : List (Option Nat)} (t : LeftAt H lf as ls hs) (s : Same H H') : LeftAt H' lf as ls hs :=
  ⟨s _ _ t.e, fun p hp => let ⟨b, e1, e2⟩ := t.row p hp; ⟨b, e1, e2.same s⟩⟩
structure HasX (P : Program) (w : World) (K : PySem.W.Frag) (mg : Str → Option Value) (base : Heap) (CX : CXT) (k : Nat) (x : Str) (ps : List Str) (sp : Sp) (f : Addr) (fd : FuncData) : Prop where
  ok : FnOk P w K mg base CX k f fd ps sp
  b : Binds K fd ps []
  k : PySem.W.keepIn K (.ref f) = true
  m : mg x = some (.ref f)
abbrev lamQ (x : Str) : Str := (x ++ ".<locals>.") ++ "<lambda>"
def spGbU (C CR : Addr) : Sp := fun vs H Q E => spGiverB C vs H Q E ∨ spGiverBX C CR vs H Q E
def spTfU (C CR : Addr) : Sp := fun vs H Q E => spTurnF C vs H Q E ∨ spTurnFX C CR vs H Q E
def spGiversRight (C : Addr) (T : List (Addr × Str)) : Sp := fun vs H Q _ => ∃ (wi a t U : Addr) (ns ls : List (List Nat)) (hs : List (Option Nat)) (us : List Addr), vs = [.ref wi, .ref a, .ref t, .ref U] ∧ WAt C H wi ns ls ∧ LX H a ls ∧ H t = some (.tup (VH hs)) ∧ HoldsOk ls hs ∧ Std ls hs ∧ H U = some (.tup (us.map V.ref)) ∧ RPs H us (ringsP ls hs) ∧ LamX.Tabs T H ∧
  ∀ H', LamX.ExtN H H' → LamX.Tabs T H' → Q (.bl true) H'
theorem scGiR : FnScope ["wishes", "lists", "holds", "dues", "left", "told", "ring", "behind", "reached", "turn", "due", "person", "one", "pair"] ["wishes", "lists", "holds", "dues"] (defScope sLGiversRight) := ⟨rfl, rfl, rfl, by decide +kernel, rfl, by decide +kernel, by decide +kernel⟩
section
variable {P : Program} {w : World} {K : PySem.W.Frag} {mg : Str → Option Value} {base : Heap} {T : List (Addr × Str)}
set_option maxHeartbeats 1000000 in
theorem ok_givers_right {f f1 f2 f3 g c PT C CR CM fI : Addr} {fd d1 d2 d3 gd : FuncData} {k : Nat} (F : Fun K "_law_givers_right" "_law_givers_right" sLGiversRight f fd) (hc : fd.code = .ref c) (G : HeardT K mg g gd) (ET : ErrT K mg CR CM fI) (TB : TabT T base mg c PT (lamQ "_law_givers_right"))
    (Lf : Has P w K mg base (k + 2) "_law_left" ["lists", "holds"] spLeft f1 d1) (Gb : HasX P w K mg base (L2.CX P w) k "giver_behind" ["wishes", "holds", "person"] (spGbU C CR) f2 d2) (nGb : KBinds K d2 ["wishes", "holds", "person"] ["person"] (fun us ws => us ++ ws.take 1) (fun vs zs => vs ++ zs.take 1))
    (Tf : HasX P w K mg base (L2.CX P w) k "turn_from" ["wishes", "holds", "person"] (spTfU C CR) f3 d3) (nTf : KBinds K d3 ["wishes", "holds", "person"] ["person", "holds"] (fun us ws => us ++ (ws.take 2).reverse) (fun vs zs => vs ++ (zs.take 2).reverse))
    (mis : mg "isinstance" = none) (ml : mg "len" = none) (mrg : mg "range" = none) (mrp : mg "repr" = none) : RunG P w K mg base (k + 3) f fd ["wishes", "lists", "holds", "dues"] (spGiversRight C T) := by
  refine okGC F hc scGiR (by rintro vs H Q E ⟨wi, a, t, U, ns, ls, hs, us, rfl, _⟩; rfl) (fun A outer s H vs Q E hA hr h => ?_)
  obtain ⟨wi, a, t, U, ns, ls, hs, us, rfl, W, lx, et, ho, st, eU, rps, tb, q⟩ := h
  refine ⟨_, pss_cons (ps_set (i := 4) scGiR.nd rfl (.inl rfl) (pe_call Lf.ok hr rfl Lf.m Lf.k Lf.b .nil pass0 (pa_cons (pv 1) (pa_cons (pv 2) pa_nil))))
      (pss_cons (ps_for PassesOwn.never rfl (pi_range1 rfl mrg (pa_cons (pe_callB call_len_seq (by rfl) ml PySem.boot_len (pa_cons (pv 1) pa_nil)) pa_nil)) (pg_name (i := 11) scGiR.nd rfl (.inr rfl))
      (pss_cons (ps_set (i := 5) scGiR.nd rfl (.inl rfl) (pe_heard G ET mis rfl TB rfl hr (LamX.lamS_by (sc := defScope sLGiversRight) (by decide +kernel)) rfl (fun _ _ _ _ _ => rfl) (fun _ _ _ _ _ _ _ hr => pe_callK Gb.ok hr rfl Gb.m Gb.k nGb (passes_call (takes_of rfl rfl rfl rfl) (fun _ _ _ _ h => h)) (pa_cons (pv 0) (pa_cons (pv 2) pa_nil)) (pk_cons (pv 11) pk_nil))))
      (pss_cons (ps_set (i := 6) scGiR.nd rfl (.inl rfl) (pe_heard G ET mis rfl TB rfl hr (LamX.lamS_by (sc := defScope sLGiversRight) (by decide +kernel)) rfl (fun _ _ _ _ _ => rfl) (fun _ _ _ _ _ _ _ hr => pe_callK Tf.ok hr rfl Tf.m Tf.k nTf (passes_call (takes_of rfl rfl rfl rfl) (fun _ _ _ _ h => h)) (pa_cons (pv 0) pa_nil) (pk_cons (pv 11) (pk_cons (pv 2) pk_nil)))))
      (pss_one (ps_if (pt_cmpR op_lt (pe_callB call_len_seq (by rfl) ml PySem.boot_len (pa_cons (pe_ix ix_tup (pv 4) (pv 11) (fun _ _ => rfl)) pa_nil)) pe_int (nomark _)) (pss_one (ps_if (PW.pt (pw_or (pt_cmpR (op_neD hr.units) (pv 5) (pe_tup (pa_cons pe_str (pa_cons pe_str pa_nil))) (nomark _)) (pw_or1 (pt_cmpR (op_neD hr.units) (pv 6) (pe_tup (pa_cons pe_str (pa_cons pe_str pa_nil))) (nomark _))))) (pss_one (ps_ret pe_bl)) pss_nil)) (pss_cons (ps_set (i := 7) scGiR.nd rfl (.inl rfl) (pe_ix ix_tup (pv 2) (pe_ix ix_tup (pe_ix ix_tup (pv 4) (pv 11) (fun _ _ => rfl)) pe_int (fun _ _ => rfl)) (fun _ _ => rfl)))
      (pss_cons (ps_if (PW.pt (pw_or (pt_cmpR op_ne (pe_callB (call_repr hA hr.units) (by rfl) mrp (by decide +kernel) (pa_cons (pv 5) pa_nil)) (pe_callB (call_repr hA hr.units) (by rfl) mrp (by decide +kernel) (pa_cons (pe_tup (pa_cons pe_str (pa_cons (pv 7) pa_nil))) pa_nil)) (nomark _)) (pw_or (pt_cmpR op_eq (pv 7) (pv 11) (nomark _)) (pw_or1 (pt_cmpR op_lt (pe_callB call_len_seq (by rfl) ml PySem.boot_len (pa_cons (pe_ix ix_tup (pv 4) (pv 7) (fun _ _ => rfl)) pa_nil)) pe_int (nomark _)))))) (pss_one (ps_ret pe_bl)) pss_nil)
      (pss_cons (ps_set (i := 8) scGiR.nd rfl (.inr rfl) (pv 11))
      (pss_cons (ps_for PassesOwn.never rfl (pi_range1 rfl mrg (pa_cons (pe_callB call_len_seq (by rfl) ml PySem.boot_len (pa_cons (pv 1) pa_nil)) pa_nil)) (pg_name (i := 9) scGiR.nd rfl (.inl rfl))
      (pss_one (ps_set (i := 8) scGiR.nd rfl (.inr rfl) (pe_ix ix_tup (pv 2) (pe_ix ix_tup (pe_ix ix_tup (pv 4) (pv 8) (fun _ _ => rfl)) pe_int (fun _ _ => rfl)) (fun _ _ => rfl)))))
      (pss_cons (ps_setLc (i := 10) (own := [("one", 12)]) (g := gName 12) (tt := tTest (tOp (rIn K false) (tVar 8) (tLc (iTup K (tVar 12)) (gName 13) tYes (tOp (rIxT K) (tVar 13) (tC (.int 0))) [13]))) (te := tVar 12) rfl scGiR.nd rfl rfl (sw_true rfl rfl rfl (by decide +kernel)) (pi_tup (pv 3)) (blkOk_by (own := [("one", 12)]) (N := ["wishes", "lists", "holds", "dues", "left", "told", "ring", "behind", "reached", "turn", "due", "person", "one", "pair"]) (sc := defScope sLGiversRight) (by decide +kernel)) (fun _ _ _ _ _ => pg_name (i := 12) scGiR.nd rfl (Or.inl rfl)) (fun _ _ _ _ _ => pts_one (pt_cmpR op_in_seq (pv 8) (pe_lc (own := [("pair", 13)]) (g := gName 13) (tt := tYes) (te := tOp (rIxT K) (tVar 13) (tC (.int 0))) rfl scGiR.nd (pi_tup (pv 12)) (blkOk_by (own := [("pair", 13)]) (by rfl)) (fun _ _ _ _ _ => pg_name (i := 13) scGiR.nd rfl (Or.inl rfl)) (fun _ _ _ _ _ => pts_nil) (fun _ _ _ _ _ => pe_ix ix_tup (pv 13) pe_int (fun _ _ => rfl))) (by rfl))) (fun _ _ _ _ _ => pv 12))
      (pss_one (ps_if (pt_cmpR op_ne (pe_callB (call_repr hA hr.units) (by rfl) mrp (by decide +kernel) (pa_cons (pv 6) pa_nil)) (pe_callB (call_repr hA hr.units) (by rfl) mrp (by decide +kernel) (pa_cons (pe_tup (pa_cons pe_str (pa_cons (pe_ix ix_list (pv 10) pe_int (fun _ _ => rfl)) pa_nil))) pa_nil)) (nomark _)) (pss_one (ps_ret pe_bl)) pss_nil))))))))))))
      (pss_one (ps_ret pe_bl))), ?_⟩
  have n60 := W.n60.2
  have ok := W.ok
  refine ⟨_, rfl, _, rfl, a, t, ls, hs, rfl, lx, et, ho, ok, by omega, fun lf H1 s1 llf => gn ?_⟩
  dsimp only [List.set, L2.start]
  obtain ⟨xsL, eaL, xlL⟩ := (lx.same s1).lt.len
  refine ⟨_, rfl, a, _, rfl, .inr (SqT.of eaL), ?_⟩
  rw [xlL]
  refine ⟨_, rfl, by omega, by omega, for_it (J := Itr 0 ls.length) (n := ls.length) walk_range0 (fun i σ H' => ∃ y5 y6 y7 y8 y9 y10 y11 : Option V, σ = [some (.ref wi), some (.ref a), some (.ref t), some (.ref U), some (.ref lf), y5, y6, y7, y8, y9, y10, y11, none, none] ∧ LamX.ExtN H1 H' ∧ LamX.Tabs T H')
    ⟨none, none, none, none, none, none, none, rfl, LamX.ExtN.refl _, tb.ext s1⟩ (fun _ _ _ _ _ => trivial) ?_ ?_⟩
  · rintro i x σ Ha' Ha hi ⟨y5, y6, y7, y8, y9, y10, y11, rfl, xa, tba⟩ ⟨rfl, rfl⟩
    refine gn ?_
    dsimp only [List.set]
    have Wa := (W.same s1).ext xa
    have eta := XN.tup xa (s1 _ _ et)
    by_cases c : 2 ≤ (leftL ls hs i).length
    · have on := way (giv_at ok ho st) hi c
      have gi : ha (givA ls hs) i = some (gF ls hs i) := gB_way (bs := givA ls hs) (p := i) (fun k => by rw [givA_len]; exact (on k).1) 0
      refine ⟨tba, fun Hb xb tbb => ⟨_, rfl, _, rfl, _, rfl, .inl ⟨wi, t, ns, ls, hs, i, gF ls hs i, rfl, Wa.ext xb, XN.tup xb eta, ho, hi, gi, fun Hc sc => ⟨(by show 2 ≤ sizeLine; decide), fun p1 np1 => gn ?_⟩⟩⟩⟩
      dsimp only [List.set]
      have sp1 := same_upd (o := .tup [.str "told", .int (gF ls hs i : Nat)]) np1
      have e1 := upd_same (H := Hc) (a := p1) (o := .tup [.str "told", .int (gF ls hs i : Nat)])
      have x1 := xa.trans (xb.trans (xn_of (sc.trans sp1)))
      have tb1 := tbb.ext (sc.trans sp1)
      generalize upd Hc p1 (.tup [.str "told", .int (gF ls hs i : Nat)]) = Hd at e1 x1 tb1
      refine ⟨tb1, fun He xe tbe => ⟨_, rfl, _, rfl, _, rfl, .inl ⟨wi, t, ns, ls, hs, i, rfl, ((W.same s1).ext x1).ext xe, XN.tup xe (XN.tup x1 (s1 _ _ et)), ho, st, hi, c, fun cR R Hf sf memR yR rpR => ⟨(by show 2 ≤ sizeLine; decide), fun p2 np2 => gn ?_⟩⟩⟩⟩
      dsimp only [List.set]
      have sp2 := same_upd (o := .tup [.str "told", .ref cR]) np2
      have e2 := upd_same (H := Hf) (a := p2) (o := .tup [.str "told", .ref cR])
      have x2 := x1.trans (xe.trans (xn_of (sf.trans sp2)))
      have tb2 := tbe.ext (sf.trans sp2)
      have e1' := XN.tup (xe.trans (xn_of (sf.trans sp2))) e1
      have rp2 := rpR.same sp2
      generalize upd Hf p2 (.tup [.str "told", .ref cR]) = Hg at e2 x2 tb2 e1' rp2
      obtain ⟨as, L⟩ := LeftAt.of (llf.ext x2)
      obtain ⟨b1, eb1, t1⟩ := L.row i hi
      have a1 : atI (as.map V.ref) (i : Int) = some (.ref b1) := atI_nat (by rw [List.getElem?_map, eb1]; rfl)
      refine ⟨_, rfl, _, rfl, lf, _, _, _, rfl, rfl, SqT.of L.e, a1, b1, _, rfl, .inr t1.sq, ?_⟩
      rw [VI_len]
      refine ⟨_, _, rfl, rfl, false, congrArg V.bl (decide_eq_false (by omega)), iteF ?_⟩
      have secA : ∀ {HZ : Hp} {y : Nat}, Same Hg HZ → y < ls.length → 2 ≤ (leftL ls hs y).length → ∃ b, atI (as.map V.ref) (y : Int) = some (.ref b) ∧ SqT K HZ b (VI (leftL ls hs y)) ∧ atI (VI (leftL ls hs y)) 1 = some (.int (sF ls hs y : Nat)) ∧ (VH hs)[sF ls hs y]? = some (.int (gF ls hs y : Nat)) := fun {HZ y} sZ hy h2 => by
        obtain ⟨b, eb, tb'⟩ := L.row y hy
        have Gv := giv_at ok ho st y hy h2
        exact ⟨b, atI_nat (by rw [List.getElem?_map, eb]; rfl), (tb'.same sZ).sq, atI_nat (j := 1) (VI_get (by unfold sF; rw [List.getD_eq_getElem?_getD, List.getElem?_eq_getElem (by omega)]; rfl)), VH_get (o := some _) (by rw [ha_get (by rw [ho.len]; exact Gv.sl), Gv.held])⟩
      have eth := XN.tup x2 (s1 _ _ et)
      obtain ⟨b0, c1, c2, c3, c4⟩ := secA same_rfl hi c
      have Gv := giv_at ok ho st i hi c
      refine ⟨_, rfl, _, rfl, _, rfl, lf, _, _, _, rfl, rfl, SqT.of L.e, c1, b0, _, 1, _, rfl, rfl, c2, c3, t, _, _, _, rfl, rfl, SqT.of eth, atI_nat c4, gn ?_⟩
      dsimp only [List.set]
      have g60 : gF ls hs i < 60 := by have := Gv.ql; omega
      have rT := rp_dT g60
      refine ⟨_, rfl, p1, dT (gF ls hs i), rfl, dp_dT e1', rT.sh, rT.nd, rT.dp, rT.ln, ?_⟩
      refine ⟨_, rfl, (by show 2 ≤ sizeLine; decide), fun z nz => ⟨z, dT (gF ls hs i), rfl, dp_dT upd_same, rT.sh, rT.nd, rT.dp, rT.ln, rfl, false, congrArg V.bl (by simp), iteF ?_⟩⟩
      have sz := same_upd (o := .tup [.str "told", .int (gF ls hs i : Nat)]) nz
      generalize upd Hg z (.tup [.str "told", .int (gF ls hs i : Nat)]) = Hh at sz
      refine ⟨_, rfl, _, rfl, rfl, false, congrArg V.bl (decide_eq_false fun z => by
        have := V.int.inj z
        have := Gv.ne
        omega), iteF ?_⟩
      obtain ⟨b2, d1, d2, _, _⟩ := secA sz Gv.ql Gv.two
      refine ⟨_, rfl, _, rfl, lf, _, _, _, rfl, rfl, SqT.of (sz _ _ L.e), d1, b2, _, rfl, .inr d2, ?_⟩
      rw [VI_len]
      refine ⟨_, _, rfl, rfl, false, congrArg V.bl (decide_eq_false (by have := Gv.two; omega)), iteF ?_⟩
      refine ⟨_, rfl, gn ?_⟩
      dsimp only [List.set]
      refine seqcut (fun σ' H' => ∃ y9 : Option V, σ' = [some (.ref wi), some (.ref a), some (.ref t), some (.ref U), some (.ref lf), some (.ref p1), some (.ref p2), some (.int (gF ls hs i : Nat)), some (.int (it (gF ls hs) ls.length i : Nat)), y9, y10, some (.int (i : Nat)), none, none] ∧ Same Hh H') ?_ (fun out => ?_)
      · rintro σ' H' ⟨y9, rfl, sl⟩
        have eU2 : H' U = some (.tup (us.map V.ref)) := (sz.trans sl) _ _ (XN.tup x2 (s1 _ _ eU))
        have rp9 : ∀ (j : Nat) (u : Addr) (ps : List (Nat × Nat)), us[j]? = some u → (ringsP ls hs)[j]? = some ps → RP H' u ps := fun j u ps h1 h2 => (((rps.2 j u ps h1 h2).same s1).ext x2).same (sz.trans sl)
        have ul := rps.1
        have rpl : (ringsP ls hs).length = (ringsA (givA ls hs)).length := by unfold ringsP; rw [List.length_map]
        have r60 : (ringsP ls hs).length ≤ 60 := by
          rw [rpl]
          unfold ringsA
          rw [List.length_map]
          refine Nat.le_trans (List.length_filter_le _ _) ?_
          rw [List.length_range, givA_len]
          omega
        have fsts : ∀ R, (prs ls hs R).map Prod.fst = R := fun R => by
          unfold prs
          rw [List.map_map]
          exact List.map_id'' (fun _ => rfl) R
        generalize hy : it (gF ls hs) ls.length i = y at yR
        refine ⟨_, rfl, U, rfl, ⟨_, SqT.of eU2⟩, fun D nD => ?_⟩
        refine lc_pick (walk_tup (K := K) (a := U) (xs := us.map V.ref)) (by rw [List.length_map]; omega) (fun j => decide (y ∈ ((ringsP ls hs).getD j []).map Prod.fst)) (fun j => .ref (us.getD j default)) nD (fun _ sm => SqT.of (sm _ _ eU2)) ?_ ?_
        · rintro j x9 Hd Hd' R9 Z yes' no' hj sm ⟨rfl, ex⟩
          rw [List.length_map] at hj
          have euj : us[j]? = some us[j] := List.getElem?_eq_getElem hj
          rw [List.getElem?_map, euj] at ex
          cases ex
          obtain ⟨ps, eps⟩ : ∃ ps, (ringsP ls hs)[j]? = some ps := ⟨_, List.getElem?_eq_getElem (by omega)⟩
          rw [at_getD eps] at yes' no'
          rw [at_getD euj] at yes'
          obtain ⟨vs, ev, vl, va⟩ := (rp9 j _ ps euj eps).same sm
          have p60 : ps.length ≤ 60 := by
            have := List.mem_of_getElem? eps
            unfold ringsP at this
            obtain ⟨r0, hr0, rfl⟩ := List.mem_map.mp this
            obtain ⟨p0, m0, hp0, cy0, rfl⟩ := ringR hr0
            unfold prs
            rw [List.length_map, ringL_len]
            have := cy0.le fun k => (orb_two ok ho hp0 cy0 k).1
            omega
          refine gn ⟨rfl, _, rfl, _, rfl, us[j], rfl, ⟨_, SqT.of ev⟩, fun D2 nD2 => ?_⟩
          refine lc_same (walk_tup (K := K) (a := us[j]) (xs := vs.map V.ref)) (by rw [List.length_map]; omega) (fun k => .int ((ps.getD k (0, 0)).1 : Nat)) nD2 (fun _ sm2 => SqT.of (sm2 _ _ ev)) ?_ ?_
          · rintro k x8 He He' Z8 out8 hk sm2 ⟨rfl, ex8⟩
            obtain ⟨v, x7, rfl, ex7, ev7⟩ := RP.at vl va ex8
            rw [at_getD ex7] at out8
            exact gn ⟨rfl, _, rfl, v, _, 0, _, rfl, rfl, SqT.of (sm2 _ _ ev7), atI_nat (j := 0) rfl, out8 _ same_rfl⟩
          · intro He sm2 eD2
            have eD3 : He D2 = some (.lst (VI (ps.map Prod.fst))) := by
              rw [eD2, List.length_map, vl, map_getD ps (0, 0) fun x => V.int (x.1 : Nat)]
              unfold VI
              rw [List.map_map]
              rfl
            refine ⟨D2, _, rfl, .inl (SqL.of eD3), rfl, flat_VI _, ?_⟩
            rw [inV_VI]
            refine ⟨_, rfl, ?_⟩
            cases hb : decide (y ∈ ps.map Prod.fst) with
            | true => exact iteT ⟨_, rfl, yes' _ sm2 hb⟩
            | false => exact iteF (no' _ sm2 hb)
        · intro Hd sd eD
          obtain ⟨j0, hj0, ej0⟩ := List.mem_iff_getElem.mp memR
          have at0 : (ringsP ls hs)[j0]? = some (prs ls hs R) := by
            unfold ringsP
            rw [List.getElem?_map, List.getElem?_eq_getElem hj0, ej0]
            rfl
          have j0L : j0 ∈ (List.range (us.map V.ref).length).filter fun j => decide (y ∈ ((ringsP ls hs).getD j []).map Prod.fst) := by
            refine List.mem_filter.mpr ⟨List.mem_range.mpr (by rw [List.length_map]; omega), ?_⟩
            rw [at_getD at0, fsts]
            exact decide_eq_true yR
          have all : ∀ j ∈ (List.range (us.map V.ref).length).filter (fun j => decide (y ∈ ((ringsP ls hs).getD j []).map Prod.fst)), j < us.length ∧ (ringsP ls hs)[j]? = some (prs ls hs R) := fun j hj => by
            obtain ⟨h1, h2⟩ := List.mem_filter.mp hj
            have h1 := List.mem_range.mp h1
            rw [List.length_map] at h1
            have hjr : j < (ringsA (givA ls hs)).length := by omega
            have ej : (ringsP ls hs)[j]? = some (prs ls hs (ringsA (givA ls hs))[j]) := by
              unfold ringsP
              rw [List.getElem?_map, List.getElem?_eq_getElem hjr]
              rfl
            rw [at_getD ej, fsts] at h2
            have := ringsA_uniq (List.getElem_mem hjr) memR (of_decide_eq_true h2) yR
            rw [this] at ej
            exact ⟨h1, ej⟩
          generalize (List.range (us.map V.ref).length).filter (fun j => decide (y ∈ ((ringsP ls hs).getD j []).map Prod.fst)) = LL at eD j0L all
          cases LL with
          | nil => cases j0L
          | cons j1 L' =>
            obtain ⟨h1, h2⟩ := all j1 (by simp)
            have euj : us[j1]? = some us[j1] := List.getElem?_eq_getElem h1
            have rpj := (rp9 j1 _ _ euj h2).same sd
            refine gn ?_
            dsimp only [List.set]
            have sgd := (sz.trans sl).trans sd
            have R60 : (prs ls hs R).length ≤ 60 ∧ ∀ x ∈ prs ls hs R, x.1 < 60 ∧ x.2 < 60 := by
              have hm := List.mem_of_getElem? h2
              constructor
              · obtain ⟨p0, m0, hp0, cy0, rfl⟩ := ringR memR
                unfold prs
                rw [List.length_map, ringL_len]
                have := cy0.le fun k => (orb_two ok ho hp0 cy0 k).1
                omega
              · intro x hx
                have := ringsP_lt ok ho st _ hm x hx
                omega
            have rT := rp_dTR R60.1 R60.2
            refine ⟨_, rfl, p2, dTR (prs ls hs R), rfl, dp_dTR (sgd _ _ e2) (rp2.same sgd), rT.sh, rT.nd, rT.dp, rT.ln, ?_⟩
            refine ⟨_, rfl, D, _, 0, _, rfl, rfl, SqL.of eD, atI_nat (j := 0) rfl, (by show 2 ≤ sizeLine; decide), fun z3 nz3 => ?_⟩
            have sz3 := same_upd (o := .tup [.str "told", .ref (us.getD j1 default)]) nz3
            have rpk : RP (upd Hd z3 (.tup [.str "told", .ref (us.getD j1 default)])) (us.getD j1 default) (prs ls hs R) := by
              rw [at_getD euj]
              have := rpj.same (same_upd (o := .tup [.str "told", .ref us[j1]]) nz3)
              exact this
            refine ⟨z3, dTR (prs ls hs R), rfl, dp_dTR upd_same rpk, rT.sh, rT.nd, rT.dp, rT.ln, rfl, false, congrArg V.bl (by simp), iteF ?_⟩
            exact ⟨_, _, _, _, _, _, _, rfl, x2.trans (xn_of (sgd.trans sz3)), tb2.ext (sgd.trans sz3)⟩
      · have sL : Same H1 H1 := same_rfl
        obtain ⟨xs3, ea3, xl3⟩ := (((lx.same s1).ext x2).same sz).lt.len
        refine ⟨_, rfl, a, _, rfl, .inr (SqT.of ea3), ?_⟩
        rw [xl3]
        refine ⟨_, rfl, by omega, by omega, for_it (J := Itr 0 ls.length) (n := ls.length) walk_range0 (fun j σ H' => ∃ y9 : Option V, σ = [some (.ref wi), some (.ref a), some (.ref t), some (.ref U), some (.ref lf), some (.ref p1), some (.ref p2), some (.int (gF ls hs i : Nat)), some (.int (it (gF ls hs) j i : Nat)), y9, y10, some (.int (i : Nat)), none, none] ∧ Same Hh H')
          ⟨y9, rfl, same_rfl⟩ (fun _ _ _ _ _ => trivial) ?_ ?_⟩
        · rintro j x' σ Hi' Hi hj ⟨y9, rfl, si⟩ ⟨rfl, rfl⟩
          refine gn ?_
          dsimp only [List.set]
          obtain ⟨b3, f1, f2, f3, f4⟩ := secA (sz.trans si) (on j).1 (on j).2
          refine ⟨_, rfl, _, rfl, _, rfl, lf, _, _, _, rfl, rfl, SqT.of ((sz.trans si) _ _ L.e), f1, b3, _, 1, _, rfl, rfl, f2, f3, t, _, _, _, rfl, rfl, SqT.of ((sz.trans si) _ _ eth), atI_nat f4, gn ?_⟩
          dsimp only [List.set]
          exact ⟨_, by rw [it_one], si⟩
        · rintro σ Hi ⟨y9, rfl, si⟩
          exact out _ _ ⟨y9, rfl, si⟩
    · have gi : ha (givA ls hs) i = none := by
        rw [givA_at hi]
        unfold givO
        rw [List.getElem?_eq_none (by omega)]
        rfl
      refine ⟨tba, fun Hb xb tbb => ⟨_, rfl, _, rfl, _, rfl, .inr ⟨wi, t, ns, ls, hs, i, rfl, Wa.ext xb, XN.tup xb eta, ho, hi, gi, fun dd Hc sc ed => ⟨rfl, dd, _, rfl, ed, fun p1 np1 => gn ?_⟩⟩⟩⟩
      dsimp only [List.set]
      have sp1 := same_upd (o := .tup [.str "refused", .str "list"]) np1
      have e1 := upd_same (H := Hc) (a := p1) (o := .tup [.str "refused", .str "list"])
      have x1 := xa.trans (xb.trans (xn_of (sc.trans sp1)))
      have tb1 := tbb.ext (sc.trans sp1)
      generalize upd Hc p1 (.tup [.str "refused", .str "list"]) = Hd at e1 x1 tb1
      refine ⟨tb1, fun He xe tbe => ⟨_, rfl, _, rfl, _, rfl, .inr ⟨wi, t, ns, ls, hs, i, rfl, ((W.same s1).ext x1).ext xe, XN.tup xe (XN.tup x1 (s1 _ _ et)), ho, hi, by omega, fun dd Hf sf ed => ⟨rfl, dd, _, rfl, ed, fun p2 np2 => gn ?_⟩⟩⟩⟩
      dsimp only [List.set]
      have sp2 := same_upd (o := .tup [.str "refused", .str "list"]) np2
      have e2 := upd_same (H := Hf) (a := p2) (o := .tup [.str "refused", .str "list"])
      have x2 := x1.trans (xe.trans (xn_of (sf.trans sp2)))
      have tb2 := tbe.ext (sf.trans sp2)
      have e1' := XN.tup (xe.trans (xn_of (sf.trans sp2))) e1
      generalize upd Hf p2 (.tup [.str "refused", .str "list"]) = Hg at e2 x2 tb2 e1'
      obtain ⟨as, L⟩ := LeftAt.of (llf.ext x2)
      obtain ⟨b1, eb1, t1⟩ := L.row i hi
      have a1 : atI (as.map V.ref) (i : Int) = some (.ref b1) := atI_nat (by rw [List.getElem?_map, eb1]; rfl)
      refine ⟨_, rfl, _, rfl, lf, _, _, _, rfl, rfl, SqT.of L.e, a1, b1, _, rfl, .inr t1.sq, ?_⟩
      rw [VI_len]
      refine ⟨_, _, rfl, rfl, true, congrArg V.bl (decide_eq_true (by omega)), iteT ?_⟩
      refine ⟨_, rfl, (by show 2 ≤ sizeLine; decide), fun z nz => ?_⟩
      have sz := same_upd (o := .tup [.str "refused", .str "list"]) nz
      refine ⟨dSL, dSL, dp_dSL (sz _ _ e1'), dp_dSL upd_same, sh_dSL, sh_dSL, false, congrArg V.bl (by rw [SeqAt.eqv_refl _ (Bool.and_eq_true _ _ ▸ sh_dSL).1]; rfl), iteF ?_⟩
      refine ⟨_, rfl, (by show 2 ≤ sizeLine; decide), fun z2 nz2 => ?_⟩
      have sz2 := same_upd (o := .tup [.str "refused", .str "list"]) nz2
      refine ⟨dSL, dSL, dp_dSL ((sz.trans sz2) _ _ e2), dp_dSL upd_same, sh_dSL, sh_dSL, false, congrArg V.bl (by rw [SeqAt.eqv_refl _ (Bool.and_eq_true _ _ ▸ sh_dSL).1]; rfl), iteF ?_⟩
      exact ⟨_, _, _, _, _, _, _, rfl, x2.trans (xn_of (sz.trans sz2)), tb2.ext (sz.trans sz2)⟩
  · rintro σ Ha ⟨y5, y6, y7, y8, y9, y10, y11, rfl, xa, tba⟩
    exact q _ ((xn_of s1).trans xa) tba
end
end K14
namespace K14
open PySem PySem.Spec PyProof.Rows L2
section
variable {J : It} {n : Nat} {G : Hp → Prop} {Y : Nat → Hp → V → Hp → Prop}
/-- a comprehension with a test, of new things that have a property each, all else as it stood -/
theorem lc_objsF (w : Walk J n G Y) {g : TG} {tt : TT} {te : TE} {vs : List Nat} {σ : L2.St} {H0 : Hp} {D : Addr} {Qd : Hp → Prop} (hn : n ≤ 100000) (sel : Nat → Bool) (Pr : Nat → Hp → Addr → Prop) (mono : ∀ i H H' r, Pr i H r → Same H H' → Pr i H' r)
    (keep : ∀ i H H' r ys, Pr i H r → H D = some (.lst ys) → (∀ b o, b ≠ D → H b = some o → H' b = some o) → Pr i H' r) (nD : H0 D = none) (hG : ∀ H, Same H0 H → G H)
    (hs : ∀ (i : Nat) (x : V) (H H' : Hp) (R : Hp → Prop) (Z : V → Hp → Prop), (∀ r H3, Same H H3 → sel i = true → Pr i H3 r → Z (.ref r) H3) → (∀ H3, Same H H3 → sel i = false → R H3) → i < n → Same H0 H → Y i H x H' → g x (wipe σ vs) H' fun σ2 H2 => wipe σ2 vs = wipe σ vs ∧ tt σ2 H2 fun b H3 => if b = true then te σ2 H3 Z else R H3)
    (hd : ∀ (rs : List Addr) H, Same H0 H → H D = some (.lst (rs.map V.ref)) → All2 (fun r q => Pr q H r) rs ((List.range n).filter sel) → Qd H) :
    ∃ W : Nat → Nat → Hp → Prop, (∃ m, W 0 m (upd H0 D (.lst []))) ∧ ∀ i m H, W i m H →
      (J.stop i H ∧ Qd H) ∨ (J.go i H ∧ ∃ Nx : Hp → Prop, (∀ H', Nx H' → ∃ m', m' < m ∧ W (i + 1) m' H') ∧ ∀ x H', J.yld i H x H' → g x (wipe σ vs) H' fun σ2 H2 => wipe σ2 vs = wipe σ vs ∧ tt σ2 H2 fun b H3 =>
        if b = true then te σ2 H3 fun y H4 => ∃ acc, H4 D = some (.lst acc) ∧ acc.length < sizeLine ∧ Nx (upd H4 D (.lst (acc ++ [y]))) else Nx H3) := by
  refine lc_it w (fun i H => ∃ rs : List Addr, Same H0 H ∧ H D = some (.lst (rs.map V.ref)) ∧ All2 (fun r q => Pr q H r) rs ((List.range i).filter sel)) ⟨[], same_upd nD, upd_same, .nil⟩ (fun i H _ ⟨_, h, _⟩ => hG H h) (fun i x H H' hi ⟨rs, sm, eD, old⟩ y => ?_) (fun H ⟨rs, sm, eD, old⟩ => hd rs H sm eD old)
  have ln : rs.length ≤ i := by
    rw [old.len]
    exact Nat.le_trans (List.length_filter_le _ _) (by rw [List.length_range]; exact Nat.le_refl _)
  refine hs i x H H' (fun H => ∃ rs : List Addr, Same H0 H ∧ H D = some (.lst (rs.map V.ref)) ∧ All2 (fun r q => Pr q H r) rs ((List.range (i + 1)).filter sel)) (fun v H3 => ∃ acc, H3 D = some (.lst acc) ∧ acc.length < sizeLine ∧ (fun H => ∃ rs : List Addr, Same H0 H ∧ H D = some (.lst (rs.map V.ref)) ∧ All2 (fun r q => Pr q H r) rs ((List.range (i + 1)).filter sel)) (upd H3 D (.lst (acc ++ [v])))) (fun r H3 s3 ft er => ?_) (fun H3 s3 ff => ?_) hi sm y
  · have eD3 := s3 _ _ eD
    refine ⟨_, eD3, ?_, rs ++ [r], (sm.trans s3).fresh nD, by rw [upd_same]; simp, ?_⟩
    · rw [List.length_map]
      exact sz6' (by omega)
    · rw [List.range_succ, List.filter_append, List.filter_cons, if_pos ft, List.filter_nil]
      have up : ∀ {q : Nat} {a : Addr}, Pr q H3 a → Pr q (upd H3 D (.lst (rs.map V.ref ++ [.ref r]))) a := fun p => keep _ H3 _ _ _ p eD3 fun b o nb eb => by rw [upd_ne nb]; exact eb
      exact (old.mono fun a q p => up (mono q H H3 a p s3)).app (.cons (up er) .nil)
  · refine ⟨rs, sm.trans s3, s3 _ _ eD, ?_⟩
    rw [List.range_succ, List.filter_append, List.filter_cons, if_neg (by rw [ff]; decide), List.filter_nil, List.append_nil]
    exact old.mono fun a q p => mono q H H3 a p s3
end
end K14
namespace K14
open PySem PySem.Spec PyProof.Rows L2
theorem All2.get {α β : Type} {R : α → β → Prop} : ∀ {xs : List α} {ys : List β}, All2 R xs ys → ∀ (j : Nat) (x : α) (y : β), xs[j]? = some x → ys[j]? = some y → R x y
  | _, _, .nil, _, _, _, e, _ => by cases e
  | _, _, .cons a t, 0, x, y, e1, e2 => by cases e1; cases e2; exact a
  | _, _, .cons a t, j + 1, x, y, e1, e2 => t.get j x y e1 e2
theorem rp_rowsS {ps : List (Nat × Nat)} (l : ps.length ≤ 60) (h : ∀ x ∈ ps, x.1 < 60 ∧ x.2 < 60) : RpI (dL (rows2 ps)) 2 3400 := by
  have := rp_tup (xs := (rows2 ps).map dI) (m := 1) (B := 54) fun d hd => by
    obtain ⟨s, hs, rfl⟩ := List.mem_map.mp hd
    unfold rows2 at hs
    obtain ⟨x, hx, rfl⟩ := List.mem_map.mp hs
    have := rp_tup (xs := [x.1, x.2].map fun j => PyData.int (j : Nat)) (m := 0) (B := 20) fun d hd => by
      obtain ⟨j, hj, rfl⟩ := List.mem_map.mp hd
      simp only [List.mem_cons, List.not_mem_nil, or_false] at hj
      rcases hj with rfl | rfl
      · exact rp_int (Nat.lt_of_lt_of_le (h x hx).1 (by decide))
      · exact rp_int (Nat.lt_of_lt_of_le (h x hx).2 (by decide))
    exact this
  refine this.up (Nat.le_refl _) ?_
  unfold rows2
  rw [List.length_map, List.length_map]
  omega
theorem rp_dRR {R : List (List (Nat × Nat))} (l : R.length ≤ 60) (h : ∀ ps ∈ R, ps.length ≤ 60 ∧ ∀ x ∈ ps, x.1 < 60 ∧ x.2 < 60) : Rp (dRR R) := by
  have := rp_tup (xs := R.map fun ps => dL (rows2 ps)) (m := 2) (B := 3400) fun d hd => by
    obtain ⟨ps, hps, rfl⟩ := List.mem_map.mp hd
    exact rp_rowsS (h ps hps).1 (h ps hps).2
  refine ⟨this.sh, this.nd, Nat.le_trans this.dp (by decide), Nat.le_trans this.ln ?_⟩
  rw [List.length_map]
  exact Nat.le_trans (m := 205000) (by omega) (by show 205000 ≤ sizeLine; decide)
theorem rows2_inj : ∀ {a b : List (Nat × Nat)}, rows2 a = rows2 b → a = b
  | [], [], _ => rfl
  | [], _ :: _, e => by cases e
  | _ :: _, [], e => by cases e
  | x :: a, y :: b, e => by
    unfold rows2 at e
    rw [List.map_cons, List.map_cons] at e
    injection e with e1 e2
    injection e1 with e3 e4
    injection e4 with e5
    have := rows2_inj (a := a) (b := b) e2
    rw [this]
    exact congrArg (· :: b) (Prod.ext e3 e5)
theorem good_in {ls : List (List Nat)} {hs : List (Option Nat)} {ps : List (Nat × Nat)} (hps : ps ∈ ringsP ls hs) : (((goodP ls hs).map fun ps => dL (rows2 ps)).any fun z => PyData.eqv z (dL (rows2 ps))) = !oddB (leftA ls hs) ps := by
  rw [List.any_map, Bool.eq_iff_iff, List.any_eq_true]
  constructor
  · rintro ⟨q, hq, e⟩
    have e : PyData.eqv (dL (rows2 q)) (dL (rows2 ps)) = true := e
    rw [eqvL] at e
    have := rows2_inj (of_decide_eq_true e)
    subst this
    unfold goodP at hq
    exact (List.mem_filter.mp hq).2
  · intro h
    refine ⟨ps, by unfold goodP; exact List.mem_filter.mpr ⟨hps, h⟩, ?_⟩
    show PyData.eqv (dL (rows2 ps)) (dL (rows2 ps)) = true
    rw [eqvL, decide_eq_true rfl]
abbrev rRepr (K : PySem.W.Frag) : List V → Hp → VK → Prop := fun xs H Q => ∃ a d, xs = [V.ref a] ∧ Dp K H (.ref a) d ∧ d.showable = true ∧ d.hasDict = false ∧ d.depth ≤ 60 ∧ d.shown.length ≤ sizeLine ∧ Q (.str d.shown) H
def rRepN (K : PySem.W.Frag) : List V → Hp → VK → Prop := fun xs H Q => (∃ a d, xs = [V.ref a] ∧ Dp K H (.ref a) d ∧ d.showable = true ∧ d.hasDict = false ∧ d.depth ≤ 60 ∧ d.shown.length ≤ sizeLine ∧ Q (.str d.shown) H) ∨ (xs = [.non] ∧ Q (.str "None") H)
theorem call_reprN {X : Cx} (hg : X.A.guards = some []) (hu : X.A.units + 64 < cLine) : CallR X (.builtin "repr") (rRepN X.K) := CallR.or (call_repr hg hu) call_repr_non
theorem flat_strs (s : List Str) : (s.map V.str).all flatV = true := by
  rw [List.all_map, List.all_eq_true]
  intro x _
  rfl
theorem inV_strs (x : Str) (s : List Str) : inV (.str x) (s.map V.str) = s.any fun y => y == x := by
  unfold inV
  rw [List.any_map]
  rfl
theorem ringsP_ne {ls : List (List Nat)} {hs : List (Option Nat)} (ok : ListsOk ls.length ls) (ho : HoldsOk ls hs) {ps : List (Nat × Nat)} (h : ps ∈ ringsP ls hs) : ps ≠ [] := fun z => by
  unfold ringsP at h
  obtain ⟨r, hr, e⟩ := List.mem_map.mp h
  obtain ⟨p, m, hp, cy, rfl⟩ := ringR hr
  rw [z] at e
  have := congrArg List.length e
  unfold prs at this
  rw [List.length_map, ringL_len] at this
  have := cy.one
  simp at *
  omega
theorem RP.bar {H H' : Hp} {h l r : Addr} {ps : List (Nat × Nat)} (t : RP H r ps) (s : Src H h l) (b : Bar h l H H') : RP H' r ps := let ⟨us, e, ln, a⟩ := t; ⟨us, tup_bar s b e, ln, fun j u x e1 e2 => tup_bar s b (a j u x e1 e2)⟩
theorem RPs.bar {H H' : Hp} {h l : Addr} {us : List Addr} {R : List (List (Nat × Nat))} (t : RPs H us R) (s : Src H h l) (b : Bar h l H H') : RPs H' us R := ⟨t.1, fun j u ps e1 e2 => RP.bar (t.2 j u ps e1 e2) s b⟩
theorem spGiversRight_len (C : Addr) (T : List (Addr × Str)) : ∀ vs H Q E, spGiversRight C T vs H Q E → vs.length = (["wishes", "lists", "holds", "dues"] : List Str).length := by
  rintro vs H Q E ⟨wi, a, t, U, ns, ls, hs, us, rfl, _⟩
  rfl
def spRingsRight (C : Addr) (T : List (Addr × Str)) : Sp := fun vs H Q _ => ∃ (h l wi a t : Addr) (ns ls : List (List Nat)) (hs : List (Option Nat)), vs = [.ref h, .ref wi, .ref a, .ref t] ∧ Src H h l ∧ WAt C H wi ns ls ∧ LX H a ls ∧ H t = some (.tup (VH hs)) ∧ HoldsOk ls hs ∧ Std ls hs ∧ LamX.Tabs T H ∧
  ∀ H', Src H' h l → (∀ b o, b ≠ h → b ≠ l → H b = some o → (∀ ps, o ≠ .tbl ps) → H' b = some o) → LamX.Tabs T H' → Q (.bl true) H'
theorem spRingsRight_len (C : Addr) (T : List (Addr × Str)) : ∀ vs H Q E, spRingsRight C T vs H Q E → vs.length = (["heap", "wishes", "lists", "holds"] : List Str).length := by
  rintro vs H Q E ⟨h, l, wi, a, t, ns, ls, hs, rfl, _⟩
  rfl
theorem scRiR : FnScope ["heap", "wishes", "lists", "holds", "rings", "dues", "good", "ring", "value", "due", "one"] ["heap", "wishes", "lists", "holds"] (defScope sLRingsRight) := ⟨rfl, rfl, rfl, by decide +kernel, rfl, by decide +kernel, by decide +kernel⟩
section
variable {P : Program} {w : World} {K : PySem.W.Frag} {mg : Str → Option Value} {base : Heap} {T : List (Addr × Str)}
set_option maxHeartbeats 1000000 in
theorem ok_rings_right {f f1 f2 f3 f4 f5 f6 f7 f8 f9 C : Addr} {fd d1 d2 d3 d4 d5 d6 d7 d8 d9 : FuncData} {k : Nat} (F : Fun K "_law_rings_right" "_law_rings_right" sLRingsRight f fd) (Rg : Has P w K mg base k "_law_rings" ["lists", "holds"] spLRings f1 d1) (Te : Has P w K mg base k "_law_told" ["lists", "holds", "ring"] spLTold f2 d2) (Io : Has P w K mg base k "_law_is_odd" ["lists", "holds", "ring"] spLIsOdd f3 d3)
    (Tr : Has P w K mg base k "turn_rings" ["wishes", "holds"] (spTurnRings C) f4 d4) (nTr : KBinds K d4 ["wishes", "holds"] ["holds", "wishes"] (fun us ws => us ++ ws.reverse) (fun vs zs => vs ++ zs.reverse)) (Gr : Has P w K mg base k "good_rings" ["wishes", "holds"] (spGoodRings C) f5 d5) (nGr : KBinds K d5 ["wishes", "holds"] ["holds", "wishes"] (fun us ws => us ++ ws.reverse) (fun vs zs => vs ++ zs.reverse))
    (Ot : Has P w K mg base k "is_odd_turn" ["wishes", "holds", "ring"] (spIsOddTurn C) f6 d6) (nOt : KBinds K d6 ["wishes", "holds", "ring"] ["ring", "holds", "wishes"] (fun us ws => us ++ ws.reverse) (fun vs zs => vs ++ zs.reverse)) (Sp : Has P w K mg base k "_law_spoilt" ["heap", "ring", "many"] spSpoilt f7 d7)
    (It : Has P w K mg base k "is_turn_ring" ["wishes", "holds", "value"] (spIsTurnRing C) f8 d8) (nIt : KBinds K d8 ["wishes", "holds", "value"] ["value", "holds", "wishes"] (fun us ws => us ++ ws.reverse) (fun vs zs => vs ++ zs.reverse)) (Gi : HasG P w K mg base k "_law_givers_right" ["wishes", "lists", "holds", "dues"] (spGiversRight C T) f9 d9)
    (ml : mg "len" = none) (mt : mg "tuple" = none) (mrp : mg "repr" = none) : RunG P w K mg base (k + 1) f fd ["heap", "wishes", "lists", "holds"] (spRingsRight C T) := by
  refine okG F scRiR (spRingsRight_len C T) (fun cdv A outer s H vs Q E hA hr h => ?_)
  obtain ⟨h, l, wi, a, t, ns, ls, hs, rfl, src, W, lx, et, ho, st, tb, q⟩ := h
  refine ⟨_, pss_cons (ps_set (i := 4) scRiR.nd rfl (.inl rfl) (pe_call Rg.ok hr rfl Rg.m Rg.k Rg.b .nil pass0 (pa_cons (pv 2) (pa_cons (pv 3) pa_nil))))
      (pss_cons (ps_set (i := 5) scRiR.nd rfl (.inl rfl) (pe_callTy call_tuple_of (by rfl) mt (by decide +kernel) (pa_cons (pe_lc (own := [("ring", 7)]) (g := gName 7) (tt := tYes) (te := tCall spLTold [] E0 (tCons (tVar 2) (tCons (tVar 3) (tCons (tVar 7) tNil)))) rfl scRiR.nd (pi_list (pv 4))
          (blkOk_by (own := [("ring", 7)]) (N := ["heap", "wishes", "lists", "holds", "rings", "dues", "good", "ring", "value", "due", "one"]) (sc := defScope sLRingsRight) (by decide +kernel)) (fun _ _ _ _ _ => (pg_name (i := 7) scRiR.nd rfl (Or.inl rfl))) (fun _ _ _ _ _ => pts_nil)
          (fun _ _ _ _ _ => (pe_call Te.ok hr rfl Te.m Te.k Te.b .nil pass0 (pa_cons (pv 2) (pa_cons (pv 3) (pa_cons (pv 7) pa_nil)))))) pa_nil)))
      (pss_cons (ps_set (i := 6) scRiR.nd rfl (.inl rfl) (pe_callTy call_tuple_of (by rfl) mt (by decide +kernel) (pa_cons (pe_lc (own := [("ring", 7)]) (g := gName 7) (tt := tNot (tB (tCall spLIsOdd [] E0 (tCons (tVar 2) (tCons (tVar 3) (tCons (tVar 7) tNil)))))) (te := tCall spLTold [] E0 (tCons (tVar 2) (tCons (tVar 3) (tCons (tVar 7) tNil)))) rfl scRiR.nd (pi_list (pv 4))
          (blkOk_by (own := [("ring", 7)]) (N := ["heap", "wishes", "lists", "holds", "rings", "dues", "good", "ring", "value", "due", "one"]) (sc := defScope sLRingsRight) (by decide +kernel)) (fun _ _ _ _ _ => (pg_name (i := 7) scRiR.nd rfl (Or.inl rfl))) (fun _ _ _ _ _ => (pts_one (pt_not (pt_val (pe_call Io.ok hr rfl Io.m Io.k Io.b .nil pass0 (pa_cons (pv 2) (pa_cons (pv 3) (pa_cons (pv 7) pa_nil))))))))
          (fun _ _ _ _ _ => (pe_call Te.ok hr rfl Te.m Te.k Te.b .nil pass0 (pa_cons (pv 2) (pa_cons (pv 3) (pa_cons (pv 7) pa_nil)))))) pa_nil)))
      (pss_cons (ps_if (PW.pt (pw_or (pt_cmpR op_ne (pe_callB (call_repr hA hr.units) (by rfl) mrp (by decide +kernel) (pa_cons (pe_call Tr.ok hr rfl Tr.m Tr.k Tr.b .nil pass0 (pa_cons (pv 1) (pa_cons (pv 3) pa_nil))) pa_nil)) (pe_callB (call_repr hA hr.units) (by rfl) mrp (by decide +kernel) (pa_cons (pv 5) pa_nil)) (nomark _)) (pw_or1 (pt_cmpR (op_neD hr.units) (pe_named Tr.ok hr rfl Tr.m Tr.k nTr pass0 (pk_cons (pv 3) (pk_cons (pv 1) pk_nil))) (pv 5) (nomark _))))) (pss_one (ps_ret pe_bl)) pss_nil)
      (pss_cons (ps_if (PW.pt (pw_or (pt_cmpR op_ne (pe_callB (call_repr hA hr.units) (by rfl) mrp (by decide +kernel) (pa_cons (pe_call Gr.ok hr rfl Gr.m Gr.k Gr.b .nil pass0 (pa_cons (pv 1) (pa_cons (pv 3) pa_nil))) pa_nil)) (pe_callB (call_repr hA hr.units) (by rfl) mrp (by decide +kernel) (pa_cons (pv 6) pa_nil)) (nomark _)) (pw_or1 (pt_cmpR (op_neD hr.units) (pe_named Gr.ok hr rfl Gr.m Gr.k nGr pass0 (pk_cons (pv 3) (pk_cons (pv 1) pk_nil))) (pv 6) (nomark _))))) (pss_one (ps_ret pe_bl)) pss_nil)
      (pss_cons (ps_for PassesOwn.never rfl (pi_tup (pv 5)) (pg_name (i := 7) scRiR.nd rfl (.inl rfl))
      (pss_cons (ps_if (PW.pt (pw_or (pt_cmpR op_ne (pe_callB call_repr_bl (by rfl) mrp (by decide +kernel) (pa_cons (pe_call Ot.ok hr rfl Ot.m Ot.k Ot.b .nil pass0 (pa_cons (pv 1) (pa_cons (pv 3) (pa_cons (pv 7) pa_nil)))) pa_nil)) (pe_callB call_repr_bl (by rfl) mrp (by decide +kernel) (pa_cons (pe_cmpR (op_notInDT (units65 hr)) (pv 7) (pv 6) rfl) pa_nil)) (nomark _)) (pw_or1 (pt_cmpR op_ne (pe_named Ot.ok hr rfl Ot.m Ot.k nOt pass0 (pk_cons (pv 7) (pk_cons (pv 3) (pk_cons (pv 1) pk_nil)))) (pe_cmpR (op_notInDT (units65 hr)) (pv 7) (pv 6) rfl) (nomark _))))) (pss_one (ps_ret pe_bl)) pss_nil)
      (pss_one (ps_for PassesOwn.never rfl (pi_list (pe_call Sp.ok hr rfl Sp.m Sp.k Sp.b .nil pass0 (pa_cons (pv 0) (pa_cons (pv 7) (pa_cons (pe_callB call_len_seq (by rfl) ml PySem.boot_len (pa_cons (pv 2) pa_nil)) pa_nil))))) (pg_name (i := 8) scRiR.nd rfl (.inl rfl))
      (pss_cons (ps_set (i := 9) scRiR.nd rfl (.inl rfl) (pe_cmpR op_in_seq (pe_callB (call_reprN hA hr.units) (by rfl) mrp (by decide +kernel) (pa_cons (pv 8) pa_nil)) (pe_lc (own := [("one", 10)]) (g := gName 10) (tt := tYes) (te := tCB (rRepr K) (tCons (tVar 10) tNil)) rfl scRiR.nd (pi_tup (pv 5))
          (blkOk_by (own := [("one", 10)]) (N := ["heap", "wishes", "lists", "holds", "rings", "dues", "good", "ring", "value", "due", "one"]) (sc := defScope sLRingsRight) (by decide +kernel)) (fun _ _ _ _ _ => (pg_name (i := 10) scRiR.nd rfl (Or.inl rfl))) (fun _ _ _ _ _ => pts_nil)
          (fun _ _ _ _ _ => (pe_callB (call_repr hA hr.units) (by rfl) mrp (by decide +kernel) (pa_cons (pv 10) pa_nil)))) (by rfl)))
      (pss_one (ps_if (pt_cmpR op_ne (pe_callB call_repr_bl (by rfl) mrp (by decide +kernel) (pa_cons (pe_call It.ok hr rfl It.m It.k It.b .nil pass0 (pa_cons (pv 1) (pa_cons (pv 3) (pa_cons (pv 8) pa_nil)))) pa_nil)) (pe_callB call_repr_bl (by rfl) mrp (by decide +kernel) (pa_cons (pv 9) pa_nil)) (nomark _)) (pss_one (ps_ret pe_bl)) pss_nil)))))))
      (pss_cons (ps_if (pt_cmpR op_isnot_bl (pe_named It.ok hr rfl It.m It.k nIt pass0 (pk_cons (pe_tup pa_nil) (pk_cons (pv 3) (pk_cons (pv 1) pk_nil)))) pe_bl (nomark _)) (pss_one (ps_ret pe_bl)) pss_nil)
      (pss_one (ps_ret (pe_callG Gi.ok (spGiversRight_len C T) hA hr (by rfl) Gi.m Gi.k Gi.b pass0 (pa_cons (pv 1) (pa_cons (pv 2) (pa_cons (pv 3) (pa_cons (pv 5) pa_nil))))))))))))), ?_⟩
  have n60 := W.n60.2
  have ok := W.ok
  refine ⟨_, rfl, _, rfl, a, t, ls, hs, rfl, lx, et, ho, st, ok, by omega, fun rr us H1 s1 nr er unr lsr => gn ?_⟩
  dsimp only [List.set, L2.start]
  have lxs := fun {HZ : Hp} (s : Same H1 HZ) => (lx.same s1).same s
  have ul := lsr.1
  have rpl : (ringsP ls hs).length = (ringsA (givA ls hs)).length := by unfold ringsP; rw [List.length_map]
  have r60 : (ringsP ls hs).length ≤ 60 := by
    rw [rpl]
    unfold ringsA
    rw [List.length_map]
    refine Nat.le_trans (List.length_filter_le _ _) ?_
    rw [List.length_range, givA_len]
    omega
  have RG : ∀ {HZ : Hp} {j : Nat} {x : V}, Same H1 HZ → (us.map V.ref)[j]? = some x → ∃ (u : Addr) (p m : Nat), x = .ref u ∧ RgAt HZ a t u ls hs p m ∧ (ringsP ls hs)[j]? = some (prs ls hs (ringL (gF ls hs) p m)) := fun {HZ j x} s e => by
    rw [List.getElem?_map] at e
    cases eu : us[j]? with
    | none => rw [eu] at e; cases e
    | some u =>
      rw [eu] at e
      cases e
      have hj : j < (ringsA (givA ls hs)).length := by rw [← ul]; exact (List.getElem?_eq_some_iff.mp eu).1
      have er := List.getElem?_eq_getElem hj
      have ew := lsr.2 j u _ eu er
      obtain ⟨p, m, hp, cy, eR⟩ := ringR (List.getElem_mem hj)
      rw [eR] at ew er
      refine ⟨u, p, m, rfl, ⟨lxs s, s _ _ (s1 _ _ et), s _ _ ew, ho, st, ok, n60, hp, cy⟩, ?_⟩
      unfold ringsP
      rw [List.getElem?_map, er]
      rfl
  refine ⟨_, rfl, rr, rfl, ⟨_, SqL.of er⟩, fun D nD => ?_⟩
  refine lc_objs (walk_list (K := K) (a := rr) (xs := us.map V.ref)) (by rw [List.length_map]; omega) (fun j H r => RP H r ((ringsP ls hs).getD j [])) (fun _ _ _ _ h s => h.same s) (fun _ _ _ _ _ h e k => h.keep e k) nD (fun _ sm => SqL.of (sm _ _ er)) ?_ ?_
  · rintro j x Hb Hb' Z out hj sm ⟨rfl, ex⟩
    obtain ⟨u, p, m, rfl, R, eP⟩ := RG sm ex
    refine gn ⟨rfl, _, rfl, _, rfl, _, rfl, a, t, u, ls, hs, p, m, rfl, R, fun c Hc sc rp => out c Hc sc ?_⟩
    rw [at_getD eP]
    exact rp
  intro rs H2 s2 eD rl2 rq
  rw [List.length_map] at rl2
  refine ⟨D, _, rfl, .inl ⟨SqL.of eD, fun U nU => gn ?_⟩⟩
  dsimp only [List.set]
  have sU := same_upd (o := .tup (rs.map V.ref)) nU
  have eU := upd_same (H := H2) (a := U) (o := .tup (rs.map V.ref))
  have rpU : RPs (upd H2 U (.tup (rs.map V.ref))) rs (ringsP ls hs) := ⟨by omega, fun j u ps e1 e2 => by
    have := (rq j u e1).same sU
    rw [at_getD e2] at this
    exact this⟩
  have s13 := s2.trans sU
  generalize upd H2 U (.tup (rs.map V.ref)) = H3 at sU eU rpU s13
  refine ⟨_, rfl, rr, rfl, ⟨_, SqL.of (s13 _ _ er)⟩, fun D2 nD2 => ?_⟩
  refine lc_objsF (walk_list (K := K) (a := rr) (xs := us.map V.ref)) (by rw [List.length_map]; omega) (fun j => !oddB (leftA ls hs) ((ringsP ls hs).getD j [])) (fun j H r => RP H r ((ringsP ls hs).getD j [])) (fun _ _ _ _ h s => h.same s) (fun _ _ _ _ _ h e k => h.keep e k) nD2 (fun _ sm => SqL.of ((s13.trans sm) _ _ er)) ?_ ?_
  · rintro j x Hb Hb' R9 Z yes' no' hj sm ⟨rfl, ex⟩
    obtain ⟨u, p, m, rfl, R, eP⟩ := RG (s13.trans sm) ex
    rw [at_getD eP] at yes' no'
    refine gn ⟨rfl, _, rfl, _, rfl, _, rfl, a, t, u, ls, hs, p, m, rfl, R, fun Hc sc => ⟨_, rfl, ?_⟩⟩
    cases hb : oddB (leftA ls hs) (prs ls hs (ringL (gF ls hs) p m)) with
    | true => exact iteF (no' _ sc (by rw [hb]; rfl))
    | false => exact iteT ⟨_, rfl, _, rfl, _, rfl, a, t, u, ls, hs, p, m, rfl, R.same sc, fun c Hd sd rp => yes' c Hd (sc.trans sd) (by rw [hb]; rfl) rp⟩
  intro gs H4 s4 eD4 gq
  refine ⟨D2, _, rfl, .inl ⟨SqL.of eD4, fun g ng => gn ?_⟩⟩
  dsimp only [List.set]
  have sg := same_upd (o := .tup (gs.map V.ref)) ng
  have eg := upd_same (H := H4) (a := g) (o := .tup (gs.map V.ref))
  have gsel := sel_filter (ringsP ls hs) fun ps => !oddB (leftA ls hs) ps
  have eg2 : (List.range (us.map V.ref).length).filter (fun j => !oddB (leftA ls hs) ((ringsP ls hs).getD j [])) = (List.range (ringsP ls hs).length).filter (fun j => !oddB (leftA ls hs) ((ringsP ls hs).getD j [])) := by rw [List.length_map, ul, rpl]
  have rpg : RPs (upd H4 g (.tup (gs.map V.ref))) gs (goodP ls hs) := by
    rw [eg2] at gq
    unfold goodP
    rw [← gsel]
    refine ⟨by rw [List.length_map]; exact gq.len, fun j u ps e1 e2 => ?_⟩
    rw [List.getElem?_map] at e2
    cases e : ((List.range (ringsP ls hs).length).filter fun j => !oddB (leftA ls hs) ((ringsP ls hs).getD j default))[j]? with
    | none => rw [e] at e2; cases e2
    | some q0 =>
      rw [e] at e2
      cases e2
      exact (gq.get j u q0 e1 e).same sg
  have s15 := s13.trans (s4.trans sg)
  have eU5 := (s4.trans sg) _ _ eU
  have rpU5 := rpU.same (s4.trans sg)
  generalize upd H4 g (.tup (gs.map V.ref)) = H5 at eg rpg s15 eU5 rpU5
  have s05 := s1.trans s15
  have hP : ∀ ps ∈ ringsP ls hs, ps.length ≤ 60 ∧ ∀ x ∈ ps, x.1 < 60 ∧ x.2 < 60 := fun ps hps => by
    refine ⟨?_, fun x hx => by have := ringsP_lt ok ho st ps hps x hx; omega⟩
    unfold ringsP at hps
    obtain ⟨r0, hr0, rfl⟩ := List.mem_map.mp hps
    obtain ⟨p0, m0, hp0, cy0, rfl⟩ := ringR hr0
    unfold prs
    rw [List.length_map, ringL_len]
    have := cy0.le fun k => (orb_two ok ho hp0 cy0 k).1
    omega
  have hG : ∀ ps ∈ goodP ls hs, ps ∈ ringsP ls hs := fun ps h => by unfold goodP at h; exact (List.mem_filter.mp h).1
  have rP := rp_dRR r60 hP
  have rG : Rp (dRR (goodP ls hs)) := rp_dRR (by unfold goodP; exact Nat.le_trans (List.length_filter_le _ _) r60) fun ps h => hP ps (hG ps h)
  have W5 := W.same s05
  have et5 := s05 _ _ et
  have eqs : ∀ {d : PyData}, SeqAt.shaped d = true → PyData.eqv d d = true := fun h => SeqAt.eqv_refl _ (Bool.and_eq_true _ _ ▸ h).1
  refine ⟨_, rfl, _, rfl, wi, t, ns, ls, hs, rfl, W5, et5, ho, fun c6 us6 H6 s6 e6 rp6 => ⟨c6, _, rfl, dp_dRR e6 rp6, rP.sh, rP.nd, rP.dp, rP.ln, ?_⟩⟩
  refine ⟨_, rfl, U, _, rfl, dp_dRR (s6 _ _ eU5) (rpU5.same s6), rP.sh, rP.nd, rP.dp, rP.ln, rfl, false, congrArg V.bl (by simp), iteF ?_⟩
  refine ⟨_, rfl, _, rfl, wi, t, ns, ls, hs, rfl, W5.same s6, s6 _ _ et5, ho, fun c7 us7 H7 s7 e7 rp7 => ?_⟩
  have s57 := s6.trans s7
  refine ⟨_, rfl, dRR (ringsP ls hs), dRR (ringsP ls hs), dp_dRR e7 rp7, dp_dRR (s57 _ _ eU5) (rpU5.same s57), sh_dRR _, sh_dRR _, false, congrArg V.bl (by rw [eqs (sh_dRR _)]; rfl), iteF ?_⟩
  refine ⟨_, rfl, _, rfl, wi, t, ns, ls, hs, rfl, W5.same s57, s57 _ _ et5, ho, fun c8 us8 H8 s8 e8 rp8 => ⟨c8, _, rfl, dp_dRR e8 rp8, rG.sh, rG.nd, rG.dp, rG.ln, ?_⟩⟩
  have s58 := s57.trans s8
  refine ⟨_, rfl, g, _, rfl, dp_dRR (s58 _ _ eg) (rpg.same s58), rG.sh, rG.nd, rG.dp, rG.ln, rfl, false, congrArg V.bl (by simp), iteF ?_⟩
  refine ⟨_, rfl, _, rfl, wi, t, ns, ls, hs, rfl, W5.same s58, s58 _ _ et5, ho, fun c9 us9 H9 s9 e9 rp9 => ?_⟩
  have s59 := s58.trans s9
  refine ⟨_, rfl, dRR (goodP ls hs), dRR (goodP ls hs), dp_dRR e9 rp9, dp_dRR (s59 _ _ eg) (rpg.same s59), sh_dRR _, sh_dRR _, false, congrArg V.bl (by rw [eqs (sh_dRR _)]; rfl), iteF ?_⟩
  have s09 := s05.trans s59
  have eU9 := s59 _ _ eU5
  have rpU9 := rpU5.same s59
  have eg9 := s59 _ _ eg
  have rpg9 := rpg.same s59
  have W9' := W.same s09
  have src9 := src.same s09
  have lx9 := lx.same s09
  have et9 := s09 _ _ et
  have tb9 := tb.ext s09
  refine ⟨_, rfl, U, rfl, ⟨_, SqT.of eU9⟩, for_it (walk_tup (K := K) (a := U) (xs := rs.map V.ref)) (fun j σ H' => ∃ y7 y8 y9 : Option V, σ = [some (.ref h), some (.ref wi), some (.ref a), some (.ref t), some (.ref rr), some (.ref U), some (.ref g), y7, y8, y9, none] ∧ Src H' h l ∧ Bar h l H9 H')
    ⟨none, none, none, rfl, src9, .refl⟩ (fun _ σ H' _ ⟨_, _, _, _, _, br⟩ => SqT.of (tup_bar src9 br eU9)) ?_ ?_⟩
  · rintro j x σ Ha' Ha hj ⟨y7, y8, y9, rfl, sra, bra⟩ ⟨rfl, ex⟩
    obtain ⟨u, eu, rfl⟩ : ∃ u, rs[j]? = some u ∧ x = .ref u := by
      rw [List.getElem?_map] at ex
      cases e : rs[j]? with
      | none => rw [e] at ex; cases ex
      | some u => rw [e] at ex; exact ⟨u, rfl, (Option.some.inj ex).symm⟩
    obtain ⟨ps, eps⟩ : ∃ ps, (ringsP ls hs)[j]? = some ps := ⟨_, List.getElem?_eq_getElem (by rw [← rpU9.1]; exact (List.getElem?_eq_some_iff.mp eu).1)⟩
    have hps := List.mem_of_getElem? eps
    have rpa := RP.bar (rpU9.2 j u ps eu eps) src9 bra
    have Wa := W9'.bar src9 bra
    have eta := tup_bar src9 bra et9
    have ega := tup_bar src9 bra eg9
    have rpga := RPs.bar rpg9 src9 bra
    obtain ⟨pl60, plt⟩ := hP ps hps
    have pn := ringsP_lt ok ho st ps hps
    refine gn ?_
    dsimp only [List.set]
    have gi := good_in hps
    refine ⟨_, rfl, _, rfl, _, rfl, wi, t, u, ns, ls, hs, ps, rfl, Wa, eta, ho, rpa, by omega, fun x hx => (pn x hx).1, fun Hb sb => ⟨_, rfl, ?_⟩⟩
    refine ⟨_, rfl, _, rfl, dL (rows2 ps), (goodP ls hs).map fun ps => dL (rows2 ps), dp_dL (rpa.same sb).lt, dp_dRR (sb _ _ ega) (rpga.same sb), sh_dL _, sh_dRR _, _, rfl, ?_⟩
    rw [gi, Bool.not_not]
    refine ⟨rfl, false, congrArg V.bl (by simp), iteF ?_⟩
    refine ⟨_, rfl, _, rfl, _, rfl, wi, t, u, ns, ls, hs, ps, rfl, Wa.same sb, sb _ _ eta, ho, rpa.same sb, by omega, fun x hx => (pn x hx).1, fun Hc sc => ?_⟩
    have sbc := sb.trans sc
    refine ⟨_, rfl, _, rfl, dL (rows2 ps), (goodP ls hs).map fun ps => dL (rows2 ps), dp_dL (rpa.same sbc).lt, dp_dRR (sbc _ _ ega) (rpga.same sbc), sh_dL _, sh_dRR _, ?_⟩
    rw [gi, Bool.not_not]
    refine ⟨rfl, false, congrArg V.bl (by simp), iteF ?_⟩
    have srb := sra.same sbc
    obtain ⟨xsL, eaL, xlL⟩ := ((lx9.bar src9 bra).same sbc).lt.len
    have rpc := rpa.same sbc
    obtain ⟨une1, une2⟩ : u ≠ h ∧ u ≠ l := by
      obtain ⟨_, e, _⟩ := rpc
      exact srb.ne e fun _ z => by cases z
    have pne := ringsP_ne ok ho hps
    refine ⟨_, rfl, _, rfl, _, rfl, a, _, rfl, .inr (SqT.of eaL), ?_⟩
    rw [xlL]
    refine ⟨h, l, u, ls.length, ps, rfl, srb, rpc, une1, une2, List.length_pos_iff.mpr pne, pl60, plt, by have := W.n60.1; omega, n60, fun Dv vs' Hd srd brd eDv dh dl vl vn => ⟨Dv, rfl, ⟨_, SqL.of eDv⟩, ?_⟩⟩
    have b9d := bra.trans ((Bar.same sbc).trans brd)
    have Wd := W9'.bar src9 b9d
    have etd := tup_bar src9 b9d et9
    have eUd := tup_bar src9 b9d eU9
    have rpUd := RPs.bar rpU9 src9 b9d
    refine for_it (walk_list (K := K) (a := Dv) (xs := vs')) (fun _ σ H' => ∃ y8 y9 : Option V, σ = [some (.ref h), some (.ref wi), some (.ref a), some (.ref t), some (.ref rr), some (.ref U), some (.ref g), some (.ref u), y8, y9, none] ∧ Same Hd H')
      ⟨y8, y9, rfl, same_rfl⟩ (fun _ σ H' _ ⟨_, _, _, sm⟩ => SqL.of (sm _ _ eDv)) ?_ ?_
    · rintro i v σ He' He hi ⟨y8, y9, rfl, se⟩ ⟨rfl, ev⟩
      have nv := vn v (List.mem_of_getElem? ev)
      obtain ⟨d, vd0, rpd⟩ := nv.d
      have vd := vd0.same se
      have rd : Rp d := ⟨rpd.sh, rpd.nd, Nat.le_trans rpd.dp (by decide), Nat.le_trans rpd.ln (by show 20000 ≤ sizeLine; decide)⟩
      refine gn ?_
      dsimp only [List.set]
      refine ⟨_, rfl, ?_⟩
      have rest : ∀ {Q : VK}, Q (.str d.shown) He → rRepN K [v] He Q := fun {Q} q0 => by
        rcases nv with f | ⟨a', xs, rfl, _⟩
        · subst f
          refine .inr ⟨rfl, ?_⟩
          have : d = .none := by
            cases vd0 with
            | flat f => cases f; rfl
          rw [this] at q0
          simpa only [PyData.shown] using q0
        · exact .inl ⟨a', d, rfl, vd.dp, rd.sh, rd.nd, rd.dp, rd.ln, q0⟩
      dsimp only [L2.tNil]
      refine rest ?_
      refine ⟨_, rfl, U, rfl, ⟨_, SqT.of (se _ _ eUd)⟩, fun D3 nD3 => ?_⟩
      refine lc_same (walk_tup (K := K) (a := U) (xs := rs.map V.ref)) (by rw [List.length_map]; omega) (fun k => .str (dL (rows2 ((ringsP ls hs).getD k []))).shown) nD3 (fun _ sm => SqT.of ((se.trans sm) _ _ eUd)) ?_ ?_
      · rintro k x8 Hf Hf' Z8 out8 hk sm ⟨rfl, ex8⟩
        rw [List.getElem?_map] at ex8
        cases ek : rs[k]? with
        | none => rw [ek] at ex8; cases ex8
        | some u8 =>
          rw [ek] at ex8
          cases ex8
          obtain ⟨p8, ep8⟩ : ∃ p8, (ringsP ls hs)[k]? = some p8 := ⟨_, List.getElem?_eq_getElem (by rw [← rpU9.1]; exact (List.getElem?_eq_some_iff.mp ek).1)⟩
          have h8 := hP p8 (List.mem_of_getElem? ep8)
          have r8 := rp_rowsS h8.1 h8.2
          rw [at_getD ep8] at out8
          exact gn ⟨rfl, _, rfl, u8, _, rfl, dp_dL ((rpUd.2 k u8 p8 ek ep8).same (se.trans sm)).lt, r8.sh, r8.nd, Nat.le_trans r8.dp (by decide), Nat.le_trans r8.ln (by show 3400 ≤ sizeLine; decide), out8 _ same_rfl⟩
      · intro Hf sm eD3
        have eD4' : Hf D3 = some (.lst (((ringsP ls hs).map fun ps => (dL (rows2 ps)).shown).map V.str)) := by
          rw [eD3, List.length_map, rpU9.1, map_getD (ringsP ls hs) [] fun ps => V.str (dL (rows2 ps)).shown, List.map_map]
          rfl
        refine ⟨D3, _, rfl, .inl (SqL.of eD4'), rfl, flat_strs _, ?_⟩
        rw [inV_strs]
        have ib : (((ringsP ls hs).map fun ps => (dL (rows2 ps)).shown).any fun y => y == d.shown) = isRingB ls hs d := by
          unfold isRingB
          rw [List.any_map]
          refine congrArg (fun f => (ringsP ls hs).any f) (funext fun ps => ?_)
          show ((dL (rows2 ps)).shown == d.shown) = _
          rw [Bool.eq_iff_iff, beq_iff_eq, decide_eq_true_eq]
        rw [ib]
        refine gn ?_
        dsimp only [List.set]
        have sf := se.trans sm
        refine ⟨_, rfl, _, rfl, _, rfl, wi, t, v, ns, ls, hs, d, rfl, Wd.same sf, sf _ _ etd, ho, st, vd0.same sf, fun Hg sg' => ⟨_, rfl, ?_⟩⟩
        refine ⟨_, rfl, _, rfl, rfl, false, congrArg V.bl (by simp), iteF ?_⟩
        exact ⟨_, _, rfl, sf.trans sg'⟩
    · rintro σ He ⟨y8, y9, rfl, se⟩
      exact ⟨_, _, _, rfl, srd.same se, b9d.trans (.same se)⟩
  · rintro σ Ha ⟨y7, y8, y9, rfl, sra, bra⟩
    have Wa := W9'.bar src9 bra
    have eta := tup_bar src9 bra et9
    have tba := Tabs.bar tb9 src9 bra
    refine ⟨(by show 0 ≤ sizeLine; decide), fun z nz => ?_⟩
    have sz := same_upd (o := .tup []) nz
    refine ⟨_, rfl, _, rfl, wi, t, .ref z, ns, ls, hs, .tuple [], rfl, Wa.same sz, sz _ _ eta, ho, st, .tup upd_same (by simp) .nil, fun Hb sb => ?_⟩
    have rf : isRingB ls hs (.tuple []) = false := by
      unfold isRingB
      rw [Bool.eq_false_iff]
      intro h
      obtain ⟨ps, hps, e⟩ := List.any_eq_true.mp h
      have e := ShX.shown_inj (pln_dL _) (by simp [ShX.pln, ShX.plnAll]) (of_decide_eq_true e)
      have := ringsP_ne ok ho hps
      cases ps with
      | nil => exact this rfl
      | cons x t => unfold dL rows2 at e; cases e
    rw [rf]
    refine ⟨_, _, rfl, rfl, false, congrArg V.bl (by simp), iteF ?_⟩
    have szb := sz.trans sb
    have lxb := (lx9.bar src9 bra).same szb
    refine ⟨_, rfl, _, rfl, _, rfl, _, rfl, wi, a, t, U, ns, ls, hs, rs, rfl, Wa.same szb, lxb, szb _ _ eta, ho, st, szb _ _ (tup_bar src9 bra eU9), (RPs.bar rpU9 src9 bra).same szb, tba.ext szb, fun Hc xc tbc => ?_⟩
    refine q Hc ((sra.same szb).ext xc) (fun b o n1 n2 e nt => xc _ _ (szb _ _ (bra _ _ n1 n2 (s09 _ _ e))) nt) tbc
end
end K14
/-! tuples that are written out: what stands behind them, said once -/
namespace K14
open PySem PySem.Spec PyProof.Rows L2
def PC (c : V) : Hp → V → Prop := fun _ v => v = c
def PT (P : Hp → List V → Prop) : Hp → V → Prop := fun H v => ∃ p xs, v = .ref p ∧ H p = some (.tup xs) ∧ P H xs
def PNl : Hp → List V → Prop := fun _ xs => xs = []
def PCn (P : Hp → V → Prop) (R : Hp → List V → Prop) : Hp → List V → Prop := fun H xs => ∃ x r, xs = x :: r ∧ P H x ∧ R H r
structure LitE (t : TE) (P : Hp → V → Prop) : Prop where
  mono : ∀ H H' v, P H v → Same H H' → P H' v
  run : ∀ σ H (Q : VK), (∀ v H', Same H H' → P H' v → Q v H') → t σ H Q
structure LitA (t : TA) (n : Nat) (P : Hp → List V → Prop) : Prop where
  mono : ∀ H H' v, P H v → Same H H' → P H' v
  len : ∀ H xs, P H xs → xs.length = n
  run : ∀ σ H (Q : List V → Hp → Prop), (∀ xs H', Same H H' → P H' xs → Q xs H') → t σ H Q
theorem lC {c : V} : LitE (tC c) (PC c) := ⟨fun _ _ _ h _ => h, fun _ H _ q => q _ H (Same.refl H) rfl⟩
theorem lNil : LitA tNil 0 PNl := ⟨fun _ _ _ h _ => h, fun _ _ h => by rw [h]; rfl, fun _ H _ q => q _ H (Same.refl H) rfl⟩
theorem lCons {t : TE} {P : Hp → V → Prop} {ts : TA} {n : Nat} {R : Hp → List V → Prop} (a : LitE t P) (r : LitA ts n R) : LitA (tCons t ts) (n + 1) (PCn P R) where
  mono := fun H H' v ⟨x, xs, e, h1, h2⟩ s => ⟨x, xs, e, a.mono _ _ _ h1 s, r.mono _ _ _ h2 s⟩
  len := fun H xs ⟨x, ys, e, _, h2⟩ => by rw [e, List.length_cons, r.len _ _ h2]
  run := fun σ H Q q => a.run σ H _ fun x H1 s1 p1 => r.run σ H1 _ fun xs H2 s2 p2 => q _ H2 (s1.trans s2) ⟨x, xs, rfl, a.mono _ _ _ p1 s2, p2⟩
theorem lTup {ts : TA} {n : Nat} {R : Hp → List V → Prop} (r : LitA ts n R) (h : n ≤ 1000 := by decide) : LitE (tTup ts) (PT R) where
  mono := fun H H' v ⟨p, xs, e, h1, h2⟩ s => ⟨p, xs, e, s _ _ h1, r.mono _ _ _ h2 s⟩
  run := fun σ H Q q => r.run σ H _ fun xs H1 s1 p1 => ⟨by rw [r.len _ _ p1]; exact Nat.le_trans h (by rw [sizeLine_eq]; decide), fun p np => by
    have s2 : Same H1 (upd H1 p (.tup xs)) := fun b x e => by
      rw [upd_ne (ne_of_none e np)]
      exact e
    exact q _ _ (s1.trans s2) ⟨p, xs, rfl, upd_same, r.mono _ _ _ p1 s2⟩⟩
end K14
namespace K14
open PySem PySem.Spec PyProof.Rows L2
/-! ### the wishes that the law writes out -/
def lsW : List (List Nat) := [[1, 3, 2], [2, 0, 3], [3, 1, 0], [0, 2, 1]]
def nsW : List (List Nat) := [[97], [98], [99], [100]]
theorem okW : ListsOk lsW.length lsW := lists_of (by decide +kernel)
theorem nokW : NamesOk lsW.length nsW := names_look (ns := nsW) (by decide +kernel)
theorem VNW : VN nsW = [.str "a", .str "b", .str "c", .str "d"] := by
  unfold VN nsW
  have e : ∀ (s : List Nat) (x : Str), x = SS s → V.str (SS s) = V.str x := fun s x h => by rw [h]
  simp only [List.map_cons, List.map_nil]
  rw [e [97] "a" (by decide +kernel), e [98] "b" (by decide +kernel), e [99] "c" (by decide +kernel), e [100] "d" (by decide +kernel)]
def hWA : List (Option Nat) := [some 3, some 0, some 1, some 2]
def hWB : List (Option Nat) := [some 3, some 2, some 1, some 0]
def hWC : List (Option Nat) := [some 1, some 0, some 3, some 2]
theorem hokA : HoldsOk lsW hWA := holds_of (by decide +kernel)
theorem hokB : HoldsOk lsW hWB := holds_of (by decide +kernel)
theorem hokC : HoldsOk lsW hWC := holds_of (by decide +kernel)
theorem lt_four {H : Hp} {t r1 r2 r3 r4 : Addr} {s1 s2 s3 s4 : List Nat} (e : H t = some (.tup [.ref r1, .ref r2, .ref r3, .ref r4]))
    (e1 : H r1 = some (.tup (VI s1))) (e2 : H r2 = some (.tup (VI s2))) (e3 : H r3 = some (.tup (VI s3))) (e4 : H r4 = some (.tup (VI s4))) : LT H t [s1, s2, s3, s4] := by
  refine ⟨[r1, r2, r3, r4], e, rfl, fun i a s h1 h2 => ?_⟩
  match i, h1, h2 with
  | 0, h1, h2 => cases h1; cases h2; exact .inl e1
  | 1, h1, h2 => cases h1; cases h2; exact .inl e2
  | 2, h1, h2 => cases h1; cases h2; exact .inl e3
  | 3, h1, h2 => cases h1; cases h2; exact .inl e4
  | _ + 4, h1, h2 => cases h1
/-- tuples of numbers, written out -/
abbrev pI (n : Int) : Hp → V → Prop := PC (.int n)
theorem pt4 {H : Hp} {v : V} {a b c d : Int} (h : PT (PCn (pI a) (PCn (pI b) (PCn (pI c) (PCn (pI d) PNl)))) H v) : ∃ p, v = .ref p ∧ H p = some (.tup [.int a, .int b, .int c, .int d]) := by
  obtain ⟨p, xs, rfl, e, x1, r1, rfl, rfl, x2, r2, rfl, rfl, x3, r3, rfl, rfl, x4, r4, rfl, rfl, rfl⟩ := h
  exact ⟨p, rfl, e⟩
theorem pt3 {H : Hp} {v : V} {a b c : Int} (h : PT (PCn (pI a) (PCn (pI b) (PCn (pI c) PNl))) H v) : ∃ p, v = .ref p ∧ H p = some (.tup [.int a, .int b, .int c]) := by
  obtain ⟨p, xs, rfl, e, x1, r1, rfl, rfl, x2, r2, rfl, rfl, x3, r3, rfl, rfl, rfl⟩ := h
  exact ⟨p, rfl, e⟩
theorem pt2 {H : Hp} {v : V} {a b : Int} (h : PT (PCn (pI a) (PCn (pI b) PNl)) H v) : ∃ p, v = .ref p ∧ H p = some (.tup [.int a, .int b]) := by
  obtain ⟨p, xs, rfl, e, x1, r1, rfl, rfl, x2, r2, rfl, rfl, rfl⟩ := h
  exact ⟨p, rfl, e⟩
theorem rp_two {H : Hp} {v : V} {a b c d : Nat} (h : PT (PCn (PT (PCn (pI a) (PCn (pI b) PNl))) (PCn (PT (PCn (pI c) (PCn (pI d) PNl))) PNl)) H v) : ∃ p, v = .ref p ∧ RP H p [(a, b), (c, d)] := by
  obtain ⟨p, xs, rfl, e, x1, r1, rfl, h1, x2, r2, rfl, h2, rfl⟩ := h
  obtain ⟨p1, rfl, e1⟩ := pt2 h1
  obtain ⟨p2, rfl, e2⟩ := pt2 h2
  refine ⟨p, rfl, [p1, p2], e, rfl, fun j u x h1 h2 => ?_⟩
  match j, h1, h2 with
  | 0, h1, h2 => cases h1; cases h2; exact e1
  | 1, h1, h2 => cases h1; cases h2; exact e2
  | _ + 2, h1, h2 => cases h1
theorem rp_three {H : Hp} {v : V} {a b c d e f : Nat} (h : PT (PCn (PT (PCn (pI a) (PCn (pI b) PNl))) (PCn (PT (PCn (pI c) (PCn (pI d) PNl))) (PCn (PT (PCn (pI e) (PCn (pI f) PNl))) PNl))) H v) : ∃ p, v = .ref p ∧ RP H p [(a, b), (c, d), (e, f)] := by
  obtain ⟨p, xs, rfl, e, x1, r1, rfl, h1, x2, r2, rfl, h2, x3, r3, rfl, h3, rfl⟩ := h
  obtain ⟨p1, rfl, e1⟩ := pt2 h1
  obtain ⟨p2, rfl, e2⟩ := pt2 h2
  obtain ⟨p3, rfl, e3⟩ := pt2 h3
  refine ⟨p, rfl, [p1, p2, p3], e, rfl, fun j u x h1 h2 => ?_⟩
  match j, h1, h2 with
  | 0, h1, h2 => cases h1; cases h2; exact e1
  | 1, h1, h2 => cases h1; cases h2; exact e2
  | 2, h1, h2 => cases h1; cases h2; exact e3
  | _ + 3, h1, h2 => cases h1
theorem pt3n {H : Hp} {v : V} {a b c : Int} (h : PT (PCn (pI a) (PCn (pI b) (PCn (pI c) (PCn (PC .non) PNl)))) H v) : ∃ p, v = .ref p ∧ H p = some (.tup [.int a, .int b, .int c, .non]) := by
  obtain ⟨p, xs, rfl, e, x1, r1, rfl, rfl, x2, r2, rfl, rfl, x3, r3, rfl, rfl, x4, r4, rfl, rfl, rfl⟩ := h
  exact ⟨p, rfl, e⟩
/-! ### and those with an odd ring -/
def lsO : List (List Nat) := [[1, 2, 3], [2, 0, 3], [0, 1, 3], [0, 1, 2]]
theorem okO : ListsOk lsO.length lsO := lists_of (by decide +kernel)
theorem nokO : NamesOk lsO.length nsW := names_look (ns := nsW) (by decide +kernel)
def hO : List (Option Nat) := [some 2, some 0, some 1, none]
theorem hokO : HoldsOk lsO hO := holds_of (by decide +kernel)
theorem oddO : oddB (leftA lsO hO) [(0, 1), (1, 2), (2, 0)] = true := by decide +kernel
theorem oddA : oddB (leftA lsW hWA) [(0, 1), (2, 3)] = false := by decide +kernel
theorem oddA2 : oddB (leftA lsW hWA) [(1, 2), (3, 0)] = false := by decide +kernel
theorem four_of {hs : List (Option Nat)} {a b c d : Option Nat} (l : hs.length = 4) (h0 : ha hs 0 = a) (h1 : ha hs 1 = b) (h2 : ha hs 2 = c) (h3 : ha hs 3 = d) : hs = [a, b, c, d] := by
  match hs, l with
  | [x, y, z, t], _ => rw [← h0, ← h1, ← h2, ← h3]; rfl
theorem pastA {hs' : List (Option Nat)} (P : Past hWA [(0, 1), (2, 3)] hs') : hs' = hWB :=
  four_of P.len (P.no 0 fun x hx => by simp at hx; rcases hx with rfl | rfl <;> decide) (P.yes 0 (0, 1) (2, 3) rfl rfl) (P.no 2 fun x hx => by simp at hx; rcases hx with rfl | rfl <;> decide) (P.yes 1 (2, 3) (0, 1) rfl rfl)
theorem pastA2 {hs' : List (Option Nat)} (P : Past hWA [(1, 2), (3, 0)] hs') : hs' = hWC :=
  four_of P.len (P.yes 1 (3, 0) (1, 2) rfl rfl) (P.no 1 fun x hx => by simp at hx; rcases hx with rfl | rfl <;> decide) (P.yes 0 (1, 2) (3, 0) rfl rfl) (P.no 3 fun x hx => by simp at hx; rcases hx with rfl | rfl <;> decide)
/-- a pair, made -/
theorem tup_two {t1 t2 : TE} {σ : L2.St} {H : Hp} {Q : VK} (h : t1 σ H fun v H1 => t2 σ H1 fun u H2 => ([v, u] : List V).length ≤ sizeLine ∧ ∀ p, H2 p = none → Q (.ref p) (upd H2 p (.tup [v, u]))) : tTup (tCons t1 (tCons t2 tNil)) σ H Q := h
end K14
namespace K14
open PySem PySem.Spec PyProof.Rows L2
def spLaw (K : PySem.W.Frag) (T : List (Addr × Str)) : Sp := fun vs H Q _ => ∃ (a : Addr) (ns : List Int), vs = [.ref a] ∧ SqL K H a (ns.map V.int) ∧ ns.length ≤ 63 ∧ LamX.Tabs T H ∧ ∀ H', Q (.bl true) H'
theorem scL : FnScope ["script", "heap", "turn", "lists", "wishes", "stages", "holds", "odd"] ["script"] (defScope sLaw) := ⟨rfl, rfl, rfl, by decide +kernel, rfl, by decide +kernel, by decide +kernel⟩
theorem ringsW : ringsP lsW hWA = [[(0, 1), (2, 3)], [(1, 2), (3, 0)]] := by decide +kernel
theorem givW : ha (givA lsW hWA) 0 = some 2 := by decide +kernel
theorem stdO : Std lsO hO := (steadyB_iff okO hokO).mp (by decide +kernel)
theorem ringsO : ringsA (givA lsO hO) = [[0, 1, 2]] := by decide +kernel
theorem prsO : prs lsO hO [0, 1, 2] = [(0, 1), (1, 2), (2, 0)] := by decide +kernel
theorem goodO : goodP lsO hO = [] := by decide +kernel
theorem leftO : 2 ≤ (leftL lsO hO 1).length := by decide +kernel
theorem par_two {i j : Nat} {t1 t2 : TE} {D : Ends} {σ : L2.St} {H : Hp} (h : t1 σ H fun v H1 => t2 σ H1 fun u H2 => ∃ a b, [v, u] = [a, b] ∧ D.nx ((σ.set i (some a)).set j (some b)) H2) : tPar i j (tCons t1 (tCons t2 tNil)) D σ H := h
def BX (h l : Addr) (H H' : Hp) : Prop := ∀ b o, b ≠ h → b ≠ l → H b = some o → (∀ ps, o ≠ .tbl ps) → H' b = some o
theorem BX.refl {h l : Addr} {H : Hp} : BX h l H H := fun _ _ _ _ e _ => e
theorem BX.trans {h l : Addr} {H H1 H2 : Hp} (a : BX h l H H1) (b : BX h l H1 H2) : BX h l H H2 := fun c o n1 n2 e n => b c o n1 n2 (a c o n1 n2 e n) n
theorem BX.mid {h l : Addr} {H H' : Hp} (b : BX h l H H') : ∃ G, Bar h l H G ∧ LamX.ExtN G H' := by
  refine ⟨fun c => if c = h ∨ c = l then H' c else H c, fun c o n1 n2 e => ?_, fun c o e n => ?_⟩
  · show (if c = h ∨ c = l then H' c else H c) = some o
    rw [if_neg (fun z => z.elim n1 n2)]
    exact e
  · have e : (if c = h ∨ c = l then H' c else H c) = some o := e
    by_cases z : c = h ∨ c = l
    · rw [if_pos z] at e
      exact e
    · rw [if_neg z] at e
      exact b c o (fun y => z (.inl y)) (fun y => z (.inr y)) e n
section
variable {P : Program} {w : World} {K : PySem.W.Frag} {mg : Str → Option Value} {base : Heap} {Tb : List (Addr × Str)}
set_option maxHeartbeats 2000000 in
theorem ok_law {f fi C f1 f2 f3 f4 f5 f6 f7 f8 f9 f10 f11 : Addr} {fd di d1 d2 d3 d4 d5 d6 d7 d8 d9 d10 d11 : FuncData} {k : Nat} (F : Fun K "law" "law" sLaw f fd) (T : Txt K mg C) (M : Mk K C fi)
    (Gi : FnOk P w K mg base CX0 (k + 1) fi di ["self", "names", "lists"] (spWInit C)) (bi : Binds K di ["self", "names", "lists"] [])
    (Hp : Has P w K mg base (k + 2) "_law_heap" ["script"] (spHeap K) f1 d1) (Sl : Has P w K mg base (k + 2) "_law_some_lists" ["heap", "sizes"] spSome f2 d2) (Nm : Has P w K mg base (k + 2) "_law_names" ["heap", "many"] spNames f3 d3)
    (St : Has P w K mg base (k + 2) "_law_stages" ["heap", "lists"] spStages f4 d4) (Pk : Has P w K mg base (k + 2) "_law_pick" ["heap", "some"] spPick f5 d5) (Rr : HasG P w K mg base (k + 2) "_law_rings_right" ["heap", "wishes", "lists", "holds"] (spRingsRight C Tb) f6 d6)
    (Tr : Has P w K mg base (k + 2) "turn_rings" ["wishes", "holds"] (spTurnRings C) f7 d7) (Gb : Has P w K mg base (k + 2) "giver_behind" ["wishes", "holds", "person"] (spGiverB C) f8 d8) (Tf : Has P w K mg base (k + 2) "turn_from" ["wishes", "holds", "person"] (spTurnF C) f9 d9)
    (Gr : Has P w K mg base (k + 2) "good_rings" ["wishes", "holds"] (spGoodRings C) f10 d10) (Ot : Has P w K mg base (k + 2) "is_odd_turn" ["wishes", "holds", "ring"] (spIsOddTurn C) f11 d11)
    (ml : mg "len" = none) (mi : mg "int" = none) (mrg : mg "range" = none) : RunG P w K mg base (k + 3) f fd ["script"] (spLaw K Tb) := by
  refine okG F scL (by rintro vs H Q E ⟨a, ns, rfl, _⟩; rfl) (fun cdv A outer s H vs Q E hA hr h => ?_)
  obtain ⟨a, ns, rfl, hS, hl, tb, q⟩ := h
  refine ⟨_, pss_cons (ps_set (i := 1) scL.nd rfl (.inl rfl) (pe_call Hp.ok hr rfl Hp.m Hp.k Hp.b .nil pass0 (pa_cons (pv 0) pa_nil)))
      (pss_cons (ps_for PassesOwn.never rfl (pi_range1 rfl mrg (pa_cons (pe_op op_add pe_int (pe_callTy call_int1 (by rfl) mi (by decide +kernel) (pa_cons (pe_cmp (pc_gt (pe_callB call_len_seq (by rfl) ml PySem.boot_len (pa_cons (pv 0) pa_nil)) pe_int) rfl) pa_nil))) pa_nil)) (pg_name (i := 2) scL.nd rfl (.inl rfl))
      (pss_cons (ps_set (i := 3) scL.nd rfl (.inl rfl) (pe_call Sl.ok hr rfl Sl.m Sl.k Sl.b .nil pass0 (pa_cons (pv 1) (pa_cons (pe_lst (pa_cons pe_int (pa_cons pe_int (pa_cons pe_int (pa_cons pe_int (pa_cons pe_int (pa_cons pe_int (pa_cons pe_int (pa_cons pe_int pa_nil))))))))) pa_nil))))
      (pss_cons (ps_par (i := 4) (j := 5) rfl scL.nd rfl rfl (by decide) rfl rfl (pa_cons (pe_make M Gi hr rfl T.mgC bi .nil pass0 (pa_cons (pe_call Nm.ok hr rfl Nm.m Nm.k Nm.b .nil pass0 (pa_cons (pv 1) (pa_cons (pe_callB call_len_seq (by rfl) ml PySem.boot_len (pa_cons (pv 3) pa_nil)) pa_nil))) (pa_cons (pv 3) pa_nil))) (pa_cons (pe_ix ix_list (pe_call St.ok hr rfl St.m St.k St.b .nil pass0 (pa_cons (pv 1) (pa_cons (pv 3) pa_nil))) pe_int (fun _ _ => rfl)) pa_nil)) (by rfl))
      (pss_one (ps_for PassesOwn.never rfl (pi_list (pe_lst (pa_cons (pe_ix ix_list (pv 5) pe_int (fun _ _ => rfl)) (pa_cons (pe_call Pk.ok hr rfl Pk.m Pk.k Pk.b .nil pass0 (pa_cons (pv 1) (pa_cons (pv 5) pa_nil))) (pa_cons (pe_ix ix_list (pv 5) (pe_un un_neg pe_int) (fun _ _ => rfl)) pa_nil))))) (pg_name (i := 6) scL.nd rfl (.inl rfl))
      (pss_one (ps_if (pt_not (pt_val (pe_callG Rr.ok (spRingsRight_len C Tb) hA hr (by rfl) Rr.m Rr.k Rr.b pass0 (pa_cons (pv 1) (pa_cons (pv 4) (pa_cons (pv 3) (pa_cons (pv 6) pa_nil))))))) (pss_one (ps_ret pe_bl)) pss_nil)))))))
      (pss_cons (ps_par (i := 4) (j := 7) rfl scL.nd rfl rfl (by decide) rfl rfl (pa_cons (pe_make M Gi hr rfl T.mgC bi .nil pass0 (pa_cons (pe_tup (pa_cons pe_str (pa_cons pe_str (pa_cons pe_str (pa_cons pe_str pa_nil))))) (pa_cons (pe_tup (pa_cons (pe_tup (pa_cons pe_int (pa_cons pe_int (pa_cons pe_int pa_nil)))) (pa_cons (pe_tup (pa_cons pe_int (pa_cons pe_int (pa_cons pe_int pa_nil)))) (pa_cons (pe_tup (pa_cons pe_int (pa_cons pe_int (pa_cons pe_int pa_nil)))) (pa_cons (pe_tup (pa_cons pe_int (pa_cons pe_int (pa_cons pe_int pa_nil)))) pa_nil))))) pa_nil))) (pa_cons (pe_make M Gi hr rfl T.mgC bi .nil pass0 (pa_cons (pe_tup (pa_cons pe_str (pa_cons pe_str (pa_cons pe_str (pa_cons pe_str pa_nil))))) (pa_cons (pe_tup (pa_cons (pe_tup (pa_cons pe_int (pa_cons pe_int (pa_cons pe_int pa_nil)))) (pa_cons (pe_tup (pa_cons pe_int (pa_cons pe_int (pa_cons pe_int pa_nil)))) (pa_cons (pe_tup (pa_cons pe_int (pa_cons pe_int (pa_cons pe_int pa_nil)))) (pa_cons (pe_tup (pa_cons pe_int (pa_cons pe_int (pa_cons pe_int pa_nil)))) pa_nil))))) pa_nil))) pa_nil)) (by rfl))
      (pss_cons (ps_if (PW.pt (pw_or (pt_cmpR (op_neD hr.units) (pe_call Tr.ok hr rfl Tr.m Tr.k Tr.b .nil pass0 (pa_cons (pv 4) (pa_cons (pe_tup (pa_cons pe_int (pa_cons pe_int (pa_cons pe_int (pa_cons pe_int pa_nil))))) pa_nil))) (pe_tup (pa_cons (pe_tup (pa_cons (pe_tup (pa_cons pe_int (pa_cons pe_int pa_nil))) (pa_cons (pe_tup (pa_cons pe_int (pa_cons pe_int pa_nil))) pa_nil))) (pa_cons (pe_tup (pa_cons (pe_tup (pa_cons pe_int (pa_cons pe_int pa_nil))) (pa_cons (pe_tup (pa_cons pe_int (pa_cons pe_int pa_nil))) pa_nil))) pa_nil))) (nomark _)) (pw_or1 (pt_cmpR op_ne (pe_call Gb.ok hr rfl Gb.m Gb.k Gb.b .nil pass0 (pa_cons (pv 4) (pa_cons (pe_tup (pa_cons pe_int (pa_cons pe_int (pa_cons pe_int (pa_cons pe_int pa_nil))))) (pa_cons pe_int pa_nil)))) pe_int (nomark _))))) (pss_one (ps_ret pe_bl)) pss_nil)
      (pss_cons (ps_if (PW.pt (pw_or (pt_cmpR (op_neD hr.units) (pe_call Tf.ok hr rfl Tf.m Tf.k Tf.b .nil pass0 (pa_cons (pv 7) (pa_cons (pe_tup (pa_cons pe_int (pa_cons pe_int (pa_cons pe_int (pa_cons pe_non pa_nil))))) (pa_cons pe_int pa_nil)))) (pe_tup (pa_cons (pe_tup (pa_cons pe_int (pa_cons pe_int pa_nil))) (pa_cons (pe_tup (pa_cons pe_int (pa_cons pe_int pa_nil))) (pa_cons (pe_tup (pa_cons pe_int (pa_cons pe_int pa_nil))) pa_nil)))) (nomark _)) (pw_or1 (pt_cmpR (op_neD hr.units) (pe_call Gr.ok hr rfl Gr.m Gr.k Gr.b .nil pass0 (pa_cons (pv 7) (pa_cons (pe_tup (pa_cons pe_int (pa_cons pe_int (pa_cons pe_int (pa_cons pe_non pa_nil))))) pa_nil))) (pe_tup pa_nil) (nomark _))))) (pss_one (ps_ret pe_bl)) pss_nil)
      (pss_one (ps_ret (pe_cmpR op_is_bl (pe_call Ot.ok hr rfl Ot.m Ot.k Ot.b .nil pass0 (pa_cons (pv 7) (pa_cons (pe_tup (pa_cons pe_int (pa_cons pe_int (pa_cons pe_int (pa_cons pe_non pa_nil))))) (pa_cons (pe_tup (pa_cons (pe_tup (pa_cons pe_int (pa_cons pe_int pa_nil))) (pa_cons (pe_tup (pa_cons pe_int (pa_cons pe_int pa_nil))) (pa_cons (pe_tup (pa_cons pe_int (pa_cons pe_int pa_nil))) pa_nil)))) pa_nil)))) pe_bl (nomark _)))))))), ?_⟩
  refine ⟨_, rfl, a, ns, rfl, hS, fun h l H1 s1 nh nl src1 => ?_⟩
  have hS1 : SqL K H1 a (ns.map V.int) := s1.seq hS
  have tb1 := tb.ext s1
  refine ⟨_, rfl, a, _, rfl, .inl hS1, _, _, rfl, rfl, .inr ⟨_, rfl, _, _, rfl, rfl, _, rfl, ?_, ?_, for_range (lo := 0) (n := _) (fun i σ H' => ∃ y2 y3 y4 y5 y6 : Option V, σ = [some (.ref a), some (.ref h), y2, y3, y4, y5, y6, none] ∧ Src H' h l ∧ LamX.Tabs _ H')
      ⟨none, none, none, none, none, rfl, src1, tb1⟩ ?_ ?_⟩⟩
  · split <;> omega
  · split <;> omega
  · rintro i σ H2 hi ⟨y2, y3, y4, y5, y6, rfl, src2, tb2⟩
    refine gn ?_
    dsimp only [List.set]
    refine ⟨_, rfl, (by show 8 ≤ sizeLine; decide), fun v nv => ?_⟩
    obtain ⟨nvh, nvl⟩ := src2.new nv
    refine ⟨h, l, v, [5, 6, 4, 7, 6, 3, 2, 1], rfl, src2.updn nv, upd_same, nvh, nvl, by simp, by decide, by decide, fun la0 ls H3 sr3 br3 lx3 ok l1 l26 => gn ?_⟩
    dsimp only [List.set]
    have tb3 := Tabs.bar (tb2.ext (same_upd nv)) (src2.updn nv) br3
    obtain ⟨xsl, eal, xll⟩ := lx3.lt.len
    refine ⟨_, rfl, _, rfl, la0, _, rfl, .inr (SqT.of eal), ?_⟩
    rw [xll]
    refine ⟨h, l, _, rfl, sr3, by omega, by omega, fun n ns' H7 nok sr7 br7 nn en => ⟨_, rfl, ?_⟩⟩
    have lx7 := lx3.bar sr3 br7
    have tb7 := Tabs.bar tb3 sr3 br7
    intro x dx nx ndx ne
    have s7 : Same H7 (upd (upd H7 dx (.own x)) x (.ins C dx [])) := (same_rfl.fresh ndx).fresh nx
    refine ⟨x, dx, n, la0, ns', ls, rfl, upd_same, s7 _ _ en, lx7.lt.same s7, l1, by omega, nok, ok, fun H8 W8 keep => ⟨rfl, ?_⟩⟩
    have s78 : Same H7 H8 := fun b o e => keep b o (s7 _ _ e) (ne_of_none e nx)
    have sr8 := sr7.same s78
    have lx8 := lx7.same s78
    have tb8 := tb7.ext s78
    refine ⟨_, rfl, _, rfl, h, l, la0, ls, rfl, sr8, lx8, ok, l1, l26, fun r Fs U us hss H9 sr9 br9 er eF nFh nFl hst u1 u2 all => ?_⟩
    have lx9 := lx8.bar sr8 br9
    have W9 := W8.bar sr8 br9
    have tb9 := Tabs.bar tb8 sr8 br9
    refine ⟨r, _, 0, .ref Fs, rfl, rfl, SqL.of er, atI_nat (j := 0) rfl, _, _, rfl, ?_⟩
    dsimp only [List.set]
    have u0 : 0 < us.length := by omega
    obtain ⟨ub, ul', eus⟩ : ∃ ub ul', us = ub ++ [ul'] := by
      rcases list_end us with e | ⟨ys, y, e⟩
      · rw [e] at u0; cases u0
      · exact ⟨ys, y, e⟩
    refine ⟨_, rfl, Fs, _, 0, .ref us[0], rfl, rfl, SqL.of eF, atI_nat (j := 0) (by rw [List.getElem?_map, List.getElem?_eq_getElem u0]; rfl), ?_⟩
    refine ⟨_, rfl, _, rfl, h, l, Fs, us.map V.ref, rfl, sr9, .inl eF, nFh, nFl, by rw [List.length_map]; exact u0, by rw [List.length_map]; omega, fun jj y Ha hy sra bra => ?_⟩
    have eFa := bra _ _ nFh nFl eF
    have lastA : atI (us.map V.ref) (-1) = some (.ref ul') := by
      rw [eus, List.map_append]
      exact atI_last _ _
    refine ⟨_, rfl, _, rfl, Fs, _, -1, .ref ul', rfl, rfl, SqL.of eFa, lastA, (by show 3 ≤ sizeLine; decide), fun c3 nc3 => ?_⟩
    have sc3 := same_upd (o := .lst [.ref us[0], y, .ref ul']) nc3
    have ec3 := upd_same (H := Ha) (a := c3) (o := .lst [.ref us[0], y, .ref ul'])
    have mem3 : ∀ z ∈ [V.ref us[0], y, .ref ul'], z ∈ us.map V.ref := fun z hz => by
      simp only [List.mem_cons, List.not_mem_nil, or_false] at hz
      rcases hz with rfl | rfl | rfl
      · exact List.mem_map.mpr ⟨_, List.getElem_mem u0, rfl⟩
      · exact List.mem_of_getElem? hy
      · exact List.mem_map.mpr ⟨ul', by rw [eus]; simp, rfl⟩
    generalize [V.ref us[0], y, .ref ul'] = zs at sc3 ec3 mem3
    have srb := sra.same sc3
    have lxb := (lx9.bar sr9 bra).same sc3
    have Wb := (W9.bar sr9 bra).same sc3
    have tbb := (Tabs.bar tb9 sr9 bra).ext sc3
    have hstb := (hst.bar sr9 bra).same sc3
    obtain ⟨c3h, c3l⟩ := sra.new nc3
    generalize upd Ha c3 (.lst zs) = Hb at sc3 ec3 srb lxb Wb tbb hstb
    refine ⟨c3, rfl, ⟨_, SqL.of ec3⟩, ?_⟩
    refine for_it (walk_list (K := K) (a := c3) (xs := zs)) (fun i' σ H' => ∃ y6 : Option V, σ = [some (.ref a), some (.ref h), some (.int (0 + i)), some (.ref la0), some (.ref x), some (.ref Fs), y6, none] ∧ Src H' h l ∧ BX h l Hb H' ∧ LamX.Tabs _ H')
      ⟨y6, rfl, srb, BX.refl, tbb⟩ (fun i' σ H' _ ⟨_, _, _, bx, _⟩ => SqL.of (bx _ _ c3h c3l ec3 fun _ z => by cases z)) ?_ ?_
    · rintro i' x0 σ Hc' Hc hi' ⟨y6, rfl, src', bx, tbc⟩ ⟨rfl, ex0⟩
      obtain ⟨jj, hjj, ejj⟩ := List.mem_iff_getElem.mp (mem3 _ (List.mem_of_getElem? ex0))
      obtain ⟨u, S, rfl, eS, eu⟩ := hstb.at (show (us.map V.ref)[jj]? = some x0 by rw [List.getElem?_eq_getElem hjj, ejj])
      obtain ⟨so, ss⟩ := all S (List.mem_of_getElem? eS)
      obtain ⟨G, bG, xG⟩ := bx.mid
      refine gn ?_
      dsimp only [List.set]
      refine ⟨_, rfl, _, rfl, _, rfl, _, rfl, h, l, x, la0, u, ns', ls, S, rfl, src', (Wb.bar srb bG).ext xG, (lxb.bar srb bG).ext xG, XN.tup xG (tup_bar srb bG eu), so, ss, tbc, fun Hd srd bd tbd => ⟨true, rfl, iteF ?_⟩⟩
      exact ⟨_, rfl, srd, bx.trans bd, tbd⟩
    · rintro σ Hc ⟨y6, rfl, src', bx, tbc⟩
      exact ⟨_, _, _, _, _, rfl, src', tbc⟩
  · rintro σ H0 ⟨y2, y3, y4, y5, y6, rfl, src2, tb2⟩
    dsimp only [L2.tSeq]
    refine par_two ?_
    dsimp only [L2.tMake]
    refine (lCons (lTup (lCons lC (lCons lC (lCons lC (lCons lC lNil))))) (lCons (lTup (lCons (lTup (lCons lC (lCons lC (lCons lC lNil)))) (lCons (lTup (lCons lC (lCons lC (lCons lC lNil)))) (lCons (lTup (lCons lC (lCons lC (lCons lC lNil)))) (lCons (lTup (lCons lC (lCons lC (lCons lC lNil)))) lNil))))) lNil)).run _ _ _ fun va Ht stt ha => ?_
    obtain ⟨_, _, rfl, ⟨n, xs, rfl, en, x1, r1, rfl, rfl, x2, r2, rfl, rfl, x3, r3, rfl, rfl, x4, r4, rfl, rfl, rfl⟩, _, _, rfl, ⟨t, ys, rfl, et, z1, w1, rfl, h1, z2, w2, rfl, h2, z3, w3, rfl, h3, z4, w4, rfl, h4, rfl⟩, rfl⟩ := ha
    obtain ⟨p1, rfl, e1⟩ := pt3 h1
    obtain ⟨p2, rfl, e2⟩ := pt3 h2
    obtain ⟨p3, rfl, e3⟩ := pt3 h3
    obtain ⟨p4, rfl, e4⟩ := pt3 h4
    intro x dx nx ndx ne
    have s6 : Same Ht (upd (upd Ht dx (.own x)) x (.ins C dx [])) := (same_rfl.fresh ndx).fresh nx
    have lt : LT Ht t lsW := lt_four et e1 e2 e3 e4
    have en' : Ht n = some (.tup (VN nsW)) := by rw [VNW]; exact en
    refine ⟨x, dx, n, t, nsW, lsW, rfl, upd_same, s6 _ _ en', lt.same s6, by decide, by decide, nokW, okW, fun H7 W7 keep => ⟨rfl, ?_⟩⟩
    have s7 : Same Ht H7 := fun b o e => keep b o (s6 _ _ e) (ne_of_none e nx)
    have tb7 := (tb2.ext stt).ext s7
    refine (lCons (lTup (lCons lC (lCons lC (lCons lC (lCons lC lNil))))) (lCons (lTup (lCons (lTup (lCons lC (lCons lC (lCons lC lNil)))) (lCons (lTup (lCons lC (lCons lC (lCons lC lNil)))) (lCons (lTup (lCons lC (lCons lC (lCons lC lNil)))) (lCons (lTup (lCons lC (lCons lC (lCons lC lNil)))) lNil))))) lNil)).run _ _ _ fun vb Hu stu hb => ?_
    obtain ⟨_, _, rfl, ⟨n', xs', rfl, en2, x1', r1', rfl, rfl, x2', r2', rfl, rfl, x3', r3', rfl, rfl, x4', r4', rfl, rfl, rfl⟩, _, _, rfl, ⟨t', ys', rfl, et', z1', w1', rfl, h1', z2', w2', rfl, h2', z3', w3', rfl, h3', z4', w4', rfl, h4', rfl⟩, rfl⟩ := hb
    obtain ⟨p1', rfl, e1'⟩ := pt3 h1'
    obtain ⟨p2', rfl, e2'⟩ := pt3 h2'
    obtain ⟨p3', rfl, e3'⟩ := pt3 h3'
    obtain ⟨p4', rfl, e4'⟩ := pt3 h4'
    intro o od no nod noe
    have s8 : Same Hu (upd (upd Hu od (.own o)) o (.ins C od [])) := (same_rfl.fresh nod).fresh no
    have lto : LT Hu t' lsO := lt_four et' e1' e2' e3' e4'
    have eno : Hu n' = some (.tup (VN nsW)) := by rw [VNW]; exact en2
    refine ⟨o, od, n', t', nsW, lsO, rfl, upd_same, s8 _ _ eno, lto.same s8, by decide, by decide, nokO, okO, fun H9 W9 keep9 => ⟨rfl, _, _, rfl, ?_⟩⟩
    have s9 : Same Hu H9 := fun b ob e => keep9 b ob (s8 _ _ e) (ne_of_none e no)
    dsimp only [List.set]
    have WX := (W7.same stu).same s9
    have WO := W9
    -- all rings
    refine ⟨_, rfl, ?_⟩
    refine (lTup (lCons lC (lCons lC (lCons lC (lCons lC lNil))))).run _ _ _ fun v1 Ha sa q1 => ?_
    obtain ⟨a1, rfl, ea1⟩ := pt4 q1
    refine ⟨x, a1, nsW, lsW, hWA, rfl, WX.same sa, ea1, hokA, fun c1 us1 Hb sb ec1 rp1 => ?_⟩
    rw [ringsW] at rp1
    refine (lTup (lCons (lTup (lCons (lTup (lCons lC (lCons lC lNil))) (lCons (lTup (lCons lC (lCons lC lNil))) lNil))) (lCons (lTup (lCons (lTup (lCons lC (lCons lC lNil))) (lCons (lTup (lCons lC (lCons lC lNil))) lNil))) lNil))).run _ _ _ fun v2 Hc sc q2 => ?_
    obtain ⟨b, xsb, rfl, eb, x1b, r1b, rfl, h1b, x2b, r2b, rfl, h2b, rfl⟩ := q2
    obtain ⟨b1, rfl, rb1⟩ := rp_two (a := 0) (b := 1) (c := 2) (d := 3) h1b
    obtain ⟨b2, rfl, rb2⟩ := rp_two (a := 1) (b := 2) (c := 3) (d := 0) h2b
    have rpb : RPs Hc [b1, b2] [[(0, 1), (2, 3)], [(1, 2), (3, 0)]] := ⟨rfl, fun j u ps h1 h2 => by
      match j, h1, h2 with
      | 0, h1, h2 => cases h1; cases h2; exact rb1
      | 1, h1, h2 => cases h1; cases h2; exact rb2
      | _ + 2, h1, h2 => cases h1⟩
    refine ⟨dRR [[(0, 1), (2, 3)], [(1, 2), (3, 0)]], dRR [[(0, 1), (2, 3)], [(1, 2), (3, 0)]], dp_dRR (sc _ _ ec1) (rp1.same sc), dp_dRR (us := [b1, b2]) eb rpb, sh_dRR _, sh_dRR _, false, congrArg V.bl (by decide +kernel), iteF ?_⟩
    have s1c := sa.trans (sb.trans sc)
    refine ⟨_, rfl, ?_⟩
    refine (lTup (lCons lC (lCons lC (lCons lC (lCons lC lNil))))).run _ _ _ fun v3 Hd sd q3 => ?_
    obtain ⟨a2, rfl, ea2⟩ := pt4 q3
    refine ⟨x, a2, nsW, lsW, hWA, 0, 2, rfl, WX.same (s1c.trans sd), ea2, hokA, by decide, givW, fun He se => ⟨rfl, false, congrArg V.bl (by simp), iteF ?_⟩⟩
    have s1e := s1c.trans (sd.trans se)
    -- an odd one
    refine ⟨_, rfl, ?_⟩
    refine (lTup (lCons lC (lCons lC (lCons lC (lCons lC lNil))))).run _ _ _ fun v4 Hf sf q4 => ?_
    obtain ⟨a3, rfl, ea3⟩ := pt3n q4
    refine ⟨o, a3, nsW, lsO, hO, 1, rfl, WO.same (s1e.trans sf), ea3, hokO, stdO, by decide, leftO, fun c3 R Hg sg memR yR rpR => ?_⟩
    rw [ringsO, List.mem_singleton] at memR
    rw [memR, prsO] at rpR
    refine (lTup (lCons (lTup (lCons lC (lCons lC lNil))) (lCons (lTup (lCons lC (lCons lC lNil))) (lCons (lTup (lCons lC (lCons lC lNil))) lNil)))).run _ _ _ fun v5 Hh sh q5 => ?_
    obtain ⟨b3, rfl, rb3⟩ := rp_three (a := 0) (b := 1) (c := 1) (d := 2) (e := 2) (f := 0) q5
    refine ⟨dL (rows2 [(0, 1), (1, 2), (2, 0)]), dL (rows2 [(0, 1), (1, 2), (2, 0)]), dp_dL (rpR.same sh).lt, dp_dL rb3.lt, sh_dL _, sh_dL _, false, congrArg V.bl (by decide +kernel), iteF ?_⟩
    have s1h := s1e.trans (sf.trans (sg.trans sh))
    refine ⟨_, rfl, ?_⟩
    refine (lTup (lCons lC (lCons lC (lCons lC (lCons lC lNil))))).run _ _ _ fun v6 Hi si q6 => ?_
    obtain ⟨a4, rfl, ea4⟩ := pt3n q6
    refine ⟨o, a4, nsW, lsO, hO, rfl, WO.same (s1h.trans si), ea4, hokO, fun c4 us4 Hj sj ec4 rp4 => ?_⟩
    rw [goodO] at rp4
    refine (lTup lNil).run _ _ _ fun v7 Hk sk q7 => ?_
    obtain ⟨z, xsz, rfl, ez, rfl⟩ := q7
    refine ⟨dRR [], .tuple [], dp_dRR (sk _ _ ec4) (rp4.same sk), .tup (SqT.of ez) .nil, sh_dRR _, by decide, false, congrArg V.bl (by decide +kernel), iteF ?_⟩
    have s1k := s1h.trans (si.trans (sj.trans sk))
    refine ⟨_, rfl, ?_⟩
    refine (lTup (lCons lC (lCons lC (lCons lC (lCons lC lNil))))).run _ _ _ fun v8 Hl sl q8 => ?_
    obtain ⟨a5, rfl, ea5⟩ := pt3n q8
    refine (lTup (lCons (lTup (lCons lC (lCons lC lNil))) (lCons (lTup (lCons lC (lCons lC lNil))) (lCons (lTup (lCons lC (lCons lC lNil))) lNil)))).run _ _ _ fun v9 Hm sm q9 => ?_
    obtain ⟨b5, rfl, rb5⟩ := rp_three (a := 0) (b := 1) (c := 1) (d := 2) (e := 2) (f := 0) q9
    refine ⟨o, a5, b5, nsW, lsO, hO, [(0, 1), (1, 2), (2, 0)], rfl, WO.same (s1k.trans (sl.trans sm)), sm _ _ ea5, hokO, rb5, by decide, by decide, fun Hn sn => ?_⟩
    rw [oddO]
    exact ⟨_, _, rfl, rfl, q _⟩
end
end K14
namespace K14
open PySem PySem.Spec PyProof.Rows L2
theorem RunG.mono {P : Program} {w : World} {K : PySem.W.Frag} {mg : Str → Option Value} {base : Heap} {k j : Nat} {f : Addr} {fd : FuncData} {ps : List Str} {sp : Sp} (h : RunG P w K mg base k f fd ps sp) (le : k ≤ j) : RunG P w K mg base j f fd ps sp := fun A outer s H args us vs Q E hA r e b v p => h A outer s H args us vs Q E hA (r.mono le) e b v p
set_option maxHeartbeats 8000000 in
theorem all_mk {l : PySem.W.OpenLaw} {w : World} {K : PySem.W.Frag} {h : Heap} {mg : Str → Option Value} {fa C CR CM fH f1 f2 f3 f4 f5 f6 f7 f8 f9 f10 f11 f12 f13 f14 f15 f16 f17 f18 f19 f20 f21 f22 f23 f24 f25 f26 f27 f28 f29 f30 f31 f32 f33 f34 f35 f36 f37 f38 f39 f40 f41 f42 f43 f44 f45 f46 f47 f48 f49 f50 f51 f52 f53 f54 f55 f56 cc54 PT54 : Addr} {t_MOST_LETTERS t_MOST_PERSONS : Tok} (X : K.In h) (G : h.Ns mainGlobals mg) (hfa : mg "law" = some (.ref fa))
    {od1 an1 od2 an2 od3 an3 od4 an4 od5 an5 od6 an6 od7 an7 od8 an8 od9 an9 od10 an10 od11 an11 od12 an12 od13 an13 od14 an14 od15 an15 od16 an16 od17 an17 od18 an18 od19 an19 od20 an20 od21 an21 od22 an22 od23 an23 od24 an24 od25 an25 od26 an26 od27 an27 od28 an28 od29 an29 od30 an30 od31 an31 od32 an32 od33 an33 od34 an34 od35 an35 od36 an36 od37 an37 od38 an38 od39 an39 od40 an40 od41 an41 od42 an42 od43 an43 od44 an44 od45 an45 od46 an46 od47 an47 od48 an48 od49 an49 od50 an50 od51 an51 od52 an52 od53 an53 od54 an54 od55 an55 od56 an56 odH anH edd : Option Addr} {sl1 sl2 sl3 sl4 sl5 sl6 sl7 sl8 sl9 sl10 sl11 sl12 sl13 sl14 sl15 sl16 sl17 sl18 sl19 sl20 sl21 sl22 sl23 sl24 sl25 sl26 sl27 sl28 sl29 sl30 sl31 sl32 sl33 sl34 sl35 sl36 sl37 sl38 sl39 sl40 sl41 sl42 sl43 sl44 sl45 sl46 sl47 sl48 sl49 sl50 sl51 sl52 sl53 sl54 sl55 sl56 slH : Array (Option Value)} {oc1 kV1 dc1 pm1 cd1 ct1 oc2 kV2 dc2 pm2 cd2 ct2 oc3 kV3 dc3 pm3 cd3 ct3 oc4 kV4 dc4 pm4 cd4 ct4 oc5 kV5 dc5 pm5 cd5 ct5 oc6 kV6 dc6 pm6 cd6 ct6 oc7 kV7 dc7 pm7 cd7 ct7 oc8 kV8 dc8 pm8 cd8 ct8 oc9 kV9 dc9 pm9 cd9 ct9 oc10 kV10 dc10 pm10 cd10 ct10 oc11 kV11 dc11 pm11 cd11 ct11 oc12 kV12 dc12 pm12 cd12 ct12 oc13 kV13 dc13 pm13 cd13 ct13 oc14 kV14 dc14 pm14 cd14 ct14 oc15 kV15 dc15 pm15 cd15 ct15 oc16 kV16 dc16 pm16 cd16 ct16 oc17 kV17 dc17 pm17 cd17 ct17 oc18 kV18 dc18 pm18 cd18 ct18 oc19 kV19 dc19 pm19 cd19 ct19 oc20 kV20 dc20 pm20 cd20 ct20 oc21 kV21 dc21 pm21 cd21 ct21 oc22 kV22 dc22 pm22 cd22 ct22 oc23 kV23 dc23 pm23 cd23 ct23 oc24 kV24 dc24 pm24 cd24 ct24 oc25 kV25 dc25 pm25 cd25 ct25 oc26 kV26 dc26 pm26 cd26 ct26 oc27 kV27 dc27 pm27 cd27 ct27 oc28 kV28 dc28 pm28 cd28 ct28 oc29 kV29 dc29 pm29 cd29 ct29 oc30 kV30 dc30 pm30 cd30 ct30 oc31 kV31 dc31 pm31 cd31 ct31 oc32 kV32 dc32 pm32 cd32 ct32 oc33 kV33 dc33 pm33 cd33 ct33 oc34 kV34 dc34 pm34 cd34 ct34 oc35 kV35 dc35 pm35 cd35 ct35 oc36 kV36 dc36 pm36 cd36 ct36 oc37 kV37 dc37 pm37 cd37 ct37 oc38 kV38 dc38 pm38 cd38 ct38 oc39 kV39 dc39 pm39 cd39 ct39 oc40 kV40 dc40 pm40 cd40 ct40 oc41 kV41 dc41 pm41 cd41 ct41 oc42 kV42 dc42 pm42 cd42 ct42 oc43 kV43 dc43 pm43 cd43 ct43 oc44 kV44 dc44 pm44 cd44 ct44 oc45 kV45 dc45 pm45 cd45 ct45 oc46 kV46 dc46 pm46 cd46 ct46 oc47 kV47 dc47 pm47 cd47 ct47 oc48 kV48 dc48 pm48 cd48 ct48 oc49 kV49 dc49 pm49 cd49 ct49 oc50 kV50 dc50 pm50 cd50 ct50 oc51 kV51 dc51 pm51 cd51 ct51 oc52 kV52 dc52 pm52 cd52 ct52 oc53 kV53 dc53 pm53 cd53 ct53 oc54 kV54 dc54 pm54 ct54 oc55 kV55 dc55 pm55 cd55 ct55 oc56 kV56 dc56 pm56 cd56 ct56 ocH kVH dcH pmH cdH ctH : Value}
    {enm eq : Str} {eN : Addr} {ebs ebm esub : List Value} {esn : List Str} {eab : Bool} {ecol : Option Bool} {e0 e1 e2 e3 e5 : Option Value}
    (a1 : PySem.W.nsIn K mainGlobals "_law_draw" = some (some (.ref f1))) (l1 : K.lookup f1 = some ⟨oc1, od1, .func (PySem.W.fnOf "_law_draw" "_law_draw" (defArgs sDraw) (defBody sDraw) (defScope sDraw) .none kV1 dc1 pm1 an1 cd1 ct1), sl1⟩) (c1 : PySem.W.codeIn K cd1 "_law_draw" = true) (k1 : PySem.W.keepIn K (.ref f1) = true)
    (a2 : PySem.W.nsIn K mainGlobals "_law_pick" = some (some (.ref f2))) (l2 : K.lookup f2 = some ⟨oc2, od2, .func (PySem.W.fnOf "_law_pick" "_law_pick" (defArgs sPick) (defBody sPick) (defScope sPick) .none kV2 dc2 pm2 an2 cd2 ct2), sl2⟩) (c2 : PySem.W.codeIn K cd2 "_law_pick" = true) (k2 : PySem.W.keepIn K (.ref f2) = true)
    (a3 : PySem.W.nsIn K mainGlobals "_law_heap" = some (some (.ref f3))) (l3 : K.lookup f3 = some ⟨oc3, od3, .func (PySem.W.fnOf "_law_heap" "_law_heap" (defArgs sHeap) (defBody sHeap) (defScope sHeap) .none kV3 dc3 pm3 an3 cd3 ct3), sl3⟩) (c3 : PySem.W.codeIn K cd3 "_law_heap" = true) (k3 : PySem.W.keepIn K (.ref f3) = true)
    (a4 : PySem.W.nsIn K mainGlobals "_law_shuffled" = some (some (.ref f4))) (l4 : K.lookup f4 = some ⟨oc4, od4, .func (PySem.W.fnOf "_law_shuffled" "_law_shuffled" (defArgs sShuffled) (defBody sShuffled) (defScope sShuffled) .none kV4 dc4 pm4 an4 cd4 ct4), sl4⟩) (c4 : PySem.W.codeIn K cd4 "_law_shuffled" = true) (k4 : PySem.W.keepIn K (.ref f4) = true)
    (a5 : PySem.W.nsIn K mainGlobals "_law_names" = some (some (.ref f5))) (l5 : K.lookup f5 = some ⟨oc5, od5, .func (PySem.W.fnOf "_law_names" "_law_names" (defArgs sNames) (defBody sNames) (defScope sNames) .none kV5 dc5 pm5 an5 cd5 ct5), sl5⟩) (c5 : PySem.W.codeIn K cd5 "_law_names" = true) (k5 : PySem.W.keepIn K (.ref f5) = true)
    (a6 : PySem.W.nsIn K mainGlobals "is_number" = some (some (.ref f6))) (l6 : K.lookup f6 = some ⟨oc6, od6, .func (PySem.W.fnOf "is_number" "is_number" (defArgs sIsNumber) (defBody sIsNumber) (defScope sIsNumber) .none kV6 dc6 pm6 an6 cd6 ct6), sl6⟩) (c6 : PySem.W.codeIn K cd6 "is_number" = true) (k6 : PySem.W.keepIn K (.ref f6) = true)
    (a7 : PySem.W.nsIn K mainGlobals "is_below" = some (some (.ref f7))) (l7 : K.lookup f7 = some ⟨oc7, od7, .func (PySem.W.fnOf "is_below" "is_below" (defArgs sIsBelow) (defBody sIsBelow) (defScope sIsBelow) .none kV7 dc7 pm7 an7 cd7 ct7), sl7⟩) (c7 : PySem.W.codeIn K cd7 "is_below" = true) (k7 : PySem.W.keepIn K (.ref f7) = true)
    (a8 : PySem.W.nsIn K mainGlobals "is_tuple_of" = some (some (.ref f8))) (l8 : K.lookup f8 = some ⟨oc8, od8, .func (PySem.W.fnOf "is_tuple_of" "is_tuple_of" (defArgs sIsTupleOf) (defBody sIsTupleOf) (defScope sIsTupleOf) .none kV8 dc8 pm8 an8 cd8 ct8), sl8⟩) (c8 : PySem.W.codeIn K cd8 "is_tuple_of" = true) (k8 : PySem.W.keepIn K (.ref f8) = true)
    (a9 : PySem.W.nsIn K mainGlobals "is_name" = some (some (.ref f9))) (l9 : K.lookup f9 = some ⟨oc9, od9, .func (PySem.W.fnOf "is_name" "is_name" (defArgs sIsName) (defBody sIsName) (defScope sIsName) .none kV9 dc9 pm9 an9 cd9 ct9), sl9⟩) (c9 : PySem.W.codeIn K cd9 "is_name" = true) (k9 : PySem.W.keepIn K (.ref f9) = true)
    (a10 : PySem.W.nsIn K mainGlobals "are_persons" = some (some (.ref f10))) (l10 : K.lookup f10 = some ⟨oc10, od10, .func (PySem.W.fnOf "are_persons" "are_persons" (defArgs sArePersons) (defBody sArePersons) (defScope sArePersons) .none kV10 dc10 pm10 an10 cd10 ct10), sl10⟩) (c10 : PySem.W.codeIn K cd10 "are_persons" = true) (k10 : PySem.W.keepIn K (.ref f10) = true)
    (a11 : PySem.W.nsIn K mainGlobals "are_unlike_persons" = some (some (.ref f11))) (l11 : K.lookup f11 = some ⟨oc11, od11, .func (PySem.W.fnOf "are_unlike_persons" "are_unlike_persons" (defArgs sAreUnlike) (defBody sAreUnlike) (defScope sAreUnlike) .none kV11 dc11 pm11 an11 cd11 ct11), sl11⟩) (c11 : PySem.W.codeIn K cd11 "are_unlike_persons" = true) (k11 : PySem.W.keepIn K (.ref f11) = true)
    (a12 : PySem.W.nsIn K mainGlobals "_law_lists" = some (some (.ref f12))) (l12 : K.lookup f12 = some ⟨oc12, od12, .func (PySem.W.fnOf "_law_lists" "_law_lists" (defArgs sLists) (defBody sLists) (defScope sLists) .none kV12 dc12 pm12 an12 cd12 ct12), sl12⟩) (c12 : PySem.W.codeIn K cd12 "_law_lists" = true) (k12 : PySem.W.keepIn K (.ref f12) = true)
    (a13 : PySem.W.nsIn K mainGlobals "_ranks_of_list" = some (some (.ref f13))) (l13 : K.lookup f13 = some ⟨oc13, od13, .func (PySem.W.fnOf "_ranks_of_list" "_ranks_of_list" (defArgs sRanksOfList) (defBody sRanksOfList) (defScope sRanksOfList) .none kV13 dc13 pm13 an13 cd13 ct13), sl13⟩) (c13 : PySem.W.codeIn K cd13 "_ranks_of_list" = true) (k13 : PySem.W.keepIn K (.ref f13) = true)
    (a14 : PySem.W.nsIn K mainGlobals "_ranks_of_lists" = some (some (.ref f14))) (l14 : K.lookup f14 = some ⟨oc14, od14, .func (PySem.W.fnOf "_ranks_of_lists" "_ranks_of_lists" (defArgs sRanksOfLists) (defBody sRanksOfLists) (defScope sRanksOfLists) .none kV14 dc14 pm14 an14 cd14 ct14), sl14⟩) (c14 : PySem.W.codeIn K cd14 "_ranks_of_lists" = true) (k14 : PySem.W.keepIn K (.ref f14) = true)
    (a15 : PySem.W.nsIn K mainGlobals "_are_names" = some (some (.ref f15))) (l15 : K.lookup f15 = some ⟨oc15, od15, .func (PySem.W.fnOf "_are_names" "_are_names" (defArgs sAreNames) (defBody sAreNames) (defScope sAreNames) .none kV15 dc15 pm15 an15 cd15 ct15), sl15⟩) (c15 : PySem.W.codeIn K cd15 "_are_names" = true) (k15 : PySem.W.keepIn K (.ref f15) = true)
    (a16 : PySem.W.nsIn K mainGlobals "_check_lists" = some (some (.ref f16))) (l16 : K.lookup f16 = some ⟨oc16, od16, .func (PySem.W.fnOf "_check_lists" "_check_lists" (defArgs sCheckLists) (defBody sCheckLists) (defScope sCheckLists) .none kV16 dc16 pm16 an16 cd16 ct16), sl16⟩) (c16 : PySem.W.codeIn K cd16 "_check_lists" = true) (k16 : PySem.W.keepIn K (.ref f16) = true)
    (a17 : PySem.W.nsIn K mainGlobals "_check_both_ways" = some (some (.ref f17))) (l17 : K.lookup f17 = some ⟨oc17, od17, .func (PySem.W.fnOf "_check_both_ways" "_check_both_ways" (defArgs sCheckBoth) (defBody sCheckBoth) (defScope sCheckBoth) .none kV17 dc17 pm17 an17 cd17 ct17), sl17⟩) (c17 : PySem.W.codeIn K cd17 "_check_both_ways" = true) (k17 : PySem.W.keepIn K (.ref f17) = true)
    (a18 : PySem.W.findIn K (.ref C) "__init__" = some (some (.ref f18))) (i18 : PySem.W.isFn K (.ref f18) = true) (l18 : K.lookup f18 = some ⟨oc18, od18, .func (PySem.W.fnOf "__init__" "Wishes.__init__" (defArgs sWInit) (defBody sWInit) (defScope sWInit) .none kV18 dc18 pm18 an18 cd18 ct18), sl18⟩) (c18 : PySem.W.codeIn K cd18 "Wishes.__init__" = true) (k18 : PySem.W.keepIn K (.ref f18) = true)
    (a19 : PySem.W.nsIn K mainGlobals "rank_of" = some (some (.ref f19))) (l19 : K.lookup f19 = some ⟨oc19, od19, .func (PySem.W.fnOf "rank_of" "rank_of" (defArgs sRankOf) (defBody sRankOf) (defScope sRankOf) .none kV19 dc19 pm19 an19 cd19 ct19), sl19⟩) (c19 : PySem.W.codeIn K cd19 "rank_of" = true) (k19 : PySem.W.keepIn K (.ref f19) = true)
    (a20 : PySem.W.nsIn K mainGlobals "ranks_in" = some (some (.ref f20))) (l20 : K.lookup f20 = some ⟨oc20, od20, .func (PySem.W.fnOf "ranks_in" "ranks_in" (defArgs sRanksIn) (defBody sRanksIn) (defScope sRanksIn) .none kV20 dc20 pm20 an20 cd20 ct20), sl20⟩) (c20 : PySem.W.codeIn K cd20 "ranks_in" = true) (k20 : PySem.W.keepIn K (.ref f20) = true)
    (a21 : PySem.W.nsIn K mainGlobals "held_ranks" = some (some (.ref f21))) (l21 : K.lookup f21 = some ⟨oc21, od21, .func (PySem.W.fnOf "held_ranks" "held_ranks" (defArgs sHeldRanks) (defBody sHeldRanks) (defScope sHeldRanks) .none kV21 dc21 pm21 an21 cd21 ct21), sl21⟩) (c21 : PySem.W.codeIn K cd21 "held_ranks" = true) (k21 : PySem.W.keepIn K (.ref f21) = true)
    (a22 : PySem.W.nsIn K mainGlobals "_left_list" = some (some (.ref f22))) (l22 : K.lookup f22 = some ⟨oc22, od22, .func (PySem.W.fnOf "_left_list" "_left_list" (defArgs sLeftList) (defBody sLeftList) (defScope sLeftList) .none kV22 dc22 pm22 an22 cd22 ct22), sl22⟩) (c22 : PySem.W.codeIn K cd22 "_left_list" = true) (k22 : PySem.W.keepIn K (.ref f22) = true)
    (a23 : PySem.W.nsIn K mainGlobals "left_lists" = some (some (.ref f23))) (l23 : K.lookup f23 = some ⟨oc23, od23, .func (PySem.W.fnOf "left_lists" "left_lists" (defArgs sLeftLists) (defBody sLeftLists) (defScope sLeftLists) .none kV23 dc23 pm23 an23 cd23 ct23), sl23⟩) (c23 : PySem.W.codeIn K cd23 "left_lists" = true) (k23 : PySem.W.keepIn K (.ref f23) = true)
    (a24 : PySem.W.findIn K (.ref C) "__eq__" = some (some (.ref f24))) (i24 : PySem.W.isFn K (.ref f24) = true) (l24 : K.lookup f24 = some ⟨oc24, od24, .func (PySem.W.fnOf "__eq__" "Wishes.__eq__" (defArgs sWEq) (defBody sWEq) (defScope sWEq) .none kV24 dc24 pm24 an24 cd24 ct24), sl24⟩) (c24 : PySem.W.codeIn K cd24 "Wishes.__eq__" = true) (k24 : PySem.W.keepIn K (.ref f24) = true)
    (a25 : PySem.W.nsIn K mainGlobals "_law_rank" = some (some (.ref f25))) (l25 : K.lookup f25 = some ⟨oc25, od25, .func (PySem.W.fnOf "_law_rank" "_law_rank" (defArgs sRank) (defBody sRank) (defScope sRank) .none kV25 dc25 pm25 an25 cd25 ct25), sl25⟩) (c25 : PySem.W.codeIn K cd25 "_law_rank" = true) (k25 : PySem.W.keepIn K (.ref f25) = true)
    (a26 : PySem.W.nsIn K mainGlobals "_law_left" = some (some (.ref f26))) (l26 : K.lookup f26 = some ⟨oc26, od26, .func (PySem.W.fnOf "_law_left" "_law_left" (defArgs sLeft) (defBody sLeft) (defScope sLeft) .none kV26 dc26 pm26 an26 cd26 ct26), sl26⟩) (c26 : PySem.W.codeIn K cd26 "_law_left" = true) (k26 : PySem.W.keepIn K (.ref f26) = true)
    (a27 : PySem.W.nsIn K mainGlobals "_givers_behind" = some (some (.ref f27))) (l27 : K.lookup f27 = some ⟨oc27, od27, .func (PySem.W.fnOf "_givers_behind" "_givers_behind" (defArgs sGiversBehind) (defBody sGiversBehind) (defScope sGiversBehind) .none kV27 dc27 pm27 an27 cd27 ct27), sl27⟩) (c27 : PySem.W.codeIn K cd27 "_givers_behind" = true) (k27 : PySem.W.keepIn K (.ref f27) = true)
    (a28 : PySem.W.nsIn K mainGlobals "ring_from" = some (some (.ref f28))) (l28 : K.lookup f28 = some ⟨oc28, od28, .func (PySem.W.fnOf "ring_from" "ring_from" (defArgs sRingFrom) (defBody sRingFrom) (defScope sRingFrom) .none kV28 dc28 pm28 an28 cd28 ct28), sl28⟩) (c28 : PySem.W.codeIn K cd28 "ring_from" = true) (k28 : PySem.W.keepIn K (.ref f28) = true)
    (a29 : PySem.W.nsIn K mainGlobals "from_least" = some (some (.ref f29))) (l29 : K.lookup f29 = some ⟨oc29, od29, .func (PySem.W.fnOf "from_least" "from_least" (defArgs sFromLeast) (defBody sFromLeast) (defScope sFromLeast) .none kV29 dc29 pm29 an29 cd29 ct29), sl29⟩) (c29 : PySem.W.codeIn K cd29 "from_least" = true) (k29 : PySem.W.keepIn K (.ref f29) = true)
    (a30 : PySem.W.nsIn K mainGlobals "all_rings" = some (some (.ref f30))) (l30 : K.lookup f30 = some ⟨oc30, od30, .func (PySem.W.fnOf "all_rings" "all_rings" (defArgs sAllRings) (defBody sAllRings) (defScope sAllRings) .none kV30 dc30 pm30 an30 cd30 ct30), sl30⟩) (c30 : PySem.W.codeIn K cd30 "all_rings" = true) (k30 : PySem.W.keepIn K (.ref f30) = true)
    (a31 : PySem.W.nsIn K mainGlobals "held_ranks" = some (some (.ref f31))) (l31 : K.lookup f31 = some ⟨oc31, od31, .func (PySem.W.fnOf "held_ranks" "held_ranks" (defArgs sHeldRanks) (defBody sHeldRanks) (defScope sHeldRanks) .none kV31 dc31 pm31 an31 cd31 ct31), sl31⟩) (c31 : PySem.W.codeIn K cd31 "held_ranks" = true) (k31 : PySem.W.keepIn K (.ref f31) = true)
    (a32 : PySem.W.nsIn K mainGlobals "_with_takers" = some (some (.ref f32))) (l32 : K.lookup f32 = some ⟨oc32, od32, .func (PySem.W.fnOf "_with_takers" "_with_takers" (defArgs sWithTakers) (defBody sWithTakers) (defScope sWithTakers) .none kV32 dc32 pm32 an32 cd32 ct32), sl32⟩) (c32 : PySem.W.codeIn K cd32 "_with_takers" = true) (k32 : PySem.W.keepIn K (.ref f32) = true)
    (a33 : PySem.W.nsIn K mainGlobals "_rings_in" = some (some (.ref f33))) (l33 : K.lookup f33 = some ⟨oc33, od33, .func (PySem.W.fnOf "_rings_in" "_rings_in" (defArgs sRingsIn) (defBody sRingsIn) (defScope sRingsIn) .none kV33 dc33 pm33 an33 cd33 ct33), sl33⟩) (c33 : PySem.W.codeIn K cd33 "_rings_in" = true) (k33 : PySem.W.keepIn K (.ref f33) = true)
    (a34 : PySem.W.nsIn K mainGlobals "_is_odd" = some (some (.ref f34))) (l34 : K.lookup f34 = some ⟨oc34, od34, .func (PySem.W.fnOf "_is_odd" "_is_odd" (defArgs sIsOdd) (defBody sIsOdd) (defScope sIsOdd) .none kV34 dc34 pm34 an34 cd34 ct34), sl34⟩) (c34 : PySem.W.codeIn K cd34 "_is_odd" = true) (k34 : PySem.W.keepIn K (.ref f34) = true)
    (a35 : PySem.W.nsIn K mainGlobals "is_odd_turn" = some (some (.ref f35))) (l35 : K.lookup f35 = some ⟨oc35, od35, .func (PySem.W.fnOf "is_odd_turn" "is_odd_turn" (defArgs sIsOddTurn) (defBody sIsOddTurn) (defScope sIsOddTurn) .none kV35 dc35 pm35 an35 cd35 ct35), sl35⟩) (c35 : PySem.W.codeIn K cd35 "is_odd_turn" = true) (k35 : PySem.W.keepIn K (.ref f35) = true)
    (a36 : PySem.W.nsIn K mainGlobals "good_rings" = some (some (.ref f36))) (l36 : K.lookup f36 = some ⟨oc36, od36, .func (PySem.W.fnOf "good_rings" "good_rings" (defArgs sGoodRings) (defBody sGoodRings) (defScope sGoodRings) .none kV36 dc36 pm36 an36 cd36 ct36), sl36⟩) (c36 : PySem.W.codeIn K cd36 "good_rings" = true) (k36 : PySem.W.keepIn K (.ref f36) = true)
    (a37 : PySem.W.findIn K (.ref CR) "__init__" = some (some (.ref f37))) (i37 : PySem.W.typeIn K (.ref f37) = some (.type "function")) (l37 : K.lookup f37 = some ⟨oc37, od37, .func (PySem.W.fnOf "__init__" "Refused.__init__" (defArgs sRefusedInit) (defBody sRefusedInit) (defScope sRefusedInit) .none kV37 dc37 pm37 an37 cd37 ct37), sl37⟩) (c37 : PySem.W.codeIn K cd37 "Refused.__init__" = true) (k37 : PySem.W.keepIn K (.ref f37) = true)
    (a38 : PySem.W.nsIn K mainGlobals "_law_round" = some (some (.ref f38))) (l38 : K.lookup f38 = some ⟨oc38, od38, .func (PySem.W.fnOf "_law_round" "_law_round" (defArgs sLRound) (defBody sLRound) (defScope sLRound) .none kV38 dc38 pm38 an38 cd38 ct38), sl38⟩) (c38 : PySem.W.codeIn K cd38 "_law_round" = true) (k38 : PySem.W.keepIn K (.ref f38) = true)
    (a39 : PySem.W.nsIn K mainGlobals "_law_out" = some (some (.ref f39))) (l39 : K.lookup f39 = some ⟨oc39, od39, .func (PySem.W.fnOf "_law_out" "_law_out" (defArgs sLOut) (defBody sLOut) (defScope sLOut) .none kV39 dc39 pm39 an39 cd39 ct39), sl39⟩) (c39 : PySem.W.codeIn K cd39 "_law_out" = true) (k39 : PySem.W.keepIn K (.ref f39) = true)
    (a40 : PySem.W.nsIn K mainGlobals "_law_rings" = some (some (.ref f40))) (l40 : K.lookup f40 = some ⟨oc40, od40, .func (PySem.W.fnOf "_law_rings" "_law_rings" (defArgs sLRings) (defBody sLRings) (defScope sLRings) .none kV40 dc40 pm40 an40 cd40 ct40), sl40⟩) (c40 : PySem.W.codeIn K cd40 "_law_rings" = true) (k40 : PySem.W.keepIn K (.ref f40) = true)
    (a41 : PySem.W.nsIn K mainGlobals "_law_told" = some (some (.ref f41))) (l41 : K.lookup f41 = some ⟨oc41, od41, .func (PySem.W.fnOf "_law_told" "_law_told" (defArgs sLTold) (defBody sLTold) (defScope sLTold) .none kV41 dc41 pm41 an41 cd41 ct41), sl41⟩) (c41 : PySem.W.codeIn K cd41 "_law_told" = true) (k41 : PySem.W.keepIn K (.ref f41) = true)
    (a42 : PySem.W.nsIn K mainGlobals "_law_is_odd" = some (some (.ref f42))) (l42 : K.lookup f42 = some ⟨oc42, od42, .func (PySem.W.fnOf "_law_is_odd" "_law_is_odd" (defArgs sLIsOdd) (defBody sLIsOdd) (defScope sLIsOdd) .none kV42 dc42 pm42 an42 cd42 ct42), sl42⟩) (c42 : PySem.W.codeIn K cd42 "_law_is_odd" = true) (k42 : PySem.W.keepIn K (.ref f42) = true)
    (a43 : PySem.W.nsIn K mainGlobals "_law_turned" = some (some (.ref f43))) (l43 : K.lookup f43 = some ⟨oc43, od43, .func (PySem.W.fnOf "_law_turned" "_law_turned" (defArgs sLTurned) (defBody sLTurned) (defScope sLTurned) .none kV43 dc43 pm43 an43 cd43 ct43), sl43⟩) (c43 : PySem.W.codeIn K cd43 "_law_turned" = true) (k43 : PySem.W.keepIn K (.ref f43) = true)
    (a44 : PySem.W.nsIn K mainGlobals "_law_good" = some (some (.ref f44))) (l44 : K.lookup f44 = some ⟨oc44, od44, .func (PySem.W.fnOf "_law_good" "_law_good" (defArgs sLGood) (defBody sLGood) (defScope sLGood) .none kV44 dc44 pm44 an44 cd44 ct44), sl44⟩) (c44 : PySem.W.codeIn K cd44 "_law_good" = true) (k44 : PySem.W.keepIn K (.ref f44) = true)
    (a45 : PySem.W.nsIn K mainGlobals "giver_behind" = some (some (.ref f45))) (l45 : K.lookup f45 = some ⟨oc45, od45, .func (PySem.W.fnOf "giver_behind" "giver_behind" (defArgs sGiverBehind) (defBody sGiverBehind) (defScope sGiverBehind) .none kV45 dc45 pm45 an45 cd45 ct45), sl45⟩) (c45 : PySem.W.codeIn K cd45 "giver_behind" = true) (k45 : PySem.W.keepIn K (.ref f45) = true)
    (a46 : PySem.W.nsIn K mainGlobals "turn_from" = some (some (.ref f46))) (l46 : K.lookup f46 = some ⟨oc46, od46, .func (PySem.W.fnOf "turn_from" "turn_from" (defArgs sTurnFrom) (defBody sTurnFrom) (defScope sTurnFrom) .none kV46 dc46 pm46 an46 cd46 ct46), sl46⟩) (c46 : PySem.W.codeIn K cd46 "turn_from" = true) (k46 : PySem.W.keepIn K (.ref f46) = true)
    (a47 : PySem.W.nsIn K mainGlobals "turn_rings" = some (some (.ref f47))) (l47 : K.lookup f47 = some ⟨oc47, od47, .func (PySem.W.fnOf "turn_rings" "turn_rings" (defArgs sTurnRings) (defBody sTurnRings) (defScope sTurnRings) .none kV47 dc47 pm47 an47 cd47 ct47), sl47⟩) (c47 : PySem.W.codeIn K cd47 "turn_rings" = true) (k47 : PySem.W.keepIn K (.ref f47) = true)
    (a48 : PySem.W.nsIn K mainGlobals "are_persons" = some (some (.ref f48))) (l48 : K.lookup f48 = some ⟨oc48, od48, .func (PySem.W.fnOf "are_persons" "are_persons" (defArgs sArePersons) (defBody sArePersons) (defScope sArePersons) .none kV48 dc48 pm48 an48 cd48 ct48), sl48⟩) (c48 : PySem.W.codeIn K cd48 "are_persons" = true) (k48 : PySem.W.keepIn K (.ref f48) = true)
    (a49 : PySem.W.nsIn K mainGlobals "are_rows_of_persons" = some (some (.ref f49))) (l49 : K.lookup f49 = some ⟨oc49, od49, .func (PySem.W.fnOf "are_rows_of_persons" "are_rows_of_persons" (defArgs sAreRowsOfPersons) (defBody sAreRowsOfPersons) (defScope sAreRowsOfPersons) .none kV49 dc49 pm49 an49 cd49 ct49), sl49⟩) (c49 : PySem.W.codeIn K cd49 "are_rows_of_persons" = true) (k49 : PySem.W.keepIn K (.ref f49) = true)
    (a50 : PySem.W.nsIn K mainGlobals "_law_some_lists" = some (some (.ref f50))) (l50 : K.lookup f50 = some ⟨oc50, od50, .func (PySem.W.fnOf "_law_some_lists" "_law_some_lists" (defArgs sLSomeLists) (defBody sLSomeLists) (defScope sLSomeLists) .none kV50 dc50 pm50 an50 cd50 ct50), sl50⟩) (c50 : PySem.W.codeIn K cd50 "_law_some_lists" = true) (k50 : PySem.W.keepIn K (.ref f50) = true)
    (a51 : PySem.W.nsIn K mainGlobals "_law_stages" = some (some (.ref f51))) (l51 : K.lookup f51 = some ⟨oc51, od51, .func (PySem.W.fnOf "_law_stages" "_law_stages" (defArgs sLStages) (defBody sLStages) (defScope sLStages) .none kV51 dc51 pm51 an51 cd51 ct51), sl51⟩) (c51 : PySem.W.codeIn K cd51 "_law_stages" = true) (k51 : PySem.W.keepIn K (.ref f51) = true)
    (a52 : PySem.W.nsIn K mainGlobals "is_turn_ring" = some (some (.ref f52))) (l52 : K.lookup f52 = some ⟨oc52, od52, .func (PySem.W.fnOf "is_turn_ring" "is_turn_ring" (defArgs sIsTurnRing) (defBody sIsTurnRing) (defScope sIsTurnRing) .none kV52 dc52 pm52 an52 cd52 ct52), sl52⟩) (c52 : PySem.W.codeIn K cd52 "is_turn_ring" = true) (k52 : PySem.W.keepIn K (.ref f52) = true)
    (a53 : PySem.W.nsIn K mainGlobals "_law_spoilt" = some (some (.ref f53))) (l53 : K.lookup f53 = some ⟨oc53, od53, .func (PySem.W.fnOf "_law_spoilt" "_law_spoilt" (defArgs sSpoilt) (defBody sSpoilt) (defScope sSpoilt) .none kV53 dc53 pm53 an53 cd53 ct53), sl53⟩) (c53 : PySem.W.codeIn K cd53 "_law_spoilt" = true) (k53 : PySem.W.keepIn K (.ref f53) = true)
    (a54 : PySem.W.nsIn K mainGlobals "_law_givers_right" = some (some (.ref f54))) (l54 : K.lookup f54 = some ⟨oc54, od54, .func (PySem.W.fnOf "_law_givers_right" "_law_givers_right" (defArgs sLGiversRight) (defBody sLGiversRight) (defScope sLGiversRight) .none kV54 dc54 pm54 an54 (.ref cc54) ct54), sl54⟩) (c54 : PySem.W.codeIn K (.ref cc54) "_law_givers_right" = true) (k54 : PySem.W.keepIn K (.ref f54) = true)
    (a55 : PySem.W.nsIn K mainGlobals "_law_rings_right" = some (some (.ref f55))) (l55 : K.lookup f55 = some ⟨oc55, od55, .func (PySem.W.fnOf "_law_rings_right" "_law_rings_right" (defArgs sLRingsRight) (defBody sLRingsRight) (defScope sLRingsRight) .none kV55 dc55 pm55 an55 cd55 ct55), sl55⟩) (c55 : PySem.W.codeIn K cd55 "_law_rings_right" = true) (k55 : PySem.W.keepIn K (.ref f55) = true)
    (a56 : PySem.W.nsIn K mainGlobals "law" = some (some (.ref f56))) (l56 : K.lookup f56 = some ⟨oc56, od56, .func (PySem.W.fnOf "law" "law" (defArgs sLaw) (defBody sLaw) (defScope sLaw) .none kV56 dc56 pm56 an56 cd56 ct56), sl56⟩) (c56 : PySem.W.codeIn K cd56 "law" = true) (k56 : PySem.W.keepIn K (.ref f56) = true)
    (aC : PySem.W.nsIn K mainGlobals "Wishes" = some (some (.ref C))) (pg : PySem.W.plainGet K C Str.empty = true) (hd : PySem.W.hasDictIn K C = true) (po : PySem.W.plainOver K C = true) (sa : PySem.W.findIn K (.ref C) "__setattr__" = some (some (.builtin "object.__setattr__"))) (mk : PySem.W.makesIn K C = true) (kc : PySem.W.keepIn K (.ref C) = true)
    (nA0 : PySem.W.findIn K (.ref C) "names" = some none)    (nA1 : PySem.W.findIn K (.ref C) "lists" = some none)    (nA2 : PySem.W.findIn K (.ref C) "_ranks" = some none)
    (ic1 : PySem.W.findIn K (.ref C) "__class__" = some (some (.builtin "object.__class__"))) (ic2 : PySem.W.specialIn K (.builtin "object.__class__") "__get__" = some (some (.builtin "getset_descriptor.__get__"))) (ic3 : PySem.W.takesIn K (.builtin "object.__class__") = some true) (ic4 : PySem.W.mroIn K C (.type "object") = some true)
    (z_int : PySem.W.nsIn K mainGlobals "int" = some none)    (z_len : PySem.W.nsIn K mainGlobals "len" = some none)    (z_abs : PySem.W.nsIn K mainGlobals "abs" = some none)    (z_range : PySem.W.nsIn K mainGlobals "range" = some none)    (z_list : PySem.W.nsIn K mainGlobals "list" = some none)    (z_tuple : PySem.W.nsIn K mainGlobals "tuple" = some none)    (z_sorted : PySem.W.nsIn K mainGlobals "sorted" = some none)    (z_isinstance : PySem.W.nsIn K mainGlobals "isinstance" = some none)    (z_bool : PySem.W.nsIn K mainGlobals "bool" = some none)    (z_str : PySem.W.nsIn K mainGlobals "str" = some none)    (z_all : PySem.W.nsIn K mainGlobals "all" = some none)    (z_set : PySem.W.nsIn K mainGlobals "set" = some none)    (z_enumerate : PySem.W.nsIn K mainGlobals "enumerate" = some none)    (z_min : PySem.W.nsIn K mainGlobals "min" = some none)    (z_sum : PySem.W.nsIn K mainGlobals "sum" = some none)    (z_repr : PySem.W.nsIn K mainGlobals "repr" = some none)    (zi_MOST_LETTERS : PySem.W.nsIn K mainGlobals "MOST_LETTERS" = some (some (.int 6 t_MOST_LETTERS)))    (zi_MOST_PERSONS : PySem.W.nsIn K mainGlobals "MOST_PERSONS" = some (some (.int 60 t_MOST_PERSONS)))
    (eL : K.lookup CR = some (excClassObj enm eq CR eN ebs ebm true esn esub eab ecol edd e0 e1 e2 e3 e5 "ValueError.__new__")) (eV : PySem.HandSPX.refsVE ebm = true) (q_sa : PySem.W.findIn K (.ref CR) "__setattr__" = some (some (.builtin "object.__setattr__"))) (q_ex : PySem.W.subIn K (.ref CR) (.type "BaseException") = some true) (q_ty : PySem.W.typeIn K (.ref CR) = some (.type "type")) (q_k : PySem.W.keepIn K (.ref CR) = true) (q_ga : PySem.W.findIn K (.ref CR) "__getattribute__" = some (some (.builtin "BaseException.__getattribute__"))) (q_gg : PySem.W.findIn K (.ref CR) "__getattr__" = some none) (q_hd : PySem.W.hasDictIn K CR = true) (q_ha : PySem.W.findIn K (.ref CR) "__class__" = some (some (.builtin "object.__class__"))) (q_hn : PySem.W.specialIn K (.builtin "object.__class__") "__get__" = some (some (.builtin "getset_descriptor.__get__"))) (q_ht : PySem.W.takesIn K (.builtin "object.__class__") = some true) (q_hm : PySem.W.mroIn K CR (.type "object") = some true) (q_w : PySem.W.findIn K (.ref CR) "word" = some none) (q_gR : PySem.W.nsIn K mainGlobals "Refused" = some (some (.ref CR))) (q_gM : PySem.W.nsIn K mainGlobals "MateError" = some (some (.ref CM))) (q_kM : PySem.W.keepIn K (.ref CM) = true) (q_xm : PySem.W.exmOne K (.ref CR) (.ref CR) = some true) (q_is : PySem.W.kitOne K (.ref CR) (.ref CM) = some true) (aH : PySem.W.nsIn K mainGlobals "_law_heard" = some (some (.ref fH))) (lH : K.lookup fH = some ⟨ocH, odH, .func (PySem.W.fnOf "_law_heard" "_law_heard" (defArgs sLHeard) (defBody sLHeard) (defScope sLHeard) .none kVH dcH pmH anH cdH ctH), slH⟩) (cH : PySem.W.codeIn K cdH "_law_heard" = true) (kH : PySem.W.keepIn K (.ref fH) = true)
    (hT54 : h.get? PT54 = some { cls := .none, data := .fields #[] }) (nT54 : K.lookup PT54 = none) (hC54 : PySem.W.CodeHd h cc54 PT54)
 :
    LawX l w K L2.CX0 9 63 "script" mg fa h := by
  have e := hfa.symm.trans (PySem.W.mg_of X G a56)
  cases e
  have T : Txt K mg C := ⟨⟨pg, hd, po, sa⟩, nA0, nA1, nA2, PySem.W.mg_of X G aC⟩
  have M : Mk K C f18 := ⟨mk, a18, i18, kc⟩
  have IC : C8.InsC K C := ⟨⟨pg, hd, po, sa⟩, ic1, ic2, ic3, ic4, if_pos (beq_self_eq_true _)⟩
  have F1 := fun_mk (st := sDraw) l1 c1 k1
  have F2 := fun_mk (st := sPick) l2 c2 k2
  have F3 := fun_mk (st := sHeap) l3 c3 k3
  have F4 := fun_mk (st := sShuffled) l4 c4 k4
  have F5 := fun_mk (st := sNames) l5 c5 k5
  have F6 := fun_mk (st := sIsNumber) l6 c6 k6
  have F7 := fun_mk (st := sIsBelow) l7 c7 k7
  have F8 := fun_mk (st := sIsTupleOf) l8 c8 k8
  have F9 := fun_mk (st := sIsName) l9 c9 k9
  have F10 := fun_mk (st := sArePersons) l10 c10 k10
  have F11 := fun_mk (st := sAreUnlike) l11 c11 k11
  have F12 := fun_mk (st := sLists) l12 c12 k12
  have F13 := fun_mk (st := sRanksOfList) l13 c13 k13
  have F14 := fun_mk (st := sRanksOfLists) l14 c14 k14
  have F15 := fun_mk (st := sAreNames) l15 c15 k15
  have F16 := fun_mk (st := sCheckLists) l16 c16 k16
  have F17 := fun_mk (st := sCheckBoth) l17 c17 k17
  have F18 := fun_mk (st := sWInit) l18 c18 k18
  have F19 := fun_mk (st := sRankOf) l19 c19 k19
  have F20 := fun_mk (st := sRanksIn) l20 c20 k20
  have F21 := fun_mk (st := sHeldRanks) l21 c21 k21
  have F22 := fun_mk (st := sLeftList) l22 c22 k22
  have F23 := fun_mk (st := sLeftLists) l23 c23 k23
  have F24 := fun_mk (st := sWEq) l24 c24 k24
  have F25 := fun_mk (st := sRank) l25 c25 k25
  have F26 := fun_mk (st := sLeft) l26 c26 k26
  have F27 := fun_mk (st := sGiversBehind) l27 c27 k27
  have F28 := fun_mk (st := sRingFrom) l28 c28 k28
  have F29 := fun_mk (st := sFromLeast) l29 c29 k29
  have F30 := fun_mk (st := sAllRings) l30 c30 k30
  have F31 := fun_mk (st := sHeldRanks) l31 c31 k31
  have F32 := fun_mk (st := sWithTakers) l32 c32 k32
  have F33 := fun_mk (st := sRingsIn) l33 c33 k33
  have F34 := fun_mk (st := sIsOdd) l34 c34 k34
  have F35 := fun_mk (st := sIsOddTurn) l35 c35 k35
  have F36 := fun_mk (st := sGoodRings) l36 c36 k36
  have F37 := fun_mk (st := sRefusedInit) l37 c37 k37
  have F38 := fun_mk (st := sLRound) l38 c38 k38
  have F39 := fun_mk (st := sLOut) l39 c39 k39
  have F40 := fun_mk (st := sLRings) l40 c40 k40
  have F41 := fun_mk (st := sLTold) l41 c41 k41
  have F42 := fun_mk (st := sLIsOdd) l42 c42 k42
  have F43 := fun_mk (st := sLTurned) l43 c43 k43
  have F44 := fun_mk (st := sLGood) l44 c44 k44
  have F45 := fun_mk (st := sGiverBehind) l45 c45 k45
  have F46 := fun_mk (st := sTurnFrom) l46 c46 k46
  have F47 := fun_mk (st := sTurnRings) l47 c47 k47
  have F48 := fun_mk (st := sArePersons) l48 c48 k48
  have F49 := fun_mk (st := sAreRowsOfPersons) l49 c49 k49
  have F50 := fun_mk (st := sLSomeLists) l50 c50 k50
  have F51 := fun_mk (st := sLStages) l51 c51 k51
  have F52 := fun_mk (st := sIsTurnRing) l52 c52 k52
  have F53 := fun_mk (st := sSpoilt) l53 c53 k53
  have F54 := fun_mk (st := sLGiversRight) l54 c54 k54
  have F55 := fun_mk (st := sLRingsRight) l55 c55 k55
  have F56 := fun_mk (st := sLaw) l56 c56 k56
  have b1 := F1.binds (ps := ["heap", "many"]) fun _ _ _ _ _ _ us hl => match us, hl with | [_, _], _ => rfl
  have b2 := F2.binds (ps := ["heap", "some"]) fun _ _ _ _ _ _ us hl => match us, hl with | [_, _], _ => rfl
  have b3 := F3.binds (ps := ["script"]) fun _ _ _ _ _ _ us hl => match us, hl with | [_], _ => rfl
  have b4 := F4.binds (ps := ["heap", "some"]) fun _ _ _ _ _ _ us hl => match us, hl with | [_, _], _ => rfl
  have b5 := F5.binds (ps := ["heap", "many"]) fun _ _ _ _ _ _ us hl => match us, hl with | [_, _], _ => rfl
  have b6 := F6.binds (ps := ["value"]) fun _ _ _ _ _ _ us hl => match us, hl with | [_], _ => rfl
  have b7 := F7.binds (ps := ["value", "bound"]) fun _ _ _ _ _ _ us hl => match us, hl with | [_, _], _ => rfl
  have b8 := F8.binds (ps := ["value", "many"]) fun _ _ _ _ _ _ us hl => match us, hl with | [_, _], _ => rfl
  have b9 := F9.binds (ps := ["value"]) fun _ _ _ _ _ _ us hl => match us, hl with | [_], _ => rfl
  have b10 := F10.binds (ps := ["value", "many"]) fun _ _ _ _ _ _ us hl => match us, hl with | [_, _], _ => rfl
  have b11 := F11.binds (ps := ["value", "many"]) fun _ _ _ _ _ _ us hl => match us, hl with | [_, _], _ => rfl
  have b12 := F12.binds (ps := ["heap", "many", "share"]) fun _ _ _ _ _ _ us hl => match us, hl with | [_, _, _], _ => rfl
  have b13 := F13.binds (ps := ["some", "many"]) fun _ _ _ _ _ _ us hl => match us, hl with | [_, _], _ => rfl
  have b14 := F14.binds (ps := ["lists"]) fun _ _ _ _ _ _ us hl => match us, hl with | [_], _ => rfl
  have b15 := F15.binds (ps := ["value"]) fun _ _ _ _ _ _ us hl => match us, hl with | [_], _ => rfl
  have b16 := F16.binds (ps := ["lists"]) fun _ _ _ _ _ _ us hl => match us, hl with | [_], _ => rfl
  have b17 := F17.binds (ps := ["lists", "ranks"]) fun _ _ _ _ _ _ us hl => match us, hl with | [_, _], _ => rfl
  have b18 := F18.binds (ps := ["self", "names", "lists"]) fun _ _ _ _ _ _ us hl => match us, hl with | [_, _, _], _ => rfl
  have b19 := F19.binds (ps := ["wishes", "person", "other"]) fun _ _ _ _ _ _ us hl => match us, hl with | [_, _, _], _ => rfl
  have b20 := F20.binds (ps := ["wishes"]) fun _ _ _ _ _ _ us hl => match us, hl with | [_], _ => rfl
  have b21 := F21.binds (ps := ["wishes", "holds"]) fun _ _ _ _ _ _ us hl => match us, hl with | [_, _], _ => rfl
  have b22 := F22.binds (ps := ["wishes", "most", "person"]) fun _ _ _ _ _ _ us hl => match us, hl with | [_, _, _], _ => rfl
  have b23 := F23.binds (ps := ["wishes", "holds"]) fun _ _ _ _ _ _ us hl => match us, hl with | [_, _], _ => rfl
  have b24 := F24.binds (ps := ["self", "other"]) fun _ _ _ _ _ _ us hl => match us, hl with | [_, _], _ => rfl
  have b25 := F25.binds (ps := ["lists", "person", "other"]) fun _ _ _ _ _ _ us hl => match us, hl with | [_, _, _], _ => rfl
  have b26 := F26.binds (ps := ["lists", "holds"]) fun _ _ _ _ _ _ us hl => match us, hl with | [_, _], _ => rfl
  have b27 := F27.binds (ps := ["holds", "lists"]) fun _ _ _ _ _ _ us hl => match us, hl with | [_, _], _ => rfl
  have b28 := F28.binds (ps := ["behind", "person"]) fun _ _ _ _ _ _ us hl => match us, hl with | [_, _], _ => rfl
  have b29 := F29.binds (ps := ["ring"]) fun _ _ _ _ _ _ us hl => match us, hl with | [_], _ => rfl
  have b30 := F30.binds (ps := ["behind"]) fun _ _ _ _ _ _ us hl => match us, hl with | [_], _ => rfl
  have b31 := F31.binds (ps := ["wishes", "holds"]) fun _ _ _ _ _ _ us hl => match us, hl with | [_, _], _ => rfl
  have b32 := F32.binds (ps := ["givers", "lists"]) fun _ _ _ _ _ _ us hl => match us, hl with | [_, _], _ => rfl
  have b33 := F33.binds (ps := ["holds", "lists"]) fun _ _ _ _ _ _ us hl => match us, hl with | [_, _], _ => rfl
  have b34 := F34.binds (ps := ["lists", "ring"]) fun _ _ _ _ _ _ us hl => match us, hl with | [_, _], _ => rfl
  have b35 := F35.binds (ps := ["wishes", "holds", "ring"]) fun _ _ _ _ _ _ us hl => match us, hl with | [_, _, _], _ => rfl
  have n35 := named3 (n := "wishes") (m := "holds") (o := "ring") F35 (fun _ _ _ _ _ _ _ _ _ => rfl) (fun _ _ _ _ _ _ _ _ _ => rfl) (fun _ _ _ _ _ _ _ _ _ => rfl) (fun _ _ _ _ _ _ _ _ _ => rfl)
  have b36 := F36.binds (ps := ["wishes", "holds"]) fun _ _ _ _ _ _ us hl => match us, hl with | [_, _], _ => rfl
  have n36 := named2 (n := "wishes") (m := "holds") F36 (fun _ _ _ _ _ _ _ _ => rfl) (fun _ _ _ _ _ _ _ _ => rfl) (fun _ _ _ _ _ _ _ _ => rfl)
  have b37 := F37.binds (ps := ["self", "word"]) fun _ _ _ _ _ _ us hl => match us, hl with | [_, _], _ => rfl
  have b38 := F38.binds (ps := ["heap", "many"]) fun _ _ _ _ _ _ us hl => match us, hl with | [_, _], _ => rfl
  have b39 := F39.binds (ps := ["lists"]) fun _ _ _ _ _ _ us hl => match us, hl with | [_], _ => rfl
  have b40 := F40.binds (ps := ["lists", "holds"]) fun _ _ _ _ _ _ us hl => match us, hl with | [_, _], _ => rfl
  have b41 := F41.binds (ps := ["lists", "holds", "ring"]) fun _ _ _ _ _ _ us hl => match us, hl with | [_, _, _], _ => rfl
  have b42 := F42.binds (ps := ["lists", "holds", "ring"]) fun _ _ _ _ _ _ us hl => match us, hl with | [_, _, _], _ => rfl
  have b43 := F43.binds (ps := ["lists", "holds", "ring"]) fun _ _ _ _ _ _ us hl => match us, hl with | [_, _, _], _ => rfl
  have b44 := F44.binds (ps := ["lists", "holds"]) fun _ _ _ _ _ _ us hl => match us, hl with | [_, _], _ => rfl
  have b45 := F45.binds (ps := ["wishes", "holds", "person"]) fun _ _ _ _ _ _ us hl => match us, hl with | [_, _, _], _ => rfl
  have n45 := last1 (n := "wishes") (m := "holds") (o := "person") F45 (fun _ _ _ _ _ _ _ _ _ => rfl) (fun _ _ _ _ _ _ _ _ _ => rfl)
  have b46 := F46.binds (ps := ["wishes", "holds", "person"]) fun _ _ _ _ _ _ us hl => match us, hl with | [_, _, _], _ => rfl
  have n46 := last2 (n := "wishes") (m := "holds") (o := "person") F46 (fun _ _ _ _ _ _ _ _ _ => rfl) (fun _ _ _ _ _ _ _ _ _ => rfl) (fun _ _ _ _ _ _ _ _ _ => rfl)
  have b47 := F47.binds (ps := ["wishes", "holds"]) fun _ _ _ _ _ _ us hl => match us, hl with | [_, _], _ => rfl
  have n47 := named2 (n := "wishes") (m := "holds") F47 (fun _ _ _ _ _ _ _ _ => rfl) (fun _ _ _ _ _ _ _ _ => rfl) (fun _ _ _ _ _ _ _ _ => rfl)
  have b48 := F48.binds (ps := ["value", "many"]) fun _ _ _ _ _ _ us hl => match us, hl with | [_, _], _ => rfl
  have b49 := F49.binds (ps := ["value", "many"]) fun _ _ _ _ _ _ us hl => match us, hl with | [_, _], _ => rfl
  have b50 := F50.binds (ps := ["heap", "sizes"]) fun _ _ _ _ _ _ us hl => match us, hl with | [_, _], _ => rfl
  have b51 := F51.binds (ps := ["heap", "lists"]) fun _ _ _ _ _ _ us hl => match us, hl with | [_, _], _ => rfl
  have b52 := F52.binds (ps := ["wishes", "holds", "value"]) fun _ _ _ _ _ _ us hl => match us, hl with | [_, _, _], _ => rfl
  have n52 := named3 (n := "wishes") (m := "holds") (o := "value") F52 (fun _ _ _ _ _ _ _ _ _ => rfl) (fun _ _ _ _ _ _ _ _ _ => rfl) (fun _ _ _ _ _ _ _ _ _ => rfl) (fun _ _ _ _ _ _ _ _ _ => rfl)
  have b53 := F53.binds (ps := ["heap", "ring", "many"]) fun _ _ _ _ _ _ us hl => match us, hl with | [_, _, _], _ => rfl
  have b54 := F54.binds (ps := ["wishes", "lists", "holds", "dues"]) fun _ _ _ _ _ _ us hl => match us, hl with | [_, _, _, _], _ => rfl
  have b55 := F55.binds (ps := ["heap", "wishes", "lists", "holds"]) fun _ _ _ _ _ _ us hl => match us, hl with | [_, _, _, _], _ => rfl
  have FH := fun_mk (st := sLHeard) lH cH kH
  have bH := FH.binds (ps := ["action"]) fun _ _ _ _ _ _ us hl => match us, hl with | [_], _ => rfl
  have GH : HeardT K mg fH _ := ⟨FH, bH, kH, PySem.W.mg_of X G aH⟩
  have ET : ErrT K mg CR CM f37 := ⟨⟨⟨_, _, _, _, _, _, _, _, _, _, _, _, _, _, _, eL, eV⟩, q_sa, q_ex, q_ty, q_k⟩, ⟨q_ga, q_gg, q_ex, q_hd⟩, ⟨q_ga, q_gg, q_ex, q_hd, q_ha, q_hn, q_ht, q_hm⟩, q_w, a37, i37, PySem.W.mg_of X G q_gR, PySem.W.mg_of X G q_gM, q_kM, q_xm, q_is⟩
  have m_int := PySem.W.mg_none_of X G z_int
  have m_len := PySem.W.mg_none_of X G z_len
  have m_abs := PySem.W.mg_none_of X G z_abs
  have m_range := PySem.W.mg_none_of X G z_range
  have m_list := PySem.W.mg_none_of X G z_list
  have m_tuple := PySem.W.mg_none_of X G z_tuple
  have m_sorted := PySem.W.mg_none_of X G z_sorted
  have m_isinstance := PySem.W.mg_none_of X G z_isinstance
  have m_bool := PySem.W.mg_none_of X G z_bool
  have m_str := PySem.W.mg_none_of X G z_str
  have m_all := PySem.W.mg_none_of X G z_all
  have m_set := PySem.W.mg_none_of X G z_set
  have m_enumerate := PySem.W.mg_none_of X G z_enumerate
  have m_min := PySem.W.mg_none_of X G z_min
  have m_sum := PySem.W.mg_none_of X G z_sum
  have m_repr := PySem.W.mg_none_of X G z_repr
  have mi_MOST_LETTERS := PySem.W.mg_of X G zi_MOST_LETTERS
  have mi_MOST_PERSONS := PySem.W.mg_of X G zi_MOST_PERSONS
  have m1 := PySem.W.mg_of X G a1
  have m2 := PySem.W.mg_of X G a2
  have m3 := PySem.W.mg_of X G a3
  have m4 := PySem.W.mg_of X G a4
  have m5 := PySem.W.mg_of X G a5
  have m6 := PySem.W.mg_of X G a6
  have m7 := PySem.W.mg_of X G a7
  have m8 := PySem.W.mg_of X G a8
  have m9 := PySem.W.mg_of X G a9
  have m10 := PySem.W.mg_of X G a10
  have m11 := PySem.W.mg_of X G a11
  have m12 := PySem.W.mg_of X G a12
  have m13 := PySem.W.mg_of X G a13
  have m14 := PySem.W.mg_of X G a14
  have m15 := PySem.W.mg_of X G a15
  have m16 := PySem.W.mg_of X G a16
  have m17 := PySem.W.mg_of X G a17
  have m19 := PySem.W.mg_of X G a19
  have m20 := PySem.W.mg_of X G a20
  have m21 := PySem.W.mg_of X G a21
  have m22 := PySem.W.mg_of X G a22
  have m23 := PySem.W.mg_of X G a23
  have m25 := PySem.W.mg_of X G a25
  have m26 := PySem.W.mg_of X G a26
  have m27 := PySem.W.mg_of X G a27
  have m28 := PySem.W.mg_of X G a28
  have m29 := PySem.W.mg_of X G a29
  have m30 := PySem.W.mg_of X G a30
  have m31 := PySem.W.mg_of X G a31
  have m32 := PySem.W.mg_of X G a32
  have m33 := PySem.W.mg_of X G a33
  have m34 := PySem.W.mg_of X G a34
  have m35 := PySem.W.mg_of X G a35
  have m36 := PySem.W.mg_of X G a36
  have m38 := PySem.W.mg_of X G a38
  have m39 := PySem.W.mg_of X G a39
  have m40 := PySem.W.mg_of X G a40
  have m41 := PySem.W.mg_of X G a41
  have m42 := PySem.W.mg_of X G a42
  have m43 := PySem.W.mg_of X G a43
  have m44 := PySem.W.mg_of X G a44
  have m45 := PySem.W.mg_of X G a45
  have m46 := PySem.W.mg_of X G a46
  have m47 := PySem.W.mg_of X G a47
  have m48 := PySem.W.mg_of X G a48
  have m49 := PySem.W.mg_of X G a49
  have m50 := PySem.W.mg_of X G a50
  have m51 := PySem.W.mg_of X G a51
  have m52 := PySem.W.mg_of X G a52
  have m53 := PySem.W.mg_of X G a53
  have m54 := PySem.W.mg_of X G a54
  have m55 := PySem.W.mg_of X G a55
  refine ⟨PySem.W.fnOf "law" "law" (defArgs sLaw) (defBody sLaw) (defScope sLaw) .none kV56 dc56 pm56 an56 cd56 ct56, [(cc54, PT54)], spLaw K [(PT54, lamQ "_law_givers_right")], ?_, ?_, ?_, fun s v => .of_eq rfl, ?_, fun base _ _ hB => ?_⟩
  · intro p hp
    simp only [List.mem_cons, List.not_mem_nil, or_false] at hp
    rcases hp with rfl
    · exact hT54
  · intro p hp
    simp only [List.mem_cons, List.not_mem_nil, or_false] at hp
    rcases hp with rfl
    · exact nT54
  · intro p hp
    simp only [List.mem_cons, List.not_mem_nil, or_false] at hp
    rcases hp with rfl
    · exact hC54
  · intro H a ns hl hH hS
    refine ⟨a, ns, rfl, hS, hl, fun p hp => ?_, fun _ => rfl⟩
    simp only [List.mem_cons, List.not_mem_nil, or_false] at hp
    rcases hp with rfl
    · exact LamX.TabS.nil (hH (cc54, PT54) (by simp))
  have TB__law_givers_right : TabT [(PT54, lamQ "_law_givers_right")] base mg cc54 PT54 (lamQ "_law_givers_right") := ⟨hB (cc54, PT54) (by simp), by simp, by
    intro p hp e
    simp only [List.mem_cons, List.not_mem_nil, or_false] at hp
    rcases hp with rfl
    · rfl⟩
  have g1 := ok_draw (P := l.prog) (w := w) (mg := mg) (base := base) (k := 0) F1 m_int
  have g2 := ok_pick (P := l.prog) (w := w) (mg := mg) (base := base) (k := 1) F2 (g1.mono (by decide)) b1 k1 m1 m_len
  have g3 := ok_heap (P := l.prog) (w := w) (mg := mg) (base := base) (k := 0) F3 m_int m_abs
  have g4 := ok_shuffled (P := l.prog) (w := w) (mg := mg) (base := base) (k := 1) F4 (g1.mono (by decide)) b1 k1 m1 m_len m_range m_list m_tuple
  have g5 := ok_names (P := l.prog) (w := w) (mg := mg) (base := base) (k := 2) F5 (g1.mono (by decide)) b1 k1 m1 (g2.mono (by decide)) b2 k2 m2 m_int m_len m_range m_sorted m_tuple
  have g6 := ok_is_number (P := l.prog) (w := w) (mg := mg) (base := base) (k := 0) F6 m_isinstance m_int m_bool
  have g7 := ok_is_below (P := l.prog) (w := w) (mg := mg) (base := base) (k := 1) F7 (g6.mono (by decide)) b6 k6 m6
  have g8 := ok_is_tuple_of (P := l.prog) (w := w) (mg := mg) (base := base) (k := 0) F8 m_isinstance m_tuple m_len
  have g9 := ok_is_name (P := l.prog) (w := w) (mg := mg) (base := base) (k := 0) F9 m_isinstance m_str m_len m_all mi_MOST_LETTERS
  have g10 := ok_are_persons (P := l.prog) (w := w) (mg := mg) (base := base) (k := 2) F10 (g7.mono (by decide)) b7 k7 m7 m_isinstance m_tuple m_all
  have g11 := ok_are_unlike (P := l.prog) (w := w) (mg := mg) (base := base) (k := 3) F11 (g10.mono (by decide)) b10 k10 m10 m_len m_set
  have g12 := ok_lists (P := l.prog) (w := w) (mg := mg) (base := base) (k := 2) F12 (g1.mono (by decide)) b1 k1 m1 (g4.mono (by decide)) b4 k4 m4 m_range m_tuple
  have g13 := ok_ranks_of_list (P := l.prog) (w := w) (mg := mg) (base := base) (k := 0) F13 m_enumerate m_tuple
  have g14 := ok_ranks_of_lists (P := l.prog) (w := w) (mg := mg) (base := base) (k := 1) F14 (g13.mono (by decide)) b13 k13 m13 m_len m_tuple
  have g15 := ok_are_names (P := l.prog) (w := w) (mg := mg) (base := base) (k := 1) F15 (g9.mono (by decide)) b9 k9 m9 m_isinstance m_tuple m_len m_all m_range mi_MOST_PERSONS
  have g16 := ok_check_lists (P := l.prog) (w := w) (mg := mg) (base := base) (k := 4) F16 (g11.mono (by decide)) b11 k11 m11 m_enumerate m_len
  have g17 := ok_check_both (P := l.prog) (w := w) (mg := mg) (base := base) (k := 0) F17 m_enumerate
  have g18 := ok_winit (P := l.prog) (w := w) (mg := mg) (base := base) (k := 5) F18 T (g15.mono (by decide)) b15 k15 m15 (g8.mono (by decide)) b8 k8 m8 (g16.mono (by decide)) b16 k16 m16 (g14.mono (by decide)) b14 k14 m14 (g17.mono (by decide)) b17 k17 m17 m_len
  have g19 := ok_rank_of (P := l.prog) (w := w) (mg := mg) (base := base) (k := 0) F19 T m_len
  have g20 := ok_ranks_in (P := l.prog) (w := w) (mg := mg) (base := base) (k := 0) F20 T
  have g21 := ok_held_ranks (P := l.prog) (w := w) (mg := mg) (base := base) (k := 1) F21 (g19.mono (by decide)) b19 k19 m19 m_tuple m_enumerate
  have g22 := ok_left_list (P := l.prog) (w := w) (mg := mg) (base := base) (k := 1) F22 T (g20.mono (by decide)) b20 k20 m20 m_tuple
  have g23 := ok_left_lists (P := l.prog) (w := w) (mg := mg) (base := base) (k := 2) F23 (g21.mono (by decide)) b21 k21 m21 (g22.mono (by decide)) b22 k22 m22 m_tuple m_len m_range
  have g24 := ok_weq (P := l.prog) (w := w) (mg := mg) (base := base) (k := 0) F24 T IC m_isinstance
  have g25 := ok_rank (P := l.prog) (w := w) (mg := mg) (base := base) (k := 0) F25 m_len
  have g26 := ok_left (P := l.prog) (w := w) (mg := mg) (base := base) (k := 1) F26 (g25.mono (by decide)) b25 k25 m25 m_len m_range m_tuple
  have g27 := ok_givers (P := l.prog) (w := w) (mg := mg) (base := base) (k := 0) F27 m_len
  have g28 := ok_ring_from (P := l.prog) (w := w) (mg := mg) (base := base) (k := 0) F28 m_tuple
  have g29 := ok_from_least (P := l.prog) (w := w) (mg := mg) (base := base) (k := 0) F29 m_min
  have g30 := ok_all_rings (P := l.prog) (w := w) (mg := mg) (base := base) (k := 1) F30 ⟨(g28.mono (by decide)), b28, k28, m28⟩ ⟨(g29.mono (by decide)), b29, k29, m29⟩ m_len m_range m_tuple m_sorted
  have g31 := ok_held_ranksL (P := l.prog) (w := w) (mg := mg) (base := base) (k := 1) F31 (g19.mono (by decide)) b19 k19 m19 m_tuple m_enumerate
  have g32 := ok_with_takers (P := l.prog) (w := w) (mg := mg) (base := base) (k := 0) F32 m_tuple
  have g33 := ok_rings_in (P := l.prog) (w := w) (mg := mg) (base := base) (k := 2) F33 ⟨(g32.mono (by decide)), b32, k32, m32⟩ ⟨(g30.mono (by decide)), b30, k30, m30⟩ ⟨(g27.mono (by decide)), b27, k27, m27⟩ m_tuple
  have g34 := ok_is_odd (P := l.prog) (w := w) (mg := mg) (base := base) (k := 0) F34 m_len m_all
  have g35 := ok_is_odd_turn (P := l.prog) (w := w) (mg := mg) (base := base) (k := 3) F35 ⟨(g34.mono (by decide)), b34, k34, m34⟩ ⟨(g23.mono (by decide)), b23, k23, m23⟩
  have g36 := ok_good_rings (P := l.prog) (w := w) (mg := mg) (base := base) (k := 3) F36 ⟨(g34.mono (by decide)), b34, k34, m34⟩ ⟨(g23.mono (by decide)), b23, k23, m23⟩ ⟨(g33.mono (by decide)), b33, k33, m33⟩ m_tuple
  have g37 := ok_ref_init (P := l.prog) (w := w) (mg := mg) (base := base) (k := 0) F37 ET
  have g38 := ok_round (P := l.prog) (w := w) (mg := mg) (base := base) (k := 2) F38 ⟨(g1.mono (by decide)), b1, k1, m1⟩ ⟨(g4.mono (by decide)), b4, k4, m4⟩ m_range m_tuple m_int m_list
  have g39 := ok_out (P := l.prog) (w := w) (mg := mg) (base := base) (k := 2) F39 (g26.mono (by decide)) b26 k26 m26 m_len m_range m_sum
  have g40 := ok_l_rings (P := l.prog) (w := w) (mg := mg) (base := base) (k := 2) F40 ⟨(g26.mono (by decide)), b26, k26, m26⟩ m_len m_range m_min
  have g41 := ok_l_told (P := l.prog) (w := w) (mg := mg) (base := base) (k := 2) F41 ⟨(g26.mono (by decide)), b26, k26, m26⟩ m_tuple
  have g42 := ok_l_is_odd (P := l.prog) (w := w) (mg := mg) (base := base) (k := 2) F42 ⟨(g26.mono (by decide)), b26, k26, m26⟩ m_len m_all
  have g43 := ok_l_turned (P := l.prog) (w := w) (mg := mg) (base := base) (k := 2) F43 ⟨(g26.mono (by decide)), b26, k26, m26⟩ m_list m_tuple
  have g44 := ok_l_good (P := l.prog) (w := w) (mg := mg) (base := base) (k := 3) F44 ⟨(g40.mono (by decide)), b40, k40, m40⟩ ⟨(g42.mono (by decide)), b42, k42, m42⟩
  have g45 := ok_giver_behind (P := l.prog) (w := w) (mg := mg) (base := base) (k := 3) F45 ⟨(g27.mono (by decide)), b27, k27, m27⟩ ⟨(g23.mono (by decide)), b23, k23, m23⟩
  have g45X := ok_giver_behindX (P := l.prog) (w := w) (mg := mg) (base := base) (k := 2) F45 ET ⟨(g27.mono (by decide)), b27, k27, m27⟩ ⟨(g23.mono (by decide)), b23, k23, m23⟩ (g37.mono (by decide)) b37
  have g46X := ok_turn_fromX (P := l.prog) (w := w) (mg := mg) (base := base) (k := 2) F46 ET ⟨(g27.mono (by decide)), b27, k27, m27⟩ ⟨(g23.mono (by decide)), b23, k23, m23⟩ ⟨(g28.mono (by decide)), b28, k28, m28⟩ ⟨(g29.mono (by decide)), b29, k29, m29⟩ ⟨(g32.mono (by decide)), b32, k32, m32⟩ (g37.mono (by decide)) b37 m_len
  have g46 := ok_turn_from (P := l.prog) (w := w) (mg := mg) (base := base) (k := 3) F46 ⟨(g27.mono (by decide)), b27, k27, m27⟩ ⟨(g23.mono (by decide)), b23, k23, m23⟩ ⟨(g28.mono (by decide)), b28, k28, m28⟩ ⟨(g29.mono (by decide)), b29, k29, m29⟩ ⟨(g32.mono (by decide)), b32, k32, m32⟩ m_len
  have g47 := ok_turn_rings (P := l.prog) (w := w) (mg := mg) (base := base) (k := 3) F47 ⟨(g33.mono (by decide)), b33, k33, m33⟩ ⟨(g23.mono (by decide)), b23, k23, m23⟩
  have g48 := ok_persons_v (P := l.prog) (w := w) (mg := mg) (base := base) (k := 2) F48 ⟨(g7.mono (by decide)), b7, k7, m7⟩ m_isinstance m_tuple m_all
  have g49 := ok_rows_v (P := l.prog) (w := w) (mg := mg) (base := base) (k := 3) F49 ⟨(g48.mono (by decide)), b48, k48, m48⟩ m_isinstance m_tuple m_all
  have g50 := ok_some (P := l.prog) (w := w) (mg := mg) (base := base) (k := 3) F50 ⟨(g2.mono (by decide)), b2, k2, m2⟩ ⟨(g1.mono (by decide)), b1, k1, m1⟩ ⟨(g38.mono (by decide)), b38, k38, m38⟩ ⟨(g12.mono (by decide)), b12, k12, m12⟩
  have g51 := ok_stages (P := l.prog) (w := w) (mg := mg) (base := base) (k := 4) F51 ⟨(g2.mono (by decide)), b2, k2, m2⟩ ⟨(g39.mono (by decide)), b39, k39, m39⟩ ⟨(g44.mono (by decide)), b44, k44, m44⟩ ⟨(g41.mono (by decide)), b41, k41, m41⟩ ⟨(g43.mono (by decide)), b43, k43, m43⟩ m_len m_range m_sum m_tuple
  have g52 := ok_is_turn_ring (P := l.prog) (w := w) (mg := mg) (base := base) (k := 4) F52 ⟨(g49.mono (by decide)), b49, k49, m49⟩ ⟨(g47.mono (by decide)), b47, k47, m47⟩ m_len
  have g53 := ok_spoilt (P := l.prog) (w := w) (mg := mg) (base := base) (k := 1) F53 ⟨(g1.mono (by decide)), b1, k1, m1⟩ m_len m_list
  have g54 := ok_givers_right (P := l.prog) (w := w) (mg := mg) (base := base) (k := 4) F54 rfl GH ET TB__law_givers_right ⟨(g26.mono (by decide)), b26, k26, m26⟩ ⟨(fn_or (g45.mono (by decide)) (g45X.mono (by decide))), b45, k45, m45⟩ n45 ⟨(fn_or (g46.mono (by decide)) (g46X.mono (by decide))), b46, k46, m46⟩ n46 m_isinstance m_len m_range m_repr
  have g55 := ok_rings_right (P := l.prog) (w := w) (mg := mg) (base := base) (k := 7) F55 ⟨(g40.mono (by decide)), b40, k40, m40⟩ ⟨(g41.mono (by decide)), b41, k41, m41⟩ ⟨(g42.mono (by decide)), b42, k42, m42⟩ ⟨(g47.mono (by decide)), b47, k47, m47⟩ n47 ⟨(g36.mono (by decide)), b36, k36, m36⟩ n36 ⟨(g35.mono (by decide)), b35, k35, m35⟩ n35 ⟨(g53.mono (by decide)), b53, k53, m53⟩ ⟨(g52.mono (by decide)), b52, k52, m52⟩ n52 ⟨(g54.mono (by decide)), b54, k54, m54⟩ m_len m_tuple m_repr
  exact ok_law (P := l.prog) (w := w) (mg := mg) (base := base) (k := 6) F56 T M (g18.mono (by decide)) b18 ⟨(g3.mono (by decide)), b3, k3, m3⟩ ⟨(g50.mono (by decide)), b50, k50, m50⟩ ⟨(g5.mono (by decide)), b5, k5, m5⟩ ⟨(g51.mono (by decide)), b51, k51, m51⟩ ⟨(g2.mono (by decide)), b2, k2, m2⟩ ⟨(g55.mono (by decide)), b55, k55, m55⟩ ⟨(g47.mono (by decide)), b47, k47, m47⟩ ⟨(g45.mono (by decide)), b45, k45, m45⟩ ⟨(g46.mono (by decide)), b46, k46, m46⟩ ⟨(g36.mono (by decide)), b36, k36, m36⟩ ⟨(g35.mono (by decide)), b35, k35, m35⟩ m_len m_int m_range
end K14
open PySem PySem.W PyProof.Rows
set_option maxHeartbeats 0 in
theorem PySem.Challenge.cw_lastpairs_k19_whole_rings_of_steady_hold_holds : PySem.Challenge.rw_lastpairs_k19_whole_rings_of_steady_hold.Holds := by
  w_on; o_law; k_head; (case hw => w_witness2)
  k_fill
  refine K14.walkX (l := PySem.Challenge.rw_lastpairs_k19_whole_rings_of_steady_hold) (n := 63) (k := 9) (CX := fun _ => L2.CX0) (x := "script") rfl (by decide) rfl ⟨rfl, by decide, by decide⟩ (fun w h Y => PySem.W.km_in_of Y) ?F ?C
  case C => intro w H s e s' z; exact z
  case F =>
    intro w mg fa h Y KX G hmg
    refine' K14.all_mk (PT54 := 392) KX G hmg ?a1 ?l1 ?c1 ?k1 ?a2 ?l2 ?c2 ?k2 ?a3 ?l3 ?c3 ?k3 ?a4 ?l4 ?c4 ?k4 ?a5 ?l5 ?c5 ?k5 ?a6 ?l6 ?c6 ?k6 ?a7 ?l7 ?c7 ?k7 ?a8 ?l8 ?c8 ?k8 ?a9 ?l9 ?c9 ?k9 ?a10 ?l10 ?c10 ?k10 ?a11 ?l11 ?c11 ?k11 ?a12 ?l12 ?c12 ?k12 ?a13 ?l13 ?c13 ?k13 ?a14 ?l14 ?c14 ?k14 ?a15 ?l15 ?c15 ?k15 ?a16 ?l16 ?c16 ?k16 ?a17 ?l17 ?c17 ?k17 ?a18 ?i18 ?l18 ?c18 ?k18 ?a19 ?l19 ?c19 ?k19 ?a20 ?l20 ?c20 ?k20 ?a21 ?l21 ?c21 ?k21 ?a22 ?l22 ?c22 ?k22 ?a23 ?l23 ?c23 ?k23 ?a24 ?i24 ?l24 ?c24 ?k24 ?a25 ?l25 ?c25 ?k25 ?a26 ?l26 ?c26 ?k26 ?a27 ?l27 ?c27 ?k27 ?a28 ?l28 ?c28 ?k28 ?a29 ?l29 ?c29 ?k29 ?a30 ?l30 ?c30 ?k30 ?a31 ?l31 ?c31 ?k31 ?a32 ?l32 ?c32 ?k32 ?a33 ?l33 ?c33 ?k33 ?a34 ?l34 ?c34 ?k34 ?a35 ?l35 ?c35 ?k35 ?a36 ?l36 ?c36 ?k36 ?a37 ?i37 ?l37 ?c37 ?k37 ?a38 ?l38 ?c38 ?k38 ?a39 ?l39 ?c39 ?k39 ?a40 ?l40 ?c40 ?k40 ?a41 ?l41 ?c41 ?k41 ?a42 ?l42 ?c42 ?k42 ?a43 ?l43 ?c43 ?k43 ?a44 ?l44 ?c44 ?k44 ?a45 ?l45 ?c45 ?k45 ?a46 ?l46 ?c46 ?k46 ?a47 ?l47 ?c47 ?k47 ?a48 ?l48 ?c48 ?k48 ?a49 ?l49 ?c49 ?k49 ?a50 ?l50 ?c50 ?k50 ?a51 ?l51 ?c51 ?k51 ?a52 ?l52 ?c52 ?k52 ?a53 ?l53 ?c53 ?k53 ?a54 ?l54 ?c54 ?k54 ?a55 ?l55 ?c55 ?k55 ?a56 ?l56 ?c56 ?k56 ?aC ?pg ?hd ?po ?sa ?mk ?kc ?nA0 ?nA1 ?nA2 ?ic1 ?ic2 ?ic3 ?ic4 ?z_int ?z_len ?z_abs ?z_range ?z_list ?z_tuple ?z_sorted ?z_isinstance ?z_bool ?z_str ?z_all ?z_set ?z_enumerate ?z_min ?z_sum ?z_repr ?zi_MOST_LETTERS ?zi_MOST_PERSONS ?eL ?eV ?q_sa ?q_ex ?q_ty ?q_k ?q_ga ?q_gg ?q_hd ?q_ha ?q_hn ?q_ht ?q_hm ?q_w ?q_gR ?q_gM ?q_kM ?q_xm ?q_is ?aH ?lH ?cH ?kH ?hT54 ?nT54 ?hC54
    (case aC => k_is); (case q_gR => k_is); (case q_gM => k_is); (case eL => k_is); (case a1 => k_is); (case l1 => k_is); (case c1 => k_is); (case k1 => k_is); (case a2 => k_is); (case l2 => k_is); (case c2 => k_is); (case k2 => k_is); (case a3 => k_is); (case l3 => k_is); (case c3 => k_is); (case k3 => k_is); (case a4 => k_is); (case l4 => k_is); (case c4 => k_is); (case k4 => k_is); (case a5 => k_is); (case l5 => k_is); (case c5 => k_is); (case k5 => k_is); (case a6 => k_is); (case l6 => k_is); (case c6 => k_is); (case k6 => k_is); (case a7 => k_is); (case l7 => k_is); (case c7 => k_is); (case k7 => k_is); (case a8 => k_is); (case l8 => k_is); (case c8 => k_is); (case k8 => k_is); (case a9 => k_is); (case l9 => k_is); (case c9 => k_is); (case k9 => k_is); (case a10 => k_is); (case l10 => k_is); (case c10 => k_is); (case k10 => k_is); (case a11 => k_is); (case l11 => k_is); (case c11 => k_is); (case k11 => k_is); (case a12 => k_is); (case l12 => k_is); (case c12 => k_is); (case k12 => k_is); (case a13 => k_is); (case l13 => k_is); (case c13 => k_is); (case k13 => k_is); (case a14 => k_is); (case l14 => k_is); (case c14 => k_is); (case k14 => k_is); (case a15 => k_is); (case l15 => k_is); (case c15 => k_is); (case k15 => k_is); (case a16 => k_is); (case l16 => k_is); (case c16 => k_is); (case k16 => k_is); (case a17 => k_is); (case l17 => k_is); (case c17 => k_is); (case k17 => k_is); (case a18 => k_is); (case i18 => k_is); (case l18 => k_is); (case c18 => k_is); (case k18 => k_is); (case a19 => k_is); (case l19 => k_is); (case c19 => k_is); (case k19 => k_is); (case a20 => k_is); (case l20 => k_is); (case c20 => k_is); (case k20 => k_is); (case a21 => k_is); (case l21 => k_is); (case c21 => k_is); (case k21 => k_is); (case a22 => k_is); (case l22 => k_is); (case c22 => k_is); (case k22 => k_is); (case a23 => k_is); (case l23 => k_is); (case c23 => k_is); (case k23 => k_is); (case a24 => k_is); (case i24 => k_is); (case l24 => k_is); (case c24 => k_is); (case k24 => k_is); (case a25 => k_is); (case l25 => k_is); (case c25 => k_is); (case k25 => k_is); (case a26 => k_is); (case l26 => k_is); (case c26 => k_is); (case k26 => k_is); (case a27 => k_is); (case l27 => k_is); (case c27 => k_is); (case k27 => k_is); (case a28 => k_is); (case l28 => k_is); (case c28 => k_is); (case k28 => k_is); (case a29 => k_is); (case l29 => k_is); (case c29 => k_is); (case k29 => k_is); (case a30 => k_is); (case l30 => k_is); (case c30 => k_is); (case k30 => k_is); (case a31 => k_is); (case l31 => k_is); (case c31 => k_is); (case k31 => k_is); (case a32 => k_is); (case l32 => k_is); (case c32 => k_is); (case k32 => k_is); (case a33 => k_is); (case l33 => k_is); (case c33 => k_is); (case k33 => k_is); (case a34 => k_is); (case l34 => k_is); (case c34 => k_is); (case k34 => k_is); (case a35 => k_is); (case l35 => k_is); (case c35 => k_is); (case k35 => k_is); (case a36 => k_is); (case l36 => k_is); (case c36 => k_is); (case k36 => k_is); (case a37 => k_is); (case i37 => k_is); (case l37 => k_is); (case c37 => k_is); (case k37 => k_is); (case a38 => k_is); (case l38 => k_is); (case c38 => k_is); (case k38 => k_is); (case a39 => k_is); (case l39 => k_is); (case c39 => k_is); (case k39 => k_is); (case a40 => k_is); (case l40 => k_is); (case c40 => k_is); (case k40 => k_is); (case a41 => k_is); (case l41 => k_is); (case c41 => k_is); (case k41 => k_is); (case a42 => k_is); (case l42 => k_is); (case c42 => k_is); (case k42 => k_is); (case a43 => k_is); (case l43 => k_is); (case c43 => k_is); (case k43 => k_is); (case a44 => k_is); (case l44 => k_is); (case c44 => k_is); (case k44 => k_is); (case a45 => k_is); (case l45 => k_is); (case c45 => k_is); (case k45 => k_is); (case a46 => k_is); (case l46 => k_is); (case c46 => k_is); (case k46 => k_is); (case a47 => k_is); (case l47 => k_is); (case c47 => k_is); (case k47 => k_is); (case a48 => k_is); (case l48 => k_is); (case c48 => k_is); (case k48 => k_is); (case a49 => k_is); (case l49 => k_is); (case c49 => k_is); (case k49 => k_is); (case a50 => k_is); (case l50 => k_is); (case c50 => k_is); (case k50 => k_is); (case a51 => k_is); (case l51 => k_is); (case c51 => k_is); (case k51 => k_is); (case a52 => k_is); (case l52 => k_is); (case c52 => k_is); (case k52 => k_is); (case a53 => k_is); (case l53 => k_is); (case c53 => k_is); (case k53 => k_is); (case a54 => k_is); (case l54 => k_is); (case c54 => k_is); (case k54 => k_is); (case a55 => k_is); (case l55 => k_is); (case c55 => k_is); (case k55 => k_is); (case a56 => k_is); (case l56 => k_is); (case c56 => k_is); (case k56 => k_is); (case pg => k_is); (case hd => k_is); (case po => k_is); (case sa => k_is); (case mk => k_is); (case kc => k_is); (case nA0 => k_is); (case nA1 => k_is); (case nA2 => k_is); (case ic1 => k_is); (case ic2 => k_is); (case ic3 => k_is); (case ic4 => k_is); (case z_int => k_is); (case z_len => k_is); (case z_abs => k_is); (case z_range => k_is); (case z_list => k_is); (case z_tuple => k_is); (case z_sorted => k_is); (case z_isinstance => k_is); (case z_bool => k_is); (case z_str => k_is); (case z_all => k_is); (case z_set => k_is); (case z_enumerate => k_is); (case z_min => k_is); (case z_sum => k_is); (case z_repr => k_is); (case zi_MOST_LETTERS => k_is); (case zi_MOST_PERSONS => k_is); (case eV => first | k_is | kernel_rfl); (case q_sa => k_is); (case q_ex => k_is); (case q_ty => k_is); (case q_k => k_is); (case q_ga => k_is); (case q_gg => k_is); (case q_hd => k_is); (case q_ha => k_is); (case q_hn => k_is); (case q_ht => k_is); (case q_hm => k_is); (case q_w => k_is); (case q_kM => k_is); (case q_xm => first | k_is | kernel_rfl); (case q_is => first | k_is | kernel_rfl); (case aH => k_is); (case lH => k_is); (case cH => k_is); (case kH => k_is)
    case hT54 => exact PySem.W.km_tabs_of Y 392 (by decide)
    case nT54 => first | k_is | kernel_rfl
    case hC54 => exact PySem.W.codeHd_of_K KX (by kernel_rfl)
