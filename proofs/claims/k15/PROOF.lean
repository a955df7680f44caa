import PyProof.Rows.All
import Wide.All
import OpenK.AllK
import Wide.FinOn
import KE.KNestM
import KE.KLam
import HandS.ForMost
import HandS.Style
import HandS.Codes
import PyProof.StrOps2
import HandS.Walk
import KE.GoesEnum
import HandS.SetFor
import HandS.IsInst
import HandS.Strs
import HandS.TupAny
import HandS.Zip
import HandS.OwnEq
import PyProof.ReprRoads
import PyProof.CallFns
import HandS.FStrTup
import HandS.TupMul
import HandS.Conv
import HandS.Lambda
import HandS.ExcIs
import HandS.ExcField
import HandS.ExcInit
import KE.KExcIs
import HandS.WordsExc
import HandS.EndTab
import HandS.Steps
import HandS.TryOnly
import HandS.ExcOwn
import HandS.Flow
import HandS.Text
import HandS.List
import HandS.TupLe
import PySem.Challenge.RW_lastpairs_k15_whole_asking_in_any_sequen
set_option Elab.async false
set_option linter.all false
set_option maxRecDepth 100000
namespace K14
open PySem PySem.Spec PyProof.Rows L2
def topS (i : Nat) : Stmt := PySem.Challenge.pw_lastpairs_k15_whole_asking_in_any_sequen.main.body.getD i (.Pass ⟨0, 0, 0, 0⟩)
abbrev sMateError : Stmt := topS 1
abbrev sInvalidWishes : Stmt := topS 2
abbrev sInvalidWishesInit : Stmt := inClass sInvalidWishes 0
abbrev sRefused : Stmt := topS 3
abbrev sRefusedInit : Stmt := inClass sRefused 0
abbrev sIsNumber : Stmt := topS 6
abbrev sIsBelow : Stmt := topS 7
abbrev sIsName : Stmt := topS 8
abbrev sIsTupleOf : Stmt := topS 9
abbrev sArePersons : Stmt := topS 10
abbrev sAreUnlike : Stmt := topS 11
abbrev sWishes : Stmt := topS 14
abbrev sWInit : Stmt := inClass sWishes 0
abbrev sWEq : Stmt := inClass sWishes 1
abbrev sAreNames : Stmt := topS 15
abbrev sCheckLists : Stmt := topS 16
abbrev sCheckBoth : Stmt := topS 17
abbrev sRanksOfLists : Stmt := topS 18
abbrev sRanksOfList : Stmt := topS 19
abbrev sIsWished : Stmt := topS 20
abbrev sRankOf : Stmt := topS 21
abbrev sRanksIn : Stmt := topS 22
abbrev sAreHolds : Stmt := topS 24
abbrev sMayHold : Stmt := topS 25
abbrev sHeldRanks : Stmt := topS 26
abbrev sFirstLeft : Stmt := topS 27
abbrev sFirstsLeft : Stmt := topS 28
abbrev sIsSteady : Stmt := topS 29
abbrev sAskers : Stmt := topS 31
abbrev sAskedBy : Stmt := topS 32
abbrev sAskedOnce : Stmt := topS 33
abbrev sNoHolds : Stmt := topS 34
abbrev sHoldsBehind : Stmt := topS 35
abbrev sIsAsking : Stmt := topS 36
abbrev sAskersBy : Stmt := topS 37
abbrev sFirstAsker : Stmt := topS 38
abbrev sAskedOut : Stmt := topS 39
abbrev sHeap : Stmt := topS 41
abbrev sDraw : Stmt := topS 42
abbrev sPick : Stmt := topS 43
abbrev sShuffled : Stmt := topS 44
abbrev sNames : Stmt := topS 45
abbrev sLists : Stmt := topS 46
abbrev sRank : Stmt := topS 47
abbrev sLeft : Stmt := topS 48
abbrev sLHeard : Stmt := topS 49
abbrev sLCan : Stmt := topS 50
abbrev sLBehind : Stmt := topS 51
abbrev sLRun : Stmt := topS 52
abbrev sLIsRun : Stmt := topS 53
abbrev sLStepsRight : Stmt := topS 54
abbrev sLRowsRight : Stmt := topS 55
abbrev sLOrdersRight : Stmt := topS 56
abbrev sLAnyRight : Stmt := topS 57
abbrev sLaw : Stmt := topS 58
end K14
/-! enumerate of a tuple -/
namespace K14
open PySem PySem.Spec PyProof.Rows L2
abbrev enObj (n : Nat) : Obj := { cls := .type "enumerate", data := .fields #[.none, .bool false, .ref n, rawInt 0, .none, .none] }
set_option maxHeartbeats 1000000 in
theorem enum_make {v : Value} {o : Obj} {H : Heap → Prop} (B : Begins v o H) :
    Meets (Builtin.«enumerate.__new__» ⟨[.type "enumerate", v], []⟩) (fun _ R s => H s.heap ∧ R (.ok (.ret (.ref (s.heap.push o).objs.size))) { s with heap := (s.heap.push o).push (enObj s.heap.objs.size) }) :=
  .of_wp fun prog w A R s h => by
    obtain ⟨hp, gg, dd, tk, os⟩ := s
    obtain ⟨h1, h⟩ := h
    have isSub := sub_enumerate
    have goIt : ∀ {A' : Around} {E Q : Value → Shared → Prop}, Q (.ref hp.objs.size) ⟨hp.push o, gg, dd, tk, os⟩ → wpAny (model prog w) A' (pyIter v) Q E ⟨hp, gg, dd, tk, os⟩ := fun q => B.iter prog w _ _ ⟨hp, gg, dd, tk, os⟩ _ h1 q
    wp_walk using goIt
    refine wpAny_stack_any fun st => wpAny_pure ?_
    split
    · rename_i c _ _ _ _ _
      cases (c == Value.type "enumerate") <;> (wp_walk using goIt; exact ⟨_, rfl, h⟩)
    · wp_walk using goIt
      exact ⟨_, rfl, h⟩
section
variable {prog : Program} {w : World} {A : Around} {E : Value → Shared → Prop} {s : Shared}
theorem enum_call {v : Value} {o : Obj} {H : Heap → Prop} {Q : Value → Shared → Prop} (B : Begins v o H) (h1 : H s.heap)
    (h : ∀ h', IsEnum h' (s.heap.objs.size + 1) s.heap.objs.size 0 .none → h'.get? s.heap.objs.size = some o → (∀ b u, s.heap.get? b = some u → h'.get? b = some u) → Q (.ref (s.heap.objs.size + 1)) { s with heap := h' }) :
    wpAny (model prog w) A (call (.type "enumerate") [v]) Q E s := by
  refine callType_new F.called_enumerate (by decide) (F.typeCall_enumerate_1 _) (F.newCall_enumerate_1 _) (fun ob => F.args_object_init_2 ob _) F.entry_enumerate_new (enum_make B) ⟨h1, ?_⟩
  have sz : (s.heap.push o).objs.size = s.heap.objs.size + 1 := Heap.size_push ..
  show _ ∧ _
  rw [sz]
  have en : IsEnum ((s.heap.push o).push (enObj s.heap.objs.size)) (s.heap.objs.size + 1) s.heap.objs.size 0 .none := by
    have z := Heap.get?_push_size (s.heap.push o) (o := enObj s.heap.objs.size) rfl
    rw [sz] at z
    exact z
  exact ⟨⟨_, en, rfl⟩, h _ en (Heap.get?_push_of_some _ (Heap.get?_push_size _ B.free)) fun b u x => Heap.get?_push_of_some _ (Heap.get?_push_of_some _ x)⟩
end
/-- the tuple at a as it stands, each item in a new pair with its place -/
def IteT (K : PySem.W.Frag) (a : Addr) : It where
  go := fun i H => ∃ (xs : List V) (x : V), SqT K H a xs ∧ xs[i]? = some x
  yld := fun i H v H' => ∃ T x, v = .ref T ∧ H T = none ∧ H' = upd H T (.tup [.int (i : Nat), x]) ∧ ∀ xs, SqT K H a xs → xs[i]? = some x
  stop := fun i H => ∃ xs : List V, SqT K H a xs ∧ xs.length = i
theorem turn_enumT {P : Program} {w : World} {K : PySem.W.Frag} {elts : List Expr} {kk : Nat} {tpos : Pos} (a e it : Addr) (hai : a ≠ it) (hae : a ≠ e) :
    Turn P w K (.Tuple elts kk tpos) (IteT K a) [e, it] e (fun i h => (∃ old, IsEnum h e it ((i : Nat) : Int) old) ∧ h.IsTupleIter it a i ∧ e ≠ it) where
  mem := by simp
  obj := fun i h st b hb => by
    obtain ⟨⟨old, he⟩, ⟨o, ho, hc, hd⟩, _⟩ := st
    rcases (show b = e ∨ b = it by simpa using hb) with z | z <;> subst z
    · exact ⟨_, he, fun v q => nomatch q⟩
    · exact ⟨o, ho, fun v q => (by rw [hd] at q; cases q)⟩
  keep := fun i h h' st k => by
    obtain ⟨⟨old, he⟩, hi, hne⟩ := st
    exact ⟨⟨old, k e (by simp) _ he⟩, hi.at fun o q => k it (by simp) o q, hne⟩
  item := by
    intro X hP hw hK hc i pins s σ H E I hf st hg
    subst hP hw hK
    obtain ⟨⟨old, he⟩, hit, hne⟩ := st
    obtain ⟨xs, x, hq, hx⟩ := hg
    obtain ⟨its, rv, p, _⟩ := I.tuple hq
    obtain ⟨u, hu, ru⟩ := rv.get hx
    have hel : e < s.heap.objs.size := Heap.lt_size he
    have hil : it < s.heap.objs.size := by obtain ⟨_, q, _⟩ := hit; exact Heap.lt_size q
    have hat : a ≠ e ∧ a ≠ it := ⟨hae, hai⟩
    have hiz : i < its.toArray.size := by
      have := (List.getElem?_eq_some_iff.mp hu).1
      simpa using this
    refine wpAny_pyNext_enum_itemC (fp := [it, a]) (Draws.tuple (A := X.A.in1) (by rw [show X.A.in1.handled = X.A.handled from rfl]; exact I.ok.hd hc) it a hai its.toArray) he ⟨hit, p⟩ hiz hne (by simp; exact ⟨hne, Ne.symm hae⟩) fun x' h' tk hP' ho st' hT hsz hk => ?_
    have ex : x' = u := by
      have h1 : its[i]? = some x' := by simpa using hP'
      rw [hu] at h1
      exact (Option.some.inj h1).symm
    subst ex
    refine ⟨_, rfl, wpAny_letOwnedTupleGo_enum (s := { s with heap := h', toks := tk + 1 }) ho fun h2 he2 sb => ?_⟩
    have back : ∀ b, b ≠ e → h2.get? b = h'.get? b := fun b nb => sb.2 b nb
    have nTe : s.heap.objs.size ≠ e := Nat.ne_of_gt hel
    have isT : h2.get? s.heap.objs.size = some { cls := .type "tuple", data := .seq #[.int i tk, x'] } := (back _ nTe).trans hT
    have new : ObjOk X.prog X.w (upd H s.heap.objs.size (.tup [.int (i : Nat), x])) h2 s.heap.objs.size (.tup [.int (i : Nat), x]) :=
      ⟨(by show 2 ≤ sizeLine; decide), [.int i tk, x'], .cons ⟨_, rfl⟩ (.cons ru .nil), ⟨_, isT, rfl, _, rfl⟩⟩
    have kept : ∀ b ob, b ∉ [e, it] → s.heap.get? b = some ob → h2.get? b = some ob := fun b ob hb q => by
      have n1 : b ≠ e := fun z => hb (by rw [z]; simp)
      have n2 : b ≠ it := fun z => hb (by rw [z]; simp)
      exact (back b n1).trans (hk b ob n1 n2 q)
    have I1 : Inv X pins σ (upd H s.heap.objs.size (.tup [.int (i : Nat), x])) { s with heap := h2, toks := tk + 1 } := I.turnedNew (ch := [e, it]) kept hf (Nat.le_refl _) new
    refine ⟨.ref s.heap.objs.size, _, I1, rfl, ⟨_, x, rfl, I.hok.fresh (Nat.le_refl _), rfl, fun ys hy => by rw [I.tuple_inj hy hq]; exact hx⟩, ⟨⟨_, he2⟩, st'.1.at fun o q => (back it (Ne.symm hne)).trans q, hne⟩, fun b hb => ?_⟩
    have lt : b < s.heap.objs.size := by
      rcases (show b = e ∨ b = it by simpa using hb) with z | z <;> subst z
      · exact hel
      · exact hil
    rw [upd_ne (Nat.ne_of_lt lt)]
    exact (hf b hb).1
  done := by
    intro X hP hw hK hc i pins s σ H E I hf st hg
    subst hP hw hK
    obtain ⟨⟨old, he⟩, hit, hne⟩ := st
    obtain ⟨xs, hq, hx⟩ := hg
    obtain ⟨its, rv, p, _⟩ := I.tuple hq
    obtain ⟨f0, f1, f2, f3, f4, f5⟩ := hf it (by simp)
    have hl := rv.length
    have iz : i = its.toArray.size := by simp; omega
    subst iz
    refine wpAny_pyNext_enum_endD (fp := [it, a]) (Draws.tuple (A := X.A.in1) (by rw [show X.A.in1.handled = X.A.handled from rfl]; exact I.ok.hd hc) it a hai its.toArray) he ⟨hit, p⟩ fun h' eb => ⟨rfl, I.turned (t' := s.toks) (fun b o hb q => eb b o hb q) f0 f1 f3 f4 f5⟩
  self := fun A i s Q E st h => by
    obtain ⟨⟨_, he⟩, _⟩ := st
    exact wpAny_pyIter_enum he h
def iEnumT (K : PySem.W.Frag) (ta : TA) : TI := fun σ H R => ta σ H fun vs H1 => ∃ a xs, vs = [.ref a] ∧ SqT K H1 a xs ∧ R (IteT K a) H1
theorem pi_enumT {X : Cx} {e : Expr} {ta : TA} {p pos tpos : Pos} {elts : List Expr} {kk : Nat} (hg : Gl X "enumerate") (hm : X.mg "enumerate" = none) (ha : PA X [e] ta) (hs : starEach [e] X.env = [(false, eval e X.env)] := by rfl) : PI X (.Tuple elts kk tpos) (.Call (.Name "enumerate" p) [e] [] pos) (iEnumT X.K ta) := by
  refine ⟨fun pins s σ H R I h => ?_⟩
  refine Call_ (ld_blt I hg hm boot_enumerate (PyProof.Rows.callWith_type1 (thn (ha.run pos pins s σ H _ I h) fun us s1 ⟨vs, H1, I1, r1, q1⟩ => ?_) hs rfl))
  obtain ⟨a, xs, ex, hq, q⟩ := q1
  subst ex
  cases r1 with
  | cons r rr =>
    cases rr
    cases r
    obtain ⟨its, rv, pt, _⟩ := I1.tuple hq
    have la : a < s1.heap.objs.size := by obtain ⟨_, z, _⟩ := pt; exact Heap.lt_size z
    refine enum_call (begins_tuple a its.toArray) pt fun h' he hit hk => wpAny_pyIter_enum he ?_
    have I2 : Inv X pins σ H1 { s1 with heap := h' } := I1.kept (t' := s1.toks) hk
    refine ⟨s1.heap.objs.size + 1, [s1.heap.objs.size + 1, s1.heap.objs.size], _, _, H1, rfl, I2, turn_enumT a (s1.heap.objs.size + 1) s1.heap.objs.size (Nat.ne_of_lt la) (Nat.ne_of_lt (Nat.lt_succ_of_lt la)), ⟨⟨.none, he⟩, ⟨_, hit, rfl, rfl⟩, Nat.succ_ne_self _⟩, fun b hb => ?_, q⟩
    have le : s1.heap.objs.size ≤ b := by
      rcases (show b = s1.heap.objs.size + 1 ∨ b = s1.heap.objs.size by simpa using hb) with z | z <;> rw [z]
      · exact Nat.le_succ _
      · exact Nat.le_refl _
    exact I1.fpOk le (I1.hok.fresh le)
theorem walk_enumT {K : PySem.W.Frag} {a : Addr} {xs : List V} : Walk (IteT K a) xs.length (fun H => SqT K H a xs) (YPair (fun i => some (.int (i : Nat))) (fun i => xs[i]?)) where
  goes := fun i H hi q => ⟨xs, xs[i], q, List.getElem?_eq_getElem hi⟩
  stops := fun H q => ⟨xs, q, rfl⟩
  yields := fun i H v H' _ q y => by
    obtain ⟨T, x, h1, h2, h3, h4⟩ := y
    exact ⟨T, _, x, h1, h2, h3, rfl, h4 xs q⟩
end K14
/-! len(set(t)) of a tuple of unlike numbers; isinstance of plain values -/
namespace K14
open PySem PySem.Spec PyProof.Rows L2
def tLenSetT (K : PySem.W.Frag) (ta : TE) : TE := fun σ H Q => ta σ H fun x H1 => ∃ (l : Addr) (ns : List Int), x = .ref l ∧ SqT K H1 l (ns.map V.int) ∧ ns.Nodup ∧ ns.length ≤ 1000 ∧ Q (.int (ns.length : Nat)) H1
theorem pe_lenSetT {X : Cx} {a : Expr} {ta : TE} {p p2 q pos : Pos} (hg : Gl X "len") (hm : X.mg "len" = none) (hg2 : Gl X "set") (hm2 : X.mg "set" = none) (ha : PE X a ta) (hc : X.calm = true := by rfl)
    (na : starEach [a] X.env = (false, eval a X.env) :: starEach [] X.env := by rfl) : PE X (.Call (.Name "len" p) [.Call (.Name "set" p2) [a] [] q] [] pos) (tLenSetT X.K ta) := by
  refine ⟨fun pins s σ H Q I h => Call_ (ld_blt I hg hm boot_len (PyProof.Rows.callWith_builtin1 (PyProof.Rows.args_cons (Call_ (ld_blt I hg2 hm2 PyProof.Rows.boot_set ?_)) rfl) rfl rfl))⟩
  refine PyProof.Rows.callWith_type1 (PyProof.Rows.args_cons (thn (ha.run pins s σ H _ I h) fun v s1 ⟨x, H1, I1, r1, q1⟩ => PyProof.Rows.args_nil ?_) na) na rfl
  obtain ⟨l, ns, rfl, hq, nd, le, q1⟩ := q1
  cases r1
  obtain ⟨its, rv, pt, _⟩ := I1.tuple hq
  have his : IntsAre its.toArray.toList ns := ints_of_vals rv
  refine call_set_tupI ns (I1.ok.hd hc) (show s1.heap.IsTuple l its.toArray from pt) his (by unfold scanBound; omega) fun h' tk c R1 hcn k => PyProof.Rows.args_nil ?_
  obtain ⟨o, es, ep, t, ho, hex, hdt, g, nd2, mem, hb, hf, hn, hr, hl2⟩ := R1
  have I2 : Inv X pins σ H1 { s1 with heap := h', toks := tk } := I1.kept fun b o e => k b o e
  have pm : (es.toList.map keyOf).Perm ns := by
    refine (List.perm_ext_iff_of_nodup nd2 nd).mpr fun j => ?_
    rw [← mem j, decide_eq_true_eq]
  have sz : es.size = ns.length := by
    have := pm.length_eq
    rw [List.length_map, Array.length_toList] at this
    exact this
  exact call_len_set ho hex hdt hf (by rw [sz]; omega) ⟨.int ns.length, H1, I2.tok _, ⟨_, by rw [sz]⟩, q1⟩
end K14
namespace K14
open PySem PySem.Spec PyProof.Rows L2
theorem same_upd {H : Hp} {p : Addr} {o : HO} (h : H p = none) : Same H (upd H p o) := fun b x e => by
  rw [upd_ne (ne_of_none e h)]
  exact e

/-! ### the source of draws: a list of a list of great numbers and of a number -/
structure Src (H : Hp) (h l : Addr) : Prop where
  ex : ∃ (cs : List Int) (z : Int), H h = some (.lst [.ref l, .int z]) ∧ H l = some (.lst (cs.map V.int)) ∧ (∀ c ∈ cs, 0 ≤ c) ∧ cs.length ≤ 60 ∧ 0 ≤ z ∧ z < 2147483648
/-- all but the source stands -/
def Bar (h l : Addr) (H H' : Hp) : Prop := ∀ b o, b ≠ h → b ≠ l → H b = some o → H' b = some o
theorem Bar.refl {h l : Addr} {H : Hp} : Bar h l H H := fun _ _ _ _ e => e
theorem Bar.trans {h l : Addr} {H H1 H2 : Hp} (a : Bar h l H H1) (b : Bar h l H1 H2) : Bar h l H H2 := fun c o n1 n2 e => b c o n1 n2 (a c o n1 n2 e)
theorem Bar.same {h l : Addr} {H H' : Hp} (a : Same H H') : Bar h l H H' := fun c o _ _ e => a c o e
theorem Bar.upd_h {h l : Addr} {H : Hp} {o : HO} : Bar h l H (upd H h o) := fun c u n1 _ e => by rw [upd_ne n1]; exact e
theorem Bar.upd_l {h l : Addr} {H : Hp} {o : HO} : Bar h l H (upd H l o) := fun c u _ n2 e => by rw [upd_ne n2]; exact e
theorem src_ne {H : Hp} {h l : Addr} {cs : List Int} {z : Int} (a : H h = some (.lst [.ref l, .int z])) (b : H l = some (.lst (cs.map V.int))) : h ≠ l := by
  intro e
  rw [e, b] at a
  cases cs with
  | nil => cases a
  | cons c r => cases a
theorem Src.same {H H' : Hp} {h l : Addr} (s : Src H h l) (e : Same H H') : Src H' h l := by
  obtain ⟨cs, z, a, b, r⟩ := s.ex
  exact ⟨cs, z, e _ _ a, e _ _ b, r⟩
theorem Src.ne {H : Hp} {h l p : Addr} {o : HO} (s : Src H h l) (e : H p = some o) (n : ∀ xs, o ≠ .lst xs) : p ≠ h ∧ p ≠ l := by
  obtain ⟨cs, z, a, b, r⟩ := s.ex
  exact ⟨fun q => by rw [q, a] at e; cases e; exact n _ rfl, fun q => by rw [q, b] at e; cases e; exact n _ rfl⟩

/-- a while by its invariant and by what stands behind it -/
theorem tw {c : TT} {tb : TS} {D : Ends} {σ : L2.St} {H : Hp} (W : Nat → L2.St → Hp → Prop) (Y : L2.St → Hp → Prop) {m0 : Nat} (h0 : W m0 σ H) (out : ∀ σ H, Y σ H → D.nx σ H)
    (turn : (∀ σ H, Y σ H → D.nx σ H) → ∀ m σ H, W m σ H → c σ H fun b H1 => if b = true then ∃ N : L2.St → Hp → Prop, (∀ σ' H', N σ' H' → ∃ m', m' < m ∧ W m' σ' H') ∧ tb { D with nx := N, ct := N, bk := D.nx } σ H1 else D.nx σ H1) :
    tWhile c tb D σ H := ⟨W, ⟨m0, h0⟩, turn out⟩
theorem list_end {α : Type} (xs : List α) : xs = [] ∨ ∃ ys y, xs = ys ++ [y] := by
  rcases List.eq_nil_or_concat xs with h | ⟨ys, y, h⟩
  · exact .inl h
  · exact .inr ⟨ys, y, by rw [h]; simp⟩
def spDraw : Sp := fun vs H Q _ => ∃ (h l : Addr) (many : Int), vs = [.ref h, .int many] ∧ Src H h l ∧ 0 < many ∧ many < 1073741824 ∧
  ∀ (k : Int) (H' : Hp), 0 ≤ k → k < many → Src H' h l → Bar h l H H' → Q (.int k) H'

theorem dp_ints {K : PySem.W.Frag} {H : Hp} : ∀ cs : List Int, DpAll K H (cs.map V.int) (cs.map PyData.int)
  | [] => .nil
  | c :: r => .cons (.int c) (dp_ints r)
theorem shaped_ints (cs : List Int) : SeqAt.shaped (.list (cs.map PyData.int)) = true := by
  have h1 : ∀ cs : List Int, PyData.canLayAll0 (cs.map PyData.int) = true := by
    intro cs
    induction cs with
    | nil => rfl
    | cons c r ih => simp only [List.map_cons, PyData.canLayAll0, PyData.canLay0, ih, Bool.and_self]
  have h2 : ∀ cs : List Int, PyData.depthAll (cs.map PyData.int) ≤ 1 := by
    intro cs
    induction cs with
    | nil => simp [PyData.depthAll]
    | cons c r ih => simp only [List.map_cons, PyData.depthAll, PyData.depth]; omega
  have h3 := h2 cs
  have h4 : PyData.depth (.list (cs.map PyData.int)) ≤ 64 := by
    simp only [PyData.depth]
    omega
  have h5 : PyData.canLay0 (.list (cs.map PyData.int)) = true := by
    simp only [PyData.canLay0, h1]
  show (PyData.canLay0 (.list (cs.map PyData.int)) && decide (PyData.depth (.list (cs.map PyData.int)) ≤ 64)) = true
  rw [h5, decide_eq_true h4]
  rfl
theorem eqv_nil : ∀ cs : List Int, PyData.eqv (.list (cs.map PyData.int)) (.list []) = cs.isEmpty
  | [] => by decide
  | c :: r => by simp [PyData.eqv, PyData.eqvAll]
theorem scDraw : FnScope ["heap", "many", "rest"] ["heap", "many"] (defScope sDraw) := ⟨rfl, rfl, rfl, by decide +kernel, rfl, by decide +kernel, by decide +kernel⟩
section
variable {P : Program} {w : World} {K : PySem.W.Frag} {mg : Str → Option Value} {base : Heap}
theorem ok_draw {f : Addr} {fd : FuncData} {k : Nat} (F : Fun K "_law_draw" "_law_draw" sDraw f fd) (mi : mg "int" = none) : FnOk P w K mg base CX0 (k + 1) f fd ["heap", "many"] spDraw := by
  refine F.ok scDraw (fun vs H Q E h => ?_) (fun cdv A outer s H vs Q E hr h => ?_)
  · obtain ⟨h, l, many, rfl, _⟩ := h
    rfl
  · obtain ⟨h, l, many, rfl, src, m0, m1, q⟩ := h
    refine ⟨_, pss_cons (ps_while PassesOwn.never (PW.pt (pw_and (pt_cmpR (op_neD hr.units) (pe_ix ix_list (pv 0) pe_int (fun _ _ => rfl)) (pe_lst pa_nil) (nomark _)) (pw_and1 (pt_cmpR op_eq (pe_ix ix_list (pe_ix ix_list (pv 0) pe_int (fun _ _ => rfl)) (pe_un un_neg pe_int) (fun _ _ => rfl)) pe_int (nomark _)))))
        (pss_one (ps_expr (pe_bm0 PySem.F.plainAttrs_list PySem.F.slot_list_pop PySem.F.type_list_pop mt_pop (pe_ix ix_list (pv 0) pe_int (fun _ _ => rfl))))))
      (pss_cons (ps_if (pt_cmpR (op_neD hr.units) (pe_ix ix_list (pv 0) pe_int (fun _ _ => rfl)) (pe_lst pa_nil) (nomark _))
        (pss_cons (ps_set (i := 2) scDraw.nd rfl (.inl rfl) (pe_bm0 PySem.F.plainAttrs_list PySem.F.slot_list_pop PySem.F.type_list_pop mt_pop (pe_ix ix_list (pv 0) pe_int (fun _ _ => rfl))))
        (pss_cons (ps_expr (pe_bm PySem.F.plainAttrs_list PySem.F.slot_list_append PySem.F.type_list_append mt_append (pe_ix ix_list (pv 0) pe_int (fun _ _ => rfl)) (pa_cons (pe_op op_fdivN (pv 2) (pv 1)) pa_nil)))
        (pss_one (ps_ret (pe_op op_mod (pe_callTy call_int1 (by rfl) mi (by decide +kernel) (pa_cons (pv 2) pa_nil)) (pv 1)))))) pss_nil)
      (pss_cons (ps_asg (pe_op op_mod (pe_callTy call_int1 (by rfl) mi (by decide +kernel) (pa_cons (pe_op op_add (pe_op op_mul (pe_ix ix_list (pv 0) pe_int (fun _ _ => rfl)) pe_int) pe_int) pa_nil)) pe_int) (pg_sub (pv 0) pe_int set_list))
      (pss_one (ps_ret (pe_op op_mod (pe_callTy call_int1 (by rfl) mi (by decide +kernel) (pa_cons (pe_op op_fdivN (pe_ix ix_list (pv 0) pe_int (fun _ _ => rfl)) pe_int) pa_nil)) (pv 1)))))), ?_⟩
    obtain ⟨cs0, z0, a0, b0, p0, n0, y0, y1⟩ := src.ex
    refine tw (fun m σ H' => σ = [some (.ref h), some (.int many), none] ∧ ∃ (cs : List Int) (z : Int), H' h = some (.lst [.ref l, .int z]) ∧ H' l = some (.lst (cs.map V.int)) ∧ (∀ c ∈ cs, 0 ≤ c) ∧ cs.length ≤ 60 ∧ 0 ≤ z ∧ z < 2147483648 ∧ Bar h l H H' ∧ m = cs.length)
      (fun σ H' => σ = [some (.ref h), some (.int many), none] ∧ ∃ (cs : List Int) (z : Int), H' h = some (.lst [.ref l, .int z]) ∧ H' l = some (.lst (cs.map V.int)) ∧ (∀ c ∈ cs, 0 ≤ c) ∧ cs.length ≤ 60 ∧ 0 ≤ z ∧ z < 2147483648 ∧ Bar h l H H')
      ⟨rfl, cs0, z0, a0, b0, p0, n0, y0, y1, Bar.refl, rfl⟩ ?_ (fun out => ?_)
    · -- behind the loop
      rintro σ H1 ⟨rfl, cs, z, eh, el, pos, len, z1, z2, bar⟩
      have nhl := src_ne eh el
      refine ⟨_, rfl, h, _, 0, .ref l, rfl, rfl, SqL.of eh, atI_nat (j := 0) rfl, Nat.zero_le _, fun p hp => ?_⟩
      have nph : h ≠ p := ne_of_none eh hp
      have npl : l ≠ p := ne_of_none el hp
      have eh1 : (upd H1 p (.lst [])) h = some (.lst [.ref l, .int z]) := by rw [upd_ne nph]; exact eh
      have el1 : (upd H1 p (.lst [])) l = some (.lst (cs.map V.int)) := by rw [upd_ne npl]; exact el
      have bar1 : Bar h l H (upd H1 p (.lst [])) := bar.trans (.same (same_upd hp))
      refine ⟨.list (cs.map PyData.int), .list [], .lst (SqL.of el1) (dp_ints cs), .lst (SqL.of upd_same) .nil, shaped_ints cs, by decide, _, rfl, ?_⟩
      rw [eqv_nil]
      generalize upd H1 p (.lst []) = H2 at eh1 el1 bar1
      rcases list_end cs with rfl | ⟨ds, c, rfl⟩
      · -- no great number is left
        refine iteF ?_
        refine ⟨_, rfl, h, _, 1, .int z, rfl, rfl, SqL.of eh1, atI_nat (j := 1) rfl, _, _, rfl, rfl, .inl ⟨by omega, by omega⟩, _, _, rfl, rfl, .inl ⟨_, rfl, _, _, rfl, rfl, (show (0 : Int) < 2147483647 by decide), _, rfl, h, _, 1, 1, rfl, rfl, eh1, rfl, ?_⟩⟩
        have w0 : 0 ≤ (z * 48271 + 17) % 2147483647 := Int.emod_nonneg _ (by decide)
        have w1 : (z * 48271 + 17) % 2147483647 < 2147483647 := Int.emod_lt_of_pos _ (by decide)
        have eh2 : (upd H2 h (.lst ([V.ref l, .int z].set 1 (.int ((z * 48271 + 17) % 2147483647))))) h = some (.lst [.ref l, .int ((z * 48271 + 17) % 2147483647)]) := upd_same
        refine ⟨_, rfl, h, _, 1, .int ((z * 48271 + 17) % 2147483647), rfl, rfl, SqL.of eh2, atI_nat (j := 1) rfl, _, _, rfl, rfl, ⟨by decide, by decide⟩, .inl ⟨_, rfl, _, rfl, _, _, rfl, rfl, m0, ?_⟩⟩
        refine q _ _ (Int.emod_nonneg _ (by omega)) (Int.emod_lt_of_pos _ m0) ⟨[], _, eh2, ?_, by simp, by simp, w0, by omega⟩ (bar1.trans .upd_h)
        rw [upd_ne (Ne.symm nhl)]
        exact el1
      · have e1 : ((ds ++ [c]).isEmpty) = false := by simp
        rw [e1]
        refine iteT ?_
        have e2 : (ds ++ [c]).map V.int = ds.map V.int ++ [.int c] := by simp
        rw [e2] at el1
        have c0 : 0 ≤ c := pos c (by simp)
        refine ⟨_, rfl, h, _, 0, .ref l, rfl, rfl, SqL.of eh1, atI_nat (j := 0) rfl, .inl ⟨rfl, _, SqL.of el1⟩, l, _, .int c, rfl, rfl, el1, by simp, ?_⟩
        have el2 : (upd H2 l (.lst (ds.map V.int ++ [V.int c]).dropLast)) l = some (.lst (ds.map V.int)) := by
          rw [upd_same, List.dropLast_concat]
        have eh2 : (upd H2 l (.lst (ds.map V.int ++ [V.int c]).dropLast)) h = some (.lst [.ref l, .int z]) := by
          rw [upd_ne nhl]; exact eh1
        have bar2 : Bar h l H (upd H2 l (.lst (ds.map V.int ++ [V.int c]).dropLast)) := bar1.trans .upd_l
        generalize upd H2 l (.lst (ds.map V.int ++ [V.int c]).dropLast) = H3 at el2 eh2 bar2
        have len' : ds.length + 1 ≤ 60 := by simp at len; omega
        refine ⟨_, rfl, h, _, 0, .ref l, rfl, rfl, SqL.of eh2, atI_nat (j := 0) rfl, .inl ⟨rfl, _, SqL.of el2⟩, _, rfl, _, rfl, _, _, rfl, rfl, ⟨by omega, by omega⟩, l, _, _, rfl, rfl, el2, ?_, ?_⟩
        · rw [List.length_map]
          exact small1000 (by omega)
        have el3 : (upd H3 l (.lst (ds.map V.int ++ [.int (c.fdiv many)]))) l = some (.lst ((ds ++ [c.fdiv many]).map V.int)) := by
          rw [upd_same]; simp
        have eh3 : (upd H3 l (.lst (ds.map V.int ++ [.int (c.fdiv many)]))) h = some (.lst [.ref l, .int z]) := by
          rw [upd_ne nhl]; exact eh2
        refine ⟨_, rfl, .inl ⟨_, rfl, _, rfl, _, _, rfl, rfl, m0, ?_⟩⟩
        refine q _ _ (Int.emod_nonneg _ (by omega)) (Int.emod_lt_of_pos _ m0) ⟨_, z, eh3, el3, ?_, by simp; omega, z1, z2⟩ (bar2.trans .upd_l)
        intro x hx
        rcases List.mem_append.mp hx with hx | hx
        · exact pos x (by simp [hx])
        · rw [List.mem_singleton.mp hx, Int.fdiv_eq_ediv_of_nonneg _ (by omega)]
          exact Int.ediv_nonneg c0 (by omega)
    · rintro m σ H1 ⟨rfl, cs, z, eh, el, pos, len, z1, z2, bar, rfl⟩
      have nhl := src_ne eh el
      -- heap[0] != []
      refine ⟨_, rfl, h, _, 0, .ref l, rfl, rfl, SqL.of eh, atI_nat (j := 0) rfl, Nat.zero_le _, fun p hp => ?_⟩
      have nph : h ≠ p := ne_of_none eh hp
      have npl : l ≠ p := ne_of_none el hp
      have eh1 : (upd H1 p (.lst [])) h = some (.lst [.ref l, .int z]) := by rw [upd_ne nph]; exact eh
      have el1 : (upd H1 p (.lst [])) l = some (.lst (cs.map V.int)) := by rw [upd_ne npl]; exact el
      have bar1 : Bar h l H (upd H1 p (.lst [])) := bar.trans (.same (same_upd hp))
      refine ⟨.list (cs.map PyData.int), .list [], .lst (SqL.of el1) (dp_ints cs), .lst (SqL.of upd_same) .nil, shaped_ints cs, by decide, _, rfl, ?_⟩
      rw [eqv_nil]
      generalize upd H1 p (.lst []) = H2 at eh1 el1 bar1
      rcases list_end cs with rfl | ⟨ds, c, rfl⟩
      · -- no great number is left
        refine iteF (iteF ?_)
        exact out _ _ ⟨rfl, [], z, eh1, el1, pos, len, z1, z2, bar1⟩
      · have e1 : ((ds ++ [c]).isEmpty) = false := by simp
        rw [e1]
        refine iteT ?_
        have e2 : (ds ++ [c]).map V.int = ds.map V.int ++ [.int c] := by simp
        rw [e2] at el1
        refine ⟨_, rfl, h, _, 0, .ref l, rfl, rfl, SqL.of eh1, atI_nat (j := 0) rfl, 1, rfl, l, _, -1, .int c, rfl, rfl, SqL.of el1, atI_last _ _, rfl, _, rfl, ?_⟩
        refine ite2 (fun e => ?_) (fun e => ?_)
        · refine ⟨fun σ' H' => ∃ m', m' < (ds ++ [c]).length ∧ (σ' = [some (.ref h), some (.int many), none] ∧ ∃ (cs : List Int) (z : Int), H' h = some (.lst [.ref l, .int z]) ∧ H' l = some (.lst (cs.map V.int)) ∧ (∀ c ∈ cs, 0 ≤ c) ∧ cs.length ≤ 60 ∧ 0 ≤ z ∧ z < 2147483648 ∧ Bar h l H H' ∧ m' = cs.length), fun _ _ x => x, ?_⟩
          refine ⟨_, rfl, h, _, 0, .ref l, rfl, rfl, SqL.of eh1, atI_nat (j := 0) rfl, .inl ⟨rfl, _, SqL.of el1⟩, l, _, .int c, rfl, rfl, el1, by simp, ?_⟩
          refine ⟨ds.length, by simp, rfl, ds, z, ?_, ?_, fun c' h' => pos c' (by simp [h']), ?_, z1, z2, bar1.trans .upd_l, rfl⟩
          · rw [upd_ne nhl]; exact eh1
          · rw [upd_same, List.dropLast_concat]
          · simp at len; omega
        · refine out _ _ ⟨rfl, ds ++ [c], z, eh1, ?_, pos, len, z1, z2, bar1⟩
          rw [e2]; exact el1
end
end K14
namespace K14
open PySem PySem.Spec PyProof.Rows L2
/-- a tuple that is known whole: one that tuple(..) made -/
def Ex (H : Hp) (a : Addr) (xs : List V) : Prop := ∃ o : Obj, o.dict = none ∧ o.cls = .type "tuple" ∧ H a = some (.frz o (.tup xs))
/-- a tuple, known whole or not -/
def Tp (H : Hp) (a : Addr) (xs : List V) : Prop := H a = some (.tup xs) ∨ Ex H a xs
theorem Tp.sq {K : PySem.W.Frag} {H : Hp} {a : Addr} {xs : List V} (t : Tp H a xs) : SqT K H a xs := by
  rcases t with e | ⟨o, _, _, e⟩
  · exact SqT.of e
  · exact .inl (.inr ⟨o, e⟩)
theorem Ex.same {H H' : Hp} {a : Addr} {xs : List V} (t : Ex H a xs) (s : Same H H') : Ex H' a xs := let ⟨o, d, c, e⟩ := t; ⟨o, d, c, s _ _ e⟩
theorem Tp.same {H H' : Hp} {a : Addr} {xs : List V} (t : Tp H a xs) (s : Same H H') : Tp H' a xs := t.imp (fun e => s _ _ e) (fun e => e.same s)
theorem Ex.put {H : Hp} {a p : Addr} {xs : List V} {o : HO} (t : Ex H a xs) (n : a ≠ p) : Ex (upd H p o) a xs := let ⟨u, d, c, e⟩ := t; ⟨u, d, c, by rw [upd_ne n]; exact e⟩
theorem Tp.put {H : Hp} {a p : Addr} {xs : List V} {o : HO} (t : Tp H a xs) (n : a ≠ p) : Tp (upd H p o) a xs := t.imp (fun e => by rw [upd_ne n]; exact e) (fun e => e.put n)
theorem Ex.ne_lst {H : Hp} {a p : Addr} {xs ys : List V} (t : Ex H a xs) (e : H p = some (.lst ys)) : a ≠ p := fun z => by
  obtain ⟨u, d, c, e'⟩ := t
  rw [z, e] at e'
  cases e'
theorem Ex.bar {H H' : Hp} {h l a : Addr} {xs : List V} (t : Ex H a xs) (s : Src H h l) (b : Bar h l H H') : Ex H' a xs := by
  obtain ⟨u, d, c, e⟩ := t
  obtain ⟨n1, n2⟩ := s.ne e (fun _ z => by cases z)
  exact ⟨u, d, c, b a _ n1 n2 e⟩
theorem Tp.live {H : Hp} {a : Addr} {xs : List V} (t : Tp H a xs) : ∃ o, H a = some o := by
  rcases t with e | ⟨o, _, _, e⟩
  · exact ⟨_, e⟩
  · exact ⟨_, e⟩

theorem Tp.bar {H H' : Hp} {h l a : Addr} {xs : List V} (t : Tp H a xs) (s : Src H h l) (b : Bar h l H H') : Tp H' a xs := t.imp (fun e => by
  obtain ⟨n1, n2⟩ := s.ne e (fun _ z => by cases z)
  exact b a _ n1 n2 e) (fun e => e.bar s b)
end K14
namespace K14
open PySem PySem.Spec PyProof.Rows L2
def spPick : Sp := fun vs H Q _ => ∃ (h l s : Addr) (xs : List V), vs = [.ref h, .ref s] ∧ Src H h l ∧ (H s = some (.lst xs) ∨ Tp H s xs) ∧ s ≠ h ∧ s ≠ l ∧ 0 < xs.length ∧ xs.length < 10000 ∧
  ∀ (k : Nat) (v : V) (H' : Hp), xs[k]? = some v → Src H' h l → Bar h l H H' → Q v H'
theorem scPick : FnScope ["heap", "some"] ["heap", "some"] (defScope sPick) := ⟨rfl, rfl, rfl, by decide +kernel, rfl, by decide +kernel, by decide +kernel⟩
def spHeap (K : PySem.W.Frag) : Sp := fun vs H Q _ => ∃ (a : Addr) (ns : List Int), vs = [.ref a] ∧ SqL K H a (ns.map V.int) ∧
  ∀ (h l : Addr) (H' : Hp), Same H H' → H h = none → H l = none → Src H' h l → Q (.ref h) H'
theorem scHeap : FnScope ["script", "cell", "cells", "stir"] ["script"] (defScope sHeap) := ⟨rfl, rfl, rfl, by decide +kernel, rfl, by decide +kernel, by decide +kernel⟩
theorem yes {σ : L2.St} {H : Hp} {A : Hp → Prop} {B : Hp → Prop} (h : A H) : tYes σ H (fun b H3 => if b = true then A H3 else B H3) := by
  show (if true = true then A H else B H)
  exact iteT h
theorem cut60 (xs : List V) : cutV xs none (some 60) = xs.take 60 := by
  unfold cutV
  rw [HT.sIx_none, show HT.sIx xs.length xs.length (some 60) = min 60 xs.length from HT.sIx_nat xs.length xs.length 60, List.drop_zero, Nat.sub_zero]
  rw [Nat.min_def]
  split
  · rfl
  · rw [List.take_of_length_le (Nat.le_refl _), List.take_of_length_le (by omega)]
section
variable {P : Program} {w : World} {K : PySem.W.Frag} {mg : Str → Option Value} {base : Heap}
theorem ok_pick {f g : Addr} {fd gd : FuncData} {k : Nat} (F : Fun K "_law_pick" "_law_pick" sPick f fd) (G : FnOk P w K mg base CX0 k g gd ["heap", "many"] spDraw) (bG : Binds K gd ["heap", "many"] []) (kG : PySem.W.keepIn K (.ref g) = true) (mG : mg "_law_draw" = some (.ref g)) (ml : mg "len" = none) :
    FnOk P w K mg base CX0 (k + 1) f fd ["heap", "some"] spPick := by
  refine F.ok scPick (fun vs H Q E h => ?_) (fun cdv A outer s H vs Q E hr h => ?_)
  · obtain ⟨h, l, s, xs, rfl, _⟩ := h
    rfl
  · obtain ⟨h, l, s, xs, rfl, src, es, n1, n2, x0, x1, q⟩ := h
    have at' : ∀ H', Bar h l H H' → SqL K H' s xs ∨ SqT K H' s xs := fun H' b => es.imp (fun e => SqL.of (b _ _ n1 n2 e)) (fun e => (e.bar src b).sq)
    refine ⟨_, pss_one (ps_ret (pe_ix ix_seq (pv 1) (pe_call G hr rfl mG kG bG .nil pass0 (pa_cons (pv 0) (pa_cons (pe_callB call_len_seq (by rfl) ml PySem.boot_len (pa_cons (pv 1) pa_nil)) pa_nil))) (fun _ _ => rfl))), ?_⟩
    refine ⟨_, rfl, _, rfl, _, rfl, s, xs, rfl, at' H Bar.refl, h, l, _, rfl, src, by omega, by omega, fun i H' i0 i1 src' bar => ?_⟩
    obtain ⟨j, rfl⟩ : ∃ j : Nat, i = (j : Int) := ⟨i.toNat, by omega⟩
    have hj : j < xs.length := by omega
    rcases at' H' bar with e | e
    · exact .inl ⟨s, xs, _, _, rfl, rfl, e, atI_nat (List.getElem?_eq_getElem hj), q j _ H' (List.getElem?_eq_getElem hj) src' bar⟩
    · exact .inr (.inl ⟨s, xs, _, _, rfl, rfl, e, atI_nat (List.getElem?_eq_getElem hj), q j _ H' (List.getElem?_eq_getElem hj) src' bar⟩)
theorem ok_heap {f : Addr} {fd : FuncData} {k : Nat} (F : Fun K "_law_heap" "_law_heap" sHeap f fd) (mi : mg "int" = none) (ma : mg "abs" = none) : FnOk P w K mg base CX0 (k + 1) f fd ["script"] (spHeap K) := by
  refine F.ok scHeap (fun vs H Q E h => ?_) (fun cdv A outer s H vs Q E hr h => ?_)
  · obtain ⟨a, ns, rfl, _⟩ := h
    rfl
  · obtain ⟨a, ns, rfl, hS, q⟩ := h
    refine ⟨_, pss_cons (ps_par (i := 2) (j := 3) rfl scHeap.nd rfl rfl (by decide) rfl rfl (pa_cons (pe_lc (own := [("cell", 1)]) (g := gName 1) (tt := tYes) rfl scHeap.nd (pi_list (pe_slice sl_list (pv 0) po_none (po_some pe_int)))
          (blkOk_by (own := [("cell", 1)]) (N := ["script", "cell", "cells", "stir"]) (sc := defScope sHeap) (by decide +kernel)) (fun _ _ _ _ _ => pg_name (i := 1) scHeap.nd rfl (Or.inl rfl)) (fun _ _ _ _ _ => pts_nil)
          (fun _ _ _ _ _ => pe_op op_add (pe_op op_mul pe_int (pe_callB call_abs (by rfl) ma (by decide +kernel) (pa_cons (pv 1) pa_nil))) (pe_callTy call_int1 (by rfl) mi (by decide +kernel) (pa_cons (pe_cmp (pc_lt (pv 1) pe_int) rfl) pa_nil)))) (pa_cons pe_int pa_nil)) (by rfl))
      (pss_cons (ps_for PassesOwn.never rfl (pi_list (pv 2)) (pg_name (i := 1) scHeap.nd rfl (.inl rfl))
        (pss_one (ps_set (i := 3) scHeap.nd rfl (.inl rfl) (pe_op op_mod (pe_callTy call_int1 (by rfl) mi (by decide +kernel) (pa_cons (pe_op op_add (pe_op op_add (pe_op op_mul (pv 3) pe_int) (pe_op op_mod (pe_callTy call_int1 (by rfl) mi (by decide +kernel) (pa_cons (pv 1) pa_nil)) pe_int)) pe_int) pa_nil)) pe_int))))
      (pss_one (ps_ret (pe_lst (pa_cons (pe_revL (pe_lc (own := [("cell", 1)]) (g := gName 1) rfl scHeap.nd (pi_list (pv 2))
          (blkOk_by (own := [("cell", 1)]) (N := ["script", "cell", "cells", "stir"]) (sc := defScope sHeap) (by decide +kernel)) (fun _ _ _ _ _ => pg_name (i := 1) scHeap.nd rfl (Or.inl rfl)) (fun _ _ _ _ _ => pts_one (pt_cmpR op_ge (pv 1) (pe_op op_pow pe_int pe_int) (nomark _)))
          (fun _ _ _ _ _ => pv 1))) (pa_cons (pv 3) pa_nil)))))), ?_⟩
    refine ⟨.ref a, rfl, 60, rfl, a, _, rfl, hS, fun c nc => ?_⟩
    have s1 : Same H (upd H c (.lst (cutV (ns.map V.int) none (some 60)))) := same_upd nc
    have ec : (upd H c (.lst (cutV (ns.map V.int) none (some 60)))) c = some (.lst ((ns.take 60).map V.int)) := by
      rw [upd_same, cut60, List.map_take]
    generalize upd H c (.lst (cutV (ns.map V.int) none (some 60))) = H1 at s1 ec
    refine ⟨c, rfl, ⟨_, SqL.of ec⟩, fun D nD => ?_⟩
    have ncD : c ≠ D := ne_of_none ec nD
    have len60 : (ns.take 60).length ≤ 60 := by rw [List.length_take]; exact Nat.min_le_left _ _
    refine lc_list (K := K) (a := c) (xs := (ns.take 60).map V.int) (fun i H' => ∃ cs : List Int, H' D = some (.lst (cs.map V.int)) ∧ cs.length = i ∧ (∀ z ∈ cs, 0 ≤ z) ∧ H' c = some (.lst ((ns.take 60).map V.int)) ∧ ∀ b o, b ≠ D → H1 b = some o → H' b = some o)
      ⟨[], upd_same, rfl, by simp, by rw [upd_ne ncD]; exact ec, fun b o n e => by rw [upd_ne n]; exact e⟩ (fun i H' _ ⟨_, _, _, _, e, _⟩ => SqL.of e) ?_ ?_
    · rintro i x H' hx ⟨cs, eD, ei, pos, ec', keep⟩
      have hi : i < (ns.take 60).length := by
        have := (List.getElem?_eq_some_iff.mp hx).1
        rw [List.length_map] at this
        exact this
      obtain ⟨u, rfl⟩ : ∃ u, x = V.int u := by
        rw [List.getElem?_map, List.getElem?_eq_getElem hi] at hx
        exact ⟨_, (Option.some.inj hx).symm⟩
      refine ⟨rfl, yes ?_⟩
      refine ⟨_, rfl, _, rfl, _, _, rfl, rfl, .inl ⟨by decide, by decide⟩, _, rfl, u, 0, rfl, rfl, .inr ⟨_, rfl, _, _, rfl, rfl, _, eD, ?_, ?_⟩⟩
      · rw [List.length_map, ei]
        exact small1000 (by omega)
      · refine ⟨cs ++ [2 * (if u < 0 then -u else u) + (if decide (u < 0) = true then 1 else 0)], ?_, by simp [ei], ?_, ?_, fun b o n e => ?_⟩
        · rw [upd_same]
          simp
        · intro z hz
          rcases List.mem_append.mp hz with hz | hz
          · exact pos z hz
          · rw [List.mem_singleton.mp hz]
            split <;> split <;> omega
        · rw [upd_ne ncD]; exact ec'
        · rw [upd_ne n]; exact keep b o n e
    · rintro H2 ⟨cs, eD, ei, pos, ec', keep⟩
      have same2 : Same H H2 := fun b o e => keep b o (fun z => by rw [z] at e; have := s1 _ _ e; rw [nD] at this; cases this) (s1 b o e)
      rw [List.length_map] at ei
      have lc : cs.length ≤ 60 := by omega
      refine ⟨_, _, rfl, ?_⟩
      -- for cell in cells: stir = ..
      refine ⟨_, rfl, D, rfl, ⟨_, SqL.of eD⟩, for_list (K := K) (a := D) (xs := cs.map V.int) (fun i σ H' => ∃ (y : Option V) (z : Int), σ = [some (.ref a), y, some (.ref D), some (.int z)] ∧ 0 ≤ z ∧ z < 2147483648 ∧ H' = H2)
        ⟨none, 33107, rfl, by decide, by decide, rfl⟩ (fun i σ H' _ ⟨_, _, _, _, _, e⟩ => by rw [e]; exact SqL.of eD) ?_ ?_⟩
      · rintro i x σ H' hx ⟨y, z, rfl, z0, z1, rfl⟩
        obtain ⟨u, rfl⟩ : ∃ u, x = V.int u := by
          rw [List.getElem?_map] at hx
          cases e : cs[i]? with
          | none => rw [e] at hx; cases hx
          | some u => rw [e] at hx; exact ⟨u, (Option.some.inj hx).symm⟩
        refine ⟨_, rfl, _, _, rfl, rfl, .inl ⟨by omega, by omega⟩, _, rfl, .inl ⟨_, rfl, _, _, rfl, rfl, (show (0 : Int) < 2147483563 by decide), _, _, rfl, rfl, _, _, rfl, rfl, .inl ⟨_, rfl, _, _, rfl, rfl, (show (0 : Int) < 2147483647 by decide), ?_⟩⟩⟩
        have w0 : 0 ≤ (z * 69621 + u % 2147483563 + 29) % 2147483647 := Int.emod_nonneg _ (by decide)
        have w1 : (z * 69621 + u % 2147483563 + 29) % 2147483647 < 2147483647 := Int.emod_lt_of_pos _ (by decide)
        exact ⟨_, _, rfl, w0, by omega, rfl⟩
      · rintro σ H' ⟨y, z, rfl, z0, z1, rfl⟩
        -- return [[..][::-1], stir]
        refine ⟨_, rfl, D, rfl, ⟨_, SqL.of eD⟩, fun G nG => ?_⟩
        have nDG : D ≠ G := ne_of_none eD nG
        refine lc_list (K := K) (a := D) (xs := cs.map V.int) (fun i H3 => ∃ ds : List Int, H3 G = some (.lst (ds.map V.int)) ∧ ds.length ≤ i ∧ (∀ z ∈ ds, 0 ≤ z) ∧ H3 D = some (.lst (cs.map V.int)) ∧ ∀ b o, b ≠ G → H' b = some o → H3 b = some o)
          ⟨[], upd_same, by simp, by simp, by rw [upd_ne nDG]; exact eD, fun b o n e => by rw [upd_ne n]; exact e⟩ (fun i H3 _ ⟨_, _, _, _, e, _⟩ => SqL.of e) ?_ ?_
        · rintro i x H3 hx ⟨ds, eG, di, dp, eD3, keep3⟩
          have hi : i < cs.length := by
            have := (List.getElem?_eq_some_iff.mp hx).1
            rw [List.length_map] at this
            exact this
          have ex : x = V.int cs[i] := by
            rw [List.getElem?_map, List.getElem?_eq_getElem hi] at hx
            exact (Option.some.inj hx).symm
          subst ex
          refine ⟨rfl, _, rfl, _, _, rfl, rfl, ⟨by decide, by decide, by decide⟩, _, _, rfl, rfl, _, rfl, ?_⟩
          refine ite2 (fun c1 => ?_) (fun c1 => ?_)
          · refine ⟨_, rfl, _, eG, ?_, ds ++ [cs[i]], ?_, by simp; exact di, ?_, ?_, fun b o n e => ?_⟩
            · rw [List.length_map]
              exact small1000 (by omega)
            · rw [upd_same]; simp
            · intro z' hz
              rcases List.mem_append.mp hz with hz | hz
              · exact dp z' hz
              · rw [List.mem_singleton.mp hz]
                exact pos _ (List.getElem_mem hi)
            · rw [upd_ne nDG]; exact eD3
            · rw [upd_ne n]; exact keep3 b o n e
          · exact ⟨ds, eG, by omega, dp, eD3, keep3⟩
        · rintro H3 ⟨ds, eG, di, dp, eD3, keep3⟩
          rw [List.length_map] at di
          have same3 : Same H H3 := fun b o e => keep3 b o (fun z => by rw [z] at e; have := same2 _ _ e; rw [nG] at this; cases this) (same2 b o e)
          refine ⟨G, _, rfl, SqL.of eG, fun p np => ⟨_, rfl, (by show 2 ≤ sizeLine; decide), fun h nh => ?_⟩⟩
          have nhp : p ≠ h := fun e => by rw [← e, upd_same] at nh; cases nh
          have nh3 : H3 h = none := by rw [upd_ne (Ne.symm nhp)] at nh; exact nh
          refine q h p _ (same3.trans ((same_upd np).trans (same_upd nh))) (same3.free nh3) (same3.free np) ⟨ds.reverse, z, upd_same, ?_, ?_, ?_, z0, z1⟩
          · rw [upd_ne nhp, upd_same, List.map_reverse]
          · intro c hc
            exact dp c (List.mem_reverse.mp hc)
          · rw [List.length_reverse]; omega
end
end K14
namespace K14
open PySem PySem.Spec PyProof.Rows L2
theorem call_tupleX {X : Cx} : CallR X (.type "tuple") (fun xs H Q => ∃ p ys, xs = [.ref p] ∧ SqL X.K H p ys ∧ ∀ l H', H l = none → Same H H' → Ex H' l ys → (∀ b o, b ≠ l → H' b = some o → H b = some o) → Q (.ref l) H') := by
  intro pins st σ H xs us Q I r h
  obtain ⟨p, ys, rfl, hq, q⟩ := h
  obtain ⟨u, rfl, rx⟩ := vals1 r
  cases rx
  obtain ⟨its, rv, pl, le⟩ := I.list hq
  have ln := rv.length
  refine call_tuple_list pl.isList (fun h' kp => ?_) (by simp only [List.size_toArray] <;> omega)
  have I1 : Inv X pins σ H { st with heap := h' } := I.kept (t' := st.toks) kp
  have nw := I1.hok.fresh (Nat.le_refl h'.objs.size)
  have I2 : Inv X pins σ (upd H h'.objs.size (.frz { cls := .type "tuple", data := .seq its.toArray } (.tup ys))) { st with heap := h'.push { cls := .type "tuple", data := .seq its.toArray } } :=
    I1.laid (t' := st.toks) (fun b o e => Heap.get?_push_of_some _ e) (Nat.le_refl _) (show ObjOk X.prog X.w _ _ _ (.frz _ (.tup ys)) from ⟨Heap.get?_push_size _ rfl, le, its, rv, IsTup.new _ _⟩)
  exact ⟨.ref h'.objs.size, _, I2, rfl, q _ _ nw (same_upd nw) ⟨_, rfl, rfl, upd_same⟩ fun b o ne e => by rw [upd_ne ne] at e; exact e⟩
/-- the call of a tuple's method -/
def tBMT (r : V → List V → Hp → VK → Prop) (to : TE) (t : TA) : TE := fun σ H Q => to σ H fun x H1 => (∃ p xs, x = .ref p ∧ Ex H1 p xs) ∧ t σ H1 fun xs H2 => r x xs H2 Q
theorem pe_bmT {X : Cx} {o e : Expr} {es : List Expr} {to : TE} {t : TA} {name : Str} {apos cpos : Pos} {id : String} {r : V → List V → Hp → VK → Prop} (pa : PlainAttrs "tuple") (slot : Slot "tuple" name id) (hty : typeOf (.builtin id) = pure (.type "method_descriptor")) (hm : MtR X id r) (ho : PE X o to) (ha : PA X (e :: es) t)
    (hbase : attributeBase o name X.env (eval o X.env) = eval o X.env := by rfl) (hfew : ((backTo cpos (starEach (e :: es) X.env)).all (fun x => !x.1) && (backToKw cpos (keywordEach [] X.env)).all (fun x => x.1.isSome) && decide ((e :: es).length + ([] : List Keyword).length + (if ([] : List Keyword).isEmpty then 0 else 1) < 30)) = true := by rfl)
    (hline : (apos.endLine == cpos.line) = true := by rfl) (hs : starEach (e :: es) X.env = (false, eval e X.env) :: starEach es X.env := by rfl) (hplain : (backTo cpos (starEach es X.env)).any (·.1) = false := by rfl) : PE X (.Call (.Attribute o name apos) (e :: es) [] cpos) (tBMT r to t) := by
  refine ⟨fun pins s σ H Q I h => wpAny_Call_method_late hbase hfew hline rfl (thn (ho.run pins s σ H _ I h) fun v s1 ⟨x, H1, I1, r1, ty, q1⟩ => ?_)⟩
  obtain ⟨p, xs, rfl, ob, hd, hc, e1⟩ := ty
  cases r1
  have live := (I1.hok p _ e1).1
  refine ⟨"tuple", id, pa, slot, hty, ⟨ob, live, hc⟩, fun a ea => ?_, ?_⟩
  · cases ea
    exact ⟨ob, live, hd⟩
  · have hA := ha.run cpos pins s1 σ H1 _ I1 q1
    rw [hs] at hA ⊢
    refine Calls.callWith_builtin (by show (false || (backTo cpos (starEach es X.env)).any (·.1)) = false; rw [hplain] <;> rfl) (Calls.evalArgs_plain ?_)
    exact thn hA fun us s2 ⟨vs, H2, I2, r2, q2⟩ => hm pins s2 σ H2 (.ref p) vs (.ref p) us Q I2 rfl r2 q2
end K14
namespace K14
open PySem PySem.Spec PyProof.Rows L2
theorem seqcut {t u : TS} {D : Ends} {σ : L2.St} {H : Hp} (Y : L2.St → Hp → Prop) (out : ∀ σ H, Y σ H → u D σ H) (k : (∀ σ H, Y σ H → u D σ H) → t { D with nx := u D } σ H) : tSeq t u D σ H := k out
theorem gn {i : Nat} {v : V} {σ : L2.St} {H : Hp} {Q : L2.St → Hp → Prop} (h : Q (σ.set i (some v)) H) : gName i v σ H Q := h
theorem Src.new {H : Hp} {h l p : Addr} (s : Src H h l) (n : H p = none) : p ≠ h ∧ p ≠ l := by
  obtain ⟨cs, z, a, b, r⟩ := s.ex
  exact ⟨fun e => (by rw [e, a] at n; cases n), fun e => (by rw [e, b] at n; cases n)⟩
theorem Bar.free {h l p : Addr} {H H' : Hp} (b : Bar h l H H') (s : Src H' h l) (n : H' p = none) : H p = none := by
  obtain ⟨n1, n2⟩ := s.new n
  cases e : H p with
  | none => rfl
  | some o => rw [b p o n1 n2 e] at n; cases n
theorem Bar.fresh {h l p : Addr} {H H' : Hp} {o : HO} (b : Bar h l H H') (n : H p = none) : Bar h l H (upd H' p o) := fun c u n1 n2 e => by
  rw [upd_ne (ne_of_none e n)]
  exact b c u n1 n2 e
theorem Src.put {H : Hp} {h l p : Addr} {o : HO} (s : Src H h l) (n1 : p ≠ h) (n2 : p ≠ l) : Src (upd H p o) h l := by
  obtain ⟨cs, z, a, b, r⟩ := s.ex
  exact ⟨cs, z, by rw [upd_ne (Ne.symm n1)]; exact a, by rw [upd_ne (Ne.symm n2)]; exact b, r⟩
theorem Src.updn {H : Hp} {h l p : Addr} {o : HO} (s : Src H h l) (n : H p = none) : Src (upd H p o) h l := s.put (s.new n).1 (s.new n).2
theorem ofN {H : Hp} {p q : Addr} {o u : HO} (n : H p = none) (e : H q = some u) : (upd H p o) q = some u := by rw [upd_ne (ne_of_none e n)]; exact e
theorem sz5 {n : Nat} (h : n ≤ 100000) : n ≤ sizeLine := Nat.le_trans h (by decide)
theorem sz6 {n : Nat} (h : n ≤ 100000) : n < sizeLine := Nat.lt_of_le_of_lt h (by decide)

/-! ### the same things in a drawn sequence -/
def spShuffled : Sp := fun vs H Q _ => ∃ (h l s : Addr) (xs : List V), vs = [.ref h, .ref s] ∧ Src H h l ∧ H s = some (.lst xs) ∧ s ≠ h ∧ s ≠ l ∧ xs.length ≤ 1000 ∧
  ∀ (r : Addr) (ys : List V) (H' : Hp), ys.Perm xs → Src H' h l → Bar h l H H' → H r = none → Ex H' r ys → Q (.ref r) H'
theorem scShuffled : FnScope ["heap", "some", "left", "found", "turn"] ["heap", "some"] (defScope sShuffled) := ⟨rfl, rfl, rfl, by decide +kernel, rfl, by decide +kernel, by decide +kernel⟩
theorem erase_perm {α : Type} : ∀ {us : List α} {k : Nat} {y : α}, us[k]? = some y → (y :: us.eraseIdx k).Perm us
  | [], k, y, e => by simp at e
  | u :: r, 0, y, e => by
    have : u = y := by simpa using e
    subst this
    exact List.Perm.refl _
  | u :: r, k + 1, y, e => by
    have e' : r[k]? = some y := by simpa using e
    exact (List.Perm.swap u y _).trans ((erase_perm e').cons u)
theorem perm_pop {xs us fs : List V} {k : Nat} {y : V} (p : (fs ++ us).Perm xs) (e : us[k]? = some y) : ((fs ++ [y]) ++ us.eraseIdx k).Perm xs := by
  refine List.Perm.trans ?_ p
  rw [List.append_assoc]
  refine List.Perm.append_left fs ?_
  exact erase_perm e
section
variable {P : Program} {w : World} {K : PySem.W.Frag} {mg : Str → Option Value} {base : Heap}
theorem ok_shuffled {f g : Addr} {fd gd : FuncData} {k : Nat} (F : Fun K "_law_shuffled" "_law_shuffled" sShuffled f fd) (G : FnOk P w K mg base CX0 k g gd ["heap", "many"] spDraw) (bG : Binds K gd ["heap", "many"] []) (kG : PySem.W.keepIn K (.ref g) = true) (mG : mg "_law_draw" = some (.ref g)) (ml : mg "len" = none) (mr : mg "range" = none) (mli : mg "list" = none) (mt : mg "tuple" = none) :
    FnOk P w K mg base CX0 (k + 1) f fd ["heap", "some"] spShuffled := by
  refine F.ok scShuffled (fun vs H Q E h => ?_) (fun cdv A outer s H vs Q E hr h => ?_)
  · obtain ⟨h, l, s, xs, rfl, _⟩ := h
    rfl
  · obtain ⟨h, l, s, xs, rfl, src, es, n1, n2, x1, q⟩ := h
    refine ⟨_, pss_cons (ps_par (i := 2) (j := 3) rfl scShuffled.nd rfl rfl (by decide) rfl rfl (pa_cons (pe_callTy call_list_of (by rfl) mli (by decide +kernel) (pa_cons (pv 1) pa_nil)) (pa_cons (pe_lst pa_nil) pa_nil)) (by rfl))
      (pss_cons (ps_for PassesOwn.never rfl (pi_range1 rfl mr (pa_cons (pe_callB call_len_seq (by rfl) ml PySem.boot_len (pa_cons (pv 1) pa_nil)) pa_nil)) (pg_name (i := 4) scShuffled.nd rfl (.inl rfl))
        (pss_one (ps_expr (pe_bm PySem.F.plainAttrs_list PySem.F.slot_list_append PySem.F.type_list_append mt_append (pv 3) (pa_cons
          (pe_bm PySem.F.plainAttrs_list PySem.F.slot_list_pop PySem.F.type_list_pop mt_popAt (pv 2) (pa_cons
            (pe_call G hr rfl mG kG bG .nil pass0 (pa_cons (pv 0) (pa_cons (pe_callB call_len_seq (by rfl) ml PySem.boot_len (pa_cons (pv 2) pa_nil)) pa_nil))) pa_nil)) pa_nil)))))
      (pss_one (ps_ret (pe_callTy call_tupleX (by rfl) mt (by decide +kernel) (pa_cons (pv 3) pa_nil))))), ?_⟩
    refine ⟨_, rfl, s, xs, rfl, .inl (SqL.of es), fun p np => ⟨Nat.zero_le _, fun r nr => ?_⟩⟩
    have ep0 : (upd H p (.lst xs)) p = some (.lst xs) := upd_same
    have npr : p ≠ r := ne_of_none ep0 nr
    have nr0 : H r = none := by rw [upd_ne (Ne.symm npr)] at nr; exact nr
    obtain ⟨nph, npl⟩ := src.new np
    obtain ⟨nrh, nrl⟩ := src.new nr0
    have nsp : s ≠ p := ne_of_none es np
    have nsr : s ≠ r := ne_of_none es nr0
    have e1 : (upd (upd H p (.lst xs)) r (.lst [])) s = some (.lst xs) := by rw [upd_ne nsr, upd_ne nsp]; exact es
    refine ⟨_, _, rfl, _, rfl, s, xs, rfl, .inl (SqL.of e1), xs.length, rfl, (by omega), (by omega), for_range (lo := 0) (n := xs.length) (fun i σ H' => ∃ (us fs : List V) (y : Option V), σ = [some (.ref h), some (.ref s), some (.ref p), some (.ref r), y] ∧ H' p = some (.lst us) ∧ H' r = some (.lst fs) ∧ (fs ++ us).Perm xs ∧ fs.length = i ∧ Src H' h l ∧ Bar h l H H')
      ⟨xs, [], none, rfl, by rw [upd_ne npr]; exact ep0, upd_same, .refl _, rfl, (src.updn np).put nrh nrl, (Bar.refl.fresh np).fresh nr0⟩ ?_ ?_⟩
    · rintro i σ H' hi ⟨us, fs, y, rfl, ep, er, pm, fl, sr, bar⟩
      have ln : fs.length + us.length = xs.length := by rw [← List.length_append]; exact pm.length_eq
      refine gn ?_
      dsimp only [List.set]
      refine ⟨_, rfl, .inl ⟨rfl, _, SqL.of er⟩, _, rfl, .inl ⟨rfl, _, SqL.of ep⟩, _, rfl, _, rfl, p, us, rfl, .inl (SqL.of ep), h, l, _, rfl, sr, by omega, by omega, fun j H2 j0 j1 sr2 bar2 => ?_⟩
      obtain ⟨j, rfl⟩ : ∃ j' : Nat, j = (j' : Int) := ⟨j.toNat, by omega⟩
      have hj : j < us.length := by omega
      obtain ⟨m, im, um, m0, _⟩ := atI_get (atI_nat (List.getElem?_eq_getElem hj))
      refine ⟨p, us, j, m, us[j], rfl, rfl, bar2 _ _ nph npl ep, by omega, by omega, im, um, ?_⟩
      · have lm := (erase_perm um).length_eq
        rw [List.length_cons] at lm
        have er2 : (upd H2 p (.lst (us.eraseIdx m))) r = some (.lst fs) := by rw [upd_ne (Ne.symm npr)]; exact bar2 _ _ nrh nrl er
        refine ⟨r, fs, _, rfl, rfl, er2, sz6 (by omega), us.eraseIdx m, fs ++ [us[j]], _, rfl, by rw [upd_ne npr, upd_same], upd_same, perm_pop pm um, by simp [fl], (sr2.put nph npl).put nrh nrl, ((bar.trans bar2).fresh np).fresh nr0⟩
    · rintro σ H' ⟨us, fs, y, rfl, ep, er, pm, fl, sr, bar⟩
      have ln : fs.length + us.length = xs.length := by rw [← List.length_append]; exact pm.length_eq
      have u0 : us = [] := List.eq_nil_of_length_eq_zero (by omega)
      subst u0
      rw [List.append_nil] at pm
      exact ⟨_, rfl, r, fs, rfl, SqL.of er, fun t H3 nt s3 ex _ => q t fs _ pm (sr.same s3) (bar.trans (.same s3)) (bar.free sr nt) ex⟩
end
end K14
namespace K14
open PySem PySem.Spec PyProof.Rows L2
abbrev SS (l : List Nat) : Str := ⟨l.toArray⟩
theorem SS_len (l : List Nat) : (SS l).length = l.length := by simp [SS, Str.length]
theorem SS_cps (l : List Nat) : (SS l).cps.toList = l := rfl
theorem SS_inj {a b : List Nat} (h : SS a = SS b) : a = b := by
  have : (SS a).cps.toList = (SS b).cps.toList := by rw [h]
  exact this
theorem SS_of (s : Str) : SS s.cps.toList = s := rfl
theorem ltCps_eq : ∀ a b : List Nat, ltCps a b = decide (a < b)
  | [], [] => rfl
  | [], _ :: _ => by simp [ltCps]
  | _ :: _, [] => by simp [ltCps]
  | a :: r, b :: t => by
    rw [ltCps, ltCps_eq r t, Bool.eq_iff_iff]
    simp [List.cons_lt_cons_iff]
/-- names: so many, ascending, of one to six letters -/
structure NamesOk (many : Nat) (ns : List (List Nat)) : Prop where
  len : ns.length = many
  each : ∀ s ∈ ns, 1 ≤ s.length ∧ s.length ≤ 6 ∧ ∀ c ∈ s, 97 ≤ c ∧ c ≤ 122
  asc : ∀ i s t, ns[i]? = some s → ns[i + 1]? = some t → s < t
theorem lt_of_not {a b : List Nat} (h : ¬ b < a) (n : a ≠ b) : a < b := by
  rcases List.le_total a b with h1 | h1
  · exact Classical.byContradiction fun z => n (List.le_antisymm h1 (List.not_lt.mp z))
  · exact Classical.byContradiction fun z => n (List.le_antisymm (List.not_lt.mp h) h1)
theorem rising_asc : ∀ (ys : List Str), sortedS ys = true → ys.Nodup → ∀ i s t, (ys.map fun y => y.cps.toList)[i]? = some s → (ys.map fun y => y.cps.toList)[i + 1]? = some t → s < t
  | [], _, _, i, s, t, e, _ => by simp at e
  | [x], _, _, i, s, t, e, e2 => by simp at e2
  | x :: y :: r, h, nd, i, s, t, e, e2 => by
    have h' : (!ltCps y.cps.toList x.cps.toList && risingS y r) = true := by
      have : risingS x (y :: r) = true := h
      rw [risingS] at this
      exact this
    rw [Bool.and_eq_true] at h'
    cases i with
    | zero =>
      have es : x.cps.toList = s := by simpa using e
      have et : y.cps.toList = t := by simpa using e2
      subst es
      subst et
      refine lt_of_not ?_ ?_
      · intro z
        have h1 := h'.1
        rw [ltCps_eq, decide_eq_true z] at h1
        cases h1
      · intro z
        have : x = y := by
          have z' : x.cps = y.cps := by
            apply Array.ext'
            exact z
          cases x; cases y; cases z'; rfl
        rw [List.nodup_cons] at nd
        exact nd.1 (by rw [this]; simp)
    | succ j =>
      exact rising_asc (y :: r) h'.2 (List.nodup_cons.mp nd).2 j s t (by simpa using e) (by simpa using e2)
def nmAt (F : List Nat) (a i : Nat) : List Nat := F ++ [97 + (a + 7 * i) % 26]
theorem nmAt_inj {F : List Nat} {a i j : Nat} (hi : i < 26) (hj : j < 26) (h : nmAt F a i = nmAt F a j) : i = j := by
  have h1 := List.append_cancel_left h
  have h2 : 97 + (a + 7 * i) % 26 = 97 + (a + 7 * j) % 26 := by simpa using h1
  omega
def nms (F : List Nat) (a n : Nat) : List (List Nat) := (List.range n).map (nmAt F a)
theorem nms_len (F : List Nat) (a n : Nat) : (nms F a n).length = n := by simp [nms]
theorem nms_succ (F : List Nat) (a n : Nat) : nms F a (n + 1) = nms F a n ++ [nmAt F a n] := by simp [nms, List.range_succ]
theorem nms_nodup {F : List Nat} {a n : Nat} (h : n ≤ 26) : (nms F a n).Nodup := by
  unfold nms
  refine List.pairwise_map.mpr ?_
  refine List.Pairwise.imp_of_mem ?_ (List.nodup_range (n := n))
  intro i j hi hj ne e
  rw [List.mem_range] at hi hj
  exact ne (nmAt_inj (by omega) (by omega) e)
theorem nms_each {F : List Nat} {a n : Nat} (h5 : F.length ≤ 5) (hF : ∀ c ∈ F, 97 ≤ c ∧ c ≤ 122) : ∀ s ∈ nms F a n, 1 ≤ s.length ∧ s.length ≤ F.length + 1 ∧ ∀ c ∈ s, 97 ≤ c ∧ c ≤ 122 := by
  intro s hs
  obtain ⟨i, _, rfl⟩ := List.mem_map.mp hs
  refine ⟨by simp [nmAt], by simp [nmAt], fun c hc => ?_⟩
  rcases List.mem_append.mp hc with hc | hc
  · exact hF c hc
  · rw [List.mem_singleton.mp hc]
    omega
/-- the first one longer by a letter -/
theorem nms_set {F : List Nat} {a n : Nat} (h : n ≤ 26) (n0 : 0 < n) : ((nms F a n).set 0 (nmAt F a 0 ++ [111])).Nodup := by
  obtain ⟨m, rfl⟩ : ∃ m, n = m + 1 := ⟨n - 1, by omega⟩
  have nd := nms_nodup (F := F) (a := a) h
  have e : nms F a (m + 1) = nmAt F a 0 :: (nms F a (m + 1)).drop 1 := by
    unfold nms
    rw [List.range_succ_eq_map]
    simp
  rw [e] at nd ⊢
  rw [List.set_cons_zero]
  rw [List.nodup_cons] at nd ⊢
  refine ⟨fun hm => ?_, nd.2⟩
  have hm' : nmAt F a 0 ++ [111] ∈ nms F a (m + 1) := by rw [e]; exact List.mem_cons_of_mem _ hm
  obtain ⟨i, _, ei⟩ := List.mem_map.mp hm'
  have := congrArg List.length ei
  simp [nmAt] at this
theorem names_of {many : Nat} {zs : List (List Nat)} {ys : List Str} (l : zs.length = many) (nd : zs.Nodup) (ea : ∀ s ∈ zs, 1 ≤ s.length ∧ s.length ≤ 6 ∧ ∀ c ∈ s, 97 ≤ c ∧ c ≤ 122) (p : ys.Perm (zs.map SS)) (so : sortedS ys = true) : ∃ ns, NamesOk many ns ∧ ys = ns.map SS := by
  refine ⟨ys.map fun y => y.cps.toList, ⟨?_, ?_, ?_⟩, ?_⟩
  · rw [List.length_map, p.length_eq, List.length_map, l]
  · intro s hs
    obtain ⟨y, hy, rfl⟩ := List.mem_map.mp hs
    obtain ⟨z, hz, rfl⟩ := List.mem_map.mp (p.mem_iff.mp hy)
    exact ea z hz
  · refine rising_asc ys so ?_
    rw [p.nodup_iff]
    refine List.pairwise_map.mpr (List.Pairwise.imp ?_ nd)
    intro a b ne e
    exact ne (SS_inj e)
  · rw [List.map_map]
    have : (SS ∘ fun y : Str => y.cps.toList) = id := by
      funext y
      rfl
    rw [this, List.map_id]
end K14
namespace K14
open PySem PySem.Spec PyProof.Rows L2
theorem let_get {j : Nat} (h : j < 26) : ("abcdefghijklmnopqrstuvwxyz" : Str).cps.toList[j]? = some (97 + j) := by
  have e : ("abcdefghijklmnopqrstuvwxyz" : Str) = SS (List.range' 97 26) := by decide +kernel
  rw [e]
  show (List.range' 97 26)[j]? = _
  rw [List.getElem?_range' h]
  congr 1
  omega
theorem SS_app (a b : List Nat) : SS a ++ SS b = SS (a ++ b) := by
  show (⟨a.toArray ++ b.toArray⟩ : Str) = ⟨(a ++ b).toArray⟩
  rw [List.append_toArray]
theorem szS5 {F : List Nat} (h : F.length ≤ 5) : (SS F).length ≤ sizeLine := by rw [SS_len]; exact sz5 (by omega)
theorem ixN_zero {m : Nat} (h : 0 < m) : ixN m 0 = some 0 := by
  unfold ixN
  rw [if_pos (by decide), if_pos (by omega)]
  rfl
def VN (ns : List (List Nat)) : List V := ns.map fun s => V.str (SS s)
theorem VN_eq (ns : List (List Nat)) : VN ns = (ns.map SS).map V.str := by simp [VN]
def spNames : Sp := fun vs H Q _ => ∃ (h l : Addr) (many : Nat), vs = [.ref h, .int many] ∧ Src H h l ∧ 0 < many ∧ many ≤ 26 ∧
  ∀ (r : Addr) (ns : List (List Nat)) (H' : Hp), NamesOk many ns → Src H' h l → Bar h l H H' → H r = none → H' r = some (.tup (VN ns)) → Q (.ref r) H'
theorem scNames : FnScope ["heap", "many", "letters", "front", "first", "found", "at"] ["heap", "many"] (defScope sNames) := ⟨rfl, rfl, rfl, by decide +kernel, rfl, by decide +kernel, by decide +kernel⟩
section
variable {P : Program} {w : World} {K : PySem.W.Frag} {mg : Str → Option Value} {base : Heap}
theorem ok_names {f g p : Addr} {fd gd pd : FuncData} {k : Nat} (F : Fun K "_law_names" "_law_names" sNames f fd) (G : FnOk P w K mg base CX0 k g gd ["heap", "many"] spDraw) (bG : Binds K gd ["heap", "many"] []) (kG : PySem.W.keepIn K (.ref g) = true) (mG : mg "_law_draw" = some (.ref g))
    (R : FnOk P w K mg base CX0 k p pd ["heap", "some"] spPick) (bR : Binds K pd ["heap", "some"] []) (kR : PySem.W.keepIn K (.ref p) = true) (mR : mg "_law_pick" = some (.ref p)) (mi : mg "int" = none) (ml : mg "len" = none) (mr : mg "range" = none) (ms : mg "sorted" = none) (mt : mg "tuple" = none) :
    FnOk P w K mg base CX0 (k + 1) f fd ["heap", "many"] spNames := by
  refine F.ok scNames (fun vs H Q E h => ?_) (fun cdv A outer s H vs Q E hr h => ?_)
  · obtain ⟨h, l, many, rfl, _⟩ := h
    rfl
  · obtain ⟨h, l, many, rfl, src, m0, m1, q⟩ := h
    refine ⟨_, pss_cons (ps_asg (pe_tup (pa_cons pe_str (pa_cons (pe_call R hr rfl mR kR bR .nil pass0 (pa_cons (pv 0) (pa_cons (pe_lst (pa_cons pe_str (pa_cons pe_str (pa_cons pe_str (pa_cons pe_str (pa_cons pe_str pa_nil)))))) pa_nil))) (pa_cons (pe_call G hr rfl mG kG bG .nil pass0 (pa_cons (pv 0) (pa_cons pe_int pa_nil))) pa_nil)))) (pg_tup (by rfl) (pgs_cons (pg_name (i := 2) scNames.nd rfl (.inr rfl)) (pgs_cons (pg_name (i := 3) scNames.nd rfl (.inr rfl)) (pgs_cons (pg_name (i := 4) scNames.nd rfl (.inr rfl)) pgs_nil)))))
      (pss_cons (ps_setLc (i := 5) (own := [("at", 6)]) (g := gName 6) (tt := tYes) rfl scNames.nd rfl rfl (sw_true rfl rfl rfl (by decide +kernel)) (pi_range1 rfl mr (pa_cons (pv 1) pa_nil))
          (blkOk_by (own := [("at", 6)]) (N := ["heap", "many", "letters", "front", "first", "found", "at"]) (sc := defScope sNames) (by decide +kernel)) (fun _ _ _ _ _ => pg_name (i := 6) scNames.nd rfl (Or.inl rfl)) (fun _ _ _ _ _ => pts_nil)
          (fun _ _ _ _ _ => pe_op op_add_str (pv 3) (pe_ix ix_str (pv 2) (pe_op op_mod (pe_callTy call_int1 (by rfl) mi (by decide +kernel) (pa_cons (pe_op op_add (pv 4) (pe_op op_mul pe_int (pv 6))) pa_nil)) pe_int) (fun _ _ => rfl))))
      (pss_cons (ps_if (PW.pt (pw_and (pt_cmpR op_lt (pe_callB call_len_str (by rfl) ml PySem.boot_len (pa_cons (pv 3) pa_nil)) pe_int (nomark _)) (pw_and1 (pt_cmpR op_eq (pe_call G hr rfl mG kG bG .nil pass0 (pa_cons (pv 0) (pa_cons pe_int pa_nil))) pe_int (nomark _)))))
        (pss_one (ps_asg (pe_op op_add_str (pe_ix ix_list (pv 5) pe_int (fun _ _ => rfl)) pe_str) (pg_sub (pv 5) pe_int set_list))) pss_nil)
      (pss_one (ps_ret (pe_callTy call_tuple_of (by rfl) mt (by decide +kernel) (pa_cons (pe_callB cr_sortedS (by rfl) ms (by decide +kernel) (pa_cons (pv 5) pa_nil)) pa_nil)))))), ?_⟩
    refine ⟨_, rfl, (by show 5 ≤ sizeLine; decide), fun u nu => ?_⟩
    obtain ⟨nuh, nul⟩ := src.new nu
    refine ⟨h, l, u, _, rfl, src.updn nu, .inl upd_same, nuh, nul, by simp, by simp, fun j v H1 hv src1 bar1 => ?_⟩
    obtain ⟨F0, rfl, f5, fl⟩ : ∃ F0 : List Nat, v = .str (SS F0) ∧ F0.length ≤ 5 ∧ ∀ c ∈ F0, 97 ≤ c ∧ c ≤ 122 := by
      match j, hv with
      | 0, hv => exact ⟨[], (Option.some.inj hv).symm, by decide, by decide⟩
      | 1, hv => exact ⟨[], (Option.some.inj hv).symm, by decide, by decide⟩
      | 2, hv => exact ⟨[98], (Option.some.inj hv).symm, by decide, by decide⟩
      | 3, hv => exact ⟨[122, 122], (Option.some.inj hv).symm, by decide, by decide⟩
      | 4, hv => exact ⟨[109, 110, 111, 112, 113], (Option.some.inj hv).symm, by decide, by decide⟩
    have bar01 : Bar h l H H1 := (Bar.refl.fresh nu).trans bar1
    refine ⟨_, rfl, h, l, 26, rfl, src1, by decide, by decide, fun x H2 x0 x1 src2 bar2 => ?_⟩
    obtain ⟨a, rfl⟩ : ∃ a : Nat, x = (a : Int) := ⟨x.toNat, by omega⟩
    have bar02 : Bar h l H H2 := bar01.trans bar2
    refine ⟨(by show 3 ≤ sizeLine; decide), fun t nt => ?_⟩
    have nt0 := bar02.free src2 nt
    refine ⟨t, _, rfl, SqT.of upd_same, rfl, ?_⟩
    have bar03 := bar02.fresh (o := .tup [.str "abcdefghijklmnopqrstuvwxyz", .str (SS F0), .int a]) nt0
    have src3 := src2.updn (o := .tup [.str "abcdefghijklmnopqrstuvwxyz", .str (SS F0), .int a]) nt
    generalize upd H2 t (.tup [.str "abcdefghijklmnopqrstuvwxyz", .str (SS F0), .int a]) = H3 at bar03 src3
    refine ⟨_, _, rfl, gn ⟨_, _, rfl, gn ⟨_, _, rfl, gn ⟨rfl, ?_⟩⟩⟩⟩
    dsimp only [List.set]
    refine ⟨_, rfl, _, rfl, by omega, by omega, fun D nD => ?_⟩
    have nD0 := bar03.free src3 nD
    obtain ⟨nDh, nDl⟩ := src3.new nD
    refine lc_range (lo := 0) (n := many) (fun i H' => H' D = some (.lst ((nms F0 a i).map fun s => V.str (SS s))) ∧ Src H' h l ∧ Bar h l H H')
      ⟨upd_same, src3.updn nD, bar03.fresh nD0⟩ ?_ ?_
    · rintro i H4 hi ⟨eD, sr, br⟩
      have hm : (a + 7 * i) % 26 < 26 := Nat.mod_lt _ (by decide)
      refine gn ⟨rfl, yes ?_⟩
      refine ⟨_, rfl, _, rfl, _, rfl, _, rfl, _, _, rfl, rfl, .inl ⟨by decide, by decide⟩, _, _, rfl, rfl, .inl ⟨_, rfl, _, _, rfl, rfl, (show (0 : Int) < 26 by decide), ?_⟩⟩
      have em : ((a : Int) + 7 * (0 + (i : Int))) % 26 = ((a + 7 * i) % 26 : Nat) := by omega
      dsimp only
      rw [em]
      refine ⟨_, _, 97 + (a + 7 * i) % 26, rfl, rfl, (by decide), atI_nat (let_get hm), _, _, rfl, rfl, ?_, _, eD, ?_, ?_, sr.put nDh nDl, br.fresh nD0⟩
      · rw [SS_len]
        show F0.length + 1 ≤ sizeLine
        exact sz5 (by omega)
      · rw [List.length_map, nms_len]
        exact sz6 (by omega)
      · rw [upd_same, nms_succ, List.map_append]
        have e : SS F0 ++ (⟨#[97 + (a + 7 * i) % 26]⟩ : Str) = SS (nmAt F0 a i) := SS_app F0 [97 + (a + 7 * i) % 26]
        rw [e]
        rfl
    · rintro H4 ⟨eD, sr, br⟩
      dsimp only
      refine seqcut (fun σ' H' => ∃ zs : List (List Nat), σ' = [some (.ref h), some (.int many), some (.str "abcdefghijklmnopqrstuvwxyz"), some (.str (SS F0)), some (.int a), some (.ref D), none] ∧ H' D = some (.lst (zs.map fun s => V.str (SS s))) ∧ zs.length = many ∧ zs.Nodup ∧ (∀ s ∈ zs, 1 ≤ s.length ∧ s.length ≤ 6 ∧ ∀ c ∈ s, 97 ≤ c ∧ c ≤ 122) ∧ Src H' h l ∧ Bar h l H H') ?_ (fun out => ?_)
      · rintro σ' H' ⟨zs, rfl, eD', lz, nd, ea, sr', br'⟩
        refine ⟨_, rfl, D, zs.map SS, rfl, SqL.of (by rw [eD']; simp), by simp [lz]; omega, fun ys p' pm so np => ?_⟩
        obtain ⟨ns, ok, rfl⟩ := names_of lz nd ea pm so
        have np0 := br'.free sr' np
        refine ⟨p', _, rfl, .inl ⟨SqL.of upd_same, fun r nr => ?_⟩⟩
        have nr0 := (br'.fresh (o := .lst ((ns.map SS).map V.str)) np0).free (sr'.updn np) nr
        refine q r ns _ ok ((sr'.updn np).updn nr) ((br'.fresh np0).fresh nr0) nr0 ?_
        rw [upd_same, VN_eq]
      · have eaN := nms_each (n := many) (a := a) f5 fl
        have same : (∃ zs : List (List Nat), zs = nms F0 a many) := ⟨_, rfl⟩
        refine ⟨_, rfl, _, rfl, szS5 f5, _, _, rfl, rfl, _, rfl, ?_⟩
        refine ite2 (fun c1 => ?_) (fun c1 => ?_)
        · refine ⟨_, rfl, h, l, 2, rfl, sr, by decide, by decide, fun y H5 y0 y1 src5 bar5 => ?_⟩
          have eD5 := bar5 _ _ nDh nDl eD
          refine ⟨rfl, _, rfl, ?_⟩
          refine ite2 (fun c2 => ?_) (fun c2 => ?_)
          · have hz : ((nms F0 a many).map fun s => V.str (SS s))[0]? = some (V.str (SS (nmAt F0 a 0))) := by
              rw [List.getElem?_map]
              unfold nms
              rw [List.getElem?_map, List.getElem?_range m0]
              rfl
            refine ⟨_, rfl, D, _, 0, _, rfl, rfl, SqL.of eD5, atI_nat (j := 0) hz, _, _, rfl, rfl, ?_, _, rfl, D, _, _, 0, rfl, rfl, eD5, ?_, ?_⟩
            · rw [SS_len]
              simp only [nmAt, List.length_append, List.length_singleton]
              show F0.length + 1 + 1 ≤ sizeLine
              exact sz5 (by omega)
            · rw [List.length_map, nms_len]
              exact ixN_zero m0
            · refine out _ _ ⟨(nms F0 a many).set 0 (nmAt F0 a 0 ++ [111]), rfl, ?_, by simp [nms_len], nms_set m1 m0, ?_, src5.put nDh nDl, (br.trans bar5).fresh nD0⟩
              · rw [upd_same, List.map_set]
                have e : SS (nmAt F0 a 0) ++ ("o" : Str) = SS (nmAt F0 a 0 ++ [111]) := SS_app (nmAt F0 a 0) [111]
                rw [e]
              · intro s hs
                have lt4 : F0.length < 5 := by
                  rw [SS_len] at c1
                  exact Int.ofNat_lt.mp (of_decide_eq_true c1)
                rcases List.mem_or_eq_of_mem_set hs with hs | rfl
                · obtain ⟨a1, a2, a3⟩ := eaN s hs
                  exact ⟨a1, by omega, a3⟩
                · refine ⟨by simp, by simp [nmAt]; omega, fun c hc => ?_⟩
                  rcases List.mem_append.mp hc with hc | hc
                  · rcases List.mem_append.mp hc with hc | hc
                    · exact fl c hc
                    · rw [List.mem_singleton.mp hc]
                      omega
                  · rw [List.mem_singleton.mp hc]
                    decide
          · exact out _ _ ⟨nms F0 a many, rfl, eD5, nms_len _ _ _, nms_nodup m1, fun s hs => ⟨(eaN s hs).1, by have := (eaN s hs).2.1; omega, (eaN s hs).2.2⟩, src5, br.trans bar5⟩
        · exact out _ _ ⟨nms F0 a many, rfl, eD, nms_len _ _ _, nms_nodup m1, fun s hs => ⟨(eaN s hs).1, by have := (eaN s hs).2.1; omega, (eaN s hs).2.2⟩, sr, br⟩
end
end K14
namespace K14
open PySem PySem.Spec PyProof.Rows L2
def VI (s : List Nat) : List V := s.map fun j => V.int (j : Nat)
theorem VI_len (s : List Nat) : (VI s).length = s.length := List.length_map _
theorem VI_app (s t : List Nat) : VI (s ++ t) = VI s ++ VI t := List.map_append
theorem VI_get {s : List Nat} {i j : Nat} (h : s[i]? = some j) : (VI s)[i]? = some (.int (j : Nat)) := by unfold VI; rw [List.getElem?_map, h]; rfl
def VI1 : V → Nat
  | .int i => i.toNat
  | _ => 0
theorem perm_VI {ys : List V} {s : List Nat} (p : ys.Perm (VI s)) : ∃ t, ys = VI t ∧ t.Perm s := by
  have e1 : ys = VI (ys.map VI1) := by
    unfold VI
    rw [List.map_map]
    symm
    refine (List.map_congr_left ?_).trans (List.map_id ys)
    intro y hy
    obtain ⟨j, _, rfl⟩ := List.mem_map.mp (p.mem_iff.mp hy)
    rfl
  refine ⟨ys.map VI1, e1, ?_⟩
  have h := p.map VI1
  have e2 : (VI s).map VI1 = s := by
    unfold VI
    rw [List.map_map]
    refine (List.map_congr_left ?_).trans (List.map_id s)
    intro y _
    rfl
  rwa [e2] at h
/-- a row of tuples of numbers, at these places -/
def Rws (H : Hp) (as : List Addr) (ls : List (List Nat)) : Prop := as.length = ls.length ∧ ∀ (i : Nat) (a : Addr) (s : List Nat), as[i]? = some a → ls[i]? = some s → Tp H a (VI s)
/-- a tuple of tuples of numbers -/
def LT (H : Hp) (r : Addr) (ls : List (List Nat)) : Prop := ∃ as : List Addr, H r = some (.tup (as.map V.ref)) ∧ Rws H as ls
theorem tup_bar {H H' : Hp} {h l p : Addr} {xs : List V} (s : Src H h l) (b : Bar h l H H') (e : H p = some (.tup xs)) : H' p = some (.tup xs) := by
  obtain ⟨n1, n2⟩ := s.ne e (fun _ z => by cases z)
  exact b p _ n1 n2 e
theorem Rws.bar {H H' : Hp} {h l : Addr} {as : List Addr} {ls : List (List Nat)} (t : Rws H as ls) (s : Src H h l) (b : Bar h l H H') : Rws H' as ls := ⟨t.1, fun i a x e1 e2 => (t.2 i a x e1 e2).imp (tup_bar s b) (fun e => e.bar s b)⟩
theorem LT.bar {H H' : Hp} {h l r : Addr} {ls : List (List Nat)} (t : LT H r ls) (s : Src H h l) (b : Bar h l H H') : LT H' r ls := by
  obtain ⟨as, e, q⟩ := t
  exact ⟨as, tup_bar s b e, q.bar s b⟩
theorem Rws.same {H H' : Hp} {as : List Addr} {ls : List (List Nat)} (t : Rws H as ls) (b : Same H H') : Rws H' as ls := ⟨t.1, fun i a x e1 e2 => (t.2 i a x e1 e2).same b⟩
theorem LT.same {H H' : Hp} {r : Addr} {ls : List (List Nat)} (t : LT H r ls) (b : Same H H') : LT H' r ls := by
  obtain ⟨as, e, q⟩ := t
  exact ⟨as, b _ _ e, q.same b⟩
theorem LT.updn {H : Hp} {r p : Addr} {o : HO} {ls : List (List Nat)} (t : LT H r ls) (n : H p = none) : LT (upd H p o) r ls := t.same (same_upd n)
/-- a tuple of tuples of numbers, each known whole -/
def LX (H : Hp) (r : Addr) (ls : List (List Nat)) : Prop := ∃ as : List Addr, H r = some (.tup (as.map V.ref)) ∧ as.length = ls.length ∧ ∀ (i : Nat) (a : Addr) (s : List Nat), as[i]? = some a → ls[i]? = some s → Ex H a (VI s)
theorem LX.lt {H : Hp} {r : Addr} {ls : List (List Nat)} (t : LX H r ls) : LT H r ls := let ⟨as, e, l, q⟩ := t; ⟨as, e, l, fun i a s e1 e2 => .inr (q i a s e1 e2)⟩
theorem LX.same {H H' : Hp} {r : Addr} {ls : List (List Nat)} (t : LX H r ls) (b : Same H H') : LX H' r ls := let ⟨as, e, l, q⟩ := t; ⟨as, b _ _ e, l, fun i a s e1 e2 => (q i a s e1 e2).same b⟩
theorem LX.bar {H H' : Hp} {h l r : Addr} {ls : List (List Nat)} (t : LX H r ls) (s : Src H h l) (b : Bar h l H H') : LX H' r ls := let ⟨as, e, le, q⟩ := t; ⟨as, tup_bar s b e, le, fun i a x e1 e2 => (q i a x e1 e2).bar s b⟩
/-- lists both ways -/
structure ListsOk (many : Nat) (ls : List (List Nat)) : Prop where
  len : ls.length = many
  nd : ∀ (i : Nat) (s : List Nat), ls[i]? = some s → s.Nodup
  both : ∀ (i : Nat) (s : List Nat) (j : Nat), ls[i]? = some s → j ∈ s → j < many ∧ j ≠ i ∧ ∃ t : List Nat, ls[j]? = some t ∧ i ∈ t
/-- lists while they grow: all pairs of whom the lesser one is below a, or is a, and the greater one below b, are behind -/
structure Grow (many a b : Nat) (L : Nat → List Nat) : Prop where
  nd : ∀ i, (L i).Nodup
  both : ∀ i j, j ∈ L i → j < many ∧ i < many ∧ j ≠ i ∧ i ∈ L j
  past : ∀ i j, i < j → j ∈ L i → i < a ∨ (i = a ∧ j < b)
def putL (L : Nat → List Nat) (i x : Nat) : Nat → List Nat := fun k => if k = i then L i ++ [x] else L k
theorem Grow.nil {many a b : Nat} : Grow many a b (fun _ => []) := ⟨fun _ => List.nodup_nil, fun _ _ h => (by cases h), fun _ _ _ h => (by cases h)⟩
theorem Grow.mono {many a b a' b' : Nat} {L : Nat → List Nat} (g : Grow many a b L) (h : ∀ i j, i < j → j < many → (i < a ∨ (i = a ∧ j < b)) → (i < a' ∨ (i = a' ∧ j < b'))) : Grow many a' b' L :=
  ⟨g.nd, g.both, fun i j ij m => h i j ij (g.both i j m).1 (g.past i j ij m)⟩
theorem mem_putL {L : Nat → List Nat} {i x k y : Nat} : y ∈ putL L i x k ↔ y ∈ L k ∨ (k = i ∧ y = x) := by
  unfold putL
  split
  · rename_i e
    subst e
    simp
  · rename_i e
    simp [e]
theorem Grow.put {many a b : Nat} {L : Nat → List Nat} (g : Grow many a b L) (ab : a < b) (bm : b < many) : Grow many a (b + 1) (putL (putL L a b) b a) := by
  have n1 : b ∉ L a := fun h => by
    have := g.past a b ab h
    omega
  have n2 : a ∉ L b := fun h => n1 (g.both b a h).2.2.2
  refine ⟨fun i => ?_, fun i j h => ?_, fun i j ij h => ?_⟩
  · unfold putL
    split
    · rename_i e
      subst e
      rw [if_neg (by omega)]
      rw [List.nodup_append]
      refine ⟨g.nd _, by simp, fun x hx y hy e => ?_⟩
      rw [List.mem_singleton.mp hy] at e
      subst e
      exact n2 hx
    · split
      · rename_i e
        subst e
        rw [List.nodup_append]
        refine ⟨g.nd _, by simp, fun x hx y hy e => ?_⟩
        rw [List.mem_singleton.mp hy] at e
        subst e
        exact n1 hx
      · exact g.nd _
  · rw [mem_putL, mem_putL] at h
    have e : i ∈ putL (putL L a b) b a j ↔ (i ∈ L j ∨ (j = a ∧ i = b)) ∨ (j = b ∧ i = a) := by rw [mem_putL, mem_putL]
    rw [e]
    rcases h with (h | ⟨rfl, rfl⟩) | ⟨rfl, rfl⟩
    · obtain ⟨h1, h2, h3, h4⟩ := g.both i j h
      exact ⟨h1, h2, h3, .inl (.inl h4)⟩
    · exact ⟨bm, by omega, by omega, .inr ⟨rfl, rfl⟩⟩
    · exact ⟨by omega, bm, by omega, .inl (.inr ⟨rfl, rfl⟩)⟩
  · rw [mem_putL, mem_putL] at h
    rcases h with (h | ⟨rfl, rfl⟩) | ⟨rfl, rfl⟩
    · have := g.past i j ij h
      omega
    · right
      omega
    · omega
theorem Grow.ok {many a b : Nat} {L : Nat → List Nat} {ls : List (List Nat)} (g : Grow many a b L) (l : ls.length = many) (p : ∀ (i : Nat) (s : List Nat), ls[i]? = some s → s.Perm (L i)) : ListsOk many ls := by
  refine ⟨l, fun i s e => (p i s e).nodup_iff.mpr (g.nd i), fun i s j e hj => ?_⟩
  obtain ⟨h1, h2, h3, h4⟩ := g.both i j ((p i s e).mem_iff.mp hj)
  have hl : j < ls.length := by omega
  exact ⟨h1, h3, ls[j], List.getElem?_eq_getElem hl, (p j _ (List.getElem?_eq_getElem hl)).mem_iff.mpr h4⟩
theorem nodup_ix {α : Type} : ∀ {rs : List α} {i j : Nat} {r : α}, rs.Nodup → rs[i]? = some r → rs[j]? = some r → i = j
  | [], i, j, r, _, e, _ => by simp at e
  | a :: t, 0, 0, r, _, _, _ => rfl
  | a :: t, i + 1, j + 1, r, nd, e1, e2 => by
    exact congrArg (· + 1) (nodup_ix (List.nodup_cons.mp nd).2 (by simpa using e1 : t[i]? = some r) (by simpa using e2 : t[j]? = some r))
  | a :: t, 0, j + 1, r, nd, e1, e2 => by
    have h1 : a = r := by simpa using e1
    have h2 : t[j]? = some r := by simpa using e2
    subst h1
    exact absurd (List.mem_of_getElem? h2) (List.nodup_cons.mp nd).1
  | a :: t, i + 1, 0, r, nd, e1, e2 => by
    have h1 : a = r := by simpa using e2
    have h2 : t[i]? = some r := by simpa using e1
    subst h1
    exact absurd (List.mem_of_getElem? h2) (List.nodup_cons.mp nd).1
theorem _root_.List.Nodup.length_le_card_of_sub : ∀ {n : Nat} {s : List Nat}, s.Nodup → (∀ x ∈ s, x < n) → s.length ≤ n := by
  intro n
  induction n with
  | zero =>
    intro s _ h
    cases s with
    | nil => exact Nat.le_refl _
    | cons a r => exact absurd (h a (by simp)) (by omega)
  | succ n ih =>
    intro s nd h
    have h1 : (s.erase n).length ≤ n := by
      refine ih (nd.erase n) fun x hx => ?_
      have hx' := (List.Nodup.mem_erase_iff nd).mp hx
      have := h x hx'.2
      omega
    have h2 := List.length_erase (a := n) (l := s)
    split at h2 <;> omega
theorem row_put {H : Hp} {rs : List Addr} {L : Nat → List Nat} {i x : Nat} {r : Addr} (nd : rs.Nodup) (e : rs[i]? = some r) (h : ∀ k q, rs[k]? = some q → H q = some (.lst (VI (L k)))) : ∀ k q, rs[k]? = some q → (upd H r (.lst (VI (L i) ++ [V.int (x : Nat)]))) q = some (.lst (VI (putL L i x k))) := by
  intro k q ek
  unfold putL
  by_cases c : k = i
  · subst c
    rw [e] at ek
    cases ek
    rw [upd_same, if_pos rfl, VI_app]
    rfl
  · rw [if_neg c, upd_ne, h k q ek]
    intro z
    subst z
    exact c (nodup_ix nd ek e)
end K14
namespace K14
open PySem PySem.Spec PyProof.Rows L2
/-- plain values -/
inductive Pl (H : Hp) : V → Prop where
  | non : Pl H .non
  | bl (b : Bool) : Pl H (.bl b)
  | int (i : Int) : Pl H (.int i)
  | str (s : Str) : Pl H (.str s)
  | lst {a : Addr} {xs : List V} (e : H a = some (.lst xs)) : Pl H (.ref a)
  | tup {a : Addr} {xs : List V} (e : H a = some (.tup xs)) : Pl H (.ref a)
def isNum : V → Bool
  | .int i => decide (0 ≤ i)
  | _ => false
def isBel (v : V) (n : Nat) : Bool := match v with
  | .int i => decide (0 ≤ i) && decide (i < n)
  | _ => false
def tupOf (H : Hp) : V → Option (List V)
  | .ref a => match H a with
    | some (.tup xs) => some xs
    | _ => none
  | _ => none
def spIsNumber : Sp := fun vs H Q _ => ∃ v : V, vs = [v] ∧ Pl H v ∧ Q (.bl (isNum v)) H
def spIsBelow : Sp := fun vs H Q _ => ∃ (v : V) (n : Nat), vs = [v, .int n] ∧ Pl H v ∧ Q (.bl (isBel v n)) H
def spIsTupleOf : Sp := fun vs H Q _ => ∃ (v : V) (n : Nat), vs = [v, .int n] ∧ Pl H v ∧ (∀ xs, tupOf H v = some xs → xs.length ≤ 100000) ∧ Q (.bl (match tupOf H v with | some xs => decide (xs.length = n) | none => false)) H
theorem scIsNumber : FnScope ["value"] ["value"] (defScope sIsNumber) := ⟨rfl, rfl, rfl, by decide +kernel, rfl, by decide +kernel, by decide +kernel⟩
theorem scIsBelow : FnScope ["value", "bound"] ["value", "bound"] (defScope sIsBelow) := ⟨rfl, rfl, rfl, by decide +kernel, rfl, by decide +kernel, by decide +kernel⟩
theorem scIsTupleOf : FnScope ["value", "many"] ["value", "many"] (defScope sIsTupleOf) := ⟨rfl, rfl, rfl, by decide +kernel, rfl, by decide +kernel, by decide +kernel⟩
section
variable {P : Program} {w : World} {K : PySem.W.Frag} {mg : Str → Option Value} {base : Heap}
theorem ok_is_number {f : Addr} {fd : FuncData} {k : Nat} (F : Fun K "is_number" "is_number" sIsNumber f fd) (mis : mg "isinstance" = none) (mi : mg "int" = none) (mb : mg "bool" = none) : FnOk P w K mg base CX0 (k + 1) f fd ["value"] spIsNumber := by
  refine F.ok scIsNumber (fun vs H Q E h => ?_) (fun cdv A outer s H vs Q E hr h => ?_)
  · obtain ⟨v, rfl, _⟩ := h
    rfl
  · obtain ⟨v, rfl, pl, q⟩ := h
    refine ⟨_, pss_one (ps_ret (pe_and (pe_callB call_isi (by rfl) mis (by decide +kernel) (pa_cons (pv 0) (pa_cons (pe_bltn (v := .ty "int") (by rfl) mi (by decide +kernel) rfl) pa_nil)))
      (pe_and (pe_not (pe_callB call_isi (by rfl) mis (by decide +kernel) (pa_cons (pv 0) (pa_cons (pe_bltn (v := .ty "bool") (by rfl) mb (by decide +kernel) rfl) pa_nil))))
      (pe_one (pe_cmp (pc_ge (pv 0) pe_int) rfl))))), ?_⟩
    cases pl with
    | non => exact (⟨_, rfl, _, _, _, _, false, rfl, .ty _, .base .non, kit_ty (by decide +kernel), ⟨false, rfl, q⟩⟩)
    | bl b => exact (⟨_, rfl, _, _, _, _, true, rfl, .ty _, .base (.bl b), kit_ty (by decide +kernel), ⟨true, rfl, iteT ((⟨_, rfl, _, _, _, _, true, rfl, .ty _, .base (.bl b), kit_ty (by decide +kernel), ⟨_, rfl, _, rfl, q⟩⟩))⟩⟩)
    | int i => exact (⟨_, rfl, _, _, _, _, true, rfl, .ty _, .base (.int i), kit_ty (by decide +kernel), ⟨true, rfl, iteT ((⟨_, rfl, _, _, _, _, false, rfl, .ty _, .base (.int i), kit_ty (by decide +kernel), ⟨_, rfl, _, rfl, iteT ⟨_, rfl, _, _, rfl, rfl, q⟩⟩⟩))⟩⟩)
    | str s => exact (⟨_, rfl, _, _, _, _, false, rfl, .ty _, .base (.str s), kit_ty (by decide +kernel), ⟨false, rfl, q⟩⟩)
    | lst e => exact (⟨_, rfl, _, _, _, _, false, rfl, .ty _, .base (.lst e), kit_ty (by decide +kernel), ⟨false, rfl, q⟩⟩)
    | tup e => exact (⟨_, rfl, _, _, _, _, false, rfl, .ty _, .base (.tup e), kit_ty (by decide +kernel), ⟨false, rfl, q⟩⟩)
theorem ok_is_below {f g : Addr} {fd gd : FuncData} {k : Nat} (F : Fun K "is_below" "is_below" sIsBelow f fd) (G : FnOk P w K mg base CX0 k g gd ["value"] spIsNumber) (bG : Binds K gd ["value"] []) (kG : PySem.W.keepIn K (.ref g) = true) (mG : mg "is_number" = some (.ref g)) : FnOk P w K mg base CX0 (k + 1) f fd ["value", "bound"] spIsBelow := by
  refine F.ok scIsBelow (fun vs H Q E h => ?_) (fun cdv A outer s H vs Q E hr h => ?_)
  · obtain ⟨v, n, rfl, _⟩ := h
    rfl
  · obtain ⟨v, n, rfl, pl, q⟩ := h
    refine ⟨_, pss_one (ps_ret (pe_and (pe_call G hr rfl mG kG bG .nil pass0 (pa_cons (pv 0) pa_nil)) (pe_one (pe_cmp (pc_lt (pv 0) (pv 1)) rfl)))), ?_⟩
    refine ⟨_, rfl, v, rfl, pl, isNum v, rfl, ?_⟩
    cases v with
    | int i =>
      refine ite2 (fun c => ?_) (fun c => ?_)
      · refine ⟨_, rfl, _, rfl, _, _, rfl, rfl, ?_⟩
        have e : isBel (.int i) n = decide (i < n) := by
          show (decide (0 ≤ i) && decide (i < n)) = _
          rw [show decide (0 ≤ i) = true from c]
          rfl
        rw [e] at q
        exact q
      · have e : isBel (.int i) n = false := by
          show (decide (0 ≤ i) && decide (i < n)) = _
          rw [show decide (0 ≤ i) = false from (by simpa [isNum] using c)]
          rfl
        rw [e] at q
        exact q
    | non => exact q
    | bl b => exact q
    | str s => exact q
    | ref a => exact q
    | byt b => exact q
    | flt b => exact q
    | ty n => exact q
theorem ok_is_tuple_of {f : Addr} {fd : FuncData} {k : Nat} (F : Fun K "is_tuple_of" "is_tuple_of" sIsTupleOf f fd) (mis : mg "isinstance" = none) (mt : mg "tuple" = none) (ml : mg "len" = none) : FnOk P w K mg base CX0 (k + 1) f fd ["value", "many"] spIsTupleOf := by
  refine F.ok scIsTupleOf (fun vs H Q E h => ?_) (fun cdv A outer s H vs Q E hr h => ?_)
  · obtain ⟨v, n, rfl, _⟩ := h
    rfl
  · obtain ⟨v, n, rfl, pl, le, q⟩ := h
    refine ⟨_, pss_one (ps_ret (pe_and (pe_callB call_isi (by rfl) mis (by decide +kernel) (pa_cons (pv 0) (pa_cons (pe_bltn (v := .ty "tuple") (by rfl) mt (by decide +kernel) rfl) pa_nil)))
      (pe_one (pe_cmp (pc_eqI (pe_callB call_len_seq (by rfl) ml PySem.boot_len (pa_cons (pv 0) pa_nil)) (pv 1)) rfl)))), ?_⟩
    cases pl with
    | non => exact (⟨_, rfl, _, _, _, _, false, rfl, .ty _, .base .non, kit_ty (by decide +kernel), ⟨false, rfl, q⟩⟩)
    | bl b => exact (⟨_, rfl, _, _, _, _, false, rfl, .ty _, .base (.bl b), kit_ty (by decide +kernel), ⟨false, rfl, q⟩⟩)
    | int i => exact (⟨_, rfl, _, _, _, _, false, rfl, .ty _, .base (.int i), kit_ty (by decide +kernel), ⟨false, rfl, q⟩⟩)
    | str s => exact (⟨_, rfl, _, _, _, _, false, rfl, .ty _, .base (.str s), kit_ty (by decide +kernel), ⟨false, rfl, q⟩⟩)
    | @lst a xs e =>
      refine (⟨_, rfl, _, _, _, _, false, rfl, .ty _, .base (.lst e), kit_ty (by decide +kernel), ⟨false, rfl, ?_⟩⟩)
      have t : tupOf H (.ref a) = none := by simp [tupOf, e]
      rw [t] at q
      exact q
    | @tup a xs e =>
      have t : tupOf H (.ref a) = some xs := by simp [tupOf, e]
      refine (⟨_, rfl, _, _, _, _, true, rfl, .ty _, .base (.tup e), kit_ty (by decide +kernel), ⟨true, rfl, iteT ⟨_, rfl, a, xs, rfl, .inr (SqT.of e), _, rfl, _, _, rfl, rfl, ?_⟩⟩⟩)
      rw [t] at q
      have e2 : decide ((xs.length : Int) = (n : Int)) = decide (xs.length = n) := by
        rw [decide_eq_decide]
        omega
      show Q (.bl (decide ((xs.length : Int) = (n : Int)))) H
      rw [e2]
      exact q
end
end K14
namespace K14
open PySem PySem.Spec PyProof.Rows L2
theorem _root_.L2.Same.fresh {H H' : Hp} {p : Addr} {o : HO} (s : Same H H') (n : H p = none) : Same H (upd H' p o) := fun b x e => by
  rw [upd_ne (ne_of_none e n)]
  exact s b x e
theorem sz6' {n : Nat} (h : n ≤ 100000) : n < sizeLine := Nat.lt_of_le_of_lt h (by decide)
theorem range_snoc (f : Nat → V) (i : Nat) : (List.range (i + 1)).map f = (List.range i).map f ++ [f i] := by simp [List.range_succ]
section
variable {J : It} {n : Nat} {G : Hp → Prop} {Y : Nat → Hp → V → Hp → Prop}
/-- a comprehension that leaves all as it stood -/
theorem lc_same (w : Walk J n G Y) {g : TG} {te : TE} {vs : List Nat} {σ : L2.St} {H0 : Hp} {D : Addr} {Qd : Hp → Prop} (hn : n ≤ 100000) (f : Nat → V) (nD : H0 D = none) (hG : ∀ H, Same H0 H → G H)
    (hs : ∀ (i : Nat) (x : V) (H H' : Hp) (Z : V → Hp → Prop), (∀ H3, Same H H3 → Z (f i) H3) → i < n → Same H0 H → Y i H x H' → g x (wipe σ vs) H' fun σ2 H2 => wipe σ2 vs = wipe σ vs ∧ te σ2 H2 Z)
    (hd : ∀ H, Same H0 H → H D = some (.lst ((List.range n).map f)) → Qd H) :
    ∃ W : Nat → Nat → Hp → Prop, (∃ m, W 0 m (upd H0 D (.lst []))) ∧ ∀ i m H, W i m H →
      (J.stop i H ∧ Qd H) ∨ (J.go i H ∧ ∃ Nx : Hp → Prop, (∀ H', Nx H' → ∃ m', m' < m ∧ W (i + 1) m' H') ∧ ∀ x H', J.yld i H x H' → g x (wipe σ vs) H' fun σ2 H2 => wipe σ2 vs = wipe σ vs ∧ tYes σ2 H2 fun b H3 =>
        if b = true then te σ2 H3 fun y H4 => ∃ acc, H4 D = some (.lst acc) ∧ acc.length < sizeLine ∧ Nx (upd H4 D (.lst (acc ++ [y]))) else Nx H3) := by
  refine lc_it w (fun i H => Same H0 H ∧ H D = some (.lst ((List.range i).map f))) ⟨same_upd nD, upd_same⟩ (fun i H _ h => hG H h.1) (fun i x H H' hi h y => ?_) (fun H h => hd H h.1 h.2)
  refine hs i x H H' (fun v H3 => ∃ acc, H3 D = some (.lst acc) ∧ acc.length < sizeLine ∧ (fun H => Same H0 H ∧ H D = some (.lst ((List.range (i + 1)).map f))) (upd H3 D (.lst (acc ++ [v])))) (fun H3 z => ?_) hi h.1 y
  refine ⟨_, z _ _ h.2, ?_, (h.1.trans z).fresh nD, ?_⟩
  · rw [List.length_map, List.length_range]
    exact sz6' (by omega)
  · rw [upd_same, range_snoc]
end
end K14
namespace K14
open PySem PySem.Spec PyProof.Rows L2
def spIsName : Sp := fun vs H Q _ => ∃ s : List Nat, vs = [.str (SS s)] ∧ 1 ≤ s.length ∧ s.length ≤ 6 ∧ (∀ c ∈ s, 97 ≤ c ∧ c ≤ 122) ∧ ∀ H', Same H H' → Q (.bl true) H'
theorem scIsName : FnScope ["value", "sign"] ["value"] (defScope sIsName) := ⟨rfl, rfl, rfl, by decide +kernel, rfl, by decide +kernel, by decide +kernel⟩
theorem all_true (n : Nat) : ((List.range n).map fun _ => true).all id = true := by simp
theorem bl_true (n : Nat) : ((List.range n).map fun _ => V.bl true) = ((List.range n).map fun _ => true).map V.bl := by simp
theorem le_one {a c : Nat} (h : a ≤ c) : (!decide ([c] < [a])) = true := by
  rw [Bool.not_eq_true', decide_eq_false_iff_not]
  intro z
  rw [List.cons_lt_cons_iff] at z
  rcases z with z | ⟨_, z⟩
  · omega
  · exact absurd z (List.not_lt_nil _)
def spArePersons : Sp := fun vs H Q _ => ∃ (a : Addr) (s : List Nat) (n : Nat), vs = [.ref a, .int n] ∧ Tp H a (VI s) ∧ s.length ≤ 1000 ∧ (∀ j ∈ s, j < n) ∧ ∀ H', Same H H' → Q (.bl true) H'
theorem scArePersons : FnScope ["value", "many", "person"] ["value", "many"] (defScope sArePersons) := ⟨rfl, rfl, rfl, by decide +kernel, rfl, by decide +kernel, by decide +kernel⟩
def spAreUnlike : Sp := fun vs H Q _ => ∃ (a : Addr) (s : List Nat) (n : Nat), vs = [.ref a, .int n] ∧ Tp H a (VI s) ∧ s.length ≤ 1000 ∧ s.Nodup ∧ (∀ j ∈ s, j < n) ∧ ∀ H', Same H H' → Q (.bl true) H'
theorem scAreUnlike : FnScope ["value", "many"] ["value", "many"] (defScope sAreUnlike) := ⟨rfl, rfl, rfl, by decide +kernel, rfl, by decide +kernel, by decide +kernel⟩
theorem Tp.ty {K : PySem.W.Frag} {H : Hp} {a : Addr} {xs : List V} (t : Tp H a xs) : TyX K H (.ref a) (.type "tuple") := by
  rcases t with e | ⟨o, _, _, e⟩
  · exact .base (.tup e)
  · exact .fTuple e
theorem VI_ints (s : List Nat) : VI s = (s.map fun j => ((j : Nat) : Int)).map V.int := by simp [VI]
section
variable {P : Program} {w : World} {K : PySem.W.Frag} {mg : Str → Option Value} {base : Heap}
theorem ok_is_name {f : Addr} {fd : FuncData} {k : Nat} {t6 : Tok} (F : Fun K "is_name" "is_name" sIsName f fd) (mis : mg "isinstance" = none) (ms : mg "str" = none) (ml : mg "len" = none) (ma : mg "all" = none) (m6 : mg "MOST_LETTERS" = some (.int 6 t6)) : FnOk P w K mg base CX0 (k + 1) f fd ["value"] spIsName := by
  refine F.ok scIsName (fun vs H Q E h => ?_) (fun cdv A outer s H vs Q E hr h => ?_)
  · obtain ⟨s, rfl, _⟩ := h
    rfl
  · obtain ⟨s, rfl, l1, l6, let_, q⟩ := h
    refine ⟨_, pss_cons (ps_if (PW.pt (pw_or (pt_not (pt_val (pe_callB call_isi (by rfl) mis (by decide +kernel) (pa_cons (pv 0) (pa_cons (pe_bltn (v := .ty "str") (by rfl) ms (by decide +kernel) rfl) pa_nil)))))
        (pw_or1 (pt_not (pt_chain op_le op_le pe_int (pe_callB call_len_str (by rfl) ml PySem.boot_len (pa_cons (pv 0) pa_nil)) (pe_glob (v := .int 6) rfl m6 ⟨_, rfl⟩)))))) (pss_one ps_never) pss_nil)
      (pss_one (ps_ret (pe_callB (cr_all rfl) (by rfl) ma (by decide +kernel) (pa_cons (pe_lc (own := [("sign", 1)]) (g := gName 1) (tt := tYes) rfl scIsName.nd (pi_str (pv 0))
          (blkOk_by (own := [("sign", 1)]) (N := ["value", "sign"]) (sc := defScope sIsName) (by decide +kernel)) (fun _ _ _ _ _ => pg_name (i := 1) scIsName.nd rfl (Or.inl rfl)) (fun _ _ _ _ _ => pts_nil)
          (fun _ _ _ _ _ => pe_chain op_le_str op_le_str pe_str (pv 1) pe_str)) pa_nil)))), ?_⟩
    refine (⟨_, rfl, _, _, _, _, true, rfl, .ty _, .base (.str _), kit_ty (by decide +kernel), ⟨_, rfl, iteF ?_⟩⟩)
    refine ⟨_, rfl, _, rfl, by rw [SS_len]; exact sz5 (by omega), _, _, rfl, rfl, _, rfl, ?_⟩
    rw [SS_len]
    have c1 : decide ((1 : Int) ≤ (s.length : Nat)) = true := by simp; omega
    rw [c1]
    refine iteT ⟨_, _, rfl, rfl, ?_⟩
    have c2 : decide (((s.length : Nat) : Int) ≤ 6) = true := by simp; omega
    refine ⟨_, rfl, ?_⟩
    dsimp only
    rw [c2]
    refine iteF ⟨_, rfl, _, rfl, fun D nD => ?_⟩
    refine lc_same walk_str (by show s.length ≤ 100000; omega) (fun _ => .bl true) nD (fun _ _ => trivial) ?_ ?_
    · rintro i x H1 H2 Z out hi sm ⟨rfl, c, ec, rfl⟩
      have hc := let_ c (List.mem_of_getElem? (by simpa using ec))
      refine gn ⟨rfl, _, rfl, _, _, rfl, rfl, true, ?_, iteT ⟨_, _, rfl, rfl, ?_⟩⟩
      · exact congrArg V.bl (le_one hc.1)
      · have e : (!decide (("z" : Str).cps.toList < (⟨#[c]⟩ : Str).cps.toList)) = true := le_one hc.2
        rw [e]
        exact out _ (fun _ _ e => e)
    · intro H1 sm e1
      refine ⟨D, _, rfl, SqL.of (by rw [e1, bl_true]), ?_⟩
      rw [all_true]
      exact q _ sm
theorem ok_are_persons {f g : Addr} {fd gd : FuncData} {k : Nat} (F : Fun K "are_persons" "are_persons" sArePersons f fd) (G : FnOk P w K mg base CX0 k g gd ["value", "bound"] spIsBelow) (bG : Binds K gd ["value", "bound"] []) (kG : PySem.W.keepIn K (.ref g) = true) (mG : mg "is_below" = some (.ref g)) (mis : mg "isinstance" = none) (mt : mg "tuple" = none) (ma : mg "all" = none) : FnOk P w K mg base CX0 (k + 1) f fd ["value", "many"] spArePersons := by
  refine F.ok scArePersons (fun vs H Q E h => ?_) (fun cdv A outer s H vs Q E hr h => ?_)
  · obtain ⟨a, s, n, rfl, _⟩ := h
    rfl
  · obtain ⟨a, s, n, rfl, es, l6, lt, q⟩ := h
    refine ⟨_, pss_one (ps_ret (pe_and (pe_callB call_isi (by rfl) mis (by decide +kernel) (pa_cons (pv 0) (pa_cons (pe_bltn (v := .ty "tuple") (by rfl) mt (by decide +kernel) rfl) pa_nil)))
      (pe_one (pe_callB (cr_all rfl) (by rfl) ma (by decide +kernel) (pa_cons (pe_lc (own := [("person", 2)]) (g := gName 2) (tt := tYes) rfl scArePersons.nd (pi_tup (pv 0))
          (blkOk_by (own := [("person", 2)]) (N := ["value", "many", "person"]) (sc := defScope sArePersons) (by decide +kernel)) (fun _ _ _ _ _ => pg_name (i := 2) scArePersons.nd rfl (Or.inl rfl)) (fun _ _ _ _ _ => pts_nil)
          (fun _ _ _ _ _ => pe_call G hr rfl mG kG bG .nil pass0 (pa_cons (pv 2) (pa_cons (pv 1) pa_nil)))) pa_nil))))), ?_⟩
    refine (⟨_, rfl, _, _, _, _, true, rfl, .ty _, Tp.ty es, kit_ty (by decide +kernel), ⟨_, rfl, iteT ⟨_, rfl, a, rfl, ⟨_, es.sq⟩, fun D nD => ?_⟩⟩⟩)
    refine lc_same (walk_tup (K := K) (a := a) (xs := VI s)) (by rw [VI_len]; omega) (fun _ => .bl true) nD (fun _ sm => (es.same sm).sq) ?_ ?_
    · rintro i x H1 H2 Z out hi sm ⟨rfl, ex⟩
      obtain ⟨j, hj, rfl⟩ := List.mem_map.mp (List.mem_of_getElem? ex)
      refine gn ⟨rfl, _, rfl, _, rfl, .int j, n, rfl, .int _, ?_⟩
      have e : isBel (.int (j : Nat)) n = true := by
        have := lt j hj
        simp [isBel]
        exact this
      rw [e]
      exact out _ (fun _ _ e => e)
    · intro H1 sm e1
      refine ⟨D, _, rfl, SqL.of (by rw [e1, bl_true]), ?_⟩
      rw [all_true]
      exact q _ sm
theorem ok_are_unlike {f g : Addr} {fd gd : FuncData} {k : Nat} (F : Fun K "are_unlike_persons" "are_unlike_persons" sAreUnlike f fd) (G : FnOk P w K mg base CX0 k g gd ["value", "many"] spArePersons) (bG : Binds K gd ["value", "many"] []) (kG : PySem.W.keepIn K (.ref g) = true) (mG : mg "are_persons" = some (.ref g)) (ml : mg "len" = none) (ms : mg "set" = none) : FnOk P w K mg base CX0 (k + 1) f fd ["value", "many"] spAreUnlike := by
  refine F.ok scAreUnlike (fun vs H Q E h => ?_) (fun cdv A outer s H vs Q E hr h => ?_)
  · obtain ⟨a, s, n, rfl, _⟩ := h
    rfl
  · obtain ⟨a, s, n, rfl, es, l6, nd, lt, q⟩ := h
    refine ⟨_, pss_one (ps_ret (pe_and (pe_call G hr rfl mG kG bG .nil pass0 (pa_cons (pv 0) (pa_cons (pv 1) pa_nil)))
      (pe_one (pe_cmp (pc_eqI (pe_lenSetT (by rfl) ml (by rfl) ms (pv 0)) (pe_callB call_len_seq (by rfl) ml PySem.boot_len (pa_cons (pv 0) pa_nil))) rfl)))), ?_⟩
    refine ⟨_, rfl, _, rfl, a, s, n, rfl, es, l6, lt, fun H1 sm => ⟨true, rfl, iteT ?_⟩⟩
    refine ⟨_, rfl, a, s.map (fun j => ((j : Nat) : Int)), rfl, by rw [← VI_ints]; exact (es.same sm).sq, ?_, by simpa using l6, ?_⟩
    · exact List.pairwise_map.mpr (List.Pairwise.imp (fun ne e => ne (by omega)) nd)
    · refine ⟨_, rfl, a, VI s, rfl, .inr (es.same sm).sq, _, _, rfl, rfl, ?_⟩
      have e : decide (((s.map (fun j => ((j : Nat) : Int))).length : Int) = ((VI s).length : Nat)) = true := by
        rw [VI_len, List.length_map]
        simp
      show Q (.bl (decide (((s.map (fun j => ((j : Nat) : Int))).length : Int) = ((VI s).length : Nat)))) H1
      rw [e]
      exact q _ sm
end
end K14
namespace K14
open PySem PySem.Spec PyProof.Rows L2
def spLists : Sp := fun vs H Q _ => ∃ (h l : Addr) (many : Nat) (share : Int), vs = [.ref h, .int many, .int share] ∧ Src H h l ∧ many ≤ 100 ∧ 0 < share ∧ share < 1000 ∧
  ∀ (r : Addr) (ls : List (List Nat)) (H' : Hp), ListsOk many ls → Src H' h l → Bar h l H H' → H r = none → LX H' r ls → Q (.ref r) H'
theorem scLists : FnScope ["heap", "many", "share", "found", "one", "other", "person", "row"] ["heap", "many", "share"] (defScope sLists) := ⟨rfl, rfl, rfl, by decide +kernel, rfl, by decide +kernel, by decide +kernel⟩
def RwX (H : Hp) (as : List Addr) (ls : List (List Nat)) : Prop := as.length = ls.length ∧ ∀ (i : Nat) (a : Addr) (s : List Nat), as[i]? = some a → ls[i]? = some s → Ex H a (VI s)
theorem RwX.bar {H H' : Hp} {h l : Addr} {as : List Addr} {ls : List (List Nat)} (t : RwX H as ls) (s : Src H h l) (b : Bar h l H H') : RwX H' as ls := ⟨t.1, fun i a x e1 e2 => (t.2 i a x e1 e2).bar s b⟩
/-- what stands while the lists grow -/
structure RowsAt (H : Hp) (D : Addr) (rs : List Addr) (L : Nat → List Nat) : Prop where
  top : H D = some (.lst (rs.map V.ref))
  row : ∀ (k : Nat) (q : Addr), rs[k]? = some q → H q = some (.lst (VI (L k)))
section
variable {P : Program} {w : World} {K : PySem.W.Frag} {mg : Str → Option Value} {base : Heap}
theorem ok_lists {f g p : Addr} {fd gd pd : FuncData} {k : Nat} (F : Fun K "_law_lists" "_law_lists" sLists f fd) (G : FnOk P w K mg base CX0 k g gd ["heap", "many"] spDraw) (bG : Binds K gd ["heap", "many"] []) (kG : PySem.W.keepIn K (.ref g) = true) (mG : mg "_law_draw" = some (.ref g))
    (R : FnOk P w K mg base CX0 k p pd ["heap", "some"] spShuffled) (bR : Binds K pd ["heap", "some"] []) (kR : PySem.W.keepIn K (.ref p) = true) (mR : mg "_law_shuffled" = some (.ref p)) (mr : mg "range" = none) (mt : mg "tuple" = none) :
    FnOk P w K mg base CX0 (k + 1) f fd ["heap", "many", "share"] spLists := by
  refine F.ok scLists (fun vs H Q E h => ?_) (fun cdv A outer s H vs Q E hr h => ?_)
  · obtain ⟨h, l, many, share, rfl, _⟩ := h
    rfl
  · obtain ⟨h, l, many, share, rfl, src, m1, s0, s1, q⟩ := h
    refine ⟨_, pss_cons (ps_setLc (i := 3) (own := [("person", 6)]) (g := gName 6) (tt := tYes) rfl scLists.nd rfl rfl (sw_true rfl rfl rfl (by decide +kernel)) (pi_range1 rfl mr (pa_cons (pv 1) pa_nil))
          (blkOk_by (own := [("person", 6)]) (N := ["heap", "many", "share", "found", "one", "other", "person", "row"]) (sc := defScope sLists) (by decide +kernel)) (fun _ _ _ _ _ => pg_name (i := 6) scLists.nd rfl (Or.inl rfl)) (fun _ _ _ _ _ => pts_nil)
          (fun _ _ _ _ _ => pe_lst pa_nil))
      (pss_cons (ps_for PassesOwn.never rfl (pi_range1 rfl mr (pa_cons (pv 1) pa_nil)) (pg_name (i := 4) scLists.nd rfl (.inl rfl))
        (pss_one (ps_for PassesOwn.never rfl (pi_range2 (by rfl) mr (pa_cons (pe_op op_add (pv 4) pe_int) (pa_cons (pv 1) pa_nil))) (pg_name (i := 5) scLists.nd rfl (.inl rfl))
          (pss_one (ps_if (pt_cmpR op_gt (pe_call G hr rfl mG kG bG .nil pass0 (pa_cons (pv 0) (pa_cons (pv 2) pa_nil))) pe_int (nomark _))
            (pss_cons (ps_expr (pe_bm PySem.F.plainAttrs_list PySem.F.slot_list_append PySem.F.type_list_append mt_append (pe_ix ix_list (pv 3) (pv 4) (fun _ _ => rfl)) (pa_cons (pv 5) pa_nil)))
            (pss_one (ps_expr (pe_bm PySem.F.plainAttrs_list PySem.F.slot_list_append PySem.F.type_list_append mt_append (pe_ix ix_list (pv 3) (pv 5) (fun _ _ => rfl)) (pa_cons (pv 4) pa_nil)))))
            pss_nil)))))
      (pss_one (ps_ret (pe_callTy call_tuple_of (by rfl) mt (by decide +kernel) (pa_cons (pe_lc (own := [("row", 7)]) (g := gName 7) (tt := tYes) rfl scLists.nd (pi_list (pv 3))
          (blkOk_by (own := [("row", 7)]) (N := ["heap", "many", "share", "found", "one", "other", "person", "row"]) (sc := defScope sLists) (by decide +kernel)) (fun _ _ _ _ _ => pg_name (i := 7) scLists.nd rfl (Or.inl rfl)) (fun _ _ _ _ _ => pts_nil)
          (fun _ _ _ _ _ => pe_call R hr rfl mR kR bR .nil pass0 (pa_cons (pv 0) (pa_cons (pv 7) pa_nil)))) pa_nil))))), ?_⟩
    refine ⟨_, rfl, _, rfl, by omega, by omega, fun D nD => ?_⟩
    obtain ⟨nDh, nDl⟩ := src.new nD
    refine lc_range (lo := 0) (n := many) (fun i H' => ∃ rs : List Addr, RowsAt H' D rs (fun _ => []) ∧ rs.length = i ∧ rs.Nodup ∧ (∀ r ∈ rs, H r = none ∧ r ≠ D) ∧ Src H' h l ∧ Bar h l H H')
      ⟨[], ⟨upd_same, fun k q e => by simp at e⟩, rfl, List.nodup_nil, by simp, src.updn nD, Bar.refl.fresh nD⟩ ?_ ?_
    · rintro i H4 hi ⟨rs, ra, rl, nd, rn, sr, br⟩
      refine gn ⟨rfl, yes ?_⟩
      refine ⟨Nat.zero_le _, fun r nr => ?_⟩
      have nr0 := br.free sr nr
      obtain ⟨nrh, nrl⟩ := sr.new nr
      have nrD : r ≠ D := fun e => by rw [e, ra.top] at nr; cases nr
      have nrr : r ∉ rs := fun e => by
        obtain ⟨k, hk, ek⟩ := List.mem_iff_getElem.mp e
        have := ra.row k r (by rw [List.getElem?_eq_getElem hk, ek])
        rw [nr] at this
        cases this
      have nDr : D ≠ r := Ne.symm nrD
      refine ⟨_, by rw [upd_ne nDr]; exact ra.top, by rw [List.length_map]; exact sz6 (by omega), rs ++ [r], ⟨by rw [upd_same]; simp, ?_⟩, by simp [rl], ?_, ?_, (sr.updn nr).put nDh nDl, (br.fresh nr0).fresh nD⟩
      · intro k q ek
        rw [List.getElem?_append] at ek
        split at ek
        · rename_i hk
          have hq : q ∈ rs := List.mem_of_getElem? ek
          rw [upd_ne (rn q hq).2, upd_ne (fun z => nrr (by rw [← z]; exact hq))]
          exact ra.row k q ek
        · have : q = r := by
            rw [List.getElem?_singleton] at ek
            split at ek
            · exact (Option.some.inj ek).symm
            · cases ek
          subst this
          rw [upd_ne nrD, upd_same]
          rfl
      · rw [List.nodup_append]
        refine ⟨nd, by simp, fun x hx y hy e => ?_⟩
        rw [List.mem_singleton.mp hy] at e
        subst e
        exact nrr hx
      · intro x hx
        rcases List.mem_append.mp hx with hx | hx
        · exact rn x hx
        · rw [List.mem_singleton.mp hx]
          exact ⟨nr0, nrD⟩
    · rintro H4 ⟨rs, ra0, rl, nd, rn, sr0, br0⟩
      refine gn ?_
      dsimp only [List.set, L2.start]
      have rq : ∀ r ∈ rs, r ≠ h ∧ r ≠ l ∧ r ≠ D := fun r hr => ⟨(src.new (rn r hr).1).1, (src.new (rn r hr).1).2, (rn r hr).2⟩
      have rix : ∀ i, i < many → ∃ r, rs[i]? = some r ∧ r ∈ rs := fun i hi => ⟨rs[i]'(by omega), List.getElem?_eq_getElem (by omega), List.getElem_mem _⟩
      refine ⟨_, rfl, _, rfl, by omega, by omega, for_range (lo := 0) (n := many) (fun i σ H' => ∃ (L : Nat → List Nat) (y z : Option V), σ = [some (.ref h), some (.int many), some (.int share), some (.ref D), y, z, none, none] ∧ RowsAt H' D rs L ∧ Grow many i 0 L ∧ Src H' h l ∧ Bar h l H H')
        ⟨fun _ => [], none, none, rfl, ra0, .nil, sr0, br0⟩ ?_ ?_⟩
      · rintro i σ H5 hi ⟨L, y, z, rfl, ra, gw, sr, br⟩
        rw [Int.zero_add]
        refine gn ?_
        dsimp only [List.set]
        refine ⟨_, rfl, _, _, rfl, rfl, _, rfl, _, _, rfl, ⟨by omega, by omega, by omega, by omega⟩, ?_⟩
        have en : ((many : Int) - ((i : Int) + 1)).toNat = many - (i + 1) := by omega
        rw [en]
        refine for_range (lo := (i : Int) + 1) (n := many - (i + 1)) (fun j σ H' => ∃ (L : Nat → List Nat) (z : Option V), σ = [some (.ref h), some (.int many), some (.int share), some (.ref D), some (.int (i : Nat)), z, none, none] ∧ RowsAt H' D rs L ∧ Grow many i (i + 1 + j) L ∧ Src H' h l ∧ Bar h l H H')
          ⟨L, z, rfl, ra, gw.mono fun a b ab bm h => by omega, sr, br⟩ ?_ ?_
        · rintro j σ H6 hj ⟨L, z, rfl, ra, gw, sr, br⟩
          have ej : (i : Int) + 1 + (j : Int) = ((i + 1 + j : Nat) : Int) := by omega
          rw [ej]
          refine gn ?_
          dsimp only [List.set]
          refine ⟨_, rfl, _, rfl, h, l, _, rfl, sr, s0, by omega, fun x H7 x0 x1 sr7 br7 => ⟨_, _, rfl, rfl, _, rfl, ?_⟩⟩
          have ra7 : RowsAt H7 D rs L := ⟨br7 _ _ nDh nDl ra.top, fun k q e => br7 _ _ (rq q (List.mem_of_getElem? e)).1 (rq q (List.mem_of_getElem? e)).2.1 (ra.row k q e)⟩
          refine ite2 (fun c => ?_) (fun c => ?_)
          · obtain ⟨r1, e1, m1'⟩ := rix i hi
            obtain ⟨r2, e2, m2⟩ := rix (i + 1 + j) (by omega)
            have f1 : (rs.map V.ref)[i]? = some (V.ref r1) := by rw [List.getElem?_map, e1]; rfl
            have f2 : (rs.map V.ref)[i + 1 + j]? = some (V.ref r2) := by rw [List.getElem?_map, e2]; rfl
            have bnd : ∀ L, Grow many i (i + 1 + j) L → ∀ k, (L k).length ≤ many := fun L g k => by
              have := List.Nodup.length_le_card_of_sub (g.nd k) (fun x hx => (g.both k x hx).1)
              exact this
            refine ⟨_, rfl, _, rfl, D, _, _, _, rfl, rfl, SqL.of ra7.top, atI_nat f1, .inl ⟨rfl, _, SqL.of (ra7.row i r1 e1)⟩, _, rfl, r1, _, _, rfl, rfl, ra7.row i r1 e1, by rw [VI_len]; exact sz6 (Nat.le_trans (bnd L gw i) (by omega)), ?_⟩
            have ra8 : RowsAt (upd H7 r1 (.lst (VI (L i) ++ [V.int ((i + 1 + j : Nat) : Int)]))) D rs (putL L i (i + 1 + j)) := ⟨by rw [upd_ne (Ne.symm (rq r1 m1').2.2)]; exact ra7.top, row_put nd e1 ra7.row⟩
            have sr8 := sr7.put (o := .lst (VI (L i) ++ [V.int ((i + 1 + j : Nat) : Int)])) (rq r1 m1').1 (rq r1 m1').2.1
            have br8 := (br.trans br7).fresh (o := .lst (VI (L i) ++ [V.int ((i + 1 + j : Nat) : Int)])) (rn r1 m1').1
            generalize upd H7 r1 (.lst (VI (L i) ++ [V.int ((i + 1 + j : Nat) : Int)])) = H8 at ra8 sr8 br8
            refine ⟨_, rfl, _, rfl, D, _, _, _, rfl, rfl, SqL.of ra8.top, atI_nat f2, .inl ⟨rfl, _, SqL.of (ra8.row _ r2 e2)⟩, _, rfl, r2, _, _, rfl, rfl, ra8.row _ r2 e2, ?_, ?_⟩
            · rw [VI_len]
              refine sz6 (Nat.le_trans (m := many + 1) ?_ (by omega))
              unfold putL
              split
              · rw [List.length_append]
                have := bnd L gw i
                simp
                exact this
              · have := bnd L gw (i + 1 + j)
                omega
            · refine ⟨putL (putL L i (i + 1 + j)) (i + 1 + j) i, _, rfl, ⟨by rw [upd_ne (Ne.symm (rq r2 m2).2.2)]; exact ra8.top, row_put nd e2 ra8.row⟩, gw.put (by omega) (by omega), sr8.put (rq r2 m2).1 (rq r2 m2).2.1, br8.fresh (rn r2 m2).1⟩
          · exact ⟨L, _, rfl, ra7, gw.mono fun a b ab bm h => by omega, sr7, br.trans br7⟩
        · rintro σ H6 ⟨L, z, rfl, ra, gw, sr, br⟩
          exact ⟨L, _, z, rfl, ra, gw.mono fun a b ab bm h => by omega, sr, br⟩
      · rintro σ H5 ⟨L, y, z, rfl, ra, gw, sr, br⟩
        refine ⟨_, rfl, D, rfl, ⟨_, SqL.of ra.top⟩, fun C nC => ?_⟩
        have nC0 := br.free sr nC
        obtain ⟨nCh, nCl⟩ := sr.new nC
        have nDC : D ≠ C := ne_of_none ra.top nC
        have rC : ∀ r ∈ rs, r ≠ C := fun r hr e => by
          obtain ⟨k, hk, ek⟩ := List.mem_iff_getElem.mp hr
          have := ra.row k r (by rw [List.getElem?_eq_getElem hk, ek])
          rw [e, nC] at this
          cases this
        refine lc_list (K := K) (a := D) (xs := rs.map V.ref) (fun i H' => ∃ (ts : List Addr) (ls : List (List Nat)), H' C = some (.lst (ts.map V.ref)) ∧ ls.length = i ∧ RwX H' ts ls ∧ (∀ (j : Nat) (s : List Nat), ls[j]? = some s → s.Perm (L j)) ∧ RowsAt H' D rs L ∧ Src H' h l ∧ Bar h l H H')
          ⟨[], [], upd_same, rfl, ⟨rfl, fun _ _ _ e => by simp at e⟩, fun _ _ e => (by simp at e), ⟨by rw [upd_ne nDC]; exact ra.top, fun k q e => by rw [upd_ne (rC q (List.mem_of_getElem? e))]; exact ra.row k q e⟩, sr.updn nC, br.fresh nC0⟩ (fun i H' _ ⟨_, _, _, _, _, _, r, _⟩ => SqL.of r.top) ?_ ?_
        · rintro i x H6 hx ⟨ts, ls, eC, ll, rw6, pm, ra6, sr6, br6⟩
          obtain ⟨r, er, rfl⟩ : ∃ r, rs[i]? = some r ∧ x = V.ref r := by
            rw [List.getElem?_map] at hx
            cases e : rs[i]? with
            | none => rw [e] at hx; cases hx
            | some r => rw [e] at hx; exact ⟨r, rfl, (Option.some.inj hx).symm⟩
          have hr' := List.mem_of_getElem? er
          have hi : i < many := by have := (List.getElem?_eq_some_iff.mp er).1; omega
          refine gn ⟨rfl, yes ?_⟩
          refine ⟨_, rfl, _, rfl, h, l, r, VI (L i), rfl, sr6, ra6.row i r er, (rq r hr').1, (rq r hr').2.1, ?_, fun t ys H7 py sr7 br7 nt et => ?_⟩
          · rw [VI_len]
            exact Nat.le_trans (List.Nodup.length_le_card_of_sub (gw.nd i) fun x hx => (gw.both i x hx).1) (by omega)
          · obtain ⟨s, rfl, ps⟩ := perm_VI py
            have eC7 := br7 _ _ nCh nCl eC
            have ra7 : RowsAt H7 D rs L := ⟨br7 _ _ nDh nDl ra6.top, fun k q e => br7 _ _ (rq q (List.mem_of_getElem? e)).1 (rq q (List.mem_of_getElem? e)).2.1 (ra6.row k q e)⟩
            have tl : ts.length = i := by rw [rw6.1, ll]
            have nCt : t ≠ C := et.ne_lst eC7
            refine ⟨_, eC7, by rw [List.length_map, tl]; exact sz6 (by omega), ts ++ [t], ls ++ [s], by rw [upd_same]; simp, by simp [ll], ⟨by simp [rw6.1], ?_⟩, ?_, ⟨by rw [upd_ne nDC]; exact ra7.top, fun k q e => by rw [upd_ne (rC q (List.mem_of_getElem? e))]; exact ra7.row k q e⟩, sr7.put nCh nCl, (br6.trans br7).fresh nC0⟩
            · intro j a s' ea es
              have old := (RwX.bar rw6 sr6 br7).2
              by_cases c : j < ts.length
              · rw [List.getElem?_append_left c] at ea
                rw [List.getElem?_append_left (by rw [← rw6.1]; exact c)] at es
                have e7 := old j a s' ea es
                exact e7.put (e7.ne_lst eC7)
              · rw [List.getElem?_append_right (by omega), List.getElem?_singleton] at ea
                rw [List.getElem?_append_right (by rw [← rw6.1]; omega), List.getElem?_singleton] at es
                split at ea
                · split at es
                  · cases ea
                    cases es
                    exact et.put nCt
                  · cases es
                · cases ea
            · intro j s' es
              by_cases c : j < ls.length
              · rw [List.getElem?_append_left c] at es
                exact pm j s' es
              · rw [List.getElem?_append_right (by omega), List.getElem?_singleton] at es
                split at es
                · cases es
                  have : j = i := by omega
                  subst this
                  exact ps
                · cases es
        · rintro H6 ⟨ts, ls, eC, ll, rw6, pm, ra6, sr6, br6⟩
          rw [List.length_map, rl] at ll
          refine ⟨C, _, rfl, .inl ⟨SqL.of eC, fun r nr => ?_⟩⟩
          exact q r ls _ (gw.ok ll pm) (sr6.updn nr) (br6.fresh (br6.free sr6 nr)) (br6.free sr6 nr) ⟨ts, upd_same, rw6.1, fun i a s e1 e2 => (rw6.2 i a s e1 e2).same (same_upd nr)⟩
end
end K14
namespace K14
open PySem PySem.Spec PyProof.Rows L2
/-! ### ranks -/
def rkV (s : List Nat) (j : Nat) : V := if j ∈ s then .int (s.idxOf j : Nat) else .non
def VR (n : Nat) (s : List Nat) : List V := (List.range n).map (rkV s)
theorem VR_len (n : Nat) (s : List Nat) : (VR n s).length = n := by simp [VR]
theorem VR_get {n : Nat} {s : List Nat} {j : Nat} (h : j < n) : (VR n s)[j]? = some (rkV s j) := by simp [VR, h]
def RT (H : Hp) (r : Addr) (ls : List (List Nat)) : Prop := ∃ as : List Addr, H r = some (.tup (as.map V.ref)) ∧ as.length = ls.length ∧ ∀ (i : Nat) (a : Addr) (s : List Nat), as[i]? = some a → ls[i]? = some s → H a = some (.tup (VR ls.length s))
theorem RT.same {H H' : Hp} {r : Addr} {ls : List (List Nat)} (t : RT H r ls) (b : Same H H') : RT H' r ls := by
  obtain ⟨as, e, l, q⟩ := t
  exact ⟨as, b _ _ e, l, fun i a x e1 e2 => b _ _ (q i a x e1 e2)⟩
theorem LT.at {H : Hp} {r : Addr} {ls : List (List Nat)} (t : LT H r ls) {i : Nat} {s : List Nat} (e : ls[i]? = some s) : ∃ xs a, H r = some (.tup xs) ∧ xs[i]? = some (.ref a) ∧ Tp H a (VI s) := by
  obtain ⟨as, e1, l, q⟩ := t
  have hi := (List.getElem?_eq_some_iff.mp e).1
  have ha : i < as.length := by omega
  exact ⟨_, as[i], e1, by rw [List.getElem?_map, List.getElem?_eq_getElem ha]; rfl, q i _ s (List.getElem?_eq_getElem ha) e⟩
theorem LT.len {H : Hp} {r : Addr} {ls : List (List Nat)} (t : LT H r ls) : ∃ xs, H r = some (.tup xs) ∧ xs.length = ls.length := by
  obtain ⟨as, e1, l, q⟩ := t
  exact ⟨_, e1, by rw [List.length_map, l]⟩
theorem RT.at {H : Hp} {r : Addr} {ls : List (List Nat)} (t : RT H r ls) {i : Nat} {s : List Nat} (e : ls[i]? = some s) : ∃ xs a, H r = some (.tup xs) ∧ xs[i]? = some (.ref a) ∧ H a = some (.tup (VR ls.length s)) := by
  obtain ⟨as, e1, l, q⟩ := t
  have hi := (List.getElem?_eq_some_iff.mp e).1
  have ha : i < as.length := by omega
  exact ⟨_, as[i], e1, by rw [List.getElem?_map, List.getElem?_eq_getElem ha]; rfl, q i _ s (List.getElem?_eq_getElem ha) e⟩
theorem inV_VI (p : Nat) (s : List Nat) : inV (.int (p : Nat)) (VI s) = decide (p ∈ s) := by
  unfold inV VI
  rw [List.any_map, Bool.eq_iff_iff, List.any_eq_true, decide_eq_true_eq]
  constructor
  · rintro ⟨y, hy, e⟩
    have : ((y : Nat) : Int) = (p : Nat) := eq_of_beq e
    have : y = p := by omega
    rwa [← this]
  · intro h
    exact ⟨p, h, beq_self_eq_true ((p : Nat) : Int)⟩
theorem flat_VI (s : List Nat) : (VI s).all flatV = true := by
  unfold VI
  rw [List.all_map, List.all_eq_true]
  intro x _
  rfl
theorem rkV_take {s : List Nat} (nd : s.Nodup) {i x : Nat} (e : s[i]? = some x) (j : Nat) : rkV (s.take (i + 1)) j = if j = x then .int (i : Nat) else rkV (s.take i) j := by
  have hi := (List.getElem?_eq_some_iff.mp e).1
  have e1 : s.take (i + 1) = s.take i ++ [x] := by
    rw [List.take_succ, e]
    rfl
  have nx : x ∉ s.take i := by
    intro h
    obtain ⟨k, hk, ek⟩ := List.mem_iff_getElem.mp h
    rw [List.getElem_take] at ek
    rw [List.length_take] at hk
    have := nodup_ix nd (show s[k]? = some x by rw [List.getElem?_eq_getElem (by omega), ek]) e
    omega
  unfold rkV
  rw [e1]
  by_cases c : j = x
  · subst c
    rw [if_pos (by simp), if_pos rfl, List.idxOf_append, if_neg nx]
    simp
    omega
  · rw [if_neg c]
    by_cases d : j ∈ s.take i
    · rw [if_pos (by simp [d]), if_pos d, List.idxOf_append, if_pos d]
    · rw [if_neg (by simp [d, c]), if_neg d]
def spRanksOfList : Sp := fun vs H Q _ => ∃ (a : Addr) (s : List Nat) (n : Nat), vs = [.ref a, .int n] ∧ Tp H a (VI s) ∧ n ≤ 100 ∧ s.Nodup ∧ (∀ j ∈ s, j < n) ∧ ∀ (r : Addr) (H' : Hp), Same H H' → H r = none → H' r = some (.tup (VR n s)) → Q (.ref r) H'
theorem scRanksOfList : FnScope ["some", "many", "ranks", "rank", "other"] ["some", "many"] (defScope sRanksOfList) := ⟨rfl, rfl, rfl, by decide +kernel, rfl, by decide +kernel, by decide +kernel⟩
def spRanksOfLists : Sp := fun vs H Q _ => ∃ (a : Addr) (ls : List (List Nat)), vs = [.ref a] ∧ LT H a ls ∧ ls.length ≤ 100 ∧ ListsOk ls.length ls ∧ ∀ (r : Addr) (H' : Hp), Same H H' → H r = none → RT H' r ls → Q (.ref r) H'
theorem scRanksOfLists : FnScope ["lists", "some"] ["lists"] (defScope sRanksOfLists) := ⟨rfl, rfl, rfl, by decide +kernel, rfl, by decide +kernel, by decide +kernel⟩
theorem ixN_nat {m j : Nat} (h : j < m) : ixN m (j : Nat) = some j := by
  unfold ixN
  rw [if_pos (by omega), if_pos (by omega)]
  rfl
theorem map_set_at (f g : Nat → V) (n x : Nat) (v : V) (hx : x < n) (h : ∀ j, g j = if j = x then v else f j) : ((List.range n).map f).set x v = (List.range n).map g := by
  apply List.ext_getElem?
  intro j
  rw [List.getElem?_set]
  by_cases c : x = j
  · subst c
    rw [if_pos rfl, if_pos (by simpa using hx), List.getElem?_map, List.getElem?_range hx]
    show some v = some (g x)
    rw [h x, if_pos rfl]
  · rw [if_neg c, List.getElem?_map, List.getElem?_map]
    by_cases d : j < n
    · rw [List.getElem?_range d]
      show some (f j) = some (g j)
      rw [h j, if_neg (fun z => c z.symm)]
    · rw [List.getElem?_eq_none (by simpa using d)]
      rfl
theorem rep_flat (n : Nat) (v : V) : (List.replicate n [v]).flatten = List.replicate n v := by
  induction n with
  | zero => rfl
  | succ m ih => rw [List.replicate_succ, List.flatten_cons, ih]; rfl
theorem same_rfl {H : Hp} : Same H H := fun _ _ e => e
theorem VI_at {s : List Nat} {i : Nat} {x : V} (e : (VI s)[i]? = some x) : ∃ j, s[i]? = some j ∧ x = V.int (j : Nat) := by
  unfold VI at e
  rw [List.getElem?_map] at e
  cases h : s[i]? with
  | none => rw [h] at e; cases e
  | some j => rw [h] at e; exact ⟨j, rfl, (Option.some.inj e).symm⟩
abbrev rLenS (K : PySem.W.Frag) : List V → Hp → VK → Prop := fun xs H Q => ∃ p ys, xs = [V.ref p] ∧ (SqL K H p ys ∨ SqT K H p ys) ∧ Q (.int (ys.length : Nat)) H
section
variable {P : Program} {w : World} {K : PySem.W.Frag} {mg : Str → Option Value} {base : Heap}
theorem ok_ranks_of_list {f : Addr} {fd : FuncData} {k : Nat} (F : Fun K "_ranks_of_list" "_ranks_of_list" sRanksOfList f fd) (me : mg "enumerate" = none) (mt : mg "tuple" = none) : FnOk P w K mg base CX0 (k + 1) f fd ["some", "many"] spRanksOfList := by
  refine F.ok scRanksOfList (fun vs H Q E h => ?_) (fun cdv A outer s H vs Q E hr h => ?_)
  · obtain ⟨a, s, n, rfl, _⟩ := h
    rfl
  · obtain ⟨a, s, n, rfl, es, hn, nd, lt, q⟩ := h
    refine ⟨_, pss_cons (ps_set (i := 2) scRanksOfList.nd rfl (.inl rfl) (pe_op op_rep (pe_lst (pa_cons pe_non pa_nil)) (pv 1)))
      (pss_cons (ps_for PassesOwn.never rfl (pi_enumT (by rfl) me (pa_cons (pv 0) pa_nil)) (pg_tup rfl (pgs_cons (pg_name (i := 3) scRanksOfList.nd rfl (.inl rfl)) (pgs_cons (pg_name (i := 4) scRanksOfList.nd rfl (.inl rfl)) pgs_nil)))
        (pss_one (ps_asg (pv 3) (pg_sub (pv 2) (pv 4) set_list))))
      (pss_one (ps_ret (pe_callTy call_tuple_of (by rfl) mt (by decide +kernel) (pa_cons (pv 2) pa_nil))))), ?_⟩
    refine ⟨(by show 1 ≤ sizeLine; decide), fun u nu => ⟨_, rfl, u, n, [.non], rfl, rfl, upd_same, by omega, by omega, ?_, fun p np => ?_⟩⟩
    · show 1 * n ≤ sizeLine
      exact sz5 (by omega)
    have np0 : H p = none := by
      have nup : u ≠ p := ne_of_none upd_same np
      rw [upd_ne (Ne.symm nup)] at np
      exact np
    have e0 : (List.replicate (n : Int).toNat [V.non]).flatten = (List.range n).map (rkV (s.take 0)) := by
      show (List.replicate n [V.non]).flatten = _
      rw [rep_flat]
      symm
      refine List.eq_replicate_iff.mpr ⟨by simp, fun b hb => ?_⟩
      obtain ⟨j, _, rfl⟩ := List.mem_map.mp hb
      unfold rkV
      rw [List.take_zero, if_neg (by simp)]
    rw [e0]
    have s1 : Same H (upd (upd H u (.lst [.non])) p (.lst ((List.range n).map (rkV (s.take 0))))) := (same_rfl.fresh nu).fresh np0
    refine ⟨_, rfl, a, VI s, rfl, (es.same s1).sq, ?_⟩
    refine for_it (walk_enumT (K := K) (a := a) (xs := VI s)) (fun i σ H' => ∃ y z : Option V, σ = [some (.ref a), some (.int n), some (.ref p), y, z] ∧ Same H H' ∧ H' p = some (.lst ((List.range n).map (rkV (s.take i)))))
      ⟨none, none, rfl, s1, upd_same⟩ (fun i σ H' _ ⟨_, _, _, sm, _⟩ => (es.same sm).sq) ?_ ?_
    · rintro i x σ H1 H2 hi ⟨y, z, rfl, sm, ep⟩ ⟨T, x0, x1, rfl, nT, rfl, e1, e2⟩
      cases e1
      obtain ⟨j, hj, rfl⟩ := VI_at e2
      have npT : p ≠ T := ne_of_none ep nT
      refine ⟨T, _, rfl, SqT.of upd_same, rfl, _, _, rfl, gn ⟨_, _, rfl, gn ⟨rfl, ?_⟩⟩⟩
      dsimp only [List.set]
      have hjn := lt j (List.mem_of_getElem? hj)
      refine ⟨_, rfl, _, rfl, _, rfl, p, _, (j : Int), j, rfl, rfl, by rw [upd_ne npT]; exact ep, by rw [List.length_map, List.length_range]; exact ixN_nat hjn, ?_⟩
      refine ⟨_, _, rfl, (sm.fresh (sm.free nT)).fresh np0, ?_⟩
      rw [upd_same, map_set_at _ (rkV (s.take (i + 1))) n j _ hjn (rkV_take nd hj)]
    · rintro σ H1 ⟨y, z, rfl, sm, ep⟩
      refine ⟨_, rfl, p, _, rfl, .inl ⟨SqL.of ep, fun r nr => q r _ (sm.fresh (sm.free nr)) (sm.free nr) ?_⟩⟩
      rw [upd_same, VI_len, List.take_length]
      rfl
theorem ok_ranks_of_lists {f g : Addr} {fd gd : FuncData} {k : Nat} (F : Fun K "_ranks_of_lists" "_ranks_of_lists" sRanksOfLists f fd) (G : FnOk P w K mg base CX0 k g gd ["some", "many"] spRanksOfList) (bG : Binds K gd ["some", "many"] []) (kG : PySem.W.keepIn K (.ref g) = true) (mG : mg "_ranks_of_list" = some (.ref g)) (ml : mg "len" = none) (mt : mg "tuple" = none) : FnOk P w K mg base CX0 (k + 1) f fd ["lists"] spRanksOfLists := by
  refine F.ok scRanksOfLists (fun vs H Q E h => ?_) (fun cdv A outer s H vs Q E hr h => ?_)
  · obtain ⟨a, ls, rfl, _⟩ := h
    rfl
  · obtain ⟨a, ls, rfl, lt, hn, ok, q⟩ := h
    refine ⟨_, pss_one (ps_ret (pe_callTy call_tuple_of (by rfl) mt (by decide +kernel) (pa_cons (pe_lc (own := [("some", 1)]) (g := gName 1) (tt := tYes) (te := tCall spRanksOfList [] E0 (tCons (tVar 1) (tCons (tCB (rLenS K) (tCons (tVar 0) tNil)) tNil))) rfl scRanksOfLists.nd (pi_tup (pv 0))
          (blkOk_by (own := [("some", 1)]) (N := ["lists", "some"]) (sc := defScope sRanksOfLists) (by decide +kernel)) (fun _ _ _ _ _ => pg_name (i := 1) scRanksOfLists.nd rfl (Or.inl rfl)) (fun _ _ _ _ _ => pts_nil)
          (fun _ _ _ _ _ => pe_call G hr rfl mG kG bG .nil pass0 (pa_cons (pv 1) (pa_cons (pe_callB call_len_seq (by rfl) ml PySem.boot_len (pa_cons (pv 0) pa_nil)) pa_nil)))) pa_nil))), ?_⟩
    obtain ⟨as, ea, al, rows⟩ := lt
    refine ⟨_, rfl, a, rfl, ⟨_, SqT.of ea⟩, fun D nD => ?_⟩
    refine lc_it (walk_tup (K := K) (a := a) (xs := as.map V.ref)) (fun i H' => ∃ rs : List Addr, H' D = some (.lst (rs.map V.ref)) ∧ rs.length = i ∧ Same H H' ∧ ∀ (j : Nat) (r : Addr) (s : List Nat), rs[j]? = some r → ls[j]? = some s → H' r = some (.tup (VR ls.length s)))
      ⟨[], upd_same, rfl, same_upd nD, fun _ _ _ e => by simp at e⟩ (fun i H' _ ⟨_, _, _, sm, _⟩ => SqT.of (sm _ _ ea)) ?_ ?_
    · rintro i x H1 H2 hi ⟨rs, eD, rl, sm, old⟩ ⟨rfl, ex⟩
      rw [List.length_map] at hi
      have hx : (as.map V.ref)[i]? = some (V.ref as[i]) := by rw [List.getElem?_map, List.getElem?_eq_getElem hi]; rfl
      rw [hx] at ex
      cases ex
      have hl : i < ls.length := by omega
      have el : (as.map V.ref).length = ls.length := by rw [List.length_map, al]
      have er := rows i as[i] ls[i] (List.getElem?_eq_getElem hi) (List.getElem?_eq_getElem hl)
      refine gn ⟨rfl, yes ⟨_, rfl, _, rfl, a, _, rfl, .inr (SqT.of (sm _ _ ea)), as[i], ls[i], ls.length, (by rw [el]; rfl), er.same sm, hn, ok.nd i _ (List.getElem?_eq_getElem hl), fun j hj => (ok.both i _ j (List.getElem?_eq_getElem hl) hj).1, fun r H3 sm3 nr er3 => ?_⟩⟩
      have nDr : D ≠ r := ne_of_none eD nr
      refine ⟨_, sm3 _ _ eD, by rw [List.length_map]; exact sz6 (by omega), rs ++ [r], by rw [upd_same]; simp, by simp [rl], (sm.trans sm3).fresh nD, ?_⟩
      intro j r' s' e1 e2
      by_cases c : j < rs.length
      · rw [List.getElem?_append_left c] at e1
        have e7 := sm3 _ _ (old j r' s' e1 e2)
        have nd' : D ≠ r' := fun z => by
          rw [← z, sm3 _ _ eD] at e7
          cases e7
        rw [upd_ne (Ne.symm nd')]
        exact e7
      · rw [List.getElem?_append_right (by omega), List.getElem?_singleton] at e1
        split at e1
        · cases e1
          have : j = i := by omega
          subst this
          rw [List.getElem?_eq_getElem hl] at e2
          cases e2
          rw [upd_ne (Ne.symm nDr)]
          exact er3
        · cases e1
    · rintro H1 ⟨rs, eD, rl, sm, old⟩
      rw [List.length_map] at rl
      refine ⟨D, _, rfl, .inl ⟨SqL.of eD, fun r nr => q r _ (sm.fresh (sm.free nr)) (sm.free nr) ⟨rs, upd_same, by omega, fun j r' s' e1 e2 => ofN nr (old j r' s' e1 e2)⟩⟩⟩
end
end K14
/-! t.index(n) of a tuple of whole numbers -/
namespace K14
open PySem PySem.Spec PyProof.Rows L2
theorem idx_none {s : List Nat} {j m : Nat} (h : m < s.idxOf j) : s[m]? ≠ some j := by
  intro e
  have hm := (List.getElem?_eq_some_iff.mp e)
  obtain ⟨hl, he⟩ := hm
  have := List.not_of_lt_findIdx (p := (· == j)) (xs := s) h
  simp [he] at this
section
variable {X : Cx}
theorem mt_tupIdx : MtR X "tuple.index" (fun x xs H Q => ∃ (p : Addr) (s : List Nat) (j : Nat), x = .ref p ∧ xs = [.int (j : Nat)] ∧ SqT X.K H p (VI s) ∧ j ∈ s ∧ Q (.int (s.idxOf j : Nat)) H) := by
  intro pins st σ H x xs v us Q I rx rs h
  obtain ⟨p, s, j, rfl, rfl, hq, hm, q⟩ := h
  cases rx
  obtain ⟨u, rfl, t, rfl⟩ := vals1 rs
  obtain ⟨its, r, pl, _⟩ := I.tuple hq
  obtain ⟨⟨cls, dd, dt, sl⟩, ho, hc, n, hd⟩ := pl
  simp only at hc hd
  subst hc hd
  have ln : its.toArray.size = s.length := by rw [List.size_toArray, ← r.length, VI_len]
  have hj : s.idxOf j < its.toArray.size := by rw [ln]; exact List.idxOf_lt_length_of_mem hm
  have item : ∀ (m : Nat) (hm : m < its.toArray.size), ∃ y t', s[m]? = some y ∧ its.toArray[m] = Value.int (y : Nat) t' := fun m hlt => by
    have h2 : m < s.length := by omega
    obtain ⟨a, ea, t', et⟩ := r.get (i := m) (x := .int (s[m] : Nat)) (VI_get (List.getElem?_eq_getElem h2))
    refine ⟨s[m], t', List.getElem?_eq_getElem h2, ?_⟩
    have e3 := (List.getElem?_eq_some_iff.mp ea).2
    rw [← et, ← e3]
    simp
  refine call_meets PySem.F.slot_tuple_index ⟨_, ho, rfl⟩ PySem.F.entry_tuple_index (PySem.F.args_tuple_index_2 _ _) (TI.tuple_indexAt p its.toArray n dd sl (.int (j : Nat) t) (eqU (.int (j : Nat))) (s.idxOf j) hj ?_ ?_) ⟨ho, fun a ha => mem_eqAt (x := .int (j : Nat)) ⟨t, rfl⟩ rfl r (flat_VI s) a (by simpa using ha), ⟨.int (s.idxOf j : Nat), H, I.tok _, ⟨_, rfl⟩, q⟩⟩
  · obtain ⟨y, t', h1, h2⟩ := item _ hj
    have e : s[s.idxOf j]? = some j := by rw [List.getElem?_eq_getElem (List.idxOf_lt_length_of_mem hm), List.getElem_idxOf]
    rw [e] at h1
    cases h1
    rw [h2]
    exact beq_self_eq_true ((j : Nat) : Int)
  · intro m hlt hmj
    obtain ⟨y, t', h1, h2⟩ := item m hlt
    rw [h2]
    refine beq_eq_false_iff_ne.mpr fun e => idx_none hmj ?_
    rw [h1]
    congr 1
    have : ((y : Nat) : Int) = (j : Nat) := e
    omega
end
end K14
namespace K14
open PySem PySem.Spec PyProof.Rows L2
def spAreNames : Sp := fun vs H Q _ => ∃ (a : Addr) (ns : List (List Nat)) (n : Nat), vs = [.ref a] ∧ H a = some (.tup (VN ns)) ∧ NamesOk n ns ∧ 1 ≤ n ∧ n ≤ 60 ∧ ∀ H', Same H H' → Q (.bl true) H'
theorem scAreNames : FnScope ["value", "name", "at"] ["value"] (defScope sAreNames) := ⟨rfl, rfl, rfl, by decide +kernel, rfl, by decide +kernel, by decide +kernel⟩
def spCheckLists : Sp := fun vs H Q _ => ∃ (a : Addr) (ls : List (List Nat)), vs = [.ref a] ∧ LT H a ls ∧ ls.length ≤ 100 ∧ ListsOk ls.length ls ∧ ∀ H', Same H H' → Q .non H'
theorem scCheckLists : FnScope ["lists", "person", "some"] ["lists"] (defScope sCheckLists) := ⟨rfl, rfl, rfl, by decide +kernel, rfl, by decide +kernel, by decide +kernel⟩
def spCheckBoth : Sp := fun vs H Q _ => ∃ (a r : Addr) (ls : List (List Nat)), vs = [.ref a, .ref r] ∧ LT H a ls ∧ RT H r ls ∧ ls.length ≤ 100 ∧ ListsOk ls.length ls ∧ ∀ H', Same H H' → Q .non H'
theorem scCheckBoth : FnScope ["lists", "ranks", "person", "some", "other"] ["lists", "ranks"] (defScope sCheckBoth) := ⟨rfl, rfl, rfl, by decide +kernel, rfl, by decide +kernel, by decide +kernel⟩
theorem VN_len (ns : List (List Nat)) : (VN ns).length = ns.length := by simp [VN]
theorem VN_at {ns : List (List Nat)} {i : Nat} {x : V} (e : (VN ns)[i]? = some x) : ∃ s, ns[i]? = some s ∧ x = V.str (SS s) := by
  unfold VN at e
  rw [List.getElem?_map] at e
  cases h : ns[i]? with
  | none => rw [h] at e; cases e
  | some j => rw [h] at e; exact ⟨j, rfl, (Option.some.inj e).symm⟩
theorem VN_get {ns : List (List Nat)} {i : Nat} {s : List Nat} (e : ns[i]? = some s) : (VN ns)[i]? = some (V.str (SS s)) := by
  unfold VN
  rw [List.getElem?_map, e]
  rfl
theorem LT.row {H : Hp} {a : Addr} {ls : List (List Nat)} {xs : List V} {i : Nat} {x : V} (t : LT H a ls) (e : H a = some (.tup xs)) (ex : xs[i]? = some x) : ∃ q s, x = .ref q ∧ ls[i]? = some s ∧ Tp H q (VI s) := by
  obtain ⟨as, e1, l, q⟩ := t
  rw [e1] at e
  cases e
  rw [List.getElem?_map] at ex
  cases h : as[i]? with
  | none => rw [h] at ex; cases ex
  | some b =>
    rw [h] at ex
    have hi := (List.getElem?_eq_some_iff.mp h).1
    have hl : i < ls.length := by omega
    exact ⟨b, ls[i], (Option.some.inj ex).symm, List.getElem?_eq_getElem hl, q i b _ h (List.getElem?_eq_getElem hl)⟩
theorem ListsOk.each {n : Nat} {ls : List (List Nat)} (ok : ListsOk n ls) {i : Nat} {s : List Nat} (e : ls[i]? = some s) : s.length ≤ n := List.Nodup.length_le_card_of_sub (ok.nd i s e) fun x hx => (ok.both i s x e hx).1
theorem walk_range0 {n : Nat} : Walk (Itr 0 n) n (fun _ => True) (YFn fun i => .int (i : Nat)) :=
  walk_range.mono (fun _ h => h) fun i H x H' _ _ y => ⟨y.1, y.2.trans (congrArg V.int (Int.zero_add _))⟩
section
variable {P : Program} {w : World} {K : PySem.W.Frag} {mg : Str → Option Value} {base : Heap}
theorem ok_are_names {f g : Addr} {fd gd : FuncData} {k : Nat} {t6 : Tok} (F : Fun K "_are_names" "_are_names" sAreNames f fd) (G : FnOk P w K mg base CX0 k g gd ["value"] spIsName) (bG : Binds K gd ["value"] []) (kG : PySem.W.keepIn K (.ref g) = true) (mG : mg "is_name" = some (.ref g)) (mis : mg "isinstance" = none) (mt : mg "tuple" = none) (ml : mg "len" = none) (ma : mg "all" = none) (mr : mg "range" = none) (m6 : mg "MOST_PERSONS" = some (.int 60 t6)) : FnOk P w K mg base CX0 (k + 1) f fd ["value"] spAreNames := by
  refine F.ok scAreNames (fun vs H Q E h => ?_) (fun cdv A outer s H vs Q E hr h => ?_)
  · obtain ⟨a, ns, n, rfl, _⟩ := h
    rfl
  · obtain ⟨a, ns, n, rfl, ea, ok, n1, n60, q⟩ := h
    refine ⟨_, pss_cons (ps_if (PW.pt (pw_or (pt_not (pt_val (pe_callB call_isi (by rfl) mis (by decide +kernel) (pa_cons (pv 0) (pa_cons (pe_bltn (v := .ty "tuple") (by rfl) mt (by decide +kernel) rfl) pa_nil)))))
        (pw_or1 (pt_not (pt_chain op_le op_le pe_int (pe_callB call_len_seq (by rfl) ml PySem.boot_len (pa_cons (pv 0) pa_nil)) (pe_glob (v := .int 60) rfl m6 ⟨_, rfl⟩)))))) (pss_one ps_never) pss_nil)
      (pss_cons (ps_if (pt_not (pt_val (pe_callB (cr_all rfl) (by rfl) ma (by decide +kernel) (pa_cons (pe_lc (own := [("name", 1)]) (g := gName 1) (tt := tYes) rfl scAreNames.nd (pi_tup (pv 0))
          (blkOk_by (own := [("name", 1)]) (N := ["value", "name", "at"]) (sc := defScope sAreNames) (by decide +kernel)) (fun _ _ _ _ _ => pg_name (i := 1) scAreNames.nd rfl (Or.inl rfl)) (fun _ _ _ _ _ => pts_nil)
          (fun _ _ _ _ _ => pe_call G hr rfl mG kG bG .nil pass0 (pa_cons (pv 1) pa_nil))) pa_nil)))) (pss_one ps_never) pss_nil)
      (pss_one (ps_ret (pe_callB (cr_all rfl) (by rfl) ma (by decide +kernel) (pa_cons (pe_lc (own := [("at", 2)]) (g := gName 2) (tt := tYes) (te := tOp (fun x y H Q => ∃ i j, x = V.str i ∧ y = V.str j ∧ Q (V.bl (decide (i.cps.toList < j.cps.toList))) H) (tOp (rIxT K) (tVar 0) (tVar 2)) (tOp (rIxT K) (tVar 0) (tOp (rI0 fun i j => V.int (i + j)) (tVar 2) (tC (.int 1))))) rfl scAreNames.nd (pi_range1 rfl mr (pa_cons (pe_op op_sub (pe_callB call_len_seq (by rfl) ml PySem.boot_len (pa_cons (pv 0) pa_nil)) pe_int) pa_nil))
          (blkOk_by (own := [("at", 2)]) (N := ["value", "name", "at"]) (sc := defScope sAreNames) (by decide +kernel)) (fun _ _ _ _ _ => pg_name (i := 2) scAreNames.nd rfl (Or.inl rfl)) (fun _ _ _ _ _ => pts_nil)
          (fun _ _ _ _ _ => pe_cmpR op_lt_str (pe_ix ix_tup (pv 0) (pv 2) (fun _ _ => rfl)) (pe_ix ix_tup (pv 0) (pe_op op_add (pv 2) pe_int) (fun _ _ => rfl)) (nomark _))) pa_nil))))), ?_⟩
    have ln : (VN ns).length = n := by rw [VN_len, ok.len]
    refine (⟨_, rfl, _, _, _, _, true, rfl, .ty _, .base (.tup ea), kit_ty (by decide +kernel), ⟨_, rfl, iteF ?_⟩⟩)
    refine ⟨_, rfl, a, _, rfl, .inr (SqT.of ea), _, _, rfl, rfl, _, rfl, ?_⟩
    rw [ln]
    have c1 : decide ((1 : Int) ≤ (n : Nat)) = true := by simp; omega
    have c2 : decide (((n : Nat) : Int) ≤ 60) = true := by simp; omega
    rw [c1]
    refine iteT ⟨_, _, rfl, rfl, _, rfl, ?_⟩
    dsimp only
    rw [c2]
    refine iteF ?_
    refine ⟨_, rfl, a, rfl, ⟨_, SqT.of ea⟩, fun D nD => ?_⟩
    refine lc_same (walk_tup (K := K) (a := a) (xs := VN ns)) (by omega) (fun _ => .bl true) nD (fun _ sm => SqT.of (sm _ _ ea)) ?_ ?_
    · rintro i x H1 H2 Z out hi sm ⟨rfl, ex⟩
      obtain ⟨s0, es, rfl⟩ := VN_at ex
      obtain ⟨q1, q2, q3⟩ := ok.each s0 (List.mem_of_getElem? es)
      exact gn ⟨rfl, _, rfl, s0, rfl, q1, q2, q3, fun H3 sm3 => out _ sm3⟩
    · intro H1 sm e1
      refine ⟨D, _, rfl, SqL.of (by rw [e1, bl_true]), true, ?_, ?_⟩
      · rw [all_true]
      refine iteF ?_
      have ea1 := sm _ _ ea
      refine ⟨_, rfl, a, _, rfl, .inr (SqT.of ea1), _, _, rfl, rfl, _, rfl, by omega, by omega, fun D2 nD2 => ?_⟩
      rw [ln]
      have em : ((n : Int) - 1).toNat = n - 1 := by omega
      refine lc_same (J := Itr 0 ((n : Int) - 1).toNat) (n := n - 1) (by rw [em]; exact walk_range0) (by omega) (fun _ => .bl true) nD2 (fun _ _ => trivial) ?_ ?_
      · rintro i x H2 H3 Z out hi sm2 ⟨rfl, rfl⟩
        have h1 : i < ns.length := by rw [ok.len]; omega
        have h2 : i + 1 < ns.length := by rw [ok.len]; omega
        have g1 := List.getElem?_eq_getElem h1
        have g2 := List.getElem?_eq_getElem h2
        have ea3 := sm2 _ _ ea1
        refine gn ⟨rfl, _, rfl, _, rfl, a, _, _, _, rfl, rfl, SqT.of ea3, atI_nat (VN_get g1), _, rfl, _, rfl, _, _, rfl, rfl, a, _, _, _, rfl, rfl, SqT.of ea3, atI_nat (j := i + 1) (VN_get g2), _, _, rfl, rfl, ?_⟩
        rw [decide_eq_true (ok.asc i _ _ g1 g2 : (SS ns[i]).cps.toList < (SS ns[i + 1]).cps.toList)]
        exact out _ same_rfl
      · intro H2 sm2 e2
        refine ⟨D2, _, rfl, SqL.of (by rw [e2, bl_true]), ?_⟩
        rw [all_true]
        exact q _ (sm.trans sm2)
theorem ok_check_lists {f g : Addr} {fd gd : FuncData} {k : Nat} (F : Fun K "_check_lists" "_check_lists" sCheckLists f fd) (G : FnOk P w K mg base CX0 k g gd ["value", "many"] spAreUnlike) (bG : Binds K gd ["value", "many"] []) (kG : PySem.W.keepIn K (.ref g) = true) (mG : mg "are_unlike_persons" = some (.ref g)) (me : mg "enumerate" = none) (ml : mg "len" = none) : FnOk P w K mg base CX0 (k + 1) f fd ["lists"] spCheckLists := by
  refine F.ok scCheckLists (fun vs H Q E h => ?_) (fun cdv A outer s H vs Q E hr h => ?_)
  · obtain ⟨a, ls, rfl, _⟩ := h
    rfl
  · obtain ⟨a, ls, rfl, lt, hn, ok, q⟩ := h
    refine ⟨_, pss_one (ps_for PassesOwn.never rfl (pi_enumT (by rfl) me (pa_cons (pv 0) pa_nil)) (pg_tup rfl (pgs_cons (pg_name (i := 1) scCheckLists.nd rfl (.inl rfl)) (pgs_cons (pg_name (i := 2) scCheckLists.nd rfl (.inl rfl)) pgs_nil)))
        (pss_one (ps_if (PW.pt (pw_or (pt_not (pt_val (pe_call G hr rfl mG kG bG .nil pass0 (pa_cons (pv 2) (pa_cons (pe_callB call_len_seq (by rfl) ml PySem.boot_len (pa_cons (pv 0) pa_nil)) pa_nil))))) (pw_or1 (pt_cmpR op_in_seq (pv 1) (pv 2) rfl)))) (pss_one ps_never) pss_nil))), ?_⟩
    obtain ⟨xs, ea, xl⟩ := lt.len
    refine ⟨_, rfl, a, xs, rfl, SqT.of ea, ?_⟩
    refine for_it (walk_enumT (K := K) (a := a) (xs := xs)) (fun i σ H' => ∃ y z : Option V, σ = [some (.ref a), y, z] ∧ Same H H')
      ⟨none, none, rfl, same_rfl⟩ (fun i σ H' _ ⟨_, _, _, sm⟩ => SqT.of (sm _ _ ea)) ?_ ?_
    · rintro i x σ H1 H2 hi ⟨y, z, rfl, sm⟩ ⟨T, x0, x1, rfl, nT, rfl, e1, e2⟩
      cases e1
      obtain ⟨b, s1, rfl, es, eb⟩ := lt.row ea e2
      have sm2 := sm.fresh (o := .tup [.int (i : Nat), .ref b]) (sm.free nT)
      refine ⟨T, _, rfl, SqT.of upd_same, rfl, _, _, rfl, gn ⟨_, _, rfl, gn ⟨rfl, ?_⟩⟩⟩
      dsimp only [List.set]
      generalize upd H1 T (.tup [.int (i : Nat), .ref b]) = H3 at sm2
      refine ⟨_, rfl, _, rfl, a, xs, rfl, .inr (SqT.of (sm2 _ _ ea)), b, s1, ls.length, by rw [xl]; rfl, eb.same sm2, by have := ok.each es; omega, ok.nd i _ es, fun j hj => (ok.both i _ j es hj).1, fun H4 sm4 => ⟨true, rfl, iteF ?_⟩⟩
      refine ⟨_, rfl, _, rfl, b, _, rfl, .inr (((eb.same sm2).same sm4).sq), rfl, flat_VI s1, _, rfl, ?_⟩
      dsimp only
      rw [inV_VI, decide_eq_false (fun hm => (ok.both i _ i es hm).2.1 rfl)]
      exact iteF ⟨_, _, rfl, sm2.trans sm4⟩
    · rintro σ H1 ⟨y, z, rfl, sm⟩
      exact q _ sm
theorem ok_check_both {f : Addr} {fd : FuncData} {k : Nat} (F : Fun K "_check_both_ways" "_check_both_ways" sCheckBoth f fd) (me : mg "enumerate" = none) : FnOk P w K mg base CX0 (k + 1) f fd ["lists", "ranks"] spCheckBoth := by
  refine F.ok scCheckBoth (fun vs H Q E h => ?_) (fun cdv A outer s H vs Q E hr h => ?_)
  · obtain ⟨a, r, ls, rfl, _⟩ := h
    rfl
  · obtain ⟨a, r, ls, rfl, lt, rt, hn, ok, q⟩ := h
    refine ⟨_, pss_one (ps_for PassesOwn.never rfl (pi_enumT (by rfl) me (pa_cons (pv 0) pa_nil)) (pg_tup rfl (pgs_cons (pg_name (i := 2) scCheckBoth.nd rfl (.inl rfl)) (pgs_cons (pg_name (i := 3) scCheckBoth.nd rfl (.inl rfl)) pgs_nil)))
        (pss_one (ps_for PassesOwn.never rfl (pi_tup (pv 3)) (pg_name (i := 4) scCheckBoth.nd rfl (.inl rfl))
          (pss_one (ps_if (pt_cmpR op_isN (pe_ix ix_tup (pe_ix ix_tup (pv 1) (pv 4) (fun _ _ => rfl)) (pv 2) (fun _ _ => rfl)) pe_non (nomark _)) (pss_one ps_never) pss_nil))))), ?_⟩
    obtain ⟨xs, ea, xl⟩ := lt.len
    refine ⟨_, rfl, a, xs, rfl, SqT.of ea, ?_⟩
    refine for_it (walk_enumT (K := K) (a := a) (xs := xs)) (fun i σ H' => ∃ x y z : Option V, σ = [some (.ref a), some (.ref r), x, y, z] ∧ Same H H')
      ⟨none, none, none, rfl, same_rfl⟩ (fun i σ H' _ ⟨_, _, _, _, sm⟩ => SqT.of (sm _ _ ea)) ?_ ?_
    · rintro i x σ H1 H2 hi ⟨x', y, z, rfl, sm⟩ ⟨T, x0, x1, rfl, nT, rfl, e1, e2⟩
      cases e1
      obtain ⟨b, s1, rfl, es, eb⟩ := lt.row ea e2
      have sm2 := sm.fresh (o := .tup [.int (i : Nat), .ref b]) (sm.free nT)
      refine ⟨T, _, rfl, SqT.of upd_same, rfl, _, _, rfl, gn ⟨_, _, rfl, gn ⟨rfl, ?_⟩⟩⟩
      dsimp only [List.set]
      generalize upd H1 T (.tup [.int (i : Nat), .ref b]) = H3 at sm2
      refine ⟨_, rfl, b, rfl, ⟨_, (eb.same sm2).sq⟩, for_it (walk_tup (K := K) (a := b) (xs := VI s1)) (fun j σ H' => ∃ z : Option V, σ = [some (.ref a), some (.ref r), some (.int (i : Nat)), some (.ref b), z] ∧ Same H H') ⟨z, rfl, sm2⟩ (fun j σ H' _ ⟨_, _, sm⟩ => (eb.same sm).sq) ?_ ?_⟩
      · rintro j x σ H4 H5 hj ⟨z, rfl, sm4⟩ ⟨rfl, ex⟩
        obtain ⟨o, eo, rfl⟩ := VI_at ex
        refine gn ?_
        dsimp only [List.set]
        obtain ⟨h1, h2, t, et, hm⟩ := ok.both i s1 o es (List.mem_of_getElem? eo)
        obtain ⟨rows, c, er, ec, ev⟩ := rt.at et
        have hi' : i < ls.length := by omega
        refine ⟨_, rfl, _, rfl, r, rows, _, _, rfl, rfl, SqT.of (sm4 _ _ er), atI_nat ec, _, rfl, c, _, _, _, rfl, rfl, SqT.of (sm4 _ _ ev), atI_nat (VR_get hi'), rfl, _, rfl, ?_⟩
        have e0 : decide (rkV t i = V.non) = false := by
          unfold rkV
          rw [if_pos hm]
          rfl
        rw [e0]
        exact iteF ⟨_, rfl, sm4⟩
      · rintro σ H4 ⟨z, rfl, sm4⟩
        exact ⟨_, _, _, rfl, sm4⟩
    · rintro σ H1 ⟨x, y, z, rfl, sm⟩
      exact q _ sm
end
end K14
namespace K14
open PySem PySem.Spec PyProof.Rows L2
/-! ### wishes -/
theorem fne1 : ¬ (("names" : Str) = "lists") := by decide +kernel
theorem fne2 : ¬ (("names" : Str) = "_ranks") := by decide +kernel
theorem fne3 : ¬ (("lists" : Str) = "_ranks") := by decide +kernel
def wf (n l r : Addr) : List (Str × V) := putF "_ranks" (.ref r) (putF "lists" (.ref l) (putF "names" (.ref n) []))
theorem wf_names (n l r : Addr) : (wf n l r).lookup ("names" : Str) = some (.ref n) := by
  unfold wf
  rw [lookup_putF, if_neg fne2, lookup_putF, if_neg fne1, lookup_putF, if_pos rfl]
theorem wf_lists (n l r : Addr) : (wf n l r).lookup ("lists" : Str) = some (.ref l) := by
  unfold wf
  rw [lookup_putF, if_neg fne3, lookup_putF, if_pos rfl]
theorem wf_ranks (n l r : Addr) : (wf n l r).lookup ("_ranks" : Str) = some (.ref r) := by
  unfold wf
  rw [lookup_putF, if_pos rfl]
theorem wf2_len (n l : Addr) : (putF "lists" (.ref l) (putF "names" (.ref n) [])).length < 1000 := by
  show (if ("names" : Str) = "lists" then _ else (("names" : Str), V.ref n) :: putF "lists" (.ref l) []).length < 1000
  rw [if_neg fne1]
  show 2 < 1000
  decide
structure WAt (C : Addr) (H : Hp) (wi : Addr) (ns ls : List (List Nat)) : Prop where
  n60 : 1 ≤ ls.length ∧ ls.length ≤ 60
  nok : NamesOk ls.length ns
  ok : ListsOk ls.length ls
  ex : ∃ dx n l r, H wi = some (.ins C dx (wf n l r)) ∧ H n = some (.tup (VN ns)) ∧ LT H l ls ∧ RT H r ls
theorem WAt.same {C wi : Addr} {H H' : Hp} {ns ls : List (List Nat)} (W : WAt C H wi ns ls) (s : Same H H') : WAt C H' wi ns ls := by
  obtain ⟨dx, n, l, r, e1, e2, e3, e4⟩ := W.ex
  exact ⟨W.n60, W.nok, W.ok, dx, n, l, r, s _ _ e1, s _ _ e2, e3.same s, e4.same s⟩
theorem RT.bar {H H' : Hp} {h l r : Addr} {ls : List (List Nat)} (t : RT H r ls) (s : Src H h l) (b : Bar h l H H') : RT H' r ls := by
  obtain ⟨as, e, le, q⟩ := t
  exact ⟨as, tup_bar s b e, le, fun i a x e1 e2 => tup_bar s b (q i a x e1 e2)⟩
theorem WAt.bar {C wi h l : Addr} {H H' : Hp} {ns ls : List (List Nat)} (W : WAt C H wi ns ls) (s : Src H h l) (b : Bar h l H H') : WAt C H' wi ns ls := by
  obtain ⟨dx, n, l', r, e1, e2, e3, e4⟩ := W.ex
  have nn := s.ne e1 (fun _ z => by cases z)
  exact ⟨W.n60, W.nok, W.ok, dx, n, l', r, b _ _ nn.1 nn.2 e1, tup_bar s b e2, e3.bar s b, e4.bar s b⟩
structure Txt (K : PySem.W.Frag) (mg : Str → Option Value) (C : Addr) : Prop where
  cl : Cls K C
  nN : NoAttr K C "names"
  nL : NoAttr K C "lists"
  nR : NoAttr K C "_ranks"
  mgC : mg "Wishes" = some (.ref C)
def spWInit (C : Addr) : Sp := fun vs H Q _ => ∃ (p dx n l : Addr) (ns ls : List (List Nat)), vs = [.ref p, .ref n, .ref l] ∧ H p = some (.ins C dx []) ∧ H n = some (.tup (VN ns)) ∧ LT H l ls ∧ 1 ≤ ls.length ∧ ls.length ≤ 60 ∧ NamesOk ls.length ns ∧ ListsOk ls.length ls ∧
  ∀ H', WAt C H' p ns ls → (∀ b o, H b = some o → b ≠ p → H' b = some o) → Q .non H'
theorem scWInit : FnScope ["self", "names", "lists", "ranks"] ["self", "names", "lists"] (defScope sWInit) := ⟨rfl, rfl, rfl, by decide +kernel, rfl, by decide +kernel, by decide +kernel⟩
section
variable {P : Program} {w : World} {K : PySem.W.Frag} {mg : Str → Option Value} {base : Heap}
theorem ok_winit {f fn ft fl fr fb C : Addr} {fd dn dt dl dr db : FuncData} {k : Nat} (F : Fun K "__init__" "Wishes.__init__" sWInit f fd) (T : Txt K mg C)
    (Gn : FnOk P w K mg base CX0 k fn dn ["value"] spAreNames) (bn : Binds K dn ["value"] []) (kn : PySem.W.keepIn K (.ref fn) = true) (mn : mg "_are_names" = some (.ref fn))
    (Gt : FnOk P w K mg base CX0 k ft dt ["value", "many"] spIsTupleOf) (bt : Binds K dt ["value", "many"] []) (kt : PySem.W.keepIn K (.ref ft) = true) (mt : mg "is_tuple_of" = some (.ref ft))
    (Gl : FnOk P w K mg base CX0 k fl dl ["lists"] spCheckLists) (bl : Binds K dl ["lists"] []) (kl : PySem.W.keepIn K (.ref fl) = true) (ml : mg "_check_lists" = some (.ref fl))
    (Gr : FnOk P w K mg base CX0 k fr dr ["lists"] spRanksOfLists) (br : Binds K dr ["lists"] []) (kr : PySem.W.keepIn K (.ref fr) = true) (mr : mg "_ranks_of_lists" = some (.ref fr))
    (Gb : FnOk P w K mg base CX0 k fb db ["lists", "ranks"] spCheckBoth) (bb : Binds K db ["lists", "ranks"] []) (kb : PySem.W.keepIn K (.ref fb) = true) (mb : mg "_check_both_ways" = some (.ref fb)) (mlen : mg "len" = none) :
    FnOk P w K mg base CX0 (k + 1) f fd ["self", "names", "lists"] (spWInit C) := by
  refine F.ok scWInit (fun vs H Q E h => ?_) (fun cdv A outer s H vs Q E hr h => ?_)
  · obtain ⟨p, dx, n, l, ns, ls, rfl, _⟩ := h
    rfl
  · obtain ⟨p, dx, n, l, ns, ls, rfl, ep, en, lt, n1, n60, nok, ok, q⟩ := h
    refine ⟨_, pss_cons (ps_if (pt_not (pt_val (pe_call Gn hr rfl mn kn bn .nil pass0 (pa_cons (pv 1) pa_nil)))) (pss_one ps_never) pss_nil)
      (pss_cons (ps_if (pt_not (pt_val (pe_call Gt hr rfl mt kt bt .nil pass0 (pa_cons (pv 2) (pa_cons (pe_callB call_len_seq (by rfl) mlen PySem.boot_len (pa_cons (pv 1) pa_nil)) pa_nil))))) (pss_one ps_never) pss_nil)
      (pss_cons (ps_expr (pe_call Gl hr rfl ml kl bl .nil pass0 (pa_cons (pv 2) pa_nil)))
      (pss_cons (ps_set (i := 3) scWInit.nd rfl (.inl rfl) (pe_call Gr hr rfl mr kr br .nil pass0 (pa_cons (pv 2) pa_nil)))
      (pss_cons (ps_expr (pe_call Gb hr rfl mb kb bb .nil pass0 (pa_cons (pv 2) (pa_cons (pv 3) pa_nil))))
      (pss_cons (ps_fld (pv 0) (pv 1) rfl)
      (pss_cons (ps_fld (pv 0) (pv 2) rfl)
      (pss_one (ps_fld (pv 0) (pv 3) rfl)))))))), ?_⟩
    refine ⟨_, rfl, n, ns, ls.length, rfl, en, nok, n1, n60, fun H1 s1 => ⟨true, rfl, iteF ?_⟩⟩
    obtain ⟨xs, el, xl⟩ := lt.len
    have el1 := s1 _ _ el
    have t1 : tupOf H1 (.ref l) = some xs := by simp [tupOf, el1]
    refine ⟨_, rfl, _, rfl, n, _, rfl, .inr (SqT.of (s1 _ _ en)), .ref l, (VN ns).length, rfl, .tup el1, fun ys e => ?_, ?_⟩
    · rw [t1] at e
      cases e
      omega
    rw [t1]
    have c1 : decide (xs.length = (VN ns).length) = true := by
      rw [decide_eq_true_eq, xl, VN_len, nok.len]
    refine ⟨true, congrArg V.bl c1, iteF ?_⟩
    refine ⟨_, rfl, l, ls, rfl, lt.same s1, by omega, ok, fun H2 s2 => ?_⟩
    refine ⟨_, rfl, l, ls, rfl, (lt.same s1).same s2, by omega, ok, fun r H3 s3 nr rt => ?_⟩
    have s03 : Same H H3 := s1.trans (s2.trans s3)
    refine ⟨_, rfl, _, rfl, l, r, ls, rfl, lt.same s03, rt, by omega, ok, fun H4 s4 => ?_⟩
    have s04 : Same H H4 := s03.trans s4
    have ep4 := s04 _ _ ep
    refine ⟨_, rfl, _, rfl, p, C, dx, [], rfl, ep4, T.cl, T.nN, (by decide), ?_⟩
    refine ⟨_, rfl, _, rfl, p, C, dx, _, rfl, upd_same, T.cl, T.nL, (by show 1 < 1000; decide), ?_⟩
    refine ⟨_, rfl, _, rfl, p, C, dx, _, rfl, upd_same, T.cl, T.nR, wf2_len n l, ?_⟩
    have keep : ∀ b o, H b = some o → b ≠ p → (upd (upd (upd H4 p (.ins C dx (putF "names" (.ref n) []))) p (.ins C dx (putF "lists" (.ref l) (putF "names" (.ref n) [])))) p (.ins C dx (wf n l r))) b = some o := fun b o e nb => by
      rw [upd_ne nb, upd_ne nb, upd_ne nb]
      exact s04 b o e
    have keep3 : ∀ b xs, H4 b = some (.tup xs) → (upd (upd (upd H4 p (.ins C dx (putF "names" (.ref n) []))) p (.ins C dx (putF "lists" (.ref l) (putF "names" (.ref n) [])))) p (.ins C dx (wf n l r))) b = some (.tup xs) := fun b xs e => by
      have nb : b ≠ p := fun z => by rw [z, ep4] at e; cases e
      rw [upd_ne nb, upd_ne nb, upd_ne nb]
      exact e
    have nep : ∀ a xs, Tp H4 a xs → a ≠ p := fun a xs t z => by
      rcases t with e | ⟨o, _, _, e⟩ <;> (rw [z, ep4] at e; cases e)
    refine q _ ⟨⟨n1, n60⟩, nok, ok, dx, n, l, r, upd_same, keep3 _ _ (s04 _ _ en), ?_, ?_⟩ keep
    · obtain ⟨as, ea, al, rows⟩ := lt.same s04
      exact ⟨as, keep3 _ _ ea, al, fun i a x e1 e2 => ((((rows i a x e1 e2).put (nep _ _ (rows i a x e1 e2))).put (nep _ _ (rows i a x e1 e2))).put (nep _ _ (rows i a x e1 e2)))⟩
    · obtain ⟨as, ea, al, rows⟩ := rt.same s4
      exact ⟨as, keep3 _ _ ea, al, fun i a x e1 e2 => keep3 _ _ (rows i a x e1 e2)⟩
end
end K14
namespace K14
open PySem PySem.Spec PyProof.Rows L2
/-! ### holds -/
def hv : Option Nat → V
  | none => .non
  | some j => .int (j : Nat)
def VH (hs : List (Option Nat)) : List V := hs.map hv
theorem VH_len (hs : List (Option Nat)) : (VH hs).length = hs.length := List.length_map _
theorem VH_get {hs : List (Option Nat)} {i : Nat} {o : Option Nat} (e : hs[i]? = some o) : (VH hs)[i]? = some (hv o) := by unfold VH; rw [List.getElem?_map, e]; rfl
theorem VH_at {hs : List (Option Nat)} {i : Nat} {x : V} (e : (VH hs)[i]? = some x) : ∃ o, hs[i]? = some o ∧ x = hv o := by
  unfold VH at e
  rw [List.getElem?_map] at e
  cases h : hs[i]? with
  | none => rw [h] at e; cases e
  | some j => rw [h] at e; exact ⟨j, rfl, (Option.some.inj e).symm⟩
def rkO (s : List Nat) : Option Nat → V
  | none => .int (s.length : Nat)
  | some j => rkV s j
def rkN (s : List Nat) : Option Nat → Nat
  | none => s.length
  | some j => s.idxOf j
theorem rkO_N {s : List Nat} {o : Option Nat} (h : ∀ j, o = some j → j ∈ s) : rkO s o = .int (rkN s o : Nat) := by
  cases o with
  | none => rfl
  | some j =>
    show rkV s j = _
    unfold rkV
    rw [if_pos (h j rfl)]
    rfl
/-- the list of a person, the one it holds -/
def la (ls : List (List Nat)) (p : Nat) : List Nat := ls.getD p []
def ha (hs : List (Option Nat)) (p : Nat) : Option Nat := hs.getD p none
theorem la_get {ls : List (List Nat)} {p : Nat} (h : p < ls.length) : ls[p]? = some (la ls p) := by
  unfold la
  rw [List.getD_eq_getElem?_getD, List.getElem?_eq_getElem h]
  rfl
theorem ha_get {hs : List (Option Nat)} {p : Nat} (h : p < hs.length) : hs[p]? = some (ha hs p) := by
  unfold ha
  rw [List.getD_eq_getElem?_getD, List.getElem?_eq_getElem h]
  rfl
structure HoldsOk (ls : List (List Nat)) (hs : List (Option Nat)) : Prop where
  len : hs.length = ls.length
  on : ∀ p j, ha hs p = some j → p < ls.length ∧ j ∈ la ls p
def most (ls : List (List Nat)) (hs : List (Option Nat)) (p : Nat) : Nat := rkN (la ls p) (ha hs p)
def spIsWished (C : Addr) : Sp := fun vs H Q _ => ∃ (wi : Addr) (ns ls : List (List Nat)) (p o : Nat), vs = [.ref wi, .int p, .int o] ∧ WAt C H wi ns ls ∧ p < ls.length ∧ o < ls.length ∧ Q (.bl (decide (o ∈ la ls p))) H
theorem scIsWished : FnScope ["wishes", "person", "other"] ["wishes", "person", "other"] (defScope sIsWished) := ⟨rfl, rfl, rfl, by decide +kernel, rfl, by decide +kernel, by decide +kernel⟩
def spRankOf (C : Addr) : Sp := fun vs H Q _ => ∃ (wi : Addr) (ns ls : List (List Nat)) (p : Nat) (o : Option Nat), vs = [.ref wi, .int p, hv o] ∧ WAt C H wi ns ls ∧ p < ls.length ∧ (∀ j, o = some j → j < ls.length) ∧ Q (rkO (la ls p) o) H
theorem scRankOf : FnScope ["wishes", "person", "other"] ["wishes", "person", "other"] (defScope sRankOf) := ⟨rfl, rfl, rfl, by decide +kernel, rfl, by decide +kernel, by decide +kernel⟩
def spRanksIn (C : Addr) : Sp := fun vs H Q _ => ∃ (wi : Addr) (ns ls : List (List Nat)), vs = [.ref wi] ∧ WAt C H wi ns ls ∧ ∀ r, RT H r ls → Q (.ref r) H
theorem scRanksIn : FnScope ["wishes"] ["wishes"] (defScope sRanksIn) := ⟨rfl, rfl, rfl, by decide +kernel, rfl, by decide +kernel, by decide +kernel⟩
theorem hv_non (o : Option Nat) : decide (hv o = V.non) = o.isNone := by cases o <;> rfl
section
variable {P : Program} {w : World} {K : PySem.W.Frag} {mg : Str → Option Value} {base : Heap}
theorem ok_is_wished {f C : Addr} {fd : FuncData} {k : Nat} (F : Fun K "is_wished" "is_wished" sIsWished f fd) (T : Txt K mg C) : FnOk P w K mg base CX0 (k + 1) f fd ["wishes", "person", "other"] (spIsWished C) := by
  refine F.ok scIsWished (fun vs H Q E h => ?_) (fun cdv A outer s H vs Q E hr h => ?_)
  · obtain ⟨wi, ns, ls, p, o, rfl, _⟩ := h
    rfl
  · obtain ⟨wi, ns, ls, p, o, rfl, W, hp, ho, q⟩ := h
    refine ⟨_, pss_one (ps_ret (pe_cmpR op_notN (pe_ix ix_tup (pe_ix ix_tup (pe_fld (pv 0) rfl) (pv 1) (fun _ _ => rfl)) (pv 2) (fun _ _ => rfl)) pe_non (nomark _))), ?_⟩
    obtain ⟨dx, n, l, r, e1, e2, e3, e4⟩ := W.ex
    obtain ⟨rows, c, er, ec, ev⟩ := e4.at (la_get hp)
    refine ⟨_, rfl, wi, C, dx, _, _, rfl, e1, T.cl, T.nR, wf_ranks n l r, _, rfl, r, rows, _, _, rfl, rfl, SqT.of er, atI_nat ec, _, rfl, c, _, _, _, rfl, rfl, SqT.of ev, atI_nat (VR_get ho), rfl, ?_⟩
    have e0 : (!decide (rkV (la ls p) o = V.non)) = decide (o ∈ la ls p) := by
      unfold rkV
      split
      · rename_i h
        rw [decide_eq_true h]
        rfl
      · rename_i h
        rw [decide_eq_false h]
        rfl
    show Q (.bl (!decide (rkV (la ls p) o = V.non))) H
    rw [e0]
    exact q
theorem ok_rank_of {f C : Addr} {fd : FuncData} {k : Nat} (F : Fun K "rank_of" "rank_of" sRankOf f fd) (T : Txt K mg C) (ml : mg "len" = none) : FnOk P w K mg base CX0 (k + 1) f fd ["wishes", "person", "other"] (spRankOf C) := by
  refine F.ok scRankOf (fun vs H Q E h => ?_) (fun cdv A outer s H vs Q E hr h => ?_)
  · obtain ⟨wi, ns, ls, p, o, rfl, _⟩ := h
    rfl
  · obtain ⟨wi, ns, ls, p, o, rfl, W, hp, ho, q⟩ := h
    refine ⟨_, pss_cons (ps_if (pt_cmpR op_isN (pv 2) pe_non (nomark _)) (pss_one (ps_ret (pe_callB call_len_seq (by rfl) ml PySem.boot_len (pa_cons (pe_ix ix_tup (pe_fld (pv 0) rfl) (pv 1) (fun _ _ => rfl)) pa_nil)))) pss_nil)
      (pss_one (ps_ret (pe_ix ix_tup (pe_ix ix_tup (pe_fld (pv 0) rfl) (pv 1) (fun _ _ => rfl)) (pv 2) (fun _ _ => rfl)))), ?_⟩
    obtain ⟨dx, n, l, r, e1, e2, e3, e4⟩ := W.ex
    refine ⟨_, rfl, rfl, _, rfl, ?_⟩
    cases o with
    | none =>
      refine iteT ?_
      obtain ⟨rows, c, er, ec, ev⟩ := e3.at (la_get hp)
      refine ⟨_, rfl, wi, C, dx, _, _, rfl, e1, T.cl, T.nL, wf_lists n l r, _, rfl, l, rows, _, _, rfl, rfl, SqT.of er, atI_nat ec, c, _, rfl, .inr ev.sq, ?_⟩
      rw [VI_len]
      exact q
    | some j =>
      refine iteF ?_
      obtain ⟨rows, c, er, ec, ev⟩ := e4.at (la_get hp)
      exact ⟨_, rfl, wi, C, dx, _, _, rfl, e1, T.cl, T.nR, wf_ranks n l r, _, rfl, r, rows, _, _, rfl, rfl, SqT.of er, atI_nat ec, _, rfl, c, _, _, _, rfl, rfl, SqT.of ev, atI_nat (VR_get (ho j rfl)), q⟩
theorem ok_ranks_in {f C : Addr} {fd : FuncData} {k : Nat} (F : Fun K "ranks_in" "ranks_in" sRanksIn f fd) (T : Txt K mg C) : FnOk P w K mg base CX0 (k + 1) f fd ["wishes"] (spRanksIn C) := by
  refine F.ok scRanksIn (fun vs H Q E h => ?_) (fun cdv A outer s H vs Q E hr h => ?_)
  · obtain ⟨wi, ns, ls, rfl, _⟩ := h
    rfl
  · obtain ⟨wi, ns, ls, rfl, W, q⟩ := h
    refine ⟨_, pss_one (ps_ret (pe_fld (pv 0) rfl)), ?_⟩
    obtain ⟨dx, n, l, r, e1, e2, e3, e4⟩ := W.ex
    exact ⟨_, rfl, wi, C, dx, _, _, rfl, e1, T.cl, T.nR, wf_ranks n l r, q r e4⟩
end
end K14
namespace K14
open PySem PySem.Spec PyProof.Rows L2
def mayV (n : Nat) (s : List Nat) : V → Bool
  | .non => true
  | .int i => decide (0 ≤ i) && decide (i < n) && decide (i.toNat ∈ s)
  | _ => false
def holdsV (H : Hp) (ls : List (List Nat)) (v : V) : Bool := match tupOf H v with
  | some xs => decide (xs.length = ls.length) && (List.range xs.length).all fun i => mayV ls.length (la ls i) (xs.getD i .non)
  | none => false
def spMayHold (C : Addr) : Sp := fun vs H Q _ => ∃ (wi : Addr) (ns ls : List (List Nat)) (p : Nat) (v : V), vs = [.ref wi, .int p, v] ∧ WAt C H wi ns ls ∧ p < ls.length ∧ Pl H v ∧ Q (.bl (mayV ls.length (la ls p) v)) H
theorem scMayHold : FnScope ["wishes", "person", "held"] ["wishes", "person", "held"] (defScope sMayHold) := ⟨rfl, rfl, rfl, by decide +kernel, rfl, by decide +kernel, by decide +kernel⟩
def spAreHolds (C : Addr) : Sp := fun vs H Q _ => ∃ (wi : Addr) (ns ls : List (List Nat)) (v : V), vs = [.ref wi, v] ∧ WAt C H wi ns ls ∧ Pl H v ∧ (∀ xs, tupOf H v = some xs → xs.length ≤ 1000 ∧ ∀ x ∈ xs, Pl H x) ∧ ∀ H', Same H H' → Q (.bl (holdsV H ls v)) H'
theorem scAreHolds : FnScope ["wishes", "value", "many", "person", "held"] ["wishes", "value"] (defScope sAreHolds) := ⟨rfl, rfl, rfl, by decide +kernel, rfl, by decide +kernel, by decide +kernel⟩
theorem Pl.same {H H' : Hp} {v : V} (p : Pl H v) (s : Same H H') : Pl H' v := by
  cases p with
  | non => exact .non
  | bl b => exact .bl b
  | int i => exact .int i
  | str s => exact .str s
  | lst e => exact .lst (s _ _ e)
  | tup e => exact .tup (s _ _ e)
theorem tupOf_some {H : Hp} {v : V} {xs : List V} (e : tupOf H v = some xs) : ∃ a, v = .ref a ∧ H a = some (.tup xs) := by
  unfold tupOf at e
  split at e
  · rename_i a
    split at e
    · rename_i ys h
      cases e
      exact ⟨a, rfl, h⟩
    · cases e
  · cases e
theorem bl_map (n : Nat) (g : Nat → Bool) : ((List.range n).map fun i => V.bl (g i)) = ((List.range n).map g).map V.bl := by simp
theorem all_map_id (n : Nat) (g : Nat → Bool) : ((List.range n).map g).all id = (List.range n).all g := by
  rw [List.all_map]
  rfl
section
variable {P : Program} {w : World} {K : PySem.W.Frag} {mg : Str → Option Value} {base : Heap}
theorem ok_may_hold {f fb fw C : Addr} {fd db dw : FuncData} {k : Nat} (F : Fun K "_may_hold" "_may_hold" sMayHold f fd) (T : Txt K mg C)
    (Gb : FnOk P w K mg base CX0 k fb db ["value", "bound"] spIsBelow) (bb : Binds K db ["value", "bound"] []) (kb : PySem.W.keepIn K (.ref fb) = true) (mb : mg "is_below" = some (.ref fb))
    (Gw : FnOk P w K mg base CX0 k fw dw ["wishes", "person", "other"] (spIsWished C)) (bw : Binds K dw ["wishes", "person", "other"] []) (kw : PySem.W.keepIn K (.ref fw) = true) (mw : mg "is_wished" = some (.ref fw)) (ml : mg "len" = none) : FnOk P w K mg base CX0 (k + 1) f fd ["wishes", "person", "held"] (spMayHold C) := by
  refine F.ok scMayHold (fun vs H Q E h => ?_) (fun cdv A outer s H vs Q E hr h => ?_)
  · obtain ⟨wi, ns, ls, p, v, rfl, _⟩ := h
    rfl
  · obtain ⟨wi, ns, ls, p, v, rfl, W, hp, pl, q⟩ := h
    refine ⟨_, pss_one (ps_ret (pe_or (pe_cmpR op_isN (pv 2) pe_non (nomark _)) (pe_one (pe_and (pe_call Gb hr rfl mb kb bb .nil pass0 (pa_cons (pv 2) (pa_cons (pe_callB call_len_seq (by rfl) ml PySem.boot_len (pa_cons (pe_fld (pv 0) rfl) pa_nil)) pa_nil))) (pe_one (pe_call Gw hr rfl mw kw bw .nil pass0 (pa_cons (pv 0) (pa_cons (pv 1) (pa_cons (pv 2) pa_nil))))))))), ?_⟩
    obtain ⟨dx, n, l, r, e1, e2, e3, e4⟩ := W.ex
    have ln : (VN ns).length = ls.length := by rw [VN_len, W.nok.len]
    refine ⟨_, rfl, rfl, decide (v = .non), rfl, ?_⟩
    have go : v ≠ .non → mayV ls.length (la ls p) v = (isBel v ls.length && (match v with | .int i => decide (i.toNat ∈ la ls p) | _ => false)) := by
      intro ne
      cases v <;> first | rfl | exact absurd rfl ne
    by_cases c : v = .non
    · subst c
      exact iteT q
    · rw [decide_eq_false c]
      refine iteF ?_
      refine ⟨_, rfl, _, rfl, wi, C, dx, _, _, rfl, e1, T.cl, T.nN, wf_names n l r, n, _, rfl, .inr (SqT.of e2), v, ls.length, by rw [ln]; rfl, pl, isBel v ls.length, rfl, ?_⟩
      rw [go c] at q
      cases hb : isBel v ls.length with
      | false =>
        rw [hb] at q
        exact iteF q
      | true =>
        rw [hb] at q
        refine iteT ?_
        cases v with
        | int i =>
          have hi : 0 ≤ i ∧ i < ls.length := by simpa [isBel] using hb
          obtain ⟨j, rfl⟩ : ∃ j : Nat, i = (j : Int) := ⟨i.toNat, by omega⟩
          exact ⟨_, rfl, _, rfl, _, rfl, wi, ns, ls, p, j, rfl, W, hp, by omega, q⟩
        | non => cases hb
        | bl b => cases hb
        | str s => cases hb
        | ref a => cases hb
        | byt b => cases hb
        | flt b => cases hb
        | ty n => cases hb
theorem ok_are_holds {f ft fm C : Addr} {fd dt dm : FuncData} {k : Nat} (F : Fun K "are_holds" "are_holds" sAreHolds f fd) (T : Txt K mg C)
    (Gt : FnOk P w K mg base CX0 k ft dt ["value", "many"] spIsTupleOf) (bt : Binds K dt ["value", "many"] []) (kt : PySem.W.keepIn K (.ref ft) = true) (mt : mg "is_tuple_of" = some (.ref ft))
    (Gm : FnOk P w K mg base CX0 k fm dm ["wishes", "person", "held"] (spMayHold C)) (bm : Binds K dm ["wishes", "person", "held"] []) (km : PySem.W.keepIn K (.ref fm) = true) (mm : mg "_may_hold" = some (.ref fm)) (ml : mg "len" = none) (ma : mg "all" = none) (me : mg "enumerate" = none) : FnOk P w K mg base CX0 (k + 1) f fd ["wishes", "value"] (spAreHolds C) := by
  refine F.ok scAreHolds (fun vs H Q E h => ?_) (fun cdv A outer s H vs Q E hr h => ?_)
  · obtain ⟨wi, ns, ls, v, rfl, _⟩ := h
    rfl
  · obtain ⟨wi, ns, ls, v, rfl, W, pl, its, q⟩ := h
    refine ⟨_, pss_cons (ps_set (i := 2) scAreHolds.nd rfl (.inl rfl) (pe_callB call_len_seq (by rfl) ml PySem.boot_len (pa_cons (pe_fld (pv 0) rfl) pa_nil)))
      (pss_cons (ps_if (pt_not (pt_val (pe_call Gt hr rfl mt kt bt .nil pass0 (pa_cons (pv 1) (pa_cons (pv 2) pa_nil))))) (pss_one (ps_ret pe_bl)) pss_nil)
      (pss_one (ps_ret (pe_callB (cr_all rfl) (by rfl) ma (by decide +kernel) (pa_cons (pe_lc (own := [("person", 3), ("held", 4)]) (tt := tYes) rfl scAreHolds.nd (pi_enumT (by rfl) me (pa_cons (pv 1) pa_nil))
          (blkOk_by (own := [("person", 3), ("held", 4)]) (N := ["wishes", "value", "many", "person", "held"]) (sc := defScope sAreHolds) (by decide +kernel)) (g := gTup K 2 (gCons (gName 3) (gCons (gName 4) gNil))) (fun _ _ _ _ _ => pg_tup rfl (pgs_cons (pg_name (i := 3) scAreHolds.nd rfl (Or.inl rfl)) (pgs_cons (pg_name (i := 4) scAreHolds.nd rfl (Or.inl rfl)) pgs_nil))) (fun _ _ _ _ _ => pts_nil)
          (fun _ _ _ _ _ => pe_call Gm hr rfl mm km bm .nil pass0 (pa_cons (pv 0) (pa_cons (pv 3) (pa_cons (pv 4) pa_nil))))) pa_nil))))), ?_⟩
    obtain ⟨dx, n, l, r, e1, e2, e3, e4⟩ := W.ex
    have ln : (VN ns).length = ls.length := by rw [VN_len, W.nok.len]
    refine ⟨_, rfl, wi, C, dx, _, _, rfl, e1, T.cl, T.nN, wf_names n l r, n, _, rfl, .inr (SqT.of e2), ?_⟩
    rw [ln]
    have bnd : ∀ xs, tupOf H v = some xs → xs.length ≤ 100000 := fun xs e => by
      have := (its xs e).1
      omega
    unfold holdsV at q
    cases tv : tupOf H v with
    | none =>
      rw [tv] at q
      refine ⟨_, rfl, _, rfl, v, ls.length, rfl, pl, bnd, false, congrArg V.bl (by rw [tv]), ?_⟩
      exact iteT (q H same_rfl)
    | some xs =>
      rw [tv] at q
      dsimp only at q ⊢
      by_cases c : xs.length = ls.length
      · rw [decide_eq_true c] at q
        refine ⟨_, rfl, _, rfl, v, ls.length, rfl, pl, bnd, true, congrArg V.bl (by rw [tv]; exact decide_eq_true c), iteF ?_⟩
        obtain ⟨a, rfl, ea⟩ := tupOf_some tv
        refine ⟨_, rfl, a, xs, rfl, SqT.of ea, fun D nD => ?_⟩
        refine lc_same (walk_enumT (K := K) (a := a) (xs := xs)) (bnd xs tv) (fun i => .bl (mayV ls.length (la ls i) (xs.getD i .non))) nD (fun _ sm => SqT.of (sm _ _ ea)) ?_ ?_
        · rintro i x H1 H2 Z out hi sm ⟨U, x0, x1, rfl, nU, rfl, y1, y2⟩
          cases y1
          have s2 : Same H1 (upd H1 U (.tup [.int (i : Nat), x1])) := same_upd nU
          have hx : xs.getD i .non = x1 := by rw [List.getD_eq_getElem?_getD, show xs[i]? = some x1 from y2]; rfl
          refine ⟨U, _, rfl, SqT.of upd_same, rfl, _, _, rfl, gn ⟨_, _, rfl, gn ⟨rfl, rfl, ?_⟩⟩⟩
          refine ⟨_, rfl, _, rfl, _, rfl, wi, ns, ls, i, x1, rfl, (W.same sm).same s2, by omega, (((its xs tv).2 x1 (List.mem_of_getElem? y2)).same sm).same s2, ?_⟩
          have o2 : Z (.bl (mayV ls.length (la ls i) (xs.getD i .non))) _ := out _ s2
          rw [hx] at o2
          exact o2
        · intro H1 sm e5
          refine ⟨D, _, rfl, SqL.of (by rw [e5, bl_map]), ?_⟩
          rw [all_map_id]
          exact q _ sm
      · rw [decide_eq_false c] at q
        refine ⟨_, rfl, _, rfl, v, ls.length, rfl, pl, bnd, false, congrArg V.bl (by rw [tv]; exact decide_eq_false c), ?_⟩
        exact iteT (q H same_rfl)
end
end K14
namespace K14
open PySem PySem.Spec PyProof.Rows L2
section
variable {J : It} {n : Nat} {G : Hp → Prop} {Y : Nat → Hp → V → Hp → Prop}
/-- a comprehension of new tuples, that leaves all else as it stood -/
theorem lc_rows (w : Walk J n G Y) {g : TG} {te : TE} {vs : List Nat} {σ : L2.St} {H0 : Hp} {D : Addr} {Qd : Hp → Prop} (hn : n ≤ 100000) (X : Nat → List V) (nD : H0 D = none) (hG : ∀ H, Same H0 H → G H)
    (hs : ∀ (i : Nat) (x : V) (H H' : Hp) (Z : V → Hp → Prop), (∀ r H3, Same H H3 → H3 r = some (.tup (X i)) → Z (.ref r) H3) → i < n → Same H0 H → Y i H x H' → g x (wipe σ vs) H' fun σ2 H2 => wipe σ2 vs = wipe σ vs ∧ te σ2 H2 Z)
    (hd : ∀ (rs : List Addr) H, Same H0 H → H D = some (.lst (rs.map V.ref)) → rs.length = n → (∀ (j : Nat) (r : Addr), rs[j]? = some r → H r = some (.tup (X j))) → Qd H) :
    ∃ W : Nat → Nat → Hp → Prop, (∃ m, W 0 m (upd H0 D (.lst []))) ∧ ∀ i m H, W i m H →
      (J.stop i H ∧ Qd H) ∨ (J.go i H ∧ ∃ Nx : Hp → Prop, (∀ H', Nx H' → ∃ m', m' < m ∧ W (i + 1) m' H') ∧ ∀ x H', J.yld i H x H' → g x (wipe σ vs) H' fun σ2 H2 => wipe σ2 vs = wipe σ vs ∧ tYes σ2 H2 fun b H3 =>
        if b = true then te σ2 H3 fun y H4 => ∃ acc, H4 D = some (.lst acc) ∧ acc.length < sizeLine ∧ Nx (upd H4 D (.lst (acc ++ [y]))) else Nx H3) := by
  refine lc_it w (fun i H => ∃ rs : List Addr, Same H0 H ∧ H D = some (.lst (rs.map V.ref)) ∧ rs.length = i ∧ ∀ (j : Nat) (r : Addr), rs[j]? = some r → H r = some (.tup (X j))) ⟨[], same_upd nD, upd_same, rfl, fun _ _ e => by simp at e⟩ (fun i H _ ⟨_, h, _⟩ => hG H h) (fun i x H H' hi ⟨rs, sm, eD, rl, old⟩ y => ?_) (fun H ⟨rs, sm, eD, rl, old⟩ => hd rs H sm eD rl old)
  refine hs i x H H' (fun v H3 => ∃ acc, H3 D = some (.lst acc) ∧ acc.length < sizeLine ∧ (fun H => ∃ rs : List Addr, Same H0 H ∧ H D = some (.lst (rs.map V.ref)) ∧ rs.length = i + 1 ∧ ∀ (j : Nat) (r : Addr), rs[j]? = some r → H r = some (.tup (X j))) (upd H3 D (.lst (acc ++ [v])))) (fun r H3 s3 er => ?_) hi sm y
  have eD3 := s3 _ _ eD
  refine ⟨_, eD3, ?_, rs ++ [r], (sm.trans s3).fresh nD, by rw [upd_same]; simp, by simp [rl], ?_⟩
  · rw [List.length_map, rl]
    exact sz6' (by omega)
  · intro j q e
    have ne : ∀ q xs, H3 q = some (.tup xs) → q ≠ D := fun q xs e z => by
      rw [z, eD3] at e
      cases e
    by_cases c : j < rs.length
    · rw [List.getElem?_append_left c] at e
      have e7 := s3 _ _ (old j q e)
      rw [upd_ne (ne _ _ e7)]
      exact e7
    · rw [List.getElem?_append_right (by omega), List.getElem?_singleton] at e
      split at e
      · cases e
        have : j = i := by omega
        subst this
        rw [upd_ne (ne _ _ er)]
        exact er
      · cases e
end
def VM (ls : List (List Nat)) (hs : List (Option Nat)) : List V := (List.range ls.length).map fun p => V.int (most ls hs p : Nat)
theorem VM_get {ls : List (List Nat)} {hs : List (Option Nat)} {p : Nat} (h : p < ls.length) : (VM ls hs)[p]? = some (.int (most ls hs p : Nat)) := by simp [VM, h]
/-- the ranks of those held, in a tuple or in a list -/
def VMat (H : Hp) (m : Addr) (ls : List (List Nat)) (hs : List (Option Nat)) : Prop := H m = some (.tup (VM ls hs)) ∨ H m = some (.lst (VM ls hs))
theorem VMat.same {H H' : Hp} {m : Addr} {ls : List (List Nat)} {hs : List (Option Nat)} (v : VMat H m ls hs) (s : Same H H') : VMat H' m ls hs := v.imp (s _ _) (s _ _)
theorem rIx_vm {K : PySem.W.Frag} {H : Hp} {m : Addr} {ls : List (List Nat)} {hs : List (Option Nat)} {p : Nat} {Q : VK} (v : VMat H m ls hs) (hp : p < ls.length) (q : Q (.int (most ls hs p : Nat)) H) : rIx K (.ref m) (.int (p : Nat)) H Q := by
  rcases v with e | e
  · exact .inr (.inl ⟨m, _, _, _, rfl, rfl, SqT.of e, atI_nat (VM_get hp), q⟩)
  · exact .inl ⟨m, _, _, _, rfl, rfl, SqL.of e, atI_nat (VM_get hp), q⟩
def keepF (ls : List (List Nat)) (hs : List (Option Nat)) (p o : Nat) : Bool := decide ((la ls o).idxOf p ≤ most ls hs o)
def leftL (ls : List (List Nat)) (hs : List (Option Nat)) (p : Nat) : List Nat := ((la ls p).take (most ls hs p + 1)).filter (keepF ls hs p)
def leftA (ls : List (List Nat)) (hs : List (Option Nat)) : List (List Nat) := (List.range ls.length).map (leftL ls hs)
theorem slA {K : PySem.W.Frag} {H : Hp} {a : Addr} {s : List Nat} {m : Nat} {Q : VK} (e : Tp H a (VI s)) (q : ∀ b H', Same H H' → Tp H' b (VI (s.take (m + 1))) → Q (.ref b) H') : rSlA K (.ref a) none (some ((m : Nat) + 1 : Int)) H Q := by
  have ek : HT.sIx (VI s).length (VI s).length (some ((m : Nat) + 1 : Int)) = min (m + 1) (VI s).length := HT.sIx_nat _ _ (m + 1)
  have e0 : HT.sIx (VI s).length 0 none = 0 := HT.sIx_none _ _
  refine ⟨a, VI s, rfl, e.sq, fun h => ?_, fun h p np => ?_⟩
  · have hm : (VI s).length ≤ m + 1 := by
      have := h.2
      rw [ek] at this
      omega
    rw [VI_len] at hm
    refine q a H same_rfl ?_
    rw [List.take_of_length_le hm]
    exact e
  · refine q p _ (same_upd np) (.inl ?_)
    rw [upd_same]
    unfold cutV
    rw [e0, ek, List.drop_zero, Nat.sub_zero]
    congr 2
    unfold VI
    rw [List.length_map, List.map_take]
    by_cases c : m + 1 ≤ s.length
    · rw [Nat.min_eq_left c]
    · rw [Nat.min_eq_right (by omega), List.take_of_length_le (by simp), List.take_of_length_le (by simp; omega)]
def spHeldRanks (C : Addr) : Sp := fun vs H Q _ => ∃ (wi b : Addr) (ns ls : List (List Nat)) (hs : List (Option Nat)), vs = [.ref wi, .ref b] ∧ WAt C H wi ns ls ∧ H b = some (.tup (VH hs)) ∧ HoldsOk ls hs ∧ ∀ r H', Same H H' → H' r = some (.tup (VM ls hs)) → Q (.ref r) H'
theorem scHeldRanks : FnScope ["wishes", "holds", "person", "held"] ["wishes", "holds"] (defScope sHeldRanks) := ⟨rfl, rfl, rfl, by decide +kernel, rfl, by decide +kernel, by decide +kernel⟩
def spLeftList (C : Addr) : Sp := fun vs H Q _ => ∃ (wi m : Addr) (ns ls : List (List Nat)) (hs : List (Option Nat)) (p : Nat), vs = [.ref wi, .ref m, .int p] ∧ WAt C H wi ns ls ∧ H m = some (.tup (VM ls hs)) ∧ p < ls.length ∧ ∀ r H', Same H H' → H' r = some (.tup (VI (leftL ls hs p))) → Q (.ref r) H'
def spLeftLists (C : Addr) : Sp := fun vs H Q _ => ∃ (wi b : Addr) (ns ls : List (List Nat)) (hs : List (Option Nat)), vs = [.ref wi, .ref b] ∧ WAt C H wi ns ls ∧ H b = some (.tup (VH hs)) ∧ HoldsOk ls hs ∧ ∀ r H', Same H H' → LT H' r (leftA ls hs) → Q (.ref r) H'
def spFirstLeft (C : Addr) : Sp := fun vs H Q _ => ∃ (wi m : Addr) (ns ls : List (List Nat)) (hs : List (Option Nat)) (p : Nat), vs = [.ref wi, .ref m, .int p] ∧ WAt C H wi ns ls ∧ VMat H m ls hs ∧ p < ls.length ∧ ∀ H', Same H H' → Q (hv (leftL ls hs p).head?) H'
theorem scFirstLeft : FnScope ["wishes", "most", "person", "ranks", "other"] ["wishes", "most", "person"] (defScope sFirstLeft) := ⟨rfl, rfl, rfl, by decide +kernel, rfl, by decide +kernel, by decide +kernel⟩
def firsts (ls : List (List Nat)) (hs : List (Option Nat)) : List (Option Nat) := (List.range ls.length).map fun p => (leftL ls hs p).head?
def spFirstsLeft (C : Addr) : Sp := fun vs H Q _ => ∃ (wi b : Addr) (ns ls : List (List Nat)) (hs : List (Option Nat)), vs = [.ref wi, .ref b] ∧ WAt C H wi ns ls ∧ H b = some (.tup (VH hs)) ∧ HoldsOk ls hs ∧ ∀ r H', Same H H' → H' r = some (.tup (VH (firsts ls hs))) → Q (.ref r) H'
theorem scFirstsLeft : FnScope ["wishes", "holds", "most", "person"] ["wishes", "holds"] (defScope sFirstsLeft) := ⟨rfl, rfl, rfl, by decide +kernel, rfl, by decide +kernel, by decide +kernel⟩
section
variable {P : Program} {w : World} {K : PySem.W.Frag} {mg : Str → Option Value} {base : Heap}
theorem ok_held_ranks {f fr C : Addr} {fd dr : FuncData} {k : Nat} (F : Fun K "held_ranks" "held_ranks" sHeldRanks f fd)
    (Gr : FnOk P w K mg base CX0 k fr dr ["wishes", "person", "other"] (spRankOf C)) (br : Binds K dr ["wishes", "person", "other"] []) (kr : PySem.W.keepIn K (.ref fr) = true) (mr : mg "rank_of" = some (.ref fr)) (mt : mg "tuple" = none) (me : mg "enumerate" = none) : FnOk P w K mg base CX0 (k + 1) f fd ["wishes", "holds"] (spHeldRanks C) := by
  refine F.ok scHeldRanks (fun vs H Q E h => ?_) (fun cdv A outer s H vs Q E hr h => ?_)
  · obtain ⟨wi, b, ns, ls, hs, rfl, _⟩ := h
    rfl
  · obtain ⟨wi, b, ns, ls, hs, rfl, W, eb, ho, q⟩ := h
    refine ⟨_, pss_one (ps_ret (pe_callTy call_tuple_of (by rfl) mt (by decide +kernel) (pa_cons (pe_lc (own := [("person", 2), ("held", 3)]) (tt := tYes) rfl scHeldRanks.nd (pi_enumT (by rfl) me (pa_cons (pv 1) pa_nil))
          (blkOk_by (own := [("person", 2), ("held", 3)]) (N := ["wishes", "holds", "person", "held"]) (sc := defScope sHeldRanks) (by decide +kernel)) (g := gTup K 2 (gCons (gName 2) (gCons (gName 3) gNil))) (fun _ _ _ _ _ => pg_tup rfl (pgs_cons (pg_name (i := 2) scHeldRanks.nd rfl (Or.inl rfl)) (pgs_cons (pg_name (i := 3) scHeldRanks.nd rfl (Or.inl rfl)) pgs_nil))) (fun _ _ _ _ _ => pts_nil)
          (fun _ _ _ _ _ => pe_call Gr hr rfl mr kr br .nil pass0 (pa_cons (pv 0) (pa_cons (pv 2) (pa_cons (pv 3) pa_nil))))) pa_nil))), ?_⟩
    refine ⟨_, rfl, b, _, rfl, SqT.of eb, fun D nD => ?_⟩
    have n60 := W.n60.2
    refine lc_same (walk_enumT (K := K) (a := b) (xs := VH hs)) (by rw [VH_len, ho.len]; omega) (fun i => .int (most ls hs i : Nat)) nD (fun _ sm => SqT.of (sm _ _ eb)) ?_ ?_
    · rintro i x H1 H2 Z out hi sm ⟨U, x0, x1, rfl, nU, rfl, y1, y2⟩
      cases y1
      have s2 : Same H1 (upd H1 U (.tup [.int (i : Nat), x1])) := same_upd nU
      rw [VH_len] at hi
      have il : i < ls.length := by rw [← ho.len]; exact hi
      have y3 : (VH hs)[i]? = some x1 := y2
      rw [VH_get (ha_get hi)] at y3
      cases y3
      refine ⟨U, _, rfl, SqT.of upd_same, rfl, _, _, rfl, gn ⟨_, _, rfl, gn ⟨rfl, rfl, ?_⟩⟩⟩
      refine ⟨_, rfl, _, rfl, _, rfl, wi, ns, ls, i, ha hs i, rfl, (W.same sm).same s2, il, fun j ej => ?_, ?_⟩
      · exact (W.ok.both i _ j (la_get il) (ho.on i j ej).2).1
      · rw [rkO_N fun j ej => (ho.on i j ej).2]
        exact out _ s2
    · intro H1 sm e5
      refine ⟨D, _, rfl, .inl ⟨SqL.of e5, fun r nr => q r _ (sm.fresh (sm.free nr)) ?_⟩⟩
      rw [upd_same, VH_len, ho.len]
      rfl
end
end K14
namespace K14
open PySem PySem.Spec PyProof.Rows L2
theorem head_at {f : Nat → Bool} {xs : List Nat} {i o : Nat} (e : xs[i]? = some o) (no : (xs.take i).filter f = []) (c : f o = true) : (xs.filter f).head? = some o := by
  have h : xs = xs.take i ++ (o :: xs.drop (i + 1)) := by
    have hi := (List.getElem?_eq_some_iff.mp e)
    obtain ⟨hl, rfl⟩ := hi
    rw [List.getElem_cons_drop, List.take_append_drop]
  rw [h, List.filter_append, no, List.nil_append, List.filter_cons, if_pos c]
  rfl
def hitB (xs : List (Option Nat)) (o : Option Nat) (p : Nat) : Bool := match o with
  | none => true
  | some j => decide (ha xs j = some p)
def steadyB (ls : List (List Nat)) (hs : List (Option Nat)) : Bool :=
  ((List.range ls.length).all fun p => hitB (firsts ls hs) (ha hs p) p) && ((List.range ls.length).all fun p => hitB hs (ha (firsts ls hs) p) p)
def spIsSteady (C : Addr) : Sp := fun vs H Q _ => ∃ (wi : Addr) (ns ls : List (List Nat)) (v : V), vs = [.ref wi, v] ∧ WAt C H wi ns ls ∧ Pl H v ∧ (∀ xs, tupOf H v = some xs → xs.length ≤ 1000 ∧ ∀ x ∈ xs, Pl H x) ∧
  (holdsV H ls v = false → ∀ H', Same H H' → Q (.bl false) H') ∧ (∀ hs, tupOf H v = some (VH hs) → HoldsOk ls hs → ∀ H', Same H H' → Q (.bl (steadyB ls hs)) H')
theorem scIsSteady : FnScope ["wishes", "value", "firsts", "kept", "person", "held", "first"] ["wishes", "value"] (defScope sIsSteady) := ⟨rfl, rfl, rfl, by decide +kernel, rfl, by decide +kernel, by decide +kernel⟩
def withinB (ls : List (List Nat)) (h1 h2 : List (Option Nat)) : Bool := (List.range ls.length).all fun p => decide (most ls h1 p ≤ most ls h2 p)
def spAreWithin (C : Addr) : Sp := fun vs H Q _ => ∃ (wi a b : Addr) (ns ls : List (List Nat)) (h1 h2 : List (Option Nat)), vs = [.ref wi, .ref a, .ref b] ∧ WAt C H wi ns ls ∧ H a = some (.tup (VH h1)) ∧ H b = some (.tup (VH h2)) ∧ HoldsOk ls h1 ∧ HoldsOk ls h2 ∧ ∀ H', Same H H' → Q (.bl (withinB ls h1 h2)) H'
def spLeftWishes (C : Addr) : Sp := fun vs H Q _ => ∃ (wi b : Addr) (ns ls : List (List Nat)) (hs : List (Option Nat)), vs = [.ref wi, .ref b] ∧ WAt C H wi ns ls ∧ H b = some (.tup (VH hs)) ∧ HoldsOk ls hs ∧ ∀ r H', Same H H' → WAt C H' r ns (leftA ls hs) → Q (.ref r) H'
theorem firsts_len (ls : List (List Nat)) (hs : List (Option Nat)) : (firsts ls hs).length = ls.length := by simp [firsts]
theorem leftA_len (ls : List (List Nat)) (hs : List (Option Nat)) : (leftA ls hs).length = ls.length := by simp [leftA]
/-- the lists left are lists both ways -/
theorem la_of {ls : List (List Nat)} {p : Nat} {t : List Nat} (e : ls[p]? = some t) : la ls p = t := by
  unfold la
  rw [List.getD_eq_getElem?_getD, e]
  rfl
theorem ListsOk.mate {n : Nat} {ls : List (List Nat)} (ok : ListsOk n ls) {p o : Nat} (hp : p < n) (h : o ∈ la ls p) : o < n ∧ o ≠ p ∧ p ∈ K14.la ls o := by
  obtain ⟨h1, h2, t, et, hm⟩ := ok.both p _ o (la_get (by rw [ok.len]; exact hp)) h
  exact ⟨h1, h2, by rw [la_of et]; exact hm⟩
theorem ListsOk.nda {n : Nat} {ls : List (List Nat)} (ok : ListsOk n ls) {p : Nat} (hp : p < n) : (la ls p).Nodup := ok.nd p _ (la_get (by rw [ok.len]; exact hp))
theorem mem_take_idx {s : List Nat} (nd : s.Nodup) {m o : Nat} : o ∈ s.take (m + 1) ↔ o ∈ s ∧ s.idxOf o ≤ m := by
  constructor
  · intro h
    have hs := List.mem_of_mem_take h
    refine ⟨hs, ?_⟩
    obtain ⟨k, hk, ek⟩ := List.mem_iff_getElem.mp h
    rw [List.getElem_take] at ek
    rw [List.length_take] at hk
    have hl := List.idxOf_lt_length_of_mem hs
    have e1 : s[s.idxOf o]? = some o := by rw [List.getElem?_eq_getElem hl, List.getElem_idxOf]
    have e2 : s[k]? = some o := by rw [List.getElem?_eq_getElem (by omega), ek]
    have := nodup_ix nd e1 e2
    omega
  · rintro ⟨h, hm⟩
    have hl := List.idxOf_lt_length_of_mem h
    rw [List.mem_iff_getElem]
    refine ⟨s.idxOf o, by rw [List.length_take]; omega, ?_⟩
    rw [List.getElem_take, List.getElem_idxOf]
theorem mem_left {n : Nat} {ls : List (List Nat)} (ok : ListsOk n ls) {hs : List (Option Nat)} {p : Nat} (hp : p < n) {o : Nat} : o ∈ leftL ls hs p ↔ o ∈ la ls p ∧ (la ls p).idxOf o ≤ most ls hs p ∧ (la ls o).idxOf p ≤ most ls hs o := by
  unfold leftL keepF
  rw [List.mem_filter, mem_take_idx (ok.nda hp), decide_eq_true_eq, and_assoc]
theorem leftA_at {ls : List (List Nat)} {hs : List (Option Nat)} {p : Nat} {t : List Nat} (e : (leftA ls hs)[p]? = some t) : p < ls.length ∧ t = leftL ls hs p := by
  unfold leftA at e
  rw [List.getElem?_map] at e
  by_cases c : p < ls.length
  · rw [List.getElem?_range c] at e
    exact ⟨c, (Option.some.inj e).symm⟩
  · rw [List.getElem?_eq_none (by simpa using c)] at e
    cases e
theorem leftA_ok {n : Nat} {ls : List (List Nat)} (ok : ListsOk n ls) (hs : List (Option Nat)) : ListsOk n (leftA ls hs) := by
  refine ⟨by rw [leftA_len, ok.len], fun i s e => ?_, fun i s j e hj => ?_⟩
  · obtain ⟨h1, rfl⟩ := leftA_at e
    rw [ok.len] at h1
    unfold leftL
    exact List.Pairwise.filter _ ((List.take_sublist _ _).nodup (ok.nda h1))
  · obtain ⟨h1, rfl⟩ := leftA_at e
    rw [ok.len] at h1
    obtain ⟨a1, a2, a3⟩ := (mem_left ok h1).mp hj
    obtain ⟨b1, b2, b3⟩ := ok.mate h1 a1
    refine ⟨b1, b2, leftL ls hs j, ?_, (mem_left ok b1).mpr ⟨b3, a3, a2⟩⟩
    unfold leftA
    rw [List.getElem?_map, List.getElem?_range (by rw [ok.len]; exact b1)]
    rfl
section
variable {P : Program} {w : World} {K : PySem.W.Frag} {mg : Str → Option Value} {base : Heap}
theorem ok_first_left {f fr C : Addr} {fd dr : FuncData} {k : Nat} (F : Fun K "first_left" "first_left" sFirstLeft f fd) (T : Txt K mg C)
    (Gr : FnOk P w K mg base CX0 k fr dr ["wishes"] (spRanksIn C)) (br : Binds K dr ["wishes"] []) (kr : PySem.W.keepIn K (.ref fr) = true) (mr : mg "ranks_in" = some (.ref fr)) : FnOk P w K mg base CX0 (k + 1) f fd ["wishes", "most", "person"] (spFirstLeft C) := by
  refine F.ok scFirstLeft (fun vs H Q E h => ?_) (fun cdv A outer s H vs Q E hr h => ?_)
  · obtain ⟨wi, m, ns, ls, hs, p, rfl, _⟩ := h
    rfl
  · obtain ⟨wi, m, ns, ls, hs, p, rfl, W, em, hp, q⟩ := h
    refine ⟨_, pss_cons (ps_set (i := 3) scFirstLeft.nd rfl (.inl rfl) (pe_call Gr hr rfl mr kr br .nil pass0 (pa_cons (pv 0) pa_nil)))
      (pss_cons (ps_for PassesOwn.never rfl (pi_tup (pe_slice sl_tupA (pe_ix ix_tup (pe_fld (pv 0) rfl) (pv 2) (fun _ _ => rfl)) po_none (po_some (pe_op op_add (pe_ix ix_seq (pv 1) (pv 2) (fun _ _ => rfl)) pe_int)))) (pg_name (i := 4) scFirstLeft.nd rfl (.inl rfl))
        (pss_one (ps_if (pt_cmpR op_le (pe_ix ix_tup (pe_ix ix_tup (pv 3) (pv 4) (fun _ _ => rfl)) (pv 2) (fun _ _ => rfl)) (pe_ix ix_seq (pv 1) (pv 4) (fun _ _ => rfl)) (nomark _)) (pss_one (ps_ret (pv 4))) pss_nil)))
      (pss_one (ps_ret pe_non))), ?_⟩
    obtain ⟨dx, n, l, r0, e1, e2, e3, e4⟩ := W.ex
    obtain ⟨rows, c, er, ec, ev⟩ := e3.at (la_get hp)
    refine ⟨_, rfl, wi, ns, ls, rfl, W, fun r rt => ?_⟩
    refine ⟨_, rfl, wi, C, dx, _, _, rfl, e1, T.cl, T.nL, wf_lists n l r0, _, rfl, l, rows, _, _, rfl, rfl, SqT.of er, atI_nat ec, _, rfl, _, rfl, rIx_vm em hp ⟨_, _, rfl, rfl, _, rfl, slA ev fun b H1 s1 eb => ?_⟩⟩
    refine ⟨b, rfl, ⟨_, eb.sq⟩, for_it (walk_tup (K := K) (a := b) (xs := VI ((la ls p).take (most ls hs p + 1)))) (fun i σ H' => H' = H1 ∧ (∃ y : Option V, σ = [some (.ref wi), some (.ref m), some (.int p), some (.ref r), y]) ∧ (((la ls p).take (most ls hs p + 1)).take i).filter (keepF ls hs p) = [])
      ⟨rfl, ⟨none, rfl⟩, by rw [List.take_zero]; rfl⟩ (fun i σ H' _ h => by rw [h.1]; exact eb.sq) ?_ ?_⟩
    · rintro i x σ H2 H3 hi ⟨rfl, ⟨y, rfl⟩, no⟩ ⟨rfl, ex⟩
      obtain ⟨o, eo, rfl⟩ := VI_at ex
      have ho := (mem_take_idx (W.ok.nda hp)).mp (List.mem_of_getElem? eo)
      obtain ⟨h1, _, h2⟩ := W.ok.mate hp ho.1
      obtain ⟨rows2, c2, er2, ec2, ev2⟩ := rt.at (la_get h1)
      have e6 : rkV (la ls o) p = .int ((la ls o).idxOf p : Nat) := by
        unfold rkV
        rw [if_pos h2]
      have e7 := VR_get (s := la ls o) hp
      rw [e6] at e7
      refine gn ?_
      dsimp only [List.set]
      refine ⟨_, rfl, _, rfl, r, rows2, _, _, rfl, rfl, SqT.of (s1 _ _ er2), atI_nat ec2, _, rfl, c2, _, _, _, rfl, rfl, SqT.of (s1 _ _ ev2), atI_nat e7, _, rfl, _, rfl, rIx_vm (em.same s1) h1 ⟨_, _, rfl, rfl, keepF ls hs p o, ?_, ?_⟩⟩
      · refine congrArg V.bl ?_
        unfold keepF
        rw [decide_eq_decide]
        omega
      · refine ite2 (fun c => ?_) (fun c => ?_)
        · refine ⟨_, rfl, ?_⟩
          have := head_at eo no c
          have hq := q _ s1
          unfold leftL at hq
          rw [this] at hq
          exact hq
        · refine ⟨rfl, ⟨_, rfl⟩, ?_⟩
          have tk : ((la ls p).take (most ls hs p + 1)).take (i + 1) = ((la ls p).take (most ls hs p + 1)).take i ++ [o] := by
            rw [List.take_succ, eo]
            rfl
          rw [tk, List.filter_append, no, List.nil_append, List.filter_cons, if_neg c, List.filter_nil]
    · rintro σ H2 ⟨rfl, ⟨y, rfl⟩, no⟩
      rw [VI_len, List.take_length] at no
      have hq := q _ s1
      unfold leftL at hq
      rw [no] at hq
      exact hq
theorem ok_firsts_left {f fr fl C : Addr} {fd dr dl : FuncData} {k : Nat} (F : Fun K "firsts_left" "firsts_left" sFirstsLeft f fd)
    (Gr : FnOk P w K mg base CX0 k fr dr ["wishes", "holds"] (spHeldRanks C)) (br : Binds K dr ["wishes", "holds"] []) (kr : PySem.W.keepIn K (.ref fr) = true) (mr : mg "held_ranks" = some (.ref fr))
    (Gl : FnOk P w K mg base CX0 k fl dl ["wishes", "most", "person"] (spFirstLeft C)) (bl : Binds K dl ["wishes", "most", "person"] []) (kl : PySem.W.keepIn K (.ref fl) = true) (mll : mg "first_left" = some (.ref fl))
    (mt : mg "tuple" = none) (ml : mg "len" = none) (mrg : mg "range" = none) : FnOk P w K mg base CX0 (k + 1) f fd ["wishes", "holds"] (spFirstsLeft C) := by
  refine F.ok scFirstsLeft (fun vs H Q E h => ?_) (fun cdv A outer s H vs Q E hr h => ?_)
  · obtain ⟨wi, b, ns, ls, hs, rfl, _⟩ := h
    rfl
  · obtain ⟨wi, b, ns, ls, hs, rfl, W, eb, ho, q⟩ := h
    refine ⟨_, pss_cons (ps_set (i := 2) scFirstsLeft.nd rfl (.inr rfl) (pe_call Gr hr rfl mr kr br .nil pass0 (pa_cons (pv 0) (pa_cons (pv 1) pa_nil))))
      (pss_one (ps_ret (pe_callTy call_tuple_of (by rfl) mt (by decide +kernel) (pa_cons (pe_lc (own := [("person", 3)]) (g := gName 3) (tt := tYes) rfl scFirstsLeft.nd (pi_range1 rfl mrg (pa_cons (pe_callB call_len_seq (by rfl) ml PySem.boot_len (pa_cons (pv 1) pa_nil)) pa_nil))
          (blkOk_by (own := [("person", 3)]) (N := ["wishes", "holds", "most", "person"]) (sc := defScope sFirstsLeft) (by decide +kernel)) (fun _ _ _ _ _ => pg_name (i := 3) scFirstsLeft.nd rfl (Or.inl rfl)) (fun _ _ _ _ _ => pts_nil)
          (fun _ _ _ _ _ => pe_call Gl hr rfl mll kl bl .nil pass0 (pa_cons (pv 0) (pa_cons (pv 2) (pa_cons (pv 3) pa_nil))))) pa_nil)))), ?_⟩
    have n60 := W.n60.2
    refine ⟨_, rfl, _, rfl, wi, b, ns, ls, hs, rfl, W, eb, ho, fun m H1 s1 em => ?_⟩
    refine ⟨_, rfl, b, VH hs, rfl, .inr (SqT.of (s1 _ _ eb)), ?_⟩
    have lh : (VH hs).length = ls.length := by rw [VH_len, ho.len]
    rw [lh]
    refine ⟨_, rfl, by omega, by omega, fun D nD => ?_⟩
    refine lc_same (J := Itr 0 ls.length) (n := ls.length) walk_range0 (by omega) (fun i => hv (leftL ls hs i).head?) nD (fun _ _ => trivial) ?_ ?_
    · rintro i x H2 H3 Z out hi sm ⟨rfl, rfl⟩
      exact gn ⟨rfl, _, rfl, _, rfl, _, rfl, wi, m, ns, ls, hs, i, rfl, (W.same s1).same sm, .inl (sm _ _ em), hi, fun H4 s4 => out H4 s4⟩
    · intro H2 sm eD
      refine ⟨D, _, rfl, .inl ⟨SqL.of eD, fun r nr => q r _ ((s1.trans sm).fresh ((s1.trans sm).free nr)) ?_⟩⟩
      rw [upd_same]
      unfold VH firsts
      rw [List.map_map]
      rfl
end
end K14
namespace K14
open PySem PySem.Spec PyProof.Rows L2
/-! ### data -/
def dN (ns : List (List Nat)) : PyData := .tuple (ns.map fun s => .str (SS s))
def dI (s : List Nat) : PyData := .tuple (s.map fun j => .int (j : Nat))
def dL (ls : List (List Nat)) : PyData := .tuple (ls.map dI)
def dH (hs : List (Option Nat)) : PyData := .tuple (hs.map fun o => match o with | none => .none | some j => .int (j : Nat))
theorem layAll {xs : List PyData} (h : ∀ x ∈ xs, PyData.canLay0 x = true) : PyData.canLayAll0 xs = true := by
  induction xs with
  | nil => rfl
  | cons c r ih => simp only [PyData.canLayAll0, h c (by simp), ih (fun x hx => h x (by simp [hx])), Bool.and_self]
theorem depAll {xs : List PyData} {d : Nat} (h : ∀ x ∈ xs, PyData.depth x ≤ d) : PyData.depthAll xs ≤ d := by
  induction xs with
  | nil => simp [PyData.depthAll]
  | cons c r ih =>
    have h1 := h c (by simp)
    have h2 := ih (fun x hx => h x (by simp [hx]))
    simp only [PyData.depthAll]
    omega
theorem shaped_of {x : PyData} (h : PyData.canLay0 x = true) (d : PyData.depth x ≤ 64) : SeqAt.shaped x = true := by
  show (PyData.canLay0 x && decide (PyData.depth x ≤ 64)) = true
  rw [h, decide_eq_true d]
  rfl
theorem lay_dI (s : List Nat) : PyData.canLay0 (dI s) = true ∧ PyData.depth (dI s) ≤ 2 := by
  unfold dI
  constructor
  · simp only [PyData.canLay0]
    refine layAll fun x hx => ?_
    obtain ⟨j, _, rfl⟩ := List.mem_map.mp hx
    rfl
  · simp only [PyData.depth]
    have := depAll (xs := s.map fun j => PyData.int (j : Nat)) (d := 1) fun x hx => by
      obtain ⟨j, _, rfl⟩ := List.mem_map.mp hx
      simp [PyData.depth]
    omega
theorem sh_dL (ls : List (List Nat)) : SeqAt.shaped (dL ls) = true := by
  unfold dL
  refine shaped_of ?_ ?_
  · simp only [PyData.canLay0]
    refine layAll fun x hx => ?_
    obtain ⟨j, _, rfl⟩ := List.mem_map.mp hx
    exact (lay_dI j).1
  · simp only [PyData.depth]
    have := depAll (xs := ls.map dI) (d := 2) fun x hx => by
      obtain ⟨j, _, rfl⟩ := List.mem_map.mp hx
      exact (lay_dI j).2
    omega
theorem ok_str {s : List Nat} (h : s.length ≤ 6) (hc : ∀ c ∈ s, 97 ≤ c ∧ c ≤ 122) : PyData.canLay0 (.str (SS s)) = true := by
  simp only [PyData.canLay0]
  unfold PyData.strOk
  rw [Array.all_eq_true]
  intro i hi
  have := hc ((SS s).cps[i]) (by simp)
  rw [decide_eq_true_eq]
  omega
theorem sh_dN (ns : List (List Nat)) (h6 : ∀ s ∈ ns, s.length ≤ 6 ∧ ∀ c ∈ s, 97 ≤ c ∧ c ≤ 122) : SeqAt.shaped (dN ns) = true := by
  unfold dN
  refine shaped_of ?_ ?_
  · simp only [PyData.canLay0]
    refine layAll fun x hx => ?_
    obtain ⟨j, hj, rfl⟩ := List.mem_map.mp hx
    exact ok_str (h6 j hj).1 (h6 j hj).2
  · simp only [PyData.depth]
    have := depAll (xs := ns.map fun s => PyData.str (SS s)) (d := 1) fun x hx => by
      obtain ⟨j, _, rfl⟩ := List.mem_map.mp hx
      simp [PyData.depth]
    omega
theorem sh_dH (hs : List (Option Nat)) : SeqAt.shaped (dH hs) = true := by
  unfold dH
  refine shaped_of ?_ ?_
  · simp only [PyData.canLay0]
    refine layAll fun x hx => ?_
    obtain ⟨j, _, rfl⟩ := List.mem_map.mp hx
    cases j <;> rfl
  · simp only [PyData.depth]
    have := depAll (xs := hs.map fun o => match o with | none => PyData.none | some j => .int (j : Nat)) (d := 1) fun x hx => by
      obtain ⟨j, _, rfl⟩ := List.mem_map.mp hx
      cases j <;> simp [PyData.depth]
    omega
theorem dp_dI {K : PySem.W.Frag} {H : Hp} {a : Addr} {s : List Nat} (e : Tp H a (VI s)) : Dp K H (.ref a) (dI s) := by
  refine .tup e.sq ?_
  unfold VI
  clear e
  induction s with
  | nil => exact .nil
  | cons c r ih => exact .cons (.int _) ih
theorem dp_dN {K : PySem.W.Frag} {H : Hp} {a : Addr} {ns : List (List Nat)} (e : H a = some (.tup (VN ns))) : Dp K H (.ref a) (dN ns) := by
  refine .tup (SqT.of e) ?_
  unfold VN
  clear e
  induction ns with
  | nil => exact .nil
  | cons c r ih => exact .cons (.str _) ih
theorem dp_dH {K : PySem.W.Frag} {H : Hp} {a : Addr} {hs : List (Option Nat)} (e : H a = some (.tup (VH hs))) : Dp K H (.ref a) (dH hs) := by
  refine .tup (SqT.of e) ?_
  unfold VH
  clear e
  induction hs with
  | nil => exact .nil
  | cons c r ih =>
    cases c with
    | none => exact .cons .non ih
    | some j => exact .cons (.int _) ih
theorem dp_dL {K : PySem.W.Frag} {H : Hp} {a : Addr} {ls : List (List Nat)} (e : LT H a ls) : Dp K H (.ref a) (dL ls) := by
  obtain ⟨as, e1, al, rows⟩ := e
  refine .tup (SqT.of e1) ?_
  clear e1
  induction ls generalizing as with
  | nil =>
    cases as with
    | nil => exact .nil
    | cons b t => cases al
  | cons c r ih =>
    cases as with
    | nil => cases al
    | cons b t =>
      exact .cons (dp_dI (rows 0 b c rfl rfl)) (ih t (by simpa using al) fun i a s e1 e2 => rows (i + 1) a s (by simpa using e1) (by simpa using e2))
end K14
namespace K14
open PySem PySem.Spec PyProof.Rows L2
def spWEq (C : Addr) : Sp := spEq fun a b H => ∃ ns ls, WAt C H a ns ls ∧ WAt C H b ns ls
theorem scWEq : FnScope ["self", "other"] ["self", "other"] (defScope sWEq) := ⟨rfl, rfl, rfl, by decide +kernel, rfl, by decide +kernel, by decide +kernel⟩
theorem eq_dN (ns : List (List Nat)) (h : ∀ s ∈ ns, s.length ≤ 6 ∧ ∀ c ∈ s, 97 ≤ c ∧ c ≤ 122) : PyData.eqv (dN ns) (dN ns) = true := by
  refine SeqAt.eqv_refl _ ?_
  have := sh_dN ns h
  unfold SeqAt.shaped at this
  rw [Bool.and_eq_true] at this
  exact this.1
theorem eq_dL (ls : List (List Nat)) : PyData.eqv (dL ls) (dL ls) = true := by
  refine SeqAt.eqv_refl _ ?_
  have := sh_dL ls
  unfold SeqAt.shaped at this
  rw [Bool.and_eq_true] at this
  exact this.1
theorem mayV_hold {n : Nat} {s : List Nat} {v : V} (h : mayV n s v = true) : ∃ o, v = hv o ∧ ∀ j, o = some j → j < n ∧ j ∈ s := by
  cases v with
  | non => exact ⟨none, rfl, fun _ e => by cases e⟩
  | int i =>
    simp only [mayV, Bool.and_eq_true, decide_eq_true_eq] at h
    refine ⟨some i.toNat, ?_, fun j e => ?_⟩
    · show V.int i = V.int (i.toNat : Int)
      congr 1
      omega
    · cases e
      exact ⟨by omega, h.2⟩
  | bl b => cases h
  | str s => cases h
  | ref a => cases h
  | byt b => cases h
  | flt b => cases h
  | ty n => cases h
theorem holdsV_true {H : Hp} {ls : List (List Nat)} {v : V} (h : holdsV H ls v = true) : ∃ hs, tupOf H v = some (VH hs) ∧ HoldsOk ls hs := by
  unfold holdsV at h
  cases tv : tupOf H v with
  | none => rw [tv] at h; cases h
  | some xs =>
    rw [tv] at h
    dsimp only at h
    rw [Bool.and_eq_true, decide_eq_true_eq, List.all_eq_true] at h
    have each : ∀ i, i < xs.length → ∃ o, xs[i]? = some (hv o) ∧ ∀ j, o = some j → j < ls.length ∧ j ∈ la ls i := fun i hi => by
      obtain ⟨o, eo, ho⟩ := mayV_hold (h.2 i (List.mem_range.mpr hi))
      refine ⟨o, ?_, ho⟩
      rw [← eo, List.getD_eq_getElem?_getD, List.getElem?_eq_getElem hi]
      rfl
    let g : V → Option Nat := fun v => match v with | .int i => some i.toNat | _ => none
    have gv : ∀ o, g (hv o) = o := fun o => by
      cases o with
      | none => rfl
      | some j => exact congrArg some (Int.toNat_natCast j)
    refine ⟨xs.map g, ?_, ?_, ?_⟩
    · congr 1
      apply List.ext_getElem?
      intro i
      by_cases c : i < xs.length
      · obtain ⟨o, e, _⟩ := each i c
        unfold VH
        rw [List.getElem?_map, List.getElem?_map, e]
        show some (hv o) = some (hv (g (hv o)))
        rw [gv]
      · rw [List.getElem?_eq_none (by omega), List.getElem?_eq_none (by simpa [VH] using c)]
    · rw [List.length_map, h.1]
    · intro p j e
      unfold ha at e
      rw [List.getD_eq_getElem?_getD, List.getElem?_map] at e
      by_cases c : p < xs.length
      · obtain ⟨o, eo, ho⟩ := each p c
        rw [eo] at e
        have e' : g (hv o) = some j := e
        rw [gv] at e'
        exact ⟨by omega, (ho j e').2⟩
      · rw [List.getElem?_eq_none (by omega)] at e
        cases e
theorem first_lt {ls : List (List Nat)} {hs : List (Option Nat)} {p j : Nat} (ok : ListsOk ls.length ls) (hp : p < ls.length) (e : ha (firsts ls hs) p = some j) : j < ls.length := by
  unfold ha firsts at e
  rw [List.getD_eq_getElem?_getD, List.getElem?_map, List.getElem?_range hp] at e
  have e' : (leftL ls hs p).head? = some j := e
  have := List.mem_of_mem_head? (show j ∈ (leftL ls hs p).head? from e')
  exact (ok.mate hp ((mem_left ok hp).mp this).1).1
theorem scal_hv (o : Option Nat) (i : Int) : scal (hv o) (.int i) = true := by cases o <;> rfl
theorem dec_hv (o : Option Nat) (i : Nat) : decide (hv o = V.int (i : Nat)) = decide (o = some i) := by
  rw [decide_eq_decide]
  cases o with
  | none => exact ⟨fun e => (by cases e), fun e => (by cases e)⟩
  | some j =>
    constructor
    · intro e
      have : ((j : Nat) : Int) = (i : Nat) := V.int.inj e
      congr 1
      omega
    · intro e
      cases e
      rfl
section
variable {P : Program} {w : World} {K : PySem.W.Frag} {mg : Str → Option Value} {base : Heap}
theorem ok_weq {f C : Addr} {fd : FuncData} {k : Nat} (F : Fun K "__eq__" "Wishes.__eq__" sWEq f fd) (T : Txt K mg C) (ic : C8.InsC K C) (mis : mg "isinstance" = none) : FnOk P w K mg base CX0 (k + 1) f fd ["self", "other"] (spWEq C) := by
  refine F.ok scWEq (fun vs H Q E h => ?_) (fun cdv A outer s H vs Q E hr h => ?_)
  · obtain ⟨a, b, rfl, _⟩ := h
    rfl
  · obtain ⟨a, b, rfl, ⟨ns, ls, Wa, Wb⟩, q⟩ := h
    refine ⟨_, pss_one (ps_ret (pe_and (pe_callB (C8.call_isC ic) (by rfl) mis (by decide +kernel) (pa_cons (pv 1) (pa_cons (pe_glob (v := .ref C) rfl T.mgC rfl) pa_nil)))
      (pe_and (pe_cmpR (op_eqD hr.units) (pe_fld (pv 0) rfl) (pe_fld (pv 1) rfl) (nomark _)) (pe_one (pe_cmpR (op_eqD hr.units) (pe_fld (pv 0) rfl) (pe_fld (pv 1) rfl) (nomark _)))))), ?_⟩
    obtain ⟨dx, n, l, r, e1, e2, e3, e4⟩ := Wa.ex
    obtain ⟨dx', n', l', r', e1', e2', e3', e4'⟩ := Wb.ex
    have h6 : ∀ s ∈ ns, s.length ≤ 6 ∧ ∀ c ∈ s, 97 ≤ c ∧ c ≤ 122 := fun s hs => (Wa.nok.each s hs).2
    refine ⟨_, rfl, b, _, _, rfl, e1', true, rfl, iteT ?_⟩
    refine ⟨_, rfl, a, C, dx, _, _, rfl, e1, T.cl, T.nN, wf_names n l r, _, rfl, b, C, dx', _, _, rfl, e1', T.cl, T.nN, wf_names n' l' r', dN ns, dN ns, dp_dN e2, dp_dN e2', sh_dN ns h6, sh_dN ns h6, true, congrArg V.bl (eq_dN ns h6), iteT ?_⟩
    refine ⟨_, rfl, a, C, dx, _, _, rfl, e1, T.cl, T.nL, wf_lists n l r, _, rfl, b, C, dx', _, _, rfl, e1', T.cl, T.nL, wf_lists n' l' r', dL ls, dL ls, dp_dL e3, dp_dL e3', sh_dL ls, sh_dL ls, ?_⟩
    rw [eq_dL]
    exact q H fun _ _ e => e
theorem ok_is_steady {f fh ff C : Addr} {fd dh df : FuncData} {k : Nat} (F : Fun K "is_steady" "is_steady" sIsSteady f fd)
    (Gh : FnOk P w K mg base CX0 k fh dh ["wishes", "value"] (spAreHolds C)) (bh : Binds K dh ["wishes", "value"] []) (kh : PySem.W.keepIn K (.ref fh) = true) (mh : mg "are_holds" = some (.ref fh))
    (Gf : FnOk P w K mg base CX0 k ff df ["wishes", "holds"] (spFirstsLeft C)) (bf : Binds K df ["wishes", "holds"] []) (kf : PySem.W.keepIn K (.ref ff) = true) (mf : mg "firsts_left" = some (.ref ff)) (ma : mg "all" = none) (me : mg "enumerate" = none) : FnOk P w K mg base CX0 (k + 1) f fd ["wishes", "value"] (spIsSteady C) := by
  refine F.ok scIsSteady (fun vs H Q E h => ?_) (fun cdv A outer s H vs Q E hr h => ?_)
  · obtain ⟨wi, ns, ls, v, rfl, _⟩ := h
    rfl
  · obtain ⟨wi, ns, ls, v, rfl, W, pl, its, qn, qy⟩ := h
    refine ⟨_, pss_cons (ps_if (pt_not (pt_val (pe_call Gh hr rfl mh kh bh .nil pass0 (pa_cons (pv 0) (pa_cons (pv 1) pa_nil))))) (pss_one (ps_ret pe_bl)) pss_nil)
      (pss_cons (ps_set (i := 2) scIsSteady.nd rfl (.inr rfl) (pe_call Gf hr rfl mf kf bf .nil pass0 (pa_cons (pv 0) (pa_cons (pv 1) pa_nil))))
      (pss_cons (ps_set (i := 3) scIsSteady.nd rfl (.inl rfl) (pe_callB (cr_all rfl) (by rfl) ma (by decide +kernel) (pa_cons (pe_lc (own := [("person", 4), ("held", 5)]) (g := gTup K 2 (gCons (gName 4) (gCons (gName 5) gNil))) (tt := tYes) (te := tOrV (tOp (fun x y H Q => y = V.non ∧ Q (V.bl (decide (x = V.non))) H) (tVar 5) (tC .non)) (tOp rEq (tOp (rIxT K) (tVar 2) (tVar 5)) (tVar 4))) rfl scIsSteady.nd (pi_enumT (by rfl) me (pa_cons (pv 1) pa_nil))
          (blkOk_by (own := [("person", 4), ("held", 5)]) (N := ["wishes", "value", "firsts", "kept", "person", "held", "first"]) (sc := defScope sIsSteady) (by decide +kernel)) (fun _ _ _ _ _ => pg_tup rfl (pgs_cons (pg_name (i := 4) scIsSteady.nd rfl (Or.inl rfl)) (pgs_cons (pg_name (i := 5) scIsSteady.nd rfl (Or.inl rfl)) pgs_nil))) (fun _ _ _ _ _ => pts_nil)
          (fun _ _ _ _ _ => pe_or (pe_cmpR op_isN (pv 5) pe_non (nomark _)) (pe_one (pe_cmpR op_eq (pe_ix ix_tup (pv 2) (pv 5) (fun _ _ => rfl)) (pv 4) (nomark _))))) pa_nil)))
      (pss_one (ps_ret (pe_and (pv 3) (pe_one (pe_callB (cr_all rfl) (by rfl) ma (by decide +kernel) (pa_cons (pe_lc (own := [("person", 4), ("first", 6)]) (g := gTup K 2 (gCons (gName 4) (gCons (gName 6) gNil))) (tt := tYes) (te := tOrV (tOp (fun x y H Q => y = V.non ∧ Q (V.bl (decide (x = V.non))) H) (tVar 6) (tC .non)) (tOp rEq (tOp (rIxT K) (tVar 1) (tVar 6)) (tVar 4))) rfl scIsSteady.nd (pi_enumT (by rfl) me (pa_cons (pv 2) pa_nil))
          (blkOk_by (own := [("person", 4), ("first", 6)]) (N := ["wishes", "value", "firsts", "kept", "person", "held", "first"]) (sc := defScope sIsSteady) (by decide +kernel)) (fun _ _ _ _ _ => pg_tup rfl (pgs_cons (pg_name (i := 4) scIsSteady.nd rfl (Or.inl rfl)) (pgs_cons (pg_name (i := 6) scIsSteady.nd rfl (Or.inl rfl)) pgs_nil))) (fun _ _ _ _ _ => pts_nil)
          (fun _ _ _ _ _ => pe_or (pe_cmpR op_isN (pv 6) pe_non (nomark _)) (pe_one (pe_cmpR op_eq (pe_ix ix_tup (pv 1) (pv 6) (fun _ _ => rfl)) (pv 4) (nomark _))))) pa_nil)))))))), ?_⟩
    refine ⟨_, rfl, _, rfl, wi, ns, ls, v, rfl, W, pl, its, fun H1 s1 => ⟨holdsV H ls v, rfl, ?_⟩⟩
    cases hb : holdsV H ls v with
    | false => exact iteT (qn hb H1 s1)
    | true =>
      refine iteF ?_
      obtain ⟨hs, eh, ho⟩ := holdsV_true hb
      obtain ⟨b, rfl, eb⟩ := tupOf_some eh
      have q := qy hs eh ho
      have n60 := W.n60.2
      refine ⟨_, rfl, _, rfl, wi, b, ns, ls, hs, rfl, W.same s1, s1 _ _ eb, ho, fun fr H2 s2 ef => ?_⟩
      dsimp only [List.set]
      have s02 := s1.trans s2
      have eb2 := s02 _ _ eb
      refine ⟨_, rfl, b, VH hs, rfl, SqT.of eb2, fun D nD => ?_⟩
      refine lc_same (walk_enumT (K := K) (a := b) (xs := VH hs)) (by rw [VH_len, ho.len]; omega) (fun p => .bl (hitB (firsts ls hs) (ha hs p) p)) nD (fun _ sm => SqT.of (sm _ _ eb2)) ?_ ?_
      · rintro i x H3 H4 Z out hi sm ⟨U, x0, x1, rfl, nU, rfl, y1, y2⟩
        cases y1
        have s3 : Same H3 (upd H3 U (.tup [.int (i : Nat), x1])) := same_upd nU
        rw [VH_len] at hi
        have y3 : (VH hs)[i]? = some x1 := y2
        rw [VH_get (ha_get hi)] at y3
        have y4 : x1 = hv (ha hs i) := (Option.some.inj y3).symm
        have o2 : Z (.bl (hitB (firsts ls hs) (ha hs i) i)) _ := out _ s3
        refine ⟨U, _, rfl, SqT.of upd_same, rfl, _, _, rfl, gn ⟨_, _, rfl, gn ⟨rfl, rfl, _, rfl, rfl, _, rfl, ?_⟩⟩⟩
        cases eo : ha hs i with
        | none =>
          rw [eo] at y4 o2
          subst y4
          exact iteT o2
        | some j =>
          have hj := (W.ok.mate (by rw [← ho.len]; exact hi) (ho.on i j eo).2).1
          rw [eo] at y4 o2
          subst y4
          refine iteF ⟨_, rfl, _, rfl, fr, _, _, _, rfl, rfl, SqT.of (s3 _ _ (sm _ _ ef)), atI_nat (VH_get (ha_get (by rw [firsts_len]; exact hj))), _, rfl, scal_hv _ _, ?_⟩
          rw [dec_hv]
          exact o2
      · intro H3 sm eD
        refine ⟨D, _, rfl, SqL.of (by rw [eD, bl_map]), ?_⟩
        rw [all_map_id, VH_len, ho.len]
        have ef3 := sm _ _ ef
        refine ⟨_, rfl, _, rfl, ?_⟩
        dsimp only [List.set]
        have q2 := q H3 (s02.trans sm)
        unfold steadyB at q2
        cases c1 : ((List.range ls.length).all fun p => hitB (firsts ls hs) (ha hs p) p) with
        | false =>
          rw [c1] at q2
          exact iteF q2
        | true =>
          rw [c1] at q2
          refine iteT ⟨_, rfl, fr, VH (firsts ls hs), rfl, SqT.of ef3, fun D2 nD2 => ?_⟩
          have eb3 := sm _ _ eb2
          refine lc_same (walk_enumT (K := K) (a := fr) (xs := VH (firsts ls hs))) (by rw [VH_len, firsts_len]; omega) (fun p => .bl (hitB hs (ha (firsts ls hs) p) p)) nD2 (fun _ sm => SqT.of (sm _ _ ef3)) ?_ ?_
          · rintro i x H4 H5 Z out hi sm4 ⟨U, x0, x1, rfl, nU, rfl, y1, y2⟩
            cases y1
            have s3 : Same H4 (upd H4 U (.tup [.int (i : Nat), x1])) := same_upd nU
            rw [VH_len] at hi
            have y3 : (VH (firsts ls hs))[i]? = some x1 := y2
            rw [VH_get (ha_get hi)] at y3
            have y4 : x1 = hv (ha (firsts ls hs) i) := (Option.some.inj y3).symm
            have o2 : Z (.bl (hitB hs (ha (firsts ls hs) i) i)) _ := out _ s3
            refine ⟨U, _, rfl, SqT.of upd_same, rfl, _, _, rfl, gn ⟨_, _, rfl, gn ⟨rfl, rfl, _, rfl, rfl, _, rfl, ?_⟩⟩⟩
            cases eo : ha (firsts ls hs) i with
            | none =>
              rw [eo] at y4 o2
              subst y4
              exact iteT o2
            | some j =>
              have hj : j < ls.length := first_lt W.ok (by rw [← firsts_len ls hs]; exact hi) eo
              rw [eo] at y4 o2
              subst y4
              refine iteF ⟨_, rfl, _, rfl, b, _, _, _, rfl, rfl, SqT.of (s3 _ _ (sm4 _ _ eb3)), atI_nat (VH_get (ha_get (by rw [ho.len]; exact hj))), _, rfl, scal_hv _ _, ?_⟩
              rw [dec_hv]
              exact o2
          · intro H4 sm4 eD2
            refine ⟨D2, _, rfl, SqL.of (by rw [eD2, bl_map]), ?_⟩
            rw [all_map_id, VH_len, firsts_len]
            have q3 := q _ (s02.trans (sm.trans sm4))
            unfold steadyB at q3
            rw [c1] at q3
            exact q3
end
end K14
namespace K14
open PySem PySem.Spec PyProof.Rows L2
/-! ### the law's own reading: ranks, lists left -/
def spRank : Sp := fun vs H Q _ => ∃ (a : Addr) (ls : List (List Nat)) (p : Nat) (o : Option Nat), vs = [.ref a, .int p, hv o] ∧ LX H a ls ∧ p < ls.length ∧ (∀ j, o = some j → j ∈ la ls p) ∧ Q (.int (rkN (la ls p) o : Nat)) H
theorem scRank : FnScope ["lists", "person", "other"] ["lists", "person", "other"] (defScope sRank) := ⟨rfl, rfl, rfl, by decide +kernel, rfl, by decide +kernel, by decide +kernel⟩
def spLeft : Sp := fun vs H Q _ => ∃ (a b : Addr) (ls : List (List Nat)) (hs : List (Option Nat)), vs = [.ref a, .ref b] ∧ LX H a ls ∧ H b = some (.tup (VH hs)) ∧ HoldsOk ls hs ∧ ListsOk ls.length ls ∧ ls.length ≤ 100 ∧ ∀ r H', Same H H' → LT H' r (leftA ls hs) → Q (.ref r) H'
theorem scLeft : FnScope ["lists", "holds", "person", "bounds", "found", "some", "other"] ["lists", "holds"] (defScope sLeft) := ⟨rfl, rfl, rfl, by decide +kernel, rfl, by decide +kernel, by decide +kernel⟩
theorem take_filter {s : List Nat} (nd : s.Nodup) (m : Nat) : s.filter (fun o => decide (s.idxOf o ≤ m)) = s.take (m + 1) := by
  have key : ∀ (k : Nat), k ≤ s.length → (s.take k).filter (fun o => decide (s.idxOf o ≤ m)) = s.take (min k (m + 1)) := by
    intro k
    induction k with
    | zero => intro _; simp
    | succ k ih =>
      intro hk
      have hl : k < s.length := hk
      have e : s[k]? = some s[k] := List.getElem?_eq_getElem hl
      have ix : s.idxOf s[k] = k := by
        have hm := List.getElem_mem hl
        have hl2 := List.idxOf_lt_length_of_mem hm
        exact nodup_ix nd (by rw [List.getElem?_eq_getElem hl2, List.getElem_idxOf]) e
      rw [List.take_succ, e, List.filter_append, ih (by omega)]
      show s.take (min k (m + 1)) ++ [s[k]].filter _ = _
      rw [List.filter_cons, ix]
      by_cases c : k ≤ m
      · rw [if_pos (by simpa using c), List.filter_nil, Nat.min_eq_left (by omega), Nat.min_eq_left (by omega), List.take_succ, e]
        rfl
      · rw [if_neg (by simpa using c), List.filter_nil, List.append_nil, Nat.min_eq_right (by omega), Nat.min_eq_right (by omega)]
  have h := key s.length (Nat.le_refl _)
  rw [List.take_length] at h
  rw [h]
  by_cases c : m + 1 ≤ s.length
  · rw [Nat.min_eq_right c]
  · rw [Nat.min_eq_left (by omega), List.take_length, List.take_of_length_le (by omega)]
theorem LX.at {H : Hp} {r : Addr} {ls : List (List Nat)} (t : LX H r ls) {i : Nat} {s : List Nat} (e : ls[i]? = some s) : ∃ xs a, H r = some (.tup xs) ∧ xs[i]? = some (.ref a) ∧ Ex H a (VI s) := by
  obtain ⟨as, e1, l, q⟩ := t
  have hi := (List.getElem?_eq_some_iff.mp e).1
  have ha : i < as.length := by omega
  exact ⟨_, as[i], e1, by rw [List.getElem?_map, List.getElem?_eq_getElem ha]; rfl, q i _ s (List.getElem?_eq_getElem ha) e⟩
section
variable {P : Program} {w : World} {K : PySem.W.Frag} {mg : Str → Option Value} {base : Heap}
theorem ok_rank {f : Addr} {fd : FuncData} {k : Nat} (F : Fun K "_law_rank" "_law_rank" sRank f fd) (ml : mg "len" = none) : FnOk P w K mg base CX0 (k + 1) f fd ["lists", "person", "other"] spRank := by
  refine F.ok scRank (fun vs H Q E h => ?_) (fun cdv A outer s H vs Q E hr h => ?_)
  · obtain ⟨a, ls, p, o, rfl, _⟩ := h
    rfl
  · obtain ⟨a, ls, p, o, rfl, lt, hp, ho, q⟩ := h
    refine ⟨_, pss_one (ps_ret (pe_ifExp (pt_cmpR op_isN (pv 2) pe_non (nomark _)) (pe_callB call_len_seq (by rfl) ml PySem.boot_len (pa_cons (pe_ix ix_tup (pv 0) (pv 1) (fun _ _ => rfl)) pa_nil)) (pe_bmT PySem.F.plainAttrs_tuple PySem.F.slot_tuple_index PySem.F.type_tuple_index mt_tupIdx (pe_ix ix_tup (pv 0) (pv 1) (fun _ _ => rfl)) (pa_cons (pv 2) pa_nil)))), ?_⟩
    obtain ⟨rows, c, er, ec, ev⟩ := LX.at lt (la_get hp)
    refine ⟨_, rfl, rfl, _, rfl, ?_⟩
    cases o with
    | none =>
      refine iteT ⟨_, rfl, _, rfl, a, rows, _, _, rfl, rfl, SqT.of er, atI_nat ec, c, _, rfl, .inr (Tp.sq (.inr ev)), ?_⟩
      rw [VI_len]
      exact q
    | some j =>
      refine iteF ⟨_, rfl, _, rfl, a, rows, _, _, rfl, rfl, SqT.of er, atI_nat ec, ⟨c, _, rfl, ev⟩, _, rfl, c, la ls p, j, rfl, rfl, Tp.sq (.inr ev), ho j rfl, q⟩
end
end K14
namespace K14
open PySem PySem.Spec PyProof.Rows L2
section
variable {J : It} {n : Nat} {G : Hp → Prop} {Y : Nat → Hp → V → Hp → Prop}
/-- a comprehension with a test that leaves all as it stood: the items at which the test is true -/
theorem lc_sel (w : Walk J n G Y) {g : TG} {tt : TT} {te : TE} {vs : List Nat} {σ : L2.St} {H0 : Hp} {D : Addr} {Qd : Hp → Prop} (hn : n ≤ 100000) (xs : List V) (f : V → Bool) (xl : xs.length = n) (nD : H0 D = none) (hG : ∀ H, Same H0 H → G H)
    (hs : ∀ (i : Nat) (x : V) (H H' : Hp) (R : Hp → Prop) (Z : V → Hp → Prop), (∀ H3, Same H H3 → f (xs.getD i .non) = true → Z (xs.getD i .non) H3) → (∀ H3, Same H H3 → f (xs.getD i .non) = false → R H3) → i < n → Same H0 H → Y i H x H' → g x (wipe σ vs) H' fun σ2 H2 => wipe σ2 vs = wipe σ vs ∧ tt σ2 H2 fun b H3 => if b = true then te σ2 H3 Z else R H3)
    (hd : ∀ H, Same H0 H → H D = some (.lst (xs.filter f)) → Qd H) :
    ∃ W : Nat → Nat → Hp → Prop, (∃ m, W 0 m (upd H0 D (.lst []))) ∧ ∀ i m H, W i m H →
      (J.stop i H ∧ Qd H) ∨ (J.go i H ∧ ∃ Nx : Hp → Prop, (∀ H', Nx H' → ∃ m', m' < m ∧ W (i + 1) m' H') ∧ ∀ x H', J.yld i H x H' → g x (wipe σ vs) H' fun σ2 H2 => wipe σ2 vs = wipe σ vs ∧ tt σ2 H2 fun b H3 =>
        if b = true then te σ2 H3 fun y H4 => ∃ acc, H4 D = some (.lst acc) ∧ acc.length < sizeLine ∧ Nx (upd H4 D (.lst (acc ++ [y]))) else Nx H3) := by
  refine lc_it w (fun i H => Same H0 H ∧ H D = some (.lst ((xs.take i).filter f))) ⟨same_upd nD, by rw [upd_same, List.take_zero]; rfl⟩ (fun i H _ h => hG H h.1) (fun i x H H' hi h y => ?_) (fun H h => hd H h.1 (by rw [← xl, List.take_length] at h; exact h.2))
  have tk : xs.take (i + 1) = xs.take i ++ [xs.getD i .non] := by
    rw [List.take_succ, List.getD_eq_getElem?_getD, List.getElem?_eq_getElem (by omega)]
    rfl
  refine hs i x H H' (fun H => Same H0 H ∧ H D = some (.lst ((xs.take (i + 1)).filter f))) (fun v H3 => ∃ acc, H3 D = some (.lst acc) ∧ acc.length < sizeLine ∧ (fun H => Same H0 H ∧ H D = some (.lst ((xs.take (i + 1)).filter f))) (upd H3 D (.lst (acc ++ [v])))) (fun H3 z ft => ?_) (fun H3 z ff => ?_) hi h.1 y
  · refine ⟨_, z _ _ h.2, ?_, (h.1.trans z).fresh nD, ?_⟩
    · refine sz6' (Nat.le_trans (List.length_filter_le _ _) ?_)
      rw [List.length_take]
      omega
    · rw [upd_same, tk, List.filter_append, List.filter_cons, if_pos ft, List.filter_nil]
  · refine ⟨h.1.trans z, ?_⟩
    rw [z _ _ h.2, tk, List.filter_append, List.filter_cons, if_neg (by rw [ff]; decide), List.filter_nil, List.append_nil]
end
theorem VI_getD {s : List Nat} {i : Nat} (h : i < s.length) : (VI s).getD i .non = .int (s[i] : Nat) := by
  rw [List.getD_eq_getElem?_getD, VI_get (List.getElem?_eq_getElem h)]
  rfl
def fV (g : Nat → Bool) : V → Bool
  | .int i => g i.toNat
  | _ => false
theorem VI_filter (s : List Nat) (g : Nat → Bool) : (VI s).filter (fV g) = VI (s.filter g) := by
  unfold VI
  rw [List.filter_map]
  rfl
section
variable {P : Program} {w : World} {K : PySem.W.Frag} {mg : Str → Option Value} {base : Heap}
theorem ok_left {f fr : Addr} {fd dr : FuncData} {k : Nat} (F : Fun K "_law_left" "_law_left" sLeft f fd)
    (Gr : FnOk P w K mg base CX0 k fr dr ["lists", "person", "other"] spRank) (br : Binds K dr ["lists", "person", "other"] []) (kr : PySem.W.keepIn K (.ref fr) = true) (mr : mg "_law_rank" = some (.ref fr)) (ml : mg "len" = none) (mrg : mg "range" = none) (mt : mg "tuple" = none) : FnOk P w K mg base CX0 (k + 1) f fd ["lists", "holds"] spLeft := by
  refine F.ok scLeft (fun vs H Q E h => ?_) (fun cdv A outer s H vs Q E hr h => ?_)
  · obtain ⟨a, b, ls, hs, rfl, _⟩ := h
    rfl
  · obtain ⟨a, b, ls, hs, rfl, lx, eb, ho, ok, hn, q⟩ := h
    refine ⟨_, pss_cons (ps_set (i := 3) scLeft.nd rfl (.inr rfl) (pe_lc (own := [("person", 2)]) (g := gName 2) (tt := tYes) (te := tCall spRank [] E0 (tCons (tVar 0) (tCons (tVar 2) (tCons (tOp (rIxT K) (tVar 1) (tVar 2)) tNil)))) rfl scLeft.nd (pi_range1 rfl mrg (pa_cons (pe_callB call_len_seq (by rfl) ml PySem.boot_len (pa_cons (pv 0) pa_nil)) pa_nil))
          (blkOk_by (own := [("person", 2)]) (N := ["lists", "holds", "person", "bounds", "found", "some", "other"]) (sc := defScope sLeft) (by decide +kernel)) (fun _ _ _ _ _ => pg_name (i := 2) scLeft.nd rfl (Or.inl rfl)) (fun _ _ _ _ _ => pts_nil)
          (fun _ _ _ _ _ => pe_call Gr hr rfl mr kr br .nil pass0 (pa_cons (pv 0) (pa_cons (pv 2) (pa_cons (pe_ix ix_tup (pv 1) (pv 2) (fun _ _ => rfl)) pa_nil))))))
      (pss_cons (ps_set (i := 4) scLeft.nd rfl (.inl rfl) (pe_lst pa_nil))
      (pss_cons (ps_for PassesOwn.never rfl (pi_range1 rfl mrg (pa_cons (pe_callB call_len_seq (by rfl) ml PySem.boot_len (pa_cons (pv 0) pa_nil)) pa_nil)) (pg_name (i := 2) scLeft.nd rfl (.inr rfl))
        (pss_cons (ps_setLc (i := 5) (own := [("other", 6)]) (g := gName 6) (tt := tTest (tOp (rI0 fun i j => V.bl (decide (i ≤ j))) (tCall spRank [] E0 (tCons (tVar 0) (tCons (tVar 2) (tCons (tVar 6) tNil)))) (tOp (rIxL K) (tVar 3) (tVar 2)))) rfl scLeft.nd rfl rfl (sw_true rfl rfl rfl (by decide +kernel)) (pi_tup (pe_ix ix_tup (pv 0) (pv 2) (fun _ _ => rfl)))
            (blkOk_by (own := [("other", 6)]) (N := ["lists", "holds", "person", "bounds", "found", "some", "other"]) (sc := defScope sLeft) (by decide +kernel)) (fun _ _ _ _ _ => pg_name (i := 6) scLeft.nd rfl (Or.inl rfl)) (fun _ _ _ _ _ => pts_one (pt_cmpR op_le (pe_call Gr hr rfl mr kr br .nil pass0 (pa_cons (pv 0) (pa_cons (pv 2) (pa_cons (pv 6) pa_nil)))) (pe_ix ix_list (pv 3) (pv 2) (fun _ _ => rfl)) (nomark _)))
            (fun _ _ _ _ _ => pv 6))
        (pss_one (ps_expr (pe_bm PySem.F.plainAttrs_list PySem.F.slot_list_append PySem.F.type_list_append mt_append (pv 4) (pa_cons (pe_callTy call_tuple_of (by rfl) mt (by decide +kernel) (pa_cons (pe_lc (own := [("other", 6)]) (g := gName 6) (tt := tTest (tOp (rI0 fun i j => V.bl (decide (i ≤ j))) (tCall spRank [] E0 (tCons (tVar 0) (tCons (tVar 6) (tCons (tVar 2) tNil)))) (tOp (rIxL K) (tVar 3) (tVar 6)))) rfl scLeft.nd (pi_list (pv 5))
            (blkOk_by (own := [("other", 6)]) (N := ["lists", "holds", "person", "bounds", "found", "some", "other"]) (sc := defScope sLeft) (by decide +kernel)) (fun _ _ _ _ _ => pg_name (i := 6) scLeft.nd rfl (Or.inl rfl)) (fun _ _ _ _ _ => pts_one (pt_cmpR op_le (pe_call Gr hr rfl mr kr br .nil pass0 (pa_cons (pv 0) (pa_cons (pv 6) (pa_cons (pv 2) pa_nil)))) (pe_ix ix_list (pv 3) (pv 6) (fun _ _ => rfl)) (nomark _)))
            (fun _ _ _ _ _ => pv 6)) pa_nil)) pa_nil))))))
      (pss_one (ps_ret (pe_callTy call_tuple_of (by rfl) mt (by decide +kernel) (pa_cons (pv 4) pa_nil)))))), ?_⟩
    obtain ⟨xs, ea, xl⟩ := lx.lt.len
    refine ⟨_, rfl, a, xs, rfl, .inr (SqT.of ea), ?_⟩
    rw [xl]
    refine ⟨_, rfl, by omega, by omega, fun B nB => ?_⟩
    refine lc_same (J := Itr 0 ls.length) (n := ls.length) walk_range0 (by omega) (fun i => .int (most ls hs i : Nat)) nB (fun _ _ => trivial) ?_ ?_
    · rintro i x H2 H3 Z out hi sm ⟨rfl, rfl⟩
      exact gn ⟨rfl, _, rfl, _, rfl, _, rfl, _, rfl, b, _, _, _, rfl, rfl, SqT.of (sm _ _ eb), atI_nat (VH_get (ha_get (by rw [ho.len]; exact hi))), a, ls, i, ha hs i, rfl, lx.same sm, hi, fun j ej => (ho.on i j ej).2, out _ same_rfl⟩
    · intro H1 s1 eB
      refine gn ⟨Nat.zero_le _, fun D nD => ?_⟩
      have s2 : Same H (upd H1 D (.lst [])) := s1.fresh (s1.free nD)
      have nBD : B ≠ D := ne_of_none eB nD
      have eB2 : (upd H1 D (.lst [])) B = some (.lst (VM ls hs)) := by rw [upd_ne nBD]; exact eB
      have eD2 : (upd H1 D (.lst [])) D = some (.lst []) := upd_same
      have nD0 := s1.free nD
      generalize upd H1 D (.lst []) = H2 at s2 eB2 eD2
      dsimp only [List.set, L2.start]
      refine ⟨_, rfl, a, xs, rfl, .inr (SqT.of (s2 _ _ ea)), ?_⟩
      rw [xl]
      refine ⟨_, rfl, by omega, by omega, for_it (J := Itr 0 ls.length) (n := ls.length) walk_range0 (fun i σ H' => ∃ (ts : List Addr) (y z : Option V), σ = [some (.ref a), some (.ref b), y, some (.ref B), some (.ref D), z, none] ∧ Same H H' ∧ H' B = some (.lst (VM ls hs)) ∧ H' D = some (.lst (ts.map V.ref)) ∧ ts.length = i ∧ ∀ (j : Nat) (t : Addr), ts[j]? = some t → H' t = some (.tup (VI (leftL ls hs j))))
        ⟨[], none, none, rfl, s2, eB2, eD2, rfl, fun _ _ e => by simp at e⟩ (fun _ _ _ _ _ => trivial) ?_ ?_⟩
      · rintro i x σ H3 H4 hi ⟨ts, y, z, rfl, s3, eB3, eD3, tl, old⟩ ⟨rfl, rfl⟩
        refine gn ?_
        dsimp only [List.set]
        obtain ⟨rows, c, er, ec, ev⟩ := lx.at (la_get hi)
        have len60 := ok.each (la_get hi)
        refine ⟨_, rfl, _, rfl, a, rows, _, _, rfl, rfl, SqT.of (s3 _ _ er), atI_nat ec, c, rfl, ⟨_, Tp.sq (.inr (ev.same s3))⟩, fun S nS => ?_⟩
        refine lc_sel (walk_tup (K := K) (a := c) (xs := VI (la ls i))) (by rw [VI_len]; omega) (VI (la ls i)) (fV fun o => decide ((la ls i).idxOf o ≤ most ls hs i)) rfl nS (fun _ sm => Tp.sq (.inr ((ev.same s3).same sm))) ?_ ?_
        · rintro m x H5 H6 R Z yes' no' hm sm ⟨rfl, ex⟩
          rw [VI_len] at hm
          have ex2 : (VI (la ls i))[m]? = some x := ex
          rw [VI_get (List.getElem?_eq_getElem hm)] at ex2
          cases ex2
          have hin := List.getElem_mem hm
          rw [VI_getD hm] at yes' no'
          refine gn ⟨rfl, _, rfl, _, rfl, _, rfl, a, ls, i, some (la ls i)[m], rfl, (lx.same s3).same sm, hi, fun j e => by cases e; exact hin, _, rfl, _, rfl, B, _, _, _, rfl, rfl, SqL.of (sm _ _ eB3), atI_nat (VM_get hi), _, _, rfl, rfl, decide ((la ls i).idxOf (la ls i)[m] ≤ most ls hs i), ?_, ?_⟩
          · refine congrArg V.bl ?_
            rw [decide_eq_decide]
            show (((la ls i).idxOf (la ls i)[m] : Nat) : Int) ≤ _ ↔ _
            omega
          · refine ite2 (fun c => ?_) (fun c => ?_)
            · exact ⟨_, rfl, yes' _ same_rfl (by show decide _ = true; exact c)⟩
            · exact no' _ same_rfl (by show decide _ = false; exact decide_eq_false (fun h => c (decide_eq_true h)))
        · intro H5 s5 eS
          rw [VI_filter, take_filter (ok.nda hi)] at eS
          refine gn ?_
          dsimp only [List.set]
          refine ⟨_, rfl, .inl ⟨rfl, _, SqL.of (s5 _ _ eD3)⟩, _, rfl, S, rfl, ⟨_, SqL.of eS⟩, fun U nU => ?_⟩
          refine lc_sel (walk_list (K := K) (a := S) (xs := VI ((la ls i).take (most ls hs i + 1)))) (by rw [VI_len, List.length_take]; omega) (VI ((la ls i).take (most ls hs i + 1))) (fV (keepF ls hs i)) rfl nU (fun _ sm => SqL.of (sm _ _ eS)) ?_ ?_
          · rintro m x H6 H7 R Z yes' no' hm sm ⟨rfl, ex⟩
            rw [VI_len] at hm
            have ex2 : (VI ((la ls i).take (most ls hs i + 1)))[m]? = some x := ex
            rw [VI_get (List.getElem?_eq_getElem hm)] at ex2
            cases ex2
            have hin := List.mem_of_mem_take (List.getElem_mem hm)
            obtain ⟨h1, h2, h3⟩ := ok.mate hi hin
            rw [VI_getD hm] at yes' no'
            have s6 := (s3.trans s5).trans sm
            refine gn ⟨rfl, _, rfl, _, rfl, _, rfl, a, ls, _, some i, rfl, lx.same s6, h1, fun j e => by cases e; exact h3, _, rfl, _, rfl, B, _, _, _, rfl, rfl, SqL.of ((s5.trans sm) _ _ eB3), atI_nat (VM_get h1), _, _, rfl, rfl, keepF ls hs i ((la ls i).take (most ls hs i + 1))[m], ?_, ?_⟩
            · refine congrArg V.bl ?_
              unfold keepF
              rw [decide_eq_decide]
              show (((la ls _).idxOf i : Nat) : Int) ≤ _ ↔ _
              omega
            · refine ite2 (fun c => ?_) (fun c => ?_)
              · exact ⟨_, rfl, yes' _ same_rfl c⟩
              · rw [Bool.not_eq_true] at c
                exact no' _ same_rfl c
          · intro H6 s6 eU
            rw [VI_filter] at eU
            refine ⟨U, _, rfl, .inl ⟨SqL.of eU, fun t nt => ?_⟩⟩
            have nDt : D ≠ t := ne_of_none ((s5.trans s6) _ _ eD3) nt
            have s7 : Same H6 (upd H6 t (.tup (VI (leftL ls hs i)))) := same_upd nt
            have e7 : (upd H6 t (.tup (VI (leftL ls hs i)))) t = some (.tup (VI (leftL ls hs i))) := upd_same
            have s37 : Same H4 (upd H6 t (.tup (VI (leftL ls hs i)))) := (s5.trans s6).trans s7
            refine ⟨D, _, _, rfl, rfl, s37 _ _ eD3, by rw [List.length_map]; exact sz6' (by omega), ts ++ [t], _, _, rfl, (s3.trans s37).fresh nD0, by rw [upd_ne nBD]; exact s37 _ _ eB3, by rw [upd_same]; simp, by simp [tl], fun j u e => ?_⟩
            by_cases c : j < ts.length
            · rw [List.getElem?_append_left c] at e
              have e8 := s37 _ _ (old j u e)
              rw [upd_ne (fun z => by rw [z, s37 _ _ eD3] at e8; cases e8)]
              exact e8
            · rw [List.getElem?_append_right (by omega), List.getElem?_singleton] at e
              split at e
              · cases e
                have : j = i := by omega
                subst this
                rw [upd_ne (Ne.symm nDt)]
                exact e7
              · cases e
      · rintro σ H3 ⟨ts, y, z, rfl, s3, eB3, eD3, tl, old⟩
        refine ⟨_, rfl, D, _, rfl, .inl ⟨SqL.of eD3, fun r nr => q r _ (s3.fresh (s3.free nr)) ⟨ts, upd_same, by rw [tl, leftA_len], fun i' a' x' e1 e2 => ?_⟩⟩⟩
        obtain ⟨_, rfl⟩ := leftA_at e2
        exact .inl (ofN nr (old i' a' e1))
end
end K14
namespace K14
open PySem PySem.Spec PyProof.Rows L2
/-! ### all partings -/
def ext (ls : List (List Nat)) (k : Nat) (row : List Nat) : List (List Nat) := ((la ls k ++ [k]).filter (fun o => decide (o ∉ row))).map (fun o => row ++ [o])
def parts (ls : List (List Nat)) : Nat → List (List Nat)
  | 0 => [[]]
  | k + 1 => (parts ls k).flatMap (ext ls k)
theorem ext_len {ls : List (List Nat)} {k n : Nat} {row : List Nat} (h : (la ls k).length ≤ n) : (ext ls k row).length ≤ n + 1 := by
  unfold ext
  rw [List.length_map]
  refine Nat.le_trans (List.length_filter_le _ _) ?_
  simp
  exact h
theorem flat_len {α β : Type} {xs : List α} {f : α → List β} {n : Nat} (h : ∀ x ∈ xs, (f x).length ≤ n) : (xs.flatMap f).length ≤ xs.length * n := by
  induction xs with
  | nil => simp
  | cons a r ih =>
    rw [List.flatMap_cons, List.length_append, List.length_cons, Nat.succ_mul]
    have h1 := h a (by simp)
    have h2 := ih (fun x hx => h x (by simp [hx]))
    omega
theorem parts_len {ls : List (List Nat)} (h : ∀ k, (la ls k).length ≤ 5) : ∀ k, (parts ls k).length ≤ 6 ^ k
  | 0 => by simp [parts]
  | k + 1 => by
    rw [parts, Nat.pow_succ]
    exact Nat.le_trans (flat_len fun x _ => ext_len (h k)) (Nat.mul_le_mul_right 6 (parts_len h k))
theorem parts_row {ls : List (List Nat)} : ∀ k row, row ∈ parts ls k → row.length = k
  | 0, row, h => by
    rw [parts, List.mem_singleton] at h
    rw [h]
    rfl
  | k + 1, row, h => by
    rw [parts, List.mem_flatMap] at h
    obtain ⟨r, hr, hm⟩ := h
    unfold ext at hm
    obtain ⟨o, _, rfl⟩ := List.mem_map.mp hm
    rw [List.length_append, parts_row k r hr]
    rfl
/-- tuples of numbers at these places -/
def RsT (H : Hp) (us : List Addr) (rows : List (List Nat)) : Prop := us.length = rows.length ∧ ∀ (j : Nat) (u : Addr) (r : List Nat), us[j]? = some u → rows[j]? = some r → H u = some (.tup (VI r))
theorem RsT.same {H H' : Hp} {us : List Addr} {rows : List (List Nat)} (t : RsT H us rows) (s : Same H H') : RsT H' us rows := ⟨t.1, fun j u r e1 e2 => s _ _ (t.2 j u r e1 e2)⟩
theorem RsT.nil {H : Hp} : RsT H [] [] := ⟨rfl, fun _ _ _ e => by simp at e⟩
theorem RsT.put {H : Hp} {D : Addr} {xs : List V} {o : HO} {us : List Addr} {rows : List (List Nat)} (t : RsT H us rows) (e : H D = some (.lst xs)) : RsT (upd H D o) us rows := ⟨t.1, fun j u r e1 e2 => by
  have e3 := t.2 j u r e1 e2
  rw [upd_ne (fun z => by rw [z, e] at e3; cases e3)]
  exact e3⟩
theorem RsT.app {H : Hp} {us us' : List Addr} {rows rows' : List (List Nat)} (t : RsT H us rows) (t' : RsT H us' rows') : RsT H (us ++ us') (rows ++ rows') := by
  refine ⟨by rw [List.length_append, List.length_append, t.1, t'.1], fun j u r e1 e2 => ?_⟩
  by_cases c : j < us.length
  · rw [List.getElem?_append_left c] at e1
    rw [List.getElem?_append_left (by rw [← t.1]; exact c)] at e2
    exact t.2 j u r e1 e2
  · rw [List.getElem?_append_right (by omega)] at e1
    rw [List.getElem?_append_right (by rw [← t.1]; omega), ← t.1] at e2
    exact t'.2 _ u r e1 e2
theorem RsT.one {H : Hp} {u : Addr} {r : List Nat} (e : H u = some (.tup (VI r))) : RsT H [u] [r] := ⟨rfl, fun j v q e1 e2 => by
  rw [List.getElem?_singleton] at e1 e2
  split at e1
  · rename_i c
    subst c
    cases e1
    cases e2
    exact e
  · cases e1⟩
theorem RsT.at {H : Hp} {us : List Addr} {rows : List (List Nat)} {j : Nat} {x : V} (t : RsT H us rows) (e : (us.map V.ref)[j]? = some x) : ∃ u r, x = .ref u ∧ rows[j]? = some r ∧ H u = some (.tup (VI r)) := by
  rw [List.getElem?_map] at e
  cases h : us[j]? with
  | none => rw [h] at e; cases e
  | some u =>
    rw [h] at e
    have hj := (List.getElem?_eq_some_iff.mp h).1
    have hr : j < rows.length := by rw [← t.1]; exact hj
    exact ⟨u, rows[j], (Option.some.inj e).symm, List.getElem?_eq_getElem hr, t.2 j u _ h (List.getElem?_eq_getElem hr)⟩
theorem catA {K : PySem.W.Frag} {H : Hp} {a b : Addr} {s t : List Nat} {Q : VK} (ea : Tp H a (VI s)) (eb : H b = some (.tup (VI t))) (nt : t ≠ []) (le : s.length + t.length ≤ 1000) (q : ∀ c H', Same H H' → H' c = some (.tup (VI (s ++ t))) → Q (.ref c) H') : rCatA K (.ref a) (.ref b) H Q := by
  refine ⟨a, b, VI s, VI t, rfl, rfl, ea.sq, SqT.of eb, by rw [VI_len, VI_len]; exact sz5 (by omega), fun h => ?_, fun _ h => ?_, fun _ _ p np => q p _ (same_upd np) (by rw [upd_same, VI_app])⟩
  · have : s = [] := by
      cases s with
      | nil => rfl
      | cons x r => cases h
    subst this
    exact q b H same_rfl eb
  · exfalso
    cases t with
    | nil => exact nt rfl
    | cons x r => cases h
def spPartings : Sp := fun vs H Q _ => ∃ (a : Addr) (ls : List (List Nat)), vs = [.ref a] ∧ LT H a ls ∧ ls.length ≤ 5 ∧ ListsOk ls.length ls ∧ ∀ r us H', Same H H' → H' r = some (.lst (us.map V.ref)) → RsT H' us (parts ls ls.length) → Q (.ref r) H'
theorem la_len {ls : List (List Nat)} (ok : ListsOk ls.length ls) (k : Nat) : (la ls k).length ≤ ls.length := by
  by_cases c : k < ls.length
  · exact ok.each (la_get c)
  · unfold la
    rw [List.getD_eq_getElem?_getD, List.getElem?_eq_none (by omega)]
    exact Nat.zero_le _
end K14
namespace K14
open PySem PySem.Spec PyProof.Rows L2
section
variable {P : Program} {w : World} {K : PySem.W.Frag} {mg : Str → Option Value} {base : Heap}
end
end K14
namespace K14
open PySem PySem.Spec PyProof.Rows L2
structure RowOk (n : Nat) (row : List Nat) : Prop where
  len : row.length = n
  nd : row.Nodup
  lt : ∀ j ∈ row, j < n
def befI (row : List Nat) (i j : Nat) : Option Nat := if j ∈ row.take i ∧ row.idxOf j ≠ j then some (row.idxOf j) else none
def bef (row : List Nat) (j : Nat) : Option Nat := if j ∈ row ∧ row.idxOf j ≠ j then some (row.idxOf j) else none
def befs (row : List Nat) : List (Option Nat) := (List.range row.length).map (bef row)
def nxt (row : List Nat) (p : Nat) : Option Nat := if row.getD p p = p then none else some (row.getD p p)
def nxts (row : List Nat) : List (Option Nat) := (List.range row.length).map (nxt row)
def spBefore : Sp := fun vs H Q _ => ∃ (t : Addr) (n : Nat) (row : List Nat), vs = [.ref t] ∧ H t = some (.tup (VI row)) ∧ RowOk n row ∧ n ≤ 100 ∧ ∀ r H', Same H H' → H' r = some (.tup (VH (befs row))) → Q (.ref r) H'
def spNext : Sp := fun vs H Q _ => ∃ (t : Addr) (n : Nat) (row : List Nat), vs = [.ref t] ∧ H t = some (.tup (VI row)) ∧ RowOk n row ∧ n ≤ 100 ∧ ∀ r H', Same H H' → H' r = some (.tup (VH (nxts row))) → Q (.ref r) H'
theorem idx_at {row : List Nat} (nd : row.Nodup) {i x : Nat} (e : row[i]? = some x) : row.idxOf x = i := by
  have hm := List.mem_of_getElem? e
  have hl := List.idxOf_lt_length_of_mem hm
  exact nodup_ix nd (by rw [List.getElem?_eq_getElem hl, List.getElem_idxOf]) e
theorem befI_succ {row : List Nat} (nd : row.Nodup) {i x : Nat} (e : row[i]? = some x) (j : Nat) : befI row (i + 1) j = if x ≠ i ∧ j = x then some i else befI row i j := by
  unfold befI
  have tk : row.take (i + 1) = row.take i ++ [x] := by
    rw [List.take_succ, e]
    rfl
  rw [tk]
  have ix := idx_at nd e
  by_cases c : j = x
  · subst c
    rw [ix]
    by_cases d : j = i
    · have hn : j ∉ row.take i := by
        intro h
        obtain ⟨k, hk, ek⟩ := List.mem_iff_getElem.mp h
        rw [List.getElem_take] at ek
        rw [List.length_take] at hk
        have := nodup_ix nd (show row[k]? = some j by rw [List.getElem?_eq_getElem (by omega), ek]) e
        omega
      rw [if_neg (fun h => h.2 d.symm), if_neg (fun h => h.1 d), if_neg (fun h => hn h.1)]
    · rw [if_pos ⟨by simp, fun h => d h.symm⟩, if_pos ⟨d, rfl⟩]
  · rw [if_neg (fun (h : x ≠ i ∧ j = x) => c h.2)]
    by_cases d : j ∈ row.take i ∧ row.idxOf j ≠ j
    · rw [if_pos ⟨by simp [d.1], d.2⟩, if_pos d]
    · rw [if_neg d, if_neg (fun h => d ⟨by simpa [c] using h.1, h.2⟩)]
section
variable {P : Program} {w : World} {K : PySem.W.Frag} {mg : Str → Option Value} {base : Heap}
end
end K14
namespace K14
open PySem PySem.Spec PyProof.Rows L2
structure PRow (ls : List (List Nat)) (row : List Nat) : Prop where
  ok : RowOk ls.length row
  on : ∀ (i x : Nat), row[i]? = some x → x ∈ la ls i ∨ x = i
theorem nodup_snoc {row : List Nat} {o : Nat} (h : row.Nodup) (n : o ∉ row) : (row ++ [o]).Nodup := by
  rw [List.nodup_append]
  refine ⟨h, by simp, fun x hx y hy e => ?_⟩
  rw [List.mem_singleton.mp hy] at e
  subst e
  exact n hx
theorem parts_ok {ls : List (List Nat)} : ∀ k row, row ∈ parts ls k → row.length = k ∧ row.Nodup ∧ ∀ (i x : Nat), row[i]? = some x → x ∈ la ls i ∨ x = i
  | 0, row, h => by
    rw [parts, List.mem_singleton] at h
    subst h
    exact ⟨rfl, List.nodup_nil, fun i x e => by simp at e⟩
  | k + 1, row, h => by
    rw [parts, List.mem_flatMap] at h
    obtain ⟨r, hr, hm⟩ := h
    unfold ext at hm
    obtain ⟨o, ho, rfl⟩ := List.mem_map.mp hm
    obtain ⟨h1, h2, h3⟩ := parts_ok k r hr
    rw [List.mem_filter, decide_eq_true_eq] at ho
    refine ⟨by simp [h1], nodup_snoc h2 ho.2, fun i x e => ?_⟩
    by_cases c : i < r.length
    · rw [List.getElem?_append_left c] at e
      exact h3 i x e
    · rw [List.getElem?_append_right (by omega), List.getElem?_singleton] at e
      split at e
      · cases e
        have : i = k := by omega
        subst this
        rcases List.mem_append.mp ho.1 with h | h
        · exact .inl h
        · exact .inr (List.mem_singleton.mp h)
      · cases e
theorem parts_all {ls : List (List Nat)} : ∀ (k : Nat) (row : List Nat), row.length = k → row.Nodup → (∀ (i x : Nat), row[i]? = some x → x ∈ la ls i ∨ x = i) → row ∈ parts ls k
  | 0, row, h, _, _ => by
    rw [parts, List.mem_singleton]
    exact List.eq_nil_of_length_eq_zero h
  | k + 1, row, h, nd, on => by
    rcases list_end row with rfl | ⟨r, o, rfl⟩
    · simp at h
    · rw [parts, List.mem_flatMap]
      have lr : r.length = k := by simpa using h
      rw [List.nodup_append] at nd
      refine ⟨r, parts_all k r lr nd.1 (fun i x e => on i x (by rw [List.getElem?_append_left (List.getElem?_eq_some_iff.mp e).1]; exact e)), ?_⟩
      unfold ext
      refine List.mem_map.mpr ⟨o, ?_, rfl⟩
      rw [List.mem_filter, decide_eq_true_eq]
      refine ⟨?_, fun hm => nd.2.2 o hm o (by simp) rfl⟩
      have := on k o (by rw [List.getElem?_append_right (by omega), lr]; simp)
      rcases this with h | h
      · exact List.mem_append.mpr (.inl h)
      · exact List.mem_append.mpr (.inr (by rw [h]; simp))
theorem parts_row_ok {ls : List (List Nat)} (ok : ListsOk ls.length ls) {row : List Nat} (h : row ∈ parts ls ls.length) : PRow ls row := by
  obtain ⟨h1, h2, h3⟩ := parts_ok _ _ h
  refine ⟨⟨h1, h2, fun j hj => ?_⟩, h3⟩
  obtain ⟨i, hi, e⟩ := List.mem_iff_getElem.mp hj
  have hi' : i < ls.length := by omega
  rcases h3 i j (by rw [List.getElem?_eq_getElem hi, e]) with h | h
  · exact (ok.mate hi' h).1
  · omega
theorem befs_get {row : List Nat} {p : Nat} (h : p < row.length) : ha (befs row) p = bef row p := by
  unfold ha befs
  rw [List.getD_eq_getElem?_getD, List.getElem?_map, List.getElem?_range h]
  rfl
theorem nxts_get {row : List Nat} {p : Nat} (h : p < row.length) : ha (nxts row) p = nxt row p := by
  unfold ha nxts
  rw [List.getD_eq_getElem?_getD, List.getElem?_map, List.getElem?_range h]
  rfl
theorem ha_lt {hs : List (Option Nat)} {p j : Nat} (e : ha hs p = some j) : p < hs.length := by
  unfold ha at e
  rw [List.getD_eq_getElem?_getD] at e
  by_cases c : p < hs.length
  · exact c
  · rw [List.getElem?_eq_none (by omega)] at e
    cases e
theorem bef_some {row : List Nat} {j i : Nat} (e : bef row j = some i) : row[i]? = some j ∧ i ≠ j := by
  unfold bef at e
  split at e
  · rename_i h
    cases e
    have hl := List.idxOf_lt_length_of_mem h.1
    exact ⟨by rw [List.getElem?_eq_getElem hl, List.getElem_idxOf], h.2⟩
  · cases e
theorem befs_ok {ls : List (List Nat)} (ok : ListsOk ls.length ls) {row : List Nat} (r : PRow ls row) : HoldsOk ls (befs row) := by
  refine ⟨by simp [befs, r.ok.len], fun p j e => ?_⟩
  have hp : p < row.length := by
    have := ha_lt e
    simpa [befs] using this
  rw [befs_get hp] at e
  obtain ⟨h1, h2⟩ := bef_some e
  have hj : j < ls.length := by
    have := (List.getElem?_eq_some_iff.mp h1).1
    rw [r.ok.len] at this
    exact this
  refine ⟨by rw [← r.ok.len]; exact hp, ?_⟩
  rcases r.on j p h1 with h | h
  · exact (ok.mate hj h).2.2
  · exact absurd h.symm h2
theorem nxts_ok {ls : List (List Nat)} {row : List Nat} (r : PRow ls row) : HoldsOk ls (nxts row) := by
  refine ⟨by simp [nxts, r.ok.len], fun p j e => ?_⟩
  have hp : p < row.length := by
    have := ha_lt e
    simpa [nxts] using this
  rw [nxts_get hp] at e
  unfold nxt at e
  split at e
  · cases e
  · rename_i h
    cases e
    have hx : row[p]? = some (row.getD p p) := by
      rw [List.getD_eq_getElem?_getD, List.getElem?_eq_getElem hp]
      rfl
    refine ⟨by rw [← r.ok.len]; exact hp, ?_⟩
    rcases r.on p _ hx with h' | h'
    · exact h'
    · exact absurd h' h
/-- nobody would rather have the one before than the next one, and no two bar -/
def Fit1 (ls : List (List Nat)) (row : List Nat) (es : List (Option Nat)) (p : Nat) : Prop :=
  ¬ (most ls (befs row) p < most ls (nxts row) p) ∧ ∀ o ∈ la ls p, ¬ ((la ls p).idxOf o < most ls es p ∧ (la ls o).idxOf p < most ls (befs row) o)
def Fits (ls : List (List Nat)) (row : List Nat) (es : List (Option Nat)) : Prop := ∀ p < ls.length, Fit1 ls row es p
def spFits : Sp := fun vs H Q _ => ∃ (a t e : Addr) (ls : List (List Nat)) (row : List Nat) (es : List (Option Nat)), vs = [.ref a, .ref t, .ref e] ∧ LX H a ls ∧ ListsOk ls.length ls ∧ ls.length ≤ 100 ∧ H t = some (.tup (VI row)) ∧ PRow ls row ∧ H e = some (.tup (VH es)) ∧ HoldsOk ls es ∧
  ∀ (b : Bool) H', Same H H' → (b = true ↔ Fits ls row es) → Q (.bl b) H'
section
variable {P : Program} {w : World} {K : PySem.W.Frag} {mg : Str → Option Value} {base : Heap}
end
end K14
namespace K14
open PySem PySem.Spec PyProof.Rows L2
/-! ### the mathematics of steady holds -/
theorem head_min : ∀ {s : List Nat} {g : Nat → Bool} {j o : Nat}, (s.filter g).head? = some j → o ∈ s.filter g → s.idxOf j ≤ s.idxOf o
  | [], g, j, o, h, _ => by simp at h
  | a :: t, g, j, o, h, ho => by
    rw [List.filter_cons] at h ho
    by_cases c : g a = true
    · rw [if_pos c] at h
      have e : a = j := by simpa using h
      subst e
      simp
    · rw [if_neg c] at h ho
      have ih := head_min h ho
      have hj : j ≠ a := fun e => by
        have := List.mem_of_mem_head? (show j ∈ (t.filter g).head? from h)
        rw [List.mem_filter, e] at this
        exact c this.2
      have ho' : o ≠ a := fun e => by
        rw [List.mem_filter, e] at ho
        exact c ho.2
      have e1 : (a == j) = false := beq_eq_false_iff_ne.mpr (Ne.symm hj)
      have e2 : (a == o) = false := beq_eq_false_iff_ne.mpr (Ne.symm ho')
      rw [List.idxOf_cons, List.idxOf_cons, e1, e2]
      show t.idxOf j + 1 ≤ t.idxOf o + 1
      omega
def fst (ls : List (List Nat)) (hs : List (Option Nat)) (p : Nat) : Option Nat := (leftL ls hs p).head?
theorem ha_firsts {ls : List (List Nat)} {hs : List (Option Nat)} {p : Nat} (h : p < ls.length) : ha (firsts ls hs) p = fst ls hs p := by
  unfold ha firsts fst
  rw [List.getD_eq_getElem?_getD, List.getElem?_map, List.getElem?_range h]
  rfl
section
variable {ls : List (List Nat)} {hs : List (Option Nat)} (ok : ListsOk ls.length ls)
include ok in
theorem leftL_filter {p : Nat} (hp : p < ls.length) : leftL ls hs p = (la ls p).filter (fun o => decide ((la ls p).idxOf o ≤ most ls hs p) && keepF ls hs p o) := by
  have tf := take_filter (ok.nda hp) (most ls hs p)
  unfold leftL
  rw [← tf, List.filter_filter]
  refine List.filter_congr fun x _ => ?_
  rw [Bool.and_comm]
theorem fst_mem {p j : Nat} (e : fst ls hs p = some j) : j ∈ leftL ls hs p := List.mem_of_mem_head? (show j ∈ (leftL ls hs p).head? from e)
include ok in
theorem fst_min {p j o : Nat} (hp : p < ls.length) (e : fst ls hs p = some j) (ho : o ∈ leftL ls hs p) : (la ls p).idxOf j ≤ (la ls p).idxOf o := by
  unfold fst at e
  rw [leftL_filter ok hp] at e ho
  exact head_min e ho
theorem fst_none {p : Nat} : fst ls hs p = none ↔ leftL ls hs p = [] := by
  unfold fst
  rw [List.head?_eq_none_iff]
include ok in
theorem left_sym {p o : Nat} (hp : p < ls.length) (h : o ∈ leftL ls hs p) : o < ls.length ∧ p ∈ leftL ls hs o := by
  obtain ⟨h1, h2, h3⟩ := (mem_left ok hp).mp h
  obtain ⟨k1, k2, k3⟩ := ok.mate hp h1
  exact ⟨k1, (mem_left ok k1).mpr ⟨k3, h3, h2⟩⟩
theorem idx_inj {p a b : Nat} (h1 : a ∈ la ls p) (h2 : b ∈ la ls p) (e : (la ls p).idxOf a = (la ls p).idxOf b) : a = b := by
  have l1 := List.idxOf_lt_length_of_mem h1
  have l2 := List.idxOf_lt_length_of_mem h2
  have e1 : (la ls p)[(la ls p).idxOf a]? = some a := by rw [List.getElem?_eq_getElem l1, List.getElem_idxOf]
  have e2 : (la ls p)[(la ls p).idxOf b]? = some b := by rw [List.getElem?_eq_getElem l2, List.getElem_idxOf]
  rw [e] at e1
  rw [e1] at e2
  exact Option.some.inj e2
/-- steady: whom one holds has one as its first one, and the other way round -/
structure Std (ls : List (List Nat)) (hs : List (Option Nat)) : Prop where
  a : ∀ p j, p < ls.length → ha hs p = some j → fst ls hs j = some p
  b : ∀ p j, p < ls.length → fst ls hs p = some j → ha hs j = some p
theorem hitB_iff {xs : List (Option Nat)} {o : Option Nat} {p : Nat} : hitB xs o p = true ↔ ∀ j, o = some j → ha xs j = some p := by
  cases o with
  | none => exact ⟨fun _ j e => (by cases e), fun _ => rfl⟩
  | some j =>
    unfold hitB
    rw [decide_eq_true_eq]
    exact ⟨fun h k e => (by cases e; exact h), fun h => h j rfl⟩
include ok in
theorem steadyB_iff (ho : HoldsOk ls hs) : steadyB ls hs = true ↔ Std ls hs := by
  unfold steadyB
  rw [Bool.and_eq_true, List.all_eq_true, List.all_eq_true]
  constructor
  · rintro ⟨h1, h2⟩
    refine ⟨fun p j hp e => ?_, fun p j hp e => ?_⟩
    · have := hitB_iff.mp (h1 p (List.mem_range.mpr hp)) j e
      have hj := (ok.mate hp (ho.on p j e).2).1
      rw [ha_firsts hj] at this
      exact this
    · exact hitB_iff.mp (h2 p (List.mem_range.mpr hp)) j (by rw [ha_firsts hp]; exact e)
  · intro h
    refine ⟨fun p hp => hitB_iff.mpr fun j e => ?_, fun p hp => hitB_iff.mpr fun j e => ?_⟩
    · have hp' := List.mem_range.mp hp
      have hj := (ok.mate hp' (ho.on p j e).2).1
      rw [ha_firsts hj]
      exact h.a p j hp' e
    · have hp' := List.mem_range.mp hp
      rw [ha_firsts hp'] at e
      exact h.b p j hp' e
theorem most_some {p j : Nat} (e : ha hs p = some j) : most ls hs p = (la ls p).idxOf j := by
  unfold most
  rw [e]
  rfl
theorem most_none {p : Nat} (e : ha hs p = none) : most ls hs p = (la ls p).length := by
  unfold most
  rw [e]
  rfl
theorem nodup_sub_len : ∀ {s t : List Nat}, s.Nodup → (∀ x ∈ s, x ∈ t) → s.length ≤ t.length
  | [], t, _, _ => Nat.zero_le _
  | a :: r, t, nd, h => by
    have h1 := nodup_sub_len (s := r) (t := t.erase a) (List.nodup_cons.mp nd).2 fun x hx => by
      have ne : x ≠ a := fun e => (List.nodup_cons.mp nd).1 (e ▸ hx)
      exact (List.mem_erase_of_ne ne).mpr (h x (by simp [hx]))
    have h2 := List.length_erase_of_mem (h a (by simp))
    have h3 : 0 < t.length := List.length_pos_of_mem (h a (by simp))
    rw [List.length_cons]
    omega
/-- pigeons -/
theorem pigeon : ∀ {n : Nat} {A B : Nat → Prop} [DecidablePred A] [DecidablePred B] (f : Nat → Nat), (∀ p < n, A p → f p < n ∧ B (f p)) → (∀ p q, p < n → q < n → A p → A q → f p = f q → p = q) → (∀ p, B p → A p) → ∀ p < n, A p → B p := by
  intro n A B _ _ f h1 h2 h3 p hp ha
  refine Classical.byContradiction fun hb => ?_
  have sub : ((List.range n).filter fun x => decide (A x)).length ≤ ((List.range n).filter fun x => decide (B x)).length := by
    have hm : (((List.range n).filter fun x => decide (A x)).map f).Nodup := by
      refine List.pairwise_map.mpr (List.Pairwise.imp_of_mem ?_ (List.Pairwise.filter _ (List.nodup_range (n := n))))
      intro x y hx hy ne e
      rw [List.mem_filter, List.mem_range, decide_eq_true_eq] at hx hy
      exact ne (h2 x y hx.1 hy.1 hx.2 hy.2 e)
    have := nodup_sub_len hm (t := (List.range n).filter fun x => decide (B x)) fun y hy => by
      obtain ⟨x, hx, rfl⟩ := List.mem_map.mp hy
      rw [List.mem_filter, List.mem_range, decide_eq_true_eq] at hx
      rw [List.mem_filter, List.mem_range, decide_eq_true_eq]
      exact h1 x hx.1 hx.2
    rwa [List.length_map] at this
  have less : (p :: ((List.range n).filter fun x => decide (B x))).length ≤ ((List.range n).filter fun x => decide (A x)).length := by
    refine nodup_sub_len ?_ fun y hy => ?_
    · rw [List.nodup_cons]
      refine ⟨fun h => ?_, List.Pairwise.filter _ (List.nodup_range (n := n))⟩
      rw [List.mem_filter, decide_eq_true_eq] at h
      exact hb h.2
    · rw [List.mem_filter, List.mem_range, decide_eq_true_eq]
      rcases List.mem_cons.mp hy with rfl | h
      · exact ⟨hp, ha⟩
      · rw [List.mem_filter, List.mem_range, decide_eq_true_eq] at h
        exact ⟨h.1, h3 y h.2⟩
  rw [List.length_cons] at less
  omega
end
end K14
namespace K14
open PySem PySem.Spec PyProof.Rows L2
section
variable {ls : List (List Nat)} {hs : List (Option Nat)} (ok : ListsOk ls.length ls)
include ok in
/-- in steady holds just those hold somebody who have somebody left -/
theorem std_held (ho : HoldsOk ls hs) (st : Std ls hs) {p : Nat} (hp : p < ls.length) : (ha hs p ≠ none ↔ leftL ls hs p ≠ []) := by
  have lt : ∀ p j, p < ls.length → ha hs p = some j → j < ls.length := fun p j hp e => (ok.mate hp (ho.on p j e).2).1
  have one : ∀ p, p < ls.length → ha hs p ≠ none → leftL ls hs p ≠ [] := fun p hp h => by
    cases e : ha hs p with
    | none => exact absurd e h
    | some j =>
      have h1 := fst_mem (st.a p j hp e)
      have h2 := (left_sym ok (lt p j hp e) h1).2
      exact List.ne_nil_of_mem h2
  refine ⟨one p hp, fun h => ?_⟩
  have key := pigeon (n := ls.length) (A := fun p => p < ls.length ∧ leftL ls hs p ≠ []) (B := fun p => p < ls.length ∧ ha hs p ≠ none) (fun p => (fst ls hs p).getD 0) (fun p hp h => ?_) (fun p q hp hq h1 h2 e => ?_) (fun p h => ⟨h.1, one p h.1 h.2⟩) p hp ⟨hp, h⟩
  · exact key.2
  · cases e : fst ls hs p with
    | none => exact absurd (fst_none.mp e) h.2
    | some j =>
      have hj := (left_sym ok hp (fst_mem e)).1
      refine ⟨hj, hj, ?_⟩
      show ha hs j ≠ none
      rw [st.b p j hp e]
      exact fun z => by cases z
  · cases e1 : fst ls hs p with
    | none => exact absurd (fst_none.mp e1) h1.2
    | some j =>
      cases e2 : fst ls hs q with
      | none => exact absurd (fst_none.mp e2) h2.2
      | some k =>
        rw [e1, e2] at e
        have : j = k := e
        subst this
        have a1 := st.b p j hp e1
        have a2 := st.b q j hq e2
        rw [a1] at a2
        exact Option.some.inj a2
def rowOf (ls : List (List Nat)) (hs : List (Option Nat)) : List Nat := (List.range ls.length).map fun p => (fst ls hs p).getD p
theorem rowOf_at {p : Nat} (hp : p < ls.length) : (rowOf ls hs)[p]? = some ((fst ls hs p).getD p) := by
  unfold rowOf
  rw [List.getElem?_map, List.getElem?_range hp]
  rfl
theorem rowOf_len : (rowOf ls hs).length = ls.length := by simp [rowOf]
include ok in
theorem row_parts (ho : HoldsOk ls hs) (st : Std ls hs) : rowOf ls hs ∈ parts ls ls.length := by
  have inj : ∀ p q, p < ls.length → q < ls.length → (fst ls hs p).getD p = (fst ls hs q).getD q → p = q := by
    intro p q hp hq e
    cases e1 : fst ls hs p with
    | none =>
      cases e2 : fst ls hs q with
      | none => rw [e1, e2] at e; exact e
      | some k =>
        rw [e1, e2] at e
        have e' : p = k := e
        have hk := st.b q k hq e2
        rw [← e'] at hk
        exact absurd (fst_none.mp e1) ((std_held ok ho st hp).mp (by rw [hk]; exact fun z => by cases z))
    | some j =>
      cases e2 : fst ls hs q with
      | none =>
        rw [e1, e2] at e
        have e' : j = q := e
        have hj := st.b p j hp e1
        rw [e'] at hj
        exact absurd (fst_none.mp e2) ((std_held ok ho st hq).mp (by rw [hj]; exact fun z => by cases z))
      | some k =>
        rw [e1, e2] at e
        have e' : j = k := e
        subst e'
        have a1 := st.b p j hp e1
        have a2 := st.b q j hq e2
        rw [a1] at a2
        exact Option.some.inj a2
  refine parts_all _ _ rowOf_len ?_ fun i x e => ?_
  · unfold rowOf
    refine List.pairwise_map.mpr (List.Pairwise.imp_of_mem ?_ (List.nodup_range (n := ls.length)))
    intro p q hp hq ne e
    exact ne (inj p q (List.mem_range.mp hp) (List.mem_range.mp hq) e)
  · have hi : i < ls.length := by
      have := (List.getElem?_eq_some_iff.mp e).1
      rwa [rowOf_len] at this
    rw [rowOf_at hi] at e
    have e := Option.some.inj e
    cases e1 : fst ls hs i with
    | none => rw [e1] at e; exact .inr e.symm
    | some j =>
      rw [e1] at e
      have : j = x := e
      subst this
      exact .inl ((mem_left ok hi).mp (fst_mem e1)).1
theorem bef_iff {row : List Nat} (nd : row.Nodup) {j i : Nat} : bef row j = some i ↔ row[i]? = some j ∧ i ≠ j := by
  refine ⟨bef_some, fun h => ?_⟩
  unfold bef
  have hm := List.mem_of_getElem? h.1
  have ix := idx_at nd h.1
  rw [if_pos ⟨hm, by rw [ix]; exact h.2⟩, ix]
theorem opt_ext {a b : Option Nat} (h : ∀ x, a = some x ↔ b = some x) : a = b := by
  cases a with
  | none =>
    cases b with
    | none => rfl
    | some y => exact absurd ((h y).mpr rfl) (fun z => by cases z)
  | some x => exact ((h x).mp rfl).symm
include ok in
theorem row_bef (ho : HoldsOk ls hs) (st : Std ls hs) {j : Nat} (hj : j < ls.length) : bef (rowOf ls hs) j = ha hs j := by
  have pr := parts_row_ok ok (row_parts ok ho st)
  refine opt_ext fun i => ?_
  rw [bef_iff pr.ok.nd]
  constructor
  · rintro ⟨h1, h2⟩
    have hi : i < ls.length := by
      have := (List.getElem?_eq_some_iff.mp h1).1
      rwa [rowOf_len] at this
    rw [rowOf_at hi] at h1
    have h1 := Option.some.inj h1
    cases e : fst ls hs i with
    | none => rw [e] at h1; exact absurd h1 h2
    | some k =>
      rw [e] at h1
      have : k = j := h1
      subst this
      exact st.b i k hi e
  · intro e
    have hi := (ok.mate hj (ho.on j i e).2)
    refine ⟨?_, hi.2.1⟩
    rw [rowOf_at hi.1, st.a j i hj e]
    rfl
theorem row_nxt {p : Nat} (ok : ListsOk ls.length ls) (hp : p < ls.length) : nxt (rowOf ls hs) p = fst ls hs p := by
  unfold nxt
  have e : (rowOf ls hs).getD p p = (fst ls hs p).getD p := by
    rw [List.getD_eq_getElem?_getD, rowOf_at hp]
    rfl
  rw [e]
  cases e1 : fst ls hs p with
  | none => exact if_pos rfl
  | some j =>
    have := (ok.mate hp ((mem_left ok hp).mp (fst_mem e1)).1).2.1
    rw [if_neg (show ¬ (some j).getD p = p from this)]
    rfl
theorem most_eq {h1 h2 : List (Option Nat)} {p : Nat} (e : ha h1 p = ha h2 p) : most ls h1 p = most ls h2 p := by
  unfold most
  rw [e]
include ok in
theorem std_fits (ho : HoldsOk ls hs) (st : Std ls hs) : Fits ls (rowOf ls hs) (nxts (rowOf ls hs)) := by
  intro p hp
  have hb : ∀ q, q < ls.length → most ls (befs (rowOf ls hs)) q = most ls hs q := fun q hq => most_eq (by rw [befs_get (by rw [rowOf_len]; exact hq), row_bef ok ho st hq])
  have hn : ha (nxts (rowOf ls hs)) p = fst ls hs p := by rw [nxts_get (by rw [rowOf_len]; exact hp), row_nxt ok hp]
  refine ⟨?_, fun o hom => ?_⟩
  · rw [hb p hp]
    cases e : fst ls hs p with
    | none =>
      have h0 : ha hs p = none := Classical.byContradiction fun z => (std_held ok ho st hp).mp z (fst_none.mp e)
      rw [most_none h0, most_none (hn.trans e)]
      omega
    | some j =>
      rw [most_some (hn.trans e)]
      have := ((mem_left ok hp).mp (fst_mem e)).2.1
      omega
  · obtain ⟨k1, _, k3⟩ := ok.mate hp hom
    rw [hb o k1]
    rintro ⟨h1, h2⟩
    cases e : fst ls hs p with
    | none =>
      have h0 : ha hs p = none := Classical.byContradiction fun z => (std_held ok ho st hp).mp z (fst_none.mp e)
      have hl := List.idxOf_lt_length_of_mem hom
      have : o ∈ leftL ls hs p := (mem_left ok hp).mpr ⟨hom, by rw [most_none h0]; omega, by omega⟩
      rw [fst_none.mp e] at this
      cases this
    | some j =>
      rw [most_some (hn.trans e)] at h1
      have hj := ((mem_left ok hp).mp (fst_mem e)).2.1
      have : o ∈ leftL ls hs p := (mem_left ok hp).mpr ⟨hom, by omega, by omega⟩
      have := fst_min ok hp e this
      omega
include ok in
/-- a parting in which nobody bars tells steady holds -/
theorem fits_std {row : List Nat} (hr : row ∈ parts ls ls.length) (ft : Fits ls row (nxts row)) : Std ls (befs row) := by
  have pr := parts_row_ok ok hr
  have rl := pr.ok.len
  have hb : ∀ q, q < ls.length → ha (befs row) q = bef row q := fun q hq => befs_get (by rw [rl]; exact hq)
  have hn : ∀ q, q < ls.length → ha (nxts row) q = nxt row q := fun q hq => nxts_get (by rw [rl]; exact hq)
  have nx : ∀ p j, p < ls.length → (nxt row p = some j ↔ row[p]? = some j ∧ j ≠ p) := fun p j hp => by
    have e : row[p]? = some (row.getD p p) := by rw [List.getD_eq_getElem?_getD, List.getElem?_eq_getElem (by omega)]; rfl
    unfold nxt
    rw [e]
    by_cases c : row.getD p p = p
    · rw [if_pos c, c]
      exact ⟨fun z => (by cases z), fun z => absurd (Option.some.inj z.1).symm z.2⟩
    · rw [if_neg c]
      exact ⟨fun z => ⟨z, by rw [← Option.some.inj z]; exact c⟩, fun z => z.1⟩
  have bf : ∀ p j, (bef row j = some p ↔ row[p]? = some j ∧ p ≠ j) := fun p j => bef_iff pr.ok.nd
  have ff : ∀ p, p < ls.length → fst ls (befs row) p = nxt row p := by
    intro p hp
    have fp := ft p hp
    cases e : nxt row p with
    | none =>
      rw [fst_none]
      refine List.eq_nil_iff_forall_not_mem.mpr fun o hom => ?_
      obtain ⟨m1, m2, m3⟩ := (mem_left ok hp).mp hom
      obtain ⟨k1, k2, k3⟩ := ok.mate hp m1
      refine fp.2 o m1 ⟨?_, ?_⟩
      · rw [most_none ((hn p hp).trans e)]
        exact List.idxOf_lt_length_of_mem m1
      · refine Nat.lt_of_le_of_ne m3 fun z => ?_
        cases eo : bef row o with
        | none =>
          rw [most_none ((hb o k1).trans eo)] at z
          have := List.idxOf_lt_length_of_mem k3
          omega
        | some q =>
          rw [most_some ((hb o k1).trans eo)] at z
          obtain ⟨r1, r2⟩ := (bf q o).mp eo
          have qm : q ∈ la ls o := (befs_ok ok pr).on o q ((hb o k1).trans eo) |>.2
          have : p = q := idx_inj k3 qm z
          subst this
          have := (nx p o hp).mpr ⟨r1, Ne.symm r2⟩
          rw [e] at this
          cases this
    | some j =>
      obtain ⟨r1, r2⟩ := (nx p j hp).mp e
      have hbj : bef row j = some p := (bf p j).mpr ⟨r1, Ne.symm r2⟩
      have jm : j ∈ la ls p := (pr.on p j r1).resolve_right r2
      obtain ⟨j1, _, j3⟩ := ok.mate hp jm
      have nm := most_some (ls := ls) ((hn p hp).trans e)
      have bm := most_some (ls := ls) ((hb j j1).trans hbj)
      have jl : j ∈ leftL ls (befs row) p := (mem_left ok hp).mpr ⟨jm, by have := fp.1; rw [nm] at this; omega, by rw [bm]; omega⟩
      cases ef : fst ls (befs row) p with
      | none =>
        rw [fst_none.mp ef] at jl
        cases jl
      | some o =>
        congr 1
        have om := fst_mem ef
        obtain ⟨m1, m2, m3⟩ := (mem_left ok hp).mp om
        obtain ⟨k1, k2, k3⟩ := ok.mate hp m1
        have le := fst_min ok hp ef jl
        refine Classical.byContradiction fun ne => ?_
        have lt : (la ls p).idxOf o < (la ls p).idxOf j := Nat.lt_of_le_of_ne le fun z => ne (idx_inj m1 jm z)
        refine fp.2 o m1 ⟨by rw [nm]; exact lt, Nat.lt_of_le_of_ne m3 fun z => ?_⟩
        cases eo : bef row o with
        | none =>
          rw [most_none ((hb o k1).trans eo)] at z
          have := List.idxOf_lt_length_of_mem k3
          omega
        | some q =>
          rw [most_some ((hb o k1).trans eo)] at z
          obtain ⟨r3, r4⟩ := (bf q o).mp eo
          have qm : q ∈ la ls o := ((befs_ok ok pr).on o q ((hb o k1).trans eo)).2
          have : p = q := idx_inj k3 qm z
          subst this
          rw [r1] at r3
          exact ne (Option.some.inj r3).symm
  refine ⟨fun p j hp e => ?_, fun p j hp e => ?_⟩
  · rw [hb p hp] at e
    obtain ⟨r1, r2⟩ := (bf j p).mp e
    have hj : j < ls.length := by
      have := (List.getElem?_eq_some_iff.mp r1).1
      omega
    rw [ff j hj]
    exact (nx j p hj).mpr ⟨r1, Ne.symm r2⟩
  · rw [ff p hp] at e
    obtain ⟨r1, r2⟩ := (nx p j hp).mp e
    have hj := pr.ok.lt j (List.mem_of_getElem? r1)
    rw [hb j hj]
    exact (bf p j).mpr ⟨r1, Ne.symm r2⟩
end
end K14
namespace K14
open PySem PySem.Spec PyProof.Rows L2
/-! ### there are steady holds: asking ends -/
def sumM (ls : List (List Nat)) (hs : List (Option Nat)) : Nat := ((List.range ls.length).map (most ls hs)).sum
theorem sum_lt {n : Nat} {f g : Nat → Nat} (h : ∀ i < n, f i ≤ g i) {j : Nat} (hj : j < n) (lt : f j < g j) : ((List.range n).map f).sum < ((List.range n).map g).sum := by
  have le : ∀ m, m ≤ n → ((List.range m).map f).sum ≤ ((List.range m).map g).sum := by
    intro m
    induction m with
    | zero => intro _; exact Nat.le_refl _
    | succ m ih =>
      intro hm
      rw [List.range_succ, List.map_append, List.map_append, List.sum_append, List.sum_append]
      have := ih (by omega)
      have := h m (by omega)
      simp
      omega
  have key : ∀ m, m ≤ n → j < m → ((List.range m).map f).sum < ((List.range m).map g).sum := by
    intro m
    induction m with
    | zero => intro _ h; omega
    | succ m ih =>
      intro hm hjm
      rw [List.range_succ, List.map_append, List.map_append, List.sum_append, List.sum_append]
      have h1 := h m (by omega)
      by_cases c : j = m
      · subst c
        have := le j (by omega)
        simp
        omega
      · have := ih (by omega) (by omega)
        simp
        omega
  exact key n (Nat.le_refl _) hj
/-- holds in which whom one holds has one as its first one -/
structure Half (ls : List (List Nat)) (hs : List (Option Nat)) : Prop where
  ok : HoldsOk ls hs
  a : ∀ p j, p < ls.length → ha hs p = some j → fst ls hs j = some p
theorem ha_set {hs : List (Option Nat)} {j p q : Nat} (hj : j < hs.length) : ha (hs.set j (some p)) q = if q = j then some p else ha hs q := by
  unfold ha
  rw [List.getD_eq_getElem?_getD, List.getElem?_set, List.getD_eq_getElem?_getD]
  by_cases c : j = q
  · subst c
    rw [if_pos rfl, if_pos hj, if_pos rfl]
    rfl
  · rw [if_neg c, if_neg (fun z => c z.symm)]
section
variable {ls : List (List Nat)} {hs : List (Option Nat)} (ok : ListsOk ls.length ls)
include ok in
theorem ask (h : Half ls hs) {p j : Nat} (hp : p < ls.length) (e : fst ls hs p = some j) (free : ∀ q, q < ls.length → ha hs q ≠ some p) : Half ls (hs.set j (some p)) ∧ sumM ls (hs.set j (some p)) < sumM ls hs := by
  have jm := fst_mem e
  obtain ⟨m1, m2, m3⟩ := (mem_left ok hp).mp jm
  obtain ⟨j1, j2, j3⟩ := ok.mate hp m1
  have jl : j < hs.length := by rw [h.ok.len]; exact j1
  have hset := fun q => ha_set (hs := hs) (j := j) (p := p) (q := q) jl
  have mj : most ls (hs.set j (some p)) j = (la ls j).idxOf p := most_some (by rw [hset, if_pos rfl])
  have mo : ∀ q, q ≠ j → most ls (hs.set j (some p)) q = most ls hs q := fun q nq => most_eq (by rw [hset, if_neg nq])
  have lt : (la ls j).idxOf p < most ls hs j := by
    refine Nat.lt_of_le_of_ne m3 fun z => ?_
    cases ej : ha hs j with
    | none =>
      rw [most_none ej] at z
      have := List.idxOf_lt_length_of_mem j3
      omega
    | some q =>
      rw [most_some ej] at z
      have qm := (h.ok.on j q ej).2
      have : p = q := idx_inj j3 qm z
      subst this
      exact free j j1 ej
  have le : ∀ q, q < ls.length → most ls (hs.set j (some p)) q ≤ most ls hs q := fun q _ => by
    by_cases c : q = j
    · subst c
      rw [mj]
      omega
    · rw [mo q c]
      exact Nat.le_refl _
  have okk : HoldsOk ls (hs.set j (some p)) := by
    refine ⟨by rw [List.length_set]; exact h.ok.len, fun q k ek => ?_⟩
    rw [hset] at ek
    by_cases c : q = j
    · rw [if_pos c] at ek
      cases ek
      rw [c]
      exact ⟨j1, j3⟩
    · rw [if_neg c] at ek
      exact h.ok.on q k ek
  have sub : ∀ q o, q < ls.length → o ∈ leftL ls (hs.set j (some p)) q → o ∈ leftL ls hs q := fun q o hq ho => by
    obtain ⟨a1, a2, a3⟩ := (mem_left ok hq).mp ho
    have k1 := (ok.mate hq a1).1
    exact (mem_left ok hq).mpr ⟨a1, Nat.le_trans a2 (le q hq), Nat.le_trans a3 (le o k1)⟩
  -- whoever stays left and was the first one is so still
  have stay : ∀ q k, q < ls.length → fst ls hs q = some k → k ∈ leftL ls (hs.set j (some p)) q → fst ls (hs.set j (some p)) q = some k := fun q k hq eq hk => by
    cases e2 : fst ls (hs.set j (some p)) q with
    | none => rw [fst_none.mp e2] at hk; cases hk
    | some o =>
      have om := fst_mem e2
      have h1 := fst_min ok hq e2 hk
      have h2 := fst_min ok hq eq (sub q o hq om)
      have a1 := ((mem_left ok hq).mp om).1
      have a2 := ((mem_left ok hq).mp hk).1
      rw [idx_inj a1 a2 (by omega)]
  refine ⟨⟨okk, fun q k hq ek => ?_⟩, sum_lt (fun q hq => le q hq) j1 (by rw [mj]; exact lt)⟩
  rw [hset] at ek
  by_cases c : q = j
  · rw [if_pos c] at ek
    cases ek
    rw [c]
    refine stay p j hp e ((mem_left ok hp).mpr ⟨m1, ?_, by rw [mj]; exact Nat.le_refl _⟩)
    rw [mo p (fun z => j2 z.symm)]
    exact m2
  · rw [if_neg c] at ek
    have eq := h.a q k hq ek
    have kl := (ok.mate hq (h.ok.on q k ek).2).1
    have qm := fst_mem eq
    obtain ⟨b1, b2, b3⟩ := (mem_left ok kl).mp qm
    refine stay k q kl eq ((mem_left ok kl).mpr ⟨b1, ?_, by rw [mo q c]; exact b3⟩)
    by_cases d : k = j
    · subst d
      rw [mj]
      have := fst_min ok kl eq ((left_sym ok hp jm).2)
      exact this
    · rw [mo k d]
      exact b2
include ok in
theorem std_ex : ∀ (n : Nat) (hs : List (Option Nat)), Half ls hs → sumM ls hs ≤ n → ∃ hs', HoldsOk ls hs' ∧ Std ls hs' := by
  intro n
  induction n with
  | zero =>
    intro hs h hn
    by_cases c : ∃ p j, p < ls.length ∧ fst ls hs p = some j ∧ ∀ q, q < ls.length → ha hs q ≠ some p
    · obtain ⟨p, j, hp, e, fr⟩ := c
      have := (ask ok h hp e fr).2
      omega
    · refine ⟨hs, h.ok, h.a, fun p j hp e => ?_⟩
      refine Classical.byContradiction fun ne => c ⟨p, j, hp, e, fun q hq eq => ?_⟩
      have := h.a q p hq eq
      rw [e] at this
      cases this
      exact ne eq
  | succ n ih =>
    intro hs h hn
    by_cases c : ∃ p j, p < ls.length ∧ fst ls hs p = some j ∧ ∀ q, q < ls.length → ha hs q ≠ some p
    · obtain ⟨p, j, hp, e, fr⟩ := c
      obtain ⟨h1, h2⟩ := ask ok h hp e fr
      exact ih _ h1 (by omega)
    · refine ⟨hs, h.ok, h.a, fun p j hp e => ?_⟩
      refine Classical.byContradiction fun ne => c ⟨p, j, hp, e, fun q hq eq => ?_⟩
      have := h.a q p hq eq
      rw [e] at this
      cases this
      exact ne eq
include ok in
theorem steady_ex : ∃ row, row ∈ parts ls ls.length ∧ Fits ls row (nxts row) := by
  have h0 : Half ls (List.replicate ls.length none) := by
    have hn : ∀ q, ha (List.replicate ls.length (none : Option Nat)) q = none := fun q => by
      unfold ha
      rw [List.getD_eq_getElem?_getD, List.getElem?_replicate]
      split <;> rfl
    exact ⟨⟨by simp, fun p j e => by rw [hn] at e; cases e⟩, fun p j _ e => by rw [hn] at e; cases e⟩
  obtain ⟨hs, ho, st⟩ := std_ex ok _ _ h0 (Nat.le_refl _)
  exact ⟨rowOf ls hs, row_parts ok ho st, std_fits ok ho st⟩
include ok in
/-- which holds are steady: those before of the partings in which nobody bars -/
theorem steady_iff (ho : HoldsOk ls hs) : steadyB ls hs = true ↔ ∃ row, row ∈ parts ls ls.length ∧ Fits ls row (nxts row) ∧ befs row = hs := by
  rw [steadyB_iff ok ho]
  constructor
  · intro st
    refine ⟨rowOf ls hs, row_parts ok ho st, std_fits ok ho st, ?_⟩
    apply List.ext_getElem?
    intro j
    by_cases c : j < ls.length
    · rw [ha_get (hs := befs (rowOf ls hs)) (by simp [befs, rowOf_len]; exact c), ha_get (by rw [ho.len]; exact c), befs_get (by rw [rowOf_len]; exact c), row_bef ok ho st c]
    · rw [List.getElem?_eq_none (by simp [befs, rowOf_len]; omega), List.getElem?_eq_none (by rw [ho.len]; omega)]
  · rintro ⟨row, h1, h2, rfl⟩
    exact fits_std ok h1 h2
theorem last_max : ∀ {s : List Nat} {g : Nat → Bool} {j : Nat}, s.Nodup → j ∈ s.filter g → (∀ o ∈ s.filter g, s.idxOf o ≤ s.idxOf j) → (s.filter g).getLast? = some j
  | [], g, j, _, h, _ => by simp at h
  | a :: t, g, j, nd, h, mx => by
    have tail : ∀ o, o ≠ a → (a :: t).idxOf o = t.idxOf o + 1 := fun o no => by
      have e : (a == o) = false := beq_eq_false_iff_ne.mpr (Ne.symm no)
      rw [List.idxOf_cons, e]
      rfl
    have na : ∀ o ∈ t, o ≠ a := fun o ho z => (List.nodup_cons.mp nd).1 (z ▸ ho)
    rw [List.filter_cons] at h mx ⊢
    by_cases c : g a = true
    · rw [if_pos c] at h mx ⊢
      by_cases d : j = a
      · subst d
        have emp : t.filter g = [] := by
          refine List.eq_nil_iff_forall_not_mem.mpr fun o ho => ?_
          have h1 := mx o (by simp [ho])
          have ht := (List.mem_filter.mp ho).1
          rw [tail o (na o ht)] at h1
          simp at h1
        rw [emp]
        rfl
      · have hj : j ∈ t.filter g := by
          rcases List.mem_cons.mp h with z | z
          · exact absurd z d
          · exact z
        have ih := last_max (List.nodup_cons.mp nd).2 hj fun o ho => by
          have h1 := mx o (by simp [ho])
          rw [tail o (na o (List.mem_filter.mp ho).1), tail j d] at h1
          omega
        rw [List.getLast?_cons, ih]
        rfl
    · rw [if_neg c] at h mx ⊢
      exact last_max (List.nodup_cons.mp nd).2 h fun o ho => by
        have h1 := mx o ho
        rw [tail o (na o (List.mem_filter.mp ho).1), tail j (na j (List.mem_filter.mp h).1)] at h1
        omega
include ok in
/-- steady holds leave as last ones those that are held -/
theorem last_held (ho : HoldsOk ls hs) (st : Std ls hs) {p : Nat} (hp : p < ls.length) : (leftL ls hs p).getLast? = ha hs p := by
  cases e : ha hs p with
  | none =>
    have : leftL ls hs p = [] := Classical.byContradiction fun z => (std_held ok ho st hp).mpr z e
    rw [this]
    rfl
  | some j =>
    obtain ⟨_, jm⟩ := ho.on p j e
    obtain ⟨j1, _, j3⟩ := ok.mate hp jm
    have h1 := fst_mem (st.a p j hp e)
    have h2 := (left_sym ok j1 h1).2
    rw [leftL_filter ok hp] at h2 ⊢
    refine last_max (ok.nda hp) h2 fun o hom => ?_
    have := (List.mem_filter.mp hom).2
    rw [Bool.and_eq_true, decide_eq_true_eq, most_some e] at this
    exact this.1
end
end K14
namespace K14
open PySem PySem.Spec PyProof.Rows L2
/-! ### rings turned out: steady holds that leave somebody three or more have lesser ones -/
theorem min_ex (f : Nat → Nat) : ∀ (l : List Nat), l ≠ [] → ∃ m, m ∈ l ∧ ∀ o ∈ l, f m ≤ f o
  | [], h => absurd rfl h
  | [a], _ => ⟨a, by simp, fun o ho => by rw [List.mem_singleton.mp ho]; exact Nat.le_refl _⟩
  | a :: b :: t, _ => by
    obtain ⟨m, hm, h⟩ := min_ex f (b :: t) (by simp)
    by_cases c : f a ≤ f m
    · refine ⟨a, by simp, fun o ho => ?_⟩
      rcases List.mem_cons.mp ho with rfl | ho
      · exact Nat.le_refl _
      · exact Nat.le_trans c (h o ho)
    · refine ⟨m, List.mem_cons_of_mem _ hm, fun o ho => ?_⟩
      rcases List.mem_cons.mp ho with rfl | ho
      · omega
      · exact h o ho
section
variable {ls : List (List Nat)} {hs : List (Option Nat)} (ok : ListsOk ls.length ls)
include ok in
theorem left_nd {p : Nat} (hp : p < ls.length) : (leftL ls hs p).Nodup := by
  unfold leftL
  exact List.Pairwise.filter _ ((ok.nda hp).sublist (List.take_sublist _ _))
/-- the second one -/
structure Snd (ls : List (List Nat)) (hs : List (Option Nat)) (p s : Nat) : Prop where
  mem : s ∈ leftL ls hs p
  ne : fst ls hs p ≠ some s
  min : ∀ o ∈ leftL ls hs p, fst ls hs p ≠ some o → (la ls p).idxOf s ≤ (la ls p).idxOf o
include ok in
theorem snd_ex {p : Nat} (hp : p < ls.length) (h2 : 2 ≤ (leftL ls hs p).length) : ∃ s, Snd ls hs p s := by
  have nd := left_nd (hs := hs) ok hp
  cases e : leftL ls hs p with
  | nil => rw [e] at h2; simp at h2
  | cons a r =>
    have ef : fst ls hs p = some a := by unfold fst; rw [e]; rfl
    rw [e] at nd h2
    have hr : r ≠ [] := fun z => by rw [z] at h2; simp at h2
    obtain ⟨m, hm, hmin⟩ := min_ex (fun o => (la ls p).idxOf o) r hr
    refine ⟨m, by rw [e]; exact List.mem_cons_of_mem _ hm, fun z => ?_, fun o ho ne => ?_⟩
    · rw [ef] at z
      cases z
      exact (List.nodup_cons.mp nd).1 hm
    · rw [e] at ho
      rcases List.mem_cons.mp ho with rfl | ho
      · exact absurd ef ne
      · exact hmin o ho
theorem two_of {l : List Nat} {a b : Nat} (ha : a ∈ l) (hb : b ∈ l) (ne : a ≠ b) : 2 ≤ l.length := by
  have := nodup_sub_len (s := [a, b]) (t := l) (by simp [ne]) fun x hx => by
    rcases List.mem_cons.mp hx with rfl | hx
    · exact ha
    · rw [List.mem_singleton.mp hx]; exact hb
  simpa using this
theorem left_le {p o : Nat} {hs' : List (Option Nat)} (le : ∀ q, q < ls.length → most ls hs' q ≤ most ls hs q) (okk : ListsOk ls.length ls) (hp : p < ls.length) (h : o ∈ leftL ls hs' p) : o ∈ leftL ls hs p := by
  obtain ⟨a1, a2, a3⟩ := (mem_left okk hp).mp h
  exact (mem_left okk hp).mpr ⟨a1, Nat.le_trans a2 (le p hp), Nat.le_trans a3 (le o (okk.mate hp a1).1)⟩
/-- the giver behind: whom the second one holds -/
structure Giv (ls : List (List Nat)) (hs : List (Option Nat)) (p s q : Nat) : Prop where
  sn : Snd ls hs p s
  ps : p ∈ leftL ls hs s
  sl : s < ls.length
  held : ha hs s = some q
  fq : fst ls hs q = some s
  ql : q < ls.length
  ne : q ≠ p
  two : 2 ≤ (leftL ls hs q).length
include ok in
theorem giv_ex (ho : HoldsOk ls hs) (st : Std ls hs) {p : Nat} (hp : p < ls.length) (h2 : 2 ≤ (leftL ls hs p).length) : ∃ s q, Giv ls hs p s q := by
  obtain ⟨s, sn⟩ := snd_ex (hs := hs) ok hp h2
  obtain ⟨sl, ps⟩ := left_sym ok hp sn.mem
  have hne : ha hs s ≠ none := (std_held ok ho st sl).mpr (List.ne_nil_of_mem ps)
  cases eh : ha hs s with
  | none => exact absurd eh hne
  | some q =>
    have fq := st.a s q sl eh
    have ql := (ok.mate sl (ho.on s q eh).2).1
    have nq : q ≠ p := fun z => by
      rw [z] at fq
      exact sn.ne fq
    refine ⟨s, q, sn, ps, sl, eh, fq, ql, nq, ?_⟩
    -- whom q holds is not s
    have sq := fst_mem fq
    have hq : ha hs q ≠ none := (std_held ok ho st ql).mpr (List.ne_nil_of_mem sq)
    cases ek : ha hs q with
    | none => exact absurd ek hq
    | some k =>
      have kl := (ok.mate ql (ho.on q k ek).2).1
      have fk := st.a q k ql ek
      have kq := (left_sym ok kl (fst_mem fk)).2
      refine two_of sq kq fun z => ?_
      rw [← z] at fk
      -- then q is the first one of s, and the last one, but p is left, too
      have h1 := fst_min ok sl fk ps
      obtain ⟨m1, m2, m3⟩ := (mem_left ok sl).mp ps
      rw [most_some eh] at m2
      exact nq (idx_inj (ho.on s q eh).2 m1 (by omega))
end
end K14
namespace K14
open PySem PySem.Spec PyProof.Rows L2
/-- givers on rings: closed under the giver behind, each the giver behind of one, none barred -/
structure Rng (ls : List (List Nat)) (hs : List (Option Nat)) (s g : Nat → Nat) (X : Nat → Prop) : Prop where
  giv : ∀ p, X p → Giv ls hs p (s p) (g p)
  lt : ∀ p, X p → p < ls.length
  nx : ∀ p, X p → X (g p)
  pr : ∀ p, X p → ∃ z, X z ∧ g z = p
  inj : ∀ p z, X p → X z → g p = g z → p = z
  good : ∀ z, X z → X (s z) → fst ls hs (s z) ≠ some z
  ne : ∃ p, X p
section
variable {ls : List (List Nat)} {hs : List (Option Nat)} {s g : Nat → Nat} {X : Nat → Prop} (ok : ListsOk ls.length ls)
open Classical in
/-- the holds behind such a ring turned out -/
noncomputable def outOf (ls : List (List Nat)) (hs : List (Option Nat)) (s : Nat → Nat) (X : Nat → Prop) : List (Option Nat) :=
  (List.range ls.length).map fun y => if h : ∃ x, X x ∧ s x = y then some (Classical.choose h) else ha hs y
theorem out_at {y : Nat} (hy : y < ls.length) : ha (outOf ls hs s X) y = (open Classical in if h : ∃ x, X x ∧ s x = y then some (Classical.choose h) else ha hs y) := by
  unfold ha outOf
  rw [List.getD_eq_getElem?_getD, List.getElem?_map, List.getElem?_range hy]
  rfl
theorem out_yes (R : Rng ls hs s g X) {x : Nat} (hx : X x) : ha (outOf ls hs s X) (s x) = some x := by
  have G := R.giv x hx
  rw [out_at G.sl]
  have h : ∃ x', X x' ∧ s x' = s x := ⟨x, hx, rfl⟩
  rw [dif_pos h]
  have c := Classical.choose_spec h
  have G2 := R.giv _ c.1
  have e1 := G2.held
  rw [c.2, G.held] at e1
  rw [R.inj _ x c.1 hx (Option.some.inj e1).symm]
theorem out_no {y : Nat} (hy : y < ls.length) (h : ∀ x, X x → s x ≠ y) : ha (outOf ls hs s X) y = ha hs y := by
  rw [out_at hy, dif_neg (fun ⟨x, h1, h2⟩ => h x h1 h2)]
include ok in
theorem turn (ho : HoldsOk ls hs) (st : Std ls hs) (R : Rng ls hs s g X) : ∃ hs', HoldsOk ls hs' ∧ Std ls hs' ∧ (∀ q, q < ls.length → most ls hs' q ≤ most ls hs q) ∧ sumM ls hs' < sumM ls hs := by
  -- ranks
  have my : ∀ x, X x → most ls (outOf ls hs s X) (s x) = (la ls (s x)).idxOf x := fun x hx => most_some (out_yes R hx)
  have lt : ∀ x, X x → (la ls (s x)).idxOf x < most ls hs (s x) := fun x hx => by
    have G := R.giv x hx
    obtain ⟨m1, m2, m3⟩ := (mem_left ok G.sl).mp G.ps
    refine Nat.lt_of_le_of_ne m2 fun z => ?_
    rw [most_some G.held] at z
    exact G.ne (idx_inj (ho.on _ _ G.held).2 m1 z.symm)
  have mn : ∀ y, y < ls.length → (∀ x, X x → s x ≠ y) → most ls (outOf ls hs s X) y = most ls hs y := fun y hy h => most_eq (out_no hy h)
  have le : ∀ q, q < ls.length → most ls (outOf ls hs s X) q ≤ most ls hs q := fun q hq => by
    by_cases c : ∃ x, X x ∧ s x = q
    · obtain ⟨x, hx, ex⟩ := c; subst ex
      rw [my x hx]
      exact Nat.le_of_lt (lt x hx)
    · rw [mn q hq fun x hx z => c ⟨x, hx, z⟩]
      exact Nat.le_refl _
  have sub : ∀ {p o : Nat}, p < ls.length → o ∈ leftL ls (outOf ls hs s X) p → o ∈ leftL ls hs p := fun hp h => left_le le ok hp h
  have okk : HoldsOk ls (outOf ls hs s X) := by
    refine ⟨by simp [outOf], fun p j e => ?_⟩
    have hp : p < ls.length := by
      have := ha_lt e
      simpa [outOf] using this
    by_cases c : ∃ x, X x ∧ s x = p
    · obtain ⟨x, hx, ex⟩ := c; subst ex
      rw [out_yes R hx] at e
      cases e
      have G := R.giv j hx
      exact ⟨hp, ((mem_left ok hp).mp G.ps).1⟩
    · rw [out_no hp fun x hx z => c ⟨x, hx, z⟩] at e
      exact ho.on p j e
  -- who has its first one as such: whose first one is a taker
  have fstX : ∀ x, X x → ∃ z, X z ∧ g z = x ∧ fst ls hs x = some (s z) := fun x hx => by
    obtain ⟨z, hz, e⟩ := R.pr x hx
    refine ⟨z, hz, e, ?_⟩
    have := (R.giv z hz).fq
    rw [e] at this
    exact this
  -- the first one is the only possible one that is least
  have fst_is : ∀ {p k : Nat}, p < ls.length → k ∈ leftL ls (outOf ls hs s X) p → (∀ o ∈ leftL ls (outOf ls hs s X) p, (la ls p).idxOf k ≤ (la ls p).idxOf o) → fst ls (outOf ls hs s X) p = some k := fun {p k} hp hk hmin => by
    cases e : fst ls (outOf ls hs s X) p with
    | none => rw [fst_none.mp e] at hk; cases hk
    | some o =>
      have om := fst_mem e
      have h1 := fst_min ok hp e hk
      have h2 := hmin o om
      rw [idx_inj ((mem_left ok hp).mp om).1 ((mem_left ok hp).mp hk).1 (by omega)]
  have fA : ∀ x, X x → fst ls (outOf ls hs s X) x = some (s x) := fun x hx => by
    have G := R.giv x hx
    have xl := R.lt x hx
    obtain ⟨m1, m2, m3⟩ := (mem_left ok xl).mp G.sn.mem
    have bound : (la ls x).idxOf (s x) ≤ most ls (outOf ls hs s X) x := by
      by_cases c : ∃ z, X z ∧ s z = x
      · obtain ⟨z, hz, e⟩ := c
        have h1 := my z hz
        rw [e] at h1
        rw [h1]
        have Gz := R.giv z hz
        have zm := Gz.ps
        rw [e] at zm
        refine G.sn.min z zm ?_
        have := R.good z hz (by rw [e]; exact hx)
        rw [e] at this
        exact this
      · rw [mn x xl fun z hz e => c ⟨z, hz, e⟩]
        exact m2
    refine fst_is xl ((mem_left ok xl).mpr ⟨m1, bound, by rw [my x hx]; exact Nat.le_refl _⟩) fun o hom => ?_
    refine G.sn.min o (sub xl hom) fun ef => ?_
    obtain ⟨z, hz, e, ef2⟩ := fstX x hx
    rw [ef] at ef2
    cases ef2
    have b3 := ((mem_left ok xl).mp hom).2.2
    rw [my z hz] at b3
    have h4 := lt z hz
    rw [most_some (R.giv z hz).held, e] at h4
    omega
  have noS : ∀ p f, p < ls.length → ¬ X p → fst ls hs p = some f → ∀ x, X x → s x ≠ f := fun p f hp hx ef x hxx e => by
    have h1 := st.b p f hp ef
    have h2 := (R.giv x hxx).held
    rw [e, h1] at h2
    exact hx (by rw [Option.some.inj h2]; exact R.nx x hxx)
  have fB : ∀ p f, p < ls.length → ¬ X p → fst ls hs p = some f → fst ls (outOf ls hs s X) p = some f := fun p f hp hx ef => by
    have fm := fst_mem ef
    obtain ⟨m1, m2, m3⟩ := (mem_left ok hp).mp fm
    have fl := (ok.mate hp m1).1
    refine fst_is hp ((mem_left ok hp).mpr ⟨m1, ?_, by rw [mn f fl (noS p f hp hx ef)]; exact m3⟩) fun o hom => fst_min ok hp ef (sub hp hom)
    by_cases c : ∃ z, X z ∧ s z = p
    · obtain ⟨z, hz, e⟩ := c
      have h1 := my z hz
      rw [e] at h1
      rw [h1]
      have zm := (R.giv z hz).ps
      rw [e] at zm
      exact fst_min ok hp ef zm
    · rw [mn p hp fun z hz e => c ⟨z, hz, e⟩]
      exact m2
  have fC : ∀ p j, p < ls.length → fst ls (outOf ls hs s X) p = some j → ¬ X p → fst ls hs p = some j := fun p j hp e hx => by
    cases ef : fst ls hs p with
    | none =>
      have := sub hp (fst_mem e)
      rw [fst_none.mp ef] at this
      cases this
    | some f =>
      rw [fB p f hp hx ef] at e
      exact e
  refine ⟨_, okk, ⟨fun p j hp e => ?_, fun p j hp e => ?_⟩, le, ?_⟩
  · by_cases c : ∃ x, X x ∧ s x = p
    · obtain ⟨x, hx, ex⟩ := c; subst ex
      rw [out_yes R hx] at e
      cases e
      exact fA j hx
    · rw [out_no hp fun x hx z => c ⟨x, hx, z⟩] at e
      have h1 := st.a p j hp e
      have jl := (ok.mate hp (ho.on p j e).2).1
      refine fB j p jl (fun hx => ?_) h1
      obtain ⟨z, hz, _, ef⟩ := fstX j hx
      rw [h1] at ef
      exact c ⟨z, hz, (Option.some.inj ef).symm⟩
  · by_cases hx : X p
    · rw [fA p hx] at e
      cases e
      exact out_yes R hx
    · have e1 := fC p j hp e hx
      have jl := (ok.mate hp ((mem_left ok hp).mp (fst_mem e1)).1).1
      rw [out_no jl (noS p j hp hx e1)]
      exact st.b p j hp e1
  · obtain ⟨x, hx⟩ := R.ne
    exact sum_lt (fun q hq => le q hq) (R.giv x hx).sl (by rw [my x hx]; exact lt x hx)
end
end K14
namespace K14
open PySem PySem.Spec PyProof.Rows L2
def it (g : Nat → Nat) : Nat → Nat → Nat
  | 0, p => p
  | m + 1, p => g (it g m p)
theorem it_add (g : Nat → Nat) (a b p : Nat) : it g (a + b) p = it g a (it g b p) := by
  induction a with
  | zero => rw [Nat.zero_add]; rfl
  | succ a ih => rw [Nat.succ_add]; show g (it g (a + b) p) = g (it g a (it g b p)); rw [ih]
theorem meets {n : Nat} {x : Nat → Nat} (h : ∀ m, x m < n) : ∃ i j, i < j ∧ x i = x j := by
  refine Classical.byContradiction fun c => ?_
  have nd : ((List.range (n + 1)).map x).Nodup := by
    refine List.pairwise_map.mpr (List.Pairwise.imp ?_ (List.pairwise_lt_range (n := n + 1)))
    intro a b lt e
    exact c ⟨a, b, lt, e⟩
  have := nodup_sub_len nd (t := List.range n) fun y hy => by
    obtain ⟨m, _, rfl⟩ := List.mem_map.mp hy
    exact List.mem_range.mpr (h m)
  simp at this
  omega
section
variable {ls : List (List Nat)} {hs : List (Option Nat)} (ok : ListsOk ls.length ls)
include ok in
theorem ring_ex (ho : HoldsOk ls hs) (st : Std ls hs) {p0 : Nat} (hp : p0 < ls.length) (h3 : 3 ≤ (leftL ls hs p0).length) : ∃ s g X, Rng ls hs s g X := by
  have ch : ∃ f : Nat → Nat × Nat, ∀ p, p < ls.length → 2 ≤ (leftL ls hs p).length → Giv ls hs p (f p).1 (f p).2 := by
    classical
    refine ⟨fun p => if h : ∃ s q, Giv ls hs p s q then (Classical.choose h, Classical.choose (Classical.choose_spec h)) else (0, 0), fun p hp h2 => ?_⟩
    have h := giv_ex ok ho st hp h2
    dsimp only
    rw [dif_pos h]
    exact Classical.choose_spec (Classical.choose_spec h)
  obtain ⟨f, hf⟩ := ch
  have well : ∀ m, it (fun p => (f p).2) m p0 < ls.length ∧ 2 ≤ (leftL ls hs (it (fun p => (f p).2) m p0)).length := by
    intro m
    induction m with
    | zero => exact ⟨hp, by show 2 ≤ (leftL ls hs p0).length; omega⟩
    | succ m ih =>
      have G := hf _ ih.1 ih.2
      exact ⟨G.ql, G.two⟩
  obtain ⟨i, j, lt, eij⟩ := meets fun m => (well m).1
  have per : ∀ m, i ≤ m → it (fun p => (f p).2) (m + (j - i)) p0 = it (fun p => (f p).2) m p0 := fun m hm => by
    have e1 : m + (j - i) = (m - i) + j := by omega
    have e2 : m = (m - i) + i := by omega
    rw [e1, it_add, ← eij, ← it_add, ← e2]
  refine ⟨fun p => (f p).1, fun p => (f p).2, fun a => ∃ m, i ≤ m ∧ a = it (fun p => (f p).2) m p0, ?_⟩
  have giv : ∀ p, (∃ m, i ≤ m ∧ p = it (fun p => (f p).2) m p0) → Giv ls hs p (f p).1 (f p).2 := by
    rintro p ⟨m, hm, rfl⟩
    exact hf _ (well m).1 (well m).2
  have lt' : ∀ p, (∃ m, i ≤ m ∧ p = it (fun p => (f p).2) m p0) → p < ls.length := by
    rintro p ⟨m, hm, rfl⟩
    exact (well m).1
  have pr : ∀ p, (∃ m, i ≤ m ∧ p = it (fun p => (f p).2) m p0) → ∃ z, (∃ m, i ≤ m ∧ z = it (fun p => (f p).2) m p0) ∧ (f z).2 = p := by
    rintro p ⟨m, hm, rfl⟩
    refine ⟨it (fun p => (f p).2) (m + (j - i) - 1) p0, ⟨_, by omega, rfl⟩, ?_⟩
    have := per m hm
    have e : m + (j - i) = (m + (j - i) - 1) + 1 := by omega
    rw [e] at this
    exact this
  refine ⟨giv, lt', ?_, pr, ?_, ?_, ⟨_, i, Nat.le_refl _, rfl⟩⟩
  · rintro p ⟨m, hm, rfl⟩
    exact ⟨m + 1, by omega, rfl⟩
  · rintro a b ⟨m, hm, rfl⟩ ⟨l, hl, rfl⟩ e
    have back : ∀ m, i ≤ m → it (fun p => (f p).2) m p0 = it (fun p => (f p).2) (j - i - 1) (it (fun p => (f p).2) (m + 1) p0) := fun m hm => by
      rw [← it_add]
      have e : j - i - 1 + (m + 1) = m + (j - i) := by omega
      rw [e, per m hm]
    have e' : it (fun p => (f p).2) (m + 1) p0 = it (fun p => (f p).2) (l + 1) p0 := e
    rw [back m hm, back l hl, e']
  · -- no giver is the first one of its second one, if this is a giver, too
    intro b0 hb0 hs0 hf0
    have one : ∀ b, (∃ m, i ≤ m ∧ b = it (fun p => (f p).2) m p0) → (∃ m, i ≤ m ∧ (f b).1 = it (fun p => (f p).2) m p0) → fst ls hs (f b).1 = some b →
        ∃ a, ((∃ m, i ≤ m ∧ a = it (fun p => (f p).2) m p0) ∧ (∃ m, i ≤ m ∧ (f a).1 = it (fun p => (f p).2) m p0) ∧ fst ls hs (f a).1 = some a) ∧ fst ls hs b = some a ∧ ∀ o ∈ leftL ls hs b, o = a ∨ o = (f b).1 := by
      intro b hb ha hfb
      have Gb := giv b hb
      have bl := lt' b hb
      have Sb := st.b _ b Gb.sl hfb
      have two : ∀ o ∈ leftL ls hs b, fst ls hs b = some o ∨ o = (f b).1 := fun o hom => by
        by_cases c : fst ls hs b = some o
        · exact .inl c
        · refine .inr ?_
          have h1 := Gb.sn.min o hom c
          obtain ⟨m1, m2, m3⟩ := (mem_left ok bl).mp hom
          rw [most_some Sb] at m2
          exact (idx_inj m1 (ho.on b _ Sb).2 (by omega))
      obtain ⟨a, hxa, ea⟩ := pr _ ha
      have Ga := giv a hxa
      have e1 := Ga.fq
      rw [ea, hfb] at e1
      have eb : b = (f a).1 := Option.some.inj e1
      have am := Ga.ps
      rw [← eb] at am
      have fb : fst ls hs b = some a := by
        rcases two a am with h | h
        · exact h
        · have := Ga.ne
          rw [ea] at this
          exact absurd h.symm this
      refine ⟨a, ⟨hxa, by rw [← eb]; exact hb, by rw [← eb]; exact fb⟩, fb, fun o hom => ?_⟩
      rcases two o hom with h | h
      · rw [fb] at h
        exact .inl (Option.some.inj h).symm
      · exact .inr h
    have back : ∀ q, q < ls.length → 2 ≤ (leftL ls hs q).length →
        ((∃ m, i ≤ m ∧ (f q).2 = it (fun p => (f p).2) m p0) ∧ (∃ m, i ≤ m ∧ (f (f q).2).1 = it (fun p => (f p).2) m p0) ∧ fst ls hs (f (f q).2).1 = some (f q).2) →
        ((∃ m, i ≤ m ∧ q = it (fun p => (f p).2) m p0) ∧ (∃ m, i ≤ m ∧ (f q).1 = it (fun p => (f p).2) m p0) ∧ fst ls hs (f q).1 = some q) := by
      rintro q hq h2 ⟨z1, z2, z3⟩
      have G := hf q hq h2
      obtain ⟨a, ⟨a1, a2, a3⟩, fa, _⟩ := one _ z1 z2 z3
      have e1 := G.fq
      rw [fa] at e1
      have ea : a = (f q).1 := Option.some.inj e1
      subst ea
      obtain ⟨c, ⟨c1, c2, c3⟩, fc, all⟩ := one _ a1 a2 a3
      rcases all q G.ps with h | h
      · rw [h]
        exact ⟨c1, c2, c3⟩
      · have Gt := giv _ a1
        have h1 := st.b _ _ Gt.sl a3
        rw [G.held] at h1
        exact absurd ((Option.some.inj h1).trans h.symm) G.ne
    have down : ∀ m, ((∃ l, i ≤ l ∧ it (fun p => (f p).2) m p0 = it (fun p => (f p).2) l p0) ∧ (∃ l, i ≤ l ∧ (f (it (fun p => (f p).2) m p0)).1 = it (fun p => (f p).2) l p0) ∧ fst ls hs (f (it (fun p => (f p).2) m p0)).1 = some (it (fun p => (f p).2) m p0)) →
        ((∃ l, i ≤ l ∧ p0 = it (fun p => (f p).2) l p0) ∧ (∃ l, i ≤ l ∧ (f p0).1 = it (fun p => (f p).2) l p0) ∧ fst ls hs (f p0).1 = some p0) := by
      intro m
      induction m with
      | zero => exact fun h => h
      | succ m ih => exact fun h => ih (back _ (well m).1 (well m).2 h)
    obtain ⟨m, hm, em⟩ := hb0
    subst em
    obtain ⟨z1, z2, z3⟩ := down m ⟨⟨m, hm, rfl⟩, hs0, hf0⟩
    obtain ⟨a, _, _, all⟩ := one p0 z1 z2 z3
    have := nodup_sub_len (left_nd (hs := hs) ok hp) (t := [a, (f p0).1]) fun o hom => by
      rcases all o hom with h | h <;> simp [h]
    simp at this
    omega
include ok in
/-- steady holds within any others that leave nobody more than two -/
theorem two_ex : ∀ (n : Nat) (hs : List (Option Nat)), HoldsOk ls hs → Std ls hs → sumM ls hs ≤ n → ∃ hs', HoldsOk ls hs' ∧ Std ls hs' ∧ (∀ q, q < ls.length → most ls hs' q ≤ most ls hs q) ∧ ∀ p, p < ls.length → (leftL ls hs' p).length ≤ 2 := by
  intro n
  induction n with
  | zero =>
    intro hs ho st hn
    by_cases c : ∃ p, p < ls.length ∧ 3 ≤ (leftL ls hs p).length
    · obtain ⟨p, hp, h3⟩ := c
      obtain ⟨s, g, X, R⟩ := ring_ex ok ho st hp h3
      obtain ⟨hs', _, _, _, lt⟩ := turn ok ho st R
      omega
    · exact ⟨hs, ho, st, fun q _ => Nat.le_refl _, fun p hp => Nat.le_of_not_lt fun h => c ⟨p, hp, h⟩⟩
  | succ n ih =>
    intro hs ho st hn
    by_cases c : ∃ p, p < ls.length ∧ 3 ≤ (leftL ls hs p).length
    · obtain ⟨p, hp, h3⟩ := c
      obtain ⟨s, g, X, R⟩ := ring_ex ok ho st hp h3
      obtain ⟨hs', ho', st', le, lt⟩ := turn ok ho st R
      obtain ⟨h2, o2, s2, l2, t2⟩ := ih hs' ho' st' (by omega)
      exact ⟨h2, o2, s2, fun q hq => Nat.le_trans (l2 q hq) (le q hq), t2⟩
    · exact ⟨hs, ho, st, fun q _ => Nat.le_refl _, fun p hp => Nat.le_of_not_lt fun h => c ⟨p, hp, h⟩⟩
end
end K14
namespace K14
open PySem PySem.Spec PyProof.Rows L2
/-- within these are all steady holds -/
def Top (ls : List (List Nat)) (hs : List (Option Nat)) : Prop := ∀ S, HoldsOk ls S → Std ls S → ∀ q, q < ls.length → most ls S q ≤ most ls hs q
structure Great (ls : List (List Nat)) (hs : List (Option Nat)) : Prop where
  ok : HoldsOk ls hs
  st : Std ls hs
  top : Top ls hs
section
variable {ls : List (List Nat)} {hs : List (Option Nat)} (ok : ListsOk ls.length ls)
include ok in
theorem ask_top (h : Half ls hs) (t : Top ls hs) {p j : Nat} (hp : p < ls.length) (e : fst ls hs p = some j) : Top ls (hs.set j (some p)) := by
  intro S so ss q hq
  have jm := fst_mem e
  obtain ⟨m1, m2, m3⟩ := (mem_left ok hp).mp jm
  obtain ⟨j1, j2, j3⟩ := ok.mate hp m1
  have jl : j < hs.length := by rw [h.ok.len]; exact j1
  have hset := fun q => ha_set (hs := hs) (j := j) (p := p) (q := q) jl
  by_cases c : q = j
  · subst c
    rw [most_some (show ha (hs.set q (some p)) q = some p by rw [hset, if_pos rfl])]
    refine Nat.le_of_not_lt fun lt => ?_
    have sub : ∀ o, o ∈ leftL ls S p → o ∈ leftL ls hs p := fun o ho => left_le (fun q hq => t S so ss q hq) ok hp ho
    have bound : (la ls p).idxOf q ≤ most ls S p := by
      cases ek : ha S p with
      | none =>
        rw [most_none ek]
        exact Nat.le_of_lt (List.idxOf_lt_length_of_mem m1)
      | some k =>
        rw [most_some ek]
        have kl := (ok.mate hp (so.on p k ek).2).1
        have km := (left_sym ok kl (fst_mem (ss.a p k hp ek))).2
        exact fst_min ok hp e (sub k km)
    have qm : q ∈ leftL ls S p := (mem_left ok hp).mpr ⟨m1, bound, by omega⟩
    cases ef : fst ls S p with
    | none => rw [fst_none.mp ef] at qm; cases qm
    | some f =>
      have fm := fst_mem ef
      have h1 := fst_min ok hp ef qm
      have h2 := fst_min ok hp e (sub f fm)
      have : f = q := idx_inj ((mem_left ok hp).mp fm).1 m1 (by omega)
      subst this
      rw [most_some (ss.b p f hp ef)] at lt
      omega
  · rw [most_eq (show ha (hs.set j (some p)) q = ha hs q by rw [hset, if_neg c])]
    exact t S so ss q hq
theorem half_none : Half ls (List.replicate ls.length none) := by
  have hn : ∀ q, ha (List.replicate ls.length (none : Option Nat)) q = none := fun q => by
    unfold ha
    rw [List.getD_eq_getElem?_getD, List.getElem?_replicate]
    split <;> rfl
  exact ⟨⟨by simp, fun p j e => by rw [hn] at e; cases e⟩, fun p j _ e => by rw [hn] at e; cases e⟩
theorem ha_none {n q : Nat} : ha (List.replicate n (none : Option Nat)) q = none := by
  unfold ha
  rw [List.getD_eq_getElem?_getD, List.getElem?_replicate]
  split <;> rfl
theorem most_le (ho : HoldsOk ls hs) {q : Nat} : most ls hs q ≤ (la ls q).length := by
  cases e : ha hs q with
  | none => rw [most_none e]; exact Nat.le_refl _
  | some j =>
    rw [most_some e]
    exact Nat.le_of_lt (List.idxOf_lt_length_of_mem (ho.on q j e).2)
theorem top_none : Top ls (List.replicate ls.length none) := fun S so _ q _ => by
  rw [most_none ha_none]
  exact most_le so
theorem great_of (h : Half ls hs) (t : Top ls hs) (no : ∀ p j, p < ls.length → fst ls hs p = some j → ∃ q, q < ls.length ∧ ha hs q = some p) : Great ls hs := by
  refine ⟨h.ok, ⟨h.a, fun p j hp e => ?_⟩, t⟩
  obtain ⟨q, hq, eq⟩ := no p j hp e
  have := h.a q p hq eq
  rw [e] at this
  rw [Option.some.inj this]
  exact eq
theorem most_inj {h1 h2 : List (Option Nat)} (o1 : HoldsOk ls h1) (o2 : HoldsOk ls h2) {q : Nat} (e : most ls h1 q = most ls h2 q) : ha h1 q = ha h2 q := by
  cases e1 : ha h1 q with
  | none =>
    cases e2 : ha h2 q with
    | none => rfl
    | some j =>
      rw [most_none e1, most_some e2] at e
      have := List.idxOf_lt_length_of_mem (o2.on q j e2).2
      omega
  | some i =>
    cases e2 : ha h2 q with
    | none =>
      rw [most_some e1, most_none e2] at e
      have := List.idxOf_lt_length_of_mem (o1.on q i e1).2
      omega
    | some j =>
      rw [most_some e1, most_some e2] at e
      rw [idx_inj (o1.on q i e1).2 (o2.on q j e2).2 e]
theorem great_one {h1 h2 : List (Option Nat)} (g1 : Great ls h1) (g2 : Great ls h2) : h1 = h2 := by
  apply List.ext_getElem?
  intro q
  by_cases c : q < ls.length
  · rw [ha_get (hs := h1) (by rw [g1.ok.len]; exact c), ha_get (hs := h2) (by rw [g2.ok.len]; exact c)]
    rw [most_inj g1.ok g2.ok (Nat.le_antisymm (g2.top h1 g1.ok g1.st q c) (g1.top h2 g2.ok g2.st q c))]
  · rw [List.getElem?_eq_none (by rw [g1.ok.len]; omega), List.getElem?_eq_none (by rw [g2.ok.len]; omega)]
include ok in
theorem great_go : ∀ (n : Nat) (hs : List (Option Nat)), Half ls hs → Top ls hs → sumM ls hs ≤ n → ∃ g, Great ls g := by
  intro n
  induction n with
  | zero =>
    intro hs h t hn
    by_cases c : ∃ p j, p < ls.length ∧ fst ls hs p = some j ∧ ∀ q, q < ls.length → ha hs q ≠ some p
    · obtain ⟨p, j, hp, e, fr⟩ := c
      have := (ask ok h hp e fr).2
      omega
    · exact ⟨hs, great_of h t fun p j hp e => Classical.byContradiction fun ne => c ⟨p, j, hp, e, fun q hq eq => ne ⟨q, hq, eq⟩⟩⟩
  | succ n ih =>
    intro hs h t hn
    by_cases c : ∃ p j, p < ls.length ∧ fst ls hs p = some j ∧ ∀ q, q < ls.length → ha hs q ≠ some p
    · obtain ⟨p, j, hp, e, fr⟩ := c
      obtain ⟨h1, h2⟩ := ask ok h hp e fr
      exact ih _ h1 (ask_top ok h t hp e) (by omega)
    · exact ⟨hs, great_of h t fun p j hp e => Classical.byContradiction fun ne => c ⟨p, j, hp, e, fun q hq eq => ne ⟨q, hq, eq⟩⟩⟩
include ok in
theorem great_ex : ∃ g, Great ls g := great_go ok _ _ half_none top_none (Nat.le_refl _)
/-! ### lasting partings -/
theorem nxt_bef {row : List Nat} (r : RowOk ls.length row) {p j : Nat} (hp : p < ls.length) : nxt row p = some j ↔ bef row j = some p := by
  rw [bef_iff r.nd]
  have hl : p < row.length := by rw [r.len]; exact hp
  unfold nxt
  rw [List.getD_eq_getElem?_getD, List.getElem?_eq_getElem hl]
  show (if row[p] = p then none else some row[p]) = some j ↔ _
  split
  · rename_i c
    constructor
    · intro e; cases e
    · rintro ⟨e1, e2⟩
      exact absurd ((Option.some.inj e1).symm.trans c).symm e2
  · rename_i c
    constructor
    · intro e
      cases e
      exact ⟨rfl, fun z => c z.symm⟩
    · rintro ⟨e1, e2⟩
      exact e1
include ok in
theorem fst_nxt {row : List Nat} (pr : PRow ls row) (st : Std ls (befs row)) {p : Nat} (hp : p < ls.length) : fst ls (befs row) p = nxt row p := by
  have ho := befs_ok ok pr
  refine opt_ext fun x => ?_
  constructor
  · intro e
    have h1 := st.b p x hp e
    have xl : x < ls.length := (ho.on x p h1).1
    rw [befs_get (by rw [pr.ok.len]; exact xl)] at h1
    exact (nxt_bef pr.ok hp).mpr h1
  · intro e
    have h1 := (nxt_bef pr.ok hp).mp e
    obtain ⟨h2, h3⟩ := (bef_iff pr.ok.nd).mp h1
    have xl : x < ls.length := pr.ok.lt x (List.mem_of_getElem? h2)
    refine st.a x p xl ?_
    rw [befs_get (by rw [pr.ok.len]; exact xl)]
    exact h1
include ok in
theorem firsts_nxt {row : List Nat} (pr : PRow ls row) (st : Std ls (befs row)) : firsts ls (befs row) = nxts row := by
  apply List.ext_getElem?
  intro p
  by_cases c : p < ls.length
  · rw [ha_get (hs := firsts ls (befs row)) (by rw [firsts_len]; exact c), ha_get (hs := nxts row) (by simp [nxts, pr.ok.len]; exact c), ha_firsts c, nxts_get (by rw [pr.ok.len]; exact c), fst_nxt ok pr st c]
  · rw [List.getElem?_eq_none (by rw [firsts_len]; omega), List.getElem?_eq_none (by simp [nxts, pr.ok.len]; omega)]
include ok in
theorem held_is {p o : Nat} (ho : HoldsOk ls hs) (h : o ∈ la ls p) (e : (la ls p).idxOf o = most ls hs p) : ha hs p = some o := by
  cases ek : ha hs p with
  | none =>
    rw [most_none ek] at e
    have := List.idxOf_lt_length_of_mem h
    omega
  | some k =>
    rw [most_some ek] at e
    rw [idx_inj h (ho.on p k ek).2 e]
include ok in
theorem lasts_iff {row : List Nat} (hr : row ∈ parts ls ls.length) : Fits ls row (befs row) ↔ Fits ls row (nxts row) ∧ ∀ p, p < ls.length → (leftL ls (befs row) p).length ≤ 2 := by
  have pr := parts_row_ok ok hr
  have ho := befs_ok ok pr
  constructor
  · intro ft
    refine ⟨fun p hp => ⟨(ft p hp).1, fun o om ⟨h1, h2⟩ => (ft p hp).2 o om ⟨?_, h2⟩⟩, fun p hp => ?_⟩
    · have := (ft p hp).1
      omega
    · have all : ∀ o ∈ leftL ls (befs row) p, o ∈ (ha (befs row) p).toList ++ (nxt row p).toList := fun o hom => by
        obtain ⟨m1, m2, m3⟩ := (mem_left ok hp).mp hom
        obtain ⟨o1, o2, o3⟩ := ok.mate hp m1
        rw [List.mem_append]
        by_cases c : (la ls p).idxOf o = most ls (befs row) p
        · rw [held_is ok ho m1 c]
          exact .inl (by simp)
        · by_cases d : (la ls o).idxOf p = most ls (befs row) o
          · have := held_is ok ho o3 d
            rw [befs_get (by rw [pr.ok.len]; exact o1)] at this
            rw [(nxt_bef pr.ok hp).mpr this]
            exact .inr (by simp)
          · exact absurd ⟨by omega, by omega⟩ ((ft p hp).2 o m1)
      have := nodup_sub_len (left_nd (hs := befs row) ok hp) all
      rw [List.length_append] at this
      have h1 : ∀ x : Option Nat, x.toList.length ≤ 1 := fun x => by cases x <;> simp
      have := h1 (ha (befs row) p)
      have := h1 (nxt row p)
      omega
  · rintro ⟨ft, two⟩ p hp
    refine ⟨(ft p hp).1, fun o om ⟨h1, h2⟩ => ?_⟩
    have st := fits_std ok hr ft
    obtain ⟨o1, o2, o3⟩ := ok.mate hp om
    have hom : o ∈ leftL ls (befs row) p := (mem_left ok hp).mpr ⟨om, by omega, by omega⟩
    cases eb : ha (befs row) p with
    | none => exact (std_held ok ho st hp).mpr (List.ne_nil_of_mem hom) eb
    | some b =>
      have bl := (ok.mate hp (ho.on p b eb).2).1
      have bm := (left_sym ok bl (fst_mem (st.a p b hp eb))).2
      have nb : o ≠ b := fun z => by rw [most_some eb, z] at h1; omega
      cases ef : fst ls (befs row) p with
      | none => rw [fst_none.mp ef] at hom; cases hom
      | some f =>
        have fm := fst_mem ef
        have hf := st.b p f hp ef
        have nf : o ≠ f := fun z => by
          rw [z, most_some hf] at h2
          omega
        by_cases c : f = b
        · subst c
          have i1 := fst_min ok hp ef hom
          rw [most_some eb] at h1
          omega
        · have := nodup_sub_len (s := [o, b, f]) (t := leftL ls (befs row) p) (by simp [nb, nf]; exact fun z => c z.symm) fun x hx => by
            simp only [List.mem_cons, List.not_mem_nil, or_false] at hx
            rcases hx with rfl | rfl | rfl
            · exact hom
            · exact bm
            · exact fm
          have h2 := two p hp
          simp at this
          omega
include ok in
theorem lasting_ex : ∃ row, row ∈ parts ls ls.length ∧ Fits ls row (befs row) := by
  obtain ⟨g, G⟩ := great_ex ok
  obtain ⟨S, so, ss, _, two⟩ := two_ex ok _ g G.ok G.st (Nat.le_refl _)
  have hr := row_parts ok so ss
  refine ⟨rowOf ls S, hr, (lasts_iff ok hr).mpr ⟨std_fits ok so ss, ?_⟩⟩
  have e : befs (rowOf ls S) = S := by
    apply List.ext_getElem?
    intro j
    by_cases c : j < ls.length
    · rw [ha_get (hs := befs (rowOf ls S)) (by simp [befs, rowOf_len]; exact c), ha_get (by rw [so.len]; exact c), befs_get (by rw [rowOf_len]; exact c), row_bef ok so ss c]
    · rw [List.getElem?_eq_none (by simp [befs, rowOf_len]; omega), List.getElem?_eq_none (by rw [so.len]; omega)]
  rw [e]
  exact two
include ok in
/-- the same persons hold in all steady holds -/
theorem single_same {g : List (Option Nat)} (G : Great ls g) (ho : HoldsOk ls hs) (st : Std ls hs) {p : Nat} (hp : p < ls.length) : leftL ls hs p = [] ↔ leftL ls g p = [] := by
  constructor
  · intro h
    refine Classical.byContradiction fun c => ?_
    have h1 := (std_held ok G.ok G.st hp).mpr c
    have h2 : ha hs p = none := Classical.byContradiction fun z => (std_held ok ho st hp).mp z h
    have le := G.top hs ho st p hp
    rw [most_none h2] at le
    cases ek : ha g p with
    | none => exact h1 ek
    | some k =>
      rw [most_some ek] at le
      have := List.idxOf_lt_length_of_mem (G.ok.on p k ek).2
      omega
  · intro h
    refine Classical.byContradiction fun c => ?_
    obtain ⟨o, t, e⟩ := List.exists_cons_of_ne_nil c
    have : o ∈ leftL ls g p := left_le (fun q hq => G.top hs ho st q hq) ok hp (by rw [e]; simp)
    rw [h] at this
    cases this
end
end K14
namespace K14
open PySem PySem.Spec PyProof.Rows L2
/-! ### asking with those who wait in a row -/
structure AO (ls : List (List Nat)) (hs : List (Option Nat)) (ws : List Nat) : Prop where
  half : Half ls hs
  top : Top ls hs
  nd : ws.Nodup
  fr : ∀ p ∈ ws, p < ls.length ∧ ∀ q, q < ls.length → ha hs q ≠ some p
  done : ∀ p, p < ls.length → p ∉ ws → (∀ q, q < ls.length → ha hs q ≠ some p) → fst ls hs p = none
section
variable {ls : List (List Nat)} {hs : List (Option Nat)} (ok : ListsOk ls.length ls)
theorem ao_start : AO ls (List.replicate ls.length none) (List.range ls.length) :=
  ⟨half_none, top_none, List.nodup_range, fun p hp => ⟨List.mem_range.mp hp, fun q _ e => by rw [ha_none] at e; cases e⟩, fun p hp h => absurd (List.mem_range.mpr hp) h⟩
theorem ao_pop {us : List Nat} {p : Nat} (a : AO ls hs (us ++ [p])) (e : fst ls hs p = none) : AO ls hs us := by
  refine ⟨a.half, a.top, (List.nodup_append.mp a.nd).1, fun x hx => a.fr x (by simp [hx]), fun x hx hn hf => ?_⟩
  by_cases c : x = p
  · rw [c]; exact e
  · exact a.done x hx (by simp [hn, c]) hf
include ok in
theorem ao_ask {us : List Nat} {p j : Nat} (a : AO ls hs (us ++ [p])) (e : fst ls hs p = some j) :
    AO ls (hs.set j (some p)) (us ++ (ha hs j).toList) ∧ sumM ls (hs.set j (some p)) < sumM ls hs := by
  obtain ⟨hp, free⟩ := a.fr p (by simp)
  obtain ⟨h1, h2⟩ := ask ok a.half hp e free
  have jm := fst_mem e
  obtain ⟨m1, m2, m3⟩ := (mem_left ok hp).mp jm
  obtain ⟨j1, j2, j3⟩ := ok.mate hp m1
  have jl : j < hs.length := by rw [a.half.ok.len]; exact j1
  have hset := fun q => ha_set (hs := hs) (j := j) (p := p) (q := q) jl
  have le : ∀ q, q < ls.length → most ls (hs.set j (some p)) q ≤ most ls hs q := fun q _ => by
    by_cases c : q = j
    · subst c
      rw [most_some (show ha (hs.set q (some p)) q = some p by rw [hset, if_pos rfl])]
      exact m3
    · rw [most_eq (show ha (hs.set j (some p)) q = ha hs q by rw [hset, if_neg c])]
      exact Nat.le_refl _
  have nd := List.nodup_append.mp a.nd
  have one : ∀ q, ha hs j = some q → q < ls.length ∧ q ≠ p ∧ ∀ k, k < ls.length → ha hs k = some q → k = j := fun q eq => by
    refine ⟨(ok.mate j1 (a.half.ok.on j q eq).2).1, fun z => free j j1 (by rw [← z]; exact eq), fun k hk ek => ?_⟩
    have f1 := a.half.a j q j1 eq
    have f2 := a.half.a k q hk ek
    rw [f1] at f2
    exact (Option.some.inj f2).symm
  refine ⟨⟨h1, ask_top ok a.half a.top hp e, ?_, ?_, ?_⟩, h2⟩
  · cases eq : ha hs j with
    | none => simpa using nd.1
    | some q =>
      rw [List.nodup_append]
      refine ⟨nd.1, by simp, fun x hx y hy z => ?_⟩
      have hy' : y = q := by simpa using hy
      subst hy'
      subst z
      exact (a.fr x (by simp [hx])).2 j j1 eq
  · intro x hx
    rcases List.mem_append.mp hx with hx | hx
    · have f := a.fr x (by simp [hx])
      refine ⟨f.1, fun q hq z => ?_⟩
      rw [hset] at z
      by_cases c : q = j
      · rw [if_pos c] at z
        cases z
        exact nd.2.2 p hx p (by simp) rfl
      · rw [if_neg c] at z
        exact f.2 q hq z
    · cases eq : ha hs j with
      | none => rw [eq] at hx; simp at hx
      | some y =>
        rw [eq] at hx
        have hx' : x = y := by simpa using hx
        subst hx'
        obtain ⟨b1, b2, b3⟩ := one x eq
        refine ⟨b1, fun q hq z => ?_⟩
        rw [hset] at z
        by_cases c : q = j
        · rw [if_pos c] at z
          exact b2 (Option.some.inj z).symm
        · rw [if_neg c] at z
          exact c (b3 q hq z)
  · intro x hx hn hf
    have xp : x ≠ p := fun z => hf j j1 (by rw [hset, if_pos rfl, z])
    have hf' : ∀ q, q < ls.length → ha hs q ≠ some x := fun q hq z => by
      by_cases c : q = j
      · subst c
        exact hn (by rw [z]; simp)
      · exact hf q hq (by rw [hset, if_neg c]; exact z)
    have hn' : x ∉ us ++ [p] := fun z => by
      rcases List.mem_append.mp z with z | z
      · exact hn (by simp [z])
      · exact xp (by simpa using z)
    have f0 := a.done x hx hn' hf'
    cases ef : fst ls (hs.set j (some p)) x with
    | none => rfl
    | some k =>
      have := left_le le ok hx (fst_mem ef)
      rw [fst_none.mp f0] at this
      cases this
theorem ao_end (a : AO ls hs []) : Great ls hs := great_of a.half a.top fun p j hp e => Classical.byContradiction fun c => by
  have := a.done p hp (by simp) fun q hq z => c ⟨q, hq, z⟩
  rw [e] at this
  cases this
end
end K14
namespace K14
open PySem PySem.Spec PyProof.Rows L2
/-! ### defs that ask repr of data: their promise, where no repr is under way -/
def RunG (P : Program) (w : World) (K : PySem.W.Frag) (mg : Str → Option Value) (base : Heap) (k : Nat) (f : Addr) (fd : FuncData) (ps : List Str) (sp : Sp) : Prop :=
  ∀ (A : Around) (outer : List Env) (s : Shared) (H : Hp) (args : Args) (us : List Value) (vs : List V) (Q : VK) (E : XK), A.guards = some [] → Room k A → Env0 P w K mg base A outer s H →
    BindsTo s fd args (ps.zip us) → Vals vs us → sp vs H Q E → codeAny (model P w) A (.call (.ref f) args) (CR CX0 outer P w H s Q E) s
theorem call_repr {X : Cx} (hg : X.A.guards = some []) (hu : X.A.units + 64 < cLine) :
    CallR X (.builtin "repr") (fun xs H Q => ∃ a d, xs = [.ref a] ∧ Dp X.K H (.ref a) d ∧ d.showable = true ∧ d.hasDict = false ∧ d.depth ≤ 60 ∧ d.shown.length ≤ sizeLine ∧ Q (.str d.shown) H) := by
  intro pins s σ H xs us Q I r h
  obtain ⟨a, d, rfl, hd, hs, hn, hz, hl, q⟩ := h
  obtain ⟨u, rfl, ru⟩ := vals1 r
  obtain ⟨as, rd⟩ := Dp.reads I d _ _ hd ru
  cases ru
  exact repr_of_reads' rd hs (PyData.noDict_hsm hn) hg (by omega) (fun _ _ e => e) (fun h' t tk keep => ⟨.str d.shown, H, I.kept keep, ⟨t, rfl⟩, q⟩) hl
section
variable {P : Program} {w : World} {K : PySem.W.Frag} {mg : Str → Option Value} {base : Heap}
theorem okG {x qual : Str} {st : Stmt} {f : Addr} {fd : FuncData} {N ps : List Str} {k : Nat} {sp : Sp} (F : Fun K x qual st f fd) (S : FnScope N ps (defScope st)) (len : ∀ vs H Q E, sp vs H Q E → vs.length = ps.length)
    (body : ∀ (cdv : Value) (A : Around) (outer : List Env) (s : Shared) (H : Hp) (vs : List V) (Q : VK) (E : XK), A.guards = some [] → Room k (A.deeper (envOfC qual (defScope st) s.heap.objs.size f cdv)) → sp vs H Q E →
      ∃ t, PSs (cxOf CX0 P w K mg base N qual (defScope st) f cdv A outer s H E).nox (defBody st) t ∧ t { nx := fun _ H' => Q .non H', rt := Q } (start N vs) H) : RunG P w K mg base (k + 1) f fd ps sp := by
  obtain ⟨oc, od, kV, doc, pm, an, cdv, ct, osl, rfl, lk, hcd⟩ := F.ex
  intro A outer s H args us vs Q E hA room e0 bind rel promise
  have KX := e0.mod.kin.keeps (h' := s.heap) fun b o e => (e0.bs b o e).1
  have lim := e0.mod.nolimit.keeps (h' := s.heap) fun b o e => (e0.bs b o e).1
  have kinds : ∀ y ∈ ps.zip us, (defScope st).names.lookup y.1 = some .local ∨ ((defScope st).names.lookup y.1 = some .cell ∧ ((cellsFrom (s.heap.objs.size + 1) (defScope st).names []).lookup y.1).isSome = true) := by
    intro y hy
    cases S.par y.1 (List.of_mem_zip (show (y.1, y.2) ∈ ps.zip us from hy)).1 with
    | inl q => exact .inl q
    | inr q => exact .inr ⟨q, PySem.W.cellsFrom_some _ _ _ (.inl q)⟩
  apply codeAny_call_function room.depth (KX _ _ lk) rfl S.co S.gen rfl (PySem.W.codeRec_of KX hcd) (bind _ _ _ _ _)
  apply wpAny_newFunctionEnv_cells S.kind kinds
  intro env he s1 x
  subst he
  obtain ⟨t, ht, hq⟩ := body cdv A outer s H vs Q E hA (room.deeper _) promise
  have I := inv_start (CX := CX0) (E := E) S room.hd e0 (len _ _ _ _ promise) rel x
  refine ⟨lim.keeps x.toInCall.keep, codeAny_func (wpAny_mono (ht.nox.run [] s1 (start N vs) H _ I hq) ?_ (fun _ _ z => z))⟩
  intro fl s' z
  cases fl with
  | ret u => exact let ⟨v, _, H', J, rv, q⟩ := z; ⟨v, H', J.os, J.bare, J.base, J.hok, rv, q⟩
  | next => exact let ⟨_, H', J, q⟩ := z; ⟨V.non, H', J.os, J.bare, J.base, J.hok, rfl, q⟩
  | brk => exact let ⟨_, _, _, q⟩ := z; q.elim
  | cont => exact let ⟨_, _, _, q⟩ := z; q.elim
end
section
variable {P : Program} {w : World} {K : PySem.W.Frag} {mg mb : Str → Option Value} {s₁ : Shared} {a : Addr} {vs : List Value} {H : Hp}
/-- the call of the law: nothing is tracked but the script at a -/
theorem env_law (KX : K.In s₁.heap) (hns : s₁.heap.Ns mainGlobals mg) (hb : s₁.heap.Ns builtinsNs mb) (hbb : ∀ x : Str, x ≠ "__name__" → mb x = bootBuiltins x) (hlim : s₁.heap.NoLimit) (hg : s₁.gens = #[])
    (ha : s₁.heap.get? a = some { cls := .type "list", data := .seq vs.toArray }) (hok : HOk P w H s₁.heap) (one : ∀ b u, H b = some u → b = a) (apart : ∀ u, H a = some u → K.lookup a = none) :
    K.In (hidT s₁.heap H) ∧ (hidT s₁.heap H).Ns mainGlobals mg ∧ Env0 P w K mg (hidT s₁.heap H) callerA [] s₁ H := by
  have free : ∀ b, b ≠ a → H b = none := by
    intro b n
    cases e : H b with
    | none => rfl
    | some u => exact (n (one b u e)).elim
  have low : ∀ {b : Addr} {o : Obj}, s₁.heap.get? b = some o → b ≠ a → (hidT s₁.heap H).get? b = some o := fun e n => hidT_get e (free _ n)
  have ns : ∀ {b : Addr} {m : Str → Option Value}, s₁.heap.Ns b m → (hidT s₁.heap H).Ns b m := by
    rintro b m ⟨o, es, ep, e, d, r⟩
    refine ⟨o, es, ep, low e ?_, d, r⟩
    intro z
    rw [z, ha] at e
    cases e
    cases d
  have kin : K.In (hidT s₁.heap H) := by
    intro b o e
    by_cases n : b = a
    · subst n
      cases q : H b with
      | none => exact hidT_get (KX _ _ e) q
      | some u =>
        have z := apart u q
        rw [z] at e
        cases e
    · exact low (KX _ _ e) n
  obtain ⟨mc, l1, l2⟩ := hlim
  exact ⟨kin, ns hns, ⟨rfl, ⟨kin, ns hns, ⟨mb, ns hb, hbb⟩, ⟨mc, ns l1, l2⟩⟩, fun b o e => of_hidT e, Nat.le_of_eq (hidT_size _ _), trivial, (fun b z => nomatch z), hok, .of_eq hg⟩⟩
theorem run_law {k : Nat} {fa : Addr} {fd : FuncData} {x : Str} {sp : Sp} (env : Env0 P w K mg (hidT s₁.heap H) callerA [] s₁ H) (F : RunG P w K mg (hidT s₁.heap H) k fa fd [x] sp) (hr : Room k callerA)
    (hbind : ∀ (s : Shared) (u : Value), BindsTo s fd ⟨[u], []⟩ [(x, u)]) (hO : Only H) (hok : HOk P w H s₁.heap) (hsp : sp [.ref a] H (fun v _ => v = .bl true) fun _ _ _ => False) :
    codeAny (model P w) callerA (.call (.ref fa) ⟨[.ref a], []⟩) (fun r s' => r = .ok (.ret (.bool true)) ∧ OldK s₁.heap s'.heap ∧ s'.os = s₁.os ∧ AllBare s'.gens) s₁ := by
  have run := F callerA [] s₁ H ⟨[.ref a], []⟩ [.ref a] [.ref a] _ _ rfl hr env (hbind s₁ (.ref a)) (.cons rfl .nil) hsp
  refine codeAny_mono run ?_
  intro r s' h
  match r, h with
  | .ok (.ret u), h =>
    obtain ⟨v, H', os, bare, un, hok', r', q⟩ := h
    have q2 : v = V.bl true := q
    subst q2
    obtain rfl : u = Value.bool true := r'
    refine ⟨rfl, OldK.of_keep ?_, os, bare⟩
    intro b o e
    cases q : H b with
    | none => exact un.keep b o e q (fun z => nomatch z) (fun z => nomatch z)
    | some u =>
      rcases hO b with z | ⟨ob, xs, z⟩
      · rw [q] at z
        cases z
      · have e1 := (hok b _ z).1
        have e2 := (hok' b _ (un.frzs b ob _ z)).1
        rw [e] at e1
        cases e1
        exact e2
end
/-- the goal behind k_head, from such a promise of the law -/
theorem walkG {l : PySem.W.OpenLaw} {n k : Nat} {q : Program} {loose : List Str} {XP : (Str → Option Value) → Heap → Prop} {YP : World → Heap → Prop} {d : DefRec} {K : Params → PySem.W.Frag} {sp : PySem.W.Frag → Sp} {x : Str}
    (hn : l.most = some n) (hn2 : n ≤ sizeLine) (hdf : d.params.defaults = []) (hr : Room k callerA) (hY : ∀ (w : World) (h : Heap), YP w h → (K w.params).In h)
    (F : ∀ (w : World) (mg : Str → Option Value) (fa : Addr) (h : Heap), (K w.params).In h → h.Ns mainGlobals mg → mg d.name = some (.ref fa) →
      ∃ fd : FuncData, (∀ (s : Shared) (u : Value), BindsTo s fd ⟨[u], []⟩ [(x, u)]) ∧ ∀ base : Heap, (K w.params).In base → base.Ns mainGlobals mg → RunG l.prog w (K w.params) mg base k fa fd [x] (sp (K w.params)))
    (hsp : ∀ (K : PySem.W.Frag) (H : Hp) (a : Addr) (ns : List Int), ns.length ≤ n → SqL K H a (ns.map V.int) → sp K [.ref a] H (fun v _ => v = .bl true) fun _ _ _ => False) :
    PySem.W.WalkO q loose XP YP l.row.toRowW d [] (fun f vs => PySem.call f vs) := by
  apply Att.attach_call hn hdf
  intro w s₀ s₁ mg mb fa o pm cd doc a vs ns G Y ho hd hcd hmg hobj hints hlen hg
  have KX := hY w _ Y
  obtain ⟨fd, hb, hF⟩ := F w mg fa _ KX G.T.g hmg
  have rel := vals_ints hints
  have hz : (ns.map V.int).length ≤ sizeLine := by rw [List.length_map]; exact Nat.le_trans hlen hn2
  cases hk : (K w.params).lookup a with
  | some o' =>
    have e := KX a o' hk
    rw [hobj] at e
    cases e
    have ok0 : HOk l.prog w (fun _ => none) s₁.heap := fun b u z => nomatch z
    obtain ⟨k1, k2, k3⟩ := env_law (P := l.prog) (w := w) (H := fun _ => none) KX G.T.g G.T.b G.T.builtins G.T.nolimit hg hobj ok0 (fun b u z => nomatch z) (fun u z => nomatch z)
    refine run_law k3 (hF _ k1 k2) hr hb (fun b => .inl rfl) ok0 (hsp _ _ a ns hlen ?_)
    exact .inr ⟨_, vs.toArray, _, hk, rfl, rfl, rfl, by rw [List.size_toArray, ← rel.length]; exact hz, by simpa using rel⟩
  | none =>
    have at_ : (upd (fun _ => none) a (.frz { cls := .type "list", data := .seq vs.toArray } (.lst (ns.map V.int)))) a = some (.frz { cls := .type "list", data := .seq vs.toArray } (.lst (ns.map V.int))) := upd_same
    have off : ∀ b, b ≠ a → (upd (fun _ => none) a (.frz { cls := .type "list", data := .seq vs.toArray } (.lst (ns.map V.int)))) b = none := fun b n => upd_ne n
    generalize upd (fun _ => none) a (.frz { cls := .type "list", data := .seq vs.toArray } (.lst (ns.map V.int))) = H at at_ off
    have only : Only H := by
      intro b
      by_cases n : b = a
      · exact .inr ⟨_, _, by rw [n]; exact at_⟩
      · exact .inl (off b n)
    have ok1 : HOk l.prog w H s₁.heap := by
      intro b u z
      by_cases n : b = a
      · rw [n, at_] at z
        cases z
        rw [n]
        exact ⟨hobj, hz, vs, _, rel, hobj⟩
      · rw [off b n] at z
        cases z
    have one : ∀ b u, H b = some u → b = a := by
      intro b u z
      by_cases n : b = a
      · exact n
      · rw [off b n] at z
        cases z
    obtain ⟨k1, k2, k3⟩ := env_law (P := l.prog) (w := w) (H := H) KX G.T.g G.T.b G.T.builtins G.T.nolimit hg hobj ok1 one (fun u z => hk)
    exact run_law k3 (hF _ k1 k2) hr hb only ok1 (hsp _ _ a ns hlen (.inl (.inr ⟨_, at_⟩)))
/-! ### a def called with all its arguments by keywords -/
section
variable {X : Cx} {CX : CXT} {k : Nat} {f : Addr} {fd : FuncData} {ps ks : List Str} {sp : Sp} {E : XK} {x : Str} {p pos : Pos} {kws : List Keyword} {tk : TA} {g : List Value → List Value → List Value} {gV : List V → List V → List V}
theorem pe_named (F : FnOk X.prog X.w X.K X.mg X.base CX k f fd ps sp) (hr : Room k X.A) (hg : Gl X x) (hm : X.mg x = some (.ref f)) (kp : PySem.W.keepIn X.K (.ref f) = true) (b : KBinds X.K fd ps ks g gV) (hx : Passes CX X E) (hkw : PK X kws tk)
    (h1 : (backToKw pos (keywordEach kws X.env)).all (·.1.isSome) = true := by rfl) (h2 : (backToKw pos (keywordEach kws X.env)).filterMap (·.1) = ks := by rfl) (h3 : (x == ("__debug__" : Str)) = false := by decide)
    (h4 : ((backTo pos (starEach [] X.env)).any (·.1) || (backToKw pos (keywordEach kws X.env)).any (·.1.isNone)) = false := by rfl) :
    PE X (.Call (.Name x p) [] kws pos) (tCallK sp gV E tNil tk) := by
  constructor
  intro pins s σ H Q I h
  apply wpAny_Call_Name_kw (ld_glob I hg hm _ h3)
  apply PySem.W.callWith_KW0 (h₀ := X.base) I.ok.mod.kin kp h1 _ h4
  refine thn (hkw.run pos pins s σ H _ I h) ?_
  rintro ws s2 ⟨zs, H2, I2, rz, q2⟩
  refine ⟨I2.kIn, ?_⟩
  rw [h2]
  exact run_fnk (us := []) (vs := []) F hr b hx I2 .nil rz q2
end

/-! ### calls of defs that ask repr of data -/
theorem call_repr_bl {X : Cx} : CallR X (.builtin "repr") (fun xs H Q => ∃ b, xs = [.bl b] ∧ Q (.str (if b then "True" else "False")) H) := by
  intro pins s σ H xs us Q I r h
  obtain ⟨b, rfl, q⟩ := h
  obtain ⟨u, rfl, ru⟩ := vals1 r
  cases ru
  exact PySem.P.repr_of_bool ⟨.str (if b then "True" else "False"), H, I.tok _, ⟨_, rfl⟩, q⟩
section
variable {X : Cx} {k : Nat} {f : Addr} {fd : FuncData} {ps : List Str} {sp : Sp} {x : Str} {p pos : Pos} {e : Expr} {es : List Expr} {t : TA}
theorem pe_callG (F : RunG X.prog X.w X.K X.mg X.base k f fd ps sp) (len : ∀ vs H Q E, sp vs H Q E → vs.length = ps.length) (hA : X.A.guards = some []) (hr : Room k X.A) (hg : Gl X x) (hm : X.mg x = some (.ref f)) (hk : PySem.W.keepIn X.K (.ref f) = true) (hb : Binds X.K fd ps []) {E : XK} (hx : Passes CX0 X E)
    (ha : PA X (e :: es) t) (hdb : (x == ("__debug__" : Str)) = false := by decide) (he : starEach (e :: es) X.env = (false, eval e X.env) :: starEach es X.env := by rfl) (hpl : (backTo pos (starEach es X.env)).any (·.1) = false := by rfl) :
    PE X (.Call (.Name x p) (e :: es) [] pos) (tCall sp [] E t) := by
  refine ⟨fun pins s σ H Q I h => wpAny_Call_Name_kw (ld_glob I hg hm ?_ hdb)⟩
  refine PySem.W.callWith_K (h₀ := X.base) I.ok.mod.kin hk (thn (ha.run pos pins s σ H _ I h) fun us s1 ⟨vs, H1, I1, r, q⟩ => ⟨I1.kIn, ?_⟩) he hpl
  have r2 : Vals (vs ++ []) (us ++ []) := r.append .nil
  have hl : (us ++ []).length = ps.length := by rw [← r2.length]; exact len _ _ _ _ q
  refine wpAny_call (codeAny_mono (F X.A X.stack s1 H1 ⟨us, []⟩ (us ++ []) (vs ++ []) _ E hA hr I1.env0 (hb s1 us I1.kIn hl) r2 q) fun r s' hq => ?_)
  cases r with
  | error e => exact hx pins σ H1 s1 e s' I1 hq
  | ok fl =>
    cases fl with
    | ret u => exact I1.after hq
    | next => exact False.elim hq
    | brk => exact False.elim hq
    | cont => exact False.elim hq
end
end K14
namespace K14
open PySem PySem.Spec PyProof.Rows L2
theorem vals_rev : ∀ {zs : List V} {ws : List Value}, Vals zs ws → Vals zs.reverse ws.reverse
  | [], _, .nil => .nil
  | z :: zs, _, .cons (b := w) r t => by
    rw [List.reverse_cons, List.reverse_cons]
    exact (vals_rev t).append (.cons r .nil)
/-- a def of two parameters called by keywords, the last one first -/
theorem named2 {K : PySem.W.Frag} {x qual : Str} {st : Stmt} {f : Addr} {fd : FuncData} {n m : Str} (F : Fun K x qual st f fd)
    (h0 : ∀ (kV doc pm : Value) (an : Option Addr) (cdv ct u v : Value), bindArgs (PySem.W.fnOf x qual (defArgs st) (defBody st) (defScope st) .none kV doc pm an cdv ct) ⟨[u, v], []⟩ = pure [(n, u), (m, v)])
    (h1 : ∀ (kV doc pm : Value) (an : Option Addr) (cdv ct u v : Value), bindArgs (PySem.W.fnOf x qual (defArgs st) (defBody st) (defScope st) .none kV doc pm an cdv ct) ⟨[u], [(m, v)]⟩ = pure [(n, u), (m, v)])
    (h2 : ∀ (kV doc pm : Value) (an : Option Addr) (cdv ct u v : Value), bindArgs (PySem.W.fnOf x qual (defArgs st) (defBody st) (defScope st) .none kV doc pm an cdv ct) ⟨[], [(m, v), (n, u)]⟩ = pure [(n, u), (m, v)]) :
    KBinds K fd [n, m] [m, n] (fun us ws => us ++ ws.reverse) (fun vs zs => vs ++ zs.reverse) := by
  obtain ⟨oc, od, kV, doc, pm, an, cdv, ct, osl, rfl, lk, hcd⟩ := F.ex
  refine ⟨fun s us ws _ hl => ?_, fun a b => a.append (vals_rev b)⟩
  have hl' : ws.length + us.length = 2 := by simpa [Nat.add_comm] using hl
  match us, ws, hl' with
  | [u, v], [], _ => exact .of_eq (h0 kV doc pm an cdv ct u v)
  | [u], [v], _ => exact .of_eq (h1 kV doc pm an cdv ct u v)
  | [], [v, u], _ => exact .of_eq (h2 kV doc pm an cdv ct u v)
/-- .. of three parameters -/
theorem named3 {K : PySem.W.Frag} {x qual : Str} {st : Stmt} {f : Addr} {fd : FuncData} {n m o : Str} (F : Fun K x qual st f fd)
    (h0 : ∀ (kV doc pm : Value) (an : Option Addr) (cdv ct u v t : Value), bindArgs (PySem.W.fnOf x qual (defArgs st) (defBody st) (defScope st) .none kV doc pm an cdv ct) ⟨[u, v, t], []⟩ = pure [(n, u), (m, v), (o, t)])
    (h1 : ∀ (kV doc pm : Value) (an : Option Addr) (cdv ct u v t : Value), bindArgs (PySem.W.fnOf x qual (defArgs st) (defBody st) (defScope st) .none kV doc pm an cdv ct) ⟨[u, v], [(o, t)]⟩ = pure [(n, u), (m, v), (o, t)])
    (h2 : ∀ (kV doc pm : Value) (an : Option Addr) (cdv ct u v t : Value), bindArgs (PySem.W.fnOf x qual (defArgs st) (defBody st) (defScope st) .none kV doc pm an cdv ct) ⟨[u], [(o, t), (m, v)]⟩ = pure [(n, u), (m, v), (o, t)])
    (h3 : ∀ (kV doc pm : Value) (an : Option Addr) (cdv ct u v t : Value), bindArgs (PySem.W.fnOf x qual (defArgs st) (defBody st) (defScope st) .none kV doc pm an cdv ct) ⟨[], [(o, t), (m, v), (n, u)]⟩ = pure [(n, u), (m, v), (o, t)]) :
    KBinds K fd [n, m, o] [o, m, n] (fun us ws => us ++ ws.reverse) (fun vs zs => vs ++ zs.reverse) := by
  obtain ⟨oc, od, kV, doc, pm, an, cdv, ct, osl, rfl, lk, hcd⟩ := F.ex
  refine ⟨fun s us ws _ hl => ?_, fun a b => a.append (vals_rev b)⟩
  have hl' : ws.length + us.length = 3 := by simpa [Nat.add_comm] using hl
  match us, ws, hl' with
  | [u, v, t], [], _ => exact .of_eq (h0 kV doc pm an cdv ct u v t)
  | [u, v], [t], _ => exact .of_eq (h1 kV doc pm an cdv ct u v t)
  | [u], [t, v], _ => exact .of_eq (h2 kV doc pm an cdv ct u v t)
  | [], [t, v, u], _ => exact .of_eq (h3 kV doc pm an cdv ct u v t)
theorem left_sub {n : Nat} {ls : List (List Nat)} (ok : ListsOk n ls) (hn : ls.length = n) {h1 h2 : List (Option Nat)} (le : withinB ls h1 h2 = true) {p o : Nat} (hp : p < n) (h : o ∈ leftL ls h1 p) : o ∈ leftL ls h2 p := by
  unfold withinB at le
  rw [List.all_eq_true] at le
  have le' : ∀ q, q < n → most ls h1 q ≤ most ls h2 q := fun q hq => of_decide_eq_true (le q (List.mem_range.mpr (by omega)))
  obtain ⟨m1, m2, m3⟩ := (mem_left ok hp).mp h
  have k1 := (ok.mate hp m1).1
  exact (mem_left ok hp).mpr ⟨m1, Nat.le_trans m2 (le' p hp), Nat.le_trans m3 (le' o k1)⟩
theorem named1 {K : PySem.W.Frag} {x qual : Str} {st : Stmt} {f : Addr} {fd : FuncData} {n : Str} (F : Fun K x qual st f fd)
    (h0 : ∀ (kV doc pm : Value) (an : Option Addr) (cdv ct u : Value), bindArgs (PySem.W.fnOf x qual (defArgs st) (defBody st) (defScope st) .none kV doc pm an cdv ct) ⟨[u], []⟩ = pure [(n, u)])
    (h1 : ∀ (kV doc pm : Value) (an : Option Addr) (cdv ct u : Value), bindArgs (PySem.W.fnOf x qual (defArgs st) (defBody st) (defScope st) .none kV doc pm an cdv ct) ⟨[], [(n, u)]⟩ = pure [(n, u)]) :
    KBinds K fd [n] [n] (fun us ws => us ++ ws) (fun vs zs => vs ++ zs) := by
  obtain ⟨oc, od, kV, doc, pm, an, cdv, ct, osl, rfl, lk, hcd⟩ := F.ex
  refine ⟨fun s us ws _ hl => ?_, fun a b => a.append b⟩
  match us, ws, hl with
  | [u], [], _ => exact .of_eq (h0 kV doc pm an cdv ct u)
  | [], [u], _ => exact .of_eq (h1 kV doc pm an cdv ct u)
end K14
namespace K14
open PySem PySem.Spec PyProof.Rows L2
theorem int_len {n : Nat} (h : n < 2 ^ 20) : (((toString ((n : Nat) : Int) : String) : Str)).length ≤ 20 := by
  have h1 := nat_repr_length_le (n := n) (k := 20) (by decide) h
  rw [PySem.ofString_length]
  exact h1
/-- what repr asks of data -/
structure Rp (d : PyData) : Prop where
  sh : d.showable = true
  nd : d.hasDict = false
  dp : d.depth ≤ 60
  ln : d.shown.length ≤ sizeLine
structure RpI (d : PyData) (m B : Nat) : Prop where
  sh : d.showable = true
  nd : d.hasDict = false
  dp : d.depth ≤ m
  ln : d.shown.length ≤ B
theorem rp_tup {xs : List PyData} {m B : Nat} (h : ∀ x ∈ xs, RpI x m B) : RpI (.tuple xs) (m + 1) ((B + 2) * xs.length + 10) := by
  have all : ∀ xs : List PyData, (∀ x ∈ xs, RpI x m B) → PyData.showableAll xs = true ∧ PyData.hasDictAll xs = false ∧ PyData.depthAll xs ≤ m ∧ piled (PyData.shownAll xs) ≤ (B + 2) * xs.length := by
    intro xs
    induction xs with
    | nil => intro _; exact ⟨by simp [PyData.showableAll], by simp [PyData.hasDictAll], by simp [PyData.depthAll], by simp [PyData.shownAll, piled]⟩
    | cons c r ih =>
      intro h
      obtain ⟨a1, a2, a3, a4⟩ := ih fun x hx => h x (by simp [hx])
      have hc := h c (by simp)
      have h1 := hc.ln
      refine ⟨by simp only [PyData.showableAll, hc.sh, a1, Bool.and_self], by simp only [PyData.hasDictAll, hc.nd, a2, Bool.or_self], ?_, ?_⟩
      · simp only [PyData.depthAll]
        have := hc.dp
        omega
      · rw [PyData.shownAll, piled_cons, List.length_cons, Nat.mul_succ]
        omega
  obtain ⟨a1, a2, a3, a4⟩ := all xs h
  refine ⟨by simp only [PyData.showable]; exact a1, by simp only [PyData.hasDict]; exact a2, by simp only [PyData.depth]; omega, ?_⟩
  have e : (PyData.tuple xs).shown = tupleText (PyData.shownAll xs) := by simp only [PyData.shown]
  rw [e]
  have h1 := fmt_text (PyData.shownAll xs)
  omega
theorem rp_int {n : Nat} (h : n < 2 ^ 20) : RpI (.int (n : Nat)) 0 20 := by
  have lg : (n : Int).natAbs.log2 < 1920 := by
    rw [Int.natAbs_natCast]
    by_cases h0 : n = 0
    · subst h0; decide
    · have := (Nat.log2_lt h0).mpr h
      omega
  exact ⟨by simp only [PyData.showable, decide_eq_true lg], by simp only [PyData.hasDict], by simp only [PyData.depth]; omega, by simp only [PyData.shown]; exact int_len h⟩
theorem rp_none : RpI .none 0 20 := ⟨by simp only [PyData.showable], by simp only [PyData.hasDict], by simp only [PyData.depth]; omega, by simp only [PyData.shown]; decide⟩
theorem rp_dI {s : List Nat} (l : s.length ≤ 60) (h : ∀ j ∈ s, j < 60) : RpI (dI s) 1 2000 := by
  have := rp_tup (xs := s.map fun j => PyData.int (j : Nat)) (m := 0) (B := 20) fun x hx => by
    obtain ⟨j, hj, rfl⟩ := List.mem_map.mp hx
    exact rp_int (Nat.lt_of_lt_of_le (h j hj) (by decide))
  refine ⟨this.sh, this.nd, this.dp, Nat.le_trans this.ln ?_⟩
  rw [List.length_map]
  omega
theorem rp_dL {ls : List (List Nat)} (l : ls.length ≤ 60) (h : ∀ s ∈ ls, s.length ≤ 60 ∧ ∀ j ∈ s, j < 60) : Rp (dL ls) := by
  have := rp_tup (xs := ls.map dI) (m := 1) (B := 2000) fun x hx => by
    obtain ⟨s, hs, rfl⟩ := List.mem_map.mp hx
    exact rp_dI (h s hs).1 (h s hs).2
  refine ⟨this.sh, this.nd, Nat.le_trans this.dp (by decide), Nat.le_trans this.ln ?_⟩
  rw [List.length_map]
  exact Nat.le_trans (m := 200000) (by omega) (by decide)
theorem rp_dH {hs : List (Option Nat)} (l : hs.length ≤ 60) (h : ∀ j, some j ∈ hs → j < 60) : Rp (dH hs) := by
  have := rp_tup (xs := hs.map fun o => match o with | none => PyData.none | some j => .int (j : Nat)) (m := 0) (B := 20) fun x hx => by
    obtain ⟨o, ho, rfl⟩ := List.mem_map.mp hx
    cases o with
    | none => exact rp_none
    | some j => exact rp_int (Nat.lt_of_lt_of_le (h j ho) (by decide))
  refine ⟨this.sh, this.nd, Nat.le_trans this.dp (by decide), Nat.le_trans this.ln ?_⟩
  rw [List.length_map]
  exact Nat.le_trans (m := 200000) (by omega) (by decide)
end K14
set_option maxHeartbeats 4000000
/-! t * k of a tuple that is not empty, k from 1 on: t * 1 is t -/
namespace K14
open PySem PySem.Spec PyProof.Rows L2
theorem tup_mul1 (l : Addr) (items : Array Value) (n : Nat) (dd : Option Addr) (sl : Array (Option Value)) (u : Tok) :
    Meets (Builtin.«tuple.__mul__» ⟨[.ref l, .int 1 u], []⟩) (fun _ R s => s.heap.get? l = some { cls := .type "tuple", dict := dd, data := .seq items n, slots := sl } ∧ R (.ok (.ret (.ref l))) s) :=
  .of_wp fun prog w A R s h => by
    obtain ⟨hp, g, d, tk, os⟩ := s
    obtain ⟨hl, h⟩ := h
    have f1 := AutoSeq1.idx_int
    have hone : (items.isEmpty || (1 : Int) == 1) = true := by simp
    wp_walk using wpAny_loadPart' hl
    repeat (first
      | (refine wpAny_ite_false (decide_eq_false (by decide)) ?_; wp_walk using wpAny_loadPart' hl)
      | (refine wpAny_ite_true (by rw [hone]; rfl) ?_; wp_walk using wpAny_loadPart' hl)
      | (refine wpAny_ite_true (decide_eq_true hone) ?_; wp_walk using wpAny_loadPart' hl))
    exact ⟨_, rfl, h⟩
def rRepA (K : PySem.W.Frag) : R2 := fun x y H Q => (∃ l xs, x = .ref l ∧ y = .int 1 ∧ SqT K H l xs ∧ Q (.ref l) H) ∨ rRepT K x y H Q
theorem op_repA {X : Cx} : OpR X (binaryOp .Mult) (rRepA X.K) := by
  intro pins st σ H x y v u Q I rx ry h
  rcases h with ⟨l, xs, rfl, rfl, hT, q⟩ | h
  · cases rx
    obtain ⟨t, rfl⟩ := ry
    obtain ⟨its, r, ⟨⟨cls, dd, data, sl⟩, ho, hc, n, hd⟩, hs⟩ := I.tuple hT
    simp only at hc hd
    subst hc hd
    exact wpAny_binaryOp_repeat_ref (T := "tuple") (U := "int") (by decide) ⟨_, ho, rfl⟩ (fun s' => typeIs_int s' 1 t) noFill_tuple_mul F.fills_int_mul F.slot_int_rmul repeat_tuple F.slot_int_index.lookup
      (call_meets F.slot_int_rmul (typeIs_int st 1 t) F.entry_int_rmul (F.args_int_rmul_2 _ _) (int_rmul_tuple 1 t l its.toArray n dd sl)
        ⟨ho, rfl, ⟨_, ho, rfl⟩, call_meets F.slot_tuple_mul ⟨_, ho, rfl⟩ F.entry_tuple_mul (F.args_tuple_mul_2 _ _) (tup_mul1 l its.toArray n dd sl t) ⟨ho, ⟨.ref l, H, I, rfl, q⟩⟩⟩)
  · exact op_repT pins st σ H x y v u Q I rx ry h
end K14
namespace K14
open PySem PySem.Spec PyProof.Rows L2
theorem tupOf_same {H H' : Hp} {v : V} (p : Pl H v) (s : Same H H') : tupOf H' v = tupOf H v := by
  cases p with
  | non => rfl
  | bl b => rfl
  | int i => rfl
  | str z => rfl
  | lst e => simp [tupOf, e, s _ _ e]
  | tup e => simp [tupOf, e, s _ _ e]
theorem pl_VH {H : Hp} {hs : List (Option Nat)} : ∀ x ∈ VH hs, Pl H x := fun x hx => by
  obtain ⟨o, _, rfl⟩ := List.mem_map.mp hx
  cases o with
  | none => exact .non
  | some j => exact .int _
theorem catV {K : PySem.W.Frag} {H : Hp} {a b : Addr} {xs ys : List V} {Q : VK} (ea : H a = some (.tup xs)) (eb : H b = some (.tup ys)) (le : xs.length + ys.length ≤ 1000) (q : ∀ c H', Same H H' → H' c = some (.tup (xs ++ ys)) → Q (.ref c) H') : rCatA K (.ref a) (.ref b) H Q := by
  refine ⟨a, b, xs, ys, rfl, rfl, SqT.of ea, SqT.of eb, sz5 (by omega), fun h => ?_, fun _ h => ?_, fun _ _ p np => q p _ (same_upd np) upd_same⟩
  · subst h
    exact q b H same_rfl eb
  · subst h
    exact q a H same_rfl (by rw [List.append_nil]; exact ea)
theorem leftA_get {ls : List (List Nat)} {hs : List (Option Nat)} {p : Nat} (h : p < ls.length) : (leftA ls hs)[p]? = some (leftL ls hs p) := by
  unfold leftA
  rw [List.getElem?_map, List.getElem?_range h]
  rfl
theorem bstr_eq (b : Bool) : (!decide (V.str (if b then "True" else "False") = V.str (if b then "True" else "False"))) = false := by simp
theorem hv_inj {a b : Option Nat} (e : hv a = hv b) : a = b := by
  cases a with
  | none =>
    cases b with
    | none => rfl
    | some j => cases e
  | some i =>
    cases b with
    | none => cases e
    | some j =>
      have : ((i : Nat) : Int) = (j : Nat) := V.int.inj e
      congr 1
      omega
theorem VH_inj {a b : List (Option Nat)} (e : VH a = VH b) : a = b := by
  unfold VH at e
  exact List.map_inj_right (fun x y h => hv_inj h) |>.mp e
theorem holdsV_ok {H : Hp} {v : V} {ls : List (List Nat)} {hs : List (Option Nat)} (ho : HoldsOk ls hs) (ok : ListsOk ls.length ls) (e : tupOf H v = some (VH hs)) : holdsV H ls v = true := by
  unfold holdsV
  rw [e]
  show (decide ((VH hs).length = ls.length) && _) = true
  rw [Bool.and_eq_true, decide_eq_true_eq, List.all_eq_true]
  refine ⟨by rw [VH_len, ho.len], fun p hp => ?_⟩
  rw [List.mem_range, VH_len] at hp
  have eg : (VH hs).getD p .non = hv (ha hs p) := by
    rw [List.getD_eq_getElem?_getD, VH_get (ha_get hp)]
    rfl
  rw [eg]
  cases eh : ha hs p with
  | none => rfl
  | some j =>
    obtain ⟨h1, h2⟩ := ho.on p j eh
    have h3 := (ok.mate h1 h2).1
    show (decide ((0 : Int) ≤ (j : Nat)) && decide (((j : Nat) : Int) < (ls.length : Nat)) && decide (((j : Nat) : Int).toNat ∈ la ls p)) = true
    simp [h2, h3]
theorem eq_dH (hs : List (Option Nat)) : PyData.eqv (dH hs) (dH hs) = true := by
  refine SeqAt.eqv_refl _ ?_
  have := sh_dH hs
  unfold SeqAt.shaped at this
  rw [Bool.and_eq_true] at this
  exact this.1
def dLi (s : List Nat) : PyData := .list (s.map fun j => .int (j : Nat))
theorem sh_dLi (s : List Nat) : SeqAt.shaped (dLi s) = true := by
  have h := shaped_ints (s.map fun j => ((j : Nat) : Int))
  rw [List.map_map] at h
  exact h
theorem dp_dLi {K : PySem.W.Frag} {H : Hp} {a : Addr} {s : List Nat} (e : H a = some (.lst (VI s))) : Dp K H (.ref a) (dLi s) := by
  refine .lst (SqL.of e) ?_
  unfold VI
  clear e
  induction s with
  | nil => exact .nil
  | cons c r ih => exact .cons (.int _) ih
theorem eq_dLi (s : List Nat) : PyData.eqv (dLi s) (dLi s) = true := by
  refine SeqAt.eqv_refl _ ?_
  have := sh_dLi s
  unfold SeqAt.shaped at this
  rw [Bool.and_eq_true] at this
  exact this.1
theorem tup_its {H : Hp} {u : Addr} {hs : List (Option Nat)} (e : H u = some (.tup (VH hs))) (l : hs.length ≤ 100) : ∀ xs, tupOf H (.ref u) = some xs → xs.length ≤ 1000 ∧ ∀ x ∈ xs, Pl H x := fun xs ex => by
  have tu : tupOf H (.ref u) = some (VH hs) := by simp [tupOf, e]
  rw [tu] at ex
  cases ex
  exact ⟨by rw [VH_len]; omega, fun x hx => pl_VH x hx⟩
theorem holds_yes {H : Hp} {u : Addr} {ls : List (List Nat)} {hs : List (Option Nat)} (e : H u = some (.tup (VH hs))) (ho : HoldsOk ls hs) (ok : ListsOk ls.length ls) : holdsV H ls (.ref u) = true := holdsV_ok ho ok (by simp [tupOf, e])
theorem same_hs {H : Hp} {u : Addr} {hs hs' : List (Option Nat)} (e : H u = some (.tup (VH hs))) (e2 : tupOf H (.ref u) = some (VH hs')) : hs' = hs := by
  have tu : tupOf H (.ref u) = some (VH hs) := by simp [tupOf, e]
  rw [tu] at e2
  exact (VH_inj (Option.some.inj e2)).symm
theorem slC {K : PySem.W.Frag} {H : Hp} {a : Addr} {xs : List V} {lo hi : Option Int} {Q : VK} (ea : H a = some (.tup xs)) (q : ∀ c H', Same H H' → H' c = some (.tup (cutV xs lo hi)) → Q (.ref c) H') : rSlA K (.ref a) lo hi H Q := by
  refine ⟨a, xs, rfl, SqT.of ea, fun h => q a H same_rfl ?_, fun _ p np => q p _ (same_upd np) upd_same⟩
  unfold cutV
  rw [h.1, h.2, List.drop_zero, Nat.sub_zero, List.take_length]
  exact ea
theorem cut_take (xs : List V) (o : Nat) : cutV xs none (some ((o : Nat) : Int)) = xs.take o := by
  unfold cutV
  rw [HT.sIx_none, show HT.sIx xs.length xs.length (some ((o : Nat) : Int)) = min o xs.length from HT.sIx_nat _ _ o, List.drop_zero, Nat.sub_zero]
  by_cases c : o ≤ xs.length
  · rw [Nat.min_eq_left c]
  · rw [Nat.min_eq_right (by omega), List.take_length, List.take_of_length_le (by omega)]
theorem cut_drop (xs : List V) (o : Nat) : cutV xs (some ((o : Nat) + 1 : Int)) none = xs.drop (o + 1) := by
  unfold cutV
  rw [HT.sIx_none, show HT.sIx xs.length 0 (some ((o : Nat) + 1 : Int)) = min (o + 1) xs.length from HT.sIx_nat _ _ (o + 1)]
  by_cases c : o + 1 ≤ xs.length
  · rw [Nat.min_eq_left c, List.take_of_length_le (by simp)]
  · rw [Nat.min_eq_right (by omega), List.drop_eq_nil_of_le (Nat.le_refl _), List.drop_eq_nil_of_le (by omega)]
    simp
theorem set_cut : ∀ (xs : List V) (o : Nat) (v : V), o < xs.length → xs.take o ++ ([v] ++ xs.drop (o + 1)) = xs.set o v
  | [], o, v, h => by simp at h
  | x :: r, 0, v, h => by simp
  | x :: r, o + 1, v, h => by
    have := set_cut r o v (by simpa using h)
    simpa using this
def item (o : Option Nat) : PyData := match o with | none => .none | some j => .int (j : Nat)
theorem item_eqv (a b : Option Nat) : PyData.eqv (item a) (item b) = decide (a = b) := by
  cases a with
  | none =>
    cases b with
    | none => rfl
    | some j => rfl
  | some i =>
    cases b with
    | none => rfl
    | some j =>
      show ((i : Int) == (j : Int)) = _
      by_cases c : i = j
      · subst c; simp
      · rw [decide_eq_false (fun e => c (Option.some.inj e))]
        rw [beq_eq_false_iff_ne]
        omega
theorem eqvAll_items : ∀ (a b : List (Option Nat)), PyData.eqvAll (a.map item) (b.map item) = decide (a = b)
  | [], [] => rfl
  | [], y :: t => rfl
  | x :: s, [] => rfl
  | x :: s, y :: t => by
    simp only [List.map_cons, PyData.eqvAll, item_eqv, eqvAll_items s t]
    by_cases c : x = y
    · subst c
      by_cases d : s = t
      · subst d; simp
      · simp [d]
    · simp [c]
theorem eqv_dH (a b : List (Option Nat)) : PyData.eqv (dH a) (dH b) = decide (a = b) := by
  have := eqvAll_items a b
  show PyData.eqv (.tuple (a.map item)) (.tuple (b.map item)) = _
  simp only [PyData.eqv]
  exact this
def lookL (ls : List (List Nat)) : Bool := (List.range ls.length).all fun i => decide ((la ls i).Nodup) && (la ls i).all fun j => decide (j < ls.length) && decide (j ≠ i) && decide (i ∈ la ls j)
theorem lists_of {ls : List (List Nat)} (h : lookL ls = true) : ListsOk ls.length ls := by
  unfold lookL at h
  rw [List.all_eq_true] at h
  have g : ∀ (i : Nat) (s : List Nat), ls[i]? = some s → i < ls.length ∧ la ls i = s := fun i s e => by
    refine ⟨(List.getElem?_eq_some_iff.mp e).1, ?_⟩
    unfold la
    rw [List.getD_eq_getElem?_getD, e]
    rfl
  refine ⟨rfl, fun i s e => ?_, fun i s j e hj => ?_⟩
  · obtain ⟨hi, es⟩ := g i s e
    have := h i (List.mem_range.mpr hi)
    rw [Bool.and_eq_true, es] at this
    exact of_decide_eq_true this.1
  · obtain ⟨hi, es⟩ := g i s e
    have := h i (List.mem_range.mpr hi)
    rw [Bool.and_eq_true, es, List.all_eq_true] at this
    have z := this.2 j hj
    rw [Bool.and_eq_true, Bool.and_eq_true] at z
    have h1 := of_decide_eq_true z.1.1
    exact ⟨h1, of_decide_eq_true z.1.2, la ls j, la_get h1, of_decide_eq_true z.2⟩
def lookH (ls : List (List Nat)) (hs : List (Option Nat)) : Bool := decide (hs.length = ls.length) && (List.range hs.length).all fun p => match ha hs p with | none => true | some j => decide (j ∈ la ls p)
theorem holds_of {ls : List (List Nat)} {hs : List (Option Nat)} (h : lookH ls hs = true) : HoldsOk ls hs := by
  unfold lookH at h
  rw [Bool.and_eq_true, List.all_eq_true] at h
  have hl := of_decide_eq_true h.1
  refine ⟨hl, fun p j e => ?_⟩
  have hp : p < hs.length := ha_lt e
  have := h.2 p (List.mem_range.mpr hp)
  rw [e] at this
  exact ⟨by omega, of_decide_eq_true this⟩
def lookN (ns : List (List Nat)) : Bool := (ns.all fun s => decide (1 ≤ s.length) && decide (s.length ≤ 6) && s.all fun c => decide (97 ≤ c) && decide (c ≤ 122)) && (List.range ns.length).all fun i => match ns[i]?, ns[i + 1]? with | some s, some t => decide (s < t) | _, _ => true
theorem names_look {ns : List (List Nat)} (h : lookN ns = true) : NamesOk ns.length ns := by
  unfold lookN at h
  rw [Bool.and_eq_true, List.all_eq_true, List.all_eq_true] at h
  refine ⟨rfl, fun s hs => ?_, fun i s t e1 e2 => ?_⟩
  · have := h.1 s hs
    rw [Bool.and_eq_true, Bool.and_eq_true, List.all_eq_true] at this
    refine ⟨of_decide_eq_true this.1.1, of_decide_eq_true this.1.2, fun c hc => ?_⟩
    have z := this.2 c hc
    rw [Bool.and_eq_true] at z
    exact ⟨of_decide_eq_true z.1, of_decide_eq_true z.2⟩
  · have := h.2 i (List.mem_range.mpr (List.getElem?_eq_some_iff.mp e1).1)
    rw [e1, e2] at this
    exact of_decide_eq_true this
theorem repN {K : PySem.W.Frag} {H : Hp} {t : Addr} {m : Nat} {Q : VK} (e : H t = some (.tup [.non])) (h1 : 1 ≤ m) (h2 : m ≤ 1000) (q : ∀ c H', Same H H' → H' c = some (.tup (VH (List.replicate m none))) → Q (.ref c) H') : rRepA K (.ref t) (.int (m : Nat)) H Q := by
  by_cases c : m = 1
  · subst c
    exact .inl ⟨t, [.non], rfl, rfl, SqT.of e, q t H same_rfl e⟩
  · refine .inr ⟨t, (m : Int), [.non], rfl, rfl, SqT.of e, by simp, by omega, by omega, by simp, fun p np => q p _ (same_upd np) ?_⟩
    rw [upd_same]
    congr 2
    rw [Int.toNat_natCast]
    unfold VH
    rw [List.map_replicate]
    clear c h1 h2 q
    induction m with
    | zero => rfl
    | succ n ih => rw [List.replicate_succ, List.flatten_cons, ih, List.replicate_succ]; rfl
theorem none_ok {ls : List (List Nat)} {m : Nat} (h : ls.length = m) : HoldsOk ls (List.replicate m none) := by
  refine ⟨by simp [h], fun p j e => ?_⟩
  unfold ha at e
  rw [List.getD_eq_getElem?_getD, List.getElem?_replicate] at e
  split at e <;> cases e
theorem holdsV_same {H H' : Hp} {ls : List (List Nat)} {v : V} (p : Pl H v) (s : Same H H') : holdsV H' ls v = holdsV H ls v := by
  unfold holdsV
  rw [tupOf_same p s]
theorem lt_five {H : Hp} {t r1 r2 r3 r4 r5 : Addr} {s1 s2 s3 s4 s5 : List Nat} (e : H t = some (.tup [.ref r1, .ref r2, .ref r3, .ref r4, .ref r5]))
    (e1 : H r1 = some (.tup (VI s1))) (e2 : H r2 = some (.tup (VI s2))) (e3 : H r3 = some (.tup (VI s3))) (e4 : H r4 = some (.tup (VI s4))) (e5 : H r5 = some (.tup (VI s5))) : LT H t [s1, s2, s3, s4, s5] := by
  refine ⟨[r1, r2, r3, r4, r5], e, rfl, fun i a s h1 h2 => ?_⟩
  match i, h1, h2 with
  | 0, h1, h2 => cases h1; cases h2; exact .inl e1
  | 1, h1, h2 => cases h1; cases h2; exact .inl e2
  | 2, h1, h2 => cases h1; cases h2; exact .inl e3
  | 3, h1, h2 => cases h1; cases h2; exact .inl e4
  | 4, h1, h2 => cases h1; cases h2; exact .inl e5
  | _ + 5, h1, h2 => cases h1
theorem stays {H : Hp} {p : Addr} {o : HO} (n : H p = none) {b : Addr} {u : HO} (e : H b = some u) : (upd H p o) b = some u := same_upd n b u e
theorem repZ {K : PySem.W.Frag} {H : Hp} {t : Addr} {m : Nat} {z : Int} {Q : VK} (hz : z = (m : Nat)) (e : H t = some (.tup [.non])) (h1 : 1 ≤ m) (h2 : m ≤ 1000) (q : ∀ c H', Same H H' → H' c = some (.tup (VH (List.replicate m none))) → Q (.ref c) H') : rRepA K (.ref t) (.int z) H Q := by
  subst hz
  exact repN e h1 h2 q
end K14
namespace K14
open PySem PySem.Spec PyProof.Rows L2
def spNoHolds (C : Addr) : Sp := fun vs H Q _ => ∃ (wi : Addr) (ns ls : List (List Nat)), vs = [.ref wi] ∧ WAt C H wi ns ls ∧ ∀ r H', Same H H' → H' r = some (.tup (VH (List.replicate ls.length none))) → Q (.ref r) H'
theorem scNoHolds : FnScope ["wishes"] ["wishes"] (defScope sNoHolds) := ⟨rfl, rfl, rfl, by decide +kernel, rfl, by decide +kernel, by decide +kernel⟩
def spHeldRanksL (C : Addr) : Sp := fun vs H Q _ => ∃ (wi b : Addr) (ns ls : List (List Nat)) (hs : List (Option Nat)), vs = [.ref wi, .ref b] ∧ WAt C H wi ns ls ∧ H b = some (.lst (VH hs)) ∧ HoldsOk ls hs ∧ ∀ r H', Same H H' → H' r = some (.tup (VM ls hs)) → Q (.ref r) H'
def spAskedOut (C : Addr) : Sp := fun vs H Q _ => ∃ (wi : Addr) (ns ls : List (List Nat)), vs = [.ref wi] ∧ WAt C H wi ns ls ∧ ∀ r g H', Great ls g → Same H H' → H' r = some (.tup (VH g)) → Q (.ref r) H'
theorem scAskedOut : FnScope ["wishes", "holds", "most", "waiting", "person", "other"] ["wishes"] (defScope sAskedOut) := ⟨rfl, rfl, rfl, by decide +kernel, rfl, by decide +kernel, by decide +kernel⟩
theorem Same.keep {H H' : Hp} {D : Addr} {o : HO} (s : Same H H') (n : H D = none) : Same H (upd H' D o) := s.fresh n
theorem rg_VI (n : Nat) : rgV 0 (n : Nat) = VI (List.range n) := by
  unfold rgV VI
  rw [Int.sub_zero, Int.toNat_natCast]
  refine List.map_congr_left fun i _ => ?_
  rw [Int.zero_add]
theorem VH_set (hs : List (Option Nat)) (j p : Nat) : (VH hs).set j (.int (p : Nat)) = VH (hs.set j (some p)) := by
  unfold VH
  rw [List.map_set]
  rfl
theorem VM_set {ls : List (List Nat)} {hs : List (Option Nat)} {j p : Nat} (hj : j < hs.length) : (VM ls hs).set j (.int ((la ls j).idxOf p : Nat)) = VM ls (hs.set j (some p)) := by
  apply List.ext_getElem?
  intro i
  rw [List.getElem?_set]
  by_cases c : i < ls.length
  · rw [VM_get c]
    by_cases d : j = i
    · subst d
      rw [if_pos rfl, if_pos (by rw [VM, List.length_map, List.length_range]; exact c), VM_get (hs := hs.set j (some p)) c, most_some (show ha (hs.set j (some p)) j = some p by rw [ha_set hj, if_pos rfl])]
    · rw [if_neg d, VM_get c, most_eq (show ha (hs.set j (some p)) i = ha hs i by rw [ha_set hj, if_neg (fun z => d z.symm)])]
  · have l1 : (VM ls hs)[i]? = none := List.getElem?_eq_none (by rw [VM, List.length_map, List.length_range]; omega)
    have l2 : (VM ls (hs.set j (some p)))[i]? = none := List.getElem?_eq_none (by rw [VM, List.length_map, List.length_range]; omega)
    rw [l1, l2]
    split
    · rename_i z
      subst z
      rw [if_neg (by rw [VM, List.length_map, List.length_range]; omega)]
    · rfl
section
variable {P : Program} {w : World} {K : PySem.W.Frag} {mg : Str → Option Value} {base : Heap}
theorem ok_no_holds {f C : Addr} {fd : FuncData} {k : Nat} (F : Fun K "no_holds" "no_holds" sNoHolds f fd) (T : Txt K mg C) (ml : mg "len" = none) : FnOk P w K mg base CX0 (k + 1) f fd ["wishes"] (spNoHolds C) := by
  refine F.ok scNoHolds (fun vs H Q E h => ?_) (fun cdv A outer s H vs Q E hr h => ?_)
  · obtain ⟨wi, ns, ls, rfl, _⟩ := h
    rfl
  · obtain ⟨wi, ns, ls, rfl, W, q⟩ := h
    refine ⟨_, pss_one (ps_ret (pe_op op_repA (pe_tup (pa_cons pe_non pa_nil)) (pe_callB call_len_seq (by rfl) ml PySem.boot_len (pa_cons (pe_fld (pv 0) rfl) pa_nil)))), ?_⟩
    obtain ⟨dx, n, l, r, e1, e2, e3, e4⟩ := W.ex
    refine ⟨(by show 1 ≤ sizeLine; decide), fun t nt => ?_⟩
    have s1 := same_upd (o := .tup [.non]) nt
    have n60 := W.n60
    have nl := W.nok.len
    refine ⟨_, rfl, wi, C, dx, _, _, rfl, s1 _ _ e1, T.cl, T.nN, wf_names n l r, n, _, rfl, .inr (SqT.of (s1 _ _ e2)), ?_⟩
    have lv : (VN ns).length = ls.length := by rw [← nl]; simp [VN]
    refine repZ (m := ls.length) (by rw [lv]) upd_same (by omega) (by omega) fun c H' s2 ec => q c H' (s1.trans s2) ec
theorem ok_held_ranksL {f fr C : Addr} {fd dr : FuncData} {k : Nat} (F : Fun K "held_ranks" "held_ranks" sHeldRanks f fd)
    (Gr : FnOk P w K mg base CX0 k fr dr ["wishes", "person", "other"] (spRankOf C)) (br : Binds K dr ["wishes", "person", "other"] []) (kr : PySem.W.keepIn K (.ref fr) = true) (mr : mg "rank_of" = some (.ref fr)) (mt : mg "tuple" = none) (me : mg "enumerate" = none) : FnOk P w K mg base CX0 (k + 1) f fd ["wishes", "holds"] (spHeldRanksL C) := by
  refine F.ok scHeldRanks (fun vs H Q E h => ?_) (fun cdv A outer s H vs Q E hr h => ?_)
  · obtain ⟨wi, b, ns, ls, hs, rfl, _⟩ := h
    rfl
  · obtain ⟨wi, b, ns, ls, hs, rfl, W, eb, ho, q⟩ := h
    refine ⟨_, pss_one (ps_ret (pe_callTy call_tuple_of (by rfl) mt (by decide +kernel) (pa_cons (pe_lc (own := [("person", 2), ("held", 3)]) (tt := tYes) rfl scHeldRanks.nd (pi_enum (by rfl) me (pa_cons (pv 1) pa_nil))
          (blkOk_by (own := [("person", 2), ("held", 3)]) (N := ["wishes", "holds", "person", "held"]) (sc := defScope sHeldRanks) (by decide +kernel)) (g := gTup K 2 (gCons (gName 2) (gCons (gName 3) gNil))) (fun _ _ _ _ _ => pg_tup rfl (pgs_cons (pg_name (i := 2) scHeldRanks.nd rfl (Or.inl rfl)) (pgs_cons (pg_name (i := 3) scHeldRanks.nd rfl (Or.inl rfl)) pgs_nil))) (fun _ _ _ _ _ => pts_nil)
          (fun _ _ _ _ _ => pe_call Gr hr rfl mr kr br .nil pass0 (pa_cons (pv 0) (pa_cons (pv 2) (pa_cons (pv 3) pa_nil))))) pa_nil))), ?_⟩
    refine ⟨_, rfl, b, _, rfl, SqL.of eb, fun D nD => ?_⟩
    have n60 := W.n60.2
    refine lc_same (walk_enum (K := K) (a := b) (xs := VH hs)) (by rw [VH_len, ho.len]; omega) (fun i => .int (most ls hs i : Nat)) nD (fun _ sm => SqL.of (sm _ _ eb)) ?_ ?_
    · rintro i x H1 H2 Z out hi sm ⟨U, x0, x1, rfl, nU, rfl, y1, y2⟩
      cases y1
      have s2 : Same H1 (upd H1 U (.tup [.int (i : Nat), x1])) := same_upd nU
      rw [VH_len] at hi
      have il : i < ls.length := by rw [← ho.len]; exact hi
      have y3 : (VH hs)[i]? = some x1 := y2
      rw [VH_get (ha_get hi)] at y3
      cases y3
      refine ⟨U, _, rfl, SqT.of upd_same, rfl, _, _, rfl, gn ⟨_, _, rfl, gn ⟨rfl, rfl, ?_⟩⟩⟩
      refine ⟨_, rfl, _, rfl, _, rfl, wi, ns, ls, i, ha hs i, rfl, (W.same sm).same s2, il, fun j ej => ?_, ?_⟩
      · exact (W.ok.both i _ j (la_get il) (ho.on i j ej).2).1
      · rw [rkO_N fun j ej => (ho.on i j ej).2]
        exact out _ s2
    · intro H1 sm e5
      refine ⟨D, _, rfl, .inl ⟨SqL.of e5, fun r nr => q r _ (sm.fresh (sm.free nr)) ?_⟩⟩
      rw [upd_same, VH_len, ho.len]
      rfl
theorem ok_asked_out {f fn fh ff fr C : Addr} {fd dn dh df dr : FuncData} {k : Nat} (F : Fun K "asked_out" "asked_out" sAskedOut f fd)
    (Gn : FnOk P w K mg base CX0 k fn dn ["wishes"] (spNoHolds C)) (bn : Binds K dn ["wishes"] []) (kn : PySem.W.keepIn K (.ref fn) = true) (mn : mg "no_holds" = some (.ref fn))
    (Gh : FnOk P w K mg base CX0 k fh dh ["wishes", "holds"] (spHeldRanksL C)) (bh : Binds K dh ["wishes", "holds"] []) (kh : PySem.W.keepIn K (.ref fh) = true) (mh : mg "held_ranks" = some (.ref fh))
    (Gf : FnOk P w K mg base CX0 k ff df ["wishes", "most", "person"] (spFirstLeft C)) (bf : Binds K df ["wishes", "most", "person"] []) (kf : PySem.W.keepIn K (.ref ff) = true) (mf : mg "first_left" = some (.ref ff))
    (Gr : FnOk P w K mg base CX0 k fr dr ["wishes", "person", "other"] (spRankOf C)) (br : Binds K dr ["wishes", "person", "other"] []) (kr : PySem.W.keepIn K (.ref fr) = true) (mr : mg "rank_of" = some (.ref fr))
    (mli : mg "list" = none) (ml : mg "len" = none) (mrg : mg "range" = none) (mt : mg "tuple" = none) : FnOk P w K mg base CX0 (k + 1) f fd ["wishes"] (spAskedOut C) := by
  refine F.ok scAskedOut (fun vs H Q E h => ?_) (fun cdv A outer s H vs Q E hr h => ?_)
  · obtain ⟨wi, ns, ls, rfl, _⟩ := h
    rfl
  · obtain ⟨wi, ns, ls, rfl, W, q⟩ := h
    refine ⟨_, pss_cons (ps_set (i := 1) scAskedOut.nd rfl (.inl rfl) (pe_callTy call_list_of (by rfl) mli (by decide +kernel) (pa_cons (pe_call Gn hr rfl mn kn bn .nil pass0 (pa_cons (pv 0) pa_nil)) pa_nil)))
      (pss_cons (ps_set (i := 2) scAskedOut.nd rfl (.inl rfl) (pe_callTy call_list_of (by rfl) mli (by decide +kernel) (pa_cons (pe_call Gh hr rfl mh kh bh .nil pass0 (pa_cons (pv 0) (pa_cons (pv 1) pa_nil))) pa_nil)))
      (pss_cons (ps_set (i := 3) scAskedOut.nd rfl (.inl rfl) (pe_listRg rfl (by rfl) mli (prg_1 (by rfl) mrg (pe_callB call_len_seq (by rfl) ml PySem.boot_len (pa_cons (pv 1) pa_nil)))))
      (pss_cons (ps_while PassesOwn.never (pt_truth (pv 3) (fun _ => rfl))
        (pss_cons (ps_set (i := 4) scAskedOut.nd rfl (.inl rfl) (pe_bm0 PySem.F.plainAttrs_list PySem.F.slot_list_pop PySem.F.type_list_pop mt_pop (pv 3)))
        (pss_cons (ps_set (i := 5) scAskedOut.nd rfl (.inl rfl) (pe_call Gf hr rfl mf kf bf .nil pass0 (pa_cons (pv 0) (pa_cons (pv 2) (pa_cons (pv 4) pa_nil)))))
        (pss_one (ps_if (pt_cmpR op_notN (pv 5) pe_non (nomark _))
          (pss_cons (ps_if (pt_cmpR op_notN (pe_ix ix_list (pv 1) (pv 5) (fun _ _ => rfl)) pe_non (nomark _))
            (pss_one (ps_expr (pe_bm PySem.F.plainAttrs_list PySem.F.slot_list_append PySem.F.type_list_append mt_append (pv 3) (pa_cons (pe_ix ix_list (pv 1) (pv 5) (fun _ _ => rfl)) pa_nil)))) pss_nil)
          (pss_cons (ps_asg (pv 4) (pg_sub (pv 1) (pv 5) set_list))
          (pss_one (ps_asg (pe_call Gr hr rfl mr kr br .nil pass0 (pa_cons (pv 0) (pa_cons (pv 5) (pa_cons (pv 4) pa_nil)))) (pg_sub (pv 2) (pv 5) set_list))))) pss_nil)))))
      (pss_one (ps_ret (pe_callTy call_tuple_of (by rfl) mt (by decide +kernel) (pa_cons (pv 1) pa_nil))))))), ?_⟩
    have n60 := W.n60
    refine ⟨_, rfl, wi, ns, ls, rfl, W, fun t1 H1 s1 et1 => ⟨t1, _, rfl, .inr (SqT.of et1), fun D nD => gn ?_⟩⟩
    dsimp only [List.set, L2.start]
    have sD := same_upd (o := .lst (VH (List.replicate ls.length none))) nD
    refine ⟨_, rfl, _, rfl, wi, D, ns, ls, _, rfl, (W.same s1).same sD, upd_same, none_ok rfl, fun t2 H2 s2 et2 => ⟨t2, _, rfl, .inr (SqT.of et2), fun M nM => gn ?_⟩⟩
    dsimp only [List.set]
    have eD2 := s2 _ _ (upd_same (H := H1) (a := D) (o := .lst (VH (List.replicate ls.length none))))
    have nDM : D ≠ M := ne_of_none eD2 nM
    have sM := same_upd (o := .lst (VM ls (List.replicate ls.length none))) nM
    have eD3 := sM _ _ eD2
    refine ⟨_, rfl, D, _, rfl, .inl (SqL.of eD3), ?_⟩
    have lv : (VH (List.replicate ls.length (none : Option Nat))).length = ls.length := by rw [VH_len, List.length_replicate]
    refine ⟨_, rfl, RgOk.of_le (Int.le_refl 0) (by rw [lv]; omega) (by decide) (by omega), fun Wt nW => gn ?_⟩
    rw [lv, rg_VI]
    dsimp only [List.set]
    have eM3 : (upd H2 M (.lst (VM ls (List.replicate ls.length none)))) M = some (.lst (VM ls (List.replicate ls.length none))) := upd_same
    have nDW : D ≠ Wt := ne_of_none eD3 nW
    have nMW : M ≠ Wt := ne_of_none eM3 nW
    have sW := same_upd (o := .lst (VI (List.range ls.length))) nW
    have n0D : H D = none := s1.free nD
    have n0M : H M = none := (s1.trans (sD.trans s2)).free nM
    have n0W : H Wt = none := (s1.trans (sD.trans (s2.trans sM))).free nW
    refine tw (fun m σ H' => ∃ hs us y4 y5, σ = [some (.ref wi), some (.ref D), some (.ref M), some (.ref Wt), y4, y5] ∧ Same H H' ∧ H' D = some (.lst (VH hs)) ∧ H' M = some (.lst (VM ls hs)) ∧ H' Wt = some (.lst (VI us)) ∧ AO ls hs us ∧ m = sumM ls hs + us.length)
      (fun σ H' => ∃ g y4 y5, σ = [some (.ref wi), some (.ref D), some (.ref M), some (.ref Wt), y4, y5] ∧ Same H H' ∧ H' D = some (.lst (VH g)) ∧ Great ls g)
      ⟨_, _, none, none, rfl, s1.trans (sD.trans (s2.trans (sM.trans sW))), sW _ _ eD3, sW _ _ eM3, upd_same, ao_start, rfl⟩ ?_ (fun out => ?_)
    · rintro σ H' ⟨g, y4, y5, rfl, s', eD', G⟩
      refine ⟨_, rfl, D, _, rfl, .inl ⟨SqL.of eD', fun r nr => q r g _ G (s'.trans (same_upd nr)) ?_⟩⟩
      rw [upd_same]
    · rintro m σ H3 ⟨hs, ws, y4, y5, rfl, s3, eD, eM, eW, ao, rfl⟩
      refine ⟨_, rfl, _, .inl ⟨_, SqL.of eW, rfl⟩, ?_⟩
      rcases list_end ws with rfl | ⟨us, p, rfl⟩
      · refine iteF (out _ _ ⟨hs, y4, y5, rfl, s3, eD, ao_end ao⟩)
      · have ee : (!(VI (us ++ [p])).isEmpty) = true := by simp [VI]
        rw [ee]
        have eW1 : H3 Wt = some (.lst (VI us ++ [.int (p : Nat)])) := by rw [eW]; simp [VI]
        obtain ⟨hp, free⟩ := ao.fr p (by simp)
        refine iteT ⟨fun σ' H' => ∃ m', m' < sumM ls hs + (us ++ [p]).length ∧ ∃ hs us y4 y5, σ' = [some (.ref wi), some (.ref D), some (.ref M), some (.ref Wt), y4, y5] ∧ Same H H' ∧ H' D = some (.lst (VH hs)) ∧ H' M = some (.lst (VM ls hs)) ∧ H' Wt = some (.lst (VI us)) ∧ AO ls hs us ∧ m' = sumM ls hs + us.length, fun _ _ h => h, ?_⟩
        refine ⟨_, rfl, .inl ⟨rfl, _, SqL.of eW1⟩, Wt, _, .int (p : Nat), rfl, rfl, eW1, by simp, gn ?_⟩
        rw [List.dropLast_concat]
        dsimp only [List.set]
        have s4 : Same H (upd H3 Wt (.lst (VI us))) := s3.fresh n0W
        have eD4 : (upd H3 Wt (.lst (VI us))) D = some (.lst (VH hs)) := by rw [upd_ne nDW]; exact eD
        have eM4 : (upd H3 Wt (.lst (VI us))) M = some (.lst (VM ls hs)) := by rw [upd_ne nMW]; exact eM
        have eW4 : (upd H3 Wt (.lst (VI us))) Wt = some (.lst (VI us)) := upd_same
        generalize upd H3 Wt (.lst (VI us)) = H4 at s4 eD4 eM4 eW4
        refine ⟨_, rfl, _, rfl, _, rfl, wi, M, ns, ls, hs, p, rfl, W.same s4, .inr eM4, hp, fun H5 s5 => gn ?_⟩
        dsimp only [List.set]
        have s05 := s4.trans s5
        have eD5 := s5 _ _ eD4
        have eM5 := s5 _ _ eM4
        have eW5 := s5 _ _ eW4
        have hlen : hs.length = ls.length := ao.half.ok.len
        refine ⟨_, rfl, rfl, _, rfl, ?_⟩
        cases ef : fst ls hs p with
        | none =>
          have ef' : (leftL ls hs p).head? = none := ef
          rw [ef']
          refine iteF ⟨_, ?_, hs, us, _, _, rfl, s05, eD5, eM5, eW5, ao_pop ao ef, rfl⟩
          rw [List.length_append]
          simp
        | some j =>
          have ef' : (leftL ls hs p).head? = some j := ef
          rw [ef']
          obtain ⟨a1, a2⟩ := ao_ask W.ok ao ef
          obtain ⟨m1, m2, m3⟩ := (mem_left W.ok hp).mp (fst_mem ef)
          obtain ⟨j1, j2, j3⟩ := W.ok.mate hp m1
          have jl : j < hs.length := by omega
          refine iteT ?_
          refine seqcut (fun σ' H' => σ' = [some (.ref wi), some (.ref D), some (.ref M), some (.ref Wt), some (.int (p : Nat)), some (.int (j : Nat))] ∧ Same H H' ∧ H' D = some (.lst (VH hs)) ∧ H' M = some (.lst (VM ls hs)) ∧ H' Wt = some (.lst (VI (us ++ (ha hs j).toList)))) ?_ (fun out2 => ?_)
          · rintro σ' H6 ⟨rfl, s6, eD6, eM6, eW6⟩
            refine ⟨_, rfl, _, rfl, _, rfl, D, _, (j : Int), j, rfl, rfl, eD6, by rw [VH_len]; exact ixN_nat jl, ?_⟩
            rw [VH_set]
            have s7 : Same H (upd H6 D (.lst (VH (hs.set j (some p))))) := s6.fresh n0D
            have eD7 : (upd H6 D (.lst (VH (hs.set j (some p))))) D = some (.lst (VH (hs.set j (some p)))) := upd_same
            have eM7 : (upd H6 D (.lst (VH (hs.set j (some p))))) M = some (.lst (VM ls hs)) := by rw [upd_ne (Ne.symm nDM)]; exact eM6
            have eW7 : (upd H6 D (.lst (VH (hs.set j (some p))))) Wt = some (.lst (VI (us ++ (ha hs j).toList))) := by rw [upd_ne (Ne.symm nDW)]; exact eW6
            generalize upd H6 D (.lst (VH (hs.set j (some p)))) = H7 at s7 eD7 eM7 eW7
            refine ⟨_, rfl, _, rfl, _, rfl, wi, ns, ls, j, some p, rfl, W.same s7, j1, fun x e => by cases e; exact hp, ?_⟩
            rw [rkO_N fun x e => by cases e; exact j3]
            refine ⟨_, rfl, _, rfl, M, _, (j : Int), j, rfl, rfl, eM7, by rw [VM, List.length_map, List.length_range]; exact ixN_nat j1, ?_⟩
            have evm : (VM ls hs).set j (.int (rkN (la ls j) (some p) : Nat)) = VM ls (hs.set j (some p)) := VM_set jl
            rw [evm]
            refine ⟨_, ?_, hs.set j (some p), us ++ (ha hs j).toList, _, _, rfl, s7.fresh n0M, by rw [upd_ne nDM]; exact eD7, upd_same, by rw [upd_ne (Ne.symm nMW)]; exact eW7, a1, rfl⟩
            have : (ha hs j).toList.length ≤ 1 := by cases ha hs j <;> simp
            rw [List.length_append, List.length_append, List.length_singleton]
            omega
          · refine ⟨_, rfl, _, rfl, D, _, _, _, rfl, rfl, SqL.of eD5, atI_nat (VH_get (ha_get jl)), rfl, _, rfl, ?_⟩
            cases ek : ha hs j with
            | none =>
              refine iteF (out2 _ _ ⟨rfl, s05, eD5, eM5, ?_⟩)
              rw [ek]
              simpa using eW5
            | some x =>
              refine iteT ⟨_, rfl, .inl ⟨rfl, _, SqL.of eW5⟩, _, rfl, _, rfl, D, _, _, _, rfl, rfl, SqL.of eD5, atI_nat (VH_get (ha_get jl)), Wt, _, _, rfl, rfl, eW5, ?_, ?_⟩
              · rw [VI_len]
                exact sz6 (by
                  have nd := (List.nodup_append.mp ao.nd).1
                  have := nodup_sub_len nd (t := List.range ls.length) fun y hy => List.mem_range.mpr (ao.fr y (by simp [hy])).1
                  rw [List.length_range] at this
                  omega)
              · refine out2 _ _ ⟨rfl, s05.fresh n0W, by rw [upd_ne nDW]; exact eD5, by rw [upd_ne nMW]; exact eM5, ?_⟩
                rw [upd_same, ek]
                simp [VI, hv]
end
end K14
namespace K14
open PySem PySem.Spec PyProof.Rows L2
section
variable {J : It} {n : Nat} {G : Hp → Prop} {Y : Nat → Hp → V → Hp → Prop}
/-- a comprehension with a test, that leaves all as it stood -/
theorem lc_pick (w : Walk J n G Y) {g : TG} {tt : TT} {te : TE} {vs : List Nat} {σ : L2.St} {H0 : Hp} {D : Addr} {Qd : Hp → Prop} (hn : n ≤ 100000) (sel : Nat → Bool) (val : Nat → V) (nD : H0 D = none) (hG : ∀ H, Same H0 H → G H)
    (hs : ∀ (i : Nat) (x : V) (H H' : Hp) (R : Hp → Prop) (Z : V → Hp → Prop), (∀ H3, Same H H3 → sel i = true → Z (val i) H3) → (∀ H3, Same H H3 → sel i = false → R H3) → i < n → Same H0 H → Y i H x H' → g x (wipe σ vs) H' fun σ2 H2 => wipe σ2 vs = wipe σ vs ∧ tt σ2 H2 fun b H3 => if b = true then te σ2 H3 Z else R H3)
    (hd : ∀ H, Same H0 H → H D = some (.lst (((List.range n).filter sel).map val)) → Qd H) :
    ∃ W : Nat → Nat → Hp → Prop, (∃ m, W 0 m (upd H0 D (.lst []))) ∧ ∀ i m H, W i m H →
      (J.stop i H ∧ Qd H) ∨ (J.go i H ∧ ∃ Nx : Hp → Prop, (∀ H', Nx H' → ∃ m', m' < m ∧ W (i + 1) m' H') ∧ ∀ x H', J.yld i H x H' → g x (wipe σ vs) H' fun σ2 H2 => wipe σ2 vs = wipe σ vs ∧ tt σ2 H2 fun b H3 =>
        if b = true then te σ2 H3 fun y H4 => ∃ acc, H4 D = some (.lst acc) ∧ acc.length < sizeLine ∧ Nx (upd H4 D (.lst (acc ++ [y]))) else Nx H3) := by
  refine lc_it w (fun i H => Same H0 H ∧ H D = some (.lst (((List.range i).filter sel).map val))) ⟨same_upd nD, by rw [upd_same]; rfl⟩ (fun i H _ h => hG H h.1) (fun i x H H' hi h y => ?_) (fun H h => hd H h.1 h.2)
  refine hs i x H H' (fun H => Same H0 H ∧ H D = some (.lst (((List.range (i + 1)).filter sel).map val))) (fun v H3 => ∃ acc, H3 D = some (.lst acc) ∧ acc.length < sizeLine ∧ (fun H => Same H0 H ∧ H D = some (.lst (((List.range (i + 1)).filter sel).map val))) (upd H3 D (.lst (acc ++ [v])))) (fun H3 z ft => ?_) (fun H3 z ff => ?_) hi h.1 y
  · refine ⟨_, z _ _ h.2, ?_, (h.1.trans z).fresh nD, ?_⟩
    · rw [List.length_map]
      refine sz6' (Nat.le_trans (List.length_filter_le _ _) ?_)
      rw [List.length_range]
      omega
    · rw [upd_same, List.range_succ, List.filter_append, List.filter_cons, if_pos ft, List.filter_nil, List.map_append]
      rfl
  · refine ⟨h.1.trans z, ?_⟩
    rw [z _ _ h.2, List.range_succ, List.filter_append, List.filter_cons, if_neg (by rw [ff]; decide), List.filter_nil, List.append_nil]
/-- a tuple of numbers, or None -/
def OV (H : Hp) (v : V) : Option (List Nat) → Prop
  | none => v = .non
  | some s => ∃ t, v = .ref t ∧ H t = some (.tup (VI s))
theorem OV.same {H H' : Hp} {v : V} {o : Option (List Nat)} (h : OV H v o) (s : Same H H') : OV H' v o := by
  cases o with
  | none => exact h
  | some l => obtain ⟨t, e, et⟩ := h; exact ⟨t, e, s _ _ et⟩
theorem OV.put {H : Hp} {v : V} {o : Option (List Nat)} {D : Addr} {acc acc' : List V} (h : OV H v o) (eD : H D = some (.lst acc)) : OV (upd H D (.lst acc')) v o := by
  cases o with
  | none => exact h
  | some l =>
    obtain ⟨t, e, et⟩ := h
    refine ⟨t, e, ?_⟩
    rw [upd_ne (fun z => by rw [z, eD] at et; cases et)]
    exact et
/-- a comprehension of new tuples of numbers, or None, that leaves all else as it stood -/
theorem lc_opt (w : Walk J n G Y) {g : TG} {te : TE} {vs : List Nat} {σ : L2.St} {H0 : Hp} {D : Addr} {Qd : Hp → Prop} (hn : n ≤ 100000) (X : Nat → Option (List Nat)) (nD : H0 D = none) (hG : ∀ H, Same H0 H → G H)
    (hs : ∀ (i : Nat) (x : V) (H H' : Hp) (Z : V → Hp → Prop), (∀ v H3, Same H H3 → OV H3 v (X i) → Z v H3) → i < n → Same H0 H → Y i H x H' → g x (wipe σ vs) H' fun σ2 H2 => wipe σ2 vs = wipe σ vs ∧ te σ2 H2 Z)
    (hd : ∀ (rs : List V) H, Same H0 H → H D = some (.lst rs) → rs.length = n → (∀ (j : Nat) (v : V), rs[j]? = some v → OV H v (X j)) → Qd H) :
    ∃ W : Nat → Nat → Hp → Prop, (∃ m, W 0 m (upd H0 D (.lst []))) ∧ ∀ i m H, W i m H →
      (J.stop i H ∧ Qd H) ∨ (J.go i H ∧ ∃ Nx : Hp → Prop, (∀ H', Nx H' → ∃ m', m' < m ∧ W (i + 1) m' H') ∧ ∀ x H', J.yld i H x H' → g x (wipe σ vs) H' fun σ2 H2 => wipe σ2 vs = wipe σ vs ∧ tYes σ2 H2 fun b H3 =>
        if b = true then te σ2 H3 fun y H4 => ∃ acc, H4 D = some (.lst acc) ∧ acc.length < sizeLine ∧ Nx (upd H4 D (.lst (acc ++ [y]))) else Nx H3) := by
  refine lc_it w (fun i H => ∃ rs : List V, Same H0 H ∧ H D = some (.lst rs) ∧ rs.length = i ∧ ∀ (j : Nat) (v : V), rs[j]? = some v → OV H v (X j)) ⟨[], same_upd nD, upd_same, rfl, fun _ _ e => by simp at e⟩ (fun i H _ ⟨_, h, _⟩ => hG H h) (fun i x H H' hi ⟨rs, sm, eD, rl, old⟩ y => ?_) (fun H ⟨rs, sm, eD, rl, old⟩ => hd rs H sm eD rl old)
  refine hs i x H H' (fun v H3 => ∃ acc, H3 D = some (.lst acc) ∧ acc.length < sizeLine ∧ (fun H => ∃ rs : List V, Same H0 H ∧ H D = some (.lst rs) ∧ rs.length = i + 1 ∧ ∀ (j : Nat) (v : V), rs[j]? = some v → OV H v (X j)) (upd H3 D (.lst (acc ++ [v])))) (fun v H3 s3 ov => ?_) hi sm y
  have eD3 := s3 _ _ eD
  refine ⟨_, eD3, by rw [rl]; exact sz6' (by omega), rs ++ [v], (sm.trans s3).fresh nD, upd_same, by simp [rl], ?_⟩
  intro j u e
  by_cases c : j < rs.length
  · rw [List.getElem?_append_left c] at e
    exact ((old j u e).same s3).put eD3
  · rw [List.getElem?_append_right (by omega), List.getElem?_singleton] at e
    split at e
    · cases e
      have : j = i := by omega
      subst this
      exact ov.put eD3
    · cases e
end
/-- a tuple of those -/
def OT (H : Hp) (r : Addr) (xs : List (Option (List Nat))) : Prop := ∃ vs : List V, H r = some (.tup vs) ∧ vs.length = xs.length ∧ ∀ (j : Nat) (v : V) (o : Option (List Nat)), vs[j]? = some v → xs[j]? = some o → OV H v o
theorem OT.same {H H' : Hp} {r : Addr} {xs : List (Option (List Nat))} (t : OT H r xs) (s : Same H H') : OT H' r xs := let ⟨vs, e, l, q⟩ := t; ⟨vs, s _ _ e, l, fun j v o e1 e2 => (q j v o e1 e2).same s⟩
def dO1 : Option (List Nat) → PyData
  | none => .none
  | some s => dI s
def dO (xs : List (Option (List Nat))) : PyData := .tuple (xs.map dO1)
theorem dp_all {K : PySem.W.Frag} {H : Hp} : ∀ {vs : List V} {xs : List (Option (List Nat))}, vs.length = xs.length → (∀ (j : Nat) (v : V) (o : Option (List Nat)), vs[j]? = some v → xs[j]? = some o → OV H v o) → DpAll K H vs (xs.map dO1)
  | [], [], _, _ => .nil
  | [], _ :: _, l, _ => by cases l
  | _ :: _, [], l, _ => by cases l
  | v :: vs, o :: xs, l, h => by
    refine .cons ?_ (dp_all (by simpa using l) fun j u p e1 e2 => h (j + 1) u p (by simpa using e1) (by simpa using e2))
    have h0 := h 0 v o rfl rfl
    cases o with
    | none => cases h0; exact .non
    | some s => obtain ⟨t, rfl, et⟩ := h0; exact dp_dI (.inl et)
theorem dp_dO {K : PySem.W.Frag} {H : Hp} {r : Addr} {xs : List (Option (List Nat))} (t : OT H r xs) : Dp K H (.ref r) (dO xs) := by
  obtain ⟨vs, e, l, q⟩ := t
  exact .tup (SqT.of e) (dp_all l q)
theorem sh_dO (xs : List (Option (List Nat))) : SeqAt.shaped (dO xs) = true := by
  unfold dO
  refine shaped_of ?_ ?_
  · simp only [PyData.canLay0]
    refine layAll fun x hx => ?_
    obtain ⟨o, _, rfl⟩ := List.mem_map.mp hx
    cases o with
    | none => rfl
    | some s => exact (lay_dI s).1
  · simp only [PyData.depth]
    have := depAll (xs := xs.map dO1) (d := 2) fun x hx => by
      obtain ⟨o, _, rfl⟩ := List.mem_map.mp hx
      cases o with
      | none => simp [PyData.depth, dO1]
      | some s => exact (lay_dI s).2
    omega
theorem eq_dO (xs : List (Option (List Nat))) : PyData.eqv (dO xs) (dO xs) = true := by
  refine SeqAt.eqv_refl _ ?_
  have := sh_dO xs
  unfold SeqAt.shaped at this
  rw [Bool.and_eq_true] at this
  exact this.1
theorem eq_dI (s : List Nat) : PyData.eqv (dI s) (dI s) = true := by
  refine SeqAt.eqv_refl _ ?_
  exact (lay_dI s).1
theorem rp_of {d : PyData} {m B : Nat} (h : RpI d m B) (hm : m ≤ 60) (hB : B ≤ 1000000) : Rp d := ⟨h.sh, h.nd, Nat.le_trans h.dp hm, Nat.le_trans h.ln (Nat.le_trans hB (by decide))⟩
theorem rp_dO {xs : List (Option (List Nat))} (l : xs.length ≤ 60) (h : ∀ s, some s ∈ xs → s.length ≤ 60 ∧ ∀ j ∈ s, j < 60) : Rp (dO xs) := by
  unfold dO
  refine rp_of (rp_tup (m := 1) (B := 2000) fun x hx => ?_) (by decide) (by rw [List.length_map]; omega)
  obtain ⟨o, ho, rfl⟩ := List.mem_map.mp hx
  cases o with
  | none => exact ⟨rp_none.sh, rp_none.nd, Nat.le_trans rp_none.dp (by decide), Nat.le_trans rp_none.ln (by decide)⟩
  | some s => exact rp_dI (h s ho).1 (h s ho).2
theorem rp_dI' {s : List Nat} (l : s.length ≤ 60) (h : ∀ j ∈ s, j < 60) : Rp (dI s) := rp_of (rp_dI l h) (by decide) (by decide)
end K14
namespace K14
open PySem PySem.Spec PyProof.Rows L2
/-- the first and the last one -/
def endO : List Nat → Option (List Nat)
  | [] => none
  | a :: t => some [a, ((a :: t).getLast?).getD 0]
theorem endO_some {s : List Nat} {e : List Nat} (h : endO s = some e) : ∃ a b, e = [a, b] ∧ a ∈ s ∧ b ∈ s := by
  cases s with
  | nil => cases h
  | cons a t =>
    cases h
    refine ⟨a, _, rfl, by simp, ?_⟩
    cases e : (a :: t).getLast? with
    | none => simp at e
    | some z => exact List.mem_of_getLast? e
def endsA (ls : List (List Nat)) (hs : List (Option Nat)) : List (Option (List Nat)) := (List.range ls.length).map fun p => endO (leftL ls hs p)
theorem endsA_len {ls : List (List Nat)} {hs : List (Option Nat)} : (endsA ls hs).length = ls.length := by simp [endsA]
theorem endsA_at {ls : List (List Nat)} {hs : List (Option Nat)} {p : Nat} (h : p < ls.length) : (endsA ls hs)[p]? = some (endO (leftL ls hs p)) := by simp [endsA, h]
def singleL (ls : List (List Nat)) (hs : List (Option Nat)) : List Nat := (List.range ls.length).filter fun p => (ha hs p).isNone
/-- of a list left: the first and the last one, or None -/
abbrev teEnds (K : PySem.W.Frag) (i : Nat) : TE := tIf (fun σ H Q => tVar i σ H fun x H' => ∃ k, TruV K x H' k ∧ Q k H') (tTup (tCons (tOp (rIxT K) (tVar i) (tC (.int 0))) (tCons (tOp (rIxT K) (tVar i) (tUn (rU fun i => V.int (-i)) (tC (.int 1)))) tNil))) (tC .non)
theorem te_ends {K : PySem.W.Frag} {i : Nat} {σ : L2.St} {H : Hp} {c : Addr} {s : List Nat} {Q : VK} (es : σ[i]? = some (some (.ref c))) (ec : Tp H c (VI s)) (q : ∀ v H', Same H H' → OV H' v (endO s) → Q v H') : teEnds K i σ H Q := by
  refine ⟨_, es, _, .inr (.inl ⟨_, ec.sq, rfl⟩), ?_⟩
  cases s with
  | nil => exact iteF (q .non H same_rfl rfl)
  | cons a t =>
    refine iteT ?_
    have sq := ec.sq (K := K)
    refine ⟨_, es, c, _, 0, .int (a : Nat), rfl, rfl, sq, atI_nat (j := 0) rfl, _, es, _, rfl, c, _, -1, .int (((a :: t).getLast?).getD 0 : Nat), rfl, rfl, sq, ?_, (by show 2 ≤ sizeLine; decide), fun r nr => ?_⟩
    · rcases list_end (a :: t) with h | ⟨ys, z, h⟩
      · cases h
      · rw [h, VI_app, List.getLast?_append]
        exact atI_last _ _
    · exact q (.ref r) _ (same_upd nr) ⟨r, rfl, upd_same⟩
def spEndsLeft (C : Addr) : Sp := fun vs H Q _ => ∃ (wi : Addr) (ns ls : List (List Nat)), vs = [.ref wi] ∧ WAt C H wi ns ls ∧ ∀ r g H', Great ls g → Same H H' → OT H' r (endsA ls g) → Q (.ref r) H'
def spLeftSingle (C : Addr) : Sp := fun vs H Q _ => ∃ (wi : Addr) (ns ls : List (List Nat)), vs = [.ref wi] ∧ WAt C H wi ns ls ∧ ∀ r g H', Great ls g → Same H H' → H' r = some (.tup (VI (singleL ls g))) → Q (.ref r) H'
section
variable {P : Program} {w : World} {K : PySem.W.Frag} {mg : Str → Option Value} {base : Heap}
end
end K14
namespace K14
open PySem PySem.Spec PyProof.Rows L2
theorem eqv_dI_nil (s : List Nat) : PyData.eqv (dI s) (.tuple []) = s.isEmpty := by
  cases s with
  | nil => decide
  | cons c r => simp [dI, PyData.eqv, PyData.eqvAll]
theorem sh_dI (s : List Nat) : SeqAt.shaped (dI s) = true := shaped_of (lay_dI s).1 (Nat.le_trans (lay_dI s).2 (by decide))
theorem flat_VH (hs : List (Option Nat)) : (VH hs).all flatV = true := by
  unfold VH
  rw [List.all_map, List.all_eq_true]
  intro o _
  cases o <;> rfl
def spOut : Sp := fun vs H Q _ => ∃ (a : Addr) (ls : List (List Nat)), vs = [.ref a] ∧ LX H a ls ∧ 1 ≤ ls.length ∧ ls.length ≤ 60 ∧ ListsOk ls.length ls ∧ ∀ (r : Addr) (g : List (Option Nat)) (H' : Hp), Great ls g → Same H H' → H' r = some (.tup (VH g)) → Q (.ref r) H'
theorem inV_VH {hs : List (Option Nat)} {p : Nat} : inV (.int (p : Nat)) (VH hs) = true ↔ some p ∈ hs := by
  unfold inV VH
  rw [List.any_map, List.any_eq_true]
  constructor
  · rintro ⟨x, hx, e⟩
    cases x with
    | none => cases e
    | some j =>
      have : ((j : Nat) : Int) = (p : Int) := eq_of_beq e
      have : j = p := by omega
      rw [← this]
      exact hx
  · intro h
    exact ⟨some p, h, beq_self_eq_true _⟩
/-- whoever can ask -/
def askers (ls : List (List Nat)) (hs : List (Option Nat)) : List Nat := (List.range ls.length).filter fun p => !(leftL ls hs p).isEmpty && !inV (.int (p : Nat)) (VH hs)
theorem asker_iff {ls : List (List Nat)} {hs : List (Option Nat)} (hl : hs.length = ls.length) {p : Nat} : p ∈ askers ls hs ↔ p < ls.length ∧ (∃ j, fst ls hs p = some j) ∧ ∀ q, q < ls.length → ha hs q ≠ some p := by
  unfold askers
  rw [List.mem_filter, List.mem_range, Bool.and_eq_true]
  refine and_congr_right fun hp => and_congr ?_ ?_
  · unfold fst
    cases leftL ls hs p with
    | nil => simp
    | cons a t => simp
  · have : (!inV (.int (p : Nat)) (VH hs)) = true ↔ ¬ some p ∈ hs := by
      rw [← inV_VH (hs := hs)]
      cases inV (.int (p : Nat)) (VH hs) <;> simp
    rw [this]
    constructor
    · intro h q hq e
      have hq' : q < hs.length := by omega
      have := ha_get (hs := hs) hq'
      rw [e] at this
      exact h (List.mem_of_getElem? this)
    · intro h hm
      obtain ⟨q, hq, e⟩ := List.mem_iff_getElem.mp hm
      refine h q (by omega) ?_
      unfold ha
      rw [List.getD_eq_getElem?_getD, List.getElem?_eq_getElem hq, e]
      rfl
theorem great_no {ls : List (List Nat)} {g : List (Option Nat)} (G : Great ls g) : askers ls g = [] := by
  refine List.eq_nil_iff_forall_not_mem.mpr fun p hp => ?_
  obtain ⟨h1, ⟨j, h2⟩, h3⟩ := (asker_iff G.ok.len).mp hp
  have := G.st.b p j h1 h2
  exact h3 j (G.ok.on j p this).1 this
theorem no_great {ls : List (List Nat)} {hs : List (Option Nat)} (h : Half ls hs) (t : Top ls hs) (e : askers ls hs = []) : Great ls hs := great_of h t fun p j hp ef => Classical.byContradiction fun c => by
  have : p ∈ askers ls hs := (asker_iff h.ok.len).mpr ⟨hp, ⟨j, ef⟩, fun q hq z => c ⟨q, hq, z⟩⟩
  rw [e] at this
  cases this
section
variable {P : Program} {w : World} {K : PySem.W.Frag} {mg : Str → Option Value} {base : Heap}
end
end K14
/-! rows of asks -/
namespace K14
open PySem PySem.Spec PyProof.Rows L2
abbrev noneL (ls : List (List Nat)) : List (Option Nat) := List.replicate ls.length none
def bhd (ls : List (List Nat)) (hs : List (Option Nat)) (p : Nat) : List (Option Nat) := match fst ls hs p with
  | some j => hs.set j (some p)
  | none => hs
/-- the holds behind a row of asks -/
def bh (ls : List (List Nat)) (row : List Nat) : List (Option Nat) := row.foldl (bhd ls) (noneL ls)
theorem bh_snoc {ls : List (List Nat)} {row : List Nat} {p : Nat} : bh ls (row ++ [p]) = bhd ls (bh ls row) p := by
  unfold bh
  rw [List.foldl_append]
  rfl
/-- each one can ask -/
def Val (ls : List (List Nat)) (row : List Nat) : Prop := ∀ i p, row[i]? = some p → p ∈ askers ls (bh ls (row.take i))
theorem val_nil {ls : List (List Nat)} : Val ls [] := fun i p e => by simp at e
theorem val_snoc {ls : List (List Nat)} {row : List Nat} {p : Nat} : Val ls (row ++ [p]) ↔ Val ls row ∧ p ∈ askers ls (bh ls row) := by
  constructor
  · intro v
    refine ⟨fun i x e => ?_, ?_⟩
    · have hi := (List.getElem?_eq_some_iff.mp e).1
      have := v i x (by rw [List.getElem?_append_left hi]; exact e)
      rw [List.take_append_of_le_length (by omega)] at this
      exact this
    · have := v row.length p (by simp)
      rw [List.take_left] at this
      exact this
  · rintro ⟨v, m⟩ i x e
    by_cases c : i < row.length
    · rw [List.getElem?_append_left c] at e
      rw [List.take_append_of_le_length (by omega)]
      exact v i x e
    · rw [List.getElem?_append_right (by omega), List.getElem?_singleton] at e
      split at e
      · cases e
        have : i = row.length := by omega
        subst this
        rw [List.take_left]
        exact m
      · cases e
theorem take_snoc {α : Type} {xs : List α} {i : Nat} {x : α} (e : xs[i]? = some x) : xs.take (i + 1) = xs.take i ++ [x] := by
  rw [List.take_succ, e]
  rfl
theorem Val.take {ls : List (List Nat)} {row : List Nat} (v : Val ls row) (n : Nat) : Val ls (row.take n) := fun i p e => by
  have hi := (List.getElem?_eq_some_iff.mp e).1
  rw [List.length_take] at hi
  rw [List.getElem?_take_of_lt (by omega)] at e
  rw [List.take_take, Nat.min_eq_left (by omega)]
  exact v i p e
section
variable {ls : List (List Nat)} (ok : ListsOk ls.length ls)
include ok in
theorem val_rch : ∀ (n : Nat) (row : List Nat), row.length = n → Val ls row → Half ls (bh ls row) ∧ Top ls (bh ls row) ∧ n + sumM ls (bh ls row) ≤ sumM ls (noneL ls)
  | 0, row, l, v => by
    cases row with
    | nil => exact ⟨half_none, top_none, by show 0 + sumM ls (noneL ls) ≤ _; omega⟩
    | cons a t => cases l
  | n + 1, row, l, v => by
    rcases list_end row with rfl | ⟨us, p, rfl⟩
    · cases l
    · obtain ⟨v1, m⟩ := val_snoc.mp v
      obtain ⟨h, t, le⟩ := val_rch n us (by simpa using l) v1
      obtain ⟨hp, ⟨j, ef⟩, fr⟩ := (asker_iff h.ok.len).mp m
      obtain ⟨h1, h2⟩ := ask ok h hp ef fr
      have e : bh ls (us ++ [p]) = (bh ls us).set j (some p) := by
        rw [bh_snoc]
        unfold bhd
        rw [ef]
      rw [e]
      exact ⟨h1, ask_top ok h t hp ef, by omega⟩
include ok in
theorem val_half {row : List Nat} (v : Val ls row) : Half ls (bh ls row) := (val_rch ok _ row rfl v).1
include ok in
theorem val_ok {row : List Nat} (v : Val ls row) : HoldsOk ls (bh ls row) := (val_half ok v).ok
include ok in
theorem val_end {row : List Nat} (v : Val ls row) (e : askers ls (bh ls row) = []) : Great ls (bh ls row) := by
  obtain ⟨h, t, _⟩ := val_rch ok _ row rfl v
  exact no_great h t e
include ok in
theorem val_len {row : List Nat} (v : Val ls row) : row.length ≤ sumM ls (noneL ls) := by
  have := (val_rch ok _ row rfl v).2.2
  omega
theorem sum_none_le {ls : List (List Nat)} (n60 : ls.length ≤ 60) (ok : ListsOk ls.length ls) : sumM ls (noneL ls) ≤ 3600 := by
  have b : ∀ n, n ≤ ls.length → ((List.range n).map (most ls (noneL ls))).sum ≤ n * 60 := by
    intro n
    induction n with
    | zero => intro _; exact Nat.le_refl _
    | succ n ih =>
      intro hn
      rw [List.range_succ, List.map_append, List.sum_append]
      have h1 := ih (by omega)
      have h2 : most ls (noneL ls) n ≤ 60 := by
        rw [most_none ha_none]
        have := ok.each (la_get (show n < ls.length by omega))
        omega
      simp
      omega
  have := b ls.length (Nat.le_refl _)
  unfold sumM
  have : ls.length * 60 ≤ 60 * 60 := Nat.mul_le_mul_right 60 n60
  omega
include ok in
theorem asker_first {hs : List (Option Nat)} (ho : HoldsOk ls hs) {p : Nat} (m : p ∈ askers ls hs) : ∃ j tl, p < ls.length ∧ leftL ls hs p = j :: tl ∧ fst ls hs p = some j ∧ j < ls.length ∧ p ∈ la ls j ∧ bhd ls hs p = hs.set j (some p) := by
  obtain ⟨hp, ⟨j, ef⟩, _⟩ := (asker_iff ho.len).mp m
  have jm := (mem_left ok hp).mp (fst_mem ef)
  obtain ⟨j1, _, j3⟩ := ok.mate hp jm.1
  have el : ∃ tl, leftL ls hs p = j :: tl := by
    have ef' := ef
    unfold fst at ef'
    cases e : leftL ls hs p with
    | nil => rw [e] at ef'; cases ef'
    | cons b t => rw [e] at ef'; cases ef'; exact ⟨t, rfl⟩
  obtain ⟨tl, el⟩ := el
  exact ⟨j, tl, hp, el, ef, j1, j3, by unfold bhd; rw [ef]⟩
include ok in
theorem bhd_ok {hs : List (Option Nat)} (ho : HoldsOk ls hs) {p : Nat} (m : p ∈ askers ls hs) : HoldsOk ls (bhd ls hs p) := by
  obtain ⟨j, tl, hp, _, _, j1, j3, e⟩ := asker_first ok ho m
  rw [e]
  refine ⟨by rw [List.length_set, ho.len], fun q o eo => ?_⟩
  rw [ha_set (by rw [ho.len]; exact j1)] at eo
  by_cases c : q = j
  · rw [if_pos c] at eo
    cases eo
    subst c
    exact ⟨j1, j3⟩
  · rw [if_neg c] at eo
    exact ho.on q o eo
end
/-! ### rows of any values -/
def VB : Option Nat → V
  | some p => .int (p : Nat)
  | none => .bl true
def VQ (row : List (Option Nat)) : List V := row.map VB
def Good (ls : List (List Nat)) (row : List (Option Nat)) : Prop := ∃ r : List Nat, row = r.map some ∧ Val ls r
theorem good_snoc {ls : List (List Nat)} {row : List (Option Nat)} {o : Option Nat} : Good ls (row ++ [o]) ↔ ∃ r p, row = r.map some ∧ o = some p ∧ Val ls r ∧ p ∈ askers ls (bh ls r) := by
  constructor
  · rintro ⟨r, e, v⟩
    rcases list_end r with rfl | ⟨us, p, rfl⟩
    · simp at e
    · rw [List.map_append] at e
      have e2 := List.append_inj' e rfl
      have e3 : [o] = [some p] := e2.2
      cases e3
      obtain ⟨v1, m⟩ := val_snoc.mp v
      exact ⟨us, p, e2.1, rfl, v1, m⟩
  · rintro ⟨r, p, rfl, rfl, v, m⟩
    exact ⟨r ++ [p], by simp, val_snoc.mpr ⟨v, m⟩⟩
theorem Good.take {ls : List (List Nat)} {row : List (Option Nat)} (g : Good ls row) (n : Nat) : Good ls (row.take n) := by
  obtain ⟨r, rfl, v⟩ := g
  exact ⟨r.take n, by rw [List.map_take], v.take n⟩
theorem map_some_inj {r t : List Nat} (h : r.map some = t.map some) : r = t := (List.map_inj_right fun _ _ h => Option.some.inj h).mp h
/-- a row of asks to the end -/
def IsRun (ls : List (List Nat)) (row : List (Option Nat)) : Prop := ∃ r : List Nat, row = r.map some ∧ Val ls r ∧ askers ls (bh ls r) = []
theorem VQ_some (r : List Nat) : VQ (r.map some) = VI r := by
  unfold VQ VI
  rw [List.map_map]
  rfl
end K14
namespace K14
open PySem PySem.Spec PyProof.Rows L2
structure Has (P : Program) (w : World) (K : PySem.W.Frag) (mg : Str → Option Value) (base : Heap) (k : Nat) (x : Str) (ps : List Str) (sp : Sp) (f : Addr) (fd : FuncData) : Prop where
  ok : FnOk P w K mg base CX0 k f fd ps sp
  b : Binds K fd ps []
  k : PySem.W.keepIn K (.ref f) = true
  m : mg x = some (.ref f)
structure HasG (P : Program) (w : World) (K : PySem.W.Frag) (mg : Str → Option Value) (base : Heap) (k : Nat) (x : Str) (ps : List Str) (sp : Sp) (f : Addr) (fd : FuncData) : Prop where
  ok : RunG P w K mg base k f fd ps sp
  b : Binds K fd ps []
  k : PySem.W.keepIn K (.ref f) = true
  m : mg x = some (.ref f)
structure HasX (P : Program) (w : World) (K : PySem.W.Frag) (mg : Str → Option Value) (base : Heap) (CX : CXT) (k : Nat) (x : Str) (ps : List Str) (sp : Sp) (f : Addr) (fd : FuncData) : Prop where
  ok : FnOk P w K mg base CX k f fd ps sp
  b : Binds K fd ps []
  k : PySem.W.keepIn K (.ref f) = true
  m : mg x = some (.ref f)
end K14
/-! isinstance of a caught error that has fields; a lambda heard: told, or refused with its word -/
namespace K14
open PySem PySem.Spec PyProof.Rows L2
def rIsX (K : PySem.W.Frag) (D a : Addr) (cls : Value) (d : Option Addr) : List V → Hp → VK → Prop := fun xs H Q => ∃ (c : V) (cv : Value) (b : Bool) (dd : Addr) (fs : List (Str × V)), xs = [.ref a, c] ∧ cls = .ref D ∧ d = some dd ∧ H dd = some (.xd fs) ∧ (∀ u, RelV c u → u = cv) ∧ PySem.W.kitOne K (.ref D) cv = some b ∧ Q (.bl b) H
theorem call_isX {X : Cx} {a D : Addr} {oe : Obj} {cls : Value} {d : Option Addr} {pn : List (Addr × Obj)} (C : ExcC X.K D) (hz : Zc cls d oe) (hf : ∃ vs, oe.data = .fields vs) : CallR (X.suite a ((a, oe) :: pn)) (.builtin "isinstance") (rIsX X.K D a cls d) := by
  intro pins s σ H xs us Q I r h
  obtain ⟨c, cv, b, dd, fs, rfl, rfl, rfl, ea, hcv, e, q⟩ := h
  match us, r with
  | _, .cons rx (.cons rt .nil) =>
    have e1 := hcv _ rt
    subst e1
    cases rx
    have at_a := (I.pin (a, oe) (List.mem_append_left _ List.mem_cons_self)).1
    obtain ⟨vs, hv⟩ := hf
    obtain ⟨mA, ns, _⟩ := (I.hok dd _ ea : ObjOk X.prog X.w H s.heap dd (.xd fs))
    obtain ⟨od, od1, _⟩ := lookIn_ns ns
    have J : PySem.W.InstAt s.heap a oe D (some od) := ⟨at_a, hz.1, by unfold PySem.W.notCls; rw [hv] <;> rfl, by rw [hz.2]; exact od1⟩
    have isc : (PySem.W.clsIn X.K D).isSome = true := by
      obtain ⟨cd, hc, _⟩ := PySem.W.any_some C.hd
      rw [hc]
      rfl
    exact PySem.W.kia_one (PySem.W.kitx_exc isc C.hg C.hk C.hs C.ha C.hn C.ht C.hm) I.kIn J e (fun z => nomatch z) fun tk => ⟨.bl b, H, I.kept (t' := tk) fun _ _ z => z, rfl, q⟩
/-- what the top says of the errors: Refused at CR, MateError at CM -/
structure ErrT (K : PySem.W.Frag) (mg : Str → Option Value) (CR CM fI : Addr) : Prop where
  o : OexC K CR
  x : XfC K CR
  c : ExcC K CR
  noW : PySem.W.findIn K (.ref CR) "word" = some none
  iC : PySem.W.findIn K (.ref CR) "__init__" = some (some (.ref fI))
  tI : PySem.W.typeIn K (.ref fI) = some (.type "function")
  gR : mg "Refused" = some (.ref CR)
  gM : mg "MateError" = some (.ref CM)
  kM : PySem.W.keepIn K (.ref CM) = true
  ex : PySem.W.exmOne K (.ref CR) (.ref CR) = some true
  is : PySem.W.kitOne K (.ref CR) (.ref CM) = some true
/-- what is made of a lambda that is heard -/
def THeard (CR : Addr) : (XK → Hp → VK → Prop) → Hp → VK → Prop := fun tl H Q =>
  tl (fun cls d H' => cls = .ref CR ∧ ∃ (dd : Addr) (wd : V), d = some dd ∧ H' dd = some (.xd [("word", wd)]) ∧ ∀ p, H' p = none → Q (.ref p) (upd H' p (.tup [.str "refused", wd]))) H
    fun v H' => 2 ≤ sizeLine ∧ ∀ p, H' p = none → Q (.ref p) (upd H' p (.tup [.str "told", v]))
theorem scHeard : FnScope ["action", "error"] ["action"] (defScope sLHeard) := ⟨rfl, rfl, rfl, by decide +kernel, rfl, by decide +kernel, by decide +kernel⟩
theorem two_of_len {σ : L2.St} (h : σ.length = 2) : ∃ x y, σ = [x, y] := by
  match σ, h with
  | [x, y], _ => exact ⟨x, y, rfl⟩
theorem heard_gives {X : Cx} {g CR CM fI : Addr} {cdg : Value} {q : Str} (T : ErrT X.K X.mg CR CM fI) (mis : X.mg "isinstance" = none) : LamX.GivesTo X ["action", "error"] "_law_heard" (defScope sLHeard) g cdg (defBody sLHeard) "action" q (THeard CR) := by
  intro f c' s H Q tl act hc h
  have s2 : ([V.str "told", V.non] : List V).length ≤ sizeLine := by show 2 ≤ sizeLine; decide
  refine ⟨_, pss_one (ps_try_as (X := (cxOf C8.CX0 X.prog X.w X.K X.mg X.base ["action", "error"] "_law_heard" (defScope sLHeard) g cdg X.A X.stack s H C8.E0).nox) (i := 1) (c := .ref CR)
      (tb := fun W D σ H => ∃ Ech : XK, (∀ cls d σ' H', σ'.length = 2 → Ech cls d H' → W cls d σ' H') ∧ σ[0]? = some (some (.ref f)) ∧ H c' = some (LamX.CodeO c' q) ∧ tl Ech H fun v H1 => 2 ≤ sizeLine ∧ ∀ p, H1 p = none → D.rt (.ref p) (upd H1 p (.tup [.str "told", v])))
      (ts := fun a cls d => tRet (tTup (tCons (tC (.str "refused")) (tCons (tIf (tB (tCB (rIsX X.K CR a cls d) (tCons (tVar 1) (tCons (tC (.ref CM)) tNil)))) (tXf a cls d CR "word" (tVar 1)) (tC (.str "mixed"))) tNil))))
      rfl rfl scHeard.nd rfl rfl ⟨rfl, by decide, .inl T.gR⟩ LamX.takes0 (fun W pn xe tk _ => ?_) (fun a oe cls d pn hz hf => ?_)), ?_⟩
  · refine ⟨fun pins s' σ H' D I h' => ?_⟩
    obtain ⟨Ech, hW, h1, h2, h3⟩ := h'
    have tk0 : Takes ((cxOf C8.CX0 X.prog X.w X.K X.mg X.base ["action", "error"] "_law_heard" (defScope sLHeard) g cdg X.A X.stack s H C8.E0).tr pn xe) (fun cls d σ' H' => W cls d σ' H' ∨ σ'.length ≠ 2) := by
      rintro u s9 ⟨a, B, sI, pins9, σ9, H9, cls, d, e, I9, nb, up, sky, na, os, ag, w⟩
      refine tk u s9 ⟨a, B, sI, pins9, σ9, H9, cls, d, e, I9, nb, up, sky, na, os, ag, ?_⟩
      rcases w with w | w
      · exact w
      · exact absurd I9.len w
    have hW0 : ∀ cls d σ' H', Ech cls d H' → W cls d σ' H' ∨ σ'.length ≠ 2 := fun cls d σ' H' hE => by
      by_cases c : σ'.length = 2
      · exact .inl (hW cls d σ' H' c hE)
      · exact .inr c
    refine (pss_one (ps_ret (pe_tup (pa_cons pe_str (pa_cons (act _ pn xe Ech _ _ tk0 hW0) pa_nil))))).run pins s' σ H' D I ?_
    exact ⟨h1, h2, h3⟩
  · exact pss_one (ps_ret (pe_tup (pa_cons pe_str (pa_cons (pe_ifExp (pt_val (pe_callB (call_isX T.c hz hf) (by rfl) mis (by decide +kernel) (pa_cons (pv 1) (pa_cons (pe_glob (v := .ref CM) rfl T.gM rfl) pa_nil)))) (pe_xf T.x T.noW hz hf (pv 1)) pe_str) pa_nil))))
  · refine ⟨fun cls d H' => cls = .ref CR ∧ ∃ (dd : Addr) (wd : V), d = some dd ∧ H' dd = some (.xd [("word", wd)]) ∧ ∀ p, H' p = none → Q (.ref p) (upd H' p (.tup [.str "refused", wd])), fun cls d σ' H' l2 hE => ?_, rfl, hc, ?_⟩
    · obtain ⟨x, y, rfl⟩ := two_of_len l2
      obtain ⟨rfl, dd, wd, rfl, ed, qq⟩ := hE
      refine ⟨true, T.ex, fun _ a na => ?_, fun z => nomatch z⟩
      refine ⟨_, rfl, .ref CM, .ref CM, true, dd, _, rfl, rfl, rfl, ed, fun u r => r, T.is, true, rfl, iteT ?_⟩
      exact ⟨_, rfl, rfl, rfl, dd, _, wd, rfl, ed, by simp [List.lookup], (by show 2 ≤ sizeLine; decide), qq⟩
    · exact h
end K14
namespace K14
open PySem PySem.Spec PyProof.Rows L2
def spRefInit (CR : Addr) : Sp := fun vs H Q _ => ∃ (a : Addr) (wd : V), vs = [.ref a, wd] ∧ H a = some (exo a CR none) ∧ ∀ dx, H dx = none → dx ≠ a → Q .non (upd (upd H dx (exd dx [("word", wd)])) a (exo a CR (some dx)))
theorem scRefInit : FnScope ["self", "word"] ["self", "word"] (defScope sRefusedInit) := ⟨rfl, rfl, rfl, by decide +kernel, rfl, by decide +kernel, by decide +kernel⟩
section
variable {P : Program} {w : World} {K : PySem.W.Frag} {mg : Str → Option Value} {base : Heap}
theorem ok_ref_init {f CR CM : Addr} {fd : FuncData} {k : Nat} (F : Fun K "__init__" "Refused.__init__" sRefusedInit f fd) (T : ErrT K mg CR CM f) : FnOk P w K mg base CX0 (k + 1) f fd ["self", "word"] (spRefInit CR) := by
  refine F.ok scRefInit (fun vs H Q E h => ?_) (fun cdv A outer s H vs Q E hr h => ?_)
  · obtain ⟨a, wd, rfl, _⟩ := h
    rfl
  · obtain ⟨a, wd, rfl, ea, q⟩ := h
    refine ⟨_, pss_one (ps_ost (pv 0) (pv 1)), ?_⟩
    exact ⟨_, rfl, _, rfl, a, CR, rfl, T.o, T.noW, .inl ⟨ea, q⟩⟩
/-- Refused(word) made: what is left -/
theorem made_ref {CR : Addr} {H : Hp} {wd : V} {Q : XK} (q : ∀ dd H', Same H H' → H' dd = some (.xd [("word", wd)]) → Q (.ref CR) (some dd) H') : tMkO CR (spRefInit CR) [] (tCons (tC wd) tNil) [] H Q := by
  refine ⟨by simp, fun a na => ⟨a, wd, rfl, upd_same, fun dx ndx ne => ⟨rfl, dx, [("word", wd)], upd_same, ?_, ?_, ?_⟩⟩⟩
  · rw [upd_ne ne, upd_same]
  · rw [upd_ne ne] at ndx
    exact ndx
  · have ndx' : H dx = none := by
      rw [upd_ne ne] at ndx
      exact ndx
    refine q dx _ (fun b o e => ?_) upd_same
    have n1 : b ≠ a := ne_of_none e na
    have n2 : b ≠ dx := ne_of_none e ndx'
    rw [upd_ne n2, del_ne n1, upd_ne n1, upd_ne n2, upd_ne n1]
    exact e
end
end K14
set_option maxHeartbeats 2000000
/-! promises of defs while no repr is under way, with a table of errors that they may pass on, and tables of code objects (lambdas) -/
namespace K14
open PySem PySem.Spec PyProof.Rows L2
def RunX (P : Program) (w : World) (K : PySem.W.Frag) (mg : Str → Option Value) (base : Heap) (CX : CXT) (k : Nat) (f : Addr) (fd : FuncData) (ps : List Str) (sp : Sp) : Prop :=
  ∀ (A : Around) (outer : List Env) (s : Shared) (H : Hp) (args : Args) (us : List Value) (vs : List V) (Q : VK) (E : XK), A.guards = some [] → Room k A → Env0 P w K mg base A outer s H →
    BindsTo s fd args (ps.zip us) → Vals vs us → sp vs H Q E → codeAny (model P w) A (.call (.ref f) args) (CR CX outer P w H s Q E) s
section
variable {P : Program} {w : World} {K : PySem.W.Frag} {mg : Str → Option Value} {base : Heap} {CX : CXT}
theorem RunX.of {k : Nat} {f : Addr} {fd : FuncData} {ps : List Str} {sp : Sp} (F : FnOk P w K mg base CX k f fd ps sp) : RunX P w K mg base CX k f fd ps sp := fun A outer s H args us vs Q E _ => F.run A outer s H args us vs Q E
theorem okX {x qual : Str} {st : Stmt} {f : Addr} {fd : FuncData} {N ps : List Str} {k : Nat} {sp : Sp} (F : Fun K x qual st f fd) (S : FnScope N ps (defScope st)) (len : ∀ vs H Q E, sp vs H Q E → vs.length = ps.length)
    (body : ∀ (cdv : Value) (A : Around) (outer : List Env) (s : Shared) (H : Hp) (vs : List V) (Q : VK) (E : XK), A.guards = some [] → Room k (A.deeper (envOfC qual (defScope st) s.heap.objs.size f cdv)) → sp vs H Q E →
      ∃ t, PSs (cxOf CX P w K mg base N qual (defScope st) f cdv A outer s H E) (defBody st) t ∧ t { nx := fun _ H' => Q .non H', rt := Q } (start N vs) H) : RunX P w K mg base CX (k + 1) f fd ps sp := by
  obtain ⟨oc, od, kV, doc, pm, an, cdv, ct, osl, rfl, lk, hcd⟩ := F.ex
  intro A outer s H args us vs Q E hA room e0 bind rel promise
  have KX := e0.mod.kin.keeps (h' := s.heap) fun b o e => (e0.bs b o e).1
  have lim := e0.mod.nolimit.keeps (h' := s.heap) fun b o e => (e0.bs b o e).1
  have kinds : ∀ y ∈ ps.zip us, (defScope st).names.lookup y.1 = some .local ∨ ((defScope st).names.lookup y.1 = some .cell ∧ ((cellsFrom (s.heap.objs.size + 1) (defScope st).names []).lookup y.1).isSome = true) := by
    intro y hy
    cases S.par y.1 (List.of_mem_zip (show (y.1, y.2) ∈ ps.zip us from hy)).1 with
    | inl q => exact .inl q
    | inr q => exact .inr ⟨q, PySem.W.cellsFrom_some _ _ _ (.inl q)⟩
  apply codeAny_call_function room.depth (KX _ _ lk) rfl S.co S.gen rfl (PySem.W.codeRec_of KX hcd) (bind _ _ _ _ _)
  apply wpAny_newFunctionEnv_cells S.kind kinds
  intro env he s1 x
  subst he
  obtain ⟨t, ht, hq⟩ := body cdv A outer s H vs Q E hA (room.deeper _) promise
  have I := inv_start (CX := CX) (E := E) S room.hd e0 (len _ _ _ _ promise) rel x
  refine ⟨lim.keeps x.toInCall.keep, codeAny_func (wpAny_mono (ht.run [] s1 (start N vs) H _ I hq) ?_ (fun _ _ z => z))⟩
  intro fl s' z
  cases fl with
  | ret u => exact let ⟨v, _, H', J, rv, q⟩ := z; ⟨v, H', J.os, J.bare, J.base, J.hok, rv, q⟩
  | next => exact let ⟨_, H', J, q⟩ := z; ⟨V.non, H', J.os, J.bare, J.base, J.hok, rfl, q⟩
  | brk => exact let ⟨_, _, _, q⟩ := z; q.elim
  | cont => exact let ⟨_, _, _, q⟩ := z; q.elim
end
section
variable {X : Cx} {CX : CXT} {k : Nat} {f : Addr} {fd : FuncData} {ps : List Str} {sp : Sp} {x : Str} {p pos : Pos} {e : Expr} {es : List Expr} {t : TA}
theorem pe_callX (F : RunX X.prog X.w X.K X.mg X.base CX k f fd ps sp) (len : ∀ vs H Q E, sp vs H Q E → vs.length = ps.length) (hA : X.A.guards = some []) (hr : Room k X.A) (hg : Gl X x) (hm : X.mg x = some (.ref f)) (hk : PySem.W.keepIn X.K (.ref f) = true) (hb : Binds X.K fd ps []) {E : XK} (hx : Passes CX X E)
    (ha : PA X (e :: es) t) (hdb : (x == ("__debug__" : Str)) = false := by decide) (he : starEach (e :: es) X.env = (false, eval e X.env) :: starEach es X.env := by rfl) (hpl : (backTo pos (starEach es X.env)).any (·.1) = false := by rfl) :
    PE X (.Call (.Name x p) (e :: es) [] pos) (tCall sp [] E t) := by
  refine ⟨fun pins s σ H Q I h => wpAny_Call_Name_kw (ld_glob I hg hm ?_ hdb)⟩
  refine PySem.W.callWith_K (h₀ := X.base) I.ok.mod.kin hk (thn (ha.run pos pins s σ H _ I h) fun us s1 ⟨vs, H1, I1, r, q⟩ => ⟨I1.kIn, ?_⟩) he hpl
  have r2 : Vals (vs ++ []) (us ++ []) := r.append .nil
  have hl : (us ++ []).length = ps.length := by rw [← r2.length]; exact len _ _ _ _ q
  refine wpAny_call (codeAny_mono (F X.A X.stack s1 H1 ⟨us, []⟩ (us ++ []) (vs ++ []) _ E hA hr I1.env0 (hb s1 us I1.kIn hl) r2 q) fun r s' hq => ?_)
  cases r with
  | error e => exact hx pins σ H1 s1 e s' I1 hq
  | ok fl =>
    cases fl with
    | ret u => exact I1.after hq
    | next => exact False.elim hq
    | brk => exact False.elim hq
    | cont => exact False.elim hq
end
end K14
set_option maxHeartbeats 2000000
namespace K14
open PySem PySem.Spec PyProof.Rows L2
section
variable {P : Program} {w : World} {K : PySem.W.Frag} {mg mb : Str → Option Value} {s₁ : Shared} {a : Addr} {vs : List Value} {H : Hp} {cs : List (Addr × Addr)} {CX : CXT}
/-- the addresses of the tables -/
def tabOf (cs : List (Addr × Addr)) : List Addr := cs.map Prod.snd
/-- the call of the law: nothing is tracked but the script at a and the tables -/
theorem env_tabs (KX : K.In s₁.heap) (hns : s₁.heap.Ns mainGlobals mg) (hb : s₁.heap.Ns builtinsNs mb) (hbb : ∀ x : Str, x ≠ "__name__" → mb x = bootBuiltins x) (hlim : s₁.heap.NoLimit) (hg : s₁.gens = #[])
    (hT : ∀ p ∈ cs, s₁.heap.get? p.2 = some { cls := .none, data := .fields #[] }) (nT : ∀ p ∈ cs, K.lookup p.2 = none) (C : ∀ p ∈ cs, PySem.W.CodeHd s₁.heap p.1 p.2)
    (hbm : ∃ (bm : Addr) (ob : Obj), mg "__builtins__" = some (.ref bm) ∧ bm ≠ builtinsNs ∧ s₁.heap.get? bm = some ob ∧ ob.cls = .type "module" ∧ ob.dict = some builtinsNs ∧ ob.data = .plain)
    (ha : s₁.heap.get? a = some { cls := .type "list", data := .seq vs.toArray }) (hok : HOk P w H s₁.heap) (only : ∀ b u, H b = some u → b = a ∨ b ∈ tabOf cs) (apart : ∀ u, H a = some u → K.lookup a = none) :
    K.In (hidT s₁.heap H) ∧ (hidT s₁.heap H).Ns mainGlobals mg ∧ (∀ p ∈ cs, LamX.TabB (hidT s₁.heap H) mg p.1 p.2) ∧ Env0 P w K mg (hidT s₁.heap H) callerA [] s₁ H := by
  have tab : ∀ b, b ∈ tabOf cs → s₁.heap.get? b = some { cls := .none, data := .fields #[] } := by
    intro b hb
    obtain ⟨p, hp, rfl⟩ := List.mem_map.mp hb
    exact hT p hp
  have low : ∀ {b : Addr} {o : Obj}, s₁.heap.get? b = some o → b ≠ a → b ∉ tabOf cs → (hidT s₁.heap H).get? b = some o := by
    intro b o e n1 n2
    refine hidT_get e ?_
    cases q : H b with
    | none => rfl
    | some u => exact ((only b u q).elim n1 n2).elim
  have other : ∀ {b : Addr} {o : Obj}, s₁.heap.get? b = some o → (∀ xs n, o.data ≠ .seq xs n) → o.data ≠ .fields #[] → (hidT s₁.heap H).get? b = some o := by
    intro b o e h1 h2
    refine low e (fun z => ?_) (fun z => ?_)
    · rw [z, ha] at e
      cases e
      exact h1 _ _ rfl
    · rw [tab b z] at e
      cases e
      exact h2 rfl
  have ns : ∀ {b : Addr} {m : Str → Option Value}, s₁.heap.Ns b m → (hidT s₁.heap H).Ns b m := by
    rintro b m ⟨o, es, ep, e, d, r⟩
    exact ⟨o, es, ep, other e (fun xs n z => by rw [d] at z; cases z) (fun z => by rw [d] at z; cases z), d, r⟩
  have kin : K.In (hidT s₁.heap H) := by
    intro b o e
    refine hidT_get (KX _ _ e) ?_
    cases q : H b with
    | none => rfl
    | some u =>
      rcases only b u q with z | z
      · subst z
        rw [apart u q] at e
        cases e
      · obtain ⟨p, hp, rfl⟩ := List.mem_map.mp z
        rw [nT p hp] at e
        cases e
  obtain ⟨mc, l1, l2⟩ := hlim
  refine ⟨kin, ns hns, fun p hp => ⟨?_, ?_, fun z => ?_⟩, ⟨rfl, ⟨kin, ns hns, ⟨mb, ns hb, hbb⟩, ⟨mc, ns l1, l2⟩⟩, fun b o e => of_hidT e, Nat.le_of_eq (hidT_size _ _), trivial, (fun b z => nomatch z), hok, .of_eq hg⟩⟩
  · obtain ⟨o, us, file, tf, flags, tg, inF, text, tt, e1, r1, r2, r3, rest⟩ := C p hp
    refine ⟨o, us, file, tf, flags, tg, inF, text, tt, other e1 (fun xs n z => by rw [r2] at z; cases z) (fun z => ?_), r1, r2, r3, rest⟩
    rw [r2] at z
    cases z
    simp at r3
  · obtain ⟨bm, ob, b1, b2, b3, b4, b5, b6⟩ := hbm
    refine ⟨bm, ob, b1, b2, fun z => ?_, fun z => ?_, other b3 (fun xs n z => by rw [b6] at z; cases z) (fun z => by rw [b6] at z; cases z), b4, b5, b6⟩
    · obtain ⟨o, es, ep, e, d, _⟩ := hns
      rw [z, e] at b3
      cases b3
      rw [d] at b6
      cases b6
    · rw [z, hT p hp] at b3
      cases b3
      cases b6
  · obtain ⟨o, es, ep, e, d, _⟩ := hns
    rw [z, hT p hp] at e
    cases e
    cases d
theorem run_tabs {k : Nat} {fa : Addr} {fd : FuncData} {x : Str} {sp : Sp} (env : Env0 P w K mg (hidT s₁.heap H) callerA [] s₁ H) (F : RunX P w K mg (hidT s₁.heap H) CX k fa fd [x] sp) (hr : Room k callerA)
    (hbind : ∀ (s : Shared) (u : Value), BindsTo s fd ⟨[u], []⟩ [(x, u)]) (hT : ∀ p ∈ cs, s₁.heap.get? p.2 = some { cls := .none, data := .fields #[] }) (C : ∀ p ∈ cs, PySem.W.CodeHd s₁.heap p.1 p.2) (hH : ∀ p ∈ cs, H p.2 = some (.tbl #[]))
    (hO : ∀ b, H b = none ∨ b ∈ tabOf cs ∨ ∃ o xs, H b = some (.frz o (.lst xs))) (hok : HOk P w H s₁.heap) (hCX : ∀ e s', CX [] H s₁ (fun _ _ _ => False) e s' → False) (hsp : sp [.ref a] H (fun v _ => v = .bl true) fun _ _ _ => False) :
    codeAny (model P w) callerA (.call (.ref fa) ⟨[.ref a], []⟩) (fun r s' => r = .ok (.ret (.bool true)) ∧ OldK s₁.heap s'.heap ∧ s'.os = s₁.os ∧ AllBare s'.gens) s₁ := by
  have run := F callerA [] s₁ H ⟨[.ref a], []⟩ [.ref a] [.ref a] _ _ rfl hr env (hbind s₁ (.ref a)) (.cons rfl .nil) hsp
  refine codeAny_mono run ?_
  intro r s' h
  match r, h with
  | .error e, h => exact (hCX e s' h).elim
  | .ok (.ret u), h =>
    obtain ⟨v, H', os, bare, un, hok', r', q⟩ := h
    have q2 : v = V.bl true := q
    subst q2
    obtain rfl : u = Value.bool true := r'
    have kept : ∀ b o, b ∉ tabOf cs → s₁.heap.get? b = some o → s'.heap.get? b = some o := by
      intro b o nb e
      cases q : H b with
      | none => exact un.keep b o e q (fun z => nomatch z) (fun z => nomatch z)
      | some u =>
        rcases hO b with z | z | ⟨ob, xs, z⟩
        · rw [q] at z
          cases z
        · exact (nb z).elim
        · have e1 := (hok b _ z).1
          have e2 := (hok' b _ (un.frzs b ob _ z)).1
          rw [e] at e1
          cases e1
          exact e2
    have grown : ∀ p ∈ cs, ∃ more : Array Value, s'.heap.get? p.2 = some { cls := .none, data := .fields more } := by
      intro p hp
      obtain ⟨more, z⟩ := un.tbls p.2 #[] (hH p hp)
      exact ⟨_, hok' p.2 _ z⟩
    refine ⟨rfl, ⟨fun b o e => ?_, fun b o e => ?_⟩, os, bare⟩
    · by_cases z : b ∈ tabOf cs
      · obtain ⟨p, hp, rfl⟩ := List.mem_map.mp z
        obtain ⟨more, hm⟩ := grown p hp
        have e2 := hT p hp
        rw [e2] at e
        cases e
        exact .inr (.inl ⟨((C p hp).tab e2).isCodeTable, rfl, #[], more, rfl, by rw [Array.empty_append]; exact hm⟩)
      · exact .inl (kept b o z e)
    · by_cases z : b ∈ tabOf cs
      · obtain ⟨p, hp, rfl⟩ := List.mem_map.mp z
        obtain ⟨more, hm⟩ := grown p hp
        exact ⟨_, hm⟩
      · exact ⟨o, kept b o z e⟩
  | .ok .next, h => exact False.elim h
  | .ok .brk, h => exact False.elim h
  | .ok .cont, h => exact False.elim h
end
/-- what is known of the law's promise at the head's heap -/
def LawX (l : PySem.W.OpenLaw) (w : World) (K : PySem.W.Frag) (CX : CXT) (k n : Nat) (x : Str) (mg : Str → Option Value) (fa : Addr) (h : Heap) : Prop :=
  ∃ (fd : FuncData) (cs : List (Addr × Addr)) (sp : Sp), (∀ p ∈ cs, h.get? p.2 = some { cls := .none, data := .fields #[] }) ∧ (∀ p ∈ cs, K.lookup p.2 = none) ∧ (∀ p ∈ cs, PySem.W.CodeHd h p.1 p.2) ∧ (∀ (s : Shared) (u : Value), BindsTo s fd ⟨[u], []⟩ [(x, u)]) ∧
    (∀ (H : Hp) (a : Addr) (ns : List Int), ns.length ≤ n → (∀ p ∈ cs, H p.2 = some (.tbl #[])) → SqL K H a (ns.map V.int) → sp [.ref a] H (fun v _ => v = .bl true) fun _ _ _ => False) ∧
    ∀ base : Heap, K.In base → base.Ns mainGlobals mg → (∀ p ∈ cs, LamX.TabB base mg p.1 p.2) → RunX l.prog w K mg base CX k fa fd [x] sp
theorem walkX {l : PySem.W.OpenLaw} {n k : Nat} {q : Program} {loose : List Str} {XP : (Str → Option Value) → Heap → Prop} {YP : World → Heap → Prop} {d : DefRec} {K : Params → PySem.W.Frag} {CX : World → CXT} {x : Str}
    (hn : l.most = some n) (hn2 : n ≤ sizeLine) (hdf : d.params.defaults = []) (hr : Room k callerA) (hY : ∀ (w : World) (h : Heap), YP w h → (K w.params).In h)
    (F : ∀ (w : World) (mg : Str → Option Value) (fa : Addr) (h : Heap), YP w h → (K w.params).In h → h.Ns mainGlobals mg → mg d.name = some (.ref fa) → LawX l w (K w.params) (CX w) k n x mg fa h)
    (hCX : ∀ (w : World) (H : Hp) (s : Shared) (e : Value) (s' : Shared), CX w [] H s (fun _ _ _ => False) e s' → False) :
    PySem.W.WalkO q loose XP YP l.row.toRowW d [] (fun f vs => PySem.call f vs) := by
  apply Att.attach_call hn hdf
  intro w s₀ s₁ mg mb fa o pm cd doc a vs ns G Y ho hd hcd hmg hobj hints hlen hg
  have KX := hY w _ Y
  obtain ⟨fd, cs, sp, hT, nT, C, hb, hsp, hF⟩ := F w mg fa _ Y KX G.T.g hmg
  have rel := vals_ints hints
  have hz : (ns.map V.int).length ≤ sizeLine := by rw [List.length_map]; exact Nat.le_trans hlen hn2
  have aT : a ∉ tabOf cs := by
    intro z
    obtain ⟨p, hp, e⟩ := List.mem_map.mp z
    have := hT p hp
    rw [e, hobj] at this
    cases this
  have memT : ∀ p ∈ cs, p.2 ∈ tabOf cs := fun p hp => List.mem_map.mpr ⟨p, hp, rfl⟩
  have tab : ∀ b, b ∈ tabOf cs → s₁.heap.get? b = some { cls := .none, data := .fields #[] } := by
    intro b hb
    obtain ⟨p, hp, rfl⟩ := List.mem_map.mp hb
    exact hT p hp
  obtain ⟨H0, eH0⟩ : ∃ H0 : Hp, H0 = fun b => if b ∈ tabOf cs then some (.tbl #[]) else none := ⟨_, rfl⟩
  have in0 : ∀ b, b ∈ tabOf cs → H0 b = some (.tbl #[]) := fun b z => by rw [eH0]; exact if_pos z
  have out0 : ∀ b, b ∉ tabOf cs → H0 b = none := fun b z => by rw [eH0]; exact if_neg z
  have ok0 : HOk l.prog w H0 s₁.heap := by
    intro b u z
    by_cases m : b ∈ tabOf cs
    · rw [in0 b m] at z
      cases z
      exact tab b m
    · rw [out0 b m] at z
      cases z
  have only0 : ∀ b u, H0 b = some u → b ∈ tabOf cs := by
    intro b u z
    refine Classical.byContradiction fun m => ?_
    rw [out0 b m] at z
    cases z
  cases hk : (K w.params).lookup a with
  | some o' =>
    have e := KX a o' hk
    rw [hobj] at e
    cases e
    obtain ⟨k1, k2, k3, k4⟩ := env_tabs (P := l.prog) (w := w) (H := H0) KX G.T.g G.T.b G.T.builtins G.T.nolimit hg hT nT C G.T.bmain hobj ok0 (fun b u z => .inr (only0 b u z)) (fun u z => absurd (only0 a u z) aT)
    refine run_tabs k4 (hF _ k1 k2 k3) hr hb hT C (fun p hp => in0 _ (memT p hp)) (fun b => ?_) ok0 (fun e s' => hCX w H0 s₁ e s') (hsp _ a ns hlen (fun p hp => in0 _ (memT p hp)) ?_)
    · by_cases m : b ∈ tabOf cs
      · exact .inr (.inl m)
      · exact .inl (out0 b m)
    · exact .inr ⟨_, vs.toArray, _, hk, rfl, rfl, rfl, by rw [List.size_toArray, ← rel.length]; exact hz, by simpa using rel⟩
  | none =>
    obtain ⟨H, eH⟩ : ∃ H, H = upd H0 a (.frz { cls := .type "list", data := .seq vs.toArray } (.lst (ns.map V.int))) := ⟨_, rfl⟩
    have at_ : H a = some (.frz { cls := .type "list", data := .seq vs.toArray } (.lst (ns.map V.int))) := by rw [eH]; exact upd_same
    have off : ∀ b, b ≠ a → H b = H0 b := fun b n => by rw [eH]; exact upd_ne n
    have neA : ∀ p ∈ cs, p.2 ≠ a := fun p hp z => aT (z ▸ memT p hp)
    have tH : ∀ p ∈ cs, H p.2 = some (.tbl #[]) := fun p hp => (off _ (neA p hp)).trans (in0 _ (memT p hp))
    have ok1 : HOk l.prog w H s₁.heap := by
      intro b u z
      by_cases m : b = a
      · rw [m, at_] at z
        cases z
        rw [m]
        exact ⟨hobj, hz, vs, _, rel, hobj⟩
      · rw [off b m] at z
        by_cases t : b ∈ tabOf cs
        · rw [in0 b t] at z
          cases z
          exact tab b t
        · rw [out0 b t] at z
          cases z
    obtain ⟨k1, k2, k3, k4⟩ := env_tabs (P := l.prog) (w := w) (H := H) KX G.T.g G.T.b G.T.builtins G.T.nolimit hg hT nT C G.T.bmain hobj ok1 (fun b u z => by
      by_cases m : b = a
      · exact .inl m
      · rw [off b m] at z
        exact .inr (only0 b u z)) (fun u z => hk)
    refine run_tabs k4 (hF _ k1 k2 k3) hr hb hT C tH (fun b => ?_) ok1 (fun e s' => hCX w H s₁ e s') (hsp _ a ns hlen tH (.inl (.inr ⟨_, at_⟩)))
    by_cases m : b = a
    · exact .inr (.inr ⟨_, _, by rw [m]; exact at_⟩)
    · by_cases t : b ∈ tabOf cs
      · exact .inr (.inl t)
      · exact .inl ((off b m).trans (out0 b t))
end K14
namespace K14
open PySem PySem.Spec PyProof.Rows L2
section
variable {P : Program} {w : World} {K : PySem.W.Frag} {mg : Str → Option Value} {base : Heap}
/-- a def whose code object is known -/
theorem okC {x qual : Str} {st : Stmt} {f c : Addr} {fd : FuncData} {N ps : List Str} {k : Nat} {sp : Sp} (F : Fun K x qual st f fd) (hc : fd.code = .ref c) (S : FnScope N ps (defScope st)) (len : ∀ vs H Q E, sp vs H Q E → vs.length = ps.length)
    (hbody : ∀ (A : Around) (outer : List Env) (s : Shared) (H : Hp) (vs : List V) (Q : VK) (E : XK), Room k (A.deeper (envOfC qual (defScope st) s.heap.objs.size f (.ref c))) → sp vs H Q E →
      ∃ t, PSs (cxOf CX0 P w K mg base N qual (defScope st) f (.ref c) A outer s H E).nox (defBody st) t ∧ t { nx := fun _ H' => Q .non H', rt := Q } (start N vs) H) : FnOk P w K mg base CX0 (k + 1) f fd ps sp := by
  obtain ⟨oc, od, kV, doc, pm, an, cdv, ct, osl, rfl, lk, hcd⟩ := F.ex
  have e : cdv = .ref c := hc
  subst e
  exact fn_of lk hcd S len fun A outer s H vs Q E hr hsp => (hbody A outer s H vs Q E hr hsp).imp fun t z => ⟨z.1.nox, z.2⟩
/-- the same while no repr is under way -/
theorem okGC {x qual : Str} {st : Stmt} {f c : Addr} {fd : FuncData} {N ps : List Str} {k : Nat} {sp : Sp} (F : Fun K x qual st f fd) (hc : fd.code = .ref c) (S : FnScope N ps (defScope st)) (len : ∀ vs H Q E, sp vs H Q E → vs.length = ps.length)
    (body : ∀ (A : Around) (outer : List Env) (s : Shared) (H : Hp) (vs : List V) (Q : VK) (E : XK), A.guards = some [] → Room k (A.deeper (envOfC qual (defScope st) s.heap.objs.size f (.ref c))) → sp vs H Q E →
      ∃ t, PSs (cxOf CX0 P w K mg base N qual (defScope st) f (.ref c) A outer s H E).nox (defBody st) t ∧ t { nx := fun _ H' => Q .non H', rt := Q } (start N vs) H) : RunG P w K mg base (k + 1) f fd ps sp := by
  obtain ⟨oc, od, kV, doc, pm, an, cdv, ct, osl, e1, lk, hcd⟩ := F.ex
  subst e1
  have e : cdv = .ref c := hc
  subst e
  intro A outer s H args us vs Q E hA room e0 bind rel promise
  exact LamX.run_ofS lk hcd S room e0 bind rel (len _ _ _ _ promise) fun hr => (body A outer s H vs Q E hA hr promise).imp fun t z => ⟨z.1.nox, z.2⟩
/-- _law_heard, as it stands -/
structure HeardT (K : PySem.W.Frag) (mg : Str → Option Value) (g : Addr) (fd : FuncData) : Prop where
  F : Fun K "_law_heard" "_law_heard" sLHeard g fd
  b : Binds K fd ["action"] []
  k : PySem.W.keepIn K (.ref g) = true
  m : mg "_law_heard" = some (.ref g)
/-- the table of a def's lambdas -/
structure TabT (T : List (Addr × Str)) (base : Heap) (mg : Str → Option Value) (c P : Addr) (q : Str) : Prop where
  B : LamX.TabB base mg c P
  mem : (P, q) ∈ T
  one : ∀ p ∈ T, p.1 = P → p.2 = q
end
section
variable {X : Cx} {T : List (Addr × Str)}
/-- _law_heard(lambda: ..) -/
theorem pe_heard {g c P CR CM fI : Addr} {gd : FuncData} {k : Nat} {params : Arguments} {body : Expr} {scope : Scope} {t : XK → TE} {p lpos pos : Pos} (G : HeardT X.K X.mg g gd) (E : ErrT X.K X.mg CR CM fI) (mis : X.mg "isinstance" = none) (hg : Gl X "_law_heard")
    (B : TabT T X.base X.mg c P (X.env.qual ++ "<lambda>")) (hcode : X.env.code = .ref c) (hr : Room (k + 2) X.A) (L : LamX.LamS X.env.scope scope) (hdef : defaultsOf params X.env = ([], []))
    (hbind : ∀ (q : Str) (cl : List (Str × Addr)) (pm cv ctv : Value), bindArgs (PySem.W.kla_fn "<lambda>" q params body scope cl pm cv ctv) ⟨[], []⟩ = pure [])
    (hbody : ∀ (A : Around) (outer : List Env) (s : Shared) (H : Hp) (E : XK) (f c' : Addr), Room k (A.deeper (LamX.lamEnv X scope s.heap.objs.size f c')) → PE (LamX.lamCx X A outer s H E scope f c') body (t E)) :
    PE X (.Call (.Name "_law_heard" p) [.Lambda params body scope lpos] [] pos) (LamX.tLam T (THeard CR) t) := by
  obtain ⟨oc, od, kV, doc, pm, an, cdv, ct, osl, e1, lk, hcd⟩ := G.F.ex
  have b := G.b
  subst e1
  exact LamX.pe_lamcall hg G.m G.k lk hcd b scHeard rfl (.inl rfl) (heard_gives E mis) B.B hcode B.mem B.one hr L hdef hbind hbody
end
end K14
namespace K14
open PySem PySem.Spec PyProof.Rows L2
def askO (ls : List (List Nat)) (hs : List (Option Nat)) (p : Nat) : Option Nat := if inV (.int (p : Nat)) (VH hs) = true then none else (leftL ls hs p).head?
theorem askO_some {ls : List (List Nat)} {hs : List (Option Nat)} {p : Nat} (hp : p < ls.length) : (askO ls hs p).isSome = true ↔ p ∈ askers ls hs := by
  unfold askO askers
  rw [List.mem_filter, List.mem_range]
  cases inV (.int (p : Nat)) (VH hs) with
  | true => simp
  | false =>
    cases leftL ls hs p with
    | nil => simp
    | cons a t => simp [hp]
theorem askO_none {ls : List (List Nat)} {hs : List (Option Nat)} {p : Nat} (hp : p < ls.length) : askO ls hs p = none ↔ p ∉ askers ls hs := by
  rw [← askO_some hp]
  cases askO ls hs p <;> simp
theorem askO_first {ls : List (List Nat)} {hs : List (Option Nat)} {p j : Nat} {tl : List Nat} (hp : p < ls.length) (m : p ∈ askers ls hs) (el : leftL ls hs p = j :: tl) : askO ls hs p = some j := by
  have := (askO_some hp).mpr m
  unfold askO at this ⊢
  split
  · rename_i c
    rw [if_pos c] at this
    cases this
  · rw [el]
    rfl
def spAskedBy (C : Addr) : Sp := fun vs H Q _ => ∃ (wi t : Addr) (ns ls : List (List Nat)) (hs : List (Option Nat)) (p : Nat), vs = [.ref wi, .ref t, .int (p : Nat)] ∧ WAt C H wi ns ls ∧ H t = some (.tup (VH hs)) ∧ HoldsOk ls hs ∧ p < ls.length ∧ ∀ H', Same H H' → Q (hv (askO ls hs p)) H'
theorem scAskedBy : FnScope ["wishes", "holds", "person"] ["wishes", "holds", "person"] (defScope sAskedBy) := ⟨rfl, rfl, rfl, by decide +kernel, rfl, by decide +kernel, by decide +kernel⟩
def spAskers (C : Addr) : Sp := fun vs H Q _ => ∃ (wi t : Addr) (ns ls : List (List Nat)) (hs : List (Option Nat)), vs = [.ref wi, .ref t] ∧ WAt C H wi ns ls ∧ H t = some (.tup (VH hs)) ∧ HoldsOk ls hs ∧ ∀ r H', Same H H' → H' r = some (.tup (VI (askers ls hs))) → Q (.ref r) H'
theorem scAskers : FnScope ["wishes", "holds", "person"] ["wishes", "holds"] (defScope sAskers) := ⟨rfl, rfl, rfl, by decide +kernel, rfl, by decide +kernel, by decide +kernel⟩
def spAskedOnce (C : Addr) : Sp := fun vs H Q _ => ∃ (wi t : Addr) (ns ls : List (List Nat)) (hs : List (Option Nat)) (p : Nat), vs = [.ref wi, .ref t, .int (p : Nat)] ∧ WAt C H wi ns ls ∧ H t = some (.tup (VH hs)) ∧ HoldsOk ls hs ∧ p ∈ askers ls hs ∧ ∀ r H', Same H H' → H' r = some (.tup (VH (bhd ls hs p))) → Q (.ref r) H'
def spAskedOnceX (C CR : Addr) : Sp := fun vs H _ E => ∃ (wi t : Addr) (ns ls : List (List Nat)) (hs : List (Option Nat)) (v : V), vs = [.ref wi, .ref t, v] ∧ WAt C H wi ns ls ∧ H t = some (.tup (VH hs)) ∧ HoldsOk ls hs ∧ Pl H v ∧ (∀ p : Nat, v = .int (p : Nat) → p ∉ askers ls hs) ∧
  ∀ dd H', Same H H' → H' dd = some (.xd [("word", .str "asker")]) → E (.ref CR) (some dd) H'
theorem scAskedOnce : FnScope ["wishes", "holds", "person", "other"] ["wishes", "holds", "person"] (defScope sAskedOnce) := ⟨rfl, rfl, rfl, by decide +kernel, rfl, by decide +kernel, by decide +kernel⟩
def spHoldsBehind (C : Addr) : Sp := fun vs H Q _ => ∃ (wi t : Addr) (ns ls : List (List Nat)) (row : List Nat), vs = [.ref wi, .ref t] ∧ WAt C H wi ns ls ∧ H t = some (.tup (VI row)) ∧ Val ls row ∧ ∀ r H', Same H H' → H' r = some (.tup (VH (bh ls row))) → Q (.ref r) H'
def spHoldsBehindX (C CR : Addr) : Sp := fun vs H _ E => ∃ (wi t : Addr) (ns ls : List (List Nat)) (row : List (Option Nat)), vs = [.ref wi, .ref t] ∧ WAt C H wi ns ls ∧ H t = some (.tup (VQ row)) ∧ ¬ Good ls row ∧
  ∀ dd H', Same H H' → H' dd = some (.xd [("word", .str "asker")]) → E (.ref CR) (some dd) H'
theorem scHoldsBehind : FnScope ["wishes", "row", "holds", "person"] ["wishes", "row"] (defScope sHoldsBehind) := ⟨rfl, rfl, rfl, by decide +kernel, rfl, by decide +kernel, by decide +kernel⟩
def spAskedOnceU (C CR : Addr) : Sp := fun vs H Q E => spAskedOnce C vs H Q E ∨ spAskedOnceX C CR vs H Q E
theorem fn_or {P : Program} {w : World} {K : PySem.W.Frag} {mg : Str → Option Value} {base : Heap} {CX : CXT} {k : Nat} {f : Addr} {fd : FuncData} {ps : List Str} {sp1 sp2 : Sp} (F1 : FnOk P w K mg base CX0 k f fd ps sp1) (F2 : FnOk P w K mg base CX k f fd ps sp2) : FnOk P w K mg base CX k f fd ps (fun vs H Q E => sp1 vs H Q E ∨ sp2 vs H Q E) where
  len := fun vs H Q E h => h.elim (F1.len vs H Q E) (F2.len vs H Q E)
  run := fun A outer s H args us vs Q E hr e0 hb hv h => by
    rcases h with h | h
    · refine codeAny_mono (F1.run A outer s H args us vs Q E hr e0 hb hv h) fun r s' q => ?_
      cases r with
      | error e => exact False.elim q
      | ok fl => cases fl <;> exact q
    · exact F2.run A outer s H args us vs Q E hr e0 hb hv h
/-- a tuple with another item at a place -/
theorem put_l1 {hs : List (Option Nat)} {j : Nat} (n : hs.length ≤ 100) : (cutV (VH hs) none (some ((j : Nat) : Int))).length ≤ 100 := by
  rw [cut_take, List.length_take, VH_len]
  omega
theorem put_l3 {hs : List (Option Nat)} {j : Nat} (n : hs.length ≤ 100) : (cutV (VH hs) (some ((j : Nat) + 1 : Int)) none).length ≤ 100 := by
  rw [cut_drop, List.length_drop, VH_len]
  omega
theorem put_eq {hs : List (Option Nat)} {j p : Nat} (hj : j < hs.length) : cutV (VH hs) none (some ((j : Nat) : Int)) ++ [V.int (p : Nat)] ++ cutV (VH hs) (some ((j : Nat) + 1 : Int)) none = VH (hs.set j (some p)) := by
  have := set_cut (VH hs) j (V.int (p : Nat)) (by rw [VH_len]; exact hj)
  rw [cut_take, cut_drop, List.append_assoc]
  unfold VH at this ⊢
  rw [List.map_set]
  exact this
section
variable {P : Program} {w : World} {K : PySem.W.Frag} {mg : Str → Option Value} {base : Heap}
theorem ok_asked_by {f f1 f2 C : Addr} {fd d1 d2 : FuncData} {k : Nat} (F : Fun K "_asked_by" "_asked_by" sAskedBy f fd) (Fl : Has P w K mg base k "first_left" ["wishes", "most", "person"] (spFirstLeft C) f1 d1) (Hr : Has P w K mg base k "held_ranks" ["wishes", "holds"] (spHeldRanks C) f2 d2) : FnOk P w K mg base CX0 (k + 1) f fd ["wishes", "holds", "person"] (spAskedBy C) := by
  refine F.ok scAskedBy (fun vs H Q E h => ?_) (fun cdv A outer s H vs Q E hr h => ?_)
  · obtain ⟨wi, t, ns, ls, hs, p, rfl, _⟩ := h
    rfl
  · obtain ⟨wi, t, ns, ls, hs, p, rfl, W, et, ho, hp, q⟩ := h
    refine ⟨_, pss_cons (ps_if (pt_cmpR op_in_seq (pv 2) (pv 1) rfl) (pss_one (ps_ret pe_non)) pss_nil)
      (pss_one (ps_ret (pe_call Fl.ok hr rfl Fl.m Fl.k Fl.b .nil pass0 (pa_cons (pv 0) (pa_cons (pe_call Hr.ok hr rfl Hr.m Hr.k Hr.b .nil pass0 (pa_cons (pv 0) (pa_cons (pv 1) pa_nil))) (pa_cons (pv 2) pa_nil)))))), ?_⟩
    refine ⟨_, rfl, _, rfl, t, _, rfl, .inr (SqT.of et), rfl, flat_VH hs, inV (.int (p : Nat)) (VH hs), rfl, ?_⟩
    unfold askO at q
    cases ei : inV (.int (p : Nat)) (VH hs) with
    | true =>
      rw [if_pos ei] at q
      exact iteT (q H same_rfl)
    | false =>
      rw [if_neg (by rw [ei]; decide)] at q
      refine iteF ⟨_, rfl, _, rfl, _, rfl, wi, t, ns, ls, hs, rfl, W, et, ho, fun r H1 s1 er => ⟨_, rfl, wi, r, ns, ls, hs, p, rfl, W.same s1, .inl er, hp, fun H2 s2 => q H2 (s1.trans s2)⟩⟩
theorem ok_askers {f f1 C : Addr} {fd d1 : FuncData} {k : Nat} (F : Fun K "askers" "askers" sAskers f fd) (Ab : Has P w K mg base k "_asked_by" ["wishes", "holds", "person"] (spAskedBy C) f1 d1) (mt : mg "tuple" = none) (mrg : mg "range" = none) (ml : mg "len" = none) : FnOk P w K mg base CX0 (k + 1) f fd ["wishes", "holds"] (spAskers C) := by
  refine F.ok scAskers (fun vs H Q E h => ?_) (fun cdv A outer s H vs Q E hr h => ?_)
  · obtain ⟨wi, t, ns, ls, hs, rfl, _⟩ := h
    rfl
  · obtain ⟨wi, t, ns, ls, hs, rfl, W, et, ho, q⟩ := h
    refine ⟨_, pss_one (ps_ret (pe_callTy call_tuple_of (by rfl) mt (by decide +kernel) (pa_cons (pe_lc (own := [("person", 2)]) (g := gName 2) (tt := tTest (tOp (fun x y H Q => y = .non ∧ Q (.bl (!decide (x = .non))) H) (tCall (spAskedBy C) [] E0 (tCons (tVar 0) (tCons (tVar 1) (tCons (tVar 2) tNil)))) (tC .non))) (te := tVar 2) rfl scAskers.nd (pi_range1 rfl mrg (pa_cons (pe_callB call_len_seq (by rfl) ml PySem.boot_len (pa_cons (pv 1) pa_nil)) pa_nil))
          (blkOk_by (own := [("person", 2)]) (N := ["wishes", "holds", "person"]) (sc := defScope sAskers) (by decide +kernel)) (fun _ _ _ _ _ => (pg_name (i := 2) scAskers.nd rfl (Or.inl rfl))) (fun _ _ _ _ _ => (pts_one (pt_cmpR op_notN (pe_call Ab.ok hr rfl Ab.m Ab.k Ab.b .nil pass0 (pa_cons (pv 0) (pa_cons (pv 1) (pa_cons (pv 2) pa_nil)))) pe_non (nomark _))))
          (fun _ _ _ _ _ => (pv 2))) pa_nil))), ?_⟩
    have n60 := W.n60.2
    refine ⟨_, rfl, t, _, rfl, .inr (SqT.of et), ?_⟩
    rw [VH_len, ho.len]
    refine ⟨_, rfl, by omega, by omega, fun D nD => ?_⟩
    refine lc_pick (J := Itr 0 ls.length) (n := ls.length) walk_range0 (by omega) (fun i => (askO ls hs i).isSome) (fun i => .int (i : Nat)) nD (fun _ _ => trivial) ?_ ?_
    · rintro i x H1 H2 R Z yes' no' hi sm ⟨rfl, rfl⟩
      refine gn ⟨rfl, _, rfl, _, rfl, _, rfl, wi, t, ns, ls, hs, i, rfl, W.same sm, sm _ _ et, ho, hi, fun H3 s3 => ⟨rfl, _, rfl, ?_⟩⟩
      cases e : askO ls hs i with
      | none => exact iteF (no' _ s3 (by rw [e]; rfl))
      | some j => exact iteT ⟨_, rfl, yes' _ s3 (by rw [e]; rfl)⟩
    · intro H1 s1 eD
      refine ⟨D, _, rfl, .inl ⟨SqL.of eD, fun r nr => q r _ (s1.fresh (s1.free nr)) ?_⟩⟩
      rw [upd_same]
      have e : (List.range ls.length).filter (fun i => (askO ls hs i).isSome) = askers ls hs := by
        unfold askers
        refine List.filter_congr fun x hx => ?_
        have hx' := List.mem_range.mp hx
        rw [Bool.eq_iff_iff, askO_some hx']
        unfold askers
        rw [List.mem_filter]
        exact ⟨fun h => h.2, fun h => ⟨hx, h⟩⟩
      rw [e]
      rfl
theorem ok_asked_once {f f1 f2 C : Addr} {fd d1 d2 : FuncData} {k : Nat} (F : Fun K "asked_once" "asked_once" sAskedOnce f fd) (Ab : Has P w K mg base k "_asked_by" ["wishes", "holds", "person"] (spAskedBy C) f1 d1) (Ib : Has P w K mg base k "is_below" ["value", "bound"] spIsBelow f2 d2) (ml : mg "len" = none) : FnOk P w K mg base CX0 (k + 1) f fd ["wishes", "holds", "person"] (spAskedOnce C) := by
  refine F.ok scAskedOnce (fun vs H Q E h => ?_) (fun cdv A outer s H vs Q E hr h => ?_)
  · obtain ⟨wi, t, ns, ls, hs, p, rfl, _⟩ := h
    rfl
  · obtain ⟨wi, t, ns, ls, hs, p, rfl, W, et, ho, m, q⟩ := h
    refine ⟨_, pss_cons (ps_set (i := 3) scAskedOnce.nd rfl (.inl rfl) (pe_ifExp (pt_val (pe_call Ib.ok hr rfl Ib.m Ib.k Ib.b .nil pass0 (pa_cons (pv 2) (pa_cons (pe_callB call_len_seq (by rfl) ml PySem.boot_len (pa_cons (pv 1) pa_nil)) pa_nil)))) (pe_call Ab.ok hr rfl Ab.m Ab.k Ab.b .nil pass0 (pa_cons (pv 0) (pa_cons (pv 1) (pa_cons (pv 2) pa_nil)))) pe_non))
      (pss_cons (ps_if (pt_cmpR op_isN1 (pv 3) pe_non (nomark _)) (pss_one ps_never) pss_nil)
      (pss_one (ps_ret (pe_op op_catA (pe_op op_catA (pe_slice sl_tupA (pv 1) po_none (po_some (pv 3))) (pe_tup (pa_cons (pv 2) pa_nil))) (pe_slice sl_tupA (pv 1) (po_some (pe_op op_add (pv 3) pe_int)) po_none))))), ?_⟩
    have n60 := W.n60.2
    obtain ⟨j, tl, hp, el, ef, j1, j3, eb⟩ := asker_first W.ok ho m
    rw [eb] at q
    refine ⟨_, rfl, _, rfl, t, _, rfl, .inr (SqT.of et), ?_⟩
    rw [VH_len, ho.len]
    refine ⟨_, _, rfl, .int _, _, rfl, ?_⟩
    have bl : isBel (.int (p : Nat)) ls.length = true := by
      show (decide ((0 : Int) ≤ (p : Nat)) && decide (((p : Nat) : Int) < (ls.length : Nat))) = true
      rw [decide_eq_true (by omega), decide_eq_true (by omega)]
      rfl
    rw [bl]
    refine iteT ⟨_, rfl, _, rfl, _, rfl, wi, t, ns, ls, hs, p, rfl, W, et, ho, hp, fun H1 s1 => gn ?_⟩
    dsimp only [List.set, L2.start]
    rw [askO_first hp m el]
    refine ⟨_, rfl, rfl, false, rfl, iteF ?_⟩
    refine ⟨_, rfl, _, rfl, _, rfl, ?_⟩
    have n100 : hs.length ≤ 100 := by rw [ho.len]; omega
    refine slC (s1 _ _ et) fun c1 H2 s2 e1 => ?_
    refine ⟨_, rfl, (by show 1 ≤ sizeLine; decide), fun u nu => ?_⟩
    have sb := same_upd (o := .tup [.int (p : Nat)]) nu
    have l1 := put_l1 (j := j) n100
    have l3 := put_l3 (j := j) n100
    refine catV (sb _ _ e1) upd_same (by simp; omega) fun c2 H3 s3 e2 => ?_
    have s13 := s2.trans (sb.trans s3)
    refine ⟨_, rfl, _, rfl, _, _, rfl, rfl, _, rfl, ?_⟩
    dsimp only [L2.tNoPart]
    refine slC (s13 _ _ (s1 _ _ et)) fun c3 H4 s4 e3 => ?_
    refine catV (s4 _ _ e2) e3 (by simp; omega) fun c4 H5 s5 e4 => q c4 H5 (s1.trans (s13.trans (s4.trans s5))) ?_
    rw [e4, put_eq (by rw [ho.len]; exact j1)]
theorem ok_asked_onceX {f f1 f2 fI C CR CM : Addr} {fd d1 d2 dI' : FuncData} {k : Nat} (F : Fun K "asked_once" "asked_once" sAskedOnce f fd) (T : ErrT K mg CR CM fI) (Ab : Has P w K mg base (k + 1) "_asked_by" ["wishes", "holds", "person"] (spAskedBy C) f1 d1) (Ib : Has P w K mg base (k + 1) "is_below" ["value", "bound"] spIsBelow f2 d2) (GI : FnOk P w K mg base CX0 k fI dI' ["self", "word"] (spRefInit CR)) (bI : Binds K dI' ["self", "word"] []) (ml : mg "len" = none) : FnOk P w K mg base (L2.CX P w) (k + 2) f fd ["wishes", "holds", "person"] (spAskedOnceX C CR) := by
  refine F.okX scAskedOnce (fun vs H Q E h => ?_) (fun cdv A outer s H vs Q E hr h => ?_)
  · obtain ⟨wi, t, ns, ls, hs, v, rfl, _⟩ := h
    rfl
  · obtain ⟨wi, t, ns, ls, hs, v, rfl, W, et, ho, pl, no, q⟩ := h
    refine ⟨_, pss_cons (ps_set (i := 3) scAskedOnce.nd rfl (.inl rfl) (pe_ifExp (pt_val (pe_call Ib.ok hr rfl Ib.m Ib.k Ib.b .nil pass0 (pa_cons (pv 2) (pa_cons (pe_callB call_len_seq (by rfl) ml PySem.boot_len (pa_cons (pv 1) pa_nil)) pa_nil)))) (pe_call Ab.ok hr rfl Ab.m Ab.k Ab.b .nil pass0 (pa_cons (pv 0) (pa_cons (pv 1) (pa_cons (pv 2) pa_nil)))) pe_non))
      (pss_cons (ps_if (pt_cmpR op_isN1 (pv 3) pe_non (nomark _)) (pss_one (ps_raise rfl (takes_of rfl rfl rfl rfl) (pmk_oex T.o T.iC T.tI GI hr bI .nil pass0 rfl T.gR (pa_cons pe_str pa_nil)))) pss_nil)
      (pss_one ps_never)), ?_⟩
    have n60 := W.n60.2
    refine ⟨_, rfl, _, rfl, t, _, rfl, .inr (SqT.of et), ?_⟩
    rw [VH_len, ho.len]
    refine ⟨_, _, rfl, pl, _, rfl, ?_⟩
    cases eb : isBel v ls.length with
    | false =>
      refine iteF (gn ?_)
      dsimp only [List.set, L2.start]
      refine ⟨_, rfl, rfl, true, rfl, iteT ?_⟩
      exact made_ref fun dd H2 s2 ed => q dd H2 s2 ed
    | true =>
      obtain ⟨p, rfl, hp⟩ : ∃ p : Nat, v = .int (p : Nat) ∧ p < ls.length := by
        cases v with
        | int i =>
          have e : (decide (0 ≤ i) && decide (i < (ls.length : Nat))) = true := eb
          rw [Bool.and_eq_true, decide_eq_true_eq, decide_eq_true_eq] at e
          exact ⟨i.toNat, congrArg V.int (by omega), by omega⟩
        | _ => cases eb
      refine iteT ⟨_, rfl, _, rfl, _, rfl, wi, t, ns, ls, hs, p, rfl, W, et, ho, hp, fun H1 s1 => gn ?_⟩
      dsimp only [List.set, L2.start]
      rw [(askO_none hp).mpr (no p rfl)]
      refine ⟨_, rfl, rfl, true, rfl, iteT ?_⟩
      exact made_ref fun dd H2 s2 ed => q dd H2 (s1.trans s2) ed
theorem ok_holds_behind {f f1 f2 C : Addr} {fd d1 d2 : FuncData} {k : Nat} (F : Fun K "holds_behind" "holds_behind" sHoldsBehind f fd) (Nh : Has P w K mg base k "no_holds" ["wishes"] (spNoHolds C) f1 d1) (Ao : Has P w K mg base k "asked_once" ["wishes", "holds", "person"] (spAskedOnce C) f2 d2) : FnOk P w K mg base CX0 (k + 1) f fd ["wishes", "row"] (spHoldsBehind C) := by
  refine F.ok scHoldsBehind (fun vs H Q E h => ?_) (fun cdv A outer s H vs Q E hr h => ?_)
  · obtain ⟨wi, t, ns, ls, row, rfl, _⟩ := h
    rfl
  · obtain ⟨wi, t, ns, ls, row, rfl, W, et, v, q⟩ := h
    refine ⟨_, pss_cons (ps_set (i := 2) scHoldsBehind.nd rfl (.inl rfl) (pe_call Nh.ok hr rfl Nh.m Nh.k Nh.b .nil pass0 (pa_cons (pv 0) pa_nil)))
      (pss_cons (ps_for PassesOwn.never rfl (pi_tup (pv 1)) (pg_name (i := 3) scHoldsBehind.nd rfl (.inl rfl))
      (pss_one (ps_set (i := 2) scHoldsBehind.nd rfl (.inl rfl) (pe_call Ao.ok hr rfl Ao.m Ao.k Ao.b .nil pass0 (pa_cons (pv 0) (pa_cons (pv 2) (pa_cons (pv 3) pa_nil)))))))
      (pss_one (ps_ret (pv 2)))), ?_⟩
    have ok := W.ok
    refine ⟨_, rfl, wi, ns, ls, rfl, W, fun r0 H1 s1 e1 => gn ?_⟩
    dsimp only [List.set, L2.start]
    have et1 := s1 _ _ et
    refine ⟨_, rfl, t, rfl, ⟨_, SqT.of et1⟩, for_it (walk_tup (K := K) (a := t) (xs := VI row)) (fun i σ H' => ∃ (r : Addr) (y : Option V), σ = [some (.ref wi), some (.ref t), some (.ref r), y] ∧ Same H1 H' ∧ H' r = some (.tup (VH (bh ls (row.take i)))))
      ⟨r0, none, rfl, same_rfl, e1⟩ (fun i σ H' _ ⟨_, _, _, sm, _⟩ => SqT.of (sm _ _ et1)) ?_ ?_⟩
    · rintro i x σ H2' H2 hi ⟨r, y, rfl, s2, er⟩ ⟨rfl, ex⟩
      refine gn ?_
      dsimp only [List.set]
      rw [VI_len] at hi
      have ep : row[i]? = some row[i] := List.getElem?_eq_getElem hi
      have ex2 : (VI row)[i]? = some x := ex
      rw [VI_get ep] at ex2
      cases ex2
      refine ⟨_, rfl, _, rfl, _, rfl, wi, r, ns, ls, _, _, rfl, (W.same s1).same s2, er, val_ok ok (v.take i), v i _ ep, fun c H3 s3 ec => gn ?_⟩
      dsimp only [List.set]
      refine ⟨c, _, rfl, s2.trans s3, ?_⟩
      rw [ec, take_snoc ep, bh_snoc]
    · rintro σ H2 ⟨r, y, rfl, s2, er⟩
      rw [VI_len, List.take_length] at er
      exact ⟨_, rfl, q r H2 (s1.trans s2) er⟩
theorem ok_holds_behindX {f f1 f2 C CR : Addr} {fd d1 d2 : FuncData} {k : Nat} (F : Fun K "holds_behind" "holds_behind" sHoldsBehind f fd) (Nh : Has P w K mg base k "no_holds" ["wishes"] (spNoHolds C) f1 d1) (Ao : HasX P w K mg base (L2.CX P w) k "asked_once" ["wishes", "holds", "person"] (spAskedOnceU C CR) f2 d2) : FnOk P w K mg base (L2.CX P w) (k + 1) f fd ["wishes", "row"] (spHoldsBehindX C CR) := by
  refine F.okX scHoldsBehind (fun vs H Q E h => ?_) (fun cdv A outer s H vs Q E hr h => ?_)
  · obtain ⟨wi, t, ns, ls, row, rfl, _⟩ := h
    rfl
  · obtain ⟨wi, t, ns, ls, row, rfl, W, et, ng, q⟩ := h
    refine ⟨_, pss_cons (ps_set (i := 2) scHoldsBehind.nd rfl (.inl rfl) (pe_call Nh.ok hr rfl Nh.m Nh.k Nh.b .nil pass0 (pa_cons (pv 0) pa_nil)))
      (pss_cons (ps_for PassesOwn.leaving rfl (pi_tup (pv 1)) (pg_name (i := 3) scHoldsBehind.nd rfl (.inl rfl))
      (pss_one (ps_set (i := 2) scHoldsBehind.nd rfl (.inl rfl) (pe_call Ao.ok hr rfl Ao.m Ao.k Ao.b .nil (passes_call (takes_of rfl rfl rfl rfl) (fun _ _ _ _ h => h)) (pa_cons (pv 0) (pa_cons (pv 2) (pa_cons (pv 3) pa_nil)))))))
      (pss_one (ps_ret (pv 2)))), ?_⟩
    have ok := W.ok
    refine ⟨_, rfl, wi, ns, ls, rfl, W, fun r0 H1 s1 e1 => gn ?_⟩
    dsimp only [List.set, L2.start]
    have et1 := s1 _ _ et
    have vl : (VQ row).length = row.length := List.length_map _
    refine ⟨_, rfl, t, rfl, ⟨_, SqT.of et1⟩, for_it (walk_tup (K := K) (a := t) (xs := VQ row)) (fun i σ H' => ∃ (r : Addr) (y : Option V) (us : List Nat), σ = [some (.ref wi), some (.ref t), some (.ref r), y] ∧ Same H1 H' ∧ row.take i = us.map some ∧ Val ls us ∧ H' r = some (.tup (VH (bh ls us))))
      ⟨r0, none, [], rfl, same_rfl, rfl, val_nil, e1⟩ (fun i σ H' _ ⟨_, _, _, _, sm, _⟩ => SqT.of (sm _ _ et1)) ?_ ?_⟩
    · rintro i x σ H2' H2 hi ⟨r, y, us, rfl, s2, eu, v, er⟩ ⟨rfl, ex⟩
      refine gn ?_
      dsimp only [List.set]
      rw [vl] at hi
      have ep : row[i]? = some row[i] := List.getElem?_eq_getElem hi
      have ex2 : (VQ row)[i]? = some x := ex
      unfold VQ at ex2
      rw [List.getElem?_map, ep] at ex2
      cases ex2
      have tk := take_snoc ep
      generalize row[i] = o at ep tk
      by_cases c : ∃ p, o = some p ∧ p ∈ askers ls (bh ls us)
      · obtain ⟨p, rfl, m⟩ := c
        refine ⟨_, rfl, _, rfl, _, rfl, .inl ⟨wi, r, ns, ls, _, p, rfl, (W.same s1).same s2, er, val_ok ok v, m, fun c H3 s3 ec => gn ?_⟩⟩
        dsimp only [List.set]
        refine ⟨c, _, us ++ [p], rfl, s2.trans s3, ?_, val_snoc.mpr ⟨v, m⟩, ?_⟩
        · rw [tk, eu]
          simp
        · rw [ec, bh_snoc]
      · refine ⟨_, rfl, _, rfl, _, rfl, .inr ⟨wi, r, ns, ls, _, _, rfl, (W.same s1).same s2, er, val_ok ok v, ?_, fun p e m => c ?_, fun dd H3 s3 ed => q dd H3 (s1.trans (s2.trans s3)) ed⟩⟩
        · cases o with
          | none => exact .bl _
          | some p => exact .int _
        · cases o with
          | none => cases e
          | some p' =>
            have e' : ((p' : Nat) : Int) = (p : Nat) := V.int.inj e
            have : p' = p := by omega
            subst this
            exact ⟨p', rfl, m⟩
    · rintro σ H2 ⟨r, y, us, rfl, s2, eu, v, er⟩
      rw [vl, List.take_length] at eu
      exact absurd ⟨us, eu, v⟩ ng
end
end K14
namespace K14
open PySem PySem.Spec PyProof.Rows L2
def frsO (ls : List (List Nat)) (hs : List (Option Nat)) (s : List Nat) : Option Nat := s.find? fun p => (askO ls hs p).isSome
theorem find_at {f : Nat → Bool} {s : List Nat} {i p : Nat} (e : s[i]? = some p) (no : ∀ x ∈ s.take i, f x = false) (c : f p = true) : s.find? f = some p := by
  have h : s = s.take i ++ (p :: s.drop (i + 1)) := by
    obtain ⟨hl, rfl⟩ := List.getElem?_eq_some_iff.mp e
    rw [List.getElem_cons_drop, List.take_append_drop]
  rw [h, List.find?_append, List.find?_eq_none.mpr (fun x hx => by rw [no x hx]; decide), List.find?_cons_of_pos (h := c)]
  rfl
theorem frs_some {ls : List (List Nat)} {hs : List (Option Nat)} {s : List Nat} {p : Nat} (lt : ∀ x ∈ s, x < ls.length) (e : frsO ls hs s = some p) : p ∈ askers ls hs := by
  have h1 := List.find?_some e
  exact (askO_some (lt p (List.mem_of_find?_eq_some e))).mp h1
theorem frs_none {ls : List (List Nat)} {hs : List (Option Nat)} {s : List Nat} (all : ∀ p, p < ls.length → p ∈ s) (e : frsO ls hs s = none) : askers ls hs = [] := by
  refine List.eq_nil_iff_forall_not_mem.mpr fun p hp => ?_
  have hp' : p < ls.length := List.mem_range.mp (List.mem_filter.mp hp).1
  exact List.find?_eq_none.mp e p (all p hp') ((askO_some hp').mpr hp)
def spFirstAsker (C : Addr) : Sp := fun vs H Q _ => ∃ (wi t o : Addr) (ns ls : List (List Nat)) (hs : List (Option Nat)) (s : List Nat), vs = [.ref wi, .ref t, .ref o] ∧ WAt C H wi ns ls ∧ H t = some (.tup (VH hs)) ∧ HoldsOk ls hs ∧ Tp H o (VI s) ∧ (∀ x ∈ s, x < ls.length) ∧ ∀ H', Same H H' → Q (hv (frsO ls hs s)) H'
theorem scFirstAsker : FnScope ["wishes", "holds", "order", "person"] ["wishes", "holds", "order"] (defScope sFirstAsker) := ⟨rfl, rfl, rfl, by decide +kernel, rfl, by decide +kernel, by decide +kernel⟩
/-- each one is the first one of the sequence that can ask -/
def OrdBy (ls : List (List Nat)) (s row : List Nat) : Prop := ∀ i p, row[i]? = some p → frsO ls (bh ls (row.take i)) s = some p
theorem ord_snoc {ls : List (List Nat)} {s row : List Nat} {p : Nat} (o : OrdBy ls s row) (e : frsO ls (bh ls row) s = some p) : OrdBy ls s (row ++ [p]) := by
  intro i x ex
  by_cases c : i < row.length
  · rw [List.getElem?_append_left c] at ex
    rw [List.take_append_of_le_length (by omega)]
    exact o i x ex
  · rw [List.getElem?_append_right (by omega), List.getElem?_singleton] at ex
    split at ex
    · cases ex
      have : i = row.length := by omega
      subst this
      rw [List.take_left]
      exact e
    · cases ex
def spAskersBy (C : Addr) : Sp := fun vs H Q _ => ∃ (wi o : Addr) (ns ls : List (List Nat)) (s : List Nat), vs = [.ref wi, .ref o] ∧ WAt C H wi ns ls ∧ Tp H o (VI s) ∧ (∀ x ∈ s, x < ls.length) ∧ (∀ p, p < ls.length → p ∈ s) ∧ ∀ r row H', Same H H' → H' r = some (.tup (VI row)) → Val ls row → OrdBy ls s row → askers ls (bh ls row) = [] → Q (.ref r) H'
theorem scAskersBy : FnScope ["wishes", "order", "holds", "row", "person"] ["wishes", "order"] (defScope sAskersBy) := ⟨rfl, rfl, rfl, by decide +kernel, rfl, by decide +kernel, by decide +kernel⟩
def spHoldsBehindU (C CR : Addr) : Sp := fun vs H Q E => spHoldsBehind C vs H Q E ∨ spHoldsBehindX C CR vs H Q E
def spIsAsking (C : Addr) : Sp := fun vs H Q _ => ∃ (wi : Addr) (v : V) (ns ls : List (List Nat)), vs = [.ref wi, v] ∧ WAt C H wi ns ls ∧ Pl H v ∧ ((tupOf H v = none ∧ Q (.bl false) H) ∨ ∃ row, tupOf H v = some (VQ row) ∧ ∀ b H', (b = true ↔ IsRun ls row) → Same H H' → Q (.bl b) H')
theorem scIsAsking : FnScope ["wishes", "value", "holds"] ["wishes", "value"] (defScope sIsAsking) := ⟨rfl, rfl, rfl, by decide +kernel, rfl, by decide +kernel, by decide +kernel⟩
section
variable {P : Program} {w : World} {K : PySem.W.Frag} {mg : Str → Option Value} {base : Heap}
theorem ok_first_asker {f f1 C : Addr} {fd d1 : FuncData} {k : Nat} (F : Fun K "_first_asker" "_first_asker" sFirstAsker f fd) (Ab : Has P w K mg base k "_asked_by" ["wishes", "holds", "person"] (spAskedBy C) f1 d1) : FnOk P w K mg base CX0 (k + 1) f fd ["wishes", "holds", "order"] (spFirstAsker C) := by
  refine F.ok scFirstAsker (fun vs H Q E h => ?_) (fun cdv A outer s H vs Q E hr h => ?_)
  · obtain ⟨wi, t, o, ns, ls, hs, s, rfl, _⟩ := h
    rfl
  · obtain ⟨wi, t, o, ns, ls, hs, s, rfl, W, et, ho, to, lt, q⟩ := h
    refine ⟨_, pss_cons (ps_for PassesOwn.never rfl (pi_tup (pv 2)) (pg_name (i := 3) scFirstAsker.nd rfl (.inl rfl))
      (pss_one (ps_if (pt_cmpR op_notN (pe_call Ab.ok hr rfl Ab.m Ab.k Ab.b .nil pass0 (pa_cons (pv 0) (pa_cons (pv 1) (pa_cons (pv 3) pa_nil)))) pe_non (nomark _)) (pss_one (ps_ret (pv 3))) pss_nil)))
      (pss_one (ps_ret pe_non)), ?_⟩
    refine ⟨_, rfl, o, rfl, ⟨_, to.sq⟩, for_it (walk_tup (K := K) (a := o) (xs := VI s)) (fun i σ H' => ∃ (y : Option V), σ = [some (.ref wi), some (.ref t), some (.ref o), y] ∧ Same H H' ∧ ∀ x ∈ s.take i, (askO ls hs x).isSome = false)
      ⟨none, rfl, same_rfl, fun x hx => by simp at hx⟩ (fun i σ H' _ ⟨_, _, sm, _⟩ => (to.same sm).sq) ?_ ?_⟩
    · rintro i x σ H2' H2 hi ⟨y, rfl, s2, old⟩ ⟨rfl, ex⟩
      refine gn ?_
      dsimp only [List.set, L2.start]
      rw [VI_len] at hi
      have ep : s[i]? = some s[i] := List.getElem?_eq_getElem hi
      have ex2 : (VI s)[i]? = some x := ex
      rw [VI_get ep] at ex2
      cases ex2
      have hp := lt _ (List.getElem_mem hi)
      have tk := take_snoc ep
      generalize s[i] = p at ep hp tk
      refine ⟨_, rfl, _, rfl, _, rfl, wi, t, ns, ls, hs, p, rfl, W.same s2, s2 _ _ et, ho, hp, fun H3 s3 => ⟨rfl, _, rfl, ?_⟩⟩
      cases e : askO ls hs p with
      | none =>
        refine iteF ⟨_, rfl, s2.trans s3, fun x hx => ?_⟩
        rw [tk] at hx
        rcases List.mem_append.mp hx with hx | hx
        · exact old x hx
        · rw [List.mem_singleton.mp hx, e]
          rfl
      | some j =>
        refine iteT ⟨_, rfl, ?_⟩
        have := q H3 (s2.trans s3)
        unfold frsO at this
        rw [find_at ep old (by rw [e]; rfl)] at this
        exact this
    · rintro σ H2 ⟨y, rfl, s2, old⟩
      rw [VI_len, List.take_length] at old
      have := q H2 s2
      unfold frsO at this
      rw [List.find?_eq_none.mpr fun x hx => by rw [old x hx]; decide] at this
      exact this
theorem ok_askers_by {f f1 f2 f3 C : Addr} {fd d1 d2 d3 : FuncData} {k : Nat} (F : Fun K "askers_by" "askers_by" sAskersBy f fd) (Nh : Has P w K mg base k "no_holds" ["wishes"] (spNoHolds C) f1 d1) (Ao : Has P w K mg base k "asked_once" ["wishes", "holds", "person"] (spAskedOnce C) f2 d2) (Fa : Has P w K mg base k "_first_asker" ["wishes", "holds", "order"] (spFirstAsker C) f3 d3) (mt : mg "tuple" = none) : FnOk P w K mg base CX0 (k + 1) f fd ["wishes", "order"] (spAskersBy C) := by
  refine F.ok scAskersBy (fun vs H Q E h => ?_) (fun cdv A outer s H vs Q E hr h => ?_)
  · obtain ⟨wi, o, ns, ls, s, rfl, _⟩ := h
    rfl
  · obtain ⟨wi, o, ns, ls, s, rfl, W, to, lt, all, q⟩ := h
    refine ⟨_, pss_cons (ps_set (i := 2) scAskersBy.nd rfl (.inl rfl) (pe_call Nh.ok hr rfl Nh.m Nh.k Nh.b .nil pass0 (pa_cons (pv 0) pa_nil)))
      (pss_cons (ps_set (i := 3) scAskersBy.nd rfl (.inl rfl) (pe_lst pa_nil))
      (pss_cons (ps_set (i := 4) scAskersBy.nd rfl (.inl rfl) (pe_call Fa.ok hr rfl Fa.m Fa.k Fa.b .nil pass0 (pa_cons (pv 0) (pa_cons (pv 2) (pa_cons (pv 1) pa_nil)))))
      (pss_cons (ps_while PassesOwn.never (pt_cmpR op_notN (pv 4) pe_non (nomark _)) (pss_cons (ps_set (i := 2) scAskersBy.nd rfl (.inl rfl) (pe_call Ao.ok hr rfl Ao.m Ao.k Ao.b .nil pass0 (pa_cons (pv 0) (pa_cons (pv 2) (pa_cons (pv 4) pa_nil)))))
      (pss_cons (ps_expr (pe_bm PySem.F.plainAttrs_list PySem.F.slot_list_append PySem.F.type_list_append mt_append (pv 3) (pa_cons (pv 4) pa_nil)))
      (pss_one (ps_set (i := 4) scAskersBy.nd rfl (.inl rfl) (pe_call Fa.ok hr rfl Fa.m Fa.k Fa.b .nil pass0 (pa_cons (pv 0) (pa_cons (pv 2) (pa_cons (pv 1) pa_nil)))))))))
      (pss_one (ps_ret (pe_callTy call_tuple_of (by rfl) mt (by decide +kernel) (pa_cons (pv 3) pa_nil))))))), ?_⟩
    have ok := W.ok
    have n60 := W.n60.2
    have big := sum_none_le n60 ok
    refine ⟨_, rfl, wi, ns, ls, rfl, W, fun r0 H1 s1 e1 => gn ⟨Nat.zero_le _, fun R nR => gn ?_⟩⟩
    dsimp only [List.set, L2.start]
    have sR := same_upd (o := .lst []) nR
    have eR : (upd H1 R (.lst [])) R = some (.lst []) := upd_same
    have e1' := sR _ _ e1
    have n0R : H R = none := s1.free nR
    have s1R := s1.trans sR
    generalize upd H1 R (.lst []) = H1' at sR eR e1' s1R
    refine ⟨_, rfl, _, rfl, _, rfl, wi, r0, o, ns, ls, _, s, rfl, W.same s1R, e1', val_ok ok (val_nil (ls := ls)), to.same s1R, lt, fun H2 s2 => gn ?_⟩
    dsimp only [List.set]
    refine tw (fun m σ H' => ∃ (r : Addr) (row : List Nat), σ = [some (.ref wi), some (.ref o), some (.ref r), some (.ref R), some (hv (frsO ls (bh ls row) s))] ∧ Same H H' ∧ H' r = some (.tup (VH (bh ls row))) ∧ H' R = some (.lst (VI row)) ∧ Val ls row ∧ OrdBy ls s row ∧ m = 3601 - row.length)
      (fun σ H' => ∃ (r : Addr) (row : List Nat), σ = [some (.ref wi), some (.ref o), some (.ref r), some (.ref R), some .non] ∧ Same H H' ∧ H' R = some (.lst (VI row)) ∧ Val ls row ∧ OrdBy ls s row ∧ askers ls (bh ls row) = [])
      ⟨r0, [], rfl, s1R.trans s2, s2 _ _ e1', s2 _ _ eR, val_nil, fun i p e => by simp at e, rfl⟩ ?_ (fun out => ?_)
    · rintro σ H' ⟨r, row, rfl, s', eR', v, ob, no⟩
      refine ⟨_, rfl, R, _, rfl, .inl ⟨SqL.of eR', fun c nc => q c row _ (s'.trans (same_upd nc)) ?_ v ob no⟩⟩
      rw [upd_same]
    · rintro m σ H3 ⟨r, row, rfl, s3, er, eR3, v, ob, rfl⟩
      have le := val_len ok v
      refine ⟨_, rfl, rfl, _, rfl, ?_⟩
      cases ef : frsO ls (bh ls row) s with
      | none => exact iteF (out _ _ ⟨r, row, rfl, s3, eR3, v, ob, frs_none all ef⟩)
      | some p =>
        have m := frs_some lt ef
        have v2 : Val ls (row ++ [p]) := val_snoc.mpr ⟨v, m⟩
        have le2 := val_len ok v2
        rw [List.length_append, List.length_singleton] at le2
        refine iteT ⟨fun σ' H' => ∃ m', m' < 3601 - row.length ∧ ∃ (r : Addr) (row : List Nat), σ' = [some (.ref wi), some (.ref o), some (.ref r), some (.ref R), some (hv (frsO ls (bh ls row) s))] ∧ Same H H' ∧ H' r = some (.tup (VH (bh ls row))) ∧ H' R = some (.lst (VI row)) ∧ Val ls row ∧ OrdBy ls s row ∧ m' = 3601 - row.length, fun _ _ h => h, ?_⟩
        refine ⟨_, rfl, _, rfl, _, rfl, wi, r, ns, ls, _, p, rfl, W.same s3, er, val_ok ok v, m, fun c H4 s4 ec => gn ?_⟩
        dsimp only [List.set]
        have eR4 := s4 _ _ eR3
        refine ⟨_, rfl, .inl ⟨rfl, _, SqL.of eR4⟩, _, rfl, R, _, _, rfl, rfl, eR4, sz5 (by rw [VI_len]; omega), ?_⟩
        have nc : c ≠ R := fun z => by
          rw [z, eR4] at ec
          cases ec
        have s5 : Same H (upd H4 R (.lst (VI row ++ [hv (some p)]))) := (s3.trans s4).fresh n0R
        have ec5 : (upd H4 R (.lst (VI row ++ [hv (some p)]))) c = some (.tup (VH (bh ls (row ++ [p])))) := by rw [upd_ne nc, ec, bh_snoc]
        have eR5 : (upd H4 R (.lst (VI row ++ [hv (some p)]))) R = some (.lst (VI (row ++ [p]))) := by rw [upd_same, VI_app]; rfl
        generalize upd H4 R (.lst (VI row ++ [hv (some p)])) = H5 at s5 ec5 eR5
        refine ⟨_, rfl, _, rfl, _, rfl, wi, c, o, ns, ls, _, s, rfl, W.same s5, ec5, val_ok ok v2, to.same s5, lt, fun H6 s6 => gn ?_⟩
        dsimp only [List.set]
        exact ⟨3601 - (row.length + 1), by omega, c, row ++ [p], rfl, s5.trans s6, s6 _ _ ec5, s6 _ _ eR5, v2, ord_snoc ob ef, by rw [List.length_append]; rfl⟩
theorem ok_is_asking {f f1 f2 fI C CR CM : Addr} {fd d1 d2 : FuncData} {k : Nat} (F : Fun K "is_asking" "is_asking" sIsAsking f fd) (T : ErrT K mg CR CM fI) (Hb : HasX P w K mg base (L2.CX P w) k "holds_behind" ["wishes", "row"] (spHoldsBehindU C CR) f1 d1) (As : Has P w K mg base k "askers" ["wishes", "holds"] (spAskers C) f2 d2) (mis : mg "isinstance" = none) (mt : mg "tuple" = none) : FnOk P w K mg base CX0 (k + 1) f fd ["wishes", "value"] (spIsAsking C) := by
  refine F.ok scIsAsking (fun vs H Q E h => ?_) (fun cdv A outer s H vs Q E hr h => ?_)
  · obtain ⟨wi, v, ns, ls, rfl, _⟩ := h
    rfl
  · obtain ⟨wi, v, ns, ls, rfl, W, pl, q⟩ := h
    refine ⟨_, pss_cons (ps_if (pt_not (pt_val (pe_callB call_isi (by rfl) mis (by decide +kernel) (pa_cons (pv 1) (pa_cons (pe_bltn (v := .ty "tuple") (by rfl) mt (by decide +kernel) rfl) pa_nil))))) (pss_one (ps_ret pe_bl)) pss_nil)
      (pss_cons (ps_try_only rfl rfl ⟨rfl, by decide, .inl T.gR⟩ LamX.takes0 (fun W pn xe tk _ => pss_one (ps_set (i := 2) scIsAsking.nd rfl (.inl rfl) (pe_callS Hb.ok hr rfl Hb.m Hb.k Hb.b (fun σ => passAt tk σ) (pa_cons (pv 0) (pa_cons (pv 1) pa_nil))))) (fun a oe cls d pn _ _ => pss_one (ps_ret pe_bl)))
      (pss_one (ps_ret (pe_notT (pe_call As.ok hr rfl As.m As.k As.b .nil pass0 (pa_cons (pv 0) (pa_cons (pv 2) pa_nil))))))), ?_⟩
    have ok := W.ok
    cases tv : tupOf H v with
    | none =>
      have q0 : Q (.bl false) H := by
        rcases q with ⟨_, q⟩ | ⟨row, e, _⟩
        · exact q
        · rw [tv] at e
          cases e
      cases pl with
      | non => exact (⟨_, rfl, _, _, _, _, false, rfl, .ty _, .base .non, kit_ty (by decide +kernel), ⟨_, rfl, iteT q0⟩⟩)
      | bl b => exact (⟨_, rfl, _, _, _, _, false, rfl, .ty _, .base (.bl b), kit_ty (by decide +kernel), ⟨_, rfl, iteT q0⟩⟩)
      | int i => exact (⟨_, rfl, _, _, _, _, false, rfl, .ty _, .base (.int i), kit_ty (by decide +kernel), ⟨_, rfl, iteT q0⟩⟩)
      | str s => exact (⟨_, rfl, _, _, _, _, false, rfl, .ty _, .base (.str s), kit_ty (by decide +kernel), ⟨_, rfl, iteT q0⟩⟩)
      | lst e => exact (⟨_, rfl, _, _, _, _, false, rfl, .ty _, .base (.lst e), kit_ty (by decide +kernel), ⟨_, rfl, iteT q0⟩⟩)
      | tup e =>
        exfalso
        simp [tupOf, e] at tv
    | some ys =>
      rcases q with ⟨e, _⟩ | ⟨row, e, q⟩
      · rw [tv] at e
        cases e
      rw [tv] at e
      cases e
      obtain ⟨b, rfl, eb⟩ := tupOf_some tv
      refine (⟨_, rfl, _, _, _, _, true, rfl, .ty _, .base (.tup eb), kit_ty (by decide +kernel), ⟨_, rfl, iteF ?_⟩⟩)
      by_cases g : Good ls row
      · obtain ⟨r, rfl, v⟩ := g
        rw [VQ_some] at eb
        refine ⟨_, rfl, _, rfl, .inl ⟨wi, b, ns, ls, r, rfl, W, eb, v, fun c H1 s1 ec => gn ?_⟩⟩
        dsimp only [List.set, L2.start]
        refine ⟨_, rfl, _, rfl, wi, c, ns, ls, _, rfl, W.same s1, ec, val_ok ok v, fun u H2 s2 eu => ⟨_, .inr (.inl ⟨_, SqT.of eu, rfl⟩), q _ H2 ?_ (s1.trans s2)⟩⟩
        constructor
        · intro hb
          refine ⟨r, rfl, v, ?_⟩
          cases ea : askers ls (bh ls r) with
          | nil => rfl
          | cons x t => rw [ea] at hb; cases hb
        · rintro ⟨r', er, v', ea⟩
          rw [map_some_inj er, ea]
          rfl
      · refine ⟨_, rfl, _, rfl, .inr ⟨wi, b, ns, ls, row, rfl, W, eb, g, fun dd H1 s1 ed => ⟨true, T.ex, fun _ a na => q false H1 ⟨fun z => (by cases z), fun ⟨r, e, v, _⟩ => absurd ⟨r, e, v⟩ g⟩ s1, fun z => nomatch z⟩⟩⟩
end
end K14
namespace K14
open PySem PySem.Spec PyProof.Rows L2
theorem tot_sum (ls : List (List Nat)) : ((List.range ls.length).map fun p => ((la ls p).length : Int)).sum = (sumM ls (noneL ls) : Nat) := by
  have e : ∀ l : List Nat, (l.map fun p => ((la ls p).length : Int)).sum = ((l.map (most ls (noneL ls))).sum : Nat) := by
    intro l
    induction l with
    | nil => rfl
    | cons x t ih =>
      rw [List.map_cons, List.map_cons, List.sum_cons, List.sum_cons, ih, most_none ha_none]
      omega
  exact e _
theorem atI_end {xs : List V} {v : V} (e : xs.getLast? = some v) : atI xs (-1) = some v := by
  have : xs = xs.dropLast ++ [v] := by
    obtain ⟨h, e2⟩ := List.getLast?_eq_some_iff.mp e
    rw [e2]
    simp
  rw [this]
  exact atI_last _ _
/-- the holds behind each ask of a row -/
def SgT (H : Hp) (us : List Addr) (ls : List (List Nat)) (row : List Nat) : Prop := us.length = row.length + 1 ∧ ∀ (j : Nat) (u : Addr), us[j]? = some u → H u = some (.tup (VH (bh ls (row.take j))))
theorem SgT.same {H H' : Hp} {us : List Addr} {ls : List (List Nat)} {row : List Nat} (t : SgT H us ls row) (s : Same H H') : SgT H' us ls row := ⟨t.1, fun j u e => s _ _ (t.2 j u e)⟩
theorem SgT.ext {H H' : Hp} {us : List Addr} {ls : List (List Nat)} {row : List Nat} (t : SgT H us ls row) (s : LamX.ExtN H H') : SgT H' us ls row := ⟨t.1, fun j u e => s _ _ (t.2 j u e) fun _ z => by cases z⟩
theorem SgT.bar {H H' : Hp} {h l : Addr} {us : List Addr} {ls : List (List Nat)} {row : List Nat} (t : SgT H us ls row) (s : Src H h l) (b : Bar h l H H') : SgT H' us ls row := ⟨t.1, fun j u e => tup_bar s b (t.2 j u e)⟩
theorem SgT.put {H : Hp} {p : Addr} {xs : List V} {o : HO} {us : List Addr} {ls : List (List Nat)} {row : List Nat} (t : SgT H us ls row) (e : H p = some (.lst xs)) : SgT (upd H p o) us ls row := ⟨t.1, fun j u eu => by
  have := t.2 j u eu
  rw [upd_ne fun z => by rw [z, e] at this; cases this]
  exact this⟩
theorem SgT.last {H : Hp} {us : List Addr} {ls : List (List Nat)} {row : List Nat} (t : SgT H us ls row) : ∃ u, us[row.length]? = some u ∧ us.getLast? = some u ∧ H u = some (.tup (VH (bh ls row))) := by
  have h : row.length < us.length := by rw [t.1]; omega
  have e : us[row.length]? = some us[row.length] := List.getElem?_eq_getElem h
  refine ⟨us[row.length], e, ?_, ?_⟩
  · rw [List.getLast?_eq_getElem?, t.1]
    exact e
  · have := t.2 _ _ e
    rw [List.take_length] at this
    exact this
theorem SgT.snoc {H : Hp} {us : List Addr} {ls : List (List Nat)} {row : List Nat} {u : Addr} {p : Nat} (t : SgT H us ls row) (e : H u = some (.tup (VH (bh ls (row ++ [p]))))) : SgT H (us ++ [u]) ls (row ++ [p]) := by
  refine ⟨by rw [List.length_append, List.length_append, t.1]; rfl, fun j x ex => ?_⟩
  by_cases c : j < us.length
  · rw [List.getElem?_append_left c] at ex
    rw [List.take_append_of_le_length (by have := t.1; omega)]
    exact t.2 j x ex
  · rw [List.getElem?_append_right (by omega), List.getElem?_singleton] at ex
    split at ex
    · cases ex
      have hj : j = row.length + 1 := by have := t.1; omega
      rw [List.take_of_length_le (by rw [hj, List.length_append]; exact Nat.le_refl _)]
      exact e
    · cases ex
def spLCan : Sp := fun vs H Q _ => ∃ (a t : Addr) (ls : List (List Nat)) (hs : List (Option Nat)), vs = [.ref a, .ref t] ∧ LX H a ls ∧ H t = some (.tup (VH hs)) ∧ HoldsOk ls hs ∧ ListsOk ls.length ls ∧ ls.length ≤ 60 ∧ ∀ r H', Same H H' → H' r = some (.tup (VI (askers ls hs))) → Q (.ref r) H'
theorem scLCan : FnScope ["lists", "holds", "left", "person"] ["lists", "holds"] (defScope sLCan) := ⟨rfl, rfl, rfl, by decide +kernel, rfl, by decide +kernel, by decide +kernel⟩
def spLBehind : Sp := fun vs H Q _ => ∃ (a t : Addr) (ls : List (List Nat)) (hs : List (Option Nat)) (p : Nat), vs = [.ref a, .ref t, .int (p : Nat)] ∧ LX H a ls ∧ H t = some (.tup (VH hs)) ∧ HoldsOk ls hs ∧ ListsOk ls.length ls ∧ ls.length ≤ 60 ∧ p ∈ askers ls hs ∧ ∀ r H', Same H H' → H' r = some (.tup (VH (bhd ls hs p))) → Q (.ref r) H'
theorem scLBehind : FnScope ["lists", "holds", "person", "first"] ["lists", "holds", "person"] (defScope sLBehind) := ⟨rfl, rfl, rfl, by decide +kernel, rfl, by decide +kernel, by decide +kernel⟩
def spLRun : Sp := fun vs H Q _ => ∃ (h l a : Addr) (ls : List (List Nat)), vs = [.ref h, .ref a] ∧ Src H h l ∧ LX H a ls ∧ ListsOk ls.length ls ∧ 1 ≤ ls.length ∧ ls.length ≤ 60 ∧
  ∀ (r t f : Addr) (us : List Addr) (row : List Nat) (H' : Hp), Src H' h l → Bar h l H H' → H' r = some (.lst [.ref t, .ref f]) → H' t = some (.tup (VI row)) → H' f = some (.lst (us.map V.ref)) → r ≠ h ∧ r ≠ l → f ≠ h ∧ f ≠ l → SgT H' us ls row → Val ls row → askers ls (bh ls row) = [] → Q (.ref r) H'
theorem scLRun : FnScope ["heap", "lists", "row", "found", "turn", "some"] ["heap", "lists"] (defScope sLRun) := ⟨rfl, rfl, rfl, by decide +kernel, rfl, by decide +kernel, by decide +kernel⟩
def spLIsRun : Sp := fun vs H Q _ => ∃ (a : Addr) (v : V) (ls : List (List Nat)), vs = [.ref a, v] ∧ LX H a ls ∧ ListsOk ls.length ls ∧ 1 ≤ ls.length ∧ ls.length ≤ 60 ∧ Pl H v ∧ ((tupOf H v = none ∧ ∀ H', Same H H' → Q (.bl false) H') ∨ ∃ row, tupOf H v = some (VQ row) ∧ ∀ b H', (b = true ↔ IsRun ls row) → Same H H' → Q (.bl b) H')
theorem scLIsRun : FnScope ["lists", "value", "holds", "person"] ["lists", "value"] (defScope sLIsRun) := ⟨rfl, rfl, rfl, by decide +kernel, rfl, by decide +kernel, by decide +kernel⟩
section
variable {P : Program} {w : World} {K : PySem.W.Frag} {mg : Str → Option Value} {base : Heap}
theorem ok_l_can {f f1 : Addr} {fd d1 : FuncData} {k : Nat} (F : Fun K "_law_can" "_law_can" sLCan f fd) (Lf : Has P w K mg base k "_law_left" ["lists", "holds"] spLeft f1 d1) (mt : mg "tuple" = none) (mrg : mg "range" = none) (ml : mg "len" = none) : FnOk P w K mg base CX0 (k + 1) f fd ["lists", "holds"] spLCan := by
  refine F.ok scLCan (fun vs H Q E h => ?_) (fun cdv A outer s H vs Q E hr h => ?_)
  · obtain ⟨a, t, ls, hs, rfl, _⟩ := h
    rfl
  · obtain ⟨a, t, ls, hs, rfl, lx, et, ho, ok, n60, q⟩ := h
    refine ⟨_, pss_cons (ps_set (i := 2) scLCan.nd rfl (.inr rfl) (pe_call Lf.ok hr rfl Lf.m Lf.k Lf.b .nil pass0 (pa_cons (pv 0) (pa_cons (pv 1) pa_nil))))
      (pss_one (ps_ret (pe_callTy call_tuple_of (by rfl) mt (by decide +kernel) (pa_cons (pe_lc (own := [("person", 3)]) (g := gName 3) (tt := tAnd (tTest (tOp (rNeD K) (tOp (rIxT K) (tVar 2) (tVar 3)) (tTup tNil))) (tTest (tOp (rIn K true) (tVar 3) (tVar 1)))) rfl scLCan.nd (pi_range1 rfl mrg (pa_cons (pe_callB call_len_seq (by rfl) ml PySem.boot_len (pa_cons (pv 0) pa_nil)) pa_nil))
          (blkOk_by (own := [("person", 3)]) (N := ["lists", "holds", "left", "person"]) (sc := defScope sLCan) (by decide +kernel)) (fun _ _ _ _ _ => (pg_name (i := 3) scLCan.nd rfl (Or.inl rfl))) (fun _ _ _ _ _ => (pts_one (PW.pt (pw_and (pt_cmpR (op_neD hr.units) (pe_ix ix_tup (pv 2) (pv 3) (fun _ _ => rfl)) (pe_tup pa_nil) (nomark _)) (pw_and1 (pt_cmpR op_notIn_seq (pv 3) (pv 1) rfl))))))
          (fun _ _ _ _ _ => (pv 3))) pa_nil)))), ?_⟩
    obtain ⟨xs, ea, xl⟩ := lx.lt.len
    refine ⟨_, rfl, _, rfl, a, t, ls, hs, rfl, lx, et, ho, ok, by omega, fun r1 H6 s6 l6 => gn ?_⟩
    dsimp only [List.set, L2.start]
    have ea6 := s6 _ _ ea
    refine ⟨_, rfl, a, xs, rfl, .inr (SqT.of ea6), ?_⟩
    rw [xl]
    refine ⟨_, rfl, by omega, by omega, fun S nS => ?_⟩
    have gR : ∀ i, i < ls.length → (VI (List.range ls.length)).getD i .non = .int (i : Nat) := fun i hi => by
      rw [List.getD_eq_getElem?_getD, VI_get (List.getElem?_range hi)]
      rfl
    refine lc_sel (J := Itr 0 ls.length) (n := ls.length) walk_range0 (by omega) (VI (List.range ls.length)) (fV fun p => !(leftL ls hs p).isEmpty && !inV (.int (p : Nat)) (VH hs)) (by simp [VI]) nS (fun _ _ => trivial) ?_ ?_
    · rintro q0 x Ha Hb R Z yes' no' hm sm ⟨rfl, rfl⟩
      rw [gR q0 hm] at yes' no'
      obtain ⟨rows2, c2, er2, ec2, ev2⟩ := (l6.same sm).at (leftA_get hm)
      refine gn ⟨rfl, _, rfl, _, rfl, r1, rows2, _, _, rfl, rfl, SqT.of er2, atI_nat ec2, (by show 0 ≤ sizeLine; decide), fun zz nz => ?_⟩
      have sz := same_upd (o := .tup []) nz
      refine ⟨dI (leftL ls hs q0), .tuple [], dp_dI (ev2.same sz), .tup (SqT.of upd_same) .nil, sh_dI _, by decide, _, rfl, ?_⟩
      rw [eqv_dI_nil]
      cases eo : (leftL ls hs q0).isEmpty with
      | true => exact iteF (iteF (no' _ sz (by show (!(leftL ls hs q0).isEmpty && !inV (.int (q0 : Nat)) (VH hs)) = false; rw [eo]; rfl)))
      | false =>
        refine iteT ⟨_, rfl, _, rfl, t, _, rfl, .inr (SqT.of (sz _ _ (sm _ _ (s6 _ _ et)))), rfl, flat_VH hs, !inV (.int (q0 : Nat)) (VH hs), rfl, ?_⟩
        cases ei : inV (.int (q0 : Nat)) (VH hs) with
        | true => exact iteF (no' _ sz (by show (!(leftL ls hs q0).isEmpty && !inV (.int (q0 : Nat)) (VH hs)) = false; rw [ei]; simp))
        | false => exact iteT ⟨_, rfl, yes' _ sz (by show (!(leftL ls hs q0).isEmpty && !inV (.int (q0 : Nat)) (VH hs)) = true; rw [eo, ei]; rfl)⟩
    · intro Hc sc eS
      rw [VI_filter] at eS
      refine ⟨S, _, rfl, .inl ⟨SqL.of eS, fun r nr => q r _ ((s6.trans sc).trans (same_upd nr)) ?_⟩⟩
      rw [upd_same]
      rfl
theorem ok_l_behind {f f1 : Addr} {fd d1 : FuncData} {k : Nat} (F : Fun K "_law_behind" "_law_behind" sLBehind f fd) (Lf : Has P w K mg base k "_law_left" ["lists", "holds"] spLeft f1 d1) : FnOk P w K mg base CX0 (k + 1) f fd ["lists", "holds", "person"] spLBehind := by
  refine F.ok scLBehind (fun vs H Q E h => ?_) (fun cdv A outer s H vs Q E hr h => ?_)
  · obtain ⟨a, t, ls, hs, p, rfl, _⟩ := h
    rfl
  · obtain ⟨a, t, ls, hs, p, rfl, lx, et, ho, ok, n60, m, q⟩ := h
    refine ⟨_, pss_cons (ps_set (i := 3) scLBehind.nd rfl (.inl rfl) (pe_ix ix_tup (pe_ix ix_tup (pe_call Lf.ok hr rfl Lf.m Lf.k Lf.b .nil pass0 (pa_cons (pv 0) (pa_cons (pv 1) pa_nil))) (pv 2) (fun _ _ => rfl)) pe_int (fun _ _ => rfl)))
      (pss_one (ps_ret (pe_op op_catA (pe_op op_catA (pe_slice sl_tupA (pv 1) po_none (po_some (pv 3))) (pe_tup (pa_cons (pv 2) pa_nil))) (pe_slice sl_tupA (pv 1) (po_some (pe_op op_add (pv 3) pe_int)) po_none)))), ?_⟩
    obtain ⟨j, tl, hp, el, ef, j1, j3, eb⟩ := asker_first ok ho m
    rw [eb] at q
    refine ⟨_, rfl, _, rfl, a, t, ls, hs, rfl, lx, et, ho, ok, by omega, fun r1 H1 s1 l1 => ?_⟩
    obtain ⟨rows, c, er, ec, ev⟩ := l1.at (leftA_get hp)
    have ecv := ev.sq (K := K)
    rw [el] at ecv
    refine ⟨_, rfl, r1, rows, (p : Int), _, rfl, rfl, SqT.of er, atI_nat ec, c, _, 0, .int (j : Nat), rfl, rfl, ecv, atI_nat (j := 0) rfl, gn ?_⟩
    dsimp only [List.set, L2.start]
    have n100 : hs.length ≤ 100 := by rw [ho.len]; omega
    refine ⟨_, rfl, _, rfl, _, rfl, ?_⟩
    refine slC (s1 _ _ et) fun c1 H2 s2 e1 => ?_
    refine ⟨_, rfl, (by show 1 ≤ sizeLine; decide), fun u nu => ?_⟩
    have sb := same_upd (o := .tup [.int (p : Nat)]) nu
    have l1 := put_l1 (j := j) n100
    have l3 := put_l3 (j := j) n100
    refine catV (sb _ _ e1) upd_same (by simp; omega) fun c2 H3 s3 e2 => ?_
    have s13 := s2.trans (sb.trans s3)
    refine ⟨_, rfl, _, rfl, _, _, rfl, rfl, _, rfl, ?_⟩
    dsimp only [L2.tNoPart]
    refine slC (s13 _ _ (s1 _ _ et)) fun c3 H4 s4 e3 => ?_
    refine catV (s4 _ _ e2) e3 (by simp; omega) fun c4 H5 s5 e4 => q c4 H5 (s1.trans (s13.trans (s4.trans s5))) ?_
    rw [e4, put_eq (by rw [ho.len]; exact j1)]
theorem ok_l_run {f f1 f2 f3 : Addr} {fd d1 d2 d3 : FuncData} {k : Nat} (F : Fun K "_law_run" "_law_run" sLRun f fd) (Cn : Has P w K mg base k "_law_can" ["lists", "holds"] spLCan f1 d1) (Bd : Has P w K mg base k "_law_behind" ["lists", "holds", "person"] spLBehind f2 d2) (Pk : Has P w K mg base k "_law_pick" ["heap", "some"] spPick f3 d3) (mt : mg "tuple" = none) (mrg : mg "range" = none) (ml : mg "len" = none) (msu : mg "sum" = none) : FnOk P w K mg base CX0 (k + 1) f fd ["heap", "lists"] spLRun := by
  refine F.ok scLRun (fun vs H Q E h => ?_) (fun cdv A outer s H vs Q E hr h => ?_)
  · obtain ⟨h, l, a, ls, rfl, _⟩ := h
    rfl
  · obtain ⟨h, l, a, ls, rfl, src, lx, ok, n1, n60, q⟩ := h
    refine ⟨_, pss_cons (ps_par (i := 2) (j := 3) rfl scLRun.nd rfl rfl (by decide) rfl rfl (pa_cons (pe_lst pa_nil) (pa_cons (pe_lst (pa_cons (pe_op op_repA (pe_tup (pa_cons pe_non pa_nil)) (pe_callB call_len_seq (by rfl) ml PySem.boot_len (pa_cons (pv 1) pa_nil))) pa_nil)) pa_nil)) (by rfl))
      (pss_cons (ps_for PassesOwn.never rfl (pi_range1 rfl mrg (pa_cons (pe_op op_add pe_int (pe_callB (cr_sum rfl) (by rfl) msu (by decide +kernel) (pa_cons (pe_lc (own := [("some", 5)]) (g := gName 5) (tt := tYes) (te := tCB (fun xs H Q => ∃ p ys, xs = [V.ref p] ∧ (SqL K H p ys ∨ SqT K H p ys) ∧ Q (V.int ys.length) H) (tCons (tVar 5) tNil)) rfl scLRun.nd (pi_tup (pv 1))
          (blkOk_by (own := [("some", 5)]) (N := ["heap", "lists", "row", "found", "turn", "some"]) (sc := defScope sLRun) (by decide +kernel)) (fun _ _ _ _ _ => (pg_name (i := 5) scLRun.nd rfl (Or.inl rfl))) (fun _ _ _ _ _ => pts_nil)
          (fun _ _ _ _ _ => (pe_callB call_len_seq (by rfl) ml PySem.boot_len (pa_cons (pv 5) pa_nil)))) pa_nil))) pa_nil)) (pg_name (i := 4) scLRun.nd rfl (.inl rfl))
      (pss_cons (ps_set (i := 5) scLRun.nd rfl (.inl rfl) (pe_call Cn.ok hr rfl Cn.m Cn.k Cn.b .nil pass0 (pa_cons (pv 1) (pa_cons (pe_ix ix_list (pv 3) (pe_un un_neg pe_int) (fun _ _ => rfl)) pa_nil))))
      (pss_cons (ps_if (pt_cmpR (op_eqD hr.units) (pv 5) (pe_tup pa_nil) (nomark _)) (pss_one ps_break) pss_nil)
      (pss_cons (ps_expr (pe_bm PySem.F.plainAttrs_list PySem.F.slot_list_append PySem.F.type_list_append mt_append (pv 2) (pa_cons (pe_call Pk.ok hr rfl Pk.m Pk.k Pk.b .nil pass0 (pa_cons (pv 0) (pa_cons (pv 5) pa_nil))) pa_nil)))
      (pss_one (ps_expr (pe_bm PySem.F.plainAttrs_list PySem.F.slot_list_append PySem.F.type_list_append mt_append (pv 3) (pa_cons (pe_call Bd.ok hr rfl Bd.m Bd.k Bd.b .nil pass0 (pa_cons (pv 1) (pa_cons (pe_ix ix_list (pv 3) (pe_un un_neg pe_int) (fun _ _ => rfl)) (pa_cons (pe_ix ix_list (pv 2) (pe_un un_neg pe_int) (fun _ _ => rfl)) pa_nil)))) pa_nil))))))))
      (pss_one (ps_ret (pe_lst (pa_cons (pe_callTy call_tuple_of (by rfl) mt (by decide +kernel) (pa_cons (pv 2) pa_nil)) (pa_cons (pv 3) pa_nil)))))), ?_⟩
    obtain ⟨xs, ea, xl⟩ := lx.lt.len
    have big := sum_none_le n60 ok
    refine ⟨Nat.zero_le _, fun R nR => ⟨(by show 1 ≤ sizeLine; decide), fun u nu => ?_⟩⟩
    have sR := same_upd (o := .lst []) nR
    have eR0 : (upd H R (.lst [])) R = some (.lst []) := upd_same
    have su := same_upd (o := .tup [.non]) nu
    refine ⟨_, rfl, a, xs, rfl, .inr (SqT.of (su _ _ (sR _ _ ea))), ?_⟩
    rw [xl]
    refine repZ (m := ls.length) rfl upd_same n1 (by omega) fun p0 H1 s1 ep1 => ⟨(by show 1 ≤ sizeLine; decide), fun Fd nF => ⟨_, _, rfl, ?_⟩⟩
    dsimp only [List.set, L2.start]
    have sF := same_upd (o := .lst [.ref p0]) nF
    have eF0 : (upd H1 Fd (.lst [.ref p0])) Fd = some (.lst [.ref p0]) := upd_same
    have sall : Same H (upd H1 Fd (.lst [.ref p0])) := (sR.trans (su.trans s1)).trans sF
    have eR1 := (su.trans (s1.trans sF)) _ _ eR0
    have ep2 := sF _ _ ep1
    have n0F : H Fd = none := (sR.trans (su.trans s1)).free nF
    have neRF : R ≠ Fd := ne_of_none ((su.trans s1) _ _ eR0) nF
    have lx1 := lx.same sall
    have ea1 := sall _ _ ea
    have src1 := src.same sall
    generalize upd H1 Fd (.lst [.ref p0]) = H2 at sF eF0 sall eR1 ep2 lx1 ea1 src1
    obtain ⟨nRh, nRl⟩ := src.new nR
    obtain ⟨nFh, nFl⟩ := src.new n0F
    refine seqcut (fun σ' H' => ∃ (row : List Nat) (us : List Addr) (y4 y5 : Option V), σ' = [some (.ref h), some (.ref a), some (.ref R), some (.ref Fd), y4, y5] ∧ Src H' h l ∧ Bar h l H H' ∧ H' R = some (.lst (VI row)) ∧ H' Fd = some (.lst (us.map V.ref)) ∧ SgT H' us ls row ∧ Val ls row ∧ askers ls (bh ls row) = []) ?_ (fun out => ?_)
    · rintro σ' H' ⟨row, us, y4, y5, rfl, sr, br, eR, eF, sg, v, no⟩
      refine ⟨_, rfl, R, _, rfl, .inl ⟨SqL.of eR, fun t nt => ⟨_, rfl, (by show 2 ≤ sizeLine; decide), fun r nr => ?_⟩⟩⟩
      have st := same_upd (o := .tup (VI row)) nt
      have et : (upd H' t (.tup (VI row))) t = some (.tup (VI row)) := upd_same
      have sr' := same_upd (o := .lst [.ref t, .ref Fd]) nr
      have s2 := st.trans sr'
      exact q r t Fd us row _ (sr.same s2) (br.trans (.same s2)) upd_same (sr' _ _ et) (s2 _ _ eF) ((sr.same st).new nr) ⟨nFh, nFl⟩ (sg.same s2) v no
    · refine ⟨_, rfl, a, rfl, ⟨_, SqT.of ea1⟩, fun D nD => ?_⟩
      refine lc_same (walk_tup (K := K) (a := a) (xs := xs)) (by omega) (fun p => .int ((la ls p).length : Nat)) nD (fun _ sm => SqT.of (sm _ _ ea1)) ?_ ?_
      · rintro m x Ha Hb Z out hm sm ⟨rfl, ex⟩
        obtain ⟨c, s', rfl, es, ec⟩ := lx1.lt.row ea1 ex
        have es' : s' = la ls m := by rw [la_of es]
        subst es'
        refine gn ⟨rfl, _, rfl, c, _, rfl, .inr (ec.same sm).sq, ?_⟩
        rw [VI_len]
        exact out _ same_rfl
      · intro H3 s3 eD
        have eD' : H3 D = some (.lst ((((List.range ls.length).map fun p => ((la ls p).length : Int))).map V.int)) := by
          rw [eD, xl, List.map_map]
          rfl
        refine ⟨D, _, rfl, SqL.of eD', ?_⟩
        rw [tot_sum]
        refine ⟨_, _, rfl, rfl, _, rfl, by omega, by omega, for_it (J := Itr 0 (1 + sumM ls (noneL ls))) (n := 1 + sumM ls (noneL ls)) walk_range0 (fun i σ H' => ∃ (row : List Nat) (us : List Addr) (y4 y5 : Option V), σ = [some (.ref h), some (.ref a), some (.ref R), some (.ref Fd), y4, y5] ∧ Src H' h l ∧ Bar h l H H' ∧ H' R = some (.lst (VI row)) ∧ H' Fd = some (.lst (us.map V.ref)) ∧ SgT H' us ls row ∧ Val ls row ∧ row.length = i)
          ⟨[], [p0], none, none, rfl, src1.same s3, .same (sall.trans s3), s3 _ _ eR1, s3 _ _ eF0, ⟨rfl, fun j u e => by
            match j, e with
            | 0, e => cases e; exact s3 _ _ ep2
            | _ + 1, e => simp at e⟩, val_nil, rfl⟩ (fun _ _ _ _ _ => trivial) ?_ ?_⟩
        · rintro i z σ H4 H5 hi ⟨row, us, y4, y5, rfl, sr, br, eR, eF, sg, v, rl⟩ ⟨rfl, rfl⟩
          refine gn ?_
          dsimp only [List.set]
          have ho := val_ok ok v
          obtain ⟨u, eu, eul, euH⟩ := sg.last
          have lst : atI (us.map V.ref) (-1) = some (.ref u) := atI_end (by rw [List.getLast?_map, eul]; rfl)
          have lx5 := lx.bar src br
          refine ⟨_, rfl, _, rfl, _, rfl, Fd, _, -1, .ref u, rfl, rfl, SqL.of eF, lst, a, u, ls, _, rfl, lx5, euH, ho, ok, n60, fun c H6 s6 ec => gn ?_⟩
          dsimp only [List.set]
          refine ⟨_, rfl, (by show 0 ≤ sizeLine; decide), fun zz nz => ?_⟩
          have sz := same_upd (o := .tup []) nz
          have s56 := s6.trans sz
          have ecz := sz _ _ ec
          have e0 : (upd H6 zz (.tup [])) zz = some (.tup []) := upd_same
          generalize upd H6 zz (.tup []) = H7 at sz s56 ecz e0
          have sr7 := sr.same s56
          have br7 := br.trans (.same s56 : Bar h l _ _)
          have eR7 := s56 _ _ eR
          have eF7 := s56 _ _ eF
          have sg7 := sg.same s56
          refine ⟨dI (askers ls (bh ls row)), .tuple [], dp_dI (.inl ecz), .tup (SqT.of e0) .nil, sh_dI _, by decide, _, rfl, ?_⟩
          rw [eqv_dI_nil]
          cases eo : askers ls (bh ls row) with
          | nil => exact iteT (out _ _ ⟨row, us, _, _, rfl, sr7, br7, eR7, eF7, sg7, v, eo⟩)
          | cons x tl =>
            refine iteF ?_
            rw [eo] at ecz
            obtain ⟨nch, ncl⟩ := sr7.ne ecz fun _ z => by cases z
            refine ⟨_, rfl, .inl ⟨rfl, _, SqL.of eR7⟩, _, rfl, _, rfl, h, l, c, _, rfl, sr7, .inr (.inl ecz), nch, ncl, by simp [VI], by
              rw [VI_len, ← eo]
              unfold askers
              have := List.length_filter_le (fun p => !(leftL ls (bh ls row) p).isEmpty && !inV (.int (p : Nat)) (VH (bh ls row))) (List.range ls.length)
              rw [List.length_range] at this
              omega, fun k y H8 ek sr8 br8 => ?_⟩
            obtain ⟨p, hp, rfl⟩ : ∃ p, p ∈ askers ls (bh ls row) ∧ y = .int (p : Nat) := by
              rw [eo]
              unfold VI at ek
              rw [List.getElem?_map] at ek
              cases e : (x :: tl)[k]? with
              | none => rw [e] at ek; cases ek
              | some p => rw [e] at ek; cases ek; exact ⟨p, List.mem_of_getElem? e, rfl⟩
            have v2 : Val ls (row ++ [p]) := val_snoc.mpr ⟨v, hp⟩
            have le2 := val_len ok v2
            rw [List.length_append, List.length_singleton] at le2
            have eR8 := br8 _ _ nRh nRl eR7
            have eF8 := br8 _ _ nFh nFl eF7
            have sg8 := sg7.bar sr7 br8
            refine ⟨R, _, _, rfl, rfl, eR8, sz5 (by rw [VI_len]; omega), ?_⟩
            have eR9 : (upd H8 R (.lst (VI row ++ [.int (p : Nat)]))) R = some (.lst (VI row ++ [.int (p : Nat)])) := upd_same
            have eF9 : (upd H8 R (.lst (VI row ++ [.int (p : Nat)]))) Fd = some (.lst (us.map V.ref)) := by rw [upd_ne (Ne.symm neRF)]; exact eF8
            have sg9 := sg8.put (o := .lst (VI row ++ [.int (p : Nat)])) eR8
            have sr9 : Src (upd H8 R (.lst (VI row ++ [.int (p : Nat)]))) h l := sr8.put nRh nRl
            have br9 : Bar h l H (upd H8 R (.lst (VI row ++ [.int (p : Nat)]))) := (br7.trans br8).fresh nR
            generalize upd H8 R (.lst (VI row ++ [.int (p : Nat)])) = H9 at eR9 eF9 sg9 sr9 br9
            obtain ⟨u9, eu9, eul9, euH9⟩ := sg9.last
            rw [eu] at eu9
            cases eu9
            refine ⟨_, rfl, .inl ⟨rfl, _, SqL.of eF9⟩, _, rfl, _, rfl, _, rfl, Fd, _, -1, .ref u, rfl, rfl, SqL.of eF9, lst, _, rfl, _, rfl, R, _, -1, .int (p : Nat), rfl, rfl, SqL.of eR9, atI_last _ _, a, u, ls, _, p, rfl, lx.bar src br9, euH9, ho, ok, n60, hp, fun c2 H10 s10 ec2 => ?_⟩
            have eF10 := s10 _ _ eF9
            refine ⟨Fd, _, _, rfl, rfl, eF10, sz5 (by rw [List.length_map, sg.1]; omega), row ++ [p], us ++ [c2], _, _, rfl, (sr9.same s10).put nFh nFl, (br9.trans (.same s10)).fresh n0F, ?_, by rw [upd_same]; simp, ?_, v2, by rw [List.length_append]; simp [rl]⟩
            · rw [upd_ne neRF, s10 _ _ eR9, VI_app]
              rfl
            · refine ((sg9.same s10).put (o := .lst (us.map V.ref ++ [.ref c2])) eF10).snoc ?_
              rw [upd_ne fun z => by rw [z, eF10] at ec2; cases ec2]
              rw [ec2, bh_snoc]
        · rintro σ H4 ⟨row, us, y4, y5, rfl, sr, br, eR, eF, sg, v, rl⟩
          have := val_len ok v
          omega
theorem ok_l_is_run {f f1 f2 : Addr} {fd d1 d2 : FuncData} {k : Nat} (F : Fun K "_law_is_run" "_law_is_run" sLIsRun f fd) (Cn : Has P w K mg base k "_law_can" ["lists", "holds"] spLCan f1 d1) (Bd : Has P w K mg base k "_law_behind" ["lists", "holds", "person"] spLBehind f2 d2) (mis : mg "isinstance" = none) (mt : mg "tuple" = none) (mi : mg "int" = none) (mb : mg "bool" = none) (ml : mg "len" = none) : FnOk P w K mg base CX0 (k + 1) f fd ["lists", "value"] spLIsRun := by
  refine F.ok scLIsRun (fun vs H Q E h => ?_) (fun cdv A outer s H vs Q E hr h => ?_)
  · obtain ⟨a, v, ls, rfl, _⟩ := h
    rfl
  · obtain ⟨a, v, ls, rfl, lx, ok, n1, n60, pl, q⟩ := h
    refine ⟨_, pss_cons (ps_set (i := 2) scLIsRun.nd rfl (.inl rfl) (pe_op op_repA (pe_tup (pa_cons pe_non pa_nil)) (pe_callB call_len_seq (by rfl) ml PySem.boot_len (pa_cons (pv 0) pa_nil))))
      (pss_cons (ps_if (pt_not (pt_val (pe_callB call_isi (by rfl) mis (by decide +kernel) (pa_cons (pv 1) (pa_cons (pe_bltn (v := .ty "tuple") (by rfl) mt (by decide +kernel) rfl) pa_nil))))) (pss_one (ps_ret pe_bl)) pss_nil)
      (pss_cons (ps_for PassesOwn.never rfl (pi_tup (pv 1)) (pg_name (i := 3) scLIsRun.nd rfl (.inl rfl))
      (pss_cons (ps_if (PW.pt (pw_or (pt_not (pt_val (pe_callB call_isi (by rfl) mis (by decide +kernel) (pa_cons (pv 3) (pa_cons (pe_bltn (v := .ty "int") (by rfl) mi (by decide +kernel) rfl) pa_nil))))) (pw_or (pt_val (pe_callB call_isi (by rfl) mis (by decide +kernel) (pa_cons (pv 3) (pa_cons (pe_bltn (v := .ty "bool") (by rfl) mb (by decide +kernel) rfl) pa_nil)))) (pw_or1 (pt_cmpR op_notIn_seq (pv 3) (pe_call Cn.ok hr rfl Cn.m Cn.k Cn.b .nil pass0 (pa_cons (pv 0) (pa_cons (pv 2) pa_nil))) rfl))))) (pss_one (ps_ret pe_bl)) pss_nil)
      (pss_one (ps_set (i := 2) scLIsRun.nd rfl (.inl rfl) (pe_call Bd.ok hr rfl Bd.m Bd.k Bd.b .nil pass0 (pa_cons (pv 0) (pa_cons (pv 2) (pa_cons (pv 3) pa_nil))))))))
      (pss_one (ps_ret (pe_cmpR (op_eqD hr.units) (pe_call Cn.ok hr rfl Cn.m Cn.k Cn.b .nil pass0 (pa_cons (pv 0) (pa_cons (pv 2) pa_nil))) (pe_tup pa_nil) (nomark _)))))), ?_⟩
    obtain ⟨xs, ea, xl⟩ := lx.lt.len
    refine ⟨(by show 1 ≤ sizeLine; decide), fun u nu => ?_⟩
    have su := same_upd (o := .tup [.non]) nu
    refine ⟨_, rfl, a, xs, rfl, .inr (SqT.of (su _ _ ea)), ?_⟩
    rw [xl]
    refine repZ (m := ls.length) rfl upd_same n1 (by omega) fun p0 H1 s1 ep1 => gn ?_
    dsimp only [List.set, L2.start]
    have s01 := su.trans s1
    have pl1 := pl.same s01
    have tv1 := tupOf_same pl s01
    cases tv : tupOf H v with
    | none =>
      have q0 : Q (.bl false) H1 := by
        rcases q with ⟨_, q⟩ | ⟨row, e, _⟩
        · exact q _ s01
        · rw [tv] at e
          cases e
      rw [tv] at tv1
      cases pl1 with
      | non => exact (⟨_, rfl, _, _, _, _, false, rfl, .ty _, .base .non, kit_ty (by decide +kernel), ⟨_, rfl, iteT q0⟩⟩)
      | bl b => exact (⟨_, rfl, _, _, _, _, false, rfl, .ty _, .base (.bl b), kit_ty (by decide +kernel), ⟨_, rfl, iteT q0⟩⟩)
      | int i => exact (⟨_, rfl, _, _, _, _, false, rfl, .ty _, .base (.int i), kit_ty (by decide +kernel), ⟨_, rfl, iteT q0⟩⟩)
      | str s => exact (⟨_, rfl, _, _, _, _, false, rfl, .ty _, .base (.str s), kit_ty (by decide +kernel), ⟨_, rfl, iteT q0⟩⟩)
      | lst e => exact (⟨_, rfl, _, _, _, _, false, rfl, .ty _, .base (.lst e), kit_ty (by decide +kernel), ⟨_, rfl, iteT q0⟩⟩)
      | tup e =>
        exfalso
        simp [tupOf, e] at tv1
    | some ys =>
      rcases q with ⟨e, _⟩ | ⟨row, e, q⟩
      · rw [tv] at e
        cases e
      rw [tv] at e
      cases e
      obtain ⟨b, rfl, eb⟩ := tupOf_some tv
      have eb1 := s01 _ _ eb
      refine (⟨_, rfl, _, _, _, _, true, rfl, .ty _, .base (.tup eb1), kit_ty (by decide +kernel), ⟨_, rfl, iteF ?_⟩⟩)
      have vl : (VQ row).length = row.length := List.length_map _
      refine ⟨_, rfl, b, rfl, ⟨_, SqT.of eb1⟩, for_it (walk_tup (K := K) (a := b) (xs := VQ row)) (fun i σ H' => ∃ (r : Addr) (y : Option V) (us : List Nat), σ = [some (.ref a), some (.ref b), some (.ref r), y] ∧ Same H1 H' ∧ row.take i = us.map some ∧ Val ls us ∧ H' r = some (.tup (VH (bh ls us))))
        ⟨p0, none, [], rfl, same_rfl, rfl, val_nil, ep1⟩ (fun i σ H' _ ⟨_, _, _, _, sm, _⟩ => SqT.of (sm _ _ eb1)) ?_ ?_⟩
      · rintro i x σ H2' H2 hi ⟨r, y, us, rfl, s2, eu, v, er⟩ ⟨rfl, ex⟩
        refine gn ?_
        dsimp only [List.set]
        rw [vl] at hi
        have ep : row[i]? = some row[i] := List.getElem?_eq_getElem hi
        have ex2 : (VQ row)[i]? = some x := ex
        unfold VQ at ex2
        rw [List.getElem?_map, ep] at ex2
        cases ex2
        have tk := take_snoc ep
        generalize row[i] = o at ep tk
        have bad : (¬ ∃ p, o = some p ∧ p ∈ askers ls (bh ls us)) → ∀ H', Same H2 H' → Q (.bl false) H' := fun c H' s' => q false H' ⟨fun z => (by cases z), fun ⟨r, e, v', _⟩ => absurd (by
          have := (Good.take (ls := ls) ⟨r, e, v'⟩ (i + 1))
          rw [tk] at this
          obtain ⟨r2, p, e2, eo, v2, m⟩ := good_snoc.mp this
          rw [eu] at e2
          rw [← map_some_inj e2] at m
          exact ⟨p, eo, m⟩) c⟩ (s01.trans (s2.trans s'))
        cases o with
        | none =>
          exact (⟨_, rfl, _, _, _, _, true, rfl, .ty _, .base (.bl true), kit_ty (by decide +kernel), ⟨_, rfl, iteF ((⟨_, rfl, _, _, _, _, true, rfl, .ty _, .base (.bl true), kit_ty (by decide +kernel), ⟨_, rfl, iteT (iteT (bad (fun ⟨p, e, _⟩ => by cases e) _ same_rfl))⟩⟩))⟩⟩)
        | some p =>
          refine (⟨_, rfl, _, _, _, _, true, rfl, .ty _, .base (.int (p : Nat)), kit_ty (by decide +kernel), ⟨_, rfl, iteF ((⟨_, rfl, _, _, _, _, false, rfl, .ty _, .base (.int (p : Nat)), kit_ty (by decide +kernel), ⟨_, rfl, iteF ?_⟩⟩))⟩⟩)
          have ho := val_ok ok v
          have lx2 := lx.same (s01.trans s2)
          refine ⟨_, rfl, _, rfl, _, rfl, a, r, ls, _, rfl, lx2, er, ho, ok, n60, fun c H3 s3 ec => ⟨c, _, rfl, .inr (SqT.of ec), rfl, flat_VI _, !inV (.int (p : Nat)) (VI (askers ls (bh ls us))), rfl, ?_⟩⟩
          rw [inV_VI]
          by_cases m : p ∈ askers ls (bh ls us)
          · rw [decide_eq_true m]
            refine iteF ?_
            refine ⟨_, rfl, _, rfl, _, rfl, a, r, ls, _, p, rfl, lx2.same s3, s3 _ _ er, ho, ok, n60, m, fun c2 H4 s4 ec2 => gn ?_⟩
            dsimp only [List.set]
            refine ⟨c2, _, us ++ [p], rfl, s2.trans (s3.trans s4), ?_, val_snoc.mpr ⟨v, m⟩, ?_⟩
            · rw [tk, eu]
              simp
            · rw [ec2, bh_snoc]
          · rw [decide_eq_false m]
            exact iteT (bad (fun ⟨p', e, m'⟩ => by cases e; exact m m') _ s3)
      · rintro σ H2 ⟨r, y, us, rfl, s2, eu, v, er⟩
        rw [vl, List.take_length] at eu
        refine ⟨_, rfl, _, rfl, a, r, ls, _, rfl, lx.same (s01.trans s2), er, val_ok ok v, ok, n60, fun c H3 s3 ec => ⟨(by show 0 ≤ sizeLine; decide), fun zz nz => ?_⟩⟩
        have sz := same_upd (o := .tup []) nz
        refine ⟨dI (askers ls (bh ls us)), .tuple [], dp_dI (.inl (sz _ _ ec)), .tup (SqT.of upd_same) .nil, sh_dI _, by decide, ?_⟩
        rw [eqv_dI_nil]
        refine q _ _ ?_ ((s01.trans s2).trans (s3.trans sz))
        constructor
        · intro hb
          exact ⟨us, eu, v, List.isEmpty_iff.mp hb⟩
        · rintro ⟨us', e', _, ea'⟩
          rw [eu] at e'
          rw [map_some_inj e', ea']
          rfl
end
end K14
/-! repr of data without strings, dicts and numbers below 0: unlike data have unlike texts -/
namespace ShX
open PySem PySem.Spec PyProof.Rows
abbrev cd (s : Str) : List Nat := s.cps.toList
theorem cd_app (a b : Str) : cd (a ++ b) = cd a ++ cd b := by
  show (a ++ b).cps.toList = _
  rw [Str.cps_append, Array.toList_append]
def rsS : List Str → List Nat
  | [] => []
  | t :: ts => 44 :: 32 :: (cd t ++ rsS ts)
def itS : List Str → List Nat
  | [] => []
  | t :: ts => cd t ++ rsS ts
theorem tf : ∀ (ts : List Str) (k : Nat) (acc : Str), 0 < k → cd (textFrom k acc ts) = cd acc ++ rsS ts
  | [], _, acc, _ => by simp [textFrom, rsS]
  | t :: ts, k, acc, h => by
    show cd (textFrom (k + 1) (acc ++ (if k > 0 then ", " else "" : String) ++ t) ts) = _
    rw [tf ts (k + 1) _ (Nat.succ_pos k), if_pos h, cd_app, cd_app]
    show cd acc ++ [44, 32] ++ cd t ++ rsS ts = cd acc ++ (44 :: 32 :: (cd t ++ rsS ts))
    simp
theorem cd_list (ts : List Str) : cd (listText ts) = 91 :: (itS ts ++ [93]) := by
  unfold listText
  rw [cd_app]
  cases ts with
  | nil => rfl
  | cons t ts =>
    have e : cd (textFrom 0 "[" (t :: ts)) = 91 :: (cd t ++ rsS ts) := by
      show cd (textFrom 1 (("[" : Str) ++ (if 0 > 0 then ", " else "" : String) ++ t) ts) = _
      rw [tf ts 1 _ (by decide), cd_app, cd_app, if_neg (by decide)]
      show [91] ++ [] ++ cd t ++ rsS ts = _
      simp
    rw [e]
    show 91 :: (cd t ++ rsS ts) ++ [93] = 91 :: ((cd t ++ rsS ts) ++ [93])
    rfl
theorem cd_join : ∀ ts : List Str, cd (Str.join ", " ts) = itS ts
  | [] => rfl
  | [x] => by show cd x = cd x ++ []; simp
  | x :: y :: r => by
    show cd (x ++ (", " : String) ++ Str.join ", " (y :: r)) = cd x ++ (44 :: 32 :: (cd y ++ rsS r))
    rw [cd_app, cd_app, cd_join (y :: r)]
    show cd x ++ [44, 32] ++ (cd y ++ rsS r) = _
    simp
def clo : Nat → List Nat
  | 1 => [44, 41]
  | _ => [41]
theorem cd_tup (ts : List Str) : cd (tupleText ts) = 40 :: (itS ts ++ clo ts.length) := by
  unfold tupleText
  rw [cd_app, cd_app, cd_join]
  show [40] ++ itS ts ++ _ = _
  by_cases h : ts.length = 1
  · rw [h]
    simp [clo]
    rfl
  · have e : (ts.length == 1) = false := by simpa using h
    rw [e]
    have c : clo ts.length = [41] := by
      unfold clo
      split
      · exact absurd ‹_› h
      · rfl
    rw [c]
    simp
    rfl
mutual
/-- data that is plain enough -/
def pln : PyData → Bool
  | .none => true
  | .bool _ => true
  | .int i => decide (0 ≤ i)
  | .str _ => false
  | .list xs => plnAll xs
  | .tuple xs => plnAll xs
  | .dict _ => false
def plnAll : List PyData → Bool
  | [] => true
  | x :: xs => pln x && plnAll xs
end
/-- what may stand behind -/
def stops (a : List Nat) : Prop := ∀ c t, a = c :: t → c = 44 ∨ c = 41 ∨ c = 93
def closer (a : List Nat) : Prop := (∃ t, a = 93 :: t) ∨ (∃ t, a = 41 :: t) ∨ ∃ t, a = 44 :: 41 :: t
theorem closer.stops {a : List Nat} (h : closer a) : stops a := by
  rintro c t rfl
  rcases h with ⟨_, e⟩ | ⟨_, e⟩ | ⟨_, e⟩ <;> cases e <;> simp
def sh (x : PyData) : List Nat := cd x.shown
def its (xs : List PyData) : List Nat := itS (PyData.shownAll xs)
def rss (xs : List PyData) : List Nat := rsS (PyData.shownAll xs)
theorem sh_none : sh .none = [78, 111, 110, 101] := by
  unfold sh
  simp only [PyData.shown]
  rfl
theorem sh_true : sh (.bool true) = [84, 114, 117, 101] := by
  unfold sh
  simp only [PyData.shown]
  rfl
theorem sh_false : sh (.bool false) = [70, 97, 108, 115, 101] := by
  unfold sh
  simp only [PyData.shown]
  rfl
theorem sh_nat (n : Nat) : sh (.int (n : Nat)) = TL.numL n := by
  unfold sh
  simp only [PyData.shown]
  exact TL.tl_num n
theorem sh_list (xs : List PyData) : sh (.list xs) = 91 :: (its xs ++ [93]) := by
  unfold sh
  simp only [PyData.shown]
  exact cd_list _
theorem len_all : ∀ xs : List PyData, (PyData.shownAll xs).length = xs.length
  | [] => by simp [PyData.shownAll]
  | x :: xs => by simp [PyData.shownAll, len_all xs]
theorem sh_tup (xs : List PyData) : sh (.tuple xs) = 40 :: (its xs ++ clo xs.length) := by
  unfold sh
  simp only [PyData.shown]
  rw [cd_tup, len_all]
  rfl
theorem its_nil : its [] = [] := by
  unfold its
  simp only [PyData.shownAll]
  rfl
theorem its_cons (x : PyData) (xs : List PyData) : its (x :: xs) = sh x ++ rss xs := by
  unfold its
  simp only [PyData.shownAll]
  rfl
theorem rss_nil : rss [] = [] := by
  unfold rss
  simp only [PyData.shownAll]
  rfl
theorem rss_cons (x : PyData) (xs : List PyData) : rss (x :: xs) = 44 :: 32 :: (sh x ++ rss xs) := by
  unfold rss
  simp only [PyData.shownAll]
  rfl
/-- how a text begins -/
def heads (x : PyData) (c : Nat) : Prop := match x with
  | .none => c = 78
  | .bool true => c = 84
  | .bool false => c = 70
  | .int _ => 48 ≤ c ∧ c ≤ 57
  | .list _ => c = 91
  | .tuple _ => c = 40
  | _ => False
theorem head_of {x : PyData} (p : pln x = true) : ∃ c t, sh x = c :: t ∧ heads x c := by
  match x, p with
  | .none, _ => exact ⟨_, _, sh_none, rfl⟩
  | .bool true, _ => exact ⟨_, _, sh_true, rfl⟩
  | .bool false, _ => exact ⟨_, _, sh_false, rfl⟩
  | .int i, p =>
    have hi : 0 ≤ i := by simpa [pln] using p
    obtain ⟨n, rfl⟩ := Int.eq_ofNat_of_zero_le hi
    rw [sh_nat]
    cases e : TL.numL n with
    | nil => exact absurd e (TL.numL_ne n)
    | cons c t =>
      have := TL.numL_digits n c (by rw [e]; simp)
      exact ⟨c, t, rfl, this⟩
  | .list xs, _ => exact ⟨_, _, sh_list xs, rfl⟩
  | .tuple xs, _ => exact ⟨_, _, sh_tup xs, rfl⟩
theorem digs {l m : List Nat} {a b : List Nat} (hl : ∀ c ∈ l, 48 ≤ c ∧ c ≤ 57) (hm : ∀ c ∈ m, 48 ≤ c ∧ c ≤ 57) (sa : stops a) (sb : stops b) (e : l ++ a = m ++ b) : l = m ∧ a = b := by
  induction l generalizing m with
  | nil =>
    cases m with
    | nil => exact ⟨rfl, e⟩
    | cons c t =>
      have h1 := hm c (by simp)
      rcases sa c (t ++ b) (by simpa using e) with h | h | h <;> omega
  | cons c t ih =>
    cases m with
    | nil =>
      have h1 := hl c (by simp)
      rcases sb c (t ++ a) (by simpa using e.symm) with h | h | h <;> omega
    | cons d u =>
      have e2 : c :: (t ++ a) = d :: (u ++ b) := e
      injection e2 with e3 e4
      obtain ⟨h1, h2⟩ := ih (fun x hx => hl x (by simp [hx])) (fun x hx => hm x (by simp [hx])) e4
      exact ⟨by rw [e3, h1], h2⟩
theorem heads_of {x y : PyData} {c : Nat} (hx : heads x c) (hy : heads y c) :
    (x = .none ∧ y = .none) ∨ (x = .bool true ∧ y = .bool true) ∨ (x = .bool false ∧ y = .bool false) ∨ (∃ i j, x = .int i ∧ y = .int j) ∨ (∃ xs ys, x = .list xs ∧ y = .list ys) ∨ ∃ xs ys, x = .tuple xs ∧ y = .tuple ys := by
  unfold heads at hx hy
  split at hx <;> split at hy <;> first | omega | (simp; done) | (exact absurd hx id) | (exact absurd hy id) | skip
  all_goals first | exact .inl ⟨rfl, rfl⟩ | exact .inr (.inl ⟨rfl, rfl⟩) | exact .inr (.inr (.inl ⟨rfl, rfl⟩)) | exact .inr (.inr (.inr (.inl ⟨_, _, rfl, rfl⟩))) | exact .inr (.inr (.inr (.inr (.inl ⟨_, _, rfl, rfl⟩)))) | exact .inr (.inr (.inr (.inr (.inr ⟨_, _, rfl, rfl⟩))))
theorem clo_closer (n : Nat) (a : List Nat) : closer (clo n ++ a) := by
  unfold clo
  split
  · exact .inr (.inr ⟨a, rfl⟩)
  · exact .inr (.inl ⟨a, rfl⟩)
theorem rs_stops (xs : List PyData) {c : List Nat} (h : closer c) : stops (rss xs ++ c) := by
  cases xs with
  | nil => rw [rss_nil]; exact h.stops
  | cons x xs =>
    rw [rss_cons]
    rintro d t e
    injection e with e1 e2
    exact .inl e1.symm
mutual
theorem shInj : ∀ (x : PyData), pln x = true → ∀ (y : PyData) (a b : List Nat), pln y = true → stops a → stops b → sh x ++ a = sh y ++ b → x = y ∧ a = b
  | .none, px, y, a, b, py, sa, sb, e => by
    obtain ⟨c, t, ey, hy⟩ := head_of py
    rw [sh_none, ey] at e
    injection e with e1 e2
    rw [← e1] at hy
    rcases heads_of (x := .none) rfl hy with ⟨_, h⟩ | ⟨h, _⟩ | ⟨h, _⟩ | ⟨_, _, h, _⟩ | ⟨_, _, h, _⟩ | ⟨_, _, h, _⟩ <;> try cases h
    rw [sh_none] at ey
    injection ey with _ e3
    rw [← e3] at e2
    exact ⟨rfl, by simpa using e2⟩
  | .bool true, px, y, a, b, py, sa, sb, e => by
    obtain ⟨c, t, ey, hy⟩ := head_of py
    rw [sh_true, ey] at e
    injection e with e1 e2
    rw [← e1] at hy
    rcases heads_of (x := .bool true) rfl hy with ⟨h, _⟩ | ⟨_, h⟩ | ⟨h, _⟩ | ⟨_, _, h, _⟩ | ⟨_, _, h, _⟩ | ⟨_, _, h, _⟩ <;> try cases h
    rw [sh_true] at ey
    injection ey with _ e3
    rw [← e3] at e2
    exact ⟨rfl, by simpa using e2⟩
  | .bool false, px, y, a, b, py, sa, sb, e => by
    obtain ⟨c, t, ey, hy⟩ := head_of py
    rw [sh_false, ey] at e
    injection e with e1 e2
    rw [← e1] at hy
    rcases heads_of (x := .bool false) rfl hy with ⟨h, _⟩ | ⟨h, _⟩ | ⟨_, h⟩ | ⟨_, _, h, _⟩ | ⟨_, _, h, _⟩ | ⟨_, _, h, _⟩ <;> try cases h
    rw [sh_false] at ey
    injection ey with _ e3
    rw [← e3] at e2
    exact ⟨rfl, by simpa using e2⟩
  | .int i, px, y, a, b, py, sa, sb, e => by
    obtain ⟨c, t, ex, hx⟩ := head_of px
    obtain ⟨d, u, ey, hy⟩ := head_of py
    have e' := e
    rw [ex, ey] at e'
    injection e' with e1 e2
    rw [← e1] at hy
    rcases heads_of hx hy with ⟨h, _⟩ | ⟨h, _⟩ | ⟨h, _⟩ | ⟨_, j, _, h⟩ | ⟨_, _, h, _⟩ | ⟨_, _, h, _⟩ <;> try cases h
    obtain ⟨n, rfl⟩ := Int.eq_ofNat_of_zero_le (a := i) (by simpa [pln] using px)
    obtain ⟨m, rfl⟩ := Int.eq_ofNat_of_zero_le (a := j) (by simpa [pln] using py)
    rw [sh_nat, sh_nat] at e
    obtain ⟨h1, h2⟩ := digs (fun c hc => TL.numL_digits n c hc) (fun c hc => TL.numL_digits m c hc) sa sb e
    rw [TL.numL_inj h1]
    exact ⟨rfl, h2⟩
  | .str s, px, _, _, _, _, _, _, _ => by simp [pln] at px
  | .dict s, px, _, _, _, _, _, _, _ => by simp [pln] at px
  | .list xs, px, y, a, b, py, sa, sb, e => by
    obtain ⟨d, u, ey, hy⟩ := head_of py
    have e' := e
    rw [sh_list, ey] at e'
    injection e' with e1 e2
    rw [← e1] at hy
    rcases heads_of (x := .list xs) rfl hy with ⟨h, _⟩ | ⟨h, _⟩ | ⟨h, _⟩ | ⟨_, _, h, _⟩ | ⟨_, ys, _, h⟩ | ⟨_, _, h, _⟩ <;> try cases h
    rw [sh_list, sh_list] at e
    injection e with _ e3
    have e3 : (its xs ++ [93]) ++ a = (its ys ++ [93]) ++ b := e3
    rw [List.append_assoc, List.append_assoc] at e3
    obtain ⟨h1, h2⟩ := itInj xs (by simpa [pln] using px) ys ([93] ++ a) ([93] ++ b) (by simpa [pln] using py) (.inl ⟨a, rfl⟩) (.inl ⟨b, rfl⟩) e3
    rw [h1]
    exact ⟨rfl, by simpa using h2⟩
  | .tuple xs, px, y, a, b, py, sa, sb, e => by
    obtain ⟨d, u, ey, hy⟩ := head_of py
    have e' := e
    rw [sh_tup, ey] at e'
    injection e' with e1 e2
    rw [← e1] at hy
    rcases heads_of (x := .tuple xs) rfl hy with ⟨h, _⟩ | ⟨h, _⟩ | ⟨h, _⟩ | ⟨_, _, h, _⟩ | ⟨_, _, h, _⟩ | ⟨_, ys, _, h⟩ <;> try cases h
    rw [sh_tup, sh_tup] at e
    injection e with _ e3
    have e3 : (its xs ++ clo xs.length) ++ a = (its ys ++ clo ys.length) ++ b := e3
    rw [List.append_assoc, List.append_assoc] at e3
    obtain ⟨h1, h2⟩ := itInj xs (by simpa [pln] using px) ys (clo xs.length ++ a) (clo ys.length ++ b) (by simpa [pln] using py) (clo_closer _ _) (clo_closer _ _) e3
    subst h1
    exact ⟨rfl, List.append_cancel_left h2⟩
theorem itInj : ∀ (xs : List PyData), plnAll xs = true → ∀ (ys : List PyData) (c d : List Nat), plnAll ys = true → closer c → closer d → its xs ++ c = its ys ++ d → xs = ys ∧ c = d
  | [], _, [], c, d, _, _, _, e => by rw [its_nil] at e; exact ⟨rfl, e⟩
  | [], _, y :: ys, c, d, py, hc, hd, e => by
    exfalso
    have py' : pln y = true := by simp [plnAll] at py; exact py.1
    obtain ⟨k, u, ey, hy⟩ := head_of py'
    rw [its_nil, its_cons, ey] at e
    have hk := hc.stops k _ e
    unfold heads at hy
    split at hy <;> omega
  | x :: xs, px, [], c, d, _, hc, hd, e => by
    exfalso
    have px' : pln x = true := by simp [plnAll] at px; exact px.1
    obtain ⟨k, u, ex, hx⟩ := head_of px'
    rw [its_nil, its_cons, ex] at e
    have hk := hd.stops k _ e.symm
    unfold heads at hx
    split at hx <;> omega
  | x :: xs, px, y :: ys, c, d, py, hc, hd, e => by
    have px2 : pln x = true ∧ plnAll xs = true := by simpa [plnAll] using px
    have py2 : pln y = true ∧ plnAll ys = true := by simpa [plnAll] using py
    rw [its_cons, its_cons, List.append_assoc, List.append_assoc] at e
    obtain ⟨h1, h2⟩ := shInj x px2.1 y _ _ py2.1 (rs_stops xs hc) (rs_stops ys hd) e
    obtain ⟨h3, h4⟩ := rsInj xs px2.2 ys c d py2.2 hc hd h2
    rw [h1, h3]
    exact ⟨rfl, h4⟩
theorem rsInj : ∀ (xs : List PyData), plnAll xs = true → ∀ (ys : List PyData) (c d : List Nat), plnAll ys = true → closer c → closer d → rss xs ++ c = rss ys ++ d → xs = ys ∧ c = d
  | [], _, [], c, d, _, _, _, e => by rw [rss_nil] at e; exact ⟨rfl, e⟩
  | [], _, y :: ys, c, d, py, hc, hd, e => by
    exfalso
    rw [rss_nil, rss_cons] at e
    have e : c = 44 :: 32 :: (sh y ++ rss ys ++ d) := by simpa using e
    rcases hc with ⟨t, h⟩ | ⟨t, h⟩ | ⟨t, h⟩ <;> rw [h] at e <;> simp at e
  | x :: xs, px, [], c, d, _, hc, hd, e => by
    exfalso
    rw [rss_nil, rss_cons] at e
    have e : d = 44 :: 32 :: (sh x ++ rss xs ++ c) := by simpa using e.symm
    rcases hd with ⟨t, h⟩ | ⟨t, h⟩ | ⟨t, h⟩ <;> rw [h] at e <;> simp at e
  | x :: xs, px, y :: ys, c, d, py, hc, hd, e => by
    have px2 : pln x = true ∧ plnAll xs = true := by simpa [plnAll] using px
    have py2 : pln y = true ∧ plnAll ys = true := by simpa [plnAll] using py
    rw [rss_cons, rss_cons] at e
    have e : sh x ++ (rss xs ++ c) = sh y ++ (rss ys ++ d) := by simpa using e
    obtain ⟨h1, h2⟩ := shInj x px2.1 y _ _ py2.1 (rs_stops xs hc) (rs_stops ys hd) e
    obtain ⟨h3, h4⟩ := rsInj xs px2.2 ys c d py2.2 hc hd h2
    rw [h1, h3]
    exact ⟨rfl, h4⟩
end
/-- unlike data have unlike texts -/
theorem shown_inj {x y : PyData} (px : pln x = true) (py : pln y = true) (h : x.shown = y.shown) : x = y :=
  (shInj x px y [] [] py (fun _ _ z => by cases z) (fun _ _ z => by cases z) (by unfold sh; rw [h])).1
end ShX
/-! t[::-1], t a tuple; x in t, items of any depth -/
namespace HT
open PySem PyProof.Rows
open PySem.SeqAt
open PySem.AutoSeq1 (wpAny_loadPart')
open PySem.MeetsSeq PySem.MeetsSeq2 PySem.MeetsSeq3
section
variable {prog : Program} {w : World} {A : Around} {E : Value → Shared → Prop} {s : Shared}
theorem adjust_rev (n : Nat) : Builtin.Slice.sliceAdjust none none (-1) (n : Int) = ((n : Int) - 1, -1) := by
  unfold Builtin.Slice.sliceAdjust
  rfl
theorem places_rev (n : Nat) : Builtin.Slice.slicePlaces ((n : Int) - 1) (-1) (-1) = n := by
  unfold Builtin.Slice.slicePlaces
  rw [if_neg (by decide)]
  by_cases h : (n : Int) - 1 > -1
  · rw [if_pos h]
    have : -(-1 : Int) = 1 := rfl
    rw [this, Int.ediv_one]
    omega
  · rw [if_neg h]
    omega
theorem sliceApplied_rev {sl : Addr} {vl vu vs : Value} {n : Nat} {Q : Int × Int × Nat → Shared → Prop} (hs : s.heap.IsSliceOf sl vl vu vs) (pl : IsPart vl none) (pu : IsPart vu none) (ps : IsPart vs (some (-1)))
    (h : Q ((n : Int) - 1, -1, n) s) : wpAny (model prog w) A (Builtin.Slice.sliceApplied (.ref sl) (pure (n : Int))) Q E s := by
  obtain ⟨os, hos, hcs, hds⟩ := id hs
  unfold Builtin.Slice.sliceApplied Builtin.Slice.sliceFields
  refine wpAny_bind (wpAny_bind (wpAny_field hos hds (x := vl) rfl (wpAny_bind (wpAny_field hos hds (x := vu) rfl (wpAny_bind (wpAny_field hos hds (x := vs) rfl (wpAny_pure ?_)))))))
  refine wpAny_bind (slicePart_ ps ?_)
  show wpAny _ _ (if ((-1 : Int) == 0) = true then _ else _) _ _ s
  rw [if_neg (by decide)]
  refine wpAny_bind (slicePart_ pl (wpAny_bind (slicePart_ pu (wpAny_bind (wpAny_pure ?_)))))
  show wpAny _ _ (match Builtin.Slice.sliceAdjust none none (-1) (n : Int) with | (lo, hi) => pure (lo, (-1 : Int), Builtin.Slice.slicePlaces lo hi (-1))) _ _ s
  rw [adjust_rev n]
  show wpAny _ _ (pure ((n : Int) - 1, (-1 : Int), Builtin.Slice.slicePlaces ((n : Int) - 1) (-1) (-1))) _ _ s
  rw [places_rev]
  exact wpAny_pure h
theorem fm_congr {α β : Type} {f g : α → Option β} : ∀ {l : List α}, (∀ x ∈ l, f x = g x) → l.filterMap f = l.filterMap g
  | [], _ => rfl
  | x :: l, h => by
    rw [List.filterMap_cons, List.filterMap_cons, h x (by simp), fm_congr fun y hy => h y (by simp [hy])]
theorem pick_rev (xs : Array Value) : ((List.range xs.size).filterMap fun (m : Nat) => xs[((xs.size : Int) - 1 + (m : Int) * (-1)).toNat]?).toArray = xs.toList.reverse.toArray := by
  have e : ((List.range xs.size).filterMap fun (m : Nat) => xs[((xs.size : Int) - 1 + (m : Int) * (-1)).toNat]?) = ((List.range xs.size).map fun m => xs.size - 1 - m).filterMap (xs[·]?) := by
    rw [List.filterMap_map]
    refine fm_congr fun m hm => ?_
    have hm := List.mem_range.mp hm
    have : ((xs.size : Int) - 1 + (m : Int) * (-1)).toNat = xs.size - 1 - m := by omega
    rw [this]
    rfl
  rw [e, PySem.W.krv_range, List.filterMap_reverse, PySem.W.krv_all]
theorem getItem_tuple_rev {t sl : Addr} {items : Array Value} {vl vu vs : Value} {Q : Value → Shared → Prop} (ht : IsTup s.heap t items) (hs : s.heap.IsSliceOf sl vl vu vs) (pl : IsPart vl none) (pu : IsPart vu none) (ps : IsPart vs (some (-1)))
    (h : Q (.ref s.heap.objs.size) { s with heap := s.heap.push { cls := .type "tuple", data := .seq items.toList.reverse.toArray } })
    (hsz : items.size ≤ sizeLine) : wpAny (model prog w) A (getItem (.ref t) (.ref sl)) Q E s := by
  have htake : sizeOk (.seq items.toList.reverse.toArray) := by
    show items.toList.reverse.toArray.size ≤ sizeLine
    rw [List.size_toArray, List.length_reverse, Array.length_toList]
    omega
  obtain ⟨os, hos, hcs, hds⟩ := id hs
  have hTs : s.TypeIs (.ref sl) "slice" := ⟨os, hos, hcs⟩
  unfold getItem
  try with_reducible refine wpAny_holding ?_
  first | refine wpAny_bind (wpAny_pure ?_) | skip
  refine wpAny_bind (wpAny_sequenceKey ht.typeIs (by decide) ?_)
  refine wpAny_bind (wpAny_callSpecial?_slot (name := Str.ofString "__getitem__") ht.typeIs PyProof.Rows.slot_tuple_getitem
    (wpAny_call_entry PyProof.Rows.slot_tuple_getitem ht.typeIs entry_tuple_getitem ?_ (args_tuple_getitem _ _)))
  show wpAny _ _ (Builtin.Tuple.tupleItemsOf (.ref t) >>= _) _ _ s
  refine wpAny_bind (tupleItemsOf_ ht ?_)
  refine wpAny_bind (wpAny_typeOf hTs ?_)
  rw [if_pos (by decide)]
  refine wpAny_bind (sliceApplied_rev hs pl pu ps ?_)
  have hno : ¬ ((((items.size : Int) - 1) == 0 && (-1 : Int) == 1 && items.size == items.size) = true) := by
    intro q
    rw [Bool.and_eq_true, Bool.and_eq_true] at q
    exact absurd q.1.2 (by decide)
  show wpAny _ _ (if (((items.size : Int) - 1) == 0 && (-1 : Int) == 1 && items.size == items.size) = true then _ else _) _ _ s
  rw [if_neg hno, pick_rev]
  first
    | exact wpAny_bind (m := Builtin.Tuple.tupleExact _) (wpAny_newObj_type (wpAny_pure ⟨_, rfl, wpAny_pure h⟩) htake)
    | exact wpAny_bind (m := Builtin.Tuple.tupleExact _) (wpAny_newObj_type (wpAny_bind (wpAny_pure (wpAny_pure ⟨_, rfl, wpAny_pure h⟩))) htake)
    | exact wpAny_bind (wpAny_bind (m := Builtin.Tuple.tupleExact _) (wpAny_newObj_type (wpAny_pure (wpAny_pure ⟨_, rfl, wpAny_pure h⟩)) htake))
    | exact wpAny_bind (wpAny_bind (m := Builtin.Tuple.tupleExact _) (wpAny_newObj_type (wpAny_pure ⟨_, rfl, wpAny_pure h⟩) htake))
end
end HT
namespace L2
open PySem PySem.Spec PyProof.Rows
section
variable {X : Cx}
def tRevT (K : PySem.W.Frag) (te : TE) : TE := fun σ H Q => te σ H fun x H1 => ∃ a xs, x = .ref a ∧ SqT K H1 a xs ∧ ∀ p, H1 p = none → Q (.ref p) (upd H1 p (.tup xs.reverse))
theorem pe_revT {e : Expr} {te : TE} {k : Nat} {p1 p2 p3 pos : Pos} (he : PE X e te) : PE X (.Subscript e (.Slice none none (some (.UnaryOp .USub (.Constant (.int 1) k p1) p2)) p3) pos) (tRevT X.K te) := by
  refine ⟨fun pins s σ H Q I h => ?_⟩
  refine Subscript_ (thn (he.run pins s σ H _ I h) fun v s1 ⟨x, H1, I1, r1, q1⟩ => ?_)
  obtain ⟨a, xs, ex, hx, q⟩ := q1
  subst ex
  cases r1
  have hst : PO X (some (.UnaryOp .USub (.Constant (.int 1) k p1) p2)) (tPart (tUn (rU fun i => .int (-i)) (tC (.int 1)))) := po_some (pe_un un_neg pe_int)
  refine wpAny_Slice (thn (po_none.run pins s1 σ H1 (fun o H2 => o = none ∧ H2 = H1) I1 ⟨rfl, rfl⟩) fun vl s2 ⟨l, H2, I2, pl, el, e2⟩ => ?_)
  subst el e2
  refine thn (po_none.run pins s2 σ H2 (fun o H3 => o = none ∧ H3 = H2) I2 ⟨rfl, rfl⟩) fun vu s3 ⟨u, H3, I3, pu, eu, e3⟩ => ?_
  subst eu e3
  refine thn (hst.run pins s3 σ H3 (fun o H4 => o = some (-1) ∧ H4 = H3) I3 ⟨1, rfl, -1, rfl, rfl, rfl⟩) fun vs s4 ⟨o, H4, I4, ps, eo, e4⟩ => ?_
  subst eo e4
  have I5 : Inv X pins σ H4 { s4 with heap := s4.heap.push { cls := .type "slice", data := .fields #[vl, vu, vs] } } := I4.kept (t' := s4.toks) fun b ob q => Heap.get?_push_of_some _ q
  obtain ⟨its, r, ht, hz⟩ := I5.tuple hx
  have hlen : its.toArray.size = xs.length := by rw [List.size_toArray]; exact r.length.symm
  show wpAny (model X.prog X.w) X.A (subscriptTail e (.Slice none none (some (.UnaryOp .USub (.Constant (.int 1) k p1) p2)) p3) (.ref a) (.ref s4.heap.objs.size)) (EP X pins σ Q) X.xe { s4 with heap := s4.heap.push { cls := .type "slice", data := .fields #[vl, vu, vs] } }
  refine tail_any (ops := [.ref a, .ref s4.heap.objs.size]) ht.typeIs (PyProof.Rows.slot_tuple_getitem.lookup) ?_ (by with_unfolding_all rfl)
  refine HT.getItem_tuple_rev ht (Heap.IsSliceOf.new _ vl vu vs) pl pu ps ?_ (by rw [hlen]; exact hz)
  refine ⟨.ref _, _, I5.laid (t' := s4.toks) (o := .tup xs.reverse) (fun b ob q => Heap.get?_push_of_some _ q) (Nat.le_refl _) ?_, rfl, q _ (I5.hok.fresh (Nat.le_refl _))⟩
  exact ⟨by rw [List.length_reverse]; exact hz, _, r.reverse, IsTup.new _ _⟩
/-! ### x in t -/
def rInDT (K : PySem.W.Frag) : R2 := fun x y H Q => ∃ d ds, Dp K H x d ∧ Dp K H y (.tuple ds) ∧ SeqAt.shaped d = true ∧ SeqAt.shaped (.tuple ds) = true ∧ Q (.bl (ds.any fun z => PyData.eqv z d)) H
def rNotInDT (K : PySem.W.Frag) : R2 := fun x y H Q => ∃ d ds, Dp K H x d ∧ Dp K H y (.tuple ds) ∧ SeqAt.shaped d = true ∧ SeqAt.shaped (.tuple ds) = true ∧ Q (.bl (!ds.any fun z => PyData.eqv z d)) H
theorem op_inDT (hu : X.A.units + 65 < cLine) : OpR X (compareOp .In) (rInDT X.K) := by
  intro pins s σ H x y v u Q I rx ry h
  obtain ⟨d, ds, hd, he, sd, se, q⟩ := h
  obtain ⟨as, r1⟩ := Dp.reads I d x v hd rx
  obtain ⟨bs, r2⟩ := Dp.reads I (.tuple ds) y u he ry
  exact SeqAt.in_tuple_reads r2 r1 (SeqAt.canLay_of_shaped se) (SeqAt.canLay_of_shaped sd) (room_in_shaped sd hu) ⟨.bl _, H, I, rfl, q⟩
theorem op_notInDT (hu : X.A.units + 65 < cLine) : OpR X (compareOp .NotIn) (rNotInDT X.K) := by
  intro pins s σ H x y v u Q I rx ry h
  obtain ⟨d, ds, hd, he, sd, se, q⟩ := h
  obtain ⟨as, r1⟩ := Dp.reads I d x v hd rx
  obtain ⟨bs, r2⟩ := Dp.reads I (.tuple ds) y u he ry
  exact SeqAt.notIn_tuple_reads r2 r1 (SeqAt.canLay_of_shaped se) (SeqAt.canLay_of_shaped sd) (room_in_shaped sd hu) ⟨.bl _, H, I, rfl, q⟩
end
end L2
/-! what stands when a lambda was made: all but the tables -/
namespace K14
open PySem PySem.Spec PyProof.Rows L2
section
variable {H H' : Hp}
abbrev XN := LamX.ExtN
theorem XN.tup (s : LamX.ExtN H H') {b : Addr} {xs : List V} (e : H b = some (.tup xs)) : H' b = some (.tup xs) := s b _ e fun _ z => by cases z
theorem XN.lst (s : LamX.ExtN H H') {b : Addr} {xs : List V} (e : H b = some (.lst xs)) : H' b = some (.lst xs) := s b _ e fun _ z => by cases z
theorem Ex.ext {a : Addr} {xs : List V} (t : Ex H a xs) (s : LamX.ExtN H H') : Ex H' a xs := let ⟨o, d, c, e⟩ := t; ⟨o, d, c, s _ _ e fun _ z => by cases z⟩
theorem Tp.ext {a : Addr} {xs : List V} (t : Tp H a xs) (s : LamX.ExtN H H') : Tp H' a xs := t.imp (XN.tup s) (fun e => e.ext s)
theorem LT.ext {r : Addr} {ls : List (List Nat)} (t : LT H r ls) (s : LamX.ExtN H H') : LT H' r ls := let ⟨as, e, l, q⟩ := t; ⟨as, XN.tup s e, l, fun i a x e1 e2 => (q i a x e1 e2).ext s⟩
theorem LX.ext {r : Addr} {ls : List (List Nat)} (t : LX H r ls) (s : LamX.ExtN H H') : LX H' r ls := let ⟨as, e, l, q⟩ := t; ⟨as, XN.tup s e, l, fun i a x e1 e2 => (q i a x e1 e2).ext s⟩
theorem RT.ext {r : Addr} {ls : List (List Nat)} (t : RT H r ls) (s : LamX.ExtN H H') : RT H' r ls := let ⟨as, e, l, q⟩ := t; ⟨as, XN.tup s e, l, fun i a x e1 e2 => XN.tup s (q i a x e1 e2)⟩
theorem WAt.ext {C wi : Addr} {ns ls : List (List Nat)} (W : WAt C H wi ns ls) (s : LamX.ExtN H H') : WAt C H' wi ns ls := by
  obtain ⟨dx, n, l, r, e1, e2, e3, e4⟩ := W.ex
  exact ⟨W.n60, W.nok, W.ok, dx, n, l, r, s _ _ e1 (fun _ z => by cases z), XN.tup s e2, e3.ext s, e4.ext s⟩
theorem Src.ext {h l : Addr} (t : Src H h l) (s : LamX.ExtN H H') : Src H' h l := by
  obtain ⟨cs, z, a, b, r⟩ := t.ex
  exact ⟨cs, z, XN.lst s a, XN.lst s b, r⟩
theorem xn_of (s : Same H H') : LamX.ExtN H H' := LamX.ExtN.of s
/-- a list stays a list of its own: the tables stay too -/
theorem Tabs.put {T : List (Addr × Str)} {p : Addr} {xs : List V} {o : HO} (t : LamX.Tabs T H) (e : H p = some (.lst xs)) : LamX.Tabs T (upd H p o) := fun q hq => by
  obtain ⟨ps, h1, h2, h3⟩ := t q hq
  refine ⟨ps, ?_, h2, fun pos cv hc => ?_⟩
  · rw [upd_ne fun z => by rw [z, e] at h1; cases h1]
    exact h1
  · obtain ⟨c, e1, e2⟩ := h3 pos cv hc
    refine ⟨c, e1, ?_⟩
    rw [upd_ne fun z => by rw [z, e] at e2; cases e2]
    exact e2
theorem Tabs.bar {T : List (Addr × Str)} {h l : Addr} (t : LamX.Tabs T H) (s : Src H h l) (b : Bar h l H H') : LamX.Tabs T H' := fun q hq => by
  obtain ⟨ps, h1, h2, h3⟩ := t q hq
  refine ⟨ps, ?_, h2, fun pos cv hc => ?_⟩
  · obtain ⟨n1, n2⟩ := s.ne h1 fun _ z => by cases z
    exact b _ _ n1 n2 h1
  · obtain ⟨c, e1, e2⟩ := h3 pos cv hc
    obtain ⟨n1, n2⟩ := s.ne e2 fun _ z => by cases z
    exact ⟨c, e1, b _ _ n1 n2 e2⟩
end
/-- all but the source and the tables stands -/
def BX (h l : Addr) (H H' : Hp) : Prop := ∀ b o, b ≠ h → b ≠ l → H b = some o → (∀ ps, o ≠ .tbl ps) → H' b = some o
theorem BX.bar {h l : Addr} {H H' : Hp} (b : Bar h l H H') : BX h l H H' := fun c o n1 n2 e _ => b c o n1 n2 e
theorem BX.xn {h l : Addr} {H H' : Hp} (b : LamX.ExtN H H') : BX h l H H' := fun c o _ _ e z => b c o e z
theorem BX.same {h l : Addr} {H H' : Hp} (b : Same H H') : BX h l H H' := fun c o _ _ e _ => b c o e
theorem BX.trans {h l : Addr} {H H1 H2 : Hp} (a : BX h l H H1) (b : BX h l H1 H2) : BX h l H H2 := fun c o n1 n2 e z => b c o n1 n2 (a c o n1 n2 e z) z
theorem BX.tup {h l b : Addr} {H H' : Hp} {xs : List V} (s : BX h l H H') (sr : Src H h l) (e : H b = some (.tup xs)) : H' b = some (.tup xs) := by
  obtain ⟨n1, n2⟩ := sr.ne e fun _ z => by cases z
  exact s _ _ n1 n2 e fun _ z => by cases z
theorem BX.lst {h l b : Addr} {H H' : Hp} {xs : List V} (s : BX h l H H') (n1 : b ≠ h) (n2 : b ≠ l) (e : H b = some (.lst xs)) : H' b = some (.lst xs) := s _ _ n1 n2 e fun _ z => by cases z
theorem Ex.bx {H H' : Hp} {h l a : Addr} {xs : List V} (t : Ex H a xs) (sr : Src H h l) (s : BX h l H H') : Ex H' a xs := by
  obtain ⟨u, d, c, e⟩ := t
  obtain ⟨n1, n2⟩ := sr.ne e (fun _ z => by cases z)
  exact ⟨u, d, c, s a _ n1 n2 e fun _ z => by cases z⟩
theorem Tp.bx {H H' : Hp} {h l a : Addr} {xs : List V} (t : Tp H a xs) (sr : Src H h l) (s : BX h l H H') : Tp H' a xs := t.imp (fun e => s.tup sr e) (fun e => e.bx sr s)
theorem LT.bx {H H' : Hp} {h l r : Addr} {ls : List (List Nat)} (t : LT H r ls) (sr : Src H h l) (s : BX h l H H') : LT H' r ls := let ⟨as, e, le, q⟩ := t; ⟨as, s.tup sr e, le, fun i a x e1 e2 => (q i a x e1 e2).bx sr s⟩
theorem LX.bx {H H' : Hp} {h l r : Addr} {ls : List (List Nat)} (t : LX H r ls) (sr : Src H h l) (s : BX h l H H') : LX H' r ls := let ⟨as, e, le, q⟩ := t; ⟨as, s.tup sr e, le, fun i a x e1 e2 => (q i a x e1 e2).bx sr s⟩
theorem RT.bx {H H' : Hp} {h l r : Addr} {ls : List (List Nat)} (t : RT H r ls) (sr : Src H h l) (s : BX h l H H') : RT H' r ls := let ⟨as, e, le, q⟩ := t; ⟨as, s.tup sr e, le, fun i a x e1 e2 => s.tup sr (q i a x e1 e2)⟩
theorem WAt.bx {C wi h l : Addr} {H H' : Hp} {ns ls : List (List Nat)} (W : WAt C H wi ns ls) (sr : Src H h l) (s : BX h l H H') : WAt C H' wi ns ls := by
  obtain ⟨dx, n, li, r, e1, e2, e3, e4⟩ := W.ex
  obtain ⟨n1, n2⟩ := sr.ne e1 fun _ z => by cases z
  exact ⟨W.n60, W.nok, W.ok, dx, n, li, r, s _ _ n1 n2 e1 (fun _ z => by cases z), s.tup sr e2, e3.bx sr s, e4.bx sr s⟩
theorem SgT.bx {H H' : Hp} {h l : Addr} {us : List Addr} {ls : List (List Nat)} {row : List Nat} (t : SgT H us ls row) (sr : Src H h l) (s : BX h l H H') : SgT H' us ls row := ⟨t.1, fun j u e => s.tup sr (t.2 j u e)⟩
/-! ### repr of any value -/
abbrev rReprV (K : PySem.W.Frag) : List V → Hp → VK → Prop := fun xs H Q => ∃ v d, xs = [v] ∧ Dp K H v d ∧ (∀ i, v = .int i → i.natAbs < 1048576) ∧ d.showable = true ∧ d.hasDict = false ∧ d.depth ≤ 60 ∧ d.shown.length ≤ sizeLine ∧ Q (.str d.shown) H
theorem call_reprV {X : Cx} (hg : X.A.guards = some []) (hu : X.A.units + 64 < cLine) : CallR X (.builtin "repr") (rReprV X.K) := by
  intro pins s σ H xs us Q I r h
  obtain ⟨v, d, rfl, hd, hi, hs, hn, hz, hl, q⟩ := h
  obtain ⟨u, rfl, ru⟩ := vals1 r
  cases v with
  | ref a =>
    obtain ⟨as, rd⟩ := Dp.reads I d _ _ hd ru
    cases ru
    exact repr_of_reads' rd hs (PyData.noDict_hsm hn) hg (by omega) (fun _ _ e => e) (fun h' t tk keep => ⟨.str d.shown, H, I.kept keep, ⟨t, rfl⟩, q⟩) hl
  | non =>
    cases hd
    cases ru
    have e : (PyData.none).shown = Str.ofString "None" := by
      simp only [PyData.shown]
    rw [e] at q
    exact PySem.P.repr_of_none ⟨.str (Str.ofString "None"), H, I.tok _, ⟨_, rfl⟩, q⟩
  | bl b =>
    cases hd
    cases ru
    have e : (PyData.bool b).shown = if b = true then Str.ofString "True" else Str.ofString "False" := by
      cases b <;> simp only [PyData.shown] <;> rfl
    rw [e] at q
    exact PySem.P.repr_of_bool ⟨.str (if b = true then Str.ofString "True" else Str.ofString "False"), H, I.tok _, ⟨_, rfl⟩, q⟩
  | int i =>
    cases hd
    obtain ⟨t, rfl⟩ := ru
    have h := hi i rfl
    have e : (PyData.int i).shown = Str.ofString (toString i) := by simp only [PyData.shown]
    rw [e] at q
    refine PySem.P.repr_of_int ?_ ⟨.str (Str.ofString (toString i)), H, I.tok _, ⟨_, rfl⟩, q⟩
    by_cases z : i.natAbs = 0
    · rw [z]
      decide
    · have : i.natAbs.log2 < 20 := (Nat.log2_lt z).mpr (by omega)
      omega
  | str x =>
    cases hd
    obtain ⟨t, rfl⟩ := ru
    have e : (PyData.str x).shown = reprText x := by simp only [PyData.shown]
    rw [e] at hl q
    exact PySem.P.repr_of_str ⟨.str (reprText x), H, I.tok _, ⟨_, rfl⟩, q⟩ hl
  | _ => cases hd
/-! ### data -/
theorem RpI.up {d : PyData} {m B m' B' : Nat} (r : RpI d m B) (h1 : m ≤ m') (h2 : B ≤ B') : RpI d m' B' := ⟨r.sh, r.nd, Nat.le_trans r.dp h1, Nat.le_trans r.ln h2⟩
theorem rpI_dH {hs : List (Option Nat)} (l : hs.length ≤ 60) (h : ∀ j, some j ∈ hs → j < 60) : RpI (dH hs) 1 1400 := by
  have := rp_tup (xs := hs.map fun o => match o with | none => PyData.none | some j => .int (j : Nat)) (m := 0) (B := 20) fun x hx => by
    obtain ⟨o, ho, rfl⟩ := List.mem_map.mp hx
    cases o with
    | none => exact rp_none
    | some j => exact rp_int (Nat.lt_of_lt_of_le (h j ho) (by decide))
  refine ⟨this.sh, this.nd, this.dp, Nat.le_trans this.ln ?_⟩
  rw [List.length_map]
  omega
theorem rp_told : RpI (.str "told") 0 20 := ⟨by simp only [PyData.showable], by simp only [PyData.hasDict], by simp only [PyData.depth]; omega, by simp only [PyData.shown]; decide +kernel⟩
theorem rp_refd : RpI (.str "refused") 0 20 := ⟨by simp only [PyData.showable], by simp only [PyData.hasDict], by simp only [PyData.depth]; omega, by simp only [PyData.shown]; decide +kernel⟩
theorem rp_askr : RpI (.str "asker") 0 20 := ⟨by simp only [PyData.showable], by simp only [PyData.hasDict], by simp only [PyData.depth]; omega, by simp only [PyData.shown]; decide +kernel⟩
def dTH (hs : List (Option Nat)) : PyData := .tuple [.str "told", dH hs]
theorem dp_dTH {K : PySem.W.Frag} {H : Hp} {a c : Addr} {hs : List (Option Nat)} (e : H a = some (.tup [.str "told", .ref c])) (ec : H c = some (.tup (VH hs))) : Dp K H (.ref a) (dTH hs) := .tup (SqT.of e) (.cons (.str _) (.cons (dp_dH ec) .nil))
theorem rp_dTH {hs : List (Option Nat)} (l : hs.length ≤ 60) (h : ∀ j, some j ∈ hs → j < 60) : Rp (dTH hs) := rp_of (rp_tup (xs := [.str "told", dH hs]) (m := 1) (B := 1400) fun x hx => by
    simp only [List.mem_cons, List.not_mem_nil, or_false] at hx
    rcases hx with rfl | rfl
    · exact rp_told.up (by decide) (by decide)
    · exact rpI_dH l h) (by decide) (by show (1400 + 2) * 2 + 10 ≤ 1000000; decide)
def dRA : PyData := .tuple [.str "refused", .str "asker"]
theorem dp_dRA {K : PySem.W.Frag} {H : Hp} {a : Addr} (e : H a = some (.tup [.str "refused", .str "asker"])) : Dp K H (.ref a) dRA := .tup (SqT.of e) (.cons (.str _) (.cons (.str _) .nil))
theorem sh_dRA : SeqAt.shaped dRA = true := by decide +kernel
theorem rp_dRA : Rp dRA := rp_of (rp_tup (xs := [.str "refused", .str "asker"]) (m := 0) (B := 20) fun x hx => by
    simp only [List.mem_cons, List.not_mem_nil, or_false] at hx
    rcases hx with rfl | rfl
    · exact rp_refd
    · exact rp_askr) (by decide) (by show (20 + 2) * 2 + 10 ≤ 1000000; decide)
end K14
namespace K14
open PySem PySem.Spec PyProof.Rows L2
abbrev lamQ (x : Str) : Str := (x ++ ".<locals>.") ++ "<lambda>"
theorem iteP {p : Bool} {A B : Prop} (h1 : p = true → A) (h2 : p = false → B) : if p = true then A else B := by
  cases p with
  | true => rw [if_pos rfl]; exact h1 rfl
  | false => rw [if_neg (by decide)]; exact h2 rfl
def spLAnyR (C : Addr) (T : List (Addr × Str)) : Sp := fun vs H Q _ => ∃ (h l wi a : Addr) (ns ls : List (List Nat)), vs = [.ref h, .ref wi, .ref a] ∧ Src H h l ∧ WAt C H wi ns ls ∧ LX H a ls ∧ LamX.Tabs T H ∧
  ∀ H', Src H' h l → BX h l H H' → LamX.Tabs T H' → Q (.bl true) H'
theorem spLAnyR_len (C : Addr) (T : List (Addr × Str)) : ∀ vs H Q E, spLAnyR C T vs H Q E → vs.length = (["heap", "wishes", "lists"] : List Str).length := by
  rintro vs H Q E ⟨h, l, wi, a, ns, ls, rfl, _⟩
  rfl
theorem scAnyR : FnScope ["heap", "wishes", "lists", "holds", "some", "person", "told", "row"] ["heap", "wishes", "lists"] (defScope sLAnyRight) := ⟨rfl, rfl, rfl, by decide +kernel, rfl, by decide +kernel, by decide +kernel⟩
theorem holds_lt {ls : List (List Nat)} (ok : ListsOk ls.length ls) {hs : List (Option Nat)} (ho : HoldsOk ls hs) : ∀ j, some j ∈ hs → j < ls.length := fun j hj => by
  obtain ⟨p, hp, e⟩ := List.mem_iff_getElem.mp hj
  have : ha hs p = some j := by
    unfold ha
    rw [List.getD_eq_getElem?_getD, List.getElem?_eq_getElem hp, e]
    rfl
  obtain ⟨h1, h2⟩ := ho.on p j this
  exact (ok.mate h1 h2).1
theorem rp_holds {ls : List (List Nat)} (ok : ListsOk ls.length ls) (n60 : ls.length ≤ 60) {hs : List (Option Nat)} (ho : HoldsOk ls hs) : Rp (dTH hs) := rp_dTH (by rw [ho.len]; exact n60) fun j hj => Nat.lt_of_lt_of_le (holds_lt ok ho j hj) n60
theorem rp_holds0 {ls : List (List Nat)} (ok : ListsOk ls.length ls) (n60 : ls.length ≤ 60) {hs : List (Option Nat)} (ho : HoldsOk ls hs) : Rp (dH hs) := rp_dH (by rw [ho.len]; exact n60) fun j hj => Nat.lt_of_lt_of_le (holds_lt ok ho j hj) n60
theorem askers_lt {ls : List (List Nat)} {hs : List (Option Nat)} : ∀ p ∈ askers ls hs, p < ls.length := fun p hp => List.mem_range.mp (List.mem_filter.mp hp).1
theorem askers_len {ls : List (List Nat)} {hs : List (Option Nat)} : (askers ls hs).length ≤ ls.length := by
  unfold askers
  have := List.length_filter_le (fun p => !(leftL ls hs p).isEmpty && !inV (.int (p : Nat)) (VH hs)) (List.range ls.length)
  rw [List.length_range] at this
  exact this
theorem rp_askers {ls : List (List Nat)} (n60 : ls.length ≤ 60) {hs : List (Option Nat)} : Rp (dI (askers ls hs)) := rp_dI' (Nat.le_trans askers_len n60) fun j hj => Nat.lt_of_lt_of_le (askers_lt j hj) n60
section
variable {P : Program} {w : World} {K : PySem.W.Frag} {mg : Str → Option Value} {base : Heap} {T : List (Addr × Str)}
set_option maxHeartbeats 1000000 in
theorem ok_any_right {f f1 f2 f3 f4 f5 f6 g c PT C CR CM fI : Addr} {fd d1 d2 d3 d4 d5 d6 gd : FuncData} {k : Nat} (F : Fun K "_law_any_right" "_law_any_right" sLAnyRight f fd) (hc : fd.code = .ref c) (G : HeardT K mg g gd) (ET : ErrT K mg CR CM fI) (TB : TabT T base mg c PT (lamQ "_law_any_right"))
    (Cn : Has P w K mg base (k + 2) "_law_can" ["lists", "holds"] spLCan f1 d1) (Bd : Has P w K mg base (k + 2) "_law_behind" ["lists", "holds", "person"] spLBehind f2 d2) (As : Has P w K mg base (k + 2) "askers" ["wishes", "holds"] (spAskers C) f3 d3) (Ao : HasX P w K mg base (L2.CX P w) k "asked_once" ["wishes", "holds", "person"] (spAskedOnceU C CR) f4 d4)
    (Dr : Has P w K mg base (k + 2) "_law_draw" ["heap", "many"] spDraw f5 d5) (Pk : Has P w K mg base (k + 2) "_law_pick" ["heap", "some"] spPick f6 d6)
    (mis : mg "isinstance" = none) (mt : mg "tuple" = none) (ml : mg "len" = none) (mrg : mg "range" = none) (mrp : mg "repr" = none) : RunG P w K mg base (k + 3) f fd ["heap", "wishes", "lists"] (spLAnyR C T) := by
  refine okGC F hc scAnyR (spLAnyR_len C T) (fun A outer s H vs Q E hA hr h => ?_)
  obtain ⟨h, l, wi, a, ns, ls, rfl, src, W, lx, tb, q⟩ := h
  refine ⟨_, pss_cons (ps_set (i := 3) scAnyR.nd rfl (.inr rfl) (pe_callTy call_tuple_of (by rfl) mt (by decide +kernel) (pa_cons (pe_lc (own := [("row", 7)]) (g := gName 7) (tt := tYes) (te := tIf (tOr (tTest (tOp (rEqD K) (tVar 7) (tTup tNil))) (tTest (tOp rEq (tCall spDraw [] E0 (tCons (tVar 0) (tCons (tC (.int 3)) tNil))) (tC (.int 0))))) (tC .non) (tCall spPick [] E0 (tCons (tVar 0) (tCons (tVar 7) tNil)))) rfl scAnyR.nd (pi_tup (pv 2))
          (blkOk_by (own := [("row", 7)]) (N := ["heap", "wishes", "lists", "holds", "some", "person", "told", "row"]) (sc := defScope sLAnyRight) (by decide +kernel)) (fun _ _ _ _ _ => (pg_name (i := 7) scAnyR.nd rfl (Or.inl rfl))) (fun _ _ _ _ _ => pts_nil)
          (fun _ _ _ _ _ => (pe_ifExp (PW.pt (pw_or (pt_cmpR (op_eqD hr.units) (pv 7) (pe_tup pa_nil) (nomark _)) (pw_or1 (pt_cmpR op_eq (pe_call Dr.ok hr rfl Dr.m Dr.k Dr.b .nil pass0 (pa_cons (pv 0) (pa_cons pe_int pa_nil))) pe_int (nomark _))))) pe_non (pe_call Pk.ok hr rfl Pk.m Pk.k Pk.b .nil pass0 (pa_cons (pv 0) (pa_cons (pv 7) pa_nil)))))) pa_nil)))
      (pss_cons (ps_set (i := 4) scAnyR.nd rfl (.inl rfl) (pe_call Cn.ok hr rfl Cn.m Cn.k Cn.b .nil pass0 (pa_cons (pv 2) (pa_cons (pv 3) pa_nil))))
      (pss_cons (ps_if (pt_cmpR op_ne (pe_callB (call_repr hA hr.units) (by rfl) mrp (by decide +kernel) (pa_cons (pe_call As.ok hr rfl As.m As.k As.b .nil pass0 (pa_cons (pv 1) (pa_cons (pv 3) pa_nil))) pa_nil)) (pe_callB (call_repr hA hr.units) (by rfl) mrp (by decide +kernel) (pa_cons (pv 4) pa_nil)) (nomark _)) (pss_one (ps_ret pe_bl)) pss_nil)
      (pss_cons (ps_for PassesOwn.never rfl (pi_range1 rfl mrg (pa_cons (pe_callB call_len_seq (by rfl) ml PySem.boot_len (pa_cons (pv 2) pa_nil)) pa_nil)) (pg_name (i := 5) scAnyR.nd rfl (.inr rfl))
      (pss_cons (ps_set (i := 6) scAnyR.nd rfl (.inl rfl) (pe_heard G ET mis rfl TB rfl hr (LamX.lamS_by (sc := defScope sLAnyRight) (by decide +kernel)) rfl (fun _ _ _ _ _ => rfl) (fun _ _ _ _ _ _ _ hr => pe_call Ao.ok hr rfl Ao.m Ao.k Ao.b .nil (passes_call (takes_of rfl rfl rfl rfl) (fun _ _ _ _ h => h)) (pa_cons (pv 1) (pa_cons (pv 3) (pa_cons (pv 5) pa_nil))))))
      (pss_one (ps_if (pt_cmpR op_ne (pe_callB (call_repr hA hr.units) (by rfl) mrp (by decide +kernel) (pa_cons (pv 6) pa_nil)) (pe_callB (call_repr hA hr.units) (by rfl) mrp (by decide +kernel) (pa_cons (pe_ifExp (pt_cmpR op_in_seq (pv 5) (pv 4) rfl) (pe_tup (pa_cons pe_str (pa_cons (pe_call Bd.ok hr rfl Bd.m Bd.k Bd.b .nil pass0 (pa_cons (pv 2) (pa_cons (pv 3) (pa_cons (pv 5) pa_nil)))) pa_nil))) (pe_tup (pa_cons pe_str (pa_cons pe_str pa_nil)))) pa_nil)) (nomark _)) (pss_one (ps_ret pe_bl)) pss_nil))))
      (pss_one (ps_ret pe_bl))))), ?_⟩
  have n60 := W.n60.2
  have ok := W.ok
  obtain ⟨xs, ea, xl⟩ := lx.lt.len
  -- the holds drawn
  refine ⟨_, rfl, a, rfl, ⟨_, SqT.of ea⟩, fun D nD => ?_⟩
  obtain ⟨nDh, nDl⟩ := src.new nD
  have ea' : ∀ H', Bar h l H H' → H' a = some (.tup xs) := fun H' b => tup_bar src b ea
  refine lc_it (walk_tup (K := K) (a := a) (xs := xs)) (fun i H' => Src H' h l ∧ Bar h l H H' ∧ ∃ hs : List (Option Nat), H' D = some (.lst (VH hs)) ∧ hs.length = i ∧ ∀ p j, ha hs p = some j → p < ls.length ∧ j ∈ la ls p)
    ⟨src.updn nD, Bar.refl.fresh nD, [], upd_same, rfl, fun p j e => absurd (ha_lt e) (Nat.not_lt_zero _)⟩ (fun i H' _ h => SqT.of (ea' _ h.2.1)) ?_ ?_
  · rintro i x H2 H3 hi ⟨sr, br, hs, eD, hl, old⟩ ⟨rfl, ex⟩
    obtain ⟨c0, s1, rfl, es, ec⟩ := lx.lt.row ea ex
    have il : i < ls.length := by omega
    have es1 : la ls i = s1 := la_of es
    have ec2 := ec.bar src br
    have grow : ∀ (o : Option Nat) H4, Src H4 h l → Bar h l H3 H4 → (∀ j, o = some j → j ∈ la ls i) → Src (upd H4 D (.lst (VH hs ++ [hv o]))) h l ∧ Bar h l H (upd H4 D (.lst (VH hs ++ [hv o]))) ∧ ∃ hs' : List (Option Nat), (upd H4 D (.lst (VH hs ++ [hv o]))) D = some (.lst (VH hs')) ∧ hs'.length = i + 1 ∧ ∀ p j, ha hs' p = some j → p < ls.length ∧ j ∈ la ls p := fun o H4 sr4 br4 ho => by
      refine ⟨sr4.put nDh nDl, (br.trans br4).fresh nD, hs ++ [o], by rw [upd_same]; simp [VH], by simp [hl], fun p j e => ?_⟩
      by_cases d : p < hs.length
      · refine old p j ?_
        unfold ha at e ⊢
        rw [List.getD_eq_getElem?_getD] at e ⊢
        rw [List.getElem?_append_left d] at e
        exact e
      · have lt' := ha_lt e
        have : p = i := by simp at lt'; omega
        subst this
        unfold ha at e
        rw [List.getD_eq_getElem?_getD, List.getElem?_append_right (by omega), ← hl, Nat.sub_self] at e
        exact ⟨il, ho j e⟩
    have lenD : (VH hs).length < sizeLine := by rw [VH_len, hl]; exact sz6' (by omega)
    refine gn ⟨rfl, yes ⟨_, rfl, (by show 0 ≤ sizeLine; decide), fun u nu => ?_⟩⟩
    have sr3 := sr.updn (o := .tup []) nu
    have br3 : Bar h l H3 (upd H3 u (.tup [])) := Bar.refl.fresh nu
    have eu : (upd H3 u (.tup [])) u = some (.tup []) := upd_same
    have ec3 := ec2.same (same_upd (o := .tup []) nu)
    have eD3 : (upd H3 u (.tup [])) D = some (.lst (VH hs)) := ofN nu eD
    generalize upd H3 u (.tup []) = H4 at sr3 br3 eu ec3 eD3
    refine ⟨dI s1, .tuple [], dp_dI ec3, .tup (SqT.of eu) .nil, sh_dI s1, by decide, _, rfl, ?_⟩
    rw [eqv_dI_nil]
    cases hs1 : s1.isEmpty with
    | true =>
      refine iteT (iteT ?_)
      exact ⟨_, eD3, lenD, grow none H4 sr3 br3 (fun j e => by cases e)⟩
    | false =>
      refine iteF ?_
      refine ⟨_, rfl, h, l, 3, rfl, sr3, by decide, by decide, fun y H5 y0 y1 sr5 br5 => ?_⟩
      have eD5 := br5 _ _ nDh nDl eD3
      refine ⟨rfl, _, rfl, ?_⟩
      refine ite2 (fun c => ?_) (fun c => ?_)
      · exact ⟨_, eD5, lenD, grow none H5 sr5 (br3.trans br5) (fun j e => by cases e)⟩
      · have ec5 := ec3.bar sr3 br5
        have nn : c0 ≠ h ∧ c0 ≠ l := by
          rcases ec5 with e | ⟨o, _, _, e⟩
          · exact sr5.ne e (fun _ z => by cases z)
          · exact sr5.ne e (fun _ z => by cases z)
        have s0 : 0 < s1.length := by
          cases s1 with
          | nil => cases hs1
          | cons x t => simp
        refine ⟨_, rfl, _, rfl, h, l, c0, VI s1, rfl, sr5, .inr ec5, nn.1, nn.2, by rw [VI_len]; exact s0, by rw [VI_len]; have := ok.each es; omega, fun m v H6 hv6 sr6 br6 => ?_⟩
        obtain ⟨o, eo, rfl⟩ := VI_at hv6
        refine ⟨_, br6 _ _ nDh nDl eD5, lenD, grow (some o) H6 sr6 ((br3.trans br5).trans br6) (fun j e => ?_)⟩
        cases e
        rw [es1]
        exact List.mem_of_getElem? eo
  rintro H2 ⟨sr, br, hs, eD, hl, old⟩
  have ho : HoldsOk ls hs := ⟨by omega, old⟩
  refine ⟨D, _, rfl, .inl ⟨SqL.of eD, fun t nt => gn ?_⟩⟩
  dsimp only [List.set, L2.start]
  have st := same_upd (o := .tup (VH hs)) nt
  have et : (upd H2 t (.tup (VH hs))) t = some (.tup (VH hs)) := upd_same
  have sr3 := sr.same st
  have br3 : Bar h l H (upd H2 t (.tup (VH hs))) := br.trans (.same st)
  generalize upd H2 t (.tup (VH hs)) = H3 at st et sr3 br3
  have W3 := W.bx src (.bar br3)
  have lx3 := lx.bar src br3
  have tb3 := Tabs.bar tb src br3
  refine ⟨_, rfl, _, rfl, a, t, ls, hs, rfl, lx3, et, ho, ok, n60, fun sm H4 s4 esm => gn ?_⟩
  dsimp only [List.set]
  have r1 := rp_askers (hs := hs) n60
  refine ⟨_, rfl, _, rfl, wi, t, ns, ls, hs, rfl, W3.same s4, s4 _ _ et, ho, fun u H5 s5 eu => ⟨u, dI _, rfl, dp_dI (.inl eu), r1.sh, r1.nd, r1.dp, r1.ln, ?_⟩⟩
  have esm5 := s5 _ _ esm
  refine ⟨_, rfl, sm, dI _, rfl, dp_dI (.inl esm5), r1.sh, r1.nd, r1.dp, r1.ln, rfl, false, congrArg V.bl (by simp), iteF ?_⟩
  have s35 := s4.trans s5
  have tb5 := tb3.ext s35
  have et5 := s35 _ _ et
  have W5 := W3.same s35
  have lx5 := lx3.same s35
  have sr5 := sr3.same s35
  have bx5 : BX h l H H5 := (BX.bar br3).trans (.same s35)
  obtain ⟨xs5, ea5, xl5⟩ := lx5.lt.len
  refine ⟨_, rfl, a, _, rfl, .inr (SqT.of ea5), ?_⟩
  rw [xl5]
  refine ⟨_, rfl, by omega, by omega, for_it (J := Itr 0 ls.length) (n := ls.length) walk_range0 (fun i σ H' => ∃ y5 y6 : Option V, σ = [some (.ref h), some (.ref wi), some (.ref a), some (.ref t), some (.ref sm), y5, y6, none] ∧ LamX.ExtN H5 H' ∧ LamX.Tabs T H')
    ⟨none, none, rfl, LamX.ExtN.refl _, tb5⟩ (fun _ _ _ _ _ => trivial) ?_ ?_⟩
  · rintro p x σ Ha' Ha hp ⟨y5, y6, rfl, xa, tba⟩ ⟨rfl, rfl⟩
    refine gn ?_
    dsimp only [List.set]
    have rT := rp_holds ok n60 ho
    by_cases m : p ∈ askers ls hs
    · have r2 := rp_holds ok n60 (bhd_ok ok ho m)
      refine ⟨tba, fun Hb xb tbb => ⟨_, rfl, _, rfl, _, rfl, .inl ⟨wi, t, ns, ls, hs, p, rfl, (W5.ext xa).ext xb, XN.tup xb (XN.tup xa et5), ho, m, fun u1 Hc sc eu1 => ⟨(by show 2 ≤ sizeLine; decide), fun p1 np1 => gn ?_⟩⟩⟩⟩
      dsimp only [List.set]
      have sp1 := same_upd (o := .tup [.str "told", .ref u1]) np1
      have e1 := upd_same (H := Hc) (a := p1) (o := .tup [.str "told", .ref u1])
      have x1 := xa.trans (xb.trans (xn_of (sc.trans sp1)))
      have tb1 := tbb.ext (sc.trans sp1)
      have eu1' := sp1 _ _ eu1
      generalize upd Hc p1 (.tup [.str "told", .ref u1]) = Hd at e1 x1 tb1 eu1'
      refine ⟨_, rfl, p1, dTH _, rfl, dp_dTH e1 eu1', r2.sh, r2.nd, r2.dp, r2.ln, ?_⟩
      refine ⟨_, rfl, _, rfl, sm, _, rfl, .inr (SqT.of (XN.tup x1 esm5)), rfl, flat_VI _, _, rfl, ?_⟩
      have e2 : (if false = true then !inV (.int (p : Nat)) (VI (askers ls hs)) else inV (.int (p : Nat)) (VI (askers ls hs))) = true := by
        rw [if_neg (by decide), inV_VI, decide_eq_true m]
      rw [e2]
      refine iteT ⟨_, rfl, _, rfl, _, rfl, a, t, ls, hs, p, rfl, lx5.ext x1, XN.tup x1 et5, ho, ok, n60, m, fun u2 He se eu2 => ⟨(by show 2 ≤ sizeLine; decide), fun z nz => ?_⟩⟩
      have sz := same_upd (o := .tup [.str "told", .ref u2]) nz
      refine ⟨z, dTH _, rfl, dp_dTH upd_same (sz _ _ eu2), r2.sh, r2.nd, r2.dp, r2.ln, rfl, false, congrArg V.bl (by simp), iteF ?_⟩
      exact ⟨_, _, rfl, x1.trans (xn_of (se.trans sz)), tb1.ext (se.trans sz)⟩
    · have r2 := rp_dRA
      refine ⟨tba, fun Hb xb tbb => ⟨_, rfl, _, rfl, _, rfl, .inr ⟨wi, t, ns, ls, hs, _, rfl, (W5.ext xa).ext xb, XN.tup xb (XN.tup xa et5), ho, .int _, fun p' e m' => m (by
        have e' : ((p : Nat) : Int) = (p' : Nat) := V.int.inj e
        have : p = p' := by omega
        rw [this]
        exact m'), fun dd Hc sc ed => ⟨rfl, dd, _, rfl, ed, fun p1 np1 => gn ?_⟩⟩⟩⟩
      dsimp only [List.set]
      have sp1 := same_upd (o := .tup [.str "refused", .str "asker"]) np1
      have e1 := upd_same (H := Hc) (a := p1) (o := .tup [.str "refused", .str "asker"])
      have x1 := xa.trans (xb.trans (xn_of (sc.trans sp1)))
      have tb1 := tbb.ext (sc.trans sp1)
      generalize upd Hc p1 (.tup [.str "refused", .str "asker"]) = Hd at e1 x1 tb1
      refine ⟨_, rfl, p1, dRA, rfl, dp_dRA e1, r2.sh, r2.nd, r2.dp, r2.ln, ?_⟩
      refine ⟨_, rfl, _, rfl, sm, _, rfl, .inr (SqT.of (XN.tup x1 esm5)), rfl, flat_VI _, _, rfl, ?_⟩
      have e2 : (if false = true then !inV (.int (p : Nat)) (VI (askers ls hs)) else inV (.int (p : Nat)) (VI (askers ls hs))) = false := by
        rw [if_neg (by decide), inV_VI, decide_eq_false m]
      rw [e2]
      refine iteF ⟨(by show 2 ≤ sizeLine; decide), fun z nz => ?_⟩
      have sz := same_upd (o := .tup [.str "refused", .str "asker"]) nz
      refine ⟨z, dRA, rfl, dp_dRA upd_same, r2.sh, r2.nd, r2.dp, r2.ln, rfl, false, congrArg V.bl (by simp), iteF ?_⟩
      exact ⟨_, _, rfl, x1.trans (xn_of sz), tb1.ext sz⟩
  · rintro σ Ha ⟨y5, y6, rfl, xa, tba⟩
    exact q _ (sr5.ext xa) (bx5.trans (.xn xa)) tba
end
end K14
namespace K14
open PySem PySem.Spec PyProof.Rows L2
theorem atI_suc {xs : List V} {i : Nat} {v : V} (e : xs[i + 1]? = some v) : atI xs ((i : Nat) + 1 : Int) = some v := by
  rw [show (((i : Nat) : Int) + 1) = ((i + 1 : Nat) : Int) by omega]
  exact atI_nat e
theorem inV_str {s : Str} {ts : List Str} : inV (.str s) (ts.map V.str) = true ↔ s ∈ ts := by
  unfold inV
  rw [List.any_map, List.any_eq_true]
  constructor
  · rintro ⟨x, hx, e⟩
    have : x = s := eq_of_beq e
    rw [← this]
    exact hx
  · intro h
    exact ⟨s, h, beq_self_eq_true _⟩
theorem flat_str (ts : List Str) : (ts.map V.str).all flatV = true := by
  rw [List.all_map, List.all_eq_true]
  intro o _
  rfl
/-- no number's text -/
theorem neg_text (p : Nat) : (PyData.int (-1)).shown ≠ (PyData.int (p : Nat)).shown := fun h => by
  obtain ⟨c, t, e, hc⟩ := ShX.head_of (x := .int (p : Nat)) (by simp [ShX.pln])
  have e1 : ShX.sh (.int (-1)) = [45, 49] := by
    unfold ShX.sh
    simp only [PyData.shown]
    decide +kernel
  have e2 : ShX.sh (.int (-1)) = ShX.sh (.int (p : Nat)) := by
    unfold ShX.sh
    rw [h]
  rw [e1, e] at e2
  cases e2
  have := hc.1
  omega
theorem str_text (p : Nat) : (PyData.str "0").shown ≠ (PyData.int (p : Nat)).shown := fun h => by
  obtain ⟨c, t, e, hc⟩ := ShX.head_of (x := .int (p : Nat)) (by simp [ShX.pln])
  have e1 : ShX.sh (.str "0") = [39, 48, 39] := by
    unfold ShX.sh
    simp only [PyData.shown]
    decide +kernel
  have e2 : ShX.sh (.str "0") = ShX.sh (.int (p : Nat)) := by
    unfold ShX.sh
    rw [h]
  rw [e1, e] at e2
  cases e2
  have := hc.1
  omega
/-- a value whose text is told -/
structure Tx (K : PySem.W.Frag) (H : Hp) (v : V) (d : PyData) : Prop where
  dp : Dp K H v d
  sm : ∀ i, v = .int i → i.natAbs < 1048576
  rp : Rp d
  pl : Pl H v
  un : ∀ p : Nat, d.shown = (PyData.int (p : Nat)).shown → v = .int (p : Nat)
theorem tx_int {K : PySem.W.Frag} {H : Hp} {p : Nat} (h : p < 1000) : Tx K H (.int (p : Nat)) (.int (p : Nat)) where
  dp := .int _
  sm := fun i e => by
    have : ((p : Nat) : Int) = i := V.int.inj e
    omega
  rp := rp_of (rp_int (Nat.lt_of_lt_of_le h (by decide))) (by decide) (by decide)
  pl := .int _
  un := fun q e => by
    have := ShX.shown_inj (x := .int (p : Nat)) (y := .int (q : Nat)) (by simp [ShX.pln]) (by simp [ShX.pln]) e
    injection this with h1
    rw [h1]
theorem tx_non {K : PySem.W.Frag} {H : Hp} : Tx K H .non .none where
  dp := .non
  sm := fun i e => by cases e
  rp := rp_of rp_none (by decide) (by decide)
  pl := .non
  un := fun q e => by
    have := ShX.shown_inj (x := .none) (y := .int (q : Nat)) (by simp [ShX.pln]) (by simp [ShX.pln]) e
    cases this
theorem tx_true {K : PySem.W.Frag} {H : Hp} : Tx K H (.bl true) (.bool true) where
  dp := .bl _
  sm := fun i e => by cases e
  rp := ⟨by simp only [PyData.showable], by simp only [PyData.hasDict], by simp only [PyData.depth]; omega, by simp only [PyData.shown]; decide +kernel⟩
  pl := .bl _
  un := fun q e => by
    have := ShX.shown_inj (x := .bool true) (y := .int (q : Nat)) (by simp [ShX.pln]) (by simp [ShX.pln]) e
    cases this
theorem tx_neg {K : PySem.W.Frag} {H : Hp} : Tx K H (.int (-1)) (.int (-1)) where
  dp := .int _
  sm := fun i e => by
    have : (-1 : Int) = i := V.int.inj e
    omega
  rp := ⟨by simp only [PyData.showable]; decide +kernel, by simp only [PyData.hasDict], by simp only [PyData.depth]; omega, by simp only [PyData.shown]; decide +kernel⟩
  pl := .int _
  un := fun q e => absurd e (neg_text q)
theorem tx_str {K : PySem.W.Frag} {H : Hp} : Tx K H (.str "0") (.str "0") where
  dp := .str _
  sm := fun i e => by cases e
  rp := ⟨by simp only [PyData.showable], by simp only [PyData.hasDict], by simp only [PyData.depth]; omega, by simp only [PyData.shown]; decide +kernel⟩
  pl := .str _
  un := fun q e => absurd e (str_text q)
theorem tx_tup {K : PySem.W.Frag} {H : Hp} {a : Addr} (e : H a = some (.tup [.int 0])) : Tx K H (.ref a) (.tuple [.int 0]) where
  dp := .tup (SqT.of e) (.cons (.int 0) .nil)
  sm := fun i e => by cases e
  rp := rp_dI' (s := [0]) (by decide) (fun j hj => by
    have : j = 0 := by simpa using hj
    omega)
  pl := .tup e
  un := fun q e => by
    have := ShX.shown_inj (x := .tuple [.int 0]) (y := .int (q : Nat)) (by simp [ShX.pln, ShX.plnAll]) (by simp [ShX.pln]) e
    cases this
theorem mapD {α β : Type} (xs : List α) (d : α) (f : α → β) : (List.range xs.length).map (fun j => f (xs.getD j d)) = xs.map f := by
  apply List.ext_getElem?
  intro i
  rw [List.getElem?_map, List.getElem?_map]
  by_cases c : i < xs.length
  · rw [List.getElem?_range c]
    simp [c]
  · rw [List.getElem?_eq_none (by simpa using c), List.getElem?_eq_none (by omega)]
    rfl
def spLStepsR (C : Addr) (T : List (Addr × Str)) : Sp := fun vs H Q _ => ∃ (wi a t f : Addr) (ns ls : List (List Nat)) (us : List Addr) (row : List Nat), vs = [.ref wi, .ref a, .ref t, .ref f] ∧ WAt C H wi ns ls ∧ LX H a ls ∧ H t = some (.tup (VI row)) ∧ H f = some (.lst (us.map V.ref)) ∧ SgT H us ls row ∧ Val ls row ∧ LamX.Tabs T H ∧
  ∀ H', LamX.ExtN H H' → LamX.Tabs T H' → Q (.bl true) H'
theorem spLStepsR_len (C : Addr) (T : List (Addr × Str)) : ∀ vs H Q E, spLStepsR C T vs H Q E → vs.length = (["wishes", "lists", "row", "stages"] : List Str).length := by
  rintro vs H Q E ⟨wi, a, t, f, ns, ls, us, row, rfl, _⟩
  rfl
theorem scStR : FnScope ["wishes", "lists", "row", "stages", "at", "some", "value", "told", "can", "person"] ["wishes", "lists", "row", "stages"] (defScope sLStepsRight) := ⟨rfl, rfl, rfl, by decide +kernel, rfl, by decide +kernel, by decide +kernel⟩
section
variable {P : Program} {w : World} {K : PySem.W.Frag} {mg : Str → Option Value} {base : Heap} {T : List (Addr × Str)}
set_option maxHeartbeats 1000000 in
theorem ok_steps_right {f f1 f2 f3 f4 f5 f6 g c PT C CR CM fI : Addr} {fd d1 d2 d3 d4 d5 d6 gd : FuncData} {k : Nat} (F : Fun K "_law_steps_right" "_law_steps_right" sLStepsRight f fd) (hc : fd.code = .ref c) (G : HeardT K mg g gd) (ET : ErrT K mg CR CM fI) (TB : TabT T base mg c PT (lamQ "_law_steps_right"))
    (Cn : Has P w K mg base (k + 2) "_law_can" ["lists", "holds"] spLCan f1 d1) (Bd : Has P w K mg base (k + 2) "_law_behind" ["lists", "holds", "person"] spLBehind f2 d2) (As : Has P w K mg base (k + 2) "askers" ["wishes", "holds"] (spAskers C) f3 d3) (nAs : KBinds K d3 ["wishes", "holds"] ["holds", "wishes"] (fun us ws => us ++ ws.reverse) (fun vs zs => vs ++ zs.reverse))
    (Ao : HasX P w K mg base (L2.CX P w) k "asked_once" ["wishes", "holds", "person"] (spAskedOnceU C CR) f4 d4) (nAo : KBinds K d4 ["wishes", "holds", "person"] ["person", "holds"] (fun us ws => us ++ (ws.take 2).reverse) (fun vs zs => vs ++ (zs.take 2).reverse)) (Ap : Has P w K mg base (k + 2) "asked_once" ["wishes", "holds", "person"] (spAskedOnce C) f5 d5)
    (Hb : Has P w K mg base (k + 2) "holds_behind" ["wishes", "row"] (spHoldsBehind C) f6 d6) (nHb : KBinds K d6 ["wishes", "row"] ["row", "wishes"] (fun us ws => us ++ ws.reverse) (fun vs zs => vs ++ zs.reverse))
    (mis : mg "isinstance" = none) (ml : mg "len" = none) (mrg : mg "range" = none) (mrp : mg "repr" = none) (mli : mg "list" = none) : RunG P w K mg base (k + 3) f fd ["wishes", "lists", "row", "stages"] (spLStepsR C T) := by
  refine okGC F hc scStR (spLStepsR_len C T) (fun A outer s H vs Q E hA hr h => ?_)
  obtain ⟨wi, a, t, f, ns, ls, us, row, rfl, W, lx, et, ef, sg, v, tb, q⟩ := h
  refine ⟨_, pss_cons (ps_for PassesOwn.never rfl (pi_range1 rfl mrg (pa_cons (pe_callB call_len_seq (by rfl) ml PySem.boot_len (pa_cons (pv 3) pa_nil)) pa_nil)) (pg_name (i := 4) scStR.nd rfl (.inr rfl))
      (pss_cons (ps_set (i := 5) scStR.nd rfl (.inl rfl) (pe_call Cn.ok hr rfl Cn.m Cn.k Cn.b .nil pass0 (pa_cons (pv 1) (pa_cons (pe_ix ix_list (pv 3) (pv 4) (fun _ _ => rfl)) pa_nil))))
      (pss_cons (ps_if (PW.pt (pw_or (pt_cmpR op_ne (pe_callB (call_repr hA hr.units) (by rfl) mrp (by decide +kernel) (pa_cons (pe_call As.ok hr rfl As.m As.k As.b .nil pass0 (pa_cons (pv 0) (pa_cons (pe_ix ix_list (pv 3) (pv 4) (fun _ _ => rfl)) pa_nil))) pa_nil)) (pe_callB (call_repr hA hr.units) (by rfl) mrp (by decide +kernel) (pa_cons (pv 5) pa_nil)) (nomark _)) (pw_or1 (pt_cmpR (op_neD hr.units) (pe_named As.ok hr rfl As.m As.k nAs pass0 (pk_cons (pe_ix ix_list (pv 3) (pv 4) (fun _ _ => rfl)) (pk_cons (pv 0) pk_nil))) (pv 5) (nomark _))))) (pss_one (ps_ret pe_bl)) pss_nil)
      (pss_one (ps_if (PW.pt (pw_and (pt_cmpR op_lt (pv 4) (pe_callB call_len_seq (by rfl) ml PySem.boot_len (pa_cons (pv 2) pa_nil)) (nomark _)) (pw_and1 (pt_cmpR op_ne (pe_callB (call_repr hA hr.units) (by rfl) mrp (by decide +kernel) (pa_cons (pe_call Ap.ok hr rfl Ap.m Ap.k Ap.b .nil pass0 (pa_cons (pv 0) (pa_cons (pe_ix ix_list (pv 3) (pv 4) (fun _ _ => rfl)) (pa_cons (pe_ix ix_tup (pv 2) (pv 4) (fun _ _ => rfl)) pa_nil)))) pa_nil)) (pe_callB (call_repr hA hr.units) (by rfl) mrp (by decide +kernel) (pa_cons (pe_ix ix_list (pv 3) (pe_op op_add (pv 4) pe_int) (fun _ _ => rfl)) pa_nil)) (nomark _))))) (pss_one (ps_ret pe_bl)) pss_nil)))))
      (pss_cons (ps_set (i := 4) scStR.nd rfl (.inr rfl) (pe_op op_fdiv (pe_callB call_len_seq (by rfl) ml PySem.boot_len (pa_cons (pv 3) pa_nil)) pe_int))
      (pss_cons (ps_for PassesOwn.never rfl (pi_list (pe_op op_cat (pe_listRg rfl (by rfl) mli (prg_1 (by rfl) mrg (pe_op op_add (pe_callB call_len_seq (by rfl) ml PySem.boot_len (pa_cons (pv 1) pa_nil)) pe_int))) (pe_lst (pa_cons pe_non (pa_cons pe_bl (pa_cons (pe_un un_neg pe_int) (pa_cons pe_str (pa_cons (pe_tup (pa_cons pe_int pa_nil)) pa_nil)))))))) (pg_name (i := 6) scStR.nd rfl (.inr rfl))
      (pss_cons (ps_par (i := 7) (j := 8) rfl scStR.nd rfl rfl (by decide) rfl rfl (pa_cons (pe_heard (t := fun E => tCallK (spAskedOnceU C CR) (fun vs zs => vs ++ (zs.take 2).reverse) E (tCons (tVar 0) tNil) (tCons (tVar 6) (tCons (tOp (rIxL K) (tVar 3) (tVar 4)) tNil))) G ET mis rfl TB rfl hr (LamX.lamS_by (sc := defScope sLStepsRight) (by decide +kernel)) rfl (fun _ _ _ _ _ => rfl) (fun _ _ _ _ _ _ _ hr => pe_callK Ao.ok hr rfl Ao.m Ao.k nAo (passes_call (takes_of rfl rfl rfl rfl) (fun _ _ _ _ h => h)) (pa_cons (pv 0) pa_nil) (pk_cons (pv 6) (pk_cons (pe_ix ix_list (pv 3) (pv 4) (fun _ _ => rfl)) pk_nil)))) (pa_cons (pe_call Cn.ok hr rfl Cn.m Cn.k Cn.b .nil pass0 (pa_cons (pv 1) (pa_cons (pe_ix ix_list (pv 3) (pv 4) (fun _ _ => rfl)) pa_nil))) pa_nil)) (by rfl))
      (pss_one (ps_if (pt_cmpR op_in_seq (pe_callB (call_reprV hA hr.units) (by rfl) mrp (by decide +kernel) (pa_cons (pv 6) pa_nil)) (pe_lc (own := [("person", 9)]) (g := gName 9) (tt := tYes) (te := tCB (rReprV K) (tCons (tVar 9) tNil)) rfl scStR.nd (pi_tup (pv 8))
          (blkOk_by (own := [("person", 9)]) (N := ["wishes", "lists", "row", "stages", "at", "some", "value", "told", "can", "person"]) (sc := defScope sLStepsRight) (by decide +kernel)) (fun _ _ _ _ _ => (pg_name (i := 9) scStR.nd rfl (Or.inl rfl))) (fun _ _ _ _ _ => pts_nil)
          (fun _ _ _ _ _ => (pe_callB (call_reprV hA hr.units) (by rfl) mrp (by decide +kernel) (pa_cons (pv 9) pa_nil)))) rfl) (pss_one (ps_if (pt_cmpR op_ne (pe_callB (call_repr hA hr.units) (by rfl) mrp (by decide +kernel) (pa_cons (pv 7) pa_nil)) (pe_callB (call_repr hA hr.units) (by rfl) mrp (by decide +kernel) (pa_cons (pe_tup (pa_cons pe_str (pa_cons (pe_call Bd.ok hr rfl Bd.m Bd.k Bd.b .nil pass0 (pa_cons (pv 1) (pa_cons (pe_ix ix_list (pv 3) (pv 4) (fun _ _ => rfl)) (pa_cons (pv 6) pa_nil)))) pa_nil))) pa_nil)) (nomark _)) (pss_one (ps_ret pe_bl)) pss_nil)) (pss_one (ps_if (pt_cmpR (op_neD hr.units) (pv 7) (pe_tup (pa_cons pe_str (pa_cons pe_str pa_nil))) (nomark _)) (pss_one (ps_ret pe_bl)) pss_nil))))))
      (pss_one (ps_ret (pe_and (pe_cmpR op_eq (pe_callB (call_repr hA hr.units) (by rfl) mrp (by decide +kernel) (pa_cons (pe_call Hb.ok hr rfl Hb.m Hb.k Hb.b .nil pass0 (pa_cons (pv 0) (pa_cons (pv 2) pa_nil))) pa_nil)) (pe_callB (call_repr hA hr.units) (by rfl) mrp (by decide +kernel) (pa_cons (pe_ix ix_list (pv 3) (pe_un un_neg pe_int) (fun _ _ => rfl)) pa_nil)) (nomark _)) (pe_one (pe_cmpR (op_eqD hr.units) (pe_named Hb.ok hr rfl Hb.m Hb.k nHb pass0 (pk_cons (pe_slice sl_tupA (pv 2) po_none (po_some (pv 4))) (pk_cons (pv 0) pk_nil))) (pe_ix ix_list (pv 3) (pv 4) (fun _ _ => rfl)) (nomark _)))))))), ?_⟩
  have n60 := W.n60.2
  have ok := W.ok
  obtain ⟨xs, ea, xl⟩ := lx.lt.len
  have rle := val_len ok v
  have big := sum_none_le n60 ok
  have ul : (us.map V.ref).length = row.length + 1 := by rw [List.length_map, sg.1]
  have stg : ∀ i, i ≤ row.length → ∃ u, us[i]? = some u ∧ (us.map V.ref)[i]? = some (.ref u) ∧ H u = some (.tup (VH (bh ls (row.take i)))) := fun i hi => by
    have h : us[i]? = some (us[i]'(by rw [sg.1]; omega)) := List.getElem?_eq_getElem _
    exact ⟨_, h, by rw [List.getElem?_map, h]; rfl, sg.2 i _ h⟩
  refine ⟨_, rfl, f, _, rfl, .inl (SqL.of ef), ?_⟩
  rw [ul]
  refine ⟨_, rfl, by omega, by omega, for_it (J := Itr 0 (row.length + 1)) (n := row.length + 1) walk_range0 (fun i σ H' => ∃ y4 y5 : Option V, σ = [some (.ref wi), some (.ref a), some (.ref t), some (.ref f), y4, y5, none, none, none, none] ∧ Same H H')
    ⟨none, none, rfl, same_rfl⟩ (fun _ _ _ _ _ => trivial) ?_ ?_⟩
  · rintro i x σ Ha' Ha hi ⟨y4, y5, rfl, sa⟩ ⟨rfl, rfl⟩
    refine gn ?_
    dsimp only [List.set]
    obtain ⟨u, eu, eu2, euH⟩ := stg i (by omega)
    have ho := val_ok ok (v.take i)
    refine ⟨_, rfl, _, rfl, _, rfl, f, _, _, _, rfl, rfl, SqL.of (sa _ _ ef), atI_nat eu2, a, u, ls, _, rfl, lx.same sa, sa _ _ euH, ho, ok, n60, fun sm H4 s4 esm => gn ?_⟩
    dsimp only [List.set]
    have s04 := sa.trans s4
    have r1 := rp_askers (hs := bh ls (row.take i)) n60
    refine ⟨_, rfl, _, rfl, _, rfl, f, _, _, _, rfl, rfl, SqL.of (s04 _ _ ef), atI_nat eu2, wi, u, ns, ls, _, rfl, W.same s04, s04 _ _ euH, ho, fun c1 H5 s5 e1 => ⟨c1, dI _, rfl, dp_dI (.inl e1), r1.sh, r1.nd, r1.dp, r1.ln, ?_⟩⟩
    refine ⟨_, rfl, sm, dI _, rfl, dp_dI (.inl (s5 _ _ esm)), r1.sh, r1.nd, r1.dp, r1.ln, rfl, false, congrArg V.bl (by simp), iteF ?_⟩
    have s05 := s04.trans s5
    refine ⟨_, rfl, _, rfl, f, _, _, _, rfl, rfl, SqL.of (s05 _ _ ef), atI_nat eu2, _, rfl, wi, u, ns, ls, _, rfl, W.same s05, s05 _ _ euH, ho, fun c2 H6 s6 e2 => ?_⟩
    refine ⟨_, rfl, dI _, dI _, dp_dI (.inl e2), dp_dI (.inl (s6 _ _ (s5 _ _ esm))), sh_dI _, sh_dI _, false, congrArg V.bl (by rw [eq_dI]; rfl), iteF ?_⟩
    have s06 := s05.trans s6
    refine ⟨_, rfl, _, rfl, t, _, rfl, .inr (SqT.of (s06 _ _ et)), ?_⟩
    rw [VI_len]
    by_cases ci : i < row.length
    · have ep : row[i]? = some row[i] := List.getElem?_eq_getElem ci
      have m := v i _ ep
      have tk := take_snoc ep
      generalize row[i] = p at ep m tk
      obtain ⟨u', eu', eu2', euH'⟩ := stg (i + 1) (by omega)
      have ho' := val_ok ok (v.take (i + 1))
      have r3 := rp_holds0 ok n60 ho'
      refine ⟨_, _, rfl, rfl, true, congrArg V.bl (decide_eq_true (by omega)), iteT ?_⟩
      refine ⟨_, rfl, _, rfl, _, rfl, f, _, _, _, rfl, rfl, SqL.of (s06 _ _ ef), atI_nat eu2, _, rfl, _, rfl, t, _, _, _, rfl, rfl, SqT.of (s06 _ _ et), atI_nat (VI_get ep), wi, u, ns, ls, _, p, rfl, W.same s06, s06 _ _ euH, ho, m, fun c3 H7 s7 e3 => ?_⟩
      have e3' : H7 c3 = some (.tup (VH (bh ls (row.take (i + 1))))) := by rw [e3, tk, bh_snoc]
      have s07 := s06.trans s7
      refine ⟨c3, dH _, rfl, dp_dH e3', r3.sh, r3.nd, r3.dp, r3.ln, ?_⟩
      refine ⟨_, rfl, _, rfl, _, _, rfl, rfl, f, _, _, _, rfl, rfl, SqL.of (s07 _ _ ef), atI_suc eu2', u', dH _, rfl, dp_dH (s07 _ _ euH'), r3.sh, r3.nd, r3.dp, r3.ln, rfl, false, congrArg V.bl (by simp), iteF ?_⟩
      exact ⟨_, _, rfl, s07⟩
    · refine ⟨_, _, rfl, rfl, false, congrArg V.bl (decide_eq_false (by omega)), iteF (iteF ?_)⟩
      exact ⟨_, _, rfl, s06⟩
  · rintro σ Ha ⟨y4, y5, rfl, sa⟩
    refine ⟨_, rfl, f, _, rfl, .inl (SqL.of (sa _ _ ef)), ?_⟩
    rw [ul]
    have e2 : (((row.length + 1 : Nat) : Int)) / 2 = (((row.length + 1) / 2 : Nat) : Int) := by omega
    refine ⟨_, _, rfl, rfl, ⟨by decide, by decide⟩, gn ?_⟩
    dsimp only [List.set]
    rw [e2]
    have mid : (row.length + 1) / 2 ≤ row.length := by omega
    generalize (row.length + 1) / 2 = m at mid
    obtain ⟨u, eu, eu2, euH⟩ := stg m mid
    have ho := val_ok ok (v.take m)
    -- the values
    refine ⟨_, rfl, a, xs, rfl, .inr (SqT.of (sa _ _ ea)), ?_⟩
    rw [xl]
    refine ⟨_, _, rfl, rfl, _, rfl, ⟨by omega, by omega, by omega, by omega, by omega⟩, fun L1 nL1 => ?_⟩
    have sL1 := same_upd (o := .lst (rgV 0 ((ls.length : Nat) + 1 : Int))) nL1
    have eL1 : (upd Ha L1 (.lst (rgV 0 ((ls.length : Nat) + 1 : Int)))) L1 = some (.lst (rgV 0 ((ls.length : Nat) + 1 : Int))) := upd_same
    generalize upd Ha L1 (.lst (rgV 0 ((ls.length : Nat) + 1 : Int))) = Hb at sL1 eL1
    refine ⟨_, rfl, (by show 1 ≤ sizeLine; decide), fun z nz => ⟨(by show 5 ≤ sizeLine; decide), fun L2 nL2 => ?_⟩⟩
    have sz := same_upd (o := .tup [.int 0]) nz
    have ez : (upd Hb z (.tup [.int 0])) z = some (.tup [.int 0]) := upd_same
    have sL2 := same_upd (o := .lst [.non, .bl true, .int (-1), .str "0", .ref z]) nL2
    have eL2 : (upd (upd Hb z (.tup [.int 0])) L2 (.lst [.non, .bl true, .int (-1), .str "0", .ref z])) L2 = some (.lst [.non, .bl true, .int (-1), .str "0", .ref z]) := upd_same
    have ez2 := sL2 _ _ ez
    have eL12 := sL2 _ _ (sz _ _ eL1)
    have sc := sL1.trans (sz.trans sL2)
    generalize upd (upd Hb z (.tup [.int 0])) L2 (.lst [.non, .bl true, .int (-1), .str "0", .ref z]) = Hc at sL2 eL2 ez2 eL12 sc
    have rl : (rgV 0 ((ls.length : Nat) + 1 : Int)).length = ls.length + 1 := by
      simp only [rgV, List.length_map, List.length_range]
      omega
    refine ⟨L1, L2, _, _, rfl, rfl, eL12, eL2, by rw [rl]; exact sz5 (by simp; omega), fun L nL => ?_⟩
    have sL := same_upd (o := .lst (rgV 0 ((ls.length : Nat) + 1 : Int) ++ [.non, .bl true, .int (-1), .str "0", .ref z])) nL
    have eL : (upd Hc L (.lst (rgV 0 ((ls.length : Nat) + 1 : Int) ++ [.non, .bl true, .int (-1), .str "0", .ref z]))) L = some (.lst (rgV 0 ((ls.length : Nat) + 1 : Int) ++ [.non, .bl true, .int (-1), .str "0", .ref z])) := upd_same
    have ez3 := sL _ _ ez2
    have sd := sa.trans (sc.trans sL)
    generalize upd Hc L (.lst (rgV 0 ((ls.length : Nat) + 1 : Int) ++ [.non, .bl true, .int (-1), .str "0", .ref z])) = Hd at sL eL ez3 sd
    have each : ∀ x ∈ rgV 0 ((ls.length : Nat) + 1 : Int) ++ [.non, .bl true, .int (-1), .str "0", .ref z], ∀ H', H' z = some (.tup [.int 0]) → ∃ d, Tx K H' x d := fun x hx H' e => by
      rcases List.mem_append.mp hx with hx | hx
      · unfold rgV at hx
        obtain ⟨j, hj, rfl⟩ := List.mem_map.mp hx
        have hj' := List.mem_range.mp hj
        refine ⟨.int (j : Nat), ?_⟩
        have : (0 : Int) + (j : Nat) = ((j : Nat) : Int) := by omega
        rw [this]
        exact tx_int (by omega)
      · simp only [List.mem_cons, List.not_mem_nil, or_false] at hx
        rcases hx with rfl | rfl | rfl | rfl | rfl
        · exact ⟨_, tx_non⟩
        · exact ⟨_, tx_true⟩
        · exact ⟨_, tx_neg⟩
        · exact ⟨_, tx_str⟩
        · exact ⟨_, tx_tup e⟩
    generalize hLL : rgV 0 ((ls.length : Nat) + 1 : Int) ++ [.non, .bl true, .int (-1), .str "0", .ref z] = LL at eL each
    have Wd := W.same sd
    have lxd := lx.same sd
    have etd := sd _ _ et
    have efd := sd _ _ ef
    have sgd := sg.same sd
    have tbd := tb.ext sd
    have euHd := sd _ _ euH
    refine ⟨L, rfl, ⟨_, SqL.of eL⟩, for_it (walk_list (K := K) (a := L) (xs := LL)) (fun i σ H' => ∃ y5 y6 y7 y8 : Option V, σ = [some (.ref wi), some (.ref a), some (.ref t), some (.ref f), some (.int (m : Nat)), y5, y6, y7, y8, none] ∧ LamX.ExtN Hd H' ∧ LamX.Tabs T H')
      ⟨_, none, none, none, rfl, LamX.ExtN.refl _, tbd⟩ (fun i σ H' _ ⟨_, _, _, _, _, xa, _⟩ => SqL.of (XN.lst xa eL)) ?_ ?_⟩
    · rintro i x σ He' He hi ⟨y5, y6, y7, y8, rfl, xa, tba⟩ ⟨rfl, ex⟩
      refine gn ?_
      dsimp only [List.set]
      have hx : x ∈ LL := List.mem_of_getElem? ex
      have each' : ∀ H', LamX.ExtN Hd H' → ∃ d, Tx K H' x d := fun H' xh => each x hx H' (XN.tup xh ez3)
      have We := Wd.ext xa
      have cse : (∃ p, x = .int (p : Nat) ∧ p ∈ askers ls (bh ls (row.take m))) ∨ ¬ ∃ p : Nat, x = .int (p : Nat) ∧ p ∈ askers ls (bh ls (row.take m)) := Classical.em _
      -- what stands behind
      have rest : ∀ (told : Addr) (dt : PyData) (H5 : Hp), LamX.ExtN Hd H5 → LamX.Tabs T H5 → True := fun _ _ _ _ _ => trivial
      rcases cse with ⟨p, rfl, mp⟩ | no
      · have r2 := rp_holds ok n60 (bhd_ok ok ho mp)
        refine ⟨tba, fun Hf xf tbf => ⟨_, rfl, _, rfl, _, rfl, _, rfl, f, _, _, _, rfl, rfl, SqL.of (XN.lst xf (XN.lst xa efd)), atI_nat eu2, .inl ⟨wi, u, ns, ls, _, p, rfl, We.ext xf, XN.tup xf (XN.tup xa euHd), ho, mp, fun c1 Hg sg1 e1 => ⟨(by show 2 ≤ sizeLine; decide), fun p1 np1 => ?_⟩⟩⟩⟩
        have sp1 := same_upd (o := .tup [.str "told", .ref c1]) np1
        have ep1 := upd_same (H := Hg) (a := p1) (o := .tup [.str "told", .ref c1])
        have x1 := xa.trans (xf.trans (xn_of (sg1.trans sp1)))
        have tb1 := tbf.ext (sg1.trans sp1)
        have e1' := sp1 _ _ e1
        generalize upd Hg p1 (.tup [.str "told", .ref c1]) = Hh at ep1 x1 tb1 e1'
        refine ⟨_, rfl, _, rfl, _, rfl, f, _, _, _, rfl, rfl, SqL.of (XN.lst x1 efd), atI_nat eu2, a, u, ls, _, rfl, lxd.ext x1, XN.tup x1 euHd, ho, ok, n60, fun cn Hi si ecn => ⟨_, _, rfl, ?_⟩⟩
        dsimp only [List.set]
        obtain ⟨d, tx⟩ := each' Hi (x1.trans (xn_of si))
        refine ⟨_, rfl, _, d, rfl, tx.dp, tx.sm, tx.rp.sh, tx.rp.nd, tx.rp.dp, tx.rp.ln, ?_⟩
        have dd : d = .int (p : Nat) := by
          have := tx.dp
          cases this
          rfl
        refine ⟨_, rfl, cn, rfl, ⟨_, SqT.of ecn⟩, fun D nD => ?_⟩
        refine lc_same (walk_tup (K := K) (a := cn) (xs := VI (askers ls (bh ls (row.take m))))) (by rw [VI_len]; have := askers_len (ls := ls) (hs := bh ls (row.take m)); omega) (fun j => .str (PyData.int (((askers ls (bh ls (row.take m))).getD j 0 : Nat) : Int)).shown) nD (fun _ sm => SqT.of (sm _ _ ecn)) ?_ ?_
        · rintro j y Hj Hj' Z out hj sm ⟨rfl, ey⟩
          rw [VI_len] at hj
          have ej : (askers ls (bh ls (row.take m)))[j]? = some (askers ls (bh ls (row.take m)))[j] := List.getElem?_eq_getElem hj
          have ey2 : (VI (askers ls (bh ls (row.take m))))[j]? = some y := ey
          rw [VI_get ej] at ey2
          cases ey2
          have lt := askers_lt _ (List.getElem_mem hj)
          have ty := tx_int (K := K) (H := Hj') (p := (askers ls (bh ls (row.take m)))[j]) (by omega)
          have e0 : (askers ls (bh ls (row.take m))).getD j 0 = (askers ls (bh ls (row.take m)))[j] := by rw [List.getD_eq_getElem?_getD, ej]; rfl
          rw [e0] at out
          exact gn ⟨rfl, _, rfl, _, _, rfl, ty.dp, ty.sm, ty.rp.sh, ty.rp.nd, ty.rp.dp, ty.rp.ln, out _ same_rfl⟩
        · intro Hj sj eD
          have eD' : Hj D = some (.lst (((askers ls (bh ls (row.take m))).map fun p => (PyData.int (p : Nat)).shown).map V.str)) := by
            rw [eD, VI_len, mapD (askers ls (bh ls (row.take m))) 0 fun p => V.str (PyData.int (p : Nat)).shown, List.map_map]
            rfl
          refine ⟨D, _, rfl, .inl (SqL.of eD'), rfl, flat_str _, _, rfl, ?_⟩
          have yes : inV (.str d.shown) (((askers ls (bh ls (row.take m))).map fun p => (PyData.int (p : Nat)).shown).map V.str) = true := inV_str.mpr (by rw [dd]; exact List.mem_map.mpr ⟨p, mp, rfl⟩)
          have e9 : (if false = true then !inV (.str d.shown) (((askers ls (bh ls (row.take m))).map fun p => (PyData.int (p : Nat)).shown).map V.str) else inV (.str d.shown) (((askers ls (bh ls (row.take m))).map fun p => (PyData.int (p : Nat)).shown).map V.str)) = true := by rw [if_neg (by decide)]; exact yes
          rw [e9]
          have s2 := si.trans sj
          have x2 := x1.trans (xn_of s2)
          refine iteT ⟨_, rfl, p1, dTH _, rfl, dp_dTH (s2 _ _ ep1) (s2 _ _ e1'), r2.sh, r2.nd, r2.dp, r2.ln, ?_⟩
          refine ⟨_, rfl, _, rfl, _, rfl, f, _, _, _, rfl, rfl, SqL.of (XN.lst x2 efd), atI_nat eu2, _, rfl, a, u, ls, _, p, rfl, lxd.ext x2, XN.tup x2 euHd, ho, ok, n60, mp, fun c2 Hk sk ec2 => ⟨(by show 2 ≤ sizeLine; decide), fun z2 nz2 => ?_⟩⟩
          have sz2 := same_upd (o := .tup [.str "told", .ref c2]) nz2
          refine ⟨z2, dTH _, rfl, dp_dTH upd_same (sz2 _ _ ec2), r2.sh, r2.nd, r2.dp, r2.ln, rfl, false, congrArg V.bl (by simp), iteF ?_⟩
          exact ⟨_, _, _, _, rfl, x2.trans (xn_of (sk.trans sz2)), tb1.ext (s2.trans (sk.trans sz2))⟩
      · obtain ⟨d0, tx0⟩ := each' He xa
        refine ⟨tba, fun Hf xf tbf => ⟨_, rfl, _, rfl, _, rfl, _, rfl, f, _, _, _, rfl, rfl, SqL.of (XN.lst xf (XN.lst xa efd)), atI_nat eu2, .inr ⟨wi, u, ns, ls, _, _, rfl, We.ext xf, XN.tup xf (XN.tup xa euHd), ho, (each' Hf (xa.trans xf)).elim fun d tx => tx.pl, fun p e m' => no ⟨p, e, m'⟩, fun dd Hg sg1 ed => ⟨rfl, dd, _, rfl, ed, fun p1 np1 => ?_⟩⟩⟩⟩
        have sp1 := same_upd (o := .tup [.str "refused", .str "asker"]) np1
        have ep1 := upd_same (H := Hg) (a := p1) (o := .tup [.str "refused", .str "asker"])
        have x1 := xa.trans (xf.trans (xn_of (sg1.trans sp1)))
        have tb1 := tbf.ext (sg1.trans sp1)
        generalize upd Hg p1 (.tup [.str "refused", .str "asker"]) = Hh at ep1 x1 tb1
        refine ⟨_, rfl, _, rfl, _, rfl, f, _, _, _, rfl, rfl, SqL.of (XN.lst x1 efd), atI_nat eu2, a, u, ls, _, rfl, lxd.ext x1, XN.tup x1 euHd, ho, ok, n60, fun cn Hi si ecn => ⟨_, _, rfl, ?_⟩⟩
        dsimp only [List.set]
        obtain ⟨d, tx⟩ := each' Hi (x1.trans (xn_of si))
        refine ⟨_, rfl, _, d, rfl, tx.dp, tx.sm, tx.rp.sh, tx.rp.nd, tx.rp.dp, tx.rp.ln, ?_⟩
        refine ⟨_, rfl, cn, rfl, ⟨_, SqT.of ecn⟩, fun D nD => ?_⟩
        refine lc_same (walk_tup (K := K) (a := cn) (xs := VI (askers ls (bh ls (row.take m))))) (by rw [VI_len]; have := askers_len (ls := ls) (hs := bh ls (row.take m)); omega) (fun j => .str (PyData.int (((askers ls (bh ls (row.take m))).getD j 0 : Nat) : Int)).shown) nD (fun _ sm => SqT.of (sm _ _ ecn)) ?_ ?_
        · rintro j y Hj Hj' Z out hj sm ⟨rfl, ey⟩
          rw [VI_len] at hj
          have ej : (askers ls (bh ls (row.take m)))[j]? = some (askers ls (bh ls (row.take m)))[j] := List.getElem?_eq_getElem hj
          have ey2 : (VI (askers ls (bh ls (row.take m))))[j]? = some y := ey
          rw [VI_get ej] at ey2
          cases ey2
          have lt := askers_lt _ (List.getElem_mem hj)
          have ty := tx_int (K := K) (H := Hj') (p := (askers ls (bh ls (row.take m)))[j]) (by omega)
          have e0 : (askers ls (bh ls (row.take m))).getD j 0 = (askers ls (bh ls (row.take m)))[j] := by rw [List.getD_eq_getElem?_getD, ej]; rfl
          rw [e0] at out
          exact gn ⟨rfl, _, rfl, _, _, rfl, ty.dp, ty.sm, ty.rp.sh, ty.rp.nd, ty.rp.dp, ty.rp.ln, out _ same_rfl⟩
        · intro Hj sj eD
          have eD' : Hj D = some (.lst (((askers ls (bh ls (row.take m))).map fun p => (PyData.int (p : Nat)).shown).map V.str)) := by
            rw [eD, VI_len, mapD (askers ls (bh ls (row.take m))) 0 fun p => V.str (PyData.int (p : Nat)).shown, List.map_map]
            rfl
          refine ⟨D, _, rfl, .inl (SqL.of eD'), rfl, flat_str _, _, rfl, ?_⟩
          have yes : inV (.str d.shown) (((askers ls (bh ls (row.take m))).map fun p => (PyData.int (p : Nat)).shown).map V.str) = false := by
            rw [Bool.eq_false_iff]
            intro h
            obtain ⟨p, hp, e⟩ := List.mem_map.mp (inV_str.mp h)
            exact no ⟨p, tx.un p e.symm, hp⟩
          have e9 : (if false = true then !inV (.str d.shown) (((askers ls (bh ls (row.take m))).map fun p => (PyData.int (p : Nat)).shown).map V.str) else inV (.str d.shown) (((askers ls (bh ls (row.take m))).map fun p => (PyData.int (p : Nat)).shown).map V.str)) = false := by rw [if_neg (by decide)]; exact yes
          rw [e9]
          have s2 := si.trans sj
          have x2 := x1.trans (xn_of s2)
          refine iteF ⟨_, rfl, (by show 2 ≤ sizeLine; decide), fun z2 nz2 => ?_⟩
          have sz2 := same_upd (o := .tup [.str "refused", .str "asker"]) nz2
          refine ⟨dRA, dRA, dp_dRA (sz2 _ _ (s2 _ _ ep1)), dp_dRA upd_same, sh_dRA, sh_dRA, false, congrArg V.bl (by rw [SeqAt.eqv_refl _ (Bool.and_eq_true _ _ ▸ sh_dRA).1]; rfl), iteF ?_⟩
          exact ⟨_, _, _, _, rfl, x2.trans (xn_of sz2), tb1.ext (s2.trans sz2)⟩
    · rintro σ He ⟨y5, y6, y7, y8, rfl, xa, tba⟩
      have We := Wd.ext xa
      have v0 := val_ok ok v
      have r3 := rp_holds0 ok n60 v0
      have r4 := rp_holds0 ok n60 ho
      refine ⟨_, rfl, _, rfl, wi, t, ns, ls, row, rfl, We, XN.tup xa etd, v, fun c1 Hf sf e1 => ⟨c1, dH _, rfl, dp_dH e1, r3.sh, r3.nd, r3.dp, r3.ln, ?_⟩⟩
      obtain ⟨ul', eul, eul2, eulH⟩ := sg.last
      have lst : atI (us.map V.ref) (-1) = some (.ref ul') := atI_end (by rw [List.getLast?_map, eul2]; rfl)
      have efe := XN.lst xa efd
      have eule := XN.tup xa (sd _ _ eulH)
      refine ⟨_, rfl, _, rfl, f, _, -1, _, rfl, rfl, SqL.of (sf _ _ efe), lst, ul', dH _, rfl, dp_dH (sf _ _ eule), r3.sh, r3.nd, r3.dp, r3.ln, rfl, true, congrArg V.bl (by simp), iteT ?_⟩
      refine ⟨_, rfl, _, rfl, _, rfl, slC (sf _ _ (XN.tup xa etd)) fun c2 Hg sg2 e2 => ?_⟩
      rw [cut_take, show (VI row).take m = VI (row.take m) from (List.map_take ..).symm] at e2
      refine ⟨_, rfl, wi, c2, ns, ls, row.take m, rfl, (We.same sf).same sg2, e2, v.take m, fun c3 Hi si e3 => ?_⟩
      refine ⟨_, rfl, _, rfl, f, _, _, _, rfl, rfl, SqL.of (si _ _ (sg2 _ _ (sf _ _ efe))), atI_nat eu2, dH _, dH _, dp_dH e3, dp_dH (si _ _ (sg2 _ _ (sf _ _ (XN.tup xa euHd)))), sh_dH _, sh_dH _, ?_⟩
      have eqH : PyData.eqv (dH (bh ls (row.take m))) (dH (bh ls (row.take m))) = true := SeqAt.eqv_refl _ (Bool.and_eq_true _ _ ▸ sh_dH _).1
      rw [eqH]
      have sfin := sf.trans (sg2.trans si)
      exact q _ ((xn_of sd).trans (xa.trans (xn_of sfin))) (tba.ext sfin)
end
end K14
namespace K14
open PySem PySem.Spec PyProof.Rows L2
/-! ### rows with anything in them -/
def PvT (xs : List V) : Prop := ∀ x ∈ xs, ∃ o, x = VB o
theorem pvt_VI (s : List Nat) : PvT (VI s) := fun x hx => by
  obtain ⟨p, _, rfl⟩ := List.mem_map.mp hx
  exact ⟨some p, rfl⟩
theorem PvT.row : ∀ {xs : List V}, PvT xs → ∃ row, xs = VQ row
  | [], _ => ⟨[], rfl⟩
  | x :: xs, h => by
    obtain ⟨o, rfl⟩ := h x (by simp)
    obtain ⟨row, rfl⟩ := PvT.row (xs := xs) fun y hy => h y (by simp [hy])
    exact ⟨o :: row, rfl⟩
theorem pl_VB {H : Hp} (o : Option Nat) : Pl H (VB o) := by
  cases o with
  | none => exact .bl _
  | some p => exact .int _
def Pv (H : Hp) (v : V) : Prop := Pl H v ∧ ∀ xs, tupOf H v = some xs → PvT xs
theorem Pv.same {H H' : Hp} {v : V} (n : Pv H v) (s : Same H H') : Pv H' v := ⟨n.1.same s, fun ys e => by
  rw [tupOf_same n.1 s] at e
  exact n.2 ys e⟩
theorem Pv.flat {H : Hp} {v : V} (p : Pl H v) (t : tupOf H v = none) : Pv H v := ⟨p, fun ys e => by rw [t] at e; cases e⟩
theorem Pv.lst {H : Hp} {a : Addr} {xs : List V} (e : H a = some (.lst xs)) : Pv H (.ref a) := .flat (.lst e) (by simp [tupOf, e])
theorem Pv.tup {H : Hp} {a : Addr} {xs : List V} (e : H a = some (.tup xs)) (p : PvT xs) : Pv H (.ref a) := ⟨.tup e, fun ys e2 => by
  simp [tupOf, e] at e2
  subst e2
  exact p⟩
theorem Pv.put {H : Hp} {D : Addr} {xs ys : List V} {v : V} (n : Pv H v) (e : H D = some (.lst xs)) : Pv (upd H D (.lst ys)) v := by
  cases n.1 with
  | non => exact .flat .non rfl
  | bl b => exact .flat (.bl b) rfl
  | int i => exact .flat (.int i) rfl
  | str z => exact .flat (.str z) rfl
  | @lst a zs e2 =>
    by_cases c : a = D
    · subst c
      exact .lst upd_same
    · exact .lst (by rw [upd_ne c]; exact e2)
  | @tup a zs e2 => exact .tup (by rw [upd_ne (fun c => by rw [c, e] at e2; cases e2)]; exact e2) (n.2 zs (by simp [tupOf, e2]))
theorem Src.lists {H : Hp} {h l : Addr} (s : Src H h l) : (∃ xs, H h = some (.lst xs)) ∧ ∃ xs, H l = some (.lst xs) := by
  obtain ⟨cs, z, a, b, r⟩ := s.ex
  exact ⟨⟨_, a⟩, ⟨_, b⟩⟩
theorem Pv.bar {H H' : Hp} {h l : Addr} {v : V} (n : Pv H v) (sr : Src H h l) (sr' : Src H' h l) (b : Bar h l H H') : Pv H' v := by
  cases n.1 with
  | non => exact .flat .non rfl
  | bl b => exact .flat (.bl b) rfl
  | int i => exact .flat (.int i) rfl
  | str z => exact .flat (.str z) rfl
  | @lst a zs e2 =>
    obtain ⟨⟨x1, e1⟩, ⟨x3, e3⟩⟩ := sr'.lists
    by_cases c : a = h
    · rw [c]
      exact .lst e1
    · by_cases d : a = l
      · rw [d]
        exact .lst e3
      · exact .lst (b _ _ c d e2)
  | @tup a zs e2 => exact .tup (tup_bar sr b e2) (n.2 zs (by simp [tupOf, e2]))
theorem Pv.two {H : Hp} {v : V} (n : Pv H v) : tupOf H v = none ∨ ∃ row, tupOf H v = some (VQ row) := by
  cases e : tupOf H v with
  | none => exact .inl rfl
  | some xs =>
    obtain ⟨row, rfl⟩ := (n.2 xs e).row
    exact .inr ⟨row, rfl⟩
theorem slP {K : PySem.W.Frag} {H : Hp} {a : Addr} {xs : List V} {lo hi : Option Int} {Q : VK} (ea : H a = some (.tup xs)) (p : PvT xs) (q : ∀ c ys H', Same H H' → H' c = some (.tup ys) → ys.length ≤ xs.length → PvT ys → Q (.ref c) H') : rSlA K (.ref a) lo hi H Q :=
  slC ea fun c H' s e => q c _ H' s e (by unfold cutV; rw [List.length_take, List.length_drop]; omega) fun y hy => p y (by unfold cutV at hy; exact List.mem_of_mem_drop (List.mem_of_mem_take hy))
theorem catP {K : PySem.W.Frag} {H : Hp} {a b : Addr} {xs ys : List V} {Q : VK} (ea : H a = some (.tup xs)) (eb : H b = some (.tup ys)) (px : PvT xs) (py : PvT ys) (le : xs.length + ys.length ≤ 1000) (q : ∀ c zs H', Same H H' → H' c = some (.tup zs) → zs.length = xs.length + ys.length → PvT zs → Q (.ref c) H') : rCatA K (.ref a) (.ref b) H Q :=
  catV ea eb le fun c H' s e => q c _ H' s e List.length_append fun x hx => (List.mem_append.mp hx).elim (px x) (py x)
def spLRowsR (C : Addr) : Sp := fun vs H Q _ => ∃ (h l wi a t : Addr) (ns ls : List (List Nat)) (row : List Nat), vs = [.ref h, .ref wi, .ref a, .ref t] ∧ Src H h l ∧ WAt C H wi ns ls ∧ LX H a ls ∧ H t = some (.tup (VI row)) ∧ row.length ≤ 300 ∧ Val ls row ∧ askers ls (bh ls row) = [] ∧
  ∀ H', Src H' h l → Bar h l H H' → Q (.bl true) H'
theorem spLRowsR_len (C : Addr) : ∀ vs H Q E, spLRowsR C vs H Q E → vs.length = (["heap", "wishes", "lists", "row"] : List Str).length := by
  rintro vs H Q E ⟨h, l, wi, a, t, ns, ls, row, rfl, _⟩
  rfl
theorem scRoR : FnScope ["heap", "wishes", "lists", "row", "at", "found", "turn", "value"] ["heap", "wishes", "lists", "row"] (defScope sLRowsRight) := ⟨rfl, rfl, rfl, by decide +kernel, rfl, by decide +kernel, by decide +kernel⟩
section
variable {P : Program} {w : World} {K : PySem.W.Frag} {mg : Str → Option Value} {base : Heap}
set_option maxHeartbeats 1000000 in
theorem ok_rows_right {f f1 f2 f3 C : Addr} {fd d1 d2 d3 : FuncData} {k : Nat} (F : Fun K "_law_rows_right" "_law_rows_right" sLRowsRight f fd) (Dr : Has P w K mg base k "_law_draw" ["heap", "many"] spDraw f1 d1) (Ia : Has P w K mg base k "is_asking" ["wishes", "value"] (spIsAsking C) f2 d2) (nIa : KBinds K d2 ["wishes", "value"] ["value", "wishes"] (fun us ws => us ++ ws.reverse) (fun vs zs => vs ++ zs.reverse))
    (Ir : Has P w K mg base k "_law_is_run" ["lists", "value"] spLIsRun f3 d3) (ml : mg "len" = none) (mli : mg "list" = none) (mrg : mg "range" = none) (mrp : mg "repr" = none) : RunG P w K mg base (k + 1) f fd ["heap", "wishes", "lists", "row"] (spLRowsR C) := by
  refine okG F scRoR (spLRowsR_len C) (fun cdv A outer s H vs Q E hA hr h => ?_)
  obtain ⟨h, l, wi, a, t, ns, ls, row, rfl, src, W, lx, et, r300, v, no, q⟩ := h
  refine ⟨_, pss_cons (ps_set (i := 4) scRoR.nd rfl (.inl rfl) (pe_call Dr.ok hr rfl Dr.m Dr.k Dr.b .nil pass0 (pa_cons (pv 0) (pa_cons (pe_op op_add (pe_callB call_len_seq (by rfl) ml PySem.boot_len (pa_cons (pv 3) pa_nil)) pe_int) pa_nil))))
      (pss_cons (ps_set (i := 5) scRoR.nd rfl (.inl rfl) (pe_lst (pa_cons (pv 3) (pa_cons (pe_slice sl_tupA (pv 3) po_none (po_some (pe_un un_neg pe_int))) (pa_cons (pe_op op_catA (pv 3) (pe_slice sl_tupA (pv 3) (po_some (pe_un un_neg pe_int)) po_none)) (pa_cons (pe_revT (pv 3)) (pa_cons (pe_callTy call_list_of (by rfl) mli (by decide +kernel) (pa_cons (pv 3) pa_nil)) (pa_cons pe_non (pa_cons (pe_tup pa_nil) pa_nil)))))))))
      (pss_cons (ps_set (i := 5) scRoR.nd rfl (.inl rfl) (pe_op op_cat (pv 5) (pe_lst (pa_cons (pe_op op_catA (pe_slice sl_tupA (pv 3) po_none (po_some (pv 4))) (pe_slice sl_tupA (pv 3) (po_some (pe_op op_add (pv 4) pe_int)) po_none)) (pa_cons (pe_op op_catA (pe_op op_catA (pe_slice sl_tupA (pv 3) po_none (po_some (pv 4))) (pe_tup (pa_cons pe_bl pa_nil))) (pe_slice sl_tupA (pv 3) (po_some (pe_op op_add (pv 4) pe_int)) po_none)) pa_nil)))))
      (pss_cons (ps_for PassesOwn.never rfl (pi_range1 rfl mrg (pa_cons pe_int pa_nil)) (pg_name (i := 6) scRoR.nd rfl (.inl rfl))
      (pss_cons (ps_expr (pe_bm PySem.F.plainAttrs_list PySem.F.slot_list_append PySem.F.type_list_append mt_append (pv 5) (pa_cons (pe_op op_catA (pe_op op_catA (pe_slice sl_tupA (pv 3) po_none (po_some (pv 4))) (pe_tup (pa_cons (pe_call Dr.ok hr rfl Dr.m Dr.k Dr.b .nil pass0 (pa_cons (pv 0) (pa_cons (pe_callB call_len_seq (by rfl) ml PySem.boot_len (pa_cons (pv 2) pa_nil)) pa_nil))) pa_nil))) (pe_slice sl_tupA (pv 3) (po_some (pv 4)) po_none)) pa_nil)))
      (pss_one (ps_expr (pe_bm PySem.F.plainAttrs_list PySem.F.slot_list_append PySem.F.type_list_append mt_append (pv 5) (pa_cons (pe_op op_catA (pe_op op_catA (pe_slice sl_tupA (pv 3) po_none (po_some (pv 4))) (pe_tup (pa_cons (pe_call Dr.ok hr rfl Dr.m Dr.k Dr.b .nil pass0 (pa_cons (pv 0) (pa_cons (pe_callB call_len_seq (by rfl) ml PySem.boot_len (pa_cons (pv 2) pa_nil)) pa_nil))) pa_nil))) (pe_slice sl_tupA (pv 3) (po_some (pe_op op_add (pv 4) pe_int)) po_none)) pa_nil))))))
      (pss_cons (ps_for PassesOwn.never rfl (pi_list (pv 5)) (pg_name (i := 7) scRoR.nd rfl (.inl rfl))
      (pss_one (ps_if (pt_cmpR op_ne (pe_callB call_repr_bl (by rfl) mrp (by decide +kernel) (pa_cons (pe_call Ia.ok hr rfl Ia.m Ia.k Ia.b .nil pass0 (pa_cons (pv 1) (pa_cons (pv 7) pa_nil))) pa_nil)) (pe_callB call_repr_bl (by rfl) mrp (by decide +kernel) (pa_cons (pe_call Ir.ok hr rfl Ir.m Ir.k Ir.b .nil pass0 (pa_cons (pv 2) (pa_cons (pv 7) pa_nil))) pa_nil)) (nomark _)) (pss_one (ps_ret pe_bl)) pss_nil)))
      (pss_one (ps_ret (pe_cmpR op_is_bl (pe_named Ia.ok hr rfl Ia.m Ia.k nIa pass0 (pk_cons (pv 3) (pk_cons (pv 1) pk_nil))) pe_bl (nomark _)))))))), ?_⟩
  have n60 := W.n60
  have ok := W.ok
  have pr := pvt_VI row
  have rl := VI_len row
  refine ⟨_, rfl, _, rfl, t, _, rfl, .inr (SqT.of et), ?_⟩
  rw [rl]
  refine ⟨_, _, rfl, rfl, h, l, _, rfl, src, by omega, by omega, fun x H1 x0 x1 sr1 br1 => gn ?_⟩
  obtain ⟨m, rfl⟩ : ∃ m : Nat, x = (m : Int) := ⟨x.toNat, by omega⟩
  dsimp only [List.set, L2.start]
  have et1 := tup_bar src br1 et
  -- the first seven
  refine ⟨_, rfl, _, rfl, _, rfl, _, rfl, slP et1 pr fun c1 z1 H2 s2 e1 l1 p1 => ?_⟩
  refine ⟨_, rfl, _, rfl, _, rfl, _, rfl, ?_⟩
  try dsimp only [L2.tNoPart]
  refine slP (s2 _ _ et1) pr fun c2 z2 H3 s3 e2 l2 p2 => ?_
  refine catP ((s2.trans s3) _ _ et1) e2 pr p2 (by rw [rl] at *; omega) fun c3 z3 H4 s4 e3 l3 p3 => ?_
  have s14 := s2.trans (s3.trans s4)
  refine ⟨_, rfl, t, _, rfl, SqT.of (s14 _ _ et1), fun c4 n4 => ?_⟩
  have s5 := same_upd (o := .tup (VI row).reverse) n4
  have e4 : (upd H4 c4 (.tup (VI row).reverse)) c4 = some (.tup (VI row).reverse) := upd_same
  have p4 : PvT (VI row).reverse := fun x hx => pr x (List.mem_reverse.mp hx)
  generalize upd H4 c4 (.tup (VI row).reverse) = H5 at s5 e4
  have s15 := s14.trans s5
  refine ⟨_, rfl, t, _, rfl, .inr (SqT.of (s15 _ _ et1)), fun c5 n5 => ?_⟩
  have s6 := same_upd (o := .lst (VI row)) n5
  have e5 : (upd H5 c5 (.lst (VI row))) c5 = some (.lst (VI row)) := upd_same
  generalize upd H5 c5 (.lst (VI row)) = H6 at s6 e5
  refine ⟨(by show 0 ≤ sizeLine; decide), fun c6 n6 => ?_⟩
  have s7 := same_upd (o := .tup []) n6
  have e6 : (upd H6 c6 (.tup [])) c6 = some (.tup []) := upd_same
  generalize upd H6 c6 (.tup []) = H7 at s7 e6
  have s17 := s15.trans (s6.trans s7)
  refine ⟨(by show 7 ≤ sizeLine; decide), fun F1 nF1 => gn ?_⟩
  have s8 := same_upd (o := .lst [.ref t, .ref c1, .ref c3, .ref c4, .ref c5, .non, .ref c6]) nF1
  have eF1 : (upd H7 F1 (.lst [.ref t, .ref c1, .ref c3, .ref c4, .ref c5, .non, .ref c6])) F1 = some (.lst [.ref t, .ref c1, .ref c3, .ref c4, .ref c5, .non, .ref c6]) := upd_same
  try dsimp only [List.set]
  generalize upd H7 F1 (.lst [.ref t, .ref c1, .ref c3, .ref c4, .ref c5, .non, .ref c6]) = H8 at s8 eF1
  have s18 := s17.trans s8
  have et8 := s18 _ _ et1
  have all1 : ∀ x ∈ ([.ref t, .ref c1, .ref c3, .ref c4, .ref c5, .non, .ref c6] : List V), Pv H8 x := by
    intro x hx
    simp only [List.mem_cons, List.not_mem_nil, or_false] at hx
    have s78 := s7.trans s8
    have s68 := s6.trans s78
    have s58 := s5.trans s68
    rcases hx with rfl | rfl | rfl | rfl | rfl | rfl | rfl
    · exact .tup et8 pr
    · exact .tup ((s3.trans (s4.trans s58)) _ _ e1) p1
    · exact .tup (s58 _ _ e3) p3
    · exact .tup (s68 _ _ e4) p4
    · exact .lst (s78 _ _ e5)
    · exact .flat .non rfl
    · exact .tup (s8 _ _ e6) fun x hx => by cases hx
  -- two more
  refine ⟨_, rfl, _, rfl, _, rfl, _, rfl, slP et8 pr fun d1 y1 H9 s9 f1 k1 q1 => ?_⟩
  refine ⟨_, rfl, _, rfl, _, _, rfl, rfl, _, rfl, ?_⟩
  try dsimp only [L2.tNoPart]
  refine slP (s9 _ _ et8) pr fun d2 y2 H10 s10 f2 k2 q2 => ?_
  refine catP (s10 _ _ f1) f2 q1 q2 (by rw [rl] at *; omega) fun d3 y3 H11 s11 f3 k3 q3 => ?_
  have s811 := s9.trans (s10.trans s11)
  have et11 := s811 _ _ et8
  refine ⟨_, rfl, _, rfl, _, rfl, slP et11 pr fun d4 y4 H12 s12 f4 k4 q4 => ⟨(by show 1 ≤ sizeLine; decide), fun u nu => ?_⟩⟩
  have s13 := same_upd (o := .tup [.bl true]) nu
  have fu : (upd H12 u (.tup [.bl true])) u = some (.tup [.bl true]) := upd_same
  have pT : PvT [.bl true] := fun x hx => by
    rw [List.mem_singleton] at hx
    exact ⟨none, hx⟩
  generalize upd H12 u (.tup [.bl true]) = H13 at s13 fu
  refine catP (s13 _ _ f4) fu q4 pT (by rw [rl] at *; simp; omega) fun d5 y5 H14 s14' f5 k5 q5 => ?_
  have s1114 := s12.trans (s13.trans s14')
  have et14 := s1114 _ _ et11
  refine ⟨_, rfl, _, rfl, _, _, rfl, rfl, _, rfl, ?_⟩
  try dsimp only [L2.tNoPart]
  refine slP et14 pr fun d6 y6 H15 s15' f6 k6 q6 => ?_
  refine catP (s15' _ _ f5) f6 q5 q6 (by rw [rl] at *; simp at *; omega) fun d7 y7 H16 s16 f7 k7 q7 => ?_
  refine ⟨(by show 2 ≤ sizeLine; decide), fun F2 nF2 => ?_⟩
  have s1116 := s1114.trans (s15'.trans s16)
  have s816 := s811.trans s1116
  have f3' := s1116 _ _ f3
  have s17' := same_upd (o := .lst [.ref d3, .ref d7]) nF2
  have eF2 : (upd H16 F2 (.lst [.ref d3, .ref d7])) F2 = some (.lst [.ref d3, .ref d7]) := upd_same
  have f3'' := s17' _ _ f3'
  have f7' := s17' _ _ f7
  have s817 := s816.trans s17'
  generalize upd H16 F2 (.lst [.ref d3, .ref d7]) = H17 at s17' eF2 f3'' f7' s817
  refine ⟨F1, F2, _, _, rfl, rfl, s817 _ _ eF1, eF2, (by show 9 ≤ sizeLine; decide), fun F nF => gn ?_⟩
  try dsimp only [List.set]
  have s18' := same_upd (o := .lst ([.ref t, .ref c1, .ref c3, .ref c4, .ref c5, .non, .ref c6] ++ [.ref d3, .ref d7])) nF
  have eF : (upd H17 F (.lst ([.ref t, .ref c1, .ref c3, .ref c4, .ref c5, .non, .ref c6] ++ [.ref d3, .ref d7]))) F = some (.lst ([.ref t, .ref c1, .ref c3, .ref c4, .ref c5, .non, .ref c6] ++ [.ref d3, .ref d7])) := upd_same
  have all2 : ∀ x ∈ ([.ref t, .ref c1, .ref c3, .ref c4, .ref c5, .non, .ref c6] ++ [.ref d3, .ref d7] : List V), Pv (upd H17 F (.lst ([.ref t, .ref c1, .ref c3, .ref c4, .ref c5, .non, .ref c6] ++ [.ref d3, .ref d7]))) x := by
    intro x hx
    rcases List.mem_append.mp hx with hx | hx
    · exact (all1 x hx).same (s817.trans s18')
    · simp only [List.mem_cons, List.not_mem_nil, or_false] at hx
      rcases hx with rfl | rfl
      · exact .tup (s18' _ _ f3'') q3
      · exact .tup (s18' _ _ f7') q7
  have s1F := s18.trans (s817.trans s18')
  have nF0 : H F = none := br1.free sr1 ((s18.trans s817).free nF)
  have lenF : ([.ref t, .ref c1, .ref c3, .ref c4, .ref c5, .non, .ref c6] ++ [.ref d3, .ref d7] : List V).length = 9 := rfl
  generalize ([.ref t, .ref c1, .ref c3, .ref c4, .ref c5, .non, .ref c6] ++ [.ref d3, .ref d7] : List V) = X0 at eF all2 lenF s1F s18'
  generalize upd H17 F (.lst X0) = H18 at s18' eF all2 s1F
  obtain ⟨nFh, nFl⟩ := src.new nF0
  have sr18 := sr1.same s1F
  have br18 : Bar h l H H18 := br1.trans (.same s1F)
  obtain ⟨xs, ea, xl⟩ := lx.lt.len
  -- a drawn item put in
  refine ⟨_, rfl, by decide, by decide, for_it (J := Itr 0 3) (n := 3) walk_range0 (fun i σ H' => ∃ (y6 : Option V) (X : List V), σ = [some (.ref h), some (.ref wi), some (.ref a), some (.ref t), some (.int (m : Nat)), some (.ref F), y6, none] ∧ Src H' h l ∧ Bar h l H H' ∧ H' F = some (.lst X) ∧ X.length = 9 + 2 * i ∧ ∀ x ∈ X, Pv H' x)
    ⟨none, X0, rfl, sr18, br18, eF, lenF, all2⟩ (fun _ _ _ _ _ => trivial) ?_ ?_⟩
  · rintro i x σ Ha' Ha hi ⟨y6, X, rfl, sr, br, eX, xlen, allX⟩ ⟨rfl, rfl⟩
    refine gn ?_
    dsimp only [List.set]
    have eta := tup_bar src br et
    have eaa := tup_bar src br ea
    refine ⟨_, rfl, .inl ⟨rfl, _, SqL.of eX⟩, _, rfl, _, rfl, _, rfl, slP eta pr fun g1 v1 Hb sb h1 j1 u1 => ?_⟩
    refine ⟨_, rfl, _, rfl, a, _, rfl, .inr (SqT.of (sb _ _ eaa)), ?_⟩
    rw [xl]
    refine ⟨h, l, _, rfl, sr.same sb, by omega, by omega, fun y Hc y0 yn src' brc => ⟨(by show 1 ≤ sizeLine; decide), fun u2 nu2 => ?_⟩⟩
    obtain ⟨p, rfl⟩ : ∃ p : Nat, y = (p : Int) := ⟨y.toNat, by omega⟩
    have sd := same_upd (o := .tup [.int (p : Nat)]) nu2
    have hu2 : (upd Hc u2 (.tup [.int (p : Nat)])) u2 = some (.tup [.int (p : Nat)]) := upd_same
    have pp : PvT [.int (p : Nat)] := fun x hx => by
      rw [List.mem_singleton] at hx
      exact ⟨some p, hx⟩
    generalize upd Hc u2 (.tup [.int (p : Nat)]) = Hd at sd hu2
    have srb := sr.same sb
    have h1d := sd _ _ (tup_bar srb brc h1)
    refine catP h1d hu2 u1 pp (by rw [rl] at *; simp; omega) fun g3 v3 He se h3 j3 u3 => ?_
    have brd : Bar h l Hb He := brc.trans (.same (sd.trans se))
    have ete := tup_bar srb brd (sb _ _ eta)
    refine ⟨_, rfl, _, rfl, _, rfl, ?_⟩
    try dsimp only [L2.tNoPart]
    refine slP ete pr fun g4 v4 Hf sf h4 j4 u4 => ?_
    refine catP (sf _ _ h3) h4 u3 u4 (by rw [rl] at *; simp at *; omega) fun g5 v5 Hg sg h5 j5 u5 => ?_
    have srg : Src Hg h l := src'.same (sd.trans (se.trans (sf.trans sg)))
    have brg0 : Bar h l Ha Hg := (Bar.same sb).trans (brd.trans (.same (sf.trans sg)))
    have brg := br.trans brg0
    have eXg := brg0 _ _ nFh nFl eX
    have allg : ∀ x ∈ X, Pv Hg x := fun x hx => (allX x hx).bar sr srg brg0
    refine ⟨F, _, _, rfl, rfl, eXg, sz5 (by omega), ?_⟩
    have eX2 : (upd Hg F (.lst (X ++ [.ref g5]))) F = some (.lst (X ++ [.ref g5])) := upd_same
    have sr2 : Src (upd Hg F (.lst (X ++ [.ref g5]))) h l := srg.put nFh nFl
    have br2 : Bar h l H (upd Hg F (.lst (X ++ [.ref g5]))) := brg.fresh nF0
    have all3 : ∀ x ∈ X ++ [.ref g5], Pv (upd Hg F (.lst (X ++ [.ref g5]))) x := fun x hx => by
      rcases List.mem_append.mp hx with hx | hx
      · exact (allg x hx).put eXg
      · rw [List.mem_singleton.mp hx]
        exact (Pv.tup h5 u5).put eXg
    generalize upd Hg F (.lst (X ++ [.ref g5])) = Hh at eX2 sr2 br2 all3
    -- the second one
    have eta2 := tup_bar src br2 et
    have eaa2 := tup_bar src br2 ea
    have xl2 : (X ++ [V.ref g5]).length = 10 + 2 * i := by rw [List.length_append, xlen]; simp; omega
    generalize X ++ [V.ref g5] = X2 at eX2 all3 xl2
    refine ⟨_, rfl, .inl ⟨rfl, _, SqL.of eX2⟩, _, rfl, _, rfl, _, rfl, slP eta2 pr fun g1 v1 Hb sb h1 j1 u1 => ?_⟩
    refine ⟨_, rfl, _, rfl, a, _, rfl, .inr (SqT.of (sb _ _ eaa2)), ?_⟩
    rw [xl]
    refine ⟨h, l, _, rfl, sr2.same sb, by omega, by omega, fun y Hc y0 yn src' brc => ⟨(by show 1 ≤ sizeLine; decide), fun u2 nu2 => ?_⟩⟩
    obtain ⟨p, rfl⟩ : ∃ p : Nat, y = (p : Int) := ⟨y.toNat, by omega⟩
    have sd := same_upd (o := .tup [.int (p : Nat)]) nu2
    have hu2 : (upd Hc u2 (.tup [.int (p : Nat)])) u2 = some (.tup [.int (p : Nat)]) := upd_same
    have pp : PvT [.int (p : Nat)] := fun x hx => by
      rw [List.mem_singleton] at hx
      exact ⟨some p, hx⟩
    generalize upd Hc u2 (.tup [.int (p : Nat)]) = Hd at sd hu2
    have srb := sr2.same sb
    have h1d := sd _ _ (tup_bar srb brc h1)
    refine catP h1d hu2 u1 pp (by rw [rl] at *; simp; omega) fun g3 v3 He se h3 j3 u3 => ?_
    have brd : Bar h l Hb He := brc.trans (.same (sd.trans se))
    have ete := tup_bar srb brd (sb _ _ eta2)
    refine ⟨_, rfl, _, rfl, _, _, rfl, rfl, _, rfl, ?_⟩
    try dsimp only [L2.tNoPart]
    refine slP ete pr fun g4 v4 Hf sf h4 j4 u4 => ?_
    refine catP (sf _ _ h3) h4 u3 u4 (by rw [rl] at *; simp at *; omega) fun g5 v5 Hg sg h5 j5 u5 => ?_
    have srg : Src Hg h l := src'.same (sd.trans (se.trans (sf.trans sg)))
    have brg0 : Bar h l Hh Hg := (Bar.same sb).trans (brd.trans (.same (sf.trans sg)))
    have brg := br2.trans brg0
    have eXg := brg0 _ _ nFh nFl eX2
    have allg : ∀ x ∈ X2, Pv Hg x := fun x hx => (all3 x hx).bar sr2 srg brg0
    refine ⟨F, _, _, rfl, rfl, eXg, sz5 (by omega), _, X2 ++ [.ref g5], rfl, srg.put nFh nFl, brg.fresh nF0, upd_same, by rw [List.length_append, xl2]; simp; omega, fun x hx => ?_⟩
    rcases List.mem_append.mp hx with hx | hx
    · exact (allg x hx).put eXg
    · rw [List.mem_singleton.mp hx]
      exact (Pv.tup h5 u5).put eXg
  · rintro σ Ha ⟨y6, X, rfl, sr, br, eX, xlen, allX⟩
    have Wa := W.bx src (.bar br)
    have lxa := lx.bar src br
    have eta := tup_bar src br et
    refine ⟨_, rfl, F, rfl, ⟨_, SqL.of eX⟩, for_it (walk_list (K := K) (a := F) (xs := X)) (fun i σ H' => ∃ y7 : Option V, σ = [some (.ref h), some (.ref wi), some (.ref a), some (.ref t), some (.int (m : Nat)), some (.ref F), y6, y7] ∧ Same Ha H')
      ⟨none, rfl, same_rfl⟩ (fun i σ H' _ ⟨_, _, sm⟩ => SqL.of (sm _ _ eX)) ?_ ?_⟩
    · rintro i x σ Hb' Hb hi ⟨y7, rfl, sb⟩ ⟨rfl, ex⟩
      refine gn ?_
      dsimp only [List.set]
      have px := (allX x (List.mem_of_getElem? ex)).same sb
      have Wb := Wa.same sb
      have lxb := lxa.same sb
      rcases px.two with tn | ⟨rw', tr⟩
      · refine ⟨_, rfl, _, rfl, wi, x, ns, ls, rfl, Wb, px.1, .inl ⟨tn, false, rfl, ?_⟩⟩
        refine ⟨_, rfl, _, rfl, a, x, ls, rfl, lxb, ok, n60.1, n60.2, px.1, .inl ⟨tn, fun H' s' => ⟨false, rfl, rfl, false, congrArg V.bl (by simp), iteF ?_⟩⟩⟩
        exact ⟨_, rfl, sb.trans s'⟩
      · refine ⟨_, rfl, _, rfl, wi, x, ns, ls, rfl, Wb, px.1, .inr ⟨rw', tr, fun b1 H1' i1 s1' => ⟨b1, rfl, ?_⟩⟩⟩
        refine ⟨_, rfl, _, rfl, a, x, ls, rfl, lxb.same s1', ok, n60.1, n60.2, px.1.same s1', .inr ⟨rw', by rw [tupOf_same px.1 s1']; exact tr, fun b2 H2' i2 s2' => ⟨b2, rfl, ?_⟩⟩⟩
        have eb : b1 = b2 := Bool.eq_iff_iff.mpr (i1.trans i2.symm)
        subst eb
        refine ⟨rfl, false, congrArg V.bl (by simp), iteF ?_⟩
        exact ⟨_, rfl, sb.trans (s1'.trans s2')⟩
    · rintro σ Hb ⟨y7, rfl, sb⟩
      have etb := sb _ _ eta
      refine ⟨_, rfl, _, rfl, wi, .ref t, ns, ls, rfl, Wa.same sb, .tup etb, .inr ⟨row.map some, by simp [tupOf, etb, VQ_some], fun b1 H1' i1 s1' => ⟨b1, true, rfl, rfl, ?_⟩⟩⟩
      have hb : b1 = true := i1.mpr ⟨row, rfl, v, no⟩
      subst hb
      exact q _ ((sr.same sb).same s1') (br.trans (.same (sb.trans s1')))
end
end K14
namespace K14
open PySem PySem.Spec PyProof.Rows L2
/-- rows by the same sequence are the same -/
theorem ord_uniq {ls : List (List Nat)} {s r1 r2 : List Nat} (lt : ∀ x ∈ s, x < ls.length) (v1 : Val ls r1) (o1 : OrdBy ls s r1) (e1 : askers ls (bh ls r1) = []) (v2 : Val ls r2) (o2 : OrdBy ls s r2) (e2 : askers ls (bh ls r2) = []) : r1 = r2 := by
  have key : ∀ i, r1.take i = r2.take i := by
    intro i
    induction i with
    | zero => rfl
    | succ i ih =>
      cases c1 : r1[i]? with
      | some p =>
        cases c2 : r2[i]? with
        | some p2 =>
          have f1 := o1 i p c1
          have f2 := o2 i p2 c2
          rw [ih, f2] at f1
          cases f1
          rw [take_snoc c1, take_snoc c2, ih]
        | none =>
          have l2 : r2.length ≤ i := List.getElem?_eq_none_iff.mp c2
          have m := v1 i p c1
          rw [ih, List.take_of_length_le l2, e2] at m
          cases m
      | none =>
        have l1 : r1.length ≤ i := List.getElem?_eq_none_iff.mp c1
        cases c2 : r2[i]? with
        | none =>
          have l2 : r2.length ≤ i := List.getElem?_eq_none_iff.mp c2
          rw [List.take_of_length_le (by omega), List.take_of_length_le (by omega)]
          rw [List.take_of_length_le l1, List.take_of_length_le l2] at ih
          exact ih
        | some p2 =>
          have m := v2 i p2 c2
          rw [← ih, List.take_of_length_le l1, e1] at m
          cases m
  have := key (r1.length + r2.length)
  rw [List.take_of_length_le (by omega), List.take_of_length_le (by omega)] at this
  exact this
/-- the text of a list with one number in it, without its ends -/
theorem cut_one (p : Nat) : cutS (PyData.list [.int (p : Nat)]).shown (some 1) (some (-1)) = (PyData.int (p : Nat)).shown := by
  have e : (PyData.list [.int (p : Nat)]).shown.cps.toList = 91 :: ((PyData.int (p : Nat)).shown.cps.toList ++ [93]) := by
    have := ShX.sh_list [.int (p : Nat)]
    rw [ShX.its_cons, ShX.rss_nil, List.append_nil] at this
    exact this
  have len : (PyData.list [.int (p : Nat)]).shown.length = (PyData.int (p : Nat)).shown.cps.toList.length + 2 := by
    show (PyData.list [.int (p : Nat)]).shown.cps.size = _
    rw [← Array.length_toList, e]
    simp
  unfold cutS
  rw [len, e]
  have i1 : HT.sIx ((PyData.int (p : Nat)).shown.cps.toList.length + 2) 0 (some 1) = 1 := by
    show min 1 ((PyData.int (p : Nat)).shown.cps.toList.length + 2) = 1
    omega
  have i2 : HT.sIx ((PyData.int (p : Nat)).shown.cps.toList.length + 2) ((PyData.int (p : Nat)).shown.cps.toList.length + 2) (some (-1)) = (PyData.int (p : Nat)).shown.cps.toList.length + 1 := by
    show ((-1 : Int) + (((PyData.int (p : Nat)).shown.cps.toList.length + 2 : Nat) : Int)).toNat = _
    omega
  rw [i1, i2, List.drop_one, List.tail_cons, Nat.add_sub_cancel, List.take_left]
def spLOrdR (C : Addr) : Sp := fun vs H Q _ => ∃ (h l wi a e : Addr) (ns ls : List (List Nat)) (g : List (Option Nat)), vs = [.ref h, .ref wi, .ref a, .ref e] ∧ Src H h l ∧ WAt C H wi ns ls ∧ LX H a ls ∧ H e = some (.tup (VH g)) ∧ Great ls g ∧
  ∀ H', Src H' h l → Bar h l H H' → Q (.bl true) H'
theorem spLOrdR_len (C : Addr) : ∀ vs H Q E, spLOrdR C vs H Q E → vs.length = (["heap", "wishes", "lists", "end"] : List Str).length := by
  rintro vs H Q E ⟨h, l, wi, a, e, ns, ls, g, rfl, _⟩
  rfl
theorem scOrR : FnScope ["heap", "wishes", "lists", "end", "turn", "order", "told", "holds", "person", "some", "one", "row"] ["heap", "wishes", "lists", "end"] (defScope sLOrdersRight) := ⟨rfl, rfl, rfl, by decide +kernel, rfl, by decide +kernel, by decide +kernel⟩
section
variable {P : Program} {w : World} {K : PySem.W.Frag} {mg : Str → Option Value} {base : Heap}
set_option maxHeartbeats 1000000 in
theorem ok_orders_right {f f1 f2 f3 f4 C : Addr} {fd d1 d2 d3 d4 : FuncData} {k : Nat} (F : Fun K "_law_orders_right" "_law_orders_right" sLOrdersRight f fd) (Sh : Has P w K mg base k "_law_shuffled" ["heap", "some"] spShuffled f1 d1) (By : Has P w K mg base k "askers_by" ["wishes", "order"] (spAskersBy C) f2 d2) (nBy : KBinds K d2 ["wishes", "order"] ["order", "wishes"] (fun us ws => us ++ ws.reverse) (fun vs zs => vs ++ zs.reverse))
    (Cn : Has P w K mg base k "_law_can" ["lists", "holds"] spLCan f3 d3) (Bd : Has P w K mg base k "_law_behind" ["lists", "holds", "person"] spLBehind f4 d4) (mis : mg "isinstance" = none) (mt : mg "tuple" = none) (ml : mg "len" = none) (mli : mg "list" = none) (mrg : mg "range" = none) (mrp : mg "repr" = none) (msu : mg "sum" = none) : RunG P w K mg base (k + 1) f fd ["heap", "wishes", "lists", "end"] (spLOrdR C) := by
  refine okG F scOrR (spLOrdR_len C) (fun cdv A outer s H vs Q E hA hr h => ?_)
  obtain ⟨h, l, wi, a, e, ns, ls, g, rfl, src, W, lx, ee, gr, q⟩ := h
  refine ⟨_, pss_cons (ps_for PassesOwn.never rfl (pi_range1 rfl mrg (pa_cons pe_int pa_nil)) (pg_name (i := 4) scOrR.nd rfl (.inl rfl))
      (pss_cons (ps_set (i := 5) scOrR.nd rfl (.inl rfl) (pe_call Sh.ok hr rfl Sh.m Sh.k Sh.b .nil pass0 (pa_cons (pv 0) (pa_cons (pe_listRg rfl (by rfl) mli (prg_1 (by rfl) mrg (pe_callB call_len_seq (by rfl) ml PySem.boot_len (pa_cons (pv 2) pa_nil)))) pa_nil))))
      (pss_cons (ps_par (i := 6) (j := 7) rfl scOrR.nd rfl rfl (by decide) rfl rfl (pa_cons (pe_call By.ok hr rfl By.m By.k By.b .nil pass0 (pa_cons (pv 1) (pa_cons (pv 5) pa_nil))) (pa_cons (pe_op op_repA (pe_tup (pa_cons pe_non pa_nil)) (pe_callB call_len_seq (by rfl) ml PySem.boot_len (pa_cons (pv 2) pa_nil))) pa_nil)) (by rfl))
      (pss_cons (ps_if (PW.pt (pw_or (pt_cmpR (op_neD hr.units) (pe_named By.ok hr rfl By.m By.k nBy pass0 (pk_cons (pv 5) (pk_cons (pv 1) pk_nil))) (pv 6) (nomark _)) (pw_or1 (pt_not (pt_val (pe_callB call_isi (by rfl) mis (by decide +kernel) (pa_cons (pv 6) (pa_cons (pe_bltn (v := .ty "tuple") (by rfl) mt (by decide +kernel) rfl) pa_nil)))))))) (pss_one (ps_ret pe_bl)) pss_nil)
      (pss_cons (ps_for PassesOwn.never rfl (pi_tup (pv 6)) (pg_name (i := 8) scOrR.nd rfl (.inl rfl))
      (pss_cons (ps_set (i := 9) scOrR.nd rfl (.inr rfl) (pe_call Cn.ok hr rfl Cn.m Cn.k Cn.b .nil pass0 (pa_cons (pv 2) (pa_cons (pv 7) pa_nil))))
      (pss_cons (ps_if (pt_cmpR op_ne (pe_callB (call_reprV hA hr.units) (by rfl) mrp (by decide +kernel) (pa_cons (pv 8) pa_nil)) (pe_slice sl_str (pe_callB (call_repr hA hr.units) (by rfl) mrp (by decide +kernel) (pa_cons (pe_slice sl_list (pe_lc (own := [("one", 10)]) (g := gName 10) (tt := tTest (tOp (rIn K false) (tVar 10) (tVar 9))) (te := tVar 10) rfl scOrR.nd (pi_tup (pv 5))
          (blkOk_by (own := [("one", 10)]) (N := ["heap", "wishes", "lists", "end", "turn", "order", "told", "holds", "person", "some", "one", "row"]) (sc := defScope sLOrdersRight) (by decide +kernel)) (fun _ _ _ _ _ => (pg_name (i := 10) scOrR.nd rfl (Or.inl rfl))) (fun _ _ _ _ _ => (pts_one (pt_cmpR op_in_seq (pv 10) (pv 9) rfl)))
          (fun _ _ _ _ _ => (pv 10))) po_none (po_some pe_int)) pa_nil)) (po_some pe_int) (po_some (pe_un un_neg pe_int))) (nomark _)) (pss_one (ps_ret pe_bl)) pss_nil)
      (pss_one (ps_set (i := 7) scOrR.nd rfl (.inl rfl) (pe_call Bd.ok hr rfl Bd.m Bd.k Bd.b .nil pass0 (pa_cons (pv 2) (pa_cons (pv 7) (pa_cons (pv 8) pa_nil)))))))))
      (pss_one (ps_if (PW.pt (pw_or (pt_cmpR (op_neD hr.units) (pv 7) (pv 3) (nomark _)) (pw_or1 (pt_cmpR op_gt (pe_callB call_len_seq (by rfl) ml PySem.boot_len (pa_cons (pv 6) pa_nil)) (pe_callB (cr_sum rfl) (by rfl) msu (by decide +kernel) (pa_cons (pe_lc (own := [("row", 11)]) (g := gName 11) (tt := tYes) (te := tCB (fun xs H Q => ∃ p ys, xs = [V.ref p] ∧ (SqL K H p ys ∨ SqT K H p ys) ∧ Q (V.int ys.length) H) (tCons (tVar 11) tNil)) rfl scOrR.nd (pi_tup (pv 2))
          (blkOk_by (own := [("row", 11)]) (N := ["heap", "wishes", "lists", "end", "turn", "order", "told", "holds", "person", "some", "one", "row"]) (sc := defScope sLOrdersRight) (by decide +kernel)) (fun _ _ _ _ _ => (pg_name (i := 11) scOrR.nd rfl (Or.inl rfl))) (fun _ _ _ _ _ => pts_nil)
          (fun _ _ _ _ _ => (pe_callB call_len_seq (by rfl) ml PySem.boot_len (pa_cons (pv 11) pa_nil)))) pa_nil)) (nomark _))))) (pss_one (ps_ret pe_bl)) pss_nil)))))))
      (pss_one (ps_ret pe_bl)), ?_⟩
  have n60 := W.n60
  have ok := W.ok
  have big := sum_none_le n60.2 ok
  obtain ⟨xs, ea, xl⟩ := lx.lt.len
  refine ⟨_, rfl, by decide, by decide, for_it (J := Itr 0 2) (n := 2) walk_range0 (fun i σ H' => ∃ (y4 y5 y6 y7 y8 y9 : Option V), σ = [some (.ref h), some (.ref wi), some (.ref a), some (.ref e), y4, y5, y6, y7, y8, y9, none, none] ∧ Src H' h l ∧ Bar h l H H')
    ⟨none, none, none, none, none, none, rfl, src, .refl⟩ (fun _ _ _ _ _ => trivial) ?_ ?_⟩
  · rintro i x σ Ha' Ha hi ⟨y4, y5, y6, y7, y8, y9, rfl, sr, br⟩ ⟨rfl, rfl⟩
    refine gn ?_
    dsimp only [List.set]
    have eaa := tup_bar src br ea
    refine ⟨_, rfl, _, rfl, a, _, rfl, .inr (SqT.of eaa), ?_⟩
    rw [xl]
    refine ⟨_, rfl, RgOk.of_le (Int.le_refl 0) (by omega) (by decide) (by omega), fun L nL => ?_⟩
    rw [rg_VI]
    have sL := same_upd (o := .lst (VI (List.range ls.length))) nL
    have eL : (upd Ha L (.lst (VI (List.range ls.length)))) L = some (.lst (VI (List.range ls.length))) := upd_same
    have n1 := sr.new nL
    generalize upd Ha L (.lst (VI (List.range ls.length))) = Hb at sL eL
    refine ⟨h, l, L, _, rfl, sr.same sL, eL, n1.1, n1.2, by rw [VI_len, List.length_range]; omega, fun o ys Hc pm src' brc no exo => gn ?_⟩
    dsimp only [List.set]
    obtain ⟨t, rfl, pt⟩ := perm_VI pm
    have lt : ∀ x ∈ t, x < ls.length := fun x hx => List.mem_range.mp (pt.mem_iff.mp hx)
    have all : ∀ p, p < ls.length → p ∈ t := fun p hp => pt.mem_iff.mpr (List.mem_range.mpr hp)
    have tlen : t.length = ls.length := by rw [pt.length_eq, List.length_range]
    have br2 : Bar h l H Hc := br.trans ((Bar.same sL).trans brc)
    have W2 := W.bx src (.bar br2)
    have lx2 := lx.bar src br2
    have ea2 := tup_bar src br2 ea
    have ee2 := tup_bar src br2 ee
    refine ⟨_, rfl, _, rfl, wi, o, ns, ls, t, rfl, W2, .inr exo, lt, all, fun r row Hd sd er v ob ed => ⟨(by show 1 ≤ sizeLine; decide), fun u nu => ?_⟩⟩
    have su := same_upd (o := .tup [.non]) nu
    refine ⟨_, rfl, a, xs, rfl, .inr (SqT.of (su _ _ (sd _ _ ea2))), ?_⟩
    rw [xl]
    refine repZ (m := ls.length) rfl upd_same n60.1 (by omega) fun p0 He se ep0 => ⟨_, _, rfl, ?_⟩
    dsimp only [List.set]
    have s2e := sd.trans (su.trans se)
    have er' := (su.trans se) _ _ er
    refine ⟨_, rfl, _, rfl, wi, o, ns, ls, t, rfl, W2.same s2e, .inr (exo.same s2e), lt, all, fun r2 row2 Hf sf er2 v2 ob2 ed2 => ?_⟩
    have eq := ord_uniq lt v2 ob2 ed2 v ob ed
    subst eq
    refine ⟨_, rfl, dI _, dI _, dp_dI (.inl er2), dp_dI (.inl (sf _ _ er')), sh_dI _, sh_dI _, false, congrArg V.bl (by rw [eq_dI]; rfl), iteF ?_⟩
    have s2f := s2e.trans sf
    have erf := sf _ _ er'
    have ep0f := sf _ _ ep0
    refine (⟨_, rfl, _, _, _, _, true, rfl, .ty _, .base (.tup erf), kit_ty (by decide +kernel), ⟨_, rfl, iteF ?_⟩⟩)
    have rle := val_len ok v
    refine ⟨_, rfl, r, rfl, ⟨_, SqT.of erf⟩, for_it (walk_tup (K := K) (a := r) (xs := VI row2)) (fun ii σ H' => ∃ (hp : Addr) (y8 y9 : Option V), σ = [some (.ref h), some (.ref wi), some (.ref a), some (.ref e), some (.int (i : Nat)), some (.ref o), some (.ref r), some (.ref hp), y8, y9, none, none] ∧ Same Hf H' ∧ H' hp = some (.tup (VH (bh ls (row2.take ii)))))
      ⟨p0, y8, y9, rfl, same_rfl, ep0f⟩ (fun i σ H' _ ⟨_, _, _, _, sm, _⟩ => SqT.of (sm _ _ erf)) ?_ ?_⟩
    · rintro j x σ Hg' Hg hj ⟨hp, y8, y9, rfl, sg, ehp⟩ ⟨rfl, ex⟩
      refine gn ?_
      dsimp only [List.set]
      rw [VI_len] at hj
      have ep : row2[j]? = some row2[j] := List.getElem?_eq_getElem hj
      have ex2 : (VI row2)[j]? = some x := ex
      rw [VI_get ep] at ex2
      cases ex2
      have m := v j _ ep
      have fo := ob j _ ep
      have tk := take_snoc ep
      have hp60 := askers_lt _ m
      generalize row2[j] = p at ep m fo tk hp60
      have ho := val_ok ok (v.take j)
      have lxg := lx2.same (s2f.trans sg)
      refine ⟨_, rfl, _, rfl, a, hp, ls, _, rfl, lxg, ehp, ho, ok, n60.2, fun sm Hh sh esm => gn ?_⟩
      dsimp only [List.set]
      have tp := tx_int (K := K) (H := Hh) (p := p) (by omega)
      refine ⟨_, rfl, _, _, rfl, tp.dp, tp.sm, tp.rp.sh, tp.rp.nd, tp.rp.dp, tp.rp.ln, ?_⟩
      have exo' : Tp Hh o (VI t) := .inr (exo.same (s2f.trans (sg.trans sh)))
      refine ⟨_, rfl, o, rfl, ⟨_, exo'.sq⟩, fun D nD => ?_⟩
      refine lc_sel (walk_tup (K := K) (a := o) (xs := VI t)) (by rw [VI_len, tlen]; omega) (VI t) (fV fun x => decide (x ∈ askers ls (bh ls (row2.take j)))) rfl nD (fun _ sm2 => (exo'.same sm2).sq) ?_ ?_
      · rintro m2 y Hi Hi' R Z yes' no' hm2 si ⟨rfl, ey⟩
        rw [VI_len] at hm2
        have ey2 : (VI t)[m2]? = some y := ey
        rw [VI_get (List.getElem?_eq_getElem hm2)] at ey2
        cases ey2
        rw [VI_getD hm2] at yes' no'
        refine gn ⟨rfl, _, rfl, _, rfl, sm, _, rfl, .inr (SqT.of (si _ _ esm)), rfl, flat_VI _, inV (.int (t[m2] : Nat)) (VI (askers ls (bh ls (row2.take j)))), rfl, ?_⟩
        rw [inV_VI]
        cases cd : decide (t[m2] ∈ askers ls (bh ls (row2.take j))) with
        | true => exact iteT ⟨_, rfl, yes' _ same_rfl (by show decide _ = true; exact cd)⟩
        | false => exact iteF (no' _ same_rfl (by show decide _ = false; exact cd))
      · intro Hi si eD
        rw [VI_filter] at eD
        have fl : (t.filter fun x => decide (x ∈ askers ls (bh ls (row2.take j)))).take 1 = [p] := by
          have e1 : t.filter (fun x => decide (x ∈ askers ls (bh ls (row2.take j)))) = t.filter (fun x => (askO ls (bh ls (row2.take j)) x).isSome) := List.filter_congr fun x hx => by
            rw [Bool.eq_iff_iff, decide_eq_true_eq]
            exact (askO_some (lt x hx)).symm
          rw [e1]
          have e2 : (t.filter (fun x => (askO ls (bh ls (row2.take j)) x).isSome)).head? = some p := by
            rw [List.head?_filter]
            exact fo
          cases e3 : t.filter (fun x => (askO ls (bh ls (row2.take j)) x).isSome) with
          | nil => rw [e3] at e2; cases e2
          | cons b tl => rw [e3] at e2; cases e2; rfl
        refine ⟨_, rfl, D, _, rfl, SqL.of eD, fun D2 nD2 => ?_⟩
        have e2 : cutV (VI (t.filter fun x => decide (x ∈ askers ls (bh ls (row2.take j))))) none (some 1) = VI [p] := by
          have := cut_take (VI (t.filter fun x => decide (x ∈ askers ls (bh ls (row2.take j))))) 1
          rw [show (some (((1 : Nat) : Int)) : Option Int) = some 1 from rfl] at this
          rw [this, ← fl]
          exact (List.map_take ..).symm
        have sD2 := same_upd (o := .lst (VI [p])) nD2
        have eD2 : (upd Hi D2 (.lst (VI [p]))) D2 = some (.lst (VI [p])) := upd_same
        rw [e2]
        generalize upd Hi D2 (.lst (VI [p])) = Hj at sD2 eD2
        have tl : Rp (PyData.list [.int (p : Nat)]) := by
          have := rp_int (n := p) (by omega)
          refine ⟨by simp only [PyData.showable, PyData.showableAll]; have h := this.sh; simp only [PyData.showable] at h; rw [h]; rfl, by simp only [PyData.hasDict, PyData.hasDictAll]; rfl, by simp only [PyData.depth, PyData.depthAll]; decide, ?_⟩
          have e : (PyData.list [.int (p : Nat)]).shown.cps.toList = 91 :: ((PyData.int (p : Nat)).shown.cps.toList ++ [93]) := by
            have := ShX.sh_list [.int (p : Nat)]
            rw [ShX.its_cons, ShX.rss_nil, List.append_nil] at this
            exact this
          show (PyData.list [.int (p : Nat)]).shown.cps.size ≤ _
          rw [← Array.length_toList, e]
          have l20 : (PyData.int (p : Nat)).shown.cps.toList.length ≤ 20 := this.ln
          rw [List.length_cons, List.length_append, List.length_singleton]
          exact Nat.le_trans (m := 100) (by omega) (by decide)
        refine ⟨D2, PyData.list [.int (p : Nat)], rfl, .lst (SqL.of eD2) (.cons (.int _) .nil), tl.sh, tl.nd, tl.dp, tl.ln, ?_⟩
        refine ⟨_, rfl, _, rfl, _, rfl, _, rfl, tl.ln, ?_⟩
        rw [cut_one]
        refine ⟨rfl, false, congrArg V.bl (by simp), iteF ?_⟩
        have sgj := sh.trans (si.trans sD2)
        have ehpj := sgj _ _ ehp
        refine ⟨_, rfl, _, rfl, _, rfl, a, hp, ls, _, p, rfl, lxg.same sgj, ehpj, ho, ok, n60.2, m, fun c Hk sk ec => gn ?_⟩
        dsimp only [List.set]
        exact ⟨c, _, _, rfl, sg.trans (sgj.trans sk), by rw [ec, tk, bh_snoc]⟩
    · rintro σ Hg ⟨hp, y8, y9, rfl, sg, ehp⟩
      rw [VI_len, List.take_length] at ehp
      have eg : bh ls row2 = g := great_one (val_end ok v ed) gr
      rw [eg] at ehp
      have sfg := s2f.trans sg
      have eqH : PyData.eqv (dH g) (dH g) = true := SeqAt.eqv_refl _ (Bool.and_eq_true _ _ ▸ sh_dH _).1
      refine ⟨_, rfl, _, rfl, dH g, dH g, dp_dH ehp, dp_dH (sfg _ _ ee2), sh_dH _, sh_dH _, false, congrArg V.bl (by rw [eqH]; rfl), iteF ?_⟩
      refine ⟨_, rfl, r, _, rfl, .inr (SqT.of (sg _ _ erf)), ?_⟩
      rw [VI_len]
      have eag := sfg _ _ ea2
      refine ⟨_, rfl, a, rfl, ⟨_, SqT.of eag⟩, fun D nD => ?_⟩
      refine lc_same (walk_tup (K := K) (a := a) (xs := xs)) (by omega) (fun p => .int ((la ls p).length : Nat)) nD (fun _ sm => SqT.of (sm _ _ eag)) ?_ ?_
      · rintro m x Hh Hh' Z out hm sm ⟨rfl, ex⟩
        obtain ⟨c, s', rfl, es, ec⟩ := (lx2.same sfg).lt.row eag ex
        have es' : s' = la ls m := by rw [la_of es]
        subst es'
        refine gn ⟨rfl, _, rfl, c, _, rfl, .inr (ec.same sm).sq, ?_⟩
        rw [VI_len]
        exact out _ same_rfl
      · intro Hh sh eD
        have eD' : Hh D = some (.lst ((((List.range ls.length).map fun p => ((la ls p).length : Int))).map V.int)) := by
          rw [eD, xl, List.map_map]
          rfl
        refine ⟨D, _, rfl, SqL.of eD', ?_⟩
        rw [tot_sum]
        refine ⟨_, _, rfl, rfl, false, congrArg V.bl (decide_eq_false (by omega)), iteF ?_⟩
        exact ⟨_, _, _, _, _, _, rfl, src'.same (sfg.trans sh), br2.trans (.same (sfg.trans sh))⟩
  · rintro σ Ha ⟨y4, y5, y6, y7, y8, y9, rfl, sr, br⟩
    exact q _ sr br
end
end K14
/-! tuples that are written out: what stands behind them, said once -/
namespace K14
open PySem PySem.Spec PyProof.Rows L2
def PC (c : V) : Hp → V → Prop := fun _ v => v = c
def PT (P : Hp → List V → Prop) : Hp → V → Prop := fun H v => ∃ p xs, v = .ref p ∧ H p = some (.tup xs) ∧ P H xs
def PNl : Hp → List V → Prop := fun _ xs => xs = []
def PCn (P : Hp → V → Prop) (R : Hp → List V → Prop) : Hp → List V → Prop := fun H xs => ∃ x r, xs = x :: r ∧ P H x ∧ R H r
structure LitE (t : TE) (P : Hp → V → Prop) : Prop where
  mono : ∀ H H' v, P H v → Same H H' → P H' v
  run : ∀ σ H (Q : VK), (∀ v H', Same H H' → P H' v → Q v H') → t σ H Q
structure LitA (t : TA) (n : Nat) (P : Hp → List V → Prop) : Prop where
  mono : ∀ H H' v, P H v → Same H H' → P H' v
  len : ∀ H xs, P H xs → xs.length = n
  run : ∀ σ H (Q : List V → Hp → Prop), (∀ xs H', Same H H' → P H' xs → Q xs H') → t σ H Q
theorem lC {c : V} : LitE (tC c) (PC c) := ⟨fun _ _ _ h _ => h, fun _ H _ q => q _ H (Same.refl H) rfl⟩
theorem lNil : LitA tNil 0 PNl := ⟨fun _ _ _ h _ => h, fun _ _ h => by rw [h]; rfl, fun _ H _ q => q _ H (Same.refl H) rfl⟩
theorem lCons {t : TE} {P : Hp → V → Prop} {ts : TA} {n : Nat} {R : Hp → List V → Prop} (a : LitE t P) (r : LitA ts n R) : LitA (tCons t ts) (n + 1) (PCn P R) where
  mono := fun H H' v ⟨x, xs, e, h1, h2⟩ s => ⟨x, xs, e, a.mono _ _ _ h1 s, r.mono _ _ _ h2 s⟩
  len := fun H xs ⟨x, ys, e, _, h2⟩ => by rw [e, List.length_cons, r.len _ _ h2]
  run := fun σ H Q q => a.run σ H _ fun x H1 s1 p1 => r.run σ H1 _ fun xs H2 s2 p2 => q _ H2 (s1.trans s2) ⟨x, xs, rfl, a.mono _ _ _ p1 s2, p2⟩
theorem lTup {ts : TA} {n : Nat} {R : Hp → List V → Prop} (r : LitA ts n R) (h : n ≤ 1000 := by decide) : LitE (tTup ts) (PT R) where
  mono := fun H H' v ⟨p, xs, e, h1, h2⟩ s => ⟨p, xs, e, s _ _ h1, r.mono _ _ _ h2 s⟩
  run := fun σ H Q q => r.run σ H _ fun xs H1 s1 p1 => ⟨by rw [r.len _ _ p1]; exact Nat.le_trans h (by rw [sizeLine_eq]; decide), fun p np => by
    have s2 : Same H1 (upd H1 p (.tup xs)) := fun b x e => by
      rw [upd_ne (ne_of_none e np)]
      exact e
    exact q _ _ (s1.trans s2) ⟨p, xs, rfl, upd_same, r.mono _ _ _ p1 s2⟩⟩
end K14
namespace K14
open PySem PySem.Spec PyProof.Rows L2
theorem vals_take : ∀ (n : Nat) {zs : List V} {ws : List Value}, Vals zs ws → Vals (zs.take n) (ws.take n)
  | 0, _, _, _ => by rw [List.take_zero, List.take_zero]; exact .nil
  | n + 1, _, _, .nil => .nil
  | n + 1, _, _, .cons r t => by
    rw [List.take_succ_cons, List.take_succ_cons]
    exact .cons r (vals_take n t)
/-- the last two, the last one first -/
theorem last2 {K : PySem.W.Frag} {x qual : Str} {st : Stmt} {f : Addr} {fd : FuncData} {n m o : Str} (F : Fun K x qual st f fd)
    (h0 : ∀ (kV doc pm : Value) (an : Option Addr) (cdv ct u v t : Value), bindArgs (PySem.W.fnOf x qual (defArgs st) (defBody st) (defScope st) .none kV doc pm an cdv ct) ⟨[u, v, t], []⟩ = pure [(n, u), (m, v), (o, t)])
    (h1 : ∀ (kV doc pm : Value) (an : Option Addr) (cdv ct u v t : Value), bindArgs (PySem.W.fnOf x qual (defArgs st) (defBody st) (defScope st) .none kV doc pm an cdv ct) ⟨[u, v], [(o, t)]⟩ = pure [(n, u), (m, v), (o, t)])
    (h2 : ∀ (kV doc pm : Value) (an : Option Addr) (cdv ct u v t : Value), bindArgs (PySem.W.fnOf x qual (defArgs st) (defBody st) (defScope st) .none kV doc pm an cdv ct) ⟨[u], [(o, t), (m, v)]⟩ = pure [(n, u), (m, v), (o, t)]) :
    KBinds K fd [n, m, o] [o, m] (fun us ws => us ++ (ws.take 2).reverse) (fun vs zs => vs ++ (zs.take 2).reverse) := by
  obtain ⟨oc, od, kV, doc, pm, an, cdv, ct, osl, rfl, lk, hcd⟩ := F.ex
  refine ⟨fun s us ws _ hl => ?_, fun a b => a.append (vals_rev (vals_take 2 b))⟩
  match us, ws, hl with
  | [u, v, t], [], _ => exact .of_eq (h0 kV doc pm an cdv ct u v t)
  | [u, v], [t], _ => exact .of_eq (h1 kV doc pm an cdv ct u v t)
  | [u], t :: v :: ws, _ => exact .of_eq (h2 kV doc pm an cdv ct u v t)
  | [], [], hl => simp at hl
  | [_], [], hl => simp at hl
  | [_, _], [], hl => simp at hl
  | [], [_], hl => simp at hl
  | [_], [_], hl => simp at hl
  | [], _ :: _ :: _, hl => simp at hl
  | [_, _], _ :: _ :: _, hl => simp at hl
  | _ :: _ :: _ :: _ :: _, [], hl => simp at hl
  | _ :: _ :: _ :: _, [_], hl => simp at hl
  | _ :: _ :: _ :: _, _ :: _ :: _, hl => simp at hl
/-! ### the greatest steady holds of fixed wishes, by asking -/
def step1 (ls : List (List Nat)) (hs : List (Option Nat)) : List (Option Nat) :=
  match (List.range ls.length).find? (fun p => (fst ls hs p).isSome && !decide (some p ∈ hs)) with
  | some p => (match fst ls hs p with | some j => hs.set j (some p) | none => hs)
  | none => hs
def runs (ls : List (List Nat)) : Nat → List (Option Nat)
  | 0 => List.replicate ls.length none
  | m + 1 => step1 ls (runs ls m)
theorem not_in {hs : List (Option Nat)} {n p : Nat} (hl : hs.length = n) : (∀ q, q < n → ha hs q ≠ some p) ↔ ¬ some p ∈ hs := by
  constructor
  · intro h hm
    obtain ⟨q, hq, e⟩ := List.mem_iff_getElem.mp hm
    refine h q (by omega) ?_
    unfold ha
    rw [List.getD_eq_getElem?_getD, List.getElem?_eq_getElem hq, e]
    rfl
  · intro h q hq e
    have := ha_get (hs := hs) (p := q) (by omega)
    rw [e] at this
    exact h (List.mem_of_getElem? this)
theorem runs_ok {ls : List (List Nat)} (ok : ListsOk ls.length ls) : ∀ m, Half ls (runs ls m) ∧ Top ls (runs ls m)
  | 0 => ⟨half_none, top_none⟩
  | m + 1 => by
    obtain ⟨h, t⟩ := runs_ok ok m
    show Half ls (step1 ls (runs ls m)) ∧ Top ls (step1 ls (runs ls m))
    unfold step1
    split
    · rename_i p e
      have hp := List.mem_range.mp (List.mem_of_find?_eq_some e)
      have hc := List.find?_some e
      rw [Bool.and_eq_true] at hc
      split
      · rename_i j ef
        have free := (not_in (p := p) h.ok.len).mpr (by simpa using hc.2)
        exact ⟨(ask ok h hp ef free).1, ask_top ok h t hp ef⟩
      · exact ⟨h, t⟩
    · exact ⟨h, t⟩
theorem runs_great {ls : List (List Nat)} (ok : ListsOk ls.length ls) (m : Nat) (e : (List.range ls.length).find? (fun p => (fst ls (runs ls m) p).isSome && !decide (some p ∈ runs ls m)) = none) : Great ls (runs ls m) := by
  obtain ⟨h, t⟩ := runs_ok ok m
  refine great_of h t fun p j hp ef => Classical.byContradiction fun c => ?_
  have := List.find?_eq_none.mp e p (List.mem_range.mpr hp)
  rw [ef] at this
  have free := (not_in (p := p) h.ok.len).mp fun q hq z => c ⟨q, hq, z⟩
  simp [free] at this
def ls5 : List (List Nat) := [[1, 3], [2, 0], [3, 1], [0, 2, 4], [3]]
def ns5 : List (List Nat) := [[97], [98], [99], [100], [101]]
theorem ok5 : ListsOk ls5.length ls5 := lists_of (by decide +kernel)
theorem nok5 : NamesOk ls5.length ns5 := names_look (ns := ns5) (by decide +kernel)
def hs5 : List (Option Nat) := [some 3, some 0, some 1, some 2, none]
theorem great5 : Great ls5 hs5 := by
  have h := runs_great ok5 12 (by decide +kernel)
  rw [show runs ls5 12 = hs5 by decide +kernel] at h
  exact h
theorem VN5 : VN ns5 = [.str "a", .str "b", .str "c", .str "d", .str "e"] := by
  unfold VN ns5
  have e : ∀ (s : List Nat) (x : Str), x = SS s → V.str (SS s) = V.str x := fun s x h => by rw [h]
  simp only [List.map_cons, List.map_nil]
  rw [e [97] "a" (by decide +kernel), e [98] "b" (by decide +kernel), e [99] "c" (by decide +kernel), e [100] "d" (by decide +kernel), e [101] "e" (by decide +kernel)]

def lsX : List (List Nat) := [[]]
def nsX : List (List Nat) := [[120]]
theorem okX1 : ListsOk lsX.length lsX := lists_of (by decide +kernel)
theorem nokX : NamesOk lsX.length nsX := names_look (ns := nsX) (by decide +kernel)
theorem VNX : VN nsX = [.str "x"] := by
  unfold VN nsX
  have e : ∀ (s : List Nat) (x : Str), x = SS s → V.str (SS s) = V.str x := fun s x h => by rw [h]
  simp only [List.map_cons, List.map_nil]
  rw [e [120] "x" (by decide +kernel)]
def hsX : List (Option Nat) := [none]
theorem greatX : Great lsX hsX := by
  have h := runs_great okX1 1 (by decide +kernel)
  rw [show runs lsX 1 = hsX by decide +kernel] at h
  exact h
theorem lt_one {H : Hp} {t r : Addr} (e : H t = some (.tup [.ref r])) (e1 : H r = some (.tup [])) : LT H t lsX := by
  refine ⟨[r], e, rfl, fun i a s h1 h2 => ?_⟩
  match i, h1, h2 with
  | 0, h1, h2 => cases h1; cases h2; exact .inl e1
  | _ + 1, h1, h2 => cases h1
/-- rows of asks, looked at -/
def valB (ls : List (List Nat)) (row : List Nat) : Bool := (List.range row.length).all fun i => decide (row.getD i 0 ∈ askers ls (bh ls (row.take i)))
theorem val_of {ls : List (List Nat)} {row : List Nat} (h : valB ls row = true) : Val ls row := fun i p e => by
  have hi := (List.getElem?_eq_some_iff.mp e).1
  have := of_decide_eq_true (List.all_eq_true.mp h i (List.mem_range.mpr hi))
  rw [List.getD_eq_getElem?_getD, e] at this
  exact this
theorem run5 : IsRun ls5 [some 4, some 2, some 1, some 3, some 0] := ⟨[4, 2, 1, 3, 0], rfl, val_of (by decide +kernel), by decide +kernel⟩
theorem run5n : ¬ IsRun ls5 [some 4, some 2, some 1, some 3] := fun ⟨r, e, v, no⟩ => by
  have : r = [4, 2, 1, 3] := map_some_inj (t := [4, 2, 1, 3]) e.symm
  subst this
  exact absurd no (by decide +kernel)
theorem bad5 : ¬ Good ls5 [some 4, some 0, some 0] := fun ⟨r, e, v⟩ => by
  have : r = [4, 0, 0] := map_some_inj (t := [4, 0, 0]) e.symm
  subst this
  have := v 2 0 rfl
  exact absurd this (by decide +kernel)
theorem runX : IsRun lsX [] := ⟨[], rfl, val_nil, by decide +kernel⟩
def hs0 : List (Option Nat) := [none, none, none, some 0, none]
theorem hok0 : HoldsOk ls5 hs0 := holds_of (by decide +kernel)
theorem asks0 : askers ls5 hs0 = [1, 2, 3] := by decide +kernel
theorem sum_none_sq {ls : List (List Nat)} (ok : ListsOk ls.length ls) : sumM ls (noneL ls) ≤ ls.length * ls.length := by
  have b : ∀ n, n ≤ ls.length → ((List.range n).map (most ls (noneL ls))).sum ≤ n * ls.length := by
    intro n
    induction n with
    | zero => intro _; simp
    | succ n ih =>
      intro hn
      rw [List.range_succ, List.map_append, List.sum_append, Nat.succ_mul]
      have h1 := ih (by omega)
      have h2 : most ls (noneL ls) n ≤ ls.length := by
        rw [most_none ha_none]
        exact ok.each (la_get (show n < ls.length by omega))
      simp
      omega
  exact b ls.length (Nat.le_refl _)
/-! ### tuples written out -/
theorem pt1 {H : Hp} {v : V} {c1 : V} (h : PT (PCn (PC c1) PNl) H v) : ∃ p, v = .ref p ∧ H p = some (.tup [c1]) := by
  obtain ⟨p, xs, rfl, e, x1, r1, rfl, rfl, rfl⟩ := h
  exact ⟨p, rfl, e⟩
theorem pt2 {H : Hp} {v : V} {c1 c2 : V} (h : PT (PCn (PC c1) (PCn (PC c2) PNl)) H v) : ∃ p, v = .ref p ∧ H p = some (.tup [c1, c2]) := by
  obtain ⟨p, xs, rfl, e, x1, r1, rfl, rfl, x2, r2, rfl, rfl, rfl⟩ := h
  exact ⟨p, rfl, e⟩
theorem pt3 {H : Hp} {v : V} {c1 c2 c3 : V} (h : PT (PCn (PC c1) (PCn (PC c2) (PCn (PC c3) PNl))) H v) : ∃ p, v = .ref p ∧ H p = some (.tup [c1, c2, c3]) := by
  obtain ⟨p, xs, rfl, e, x1, r1, rfl, rfl, x2, r2, rfl, rfl, x3, r3, rfl, rfl, rfl⟩ := h
  exact ⟨p, rfl, e⟩
theorem pt4 {H : Hp} {v : V} {c1 c2 c3 c4 : V} (h : PT (PCn (PC c1) (PCn (PC c2) (PCn (PC c3) (PCn (PC c4) PNl)))) H v) : ∃ p, v = .ref p ∧ H p = some (.tup [c1, c2, c3, c4]) := by
  obtain ⟨p, xs, rfl, e, x1, r1, rfl, rfl, x2, r2, rfl, rfl, x3, r3, rfl, rfl, x4, r4, rfl, rfl, rfl⟩ := h
  exact ⟨p, rfl, e⟩
theorem pt5 {H : Hp} {v : V} {c1 c2 c3 c4 c5 : V} (h : PT (PCn (PC c1) (PCn (PC c2) (PCn (PC c3) (PCn (PC c4) (PCn (PC c5) PNl))))) H v) : ∃ p, v = .ref p ∧ H p = some (.tup [c1, c2, c3, c4, c5]) := by
  obtain ⟨p, xs, rfl, e, x1, r1, rfl, rfl, x2, r2, rfl, rfl, x3, r3, rfl, rfl, x4, r4, rfl, rfl, x5, r5, rfl, rfl, rfl⟩ := h
  exact ⟨p, rfl, e⟩
theorem pt0 {H : Hp} {v : V} (h : PT PNl H v) : ∃ p, v = .ref p ∧ H p = some (.tup []) := by
  obtain ⟨p, xs, rfl, e, rfl⟩ := h
  exact ⟨p, rfl, e⟩
end K14
namespace K14
open PySem PySem.Spec PyProof.Rows L2
def spLaw (K : PySem.W.Frag) (T : List (Addr × Str)) : Sp := fun vs H Q _ => ∃ (a : Addr) (ns : List Int), vs = [.ref a] ∧ SqL K H a (ns.map V.int) ∧ ns.length ≤ 63 ∧ LamX.Tabs T H ∧ ∀ H', Q (.bl true) H'
theorem scL : FnScope ["script", "heap", "turn", "many", "lists", "wishes", "row", "stages", "told", "order"] ["script"] (defScope sLaw) := ⟨rfl, rfl, rfl, by decide +kernel, rfl, by decide +kernel, by decide +kernel⟩
theorem tConsG {t : TE} {ts : TA} {σ : L2.St} {H : Hp} {Q : List V → Hp → Prop} (h : t σ H fun v H1 => ts σ H1 fun vs H2 => Q (v :: vs) H2) : tCons t ts σ H Q := h
section
variable {P : Program} {w : World} {K : PySem.W.Frag} {mg : Str → Option Value} {base : Heap} {Tb : List (Addr × Str)}
set_option maxHeartbeats 2000000 in
theorem ok_law {f fi fI c PT C CR CM g f1 f2 f3 f4 f5 f6 f7 f8 f9 f10 f11 f12 f13 f14 f15 f16 f17 f18 : Addr} {fd di gd d1 d2 d3 d4 d5 d6 d7 d8 d9 d10 d11 d12 d13 d14 d15 d16 d17 d18 : FuncData} {k : Nat} (F : Fun K "law" "law" sLaw f fd) (hc : fd.code = .ref c) (T : Txt K mg C) (M : Mk K C fi)
    (G : HeardT K mg g gd) (ET : ErrT K mg CR CM fI) (TB : TabT Tb base mg c PT (lamQ "law"))
    (Gi : FnOk P w K mg base CX0 (k + 2) fi di ["self", "names", "lists"] (spWInit C)) (bi : Binds K di ["self", "names", "lists"] [])
    (Hp : Has P w K mg base (k + 3) "_law_heap" ["script"] (spHeap K) f1 d1) (Dr : Has P w K mg base (k + 3) "_law_draw" ["heap", "many"] spDraw f2 d2) (Pk : Has P w K mg base (k + 3) "_law_pick" ["heap", "some"] spPick f3 d3) (Sh : Has P w K mg base (k + 3) "_law_shuffled" ["heap", "some"] spShuffled f4 d4)
    (Ls : Has P w K mg base (k + 3) "_law_lists" ["heap", "many", "share"] spLists f5 d5) (Nm : Has P w K mg base (k + 3) "_law_names" ["heap", "many"] spNames f6 d6) (Rn : Has P w K mg base (k + 3) "_law_run" ["heap", "lists"] spLRun f7 d7)
    (An : HasG P w K mg base (k + 3) "_law_any_right" ["heap", "wishes", "lists"] (spLAnyR C Tb) f8 d8) (St : HasG P w K mg base (k + 3) "_law_steps_right" ["wishes", "lists", "row", "stages"] (spLStepsR C Tb) f9 d9) (Ro : HasG P w K mg base (k + 3) "_law_rows_right" ["heap", "wishes", "lists", "row"] (spLRowsR C) f10 d10) (Od : HasG P w K mg base (k + 3) "_law_orders_right" ["heap", "wishes", "lists", "end"] (spLOrdR C) f11 d11)
    (Ao : Has P w K mg base (k + 3) "asked_out" ["wishes"] (spAskedOut C) f12 d12) (nAo : KBinds K d12 ["wishes"] ["wishes"] (fun us ws => us ++ ws) (fun vs zs => vs ++ zs)) (Is : Has P w K mg base (k + 3) "is_steady" ["wishes", "value"] (spIsSteady C) f13 d13) (Cn : Has P w K mg base (k + 3) "_law_can" ["lists", "holds"] spLCan f14 d14)
    (Hb : Has P w K mg base (k + 3) "holds_behind" ["wishes", "row"] (spHoldsBehind C) f15 d15) (By : Has P w K mg base (k + 3) "askers_by" ["wishes", "order"] (spAskersBy C) f16 d16) (As : Has P w K mg base (k + 3) "askers" ["wishes", "holds"] (spAskers C) f17 d17) (Ia : Has P w K mg base (k + 3) "is_asking" ["wishes", "value"] (spIsAsking C) f18 d18)
    {f19 : Addr} {d19 : FuncData} (Hx : HasX P w K mg base (L2.CX P w) (k + 1) "holds_behind" ["wishes", "row"] (spHoldsBehindU C CR) f19 d19)
    (mis : mg "isinstance" = none) (ml : mg "len" = none) (mi : mg "int" = none) (mrg : mg "range" = none) (mli : mg "list" = none) (mrp : mg "repr" = none) : RunG P w K mg base (k + 4) f fd ["script"] (spLaw K Tb) := by
  refine okGC F hc scL (by rintro vs H Q E ⟨a, ns, rfl, _⟩; rfl) (fun A outer s H vs Q E hA hr h => ?_)
  obtain ⟨a, ns, rfl, hS, hl, tb, q⟩ := h
  refine ⟨_, pss_cons (ps_set (i := 1) scL.nd rfl (.inl rfl) (pe_call Hp.ok hr rfl Hp.m Hp.k Hp.b .nil pass0 (pa_cons (pv 0) pa_nil)))
      (pss_cons (ps_for PassesOwn.never rfl (pi_range1 rfl mrg (pa_cons (pe_op op_add pe_int (pe_callTy call_int1 (by rfl) mi (by decide +kernel) (pa_cons (pe_cmp (pc_gt (pe_callB call_len_seq (by rfl) ml PySem.boot_len (pa_cons (pv 0) pa_nil)) pe_int) rfl) pa_nil))) pa_nil)) (pg_name (i := 2) scL.nd rfl (.inl rfl))
      (pss_cons (ps_set (i := 3) scL.nd rfl (.inl rfl) (pe_call Pk.ok hr rfl Pk.m Pk.k Pk.b .nil pass0 (pa_cons (pv 1) (pa_cons (pe_lst (pa_cons pe_int (pa_cons pe_int (pa_cons pe_int (pa_cons pe_int (pa_cons pe_int (pa_cons pe_int (pa_cons pe_int (pa_cons pe_int pa_nil))))))))) pa_nil))))
      (pss_cons (ps_set (i := 4) scL.nd rfl (.inl rfl) (pe_call Ls.ok hr rfl Ls.m Ls.k Ls.b .nil pass0 (pa_cons (pv 1) (pa_cons (pv 3) (pa_cons (pe_call Pk.ok hr rfl Pk.m Pk.k Pk.b .nil pass0 (pa_cons (pv 1) (pa_cons (pe_lst (pa_cons pe_int (pa_cons pe_int (pa_cons pe_int (pa_cons pe_int pa_nil))))) pa_nil))) pa_nil)))))
      (pss_cons (ps_set (i := 5) scL.nd rfl (.inr rfl) (pe_make M Gi hr rfl T.mgC bi .nil pass0 (pa_cons (pe_call Nm.ok hr rfl Nm.m Nm.k Nm.b .nil pass0 (pa_cons (pv 1) (pa_cons (pv 3) pa_nil))) (pa_cons (pv 4) pa_nil))))
      (pss_cons (ps_asg (pe_call Rn.ok hr rfl Rn.m Rn.k Rn.b .nil pass0 (pa_cons (pv 1) (pa_cons (pv 4) pa_nil))) (pg_lst (by rfl) (pgs_cons (pg_name (i := 6) scL.nd rfl (.inl rfl)) (pgs_cons (pg_name (i := 7) scL.nd rfl (.inl rfl)) pgs_nil))))
      (pss_cons (ps_if (PW.pt (pw_or (pt_not (pt_val (pe_callG An.ok (spLAnyR_len C Tb) hA hr (by rfl) An.m An.k An.b pass0 (pa_cons (pv 1) (pa_cons (pv 5) (pa_cons (pv 4) pa_nil)))))) (pw_or (pt_not (pt_val (pe_callG St.ok (spLStepsR_len C Tb) hA hr (by rfl) St.m St.k St.b pass0 (pa_cons (pv 5) (pa_cons (pv 4) (pa_cons (pv 6) (pa_cons (pv 7) pa_nil))))))) (pw_or1 (pt_not (pt_val (pe_callG Ro.ok (spLRowsR_len C) hA hr (by rfl) Ro.m Ro.k Ro.b pass0 (pa_cons (pv 1) (pa_cons (pv 5) (pa_cons (pv 4) (pa_cons (pv 6) pa_nil))))))))))) (pss_one (ps_ret pe_bl)) pss_nil)
      (pss_cons (ps_if (PW.pt (pw_or (pt_cmpR op_ne (pe_callB (call_repr hA hr.units) (by rfl) mrp (by decide +kernel) (pa_cons (pe_call Ao.ok hr rfl Ao.m Ao.k Ao.b .nil pass0 (pa_cons (pv 5) pa_nil)) pa_nil)) (pe_callB (call_repr hA hr.units) (by rfl) mrp (by decide +kernel) (pa_cons (pe_ix ix_list (pv 7) (pe_un un_neg pe_int) (fun _ _ => rfl)) pa_nil)) (nomark _)) (pw_or1 (pt_cmpR (op_neD hr.units) (pe_named Ao.ok hr rfl Ao.m Ao.k nAo pass0 (pk_cons (pv 5) pk_nil)) (pe_ix ix_list (pv 7) (pe_un un_neg pe_int) (fun _ _ => rfl)) (nomark _))))) (pss_one (ps_ret pe_bl)) pss_nil)
      (pss_one (ps_if (PW.pt (pw_or (pt_not (pt_val (pe_call Is.ok hr rfl Is.m Is.k Is.b .nil pass0 (pa_cons (pv 5) (pa_cons (pe_ix ix_list (pv 7) (pe_un un_neg pe_int) (fun _ _ => rfl)) pa_nil))))) (pw_or1 (pt_not (pt_val (pe_callG Od.ok (spLOrdR_len C) hA hr (by rfl) Od.m Od.k Od.b pass0 (pa_cons (pv 1) (pa_cons (pv 5) (pa_cons (pv 4) (pa_cons (pe_ix ix_list (pv 7) (pe_un un_neg pe_int) (fun _ _ => rfl)) pa_nil)))))))))) (pss_one (ps_ret pe_bl)) pss_nil)))))))))
      (pss_cons (ps_if (pt_cmpR op_eq (pe_call Dr.ok hr rfl Dr.m Dr.k Dr.b .nil pass0 (pa_cons (pv 1) (pa_cons pe_int pa_nil))) pe_int (nomark _)) (pss_cons (ps_set (i := 4) scL.nd rfl (.inl rfl) (pe_call Ls.ok hr rfl Ls.m Ls.k Ls.b .nil pass0 (pa_cons (pv 1) (pa_cons (pe_op op_add pe_int (pe_call Dr.ok hr rfl Dr.m Dr.k Dr.b .nil pass0 (pa_cons (pv 1) (pa_cons pe_int pa_nil)))) (pa_cons pe_int pa_nil)))))
      (pss_cons (ps_set (i := 5) scL.nd rfl (.inr rfl) (pe_make M Gi hr rfl T.mgC bi .nil pass0 (pa_cons (pe_call Nm.ok hr rfl Nm.m Nm.k Nm.b .nil pass0 (pa_cons (pv 1) (pa_cons (pe_callB call_len_seq (by rfl) ml PySem.boot_len (pa_cons (pv 4) pa_nil)) pa_nil))) (pa_cons (pv 4) pa_nil))))
      (pss_cons (ps_par (i := 8) (j := 9) rfl scL.nd rfl rfl (by decide) rfl rfl (pa_cons (pe_call Ao.ok hr rfl Ao.m Ao.k Ao.b .nil pass0 (pa_cons (pv 5) pa_nil)) (pa_cons (pe_call Sh.ok hr rfl Sh.m Sh.k Sh.b .nil pass0 (pa_cons (pv 1) (pa_cons (pe_listRg rfl (by rfl) mli (prg_1 (by rfl) mrg (pe_callB call_len_seq (by rfl) ml PySem.boot_len (pa_cons (pv 4) pa_nil)))) pa_nil))) pa_nil)) (by rfl))
      (pss_one (ps_if (PW.pt (pw_or (pt_cmpR (op_neD hr.units) (pe_call Cn.ok hr rfl Cn.m Cn.k Cn.b .nil pass0 (pa_cons (pv 4) (pa_cons (pv 8) pa_nil))) (pe_tup pa_nil) (nomark _)) (pw_or (pt_not (pt_val (pe_call Is.ok hr rfl Is.m Is.k Is.b .nil pass0 (pa_cons (pv 5) (pa_cons (pv 8) pa_nil))))) (pw_or1 (pt_cmpR (op_neD hr.units) (pe_call Hb.ok hr rfl Hb.m Hb.k Hb.b .nil pass0 (pa_cons (pv 5) (pa_cons (pe_call By.ok hr rfl By.m By.k By.b .nil pass0 (pa_cons (pv 5) (pa_cons (pv 9) pa_nil))) pa_nil))) (pv 8) (nomark _)))))) (pss_one (ps_ret pe_bl)) pss_nil))))) pss_nil)
      (pss_cons (ps_set (i := 5) scL.nd rfl (.inr rfl) (pe_make M Gi hr rfl T.mgC bi .nil pass0 (pa_cons (pe_tup (pa_cons pe_str (pa_cons pe_str (pa_cons pe_str (pa_cons pe_str (pa_cons pe_str pa_nil)))))) (pa_cons (pe_tup (pa_cons (pe_tup (pa_cons pe_int (pa_cons pe_int pa_nil))) (pa_cons (pe_tup (pa_cons pe_int (pa_cons pe_int pa_nil))) (pa_cons (pe_tup (pa_cons pe_int (pa_cons pe_int pa_nil))) (pa_cons (pe_tup (pa_cons pe_int (pa_cons pe_int (pa_cons pe_int pa_nil)))) (pa_cons (pe_tup (pa_cons pe_int pa_nil)) pa_nil)))))) pa_nil))))
      (pss_cons (ps_if (PW.pt (pw_or (pt_cmpR (op_neD hr.units) (pe_call Ao.ok hr rfl Ao.m Ao.k Ao.b .nil pass0 (pa_cons (pv 5) pa_nil)) (pe_tup (pa_cons pe_int (pa_cons pe_int (pa_cons pe_int (pa_cons pe_int (pa_cons pe_non pa_nil)))))) (nomark _)) (pw_or1 (pt_cmpR (op_neD hr.units) (pe_call As.ok hr rfl As.m As.k As.b .nil pass0 (pa_cons (pv 5) (pa_cons (pe_tup (pa_cons pe_non (pa_cons pe_non (pa_cons pe_non (pa_cons pe_int (pa_cons pe_non pa_nil)))))) pa_nil))) (pe_tup (pa_cons pe_int (pa_cons pe_int (pa_cons pe_int pa_nil)))) (nomark _))))) (pss_one (ps_ret pe_bl)) pss_nil)
      (pss_cons (ps_if (PW.pt (pw_or (pt_cmpR (op_neD hr.units) (pe_heard G ET mis rfl TB rfl hr (LamX.lamS_by (sc := defScope sLaw) (by decide +kernel)) rfl (fun _ _ _ _ _ => rfl) (fun _ _ _ _ _ _ _ hr => pe_call Hx.ok hr rfl Hx.m Hx.k Hx.b .nil (passes_call (takes_of rfl rfl rfl rfl) (fun _ _ _ _ h => h)) (pa_cons (pv 5) (pa_cons (pe_tup (pa_cons pe_int (pa_cons pe_int (pa_cons pe_int pa_nil)))) pa_nil)))) (pe_tup (pa_cons pe_str (pa_cons pe_str pa_nil))) (nomark _)) (pw_or1 (pt_cmpR (op_neD hr.units) (pe_call Ao.ok hr rfl Ao.m Ao.k Ao.b .nil pass0 (pa_cons (pe_make M Gi hr rfl T.mgC bi .nil pass0 (pa_cons (pe_tup (pa_cons pe_str pa_nil)) (pa_cons (pe_tup (pa_cons (pe_tup pa_nil) pa_nil)) pa_nil))) pa_nil)) (pe_tup (pa_cons pe_non pa_nil)) (nomark _))))) (pss_one (ps_ret pe_bl)) pss_nil)
      (pss_one (ps_ret (pe_and (pe_call Ia.ok hr rfl Ia.m Ia.k Ia.b .nil pass0 (pa_cons (pv 5) (pa_cons (pe_tup (pa_cons pe_int (pa_cons pe_int (pa_cons pe_int (pa_cons pe_int (pa_cons pe_int pa_nil)))))) pa_nil))) (pe_and (pe_not (pe_call Ia.ok hr rfl Ia.m Ia.k Ia.b .nil pass0 (pa_cons (pv 5) (pa_cons (pe_tup (pa_cons pe_int (pa_cons pe_int (pa_cons pe_int (pa_cons pe_int pa_nil))))) pa_nil)))) (pe_one (pe_call Ia.ok hr rfl Ia.m Ia.k Ia.b .nil pass0 (pa_cons (pe_make M Gi hr rfl T.mgC bi .nil pass0 (pa_cons (pe_tup (pa_cons pe_str pa_nil)) (pa_cons (pe_tup (pa_cons (pe_tup pa_nil) pa_nil)) pa_nil))) (pa_cons (pe_tup pa_nil) pa_nil))))))))))))), ?_⟩
  refine ⟨_, rfl, a, ns, rfl, hS, fun h l H1 s1 nh nl src1 => ?_⟩
  have hS1 : SqL K H1 a (ns.map V.int) := s1.seq hS
  have tb1 := tb.ext s1
  refine ⟨_, rfl, a, _, rfl, .inl hS1, _, _, rfl, rfl, .inr ⟨_, rfl, _, _, rfl, rfl, _, rfl, ?_, ?_, for_range (lo := 0) (n := _) (fun i σ H' => ∃ y2 y3 y4 y5 y6 y7 : Option V, σ = [some (.ref a), some (.ref h), y2, y3, y4, y5, y6, y7, none, none] ∧ Src H' h l ∧ LamX.Tabs _ H')
      ⟨none, none, none, none, none, none, rfl, src1, tb1⟩ ?_ ?_⟩⟩
  · split <;> omega
  · split <;> omega
  · rintro i σ H2 hi ⟨y2, y3, y4, y5, y6, y7, rfl, src2, tb2⟩
    refine gn ?_
    dsimp only [List.set]
    refine ⟨_, rfl, (by show 8 ≤ sizeLine; decide), fun v0 nv => ?_⟩
    obtain ⟨nvh, nvl⟩ := src2.new nv
    refine ⟨h, l, v0, _, rfl, src2.updn nv, .inl upd_same, nvh, nvl, by simp, by simp, fun j y H3 hy sr3 br3 => gn ?_⟩
    obtain ⟨many, rfl, m1, m7⟩ : ∃ many : Nat, y = .int (many : Nat) ∧ 1 ≤ many ∧ many ≤ 7 := by
      match j, hy with
      | 0, hy => exact ⟨5, (Option.some.inj hy).symm, by decide, by decide⟩
      | 1, hy => exact ⟨4, (Option.some.inj hy).symm, by decide, by decide⟩
      | 2, hy => exact ⟨6, (Option.some.inj hy).symm, by decide, by decide⟩
      | 3, hy => exact ⟨3, (Option.some.inj hy).symm, by decide, by decide⟩
      | 4, hy => exact ⟨5, (Option.some.inj hy).symm, by decide, by decide⟩
      | 5, hy => exact ⟨7, (Option.some.inj hy).symm, by decide, by decide⟩
      | 6, hy => exact ⟨2, (Option.some.inj hy).symm, by decide, by decide⟩
      | 7, hy => exact ⟨1, (Option.some.inj hy).symm, by decide, by decide⟩
    dsimp only [List.set]
    have tb3 := Tabs.bar (tb2.ext (same_upd nv)) (src2.updn nv) br3
    refine ⟨_, rfl, _, rfl, _, rfl, (by show 4 ≤ sizeLine; decide), fun v' nv' => ?_⟩
    obtain ⟨nvh', nvl'⟩ := sr3.new nv'
    refine ⟨h, l, v', _, rfl, sr3.updn nv', .inl upd_same, nvh', nvl', by simp, by simp, fun j' y' H4 hy' sr4 br4 => ?_⟩
    obtain ⟨sh, rfl, sh0, sh1⟩ : ∃ sh : Int, y' = .int sh ∧ 0 < sh ∧ sh < 1000 := by
      match j', hy' with
      | 0, hy' => exact ⟨4, (Option.some.inj hy').symm, by decide, by decide⟩
      | 1, hy' => exact ⟨9, (Option.some.inj hy').symm, by decide, by decide⟩
      | 2, hy' => exact ⟨99, (Option.some.inj hy').symm, by decide, by decide⟩
      | 3, hy' => exact ⟨2, (Option.some.inj hy').symm, by decide, by decide⟩
    have tb4 := Tabs.bar (tb3.ext (same_upd nv')) (sr3.updn nv') br4
    refine ⟨h, l, many, sh, rfl, sr4, by omega, sh0, sh1, fun la0 ls H5 ok sr5 br5 na lx => gn ?_⟩
    have tb5 := Tabs.bar tb4 sr4 br5
    have ll := ok.len
    subst ll
    dsimp only [List.set]
    refine ⟨_, rfl, _, rfl, h, l, _, rfl, sr5, by omega, by omega, fun n ns' H6 nok sr6 br6 nn en => ⟨_, rfl, ?_⟩⟩
    have tb6 := Tabs.bar tb5 sr5 br6
    have lx6 := lx.bar sr5 br6
    intro x dx nx ndx ne
    have s6 : Same H6 (upd (upd H6 dx (.own x)) x (.ins C dx [])) := (same_rfl.fresh ndx).fresh nx
    refine ⟨x, dx, n, la0, ns', ls, rfl, upd_same, s6 _ _ en, lx6.lt.same s6, by omega, by omega, nok, ok, fun H7 W7 keep => ⟨rfl, gn ?_⟩⟩
    dsimp only [List.set]
    have s67 : Same H6 H7 := fun b o e => keep b o (s6 _ _ e) (ne_of_none e nx)
    have sr7 := sr6.same s67
    have lx7 := lx6.same s67
    have tb7 := tb6.ext s67
    refine ⟨_, rfl, _, rfl, h, l, la0, ls, rfl, sr7, lx7, ok, by omega, by omega, fun r t f us row H8 sr8 br8 er et ef nr nf sg v no => ?_⟩
    have tb8 := Tabs.bar tb7 sr7 br8
    have W8 := W7.bx sr7 (.bar br8)
    have lx8 := lx7.bar sr7 br8
    refine ⟨r, _, rfl, SqL.of er, rfl, _, _, rfl, gn ⟨_, _, rfl, gn ⟨rfl, ?_⟩⟩⟩
    dsimp only [List.set]
    -- any holds
    refine ⟨_, rfl, _, rfl, _, rfl, h, l, x, la0, ns', ls, rfl, sr8, W8, lx8, tb8, fun H9 sr9 bx9 tb9 => ⟨true, rfl, iteF ?_⟩⟩
    have W9 := W8.bx sr8 bx9
    have lx9 := lx8.bx sr8 bx9
    have et9 := bx9.tup sr8 et
    have ef9 := bx9.lst nf.1 nf.2 ef
    have sg9 := sg.bx sr8 bx9
    refine ⟨_, rfl, _, rfl, _, rfl, _, rfl, x, la0, t, f, ns', ls, us, row, rfl, W9, lx9, et9, ef9, sg9, v, tb9, fun Ha xa tba => ⟨true, rfl, iteF ?_⟩⟩
    have sra := sr9.ext xa
    have Wa := W9.ext xa
    have lxa := lx9.ext xa
    have eta := XN.tup xa et9
    have efa := XN.lst xa ef9
    have sga := sg9.ext xa
    have r300 : row.length ≤ 300 := by
      have h1 := val_len ok v
      have h2 := sum_none_sq ok
      have h3 : ls.length * ls.length ≤ 7 * 7 := Nat.mul_le_mul m7 m7
      omega
    refine ⟨_, rfl, _, rfl, _, rfl, _, rfl, h, l, x, la0, t, ns', ls, row, rfl, sra, Wa, lxa, eta, r300, v, no, fun Hb srb brb => ⟨true, rfl, iteF ?_⟩⟩
    have Wb := Wa.bx sra (.bar brb)
    have lxb := lxa.bar sra brb
    have efb := brb _ _ nf.1 nf.2 efa
    have sgb := sga.bar sra brb
    have tbb := Tabs.bar tba sra brb
    obtain ⟨u, eu, eul, euH⟩ := sgb.last
    have lst : atI (us.map V.ref) (-1) = some (.ref u) := atI_end (by rw [List.getLast?_map, eul]; rfl)
    have GR := val_end ok v no
    have rpg := rp_holds0 ok (by omega) GR.ok
    have eqH : PyData.eqv (dH (bh ls row)) (dH (bh ls row)) = true := SeqAt.eqv_refl _ (Bool.and_eq_true _ _ ▸ sh_dH _).1
    refine ⟨_, rfl, x, ns', ls, rfl, Wb, fun r2 g2 Hc G2 sc er2 => ?_⟩
    have eg := great_one G2 GR
    subst eg
    refine ⟨r2, dH _, rfl, dp_dH er2, rpg.sh, rpg.nd, rpg.dp, rpg.ln, ?_⟩
    refine ⟨_, rfl, _, rfl, f, _, -1, _, rfl, rfl, SqL.of (sc _ _ efb), lst, u, dH _, rfl, dp_dH (sc _ _ euH), rpg.sh, rpg.nd, rpg.dp, rpg.ln, rfl, false, congrArg V.bl (by simp), iteF ?_⟩
    refine ⟨_, rfl, x, ns', ls, rfl, Wb.same sc, fun r3 g3 Hd G3 sd er3 => ?_⟩
    have eg3 := great_one G3 GR
    subst eg3
    have scd := sc.trans sd
    refine ⟨_, rfl, _, rfl, f, _, -1, _, rfl, rfl, SqL.of (scd _ _ efb), lst, dH _, dH _, dp_dH er3, dp_dH (scd _ _ euH), sh_dH _, sh_dH _, false, congrArg V.bl (by rw [eqH]; rfl), iteF ?_⟩
    have sB : steadyB ls (bh ls row) = true := (steadyB_iff ok GR.ok).mpr GR.st
    have lb : (bh ls row).length ≤ 100 := by rw [GR.ok.len]; omega
    refine ⟨_, rfl, _, rfl, _, rfl, f, _, -1, _, rfl, rfl, SqL.of (scd _ _ efb), lst, x, ns', ls, .ref u, rfl, Wb.same scd, .tup (scd _ _ euH), tup_its (scd _ _ euH) lb, fun hf => absurd (hf.symm.trans (holds_yes (scd _ _ euH) GR.ok ok)) (by decide), fun hs2 e2 _ He se => ⟨true, (by rw [same_hs (scd _ _ euH) e2, sB]), iteF ?_⟩⟩
    have sce := scd.trans se
    refine ⟨_, rfl, _, rfl, _, rfl, _, rfl, _, rfl, f, _, -1, _, rfl, rfl, SqL.of (sce _ _ efb), lst, h, l, x, la0, u, ns', ls, _, rfl, srb.same sce, Wb.same sce, lxb.same sce, sce _ _ euH, GR, fun Hf srf brf => ⟨true, rfl, iteF ?_⟩⟩
    exact ⟨_, _, _, _, _, _, rfl, srf, Tabs.bar (tbb.ext sce) (srb.same sce) brf⟩
  · rintro σ H0 ⟨y2, y3, y4, y5, y6, y7, rfl, src0, tb0⟩
    dsimp only
    refine seqcut (fun σ' H' => ∃ y2 y3 y4 y5 y6 y7 y8 y9 : Option V, σ' = [some (.ref a), some (.ref h), y2, y3, y4, y5, y6, y7, y8, y9] ∧ LamX.Tabs Tb H') ?_ (fun out => ?_)
    · rintro σ' H2 ⟨y2, y3, y4, y5, y6, y7, y8, y9, rfl, tb2⟩
      dsimp only [L2.tSeq, L2.tAsg, L2.tMake]
      refine (lCons (lTup (lCons lC (lCons lC (lCons lC (lCons lC (lCons lC lNil)))))) (lCons (lTup (lCons (lTup (lCons lC (lCons lC lNil))) (lCons (lTup (lCons lC (lCons lC lNil))) (lCons (lTup (lCons lC (lCons lC lNil))) (lCons (lTup (lCons lC (lCons lC (lCons lC lNil)))) (lCons (lTup (lCons lC lNil)) lNil)))))) lNil)).run _ _ _ fun va Ht stt ha => ?_
      obtain ⟨_, _, rfl, h0, _, _, rfl, ⟨t, ys, rfl, et, z1, w1, rfl, h1, z2, w2, rfl, h2, z3, w3, rfl, h3, z4, w4, rfl, h4, z5, w5, rfl, h5, rfl⟩, rfl⟩ := ha
      obtain ⟨n, rfl, en⟩ := pt5 h0
      obtain ⟨p1, rfl, e1⟩ := pt2 h1
      obtain ⟨p2, rfl, e2⟩ := pt2 h2
      obtain ⟨p3, rfl, e3⟩ := pt2 h3
      obtain ⟨p4, rfl, e4⟩ := pt3 h4
      obtain ⟨p5, rfl, e5⟩ := pt1 h5
      intro x dx nx ndx ne
      have s6 : Same Ht (upd (upd Ht dx (.own x)) x (.ins C dx [])) := (same_rfl.fresh ndx).fresh nx
      have lt : LT Ht t ls5 := lt_five et e1 e2 e3 e4 e5
      have en' : Ht n = some (.tup (VN ns5)) := by rw [VN5]; exact en
      refine ⟨x, dx, n, t, ns5, ls5, rfl, upd_same, s6 _ _ en', lt.same s6, by decide, by decide, nok5, ok5, fun H7 W7 keep => ⟨rfl, gn ?_⟩⟩
      dsimp only [List.set]
      have s7 : Same Ht H7 := fun b o e => keep b o (s6 _ _ e) (ne_of_none e nx)
      have tb7 := (tb2.ext stt).ext s7
      clear keep lt en' et e1 e2 e3 e4 e5 en s6
      -- asked out
      refine ⟨_, rfl, x, ns5, ls5, rfl, W7, fun r1 g1 Ha G1 sa er1 => ?_⟩
      have eg := great_one G1 great5
      subst eg
      refine (lTup (lCons lC (lCons lC (lCons lC (lCons lC (lCons lC lNil)))))).run _ _ _ fun v1 Hb sb q1 => ?_
      obtain ⟨b1, rfl, eb1⟩ := pt5 q1
      have eqH : ∀ hs, PyData.eqv (dH hs) (dH hs) = true := fun hs => SeqAt.eqv_refl _ (Bool.and_eq_true _ _ ▸ sh_dH _).1
      refine ⟨dH hs5, dH hs5, dp_dH (sb _ _ er1), dp_dH eb1, sh_dH _, sh_dH _, false, congrArg V.bl (by rw [eqH]; rfl), iteF ?_⟩
      have sab := sa.trans sb
      refine ⟨_, rfl, ?_⟩
      refine (lTup (lCons lC (lCons lC (lCons lC (lCons lC (lCons lC lNil)))))).run _ _ _ fun v2 Hc sc q2 => ?_
      obtain ⟨b2, rfl, eb2⟩ := pt5 q2
      refine ⟨x, b2, ns5, ls5, hs0, rfl, W7.same (sab.trans sc), eb2, hok0, fun r2 Hd sd er2 => ?_⟩
      rw [asks0] at er2
      refine (lTup (lCons lC (lCons lC (lCons lC lNil)))).run _ _ _ fun v3 He se q3 => ?_
      obtain ⟨b3, rfl, eb3⟩ := pt3 q3
      refine ⟨dI [1, 2, 3], dI [1, 2, 3], dp_dI (.inl (se _ _ er2)), dp_dI (.inl eb3), sh_dI _, sh_dI _, false, congrArg V.bl (by rw [eq_dI]; rfl), iteF ?_⟩
      have s7e := sab.trans (sc.trans (sd.trans se))
      have tbe := tb7.ext s7e
      have We := W7.same s7e
      -- a row that cannot be
      refine ⟨tbe, fun Hf xf tbf => ⟨_, rfl, ?_⟩⟩
      refine (lTup (lCons lC (lCons lC (lCons lC lNil)))).run _ _ _ fun v4 Hg sg q4 => ?_
      obtain ⟨b4, rfl, eb4⟩ := pt3 q4
      have Wg := (We.ext xf).same sg
      refine .inr ⟨x, b4, ns5, ls5, [some 4, some 0, some 0], rfl, Wg, eb4, bad5, fun dd Hh sh ed => ⟨rfl, dd, _, rfl, ed, fun p1' np1 => ?_⟩⟩
      have sp1 := same_upd (o := .tup [.str "refused", .str "asker"]) np1
      have ep1 := upd_same (H := Hh) (a := p1') (o := .tup [.str "refused", .str "asker"])
      generalize upd Hh p1' (.tup [.str "refused", .str "asker"]) = Hi at sp1 ep1
      refine (lTup (lCons lC (lCons lC lNil))).run _ _ _ fun v5 Hj sj q5 => ?_
      obtain ⟨b5, rfl, eb5⟩ := pt2 q5
      refine ⟨dRA, dRA, dp_dRA (sj _ _ ep1), dp_dRA eb5, sh_dRA, sh_dRA, false, congrArg V.bl (by rw [SeqAt.eqv_refl _ (Bool.and_eq_true _ _ ▸ sh_dRA).1]; rfl), iteF ?_⟩
      have Wj := Wg.same (sh.trans (sp1.trans sj))
      -- one person
      try dsimp only [L2.tTest, L2.tOp, L2.tCall]
      refine tConsG ?_
      dsimp only [L2.tMake]
      refine (lCons (lTup (lCons lC lNil)) (lCons (lTup (lCons (lTup lNil) lNil)) lNil)).run _ _ _ fun vb Hk sk hb => ?_
      obtain ⟨_, _, rfl, k0, _, _, rfl, ⟨t', ys', rfl, et', z1', w1', rfl, k1, rfl⟩, rfl⟩ := hb
      obtain ⟨n', rfl, en1⟩ := pt1 k0
      obtain ⟨p6, rfl, e6⟩ := pt0 k1
      intro o od no' nod noe
      have s8 : Same Hk (upd (upd Hk od (.own o)) o (.ins C od [])) := (same_rfl.fresh nod).fresh no'
      have lto : LT Hk t' lsX := lt_one et' e6
      have eno : Hk n' = some (.tup (VN nsX)) := by rw [VNX]; exact en1
      refine ⟨o, od, n', t', nsX, lsX, rfl, upd_same, s8 _ _ eno, lto.same s8, by decide, by decide, nokX, okX1, fun H9 W9 keep9 => ⟨rfl, ?_⟩⟩
      have s9 : Same Hk H9 := fun b ob e => keep9 b ob (s8 _ _ e) (ne_of_none e no')
      refine ⟨o, nsX, lsX, rfl, W9, fun r6 g6 Hl G6 sl er6 => ?_⟩
      have eg6 := great_one G6 greatX
      subst eg6
      refine (lTup (lCons lC lNil)).run _ _ _ fun v6 Hm sm q6 => ?_
      obtain ⟨b6, rfl, eb6⟩ := pt1 q6
      refine ⟨dH hsX, dH hsX, dp_dH (sm _ _ er6), dp_dH eb6, sh_dH _, sh_dH _, false, congrArg V.bl (by rw [eqH]; rfl), iteF ?_⟩
      have Wm := Wj.same (sk.trans (s9.trans (sl.trans sm)))
      -- rows to the end
      refine ⟨_, rfl, ?_⟩
      refine (lTup (lCons lC (lCons lC (lCons lC (lCons lC (lCons lC lNil)))))).run _ _ _ fun v7 Hn sn q7 => ?_
      obtain ⟨b7, rfl, eb7⟩ := pt5 q7
      have eb7' : Hn b7 = some (.tup (VQ [some 4, some 2, some 1, some 3, some 0])) := eb7
      refine ⟨x, .ref b7, ns5, ls5, rfl, Wm.same sn, .tup eb7', .inr ⟨[some 4, some 2, some 1, some 3, some 0], by simp only [tupOf, eb7'], fun c1 Ho i1 so => ⟨c1, rfl, ?_⟩⟩⟩
      have hc1 : c1 = true := i1.mpr run5
      subst hc1
      refine iteT ⟨_, rfl, ?_⟩
      refine (lTup (lCons lC (lCons lC (lCons lC (lCons lC lNil))))).run _ _ _ fun v8 Hp' sp q8 => ?_
      obtain ⟨b8, rfl, eb8⟩ := pt4 q8
      have eb8' : Hp' b8 = some (.tup (VQ [some 4, some 2, some 1, some 3])) := eb8
      refine ⟨x, .ref b8, ns5, ls5, rfl, Wm.same (sn.trans (so.trans sp)), .tup eb8', .inr ⟨[some 4, some 2, some 1, some 3], by simp only [tupOf, eb8'], fun c2 Hq i2 sq => ⟨c2, rfl, ?_⟩⟩⟩
      have hc2 : c2 = false := by
        cases c2 with
        | false => rfl
        | true => exact absurd (i2.mp rfl) run5n
      subst hc2
      refine ⟨true, rfl, iteT ?_⟩
      try dsimp only [L2.tTest, L2.tOp, L2.tCall]
      refine tConsG ?_
      dsimp only [L2.tMake]
      refine (lCons (lTup (lCons lC lNil)) (lCons (lTup (lCons (lTup lNil) lNil)) lNil)).run _ _ _ fun vb Hr sr hb => ?_
      obtain ⟨_, _, rfl, k0, _, _, rfl, ⟨t', ys', rfl, et', z1', w1', rfl, k1, rfl⟩, rfl⟩ := hb
      obtain ⟨n', rfl, en1⟩ := pt1 k0
      obtain ⟨p6, rfl, e6⟩ := pt0 k1
      intro o od no' nod noe
      have s8 : Same Hr (upd (upd Hr od (.own o)) o (.ins C od [])) := (same_rfl.fresh nod).fresh no'
      have lto : LT Hr t' lsX := lt_one et' e6
      have eno : Hr n' = some (.tup (VN nsX)) := by rw [VNX]; exact en1
      refine ⟨o, od, n', t', nsX, lsX, rfl, upd_same, s8 _ _ eno, lto.same s8, by decide, by decide, nokX, okX1, fun H9 W9 keep9 => ⟨rfl, ?_⟩⟩
      refine (lTup lNil).run _ _ _ fun v9 Hs ss q9 => ?_
      obtain ⟨b9, rfl, eb9⟩ := pt0 q9
      have eb9' : Hs b9 = some (.tup (VQ [])) := eb9
      refine ⟨o, .ref b9, nsX, lsX, rfl, W9.same ss, .tup eb9', .inr ⟨[], by simp only [tupOf, eb9'], fun c3 Hu i3 su => ?_⟩⟩
      have hc3 : c3 = true := i3.mpr runX
      subst hc3
      exact q _
    · -- many persons
      refine ⟨_, rfl, h, l, 4, rfl, src0, by decide, by decide, fun y H2 y0 y1 sr2 br2 => ⟨rfl, _, rfl, ?_⟩⟩
      have tb2 := Tabs.bar tb0 src0 br2
      refine ite2 (fun _ => ?_) (fun _ => out _ _ ⟨_, _, _, _, _, _, _, _, rfl, tb2⟩)
      refine ⟨_, rfl, _, rfl, h, l, 7, rfl, sr2, by decide, by decide, fun y H3 y0 y1 sr3 br3 => ?_⟩
      obtain ⟨m, rfl⟩ : ∃ m : Nat, y = (m : Int) := ⟨y.toNat, by omega⟩
      have tb3 := Tabs.bar tb2 sr2 br3
      refine ⟨_, _, rfl, rfl, h, l, 10 + m, 5, by show [V.ref h, V.int ((10 : Int) + (m : Nat)), V.int 5] = _; rw [show (10 : Int) + (m : Nat) = ((10 + m : Nat) : Int) by omega], sr3, by omega, by decide, by decide, fun la0 ls H5 ok sr5 br5 na lx => gn ?_⟩
      have tb5 := Tabs.bar tb3 sr3 br5
      have ll := ok.len
      rw [← ll] at ok
      have l26 : 1 ≤ ls.length ∧ ls.length ≤ 26 := by omega
      clear ll
      dsimp only [List.set]
      obtain ⟨xs, ea, xl⟩ := lx.lt.len
      refine ⟨_, rfl, _, rfl, la0, _, rfl, .inr (SqT.of ea), ?_⟩
      rw [xl]
      refine ⟨h, l, _, rfl, sr5, by omega, by omega, fun n ns' H6 nok sr6 br6 nn en => ⟨_, rfl, ?_⟩⟩
      have tb6 := Tabs.bar tb5 sr5 br6
      have lx6 := lx.bar sr5 br6
      intro x dx nx ndx ne
      have s6 : Same H6 (upd (upd H6 dx (.own x)) x (.ins C dx [])) := (same_rfl.fresh ndx).fresh nx
      refine ⟨x, dx, n, la0, ns', ls, rfl, upd_same, s6 _ _ en, lx6.lt.same s6, by omega, by omega, nok, ok, fun H7 W7 keep => ⟨rfl, gn ?_⟩⟩
      dsimp only [List.set]
      have s67 : Same H6 H7 := fun b o e => keep b o (s6 _ _ e) (ne_of_none e nx)
      have sr7 := sr6.same s67
      have lx7 := lx6.same s67
      have tb7 := tb6.ext s67
      refine ⟨_, rfl, x, ns', ls, rfl, W7, fun r2 g2 H8 G2 s8 er2 => ?_⟩
      obtain ⟨xs8, ea8, xl8⟩ := (lx7.same s8).lt.len
      refine ⟨_, rfl, _, rfl, la0, _, rfl, .inr (SqT.of ea8), ?_⟩
      rw [xl8]
      refine ⟨_, rfl, RgOk.of_le (Int.le_refl 0) (by omega) (by decide) (by omega), fun L nL => ?_⟩
      rw [rg_VI]
      have sL := same_upd (o := .lst (VI (List.range ls.length))) nL
      have eL : (upd H8 L (.lst (VI (List.range ls.length)))) L = some (.lst (VI (List.range ls.length))) := upd_same
      have sr8 := sr7.same s8
      have nLh := sr8.new nL
      have er2' := sL _ _ er2
      have s78 := s8.trans sL
      generalize upd H8 L (.lst (VI (List.range ls.length))) = H9 at sL eL er2' s78
      have sr9 := sr7.same s78
      refine ⟨h, l, L, _, rfl, sr9, eL, nLh.1, nLh.2, by rw [VI_len, List.length_range]; omega, fun o ys Ha pm sra bra no' exo => ⟨_, _, rfl, ?_⟩⟩
      dsimp only [List.set]
      obtain ⟨s0, rfl, pt⟩ := perm_VI pm
      have lt : ∀ x ∈ s0, x < ls.length := fun x hx => List.mem_range.mp (pt.mem_iff.mp hx)
      have all : ∀ p, p < ls.length → p ∈ s0 := fun p hp => pt.mem_iff.mpr (List.mem_range.mpr hp)
      have Wa := (W7.same s78).bx sr9 (.bar bra)
      have lxa := (lx7.same s78).bar sr9 bra
      have tba := Tabs.bar (tb7.ext s78) sr9 bra
      have era := tup_bar sr9 bra er2'
      have noa : askers ls g2 = [] := great_no G2
      refine ⟨_, rfl, _, rfl, la0, r2, ls, g2, rfl, lxa, era, G2.ok, ok, by omega, fun c1 Hb sb ec1 => ⟨(by show 0 ≤ sizeLine; decide), fun zz nz => ?_⟩⟩
      have sz := same_upd (o := .tup []) nz
      rw [noa] at ec1
      refine ⟨dI [], .tuple [], dp_dI (.inl (sz _ _ ec1)), .tup (SqT.of upd_same) .nil, sh_dI _, by decide, false, congrArg V.bl (by rw [eqv_dI_nil]; rfl), iteF ?_⟩
      have sab := sb.trans sz
      have sB : steadyB ls g2 = true := (steadyB_iff ok G2.ok).mpr G2.st
      have lb : g2.length ≤ 100 := by rw [G2.ok.len]; omega
      refine ⟨_, rfl, _, rfl, x, ns', ls, .ref r2, rfl, Wa.same sab, .tup (sab _ _ era), tup_its (sab _ _ era) lb, fun hf => absurd (hf.symm.trans (holds_yes (sab _ _ era) G2.ok ok)) (by decide), fun hs2 e2 _ Hc sc => ⟨true, (by rw [same_hs (sab _ _ era) e2, sB]), iteF ?_⟩⟩
      have sac := sab.trans sc
      refine ⟨_, rfl, _, rfl, _, rfl, x, o, ns', ls, s0, rfl, Wa.same sac, .inr (exo.same sac), lt, all, fun r3 row Hd sd er3 v ob ed => ?_⟩
      have sad := sac.trans sd
      refine ⟨x, r3, ns', ls, row, rfl, Wa.same sad, er3, v, fun r4 He se er4 => ?_⟩
      have eg : bh ls row = g2 := great_one (val_end ok v ed) G2
      rw [eg] at er4
      have eqH : PyData.eqv (dH g2) (dH g2) = true := SeqAt.eqv_refl _ (Bool.and_eq_true _ _ ▸ sh_dH _).1
      refine ⟨_, rfl, dH g2, dH g2, dp_dH er4, dp_dH ((sad.trans se) _ _ era), sh_dH _, sh_dH _, false, congrArg V.bl (by rw [eqH]; rfl), iteF ?_⟩
      exact out _ _ ⟨_, _, _, _, _, _, _, _, rfl, tba.ext (sad.trans se)⟩
end
end K14
namespace K14
open PySem PySem.Spec PyProof.Rows L2
theorem RunG.mono {P : Program} {w : World} {K : PySem.W.Frag} {mg : Str → Option Value} {base : Heap} {k j : Nat} {f : Addr} {fd : FuncData} {ps : List Str} {sp : Sp} (h : RunG P w K mg base k f fd ps sp) (le : k ≤ j) : RunG P w K mg base j f fd ps sp := fun A outer s H args us vs Q E hA r e b v p => h A outer s H args us vs Q E hA (r.mono le) e b v p
set_option maxHeartbeats 8000000 in
theorem all_mk {l : PySem.W.OpenLaw} {w : World} {K : PySem.W.Frag} {h : Heap} {mg : Str → Option Value} {fa C CR CM fH f1 f2 f3 f4 f5 f6 f7 f8 f9 f10 f11 f12 f13 f14 f15 f16 f17 f18 f19 f20 f21 f22 f23 f24 f25 f26 f27 f28 f29 f30 f31 f32 f33 f34 f35 f36 f37 f38 f39 f40 f41 f42 f43 f44 f45 f46 f47 f48 f49 f50 cc46 PT46 cc47 PT47 cc50 PT50 : Addr} {t_MOST_LETTERS t_MOST_PERSONS : Tok} (X : K.In h) (G : h.Ns mainGlobals mg) (hfa : mg "law" = some (.ref fa))
    {od1 an1 od2 an2 od3 an3 od4 an4 od5 an5 od6 an6 od7 an7 od8 an8 od9 an9 od10 an10 od11 an11 od12 an12 od13 an13 od14 an14 od15 an15 od16 an16 od17 an17 od18 an18 od19 an19 od20 an20 od21 an21 od22 an22 od23 an23 od24 an24 od25 an25 od26 an26 od27 an27 od28 an28 od29 an29 od30 an30 od31 an31 od32 an32 od33 an33 od34 an34 od35 an35 od36 an36 od37 an37 od38 an38 od39 an39 od40 an40 od41 an41 od42 an42 od43 an43 od44 an44 od45 an45 od46 an46 od47 an47 od48 an48 od49 an49 od50 an50 odH anH edd : Option Addr} {sl1 sl2 sl3 sl4 sl5 sl6 sl7 sl8 sl9 sl10 sl11 sl12 sl13 sl14 sl15 sl16 sl17 sl18 sl19 sl20 sl21 sl22 sl23 sl24 sl25 sl26 sl27 sl28 sl29 sl30 sl31 sl32 sl33 sl34 sl35 sl36 sl37 sl38 sl39 sl40 sl41 sl42 sl43 sl44 sl45 sl46 sl47 sl48 sl49 sl50 slH : Array (Option Value)} {oc1 kV1 dc1 pm1 cd1 ct1 oc2 kV2 dc2 pm2 cd2 ct2 oc3 kV3 dc3 pm3 cd3 ct3 oc4 kV4 dc4 pm4 cd4 ct4 oc5 kV5 dc5 pm5 cd5 ct5 oc6 kV6 dc6 pm6 cd6 ct6 oc7 kV7 dc7 pm7 cd7 ct7 oc8 kV8 dc8 pm8 cd8 ct8 oc9 kV9 dc9 pm9 cd9 ct9 oc10 kV10 dc10 pm10 cd10 ct10 oc11 kV11 dc11 pm11 cd11 ct11 oc12 kV12 dc12 pm12 cd12 ct12 oc13 kV13 dc13 pm13 cd13 ct13 oc14 kV14 dc14 pm14 cd14 ct14 oc15 kV15 dc15 pm15 cd15 ct15 oc16 kV16 dc16 pm16 cd16 ct16 oc17 kV17 dc17 pm17 cd17 ct17 oc18 kV18 dc18 pm18 cd18 ct18 oc19 kV19 dc19 pm19 cd19 ct19 oc20 kV20 dc20 pm20 cd20 ct20 oc21 kV21 dc21 pm21 cd21 ct21 oc22 kV22 dc22 pm22 cd22 ct22 oc23 kV23 dc23 pm23 cd23 ct23 oc24 kV24 dc24 pm24 cd24 ct24 oc25 kV25 dc25 pm25 cd25 ct25 oc26 kV26 dc26 pm26 cd26 ct26 oc27 kV27 dc27 pm27 cd27 ct27 oc28 kV28 dc28 pm28 cd28 ct28 oc29 kV29 dc29 pm29 cd29 ct29 oc30 kV30 dc30 pm30 cd30 ct30 oc31 kV31 dc31 pm31 cd31 ct31 oc32 kV32 dc32 pm32 cd32 ct32 oc33 kV33 dc33 pm33 cd33 ct33 oc34 kV34 dc34 pm34 cd34 ct34 oc35 kV35 dc35 pm35 cd35 ct35 oc36 kV36 dc36 pm36 cd36 ct36 oc37 kV37 dc37 pm37 cd37 ct37 oc38 kV38 dc38 pm38 cd38 ct38 oc39 kV39 dc39 pm39 cd39 ct39 oc40 kV40 dc40 pm40 cd40 ct40 oc41 kV41 dc41 pm41 cd41 ct41 oc42 kV42 dc42 pm42 cd42 ct42 oc43 kV43 dc43 pm43 cd43 ct43 oc44 kV44 dc44 pm44 cd44 ct44 oc45 kV45 dc45 pm45 cd45 ct45 oc46 kV46 dc46 pm46 ct46 oc47 kV47 dc47 pm47 ct47 oc48 kV48 dc48 pm48 cd48 ct48 oc49 kV49 dc49 pm49 cd49 ct49 oc50 kV50 dc50 pm50 ct50 ocH kVH dcH pmH cdH ctH : Value}
    {enm eq : Str} {eN : Addr} {ebs ebm esub : List Value} {esn : List Str} {eab : Bool} {ecol : Option Bool} {e0 e1 e2 e3 e5 : Option Value}
    (a1 : PySem.W.nsIn K mainGlobals "_law_draw" = some (some (.ref f1))) (l1 : K.lookup f1 = some ⟨oc1, od1, .func (PySem.W.fnOf "_law_draw" "_law_draw" (defArgs sDraw) (defBody sDraw) (defScope sDraw) .none kV1 dc1 pm1 an1 cd1 ct1), sl1⟩) (c1 : PySem.W.codeIn K cd1 "_law_draw" = true) (k1 : PySem.W.keepIn K (.ref f1) = true)
    (a2 : PySem.W.nsIn K mainGlobals "_law_pick" = some (some (.ref f2))) (l2 : K.lookup f2 = some ⟨oc2, od2, .func (PySem.W.fnOf "_law_pick" "_law_pick" (defArgs sPick) (defBody sPick) (defScope sPick) .none kV2 dc2 pm2 an2 cd2 ct2), sl2⟩) (c2 : PySem.W.codeIn K cd2 "_law_pick" = true) (k2 : PySem.W.keepIn K (.ref f2) = true)
    (a3 : PySem.W.nsIn K mainGlobals "_law_heap" = some (some (.ref f3))) (l3 : K.lookup f3 = some ⟨oc3, od3, .func (PySem.W.fnOf "_law_heap" "_law_heap" (defArgs sHeap) (defBody sHeap) (defScope sHeap) .none kV3 dc3 pm3 an3 cd3 ct3), sl3⟩) (c3 : PySem.W.codeIn K cd3 "_law_heap" = true) (k3 : PySem.W.keepIn K (.ref f3) = true)
    (a4 : PySem.W.nsIn K mainGlobals "_law_shuffled" = some (some (.ref f4))) (l4 : K.lookup f4 = some ⟨oc4, od4, .func (PySem.W.fnOf "_law_shuffled" "_law_shuffled" (defArgs sShuffled) (defBody sShuffled) (defScope sShuffled) .none kV4 dc4 pm4 an4 cd4 ct4), sl4⟩) (c4 : PySem.W.codeIn K cd4 "_law_shuffled" = true) (k4 : PySem.W.keepIn K (.ref f4) = true)
    (a5 : PySem.W.nsIn K mainGlobals "_law_names" = some (some (.ref f5))) (l5 : K.lookup f5 = some ⟨oc5, od5, .func (PySem.W.fnOf "_law_names" "_law_names" (defArgs sNames) (defBody sNames) (defScope sNames) .none kV5 dc5 pm5 an5 cd5 ct5), sl5⟩) (c5 : PySem.W.codeIn K cd5 "_law_names" = true) (k5 : PySem.W.keepIn K (.ref f5) = true)
    (a6 : PySem.W.nsIn K mainGlobals "is_number" = some (some (.ref f6))) (l6 : K.lookup f6 = some ⟨oc6, od6, .func (PySem.W.fnOf "is_number" "is_number" (defArgs sIsNumber) (defBody sIsNumber) (defScope sIsNumber) .none kV6 dc6 pm6 an6 cd6 ct6), sl6⟩) (c6 : PySem.W.codeIn K cd6 "is_number" = true) (k6 : PySem.W.keepIn K (.ref f6) = true)
    (a7 : PySem.W.nsIn K mainGlobals "is_below" = some (some (.ref f7))) (l7 : K.lookup f7 = some ⟨oc7, od7, .func (PySem.W.fnOf "is_below" "is_below" (defArgs sIsBelow) (defBody sIsBelow) (defScope sIsBelow) .none kV7 dc7 pm7 an7 cd7 ct7), sl7⟩) (c7 : PySem.W.codeIn K cd7 "is_below" = true) (k7 : PySem.W.keepIn K (.ref f7) = true)
    (a8 : PySem.W.nsIn K mainGlobals "is_tuple_of" = some (some (.ref f8))) (l8 : K.lookup f8 = some ⟨oc8, od8, .func (PySem.W.fnOf "is_tuple_of" "is_tuple_of" (defArgs sIsTupleOf) (defBody sIsTupleOf) (defScope sIsTupleOf) .none kV8 dc8 pm8 an8 cd8 ct8), sl8⟩) (c8 : PySem.W.codeIn K cd8 "is_tuple_of" = true) (k8 : PySem.W.keepIn K (.ref f8) = true)
    (a9 : PySem.W.nsIn K mainGlobals "is_name" = some (some (.ref f9))) (l9 : K.lookup f9 = some ⟨oc9, od9, .func (PySem.W.fnOf "is_name" "is_name" (defArgs sIsName) (defBody sIsName) (defScope sIsName) .none kV9 dc9 pm9 an9 cd9 ct9), sl9⟩) (c9 : PySem.W.codeIn K cd9 "is_name" = true) (k9 : PySem.W.keepIn K (.ref f9) = true)
    (a10 : PySem.W.nsIn K mainGlobals "are_persons" = some (some (.ref f10))) (l10 : K.lookup f10 = some ⟨oc10, od10, .func (PySem.W.fnOf "are_persons" "are_persons" (defArgs sArePersons) (defBody sArePersons) (defScope sArePersons) .none kV10 dc10 pm10 an10 cd10 ct10), sl10⟩) (c10 : PySem.W.codeIn K cd10 "are_persons" = true) (k10 : PySem.W.keepIn K (.ref f10) = true)
    (a11 : PySem.W.nsIn K mainGlobals "are_unlike_persons" = some (some (.ref f11))) (l11 : K.lookup f11 = some ⟨oc11, od11, .func (PySem.W.fnOf "are_unlike_persons" "are_unlike_persons" (defArgs sAreUnlike) (defBody sAreUnlike) (defScope sAreUnlike) .none kV11 dc11 pm11 an11 cd11 ct11), sl11⟩) (c11 : PySem.W.codeIn K cd11 "are_unlike_persons" = true) (k11 : PySem.W.keepIn K (.ref f11) = true)
    (a12 : PySem.W.nsIn K mainGlobals "_law_lists" = some (some (.ref f12))) (l12 : K.lookup f12 = some ⟨oc12, od12, .func (PySem.W.fnOf "_law_lists" "_law_lists" (defArgs sLists) (defBody sLists) (defScope sLists) .none kV12 dc12 pm12 an12 cd12 ct12), sl12⟩) (c12 : PySem.W.codeIn K cd12 "_law_lists" = true) (k12 : PySem.W.keepIn K (.ref f12) = true)
    (a13 : PySem.W.nsIn K mainGlobals "_ranks_of_list" = some (some (.ref f13))) (l13 : K.lookup f13 = some ⟨oc13, od13, .func (PySem.W.fnOf "_ranks_of_list" "_ranks_of_list" (defArgs sRanksOfList) (defBody sRanksOfList) (defScope sRanksOfList) .none kV13 dc13 pm13 an13 cd13 ct13), sl13⟩) (c13 : PySem.W.codeIn K cd13 "_ranks_of_list" = true) (k13 : PySem.W.keepIn K (.ref f13) = true)
    (a14 : PySem.W.nsIn K mainGlobals "_ranks_of_lists" = some (some (.ref f14))) (l14 : K.lookup f14 = some ⟨oc14, od14, .func (PySem.W.fnOf "_ranks_of_lists" "_ranks_of_lists" (defArgs sRanksOfLists) (defBody sRanksOfLists) (defScope sRanksOfLists) .none kV14 dc14 pm14 an14 cd14 ct14), sl14⟩) (c14 : PySem.W.codeIn K cd14 "_ranks_of_lists" = true) (k14 : PySem.W.keepIn K (.ref f14) = true)
    (a15 : PySem.W.nsIn K mainGlobals "_are_names" = some (some (.ref f15))) (l15 : K.lookup f15 = some ⟨oc15, od15, .func (PySem.W.fnOf "_are_names" "_are_names" (defArgs sAreNames) (defBody sAreNames) (defScope sAreNames) .none kV15 dc15 pm15 an15 cd15 ct15), sl15⟩) (c15 : PySem.W.codeIn K cd15 "_are_names" = true) (k15 : PySem.W.keepIn K (.ref f15) = true)
    (a16 : PySem.W.nsIn K mainGlobals "_check_lists" = some (some (.ref f16))) (l16 : K.lookup f16 = some ⟨oc16, od16, .func (PySem.W.fnOf "_check_lists" "_check_lists" (defArgs sCheckLists) (defBody sCheckLists) (defScope sCheckLists) .none kV16 dc16 pm16 an16 cd16 ct16), sl16⟩) (c16 : PySem.W.codeIn K cd16 "_check_lists" = true) (k16 : PySem.W.keepIn K (.ref f16) = true)
    (a17 : PySem.W.nsIn K mainGlobals "_check_both_ways" = some (some (.ref f17))) (l17 : K.lookup f17 = some ⟨oc17, od17, .func (PySem.W.fnOf "_check_both_ways" "_check_both_ways" (defArgs sCheckBoth) (defBody sCheckBoth) (defScope sCheckBoth) .none kV17 dc17 pm17 an17 cd17 ct17), sl17⟩) (c17 : PySem.W.codeIn K cd17 "_check_both_ways" = true) (k17 : PySem.W.keepIn K (.ref f17) = true)
    (a18 : PySem.W.findIn K (.ref C) "__init__" = some (some (.ref f18))) (i18 : PySem.W.isFn K (.ref f18) = true) (l18 : K.lookup f18 = some ⟨oc18, od18, .func (PySem.W.fnOf "__init__" "Wishes.__init__" (defArgs sWInit) (defBody sWInit) (defScope sWInit) .none kV18 dc18 pm18 an18 cd18 ct18), sl18⟩) (c18 : PySem.W.codeIn K cd18 "Wishes.__init__" = true) (k18 : PySem.W.keepIn K (.ref f18) = true)
    (a19 : PySem.W.nsIn K mainGlobals "is_wished" = some (some (.ref f19))) (l19 : K.lookup f19 = some ⟨oc19, od19, .func (PySem.W.fnOf "is_wished" "is_wished" (defArgs sIsWished) (defBody sIsWished) (defScope sIsWished) .none kV19 dc19 pm19 an19 cd19 ct19), sl19⟩) (c19 : PySem.W.codeIn K cd19 "is_wished" = true) (k19 : PySem.W.keepIn K (.ref f19) = true)
    (a20 : PySem.W.nsIn K mainGlobals "rank_of" = some (some (.ref f20))) (l20 : K.lookup f20 = some ⟨oc20, od20, .func (PySem.W.fnOf "rank_of" "rank_of" (defArgs sRankOf) (defBody sRankOf) (defScope sRankOf) .none kV20 dc20 pm20 an20 cd20 ct20), sl20⟩) (c20 : PySem.W.codeIn K cd20 "rank_of" = true) (k20 : PySem.W.keepIn K (.ref f20) = true)
    (a21 : PySem.W.nsIn K mainGlobals "ranks_in" = some (some (.ref f21))) (l21 : K.lookup f21 = some ⟨oc21, od21, .func (PySem.W.fnOf "ranks_in" "ranks_in" (defArgs sRanksIn) (defBody sRanksIn) (defScope sRanksIn) .none kV21 dc21 pm21 an21 cd21 ct21), sl21⟩) (c21 : PySem.W.codeIn K cd21 "ranks_in" = true) (k21 : PySem.W.keepIn K (.ref f21) = true)
    (a22 : PySem.W.nsIn K mainGlobals "_may_hold" = some (some (.ref f22))) (l22 : K.lookup f22 = some ⟨oc22, od22, .func (PySem.W.fnOf "_may_hold" "_may_hold" (defArgs sMayHold) (defBody sMayHold) (defScope sMayHold) .none kV22 dc22 pm22 an22 cd22 ct22), sl22⟩) (c22 : PySem.W.codeIn K cd22 "_may_hold" = true) (k22 : PySem.W.keepIn K (.ref f22) = true)
    (a23 : PySem.W.nsIn K mainGlobals "are_holds" = some (some (.ref f23))) (l23 : K.lookup f23 = some ⟨oc23, od23, .func (PySem.W.fnOf "are_holds" "are_holds" (defArgs sAreHolds) (defBody sAreHolds) (defScope sAreHolds) .none kV23 dc23 pm23 an23 cd23 ct23), sl23⟩) (c23 : PySem.W.codeIn K cd23 "are_holds" = true) (k23 : PySem.W.keepIn K (.ref f23) = true)
    (a24 : PySem.W.nsIn K mainGlobals "held_ranks" = some (some (.ref f24))) (l24 : K.lookup f24 = some ⟨oc24, od24, .func (PySem.W.fnOf "held_ranks" "held_ranks" (defArgs sHeldRanks) (defBody sHeldRanks) (defScope sHeldRanks) .none kV24 dc24 pm24 an24 cd24 ct24), sl24⟩) (c24 : PySem.W.codeIn K cd24 "held_ranks" = true) (k24 : PySem.W.keepIn K (.ref f24) = true)
    (a25 : PySem.W.nsIn K mainGlobals "first_left" = some (some (.ref f25))) (l25 : K.lookup f25 = some ⟨oc25, od25, .func (PySem.W.fnOf "first_left" "first_left" (defArgs sFirstLeft) (defBody sFirstLeft) (defScope sFirstLeft) .none kV25 dc25 pm25 an25 cd25 ct25), sl25⟩) (c25 : PySem.W.codeIn K cd25 "first_left" = true) (k25 : PySem.W.keepIn K (.ref f25) = true)
    (a26 : PySem.W.nsIn K mainGlobals "firsts_left" = some (some (.ref f26))) (l26 : K.lookup f26 = some ⟨oc26, od26, .func (PySem.W.fnOf "firsts_left" "firsts_left" (defArgs sFirstsLeft) (defBody sFirstsLeft) (defScope sFirstsLeft) .none kV26 dc26 pm26 an26 cd26 ct26), sl26⟩) (c26 : PySem.W.codeIn K cd26 "firsts_left" = true) (k26 : PySem.W.keepIn K (.ref f26) = true)
    (a27 : PySem.W.findIn K (.ref C) "__eq__" = some (some (.ref f27))) (i27 : PySem.W.isFn K (.ref f27) = true) (l27 : K.lookup f27 = some ⟨oc27, od27, .func (PySem.W.fnOf "__eq__" "Wishes.__eq__" (defArgs sWEq) (defBody sWEq) (defScope sWEq) .none kV27 dc27 pm27 an27 cd27 ct27), sl27⟩) (c27 : PySem.W.codeIn K cd27 "Wishes.__eq__" = true) (k27 : PySem.W.keepIn K (.ref f27) = true)
    (a28 : PySem.W.nsIn K mainGlobals "is_steady" = some (some (.ref f28))) (l28 : K.lookup f28 = some ⟨oc28, od28, .func (PySem.W.fnOf "is_steady" "is_steady" (defArgs sIsSteady) (defBody sIsSteady) (defScope sIsSteady) .none kV28 dc28 pm28 an28 cd28 ct28), sl28⟩) (c28 : PySem.W.codeIn K cd28 "is_steady" = true) (k28 : PySem.W.keepIn K (.ref f28) = true)
    (a29 : PySem.W.nsIn K mainGlobals "_law_rank" = some (some (.ref f29))) (l29 : K.lookup f29 = some ⟨oc29, od29, .func (PySem.W.fnOf "_law_rank" "_law_rank" (defArgs sRank) (defBody sRank) (defScope sRank) .none kV29 dc29 pm29 an29 cd29 ct29), sl29⟩) (c29 : PySem.W.codeIn K cd29 "_law_rank" = true) (k29 : PySem.W.keepIn K (.ref f29) = true)
    (a30 : PySem.W.nsIn K mainGlobals "_law_left" = some (some (.ref f30))) (l30 : K.lookup f30 = some ⟨oc30, od30, .func (PySem.W.fnOf "_law_left" "_law_left" (defArgs sLeft) (defBody sLeft) (defScope sLeft) .none kV30 dc30 pm30 an30 cd30 ct30), sl30⟩) (c30 : PySem.W.codeIn K cd30 "_law_left" = true) (k30 : PySem.W.keepIn K (.ref f30) = true)
    (a31 : PySem.W.nsIn K mainGlobals "no_holds" = some (some (.ref f31))) (l31 : K.lookup f31 = some ⟨oc31, od31, .func (PySem.W.fnOf "no_holds" "no_holds" (defArgs sNoHolds) (defBody sNoHolds) (defScope sNoHolds) .none kV31 dc31 pm31 an31 cd31 ct31), sl31⟩) (c31 : PySem.W.codeIn K cd31 "no_holds" = true) (k31 : PySem.W.keepIn K (.ref f31) = true)
    (a32 : PySem.W.nsIn K mainGlobals "held_ranks" = some (some (.ref f32))) (l32 : K.lookup f32 = some ⟨oc32, od32, .func (PySem.W.fnOf "held_ranks" "held_ranks" (defArgs sHeldRanks) (defBody sHeldRanks) (defScope sHeldRanks) .none kV32 dc32 pm32 an32 cd32 ct32), sl32⟩) (c32 : PySem.W.codeIn K cd32 "held_ranks" = true) (k32 : PySem.W.keepIn K (.ref f32) = true)
    (a33 : PySem.W.nsIn K mainGlobals "asked_out" = some (some (.ref f33))) (l33 : K.lookup f33 = some ⟨oc33, od33, .func (PySem.W.fnOf "asked_out" "asked_out" (defArgs sAskedOut) (defBody sAskedOut) (defScope sAskedOut) .none kV33 dc33 pm33 an33 cd33 ct33), sl33⟩) (c33 : PySem.W.codeIn K cd33 "asked_out" = true) (k33 : PySem.W.keepIn K (.ref f33) = true)
    (a34 : PySem.W.findIn K (.ref CR) "__init__" = some (some (.ref f34))) (i34 : PySem.W.typeIn K (.ref f34) = some (.type "function")) (l34 : K.lookup f34 = some ⟨oc34, od34, .func (PySem.W.fnOf "__init__" "Refused.__init__" (defArgs sRefusedInit) (defBody sRefusedInit) (defScope sRefusedInit) .none kV34 dc34 pm34 an34 cd34 ct34), sl34⟩) (c34 : PySem.W.codeIn K cd34 "Refused.__init__" = true) (k34 : PySem.W.keepIn K (.ref f34) = true)
    (a35 : PySem.W.nsIn K mainGlobals "_asked_by" = some (some (.ref f35))) (l35 : K.lookup f35 = some ⟨oc35, od35, .func (PySem.W.fnOf "_asked_by" "_asked_by" (defArgs sAskedBy) (defBody sAskedBy) (defScope sAskedBy) .none kV35 dc35 pm35 an35 cd35 ct35), sl35⟩) (c35 : PySem.W.codeIn K cd35 "_asked_by" = true) (k35 : PySem.W.keepIn K (.ref f35) = true)
    (a36 : PySem.W.nsIn K mainGlobals "askers" = some (some (.ref f36))) (l36 : K.lookup f36 = some ⟨oc36, od36, .func (PySem.W.fnOf "askers" "askers" (defArgs sAskers) (defBody sAskers) (defScope sAskers) .none kV36 dc36 pm36 an36 cd36 ct36), sl36⟩) (c36 : PySem.W.codeIn K cd36 "askers" = true) (k36 : PySem.W.keepIn K (.ref f36) = true)
    (a37 : PySem.W.nsIn K mainGlobals "asked_once" = some (some (.ref f37))) (l37 : K.lookup f37 = some ⟨oc37, od37, .func (PySem.W.fnOf "asked_once" "asked_once" (defArgs sAskedOnce) (defBody sAskedOnce) (defScope sAskedOnce) .none kV37 dc37 pm37 an37 cd37 ct37), sl37⟩) (c37 : PySem.W.codeIn K cd37 "asked_once" = true) (k37 : PySem.W.keepIn K (.ref f37) = true)
    (a38 : PySem.W.nsIn K mainGlobals "holds_behind" = some (some (.ref f38))) (l38 : K.lookup f38 = some ⟨oc38, od38, .func (PySem.W.fnOf "holds_behind" "holds_behind" (defArgs sHoldsBehind) (defBody sHoldsBehind) (defScope sHoldsBehind) .none kV38 dc38 pm38 an38 cd38 ct38), sl38⟩) (c38 : PySem.W.codeIn K cd38 "holds_behind" = true) (k38 : PySem.W.keepIn K (.ref f38) = true)
    (a39 : PySem.W.nsIn K mainGlobals "_first_asker" = some (some (.ref f39))) (l39 : K.lookup f39 = some ⟨oc39, od39, .func (PySem.W.fnOf "_first_asker" "_first_asker" (defArgs sFirstAsker) (defBody sFirstAsker) (defScope sFirstAsker) .none kV39 dc39 pm39 an39 cd39 ct39), sl39⟩) (c39 : PySem.W.codeIn K cd39 "_first_asker" = true) (k39 : PySem.W.keepIn K (.ref f39) = true)
    (a40 : PySem.W.nsIn K mainGlobals "askers_by" = some (some (.ref f40))) (l40 : K.lookup f40 = some ⟨oc40, od40, .func (PySem.W.fnOf "askers_by" "askers_by" (defArgs sAskersBy) (defBody sAskersBy) (defScope sAskersBy) .none kV40 dc40 pm40 an40 cd40 ct40), sl40⟩) (c40 : PySem.W.codeIn K cd40 "askers_by" = true) (k40 : PySem.W.keepIn K (.ref f40) = true)
    (a41 : PySem.W.nsIn K mainGlobals "is_asking" = some (some (.ref f41))) (l41 : K.lookup f41 = some ⟨oc41, od41, .func (PySem.W.fnOf "is_asking" "is_asking" (defArgs sIsAsking) (defBody sIsAsking) (defScope sIsAsking) .none kV41 dc41 pm41 an41 cd41 ct41), sl41⟩) (c41 : PySem.W.codeIn K cd41 "is_asking" = true) (k41 : PySem.W.keepIn K (.ref f41) = true)
    (a42 : PySem.W.nsIn K mainGlobals "_law_can" = some (some (.ref f42))) (l42 : K.lookup f42 = some ⟨oc42, od42, .func (PySem.W.fnOf "_law_can" "_law_can" (defArgs sLCan) (defBody sLCan) (defScope sLCan) .none kV42 dc42 pm42 an42 cd42 ct42), sl42⟩) (c42 : PySem.W.codeIn K cd42 "_law_can" = true) (k42 : PySem.W.keepIn K (.ref f42) = true)
    (a43 : PySem.W.nsIn K mainGlobals "_law_behind" = some (some (.ref f43))) (l43 : K.lookup f43 = some ⟨oc43, od43, .func (PySem.W.fnOf "_law_behind" "_law_behind" (defArgs sLBehind) (defBody sLBehind) (defScope sLBehind) .none kV43 dc43 pm43 an43 cd43 ct43), sl43⟩) (c43 : PySem.W.codeIn K cd43 "_law_behind" = true) (k43 : PySem.W.keepIn K (.ref f43) = true)
    (a44 : PySem.W.nsIn K mainGlobals "_law_run" = some (some (.ref f44))) (l44 : K.lookup f44 = some ⟨oc44, od44, .func (PySem.W.fnOf "_law_run" "_law_run" (defArgs sLRun) (defBody sLRun) (defScope sLRun) .none kV44 dc44 pm44 an44 cd44 ct44), sl44⟩) (c44 : PySem.W.codeIn K cd44 "_law_run" = true) (k44 : PySem.W.keepIn K (.ref f44) = true)
    (a45 : PySem.W.nsIn K mainGlobals "_law_is_run" = some (some (.ref f45))) (l45 : K.lookup f45 = some ⟨oc45, od45, .func (PySem.W.fnOf "_law_is_run" "_law_is_run" (defArgs sLIsRun) (defBody sLIsRun) (defScope sLIsRun) .none kV45 dc45 pm45 an45 cd45 ct45), sl45⟩) (c45 : PySem.W.codeIn K cd45 "_law_is_run" = true) (k45 : PySem.W.keepIn K (.ref f45) = true)
    (a46 : PySem.W.nsIn K mainGlobals "_law_any_right" = some (some (.ref f46))) (l46 : K.lookup f46 = some ⟨oc46, od46, .func (PySem.W.fnOf "_law_any_right" "_law_any_right" (defArgs sLAnyRight) (defBody sLAnyRight) (defScope sLAnyRight) .none kV46 dc46 pm46 an46 (.ref cc46) ct46), sl46⟩) (c46 : PySem.W.codeIn K (.ref cc46) "_law_any_right" = true) (k46 : PySem.W.keepIn K (.ref f46) = true)
    (a47 : PySem.W.nsIn K mainGlobals "_law_steps_right" = some (some (.ref f47))) (l47 : K.lookup f47 = some ⟨oc47, od47, .func (PySem.W.fnOf "_law_steps_right" "_law_steps_right" (defArgs sLStepsRight) (defBody sLStepsRight) (defScope sLStepsRight) .none kV47 dc47 pm47 an47 (.ref cc47) ct47), sl47⟩) (c47 : PySem.W.codeIn K (.ref cc47) "_law_steps_right" = true) (k47 : PySem.W.keepIn K (.ref f47) = true)
    (a48 : PySem.W.nsIn K mainGlobals "_law_rows_right" = some (some (.ref f48))) (l48 : K.lookup f48 = some ⟨oc48, od48, .func (PySem.W.fnOf "_law_rows_right" "_law_rows_right" (defArgs sLRowsRight) (defBody sLRowsRight) (defScope sLRowsRight) .none kV48 dc48 pm48 an48 cd48 ct48), sl48⟩) (c48 : PySem.W.codeIn K cd48 "_law_rows_right" = true) (k48 : PySem.W.keepIn K (.ref f48) = true)
    (a49 : PySem.W.nsIn K mainGlobals "_law_orders_right" = some (some (.ref f49))) (l49 : K.lookup f49 = some ⟨oc49, od49, .func (PySem.W.fnOf "_law_orders_right" "_law_orders_right" (defArgs sLOrdersRight) (defBody sLOrdersRight) (defScope sLOrdersRight) .none kV49 dc49 pm49 an49 cd49 ct49), sl49⟩) (c49 : PySem.W.codeIn K cd49 "_law_orders_right" = true) (k49 : PySem.W.keepIn K (.ref f49) = true)
    (a50 : PySem.W.nsIn K mainGlobals "law" = some (some (.ref f50))) (l50 : K.lookup f50 = some ⟨oc50, od50, .func (PySem.W.fnOf "law" "law" (defArgs sLaw) (defBody sLaw) (defScope sLaw) .none kV50 dc50 pm50 an50 (.ref cc50) ct50), sl50⟩) (c50 : PySem.W.codeIn K (.ref cc50) "law" = true) (k50 : PySem.W.keepIn K (.ref f50) = true)
    (aC : PySem.W.nsIn K mainGlobals "Wishes" = some (some (.ref C))) (pg : PySem.W.plainGet K C Str.empty = true) (hd : PySem.W.hasDictIn K C = true) (po : PySem.W.plainOver K C = true) (sa : PySem.W.findIn K (.ref C) "__setattr__" = some (some (.builtin "object.__setattr__"))) (mk : PySem.W.makesIn K C = true) (kc : PySem.W.keepIn K (.ref C) = true)
    (nA0 : PySem.W.findIn K (.ref C) "names" = some none)    (nA1 : PySem.W.findIn K (.ref C) "lists" = some none)    (nA2 : PySem.W.findIn K (.ref C) "_ranks" = some none)
    (ic1 : PySem.W.findIn K (.ref C) "__class__" = some (some (.builtin "object.__class__"))) (ic2 : PySem.W.specialIn K (.builtin "object.__class__") "__get__" = some (some (.builtin "getset_descriptor.__get__"))) (ic3 : PySem.W.takesIn K (.builtin "object.__class__") = some true) (ic4 : PySem.W.mroIn K C (.type "object") = some true)
    (z_int : PySem.W.nsIn K mainGlobals "int" = some none)    (z_len : PySem.W.nsIn K mainGlobals "len" = some none)    (z_abs : PySem.W.nsIn K mainGlobals "abs" = some none)    (z_range : PySem.W.nsIn K mainGlobals "range" = some none)    (z_list : PySem.W.nsIn K mainGlobals "list" = some none)    (z_tuple : PySem.W.nsIn K mainGlobals "tuple" = some none)    (z_sorted : PySem.W.nsIn K mainGlobals "sorted" = some none)    (z_isinstance : PySem.W.nsIn K mainGlobals "isinstance" = some none)    (z_bool : PySem.W.nsIn K mainGlobals "bool" = some none)    (z_str : PySem.W.nsIn K mainGlobals "str" = some none)    (z_all : PySem.W.nsIn K mainGlobals "all" = some none)    (z_set : PySem.W.nsIn K mainGlobals "set" = some none)    (z_enumerate : PySem.W.nsIn K mainGlobals "enumerate" = some none)    (z_sum : PySem.W.nsIn K mainGlobals "sum" = some none)    (z_repr : PySem.W.nsIn K mainGlobals "repr" = some none)    (zi_MOST_LETTERS : PySem.W.nsIn K mainGlobals "MOST_LETTERS" = some (some (.int 6 t_MOST_LETTERS)))    (zi_MOST_PERSONS : PySem.W.nsIn K mainGlobals "MOST_PERSONS" = some (some (.int 60 t_MOST_PERSONS)))
    (eL : K.lookup CR = some (excClassObj enm eq CR eN ebs ebm true esn esub eab ecol edd e0 e1 e2 e3 e5 "ValueError.__new__")) (eV : PySem.HandSPX.refsVE ebm = true) (q_sa : PySem.W.findIn K (.ref CR) "__setattr__" = some (some (.builtin "object.__setattr__"))) (q_ex : PySem.W.subIn K (.ref CR) (.type "BaseException") = some true) (q_ty : PySem.W.typeIn K (.ref CR) = some (.type "type")) (q_k : PySem.W.keepIn K (.ref CR) = true) (q_ga : PySem.W.findIn K (.ref CR) "__getattribute__" = some (some (.builtin "BaseException.__getattribute__"))) (q_gg : PySem.W.findIn K (.ref CR) "__getattr__" = some none) (q_hd : PySem.W.hasDictIn K CR = true) (q_ha : PySem.W.findIn K (.ref CR) "__class__" = some (some (.builtin "object.__class__"))) (q_hn : PySem.W.specialIn K (.builtin "object.__class__") "__get__" = some (some (.builtin "getset_descriptor.__get__"))) (q_ht : PySem.W.takesIn K (.builtin "object.__class__") = some true) (q_hm : PySem.W.mroIn K CR (.type "object") = some true) (q_w : PySem.W.findIn K (.ref CR) "word" = some none) (q_gR : PySem.W.nsIn K mainGlobals "Refused" = some (some (.ref CR))) (q_gM : PySem.W.nsIn K mainGlobals "MateError" = some (some (.ref CM))) (q_kM : PySem.W.keepIn K (.ref CM) = true) (q_xm : PySem.W.exmOne K (.ref CR) (.ref CR) = some true) (q_is : PySem.W.kitOne K (.ref CR) (.ref CM) = some true) (aH : PySem.W.nsIn K mainGlobals "_law_heard" = some (some (.ref fH))) (lH : K.lookup fH = some ⟨ocH, odH, .func (PySem.W.fnOf "_law_heard" "_law_heard" (defArgs sLHeard) (defBody sLHeard) (defScope sLHeard) .none kVH dcH pmH anH cdH ctH), slH⟩) (cH : PySem.W.codeIn K cdH "_law_heard" = true) (kH : PySem.W.keepIn K (.ref fH) = true)
    (hT46 : h.get? PT46 = some { cls := .none, data := .fields #[] }) (nT46 : K.lookup PT46 = none) (hC46 : PySem.W.CodeHd h cc46 PT46)
    (hT47 : h.get? PT47 = some { cls := .none, data := .fields #[] }) (nT47 : K.lookup PT47 = none) (hC47 : PySem.W.CodeHd h cc47 PT47)
    (hT50 : h.get? PT50 = some { cls := .none, data := .fields #[] }) (nT50 : K.lookup PT50 = none) (hC50 : PySem.W.CodeHd h cc50 PT50)
 (ne46_47 : PT46 ≠ PT47) (ne46_50 : PT46 ≠ PT50) (ne47_50 : PT47 ≠ PT50) :
    LawX l w K L2.CX0 8 63 "script" mg fa h := by
  have e := hfa.symm.trans (PySem.W.mg_of X G a50)
  cases e
  have T : Txt K mg C := ⟨⟨pg, hd, po, sa⟩, nA0, nA1, nA2, PySem.W.mg_of X G aC⟩
  have M : Mk K C f18 := ⟨mk, a18, i18, kc⟩
  have IC : C8.InsC K C := ⟨⟨pg, hd, po, sa⟩, ic1, ic2, ic3, ic4, if_pos (beq_self_eq_true _)⟩
  have F1 := fun_mk (st := sDraw) l1 c1 k1
  have F2 := fun_mk (st := sPick) l2 c2 k2
  have F3 := fun_mk (st := sHeap) l3 c3 k3
  have F4 := fun_mk (st := sShuffled) l4 c4 k4
  have F5 := fun_mk (st := sNames) l5 c5 k5
  have F6 := fun_mk (st := sIsNumber) l6 c6 k6
  have F7 := fun_mk (st := sIsBelow) l7 c7 k7
  have F8 := fun_mk (st := sIsTupleOf) l8 c8 k8
  have F9 := fun_mk (st := sIsName) l9 c9 k9
  have F10 := fun_mk (st := sArePersons) l10 c10 k10
  have F11 := fun_mk (st := sAreUnlike) l11 c11 k11
  have F12 := fun_mk (st := sLists) l12 c12 k12
  have F13 := fun_mk (st := sRanksOfList) l13 c13 k13
  have F14 := fun_mk (st := sRanksOfLists) l14 c14 k14
  have F15 := fun_mk (st := sAreNames) l15 c15 k15
  have F16 := fun_mk (st := sCheckLists) l16 c16 k16
  have F17 := fun_mk (st := sCheckBoth) l17 c17 k17
  have F18 := fun_mk (st := sWInit) l18 c18 k18
  have F19 := fun_mk (st := sIsWished) l19 c19 k19
  have F20 := fun_mk (st := sRankOf) l20 c20 k20
  have F21 := fun_mk (st := sRanksIn) l21 c21 k21
  have F22 := fun_mk (st := sMayHold) l22 c22 k22
  have F23 := fun_mk (st := sAreHolds) l23 c23 k23
  have F24 := fun_mk (st := sHeldRanks) l24 c24 k24
  have F25 := fun_mk (st := sFirstLeft) l25 c25 k25
  have F26 := fun_mk (st := sFirstsLeft) l26 c26 k26
  have F27 := fun_mk (st := sWEq) l27 c27 k27
  have F28 := fun_mk (st := sIsSteady) l28 c28 k28
  have F29 := fun_mk (st := sRank) l29 c29 k29
  have F30 := fun_mk (st := sLeft) l30 c30 k30
  have F31 := fun_mk (st := sNoHolds) l31 c31 k31
  have F32 := fun_mk (st := sHeldRanks) l32 c32 k32
  have F33 := fun_mk (st := sAskedOut) l33 c33 k33
  have F34 := fun_mk (st := sRefusedInit) l34 c34 k34
  have F35 := fun_mk (st := sAskedBy) l35 c35 k35
  have F36 := fun_mk (st := sAskers) l36 c36 k36
  have F37 := fun_mk (st := sAskedOnce) l37 c37 k37
  have F38 := fun_mk (st := sHoldsBehind) l38 c38 k38
  have F39 := fun_mk (st := sFirstAsker) l39 c39 k39
  have F40 := fun_mk (st := sAskersBy) l40 c40 k40
  have F41 := fun_mk (st := sIsAsking) l41 c41 k41
  have F42 := fun_mk (st := sLCan) l42 c42 k42
  have F43 := fun_mk (st := sLBehind) l43 c43 k43
  have F44 := fun_mk (st := sLRun) l44 c44 k44
  have F45 := fun_mk (st := sLIsRun) l45 c45 k45
  have F46 := fun_mk (st := sLAnyRight) l46 c46 k46
  have F47 := fun_mk (st := sLStepsRight) l47 c47 k47
  have F48 := fun_mk (st := sLRowsRight) l48 c48 k48
  have F49 := fun_mk (st := sLOrdersRight) l49 c49 k49
  have F50 := fun_mk (st := sLaw) l50 c50 k50
  have b1 := F1.binds (ps := ["heap", "many"]) fun _ _ _ _ _ _ us hl => match us, hl with | [_, _], _ => rfl
  have b2 := F2.binds (ps := ["heap", "some"]) fun _ _ _ _ _ _ us hl => match us, hl with | [_, _], _ => rfl
  have b3 := F3.binds (ps := ["script"]) fun _ _ _ _ _ _ us hl => match us, hl with | [_], _ => rfl
  have b4 := F4.binds (ps := ["heap", "some"]) fun _ _ _ _ _ _ us hl => match us, hl with | [_, _], _ => rfl
  have b5 := F5.binds (ps := ["heap", "many"]) fun _ _ _ _ _ _ us hl => match us, hl with | [_, _], _ => rfl
  have b6 := F6.binds (ps := ["value"]) fun _ _ _ _ _ _ us hl => match us, hl with | [_], _ => rfl
  have b7 := F7.binds (ps := ["value", "bound"]) fun _ _ _ _ _ _ us hl => match us, hl with | [_, _], _ => rfl
  have b8 := F8.binds (ps := ["value", "many"]) fun _ _ _ _ _ _ us hl => match us, hl with | [_, _], _ => rfl
  have b9 := F9.binds (ps := ["value"]) fun _ _ _ _ _ _ us hl => match us, hl with | [_], _ => rfl
  have b10 := F10.binds (ps := ["value", "many"]) fun _ _ _ _ _ _ us hl => match us, hl with | [_, _], _ => rfl
  have b11 := F11.binds (ps := ["value", "many"]) fun _ _ _ _ _ _ us hl => match us, hl with | [_, _], _ => rfl
  have b12 := F12.binds (ps := ["heap", "many", "share"]) fun _ _ _ _ _ _ us hl => match us, hl with | [_, _, _], _ => rfl
  have b13 := F13.binds (ps := ["some", "many"]) fun _ _ _ _ _ _ us hl => match us, hl with | [_, _], _ => rfl
  have b14 := F14.binds (ps := ["lists"]) fun _ _ _ _ _ _ us hl => match us, hl with | [_], _ => rfl
  have b15 := F15.binds (ps := ["value"]) fun _ _ _ _ _ _ us hl => match us, hl with | [_], _ => rfl
  have b16 := F16.binds (ps := ["lists"]) fun _ _ _ _ _ _ us hl => match us, hl with | [_], _ => rfl
  have b17 := F17.binds (ps := ["lists", "ranks"]) fun _ _ _ _ _ _ us hl => match us, hl with | [_, _], _ => rfl
  have b18 := F18.binds (ps := ["self", "names", "lists"]) fun _ _ _ _ _ _ us hl => match us, hl with | [_, _, _], _ => rfl
  have b19 := F19.binds (ps := ["wishes", "person", "other"]) fun _ _ _ _ _ _ us hl => match us, hl with | [_, _, _], _ => rfl
  have b20 := F20.binds (ps := ["wishes", "person", "other"]) fun _ _ _ _ _ _ us hl => match us, hl with | [_, _, _], _ => rfl
  have b21 := F21.binds (ps := ["wishes"]) fun _ _ _ _ _ _ us hl => match us, hl with | [_], _ => rfl
  have b22 := F22.binds (ps := ["wishes", "person", "held"]) fun _ _ _ _ _ _ us hl => match us, hl with | [_, _, _], _ => rfl
  have b23 := F23.binds (ps := ["wishes", "value"]) fun _ _ _ _ _ _ us hl => match us, hl with | [_, _], _ => rfl
  have b24 := F24.binds (ps := ["wishes", "holds"]) fun _ _ _ _ _ _ us hl => match us, hl with | [_, _], _ => rfl
  have b25 := F25.binds (ps := ["wishes", "most", "person"]) fun _ _ _ _ _ _ us hl => match us, hl with | [_, _, _], _ => rfl
  have b26 := F26.binds (ps := ["wishes", "holds"]) fun _ _ _ _ _ _ us hl => match us, hl with | [_, _], _ => rfl
  have b27 := F27.binds (ps := ["self", "other"]) fun _ _ _ _ _ _ us hl => match us, hl with | [_, _], _ => rfl
  have b28 := F28.binds (ps := ["wishes", "value"]) fun _ _ _ _ _ _ us hl => match us, hl with | [_, _], _ => rfl
  have b29 := F29.binds (ps := ["lists", "person", "other"]) fun _ _ _ _ _ _ us hl => match us, hl with | [_, _, _], _ => rfl
  have b30 := F30.binds (ps := ["lists", "holds"]) fun _ _ _ _ _ _ us hl => match us, hl with | [_, _], _ => rfl
  have b31 := F31.binds (ps := ["wishes"]) fun _ _ _ _ _ _ us hl => match us, hl with | [_], _ => rfl
  have b32 := F32.binds (ps := ["wishes", "holds"]) fun _ _ _ _ _ _ us hl => match us, hl with | [_, _], _ => rfl
  have b33 := F33.binds (ps := ["wishes"]) fun _ _ _ _ _ _ us hl => match us, hl with | [_], _ => rfl
  have n33 := named1 (n := "wishes") F33 (fun _ _ _ _ _ _ _ => rfl) (fun _ _ _ _ _ _ _ => rfl)
  have b34 := F34.binds (ps := ["self", "word"]) fun _ _ _ _ _ _ us hl => match us, hl with | [_, _], _ => rfl
  have b35 := F35.binds (ps := ["wishes", "holds", "person"]) fun _ _ _ _ _ _ us hl => match us, hl with | [_, _, _], _ => rfl
  have b36 := F36.binds (ps := ["wishes", "holds"]) fun _ _ _ _ _ _ us hl => match us, hl with | [_, _], _ => rfl
  have n36 := named2 (n := "wishes") (m := "holds") F36 (fun _ _ _ _ _ _ _ _ => rfl) (fun _ _ _ _ _ _ _ _ => rfl) (fun _ _ _ _ _ _ _ _ => rfl)
  have b37 := F37.binds (ps := ["wishes", "holds", "person"]) fun _ _ _ _ _ _ us hl => match us, hl with | [_, _, _], _ => rfl
  have n37 := last2 (n := "wishes") (m := "holds") (o := "person") F37 (fun _ _ _ _ _ _ _ _ _ => rfl) (fun _ _ _ _ _ _ _ _ _ => rfl) (fun _ _ _ _ _ _ _ _ _ => rfl)
  have b38 := F38.binds (ps := ["wishes", "row"]) fun _ _ _ _ _ _ us hl => match us, hl with | [_, _], _ => rfl
  have n38 := named2 (n := "wishes") (m := "row") F38 (fun _ _ _ _ _ _ _ _ => rfl) (fun _ _ _ _ _ _ _ _ => rfl) (fun _ _ _ _ _ _ _ _ => rfl)
  have b39 := F39.binds (ps := ["wishes", "holds", "order"]) fun _ _ _ _ _ _ us hl => match us, hl with | [_, _, _], _ => rfl
  have b40 := F40.binds (ps := ["wishes", "order"]) fun _ _ _ _ _ _ us hl => match us, hl with | [_, _], _ => rfl
  have n40 := named2 (n := "wishes") (m := "order") F40 (fun _ _ _ _ _ _ _ _ => rfl) (fun _ _ _ _ _ _ _ _ => rfl) (fun _ _ _ _ _ _ _ _ => rfl)
  have b41 := F41.binds (ps := ["wishes", "value"]) fun _ _ _ _ _ _ us hl => match us, hl with | [_, _], _ => rfl
  have n41 := named2 (n := "wishes") (m := "value") F41 (fun _ _ _ _ _ _ _ _ => rfl) (fun _ _ _ _ _ _ _ _ => rfl) (fun _ _ _ _ _ _ _ _ => rfl)
  have b42 := F42.binds (ps := ["lists", "holds"]) fun _ _ _ _ _ _ us hl => match us, hl with | [_, _], _ => rfl
  have b43 := F43.binds (ps := ["lists", "holds", "person"]) fun _ _ _ _ _ _ us hl => match us, hl with | [_, _, _], _ => rfl
  have b44 := F44.binds (ps := ["heap", "lists"]) fun _ _ _ _ _ _ us hl => match us, hl with | [_, _], _ => rfl
  have b45 := F45.binds (ps := ["lists", "value"]) fun _ _ _ _ _ _ us hl => match us, hl with | [_, _], _ => rfl
  have b46 := F46.binds (ps := ["heap", "wishes", "lists"]) fun _ _ _ _ _ _ us hl => match us, hl with | [_, _, _], _ => rfl
  have b47 := F47.binds (ps := ["wishes", "lists", "row", "stages"]) fun _ _ _ _ _ _ us hl => match us, hl with | [_, _, _, _], _ => rfl
  have b48 := F48.binds (ps := ["heap", "wishes", "lists", "row"]) fun _ _ _ _ _ _ us hl => match us, hl with | [_, _, _, _], _ => rfl
  have b49 := F49.binds (ps := ["heap", "wishes", "lists", "end"]) fun _ _ _ _ _ _ us hl => match us, hl with | [_, _, _, _], _ => rfl
  have FH := fun_mk (st := sLHeard) lH cH kH
  have bH := FH.binds (ps := ["action"]) fun _ _ _ _ _ _ us hl => match us, hl with | [_], _ => rfl
  have GH : HeardT K mg fH _ := ⟨FH, bH, kH, PySem.W.mg_of X G aH⟩
  have ET : ErrT K mg CR CM f34 := ⟨⟨⟨_, _, _, _, _, _, _, _, _, _, _, _, _, _, _, eL, eV⟩, q_sa, q_ex, q_ty, q_k⟩, ⟨q_ga, q_gg, q_ex, q_hd⟩, ⟨q_ga, q_gg, q_ex, q_hd, q_ha, q_hn, q_ht, q_hm⟩, q_w, a34, i34, PySem.W.mg_of X G q_gR, PySem.W.mg_of X G q_gM, q_kM, q_xm, q_is⟩
  have m_int := PySem.W.mg_none_of X G z_int
  have m_len := PySem.W.mg_none_of X G z_len
  have m_abs := PySem.W.mg_none_of X G z_abs
  have m_range := PySem.W.mg_none_of X G z_range
  have m_list := PySem.W.mg_none_of X G z_list
  have m_tuple := PySem.W.mg_none_of X G z_tuple
  have m_sorted := PySem.W.mg_none_of X G z_sorted
  have m_isinstance := PySem.W.mg_none_of X G z_isinstance
  have m_bool := PySem.W.mg_none_of X G z_bool
  have m_str := PySem.W.mg_none_of X G z_str
  have m_all := PySem.W.mg_none_of X G z_all
  have m_set := PySem.W.mg_none_of X G z_set
  have m_enumerate := PySem.W.mg_none_of X G z_enumerate
  have m_sum := PySem.W.mg_none_of X G z_sum
  have m_repr := PySem.W.mg_none_of X G z_repr
  have mi_MOST_LETTERS := PySem.W.mg_of X G zi_MOST_LETTERS
  have mi_MOST_PERSONS := PySem.W.mg_of X G zi_MOST_PERSONS
  have m1 := PySem.W.mg_of X G a1
  have m2 := PySem.W.mg_of X G a2
  have m3 := PySem.W.mg_of X G a3
  have m4 := PySem.W.mg_of X G a4
  have m5 := PySem.W.mg_of X G a5
  have m6 := PySem.W.mg_of X G a6
  have m7 := PySem.W.mg_of X G a7
  have m8 := PySem.W.mg_of X G a8
  have m9 := PySem.W.mg_of X G a9
  have m10 := PySem.W.mg_of X G a10
  have m11 := PySem.W.mg_of X G a11
  have m12 := PySem.W.mg_of X G a12
  have m13 := PySem.W.mg_of X G a13
  have m14 := PySem.W.mg_of X G a14
  have m15 := PySem.W.mg_of X G a15
  have m16 := PySem.W.mg_of X G a16
  have m17 := PySem.W.mg_of X G a17
  have m19 := PySem.W.mg_of X G a19
  have m20 := PySem.W.mg_of X G a20
  have m21 := PySem.W.mg_of X G a21
  have m22 := PySem.W.mg_of X G a22
  have m23 := PySem.W.mg_of X G a23
  have m24 := PySem.W.mg_of X G a24
  have m25 := PySem.W.mg_of X G a25
  have m26 := PySem.W.mg_of X G a26
  have m28 := PySem.W.mg_of X G a28
  have m29 := PySem.W.mg_of X G a29
  have m30 := PySem.W.mg_of X G a30
  have m31 := PySem.W.mg_of X G a31
  have m32 := PySem.W.mg_of X G a32
  have m33 := PySem.W.mg_of X G a33
  have m35 := PySem.W.mg_of X G a35
  have m36 := PySem.W.mg_of X G a36
  have m37 := PySem.W.mg_of X G a37
  have m38 := PySem.W.mg_of X G a38
  have m39 := PySem.W.mg_of X G a39
  have m40 := PySem.W.mg_of X G a40
  have m41 := PySem.W.mg_of X G a41
  have m42 := PySem.W.mg_of X G a42
  have m43 := PySem.W.mg_of X G a43
  have m44 := PySem.W.mg_of X G a44
  have m45 := PySem.W.mg_of X G a45
  have m46 := PySem.W.mg_of X G a46
  have m47 := PySem.W.mg_of X G a47
  have m48 := PySem.W.mg_of X G a48
  have m49 := PySem.W.mg_of X G a49
  refine ⟨PySem.W.fnOf "law" "law" (defArgs sLaw) (defBody sLaw) (defScope sLaw) .none kV50 dc50 pm50 an50 (.ref cc50) ct50, [(cc46, PT46), (cc47, PT47), (cc50, PT50)], spLaw K [(PT46, lamQ "_law_any_right"), (PT47, lamQ "_law_steps_right"), (PT50, lamQ "law")], ?_, ?_, ?_, fun s v => .of_eq rfl, ?_, fun base _ _ hB => ?_⟩
  · intro p hp
    simp only [List.mem_cons, List.not_mem_nil, or_false] at hp
    rcases hp with rfl | rfl | rfl
    · exact hT46
    · exact hT47
    · exact hT50
  · intro p hp
    simp only [List.mem_cons, List.not_mem_nil, or_false] at hp
    rcases hp with rfl | rfl | rfl
    · exact nT46
    · exact nT47
    · exact nT50
  · intro p hp
    simp only [List.mem_cons, List.not_mem_nil, or_false] at hp
    rcases hp with rfl | rfl | rfl
    · exact hC46
    · exact hC47
    · exact hC50
  · intro H a ns hl hH hS
    refine ⟨a, ns, rfl, hS, hl, fun p hp => ?_, fun _ => rfl⟩
    simp only [List.mem_cons, List.not_mem_nil, or_false] at hp
    rcases hp with rfl | rfl | rfl
    · exact LamX.TabS.nil (hH (cc46, PT46) (by simp))
    · exact LamX.TabS.nil (hH (cc47, PT47) (by simp))
    · exact LamX.TabS.nil (hH (cc50, PT50) (by simp))
  have TB__law_any_right : TabT [(PT46, lamQ "_law_any_right"), (PT47, lamQ "_law_steps_right"), (PT50, lamQ "law")] base mg cc46 PT46 (lamQ "_law_any_right") := ⟨hB (cc46, PT46) (by simp), by simp, by
    intro p hp e
    simp only [List.mem_cons, List.not_mem_nil, or_false] at hp
    rcases hp with rfl | rfl | rfl
    · rfl
    · exact absurd e (Ne.symm ne46_47)
    · exact absurd e (Ne.symm ne46_50)⟩
  have TB__law_steps_right : TabT [(PT46, lamQ "_law_any_right"), (PT47, lamQ "_law_steps_right"), (PT50, lamQ "law")] base mg cc47 PT47 (lamQ "_law_steps_right") := ⟨hB (cc47, PT47) (by simp), by simp, by
    intro p hp e
    simp only [List.mem_cons, List.not_mem_nil, or_false] at hp
    rcases hp with rfl | rfl | rfl
    · exact absurd e ne46_47
    · rfl
    · exact absurd e (Ne.symm ne47_50)⟩
  have TB_law : TabT [(PT46, lamQ "_law_any_right"), (PT47, lamQ "_law_steps_right"), (PT50, lamQ "law")] base mg cc50 PT50 (lamQ "law") := ⟨hB (cc50, PT50) (by simp), by simp, by
    intro p hp e
    simp only [List.mem_cons, List.not_mem_nil, or_false] at hp
    rcases hp with rfl | rfl | rfl
    · exact absurd e ne46_50
    · exact absurd e ne47_50
    · rfl⟩
  have g1 := ok_draw (P := l.prog) (w := w) (mg := mg) (base := base) (k := 0) F1 m_int
  have g2 := ok_pick (P := l.prog) (w := w) (mg := mg) (base := base) (k := 1) F2 (g1.mono (by decide)) b1 k1 m1 m_len
  have g3 := ok_heap (P := l.prog) (w := w) (mg := mg) (base := base) (k := 0) F3 m_int m_abs
  have g4 := ok_shuffled (P := l.prog) (w := w) (mg := mg) (base := base) (k := 1) F4 (g1.mono (by decide)) b1 k1 m1 m_len m_range m_list m_tuple
  have g5 := ok_names (P := l.prog) (w := w) (mg := mg) (base := base) (k := 2) F5 (g1.mono (by decide)) b1 k1 m1 (g2.mono (by decide)) b2 k2 m2 m_int m_len m_range m_sorted m_tuple
  have g6 := ok_is_number (P := l.prog) (w := w) (mg := mg) (base := base) (k := 0) F6 m_isinstance m_int m_bool
  have g7 := ok_is_below (P := l.prog) (w := w) (mg := mg) (base := base) (k := 1) F7 (g6.mono (by decide)) b6 k6 m6
  have g8 := ok_is_tuple_of (P := l.prog) (w := w) (mg := mg) (base := base) (k := 0) F8 m_isinstance m_tuple m_len
  have g9 := ok_is_name (P := l.prog) (w := w) (mg := mg) (base := base) (k := 0) F9 m_isinstance m_str m_len m_all mi_MOST_LETTERS
  have g10 := ok_are_persons (P := l.prog) (w := w) (mg := mg) (base := base) (k := 2) F10 (g7.mono (by decide)) b7 k7 m7 m_isinstance m_tuple m_all
  have g11 := ok_are_unlike (P := l.prog) (w := w) (mg := mg) (base := base) (k := 3) F11 (g10.mono (by decide)) b10 k10 m10 m_len m_set
  have g12 := ok_lists (P := l.prog) (w := w) (mg := mg) (base := base) (k := 2) F12 (g1.mono (by decide)) b1 k1 m1 (g4.mono (by decide)) b4 k4 m4 m_range m_tuple
  have g13 := ok_ranks_of_list (P := l.prog) (w := w) (mg := mg) (base := base) (k := 0) F13 m_enumerate m_tuple
  have g14 := ok_ranks_of_lists (P := l.prog) (w := w) (mg := mg) (base := base) (k := 1) F14 (g13.mono (by decide)) b13 k13 m13 m_len m_tuple
  have g15 := ok_are_names (P := l.prog) (w := w) (mg := mg) (base := base) (k := 1) F15 (g9.mono (by decide)) b9 k9 m9 m_isinstance m_tuple m_len m_all m_range mi_MOST_PERSONS
  have g16 := ok_check_lists (P := l.prog) (w := w) (mg := mg) (base := base) (k := 4) F16 (g11.mono (by decide)) b11 k11 m11 m_enumerate m_len
  have g17 := ok_check_both (P := l.prog) (w := w) (mg := mg) (base := base) (k := 0) F17 m_enumerate
  have g18 := ok_winit (P := l.prog) (w := w) (mg := mg) (base := base) (k := 5) F18 T (g15.mono (by decide)) b15 k15 m15 (g8.mono (by decide)) b8 k8 m8 (g16.mono (by decide)) b16 k16 m16 (g14.mono (by decide)) b14 k14 m14 (g17.mono (by decide)) b17 k17 m17 m_len
  have g19 := ok_is_wished (P := l.prog) (w := w) (mg := mg) (base := base) (k := 0) F19 T
  have g20 := ok_rank_of (P := l.prog) (w := w) (mg := mg) (base := base) (k := 0) F20 T m_len
  have g21 := ok_ranks_in (P := l.prog) (w := w) (mg := mg) (base := base) (k := 0) F21 T
  have g22 := ok_may_hold (P := l.prog) (w := w) (mg := mg) (base := base) (k := 2) F22 T (g7.mono (by decide)) b7 k7 m7 (g19.mono (by decide)) b19 k19 m19 m_len
  have g23 := ok_are_holds (P := l.prog) (w := w) (mg := mg) (base := base) (k := 3) F23 T (g8.mono (by decide)) b8 k8 m8 (g22.mono (by decide)) b22 k22 m22 m_len m_all m_enumerate
  have g24 := ok_held_ranks (P := l.prog) (w := w) (mg := mg) (base := base) (k := 1) F24 (g20.mono (by decide)) b20 k20 m20 m_tuple m_enumerate
  have g25 := ok_first_left (P := l.prog) (w := w) (mg := mg) (base := base) (k := 1) F25 T (g21.mono (by decide)) b21 k21 m21
  have g26 := ok_firsts_left (P := l.prog) (w := w) (mg := mg) (base := base) (k := 2) F26 (g24.mono (by decide)) b24 k24 m24 (g25.mono (by decide)) b25 k25 m25 m_tuple m_len m_range
  have g27 := ok_weq (P := l.prog) (w := w) (mg := mg) (base := base) (k := 0) F27 T IC m_isinstance
  have g28 := ok_is_steady (P := l.prog) (w := w) (mg := mg) (base := base) (k := 4) F28 (g23.mono (by decide)) b23 k23 m23 (g26.mono (by decide)) b26 k26 m26 m_all m_enumerate
  have g29 := ok_rank (P := l.prog) (w := w) (mg := mg) (base := base) (k := 0) F29 m_len
  have g30 := ok_left (P := l.prog) (w := w) (mg := mg) (base := base) (k := 1) F30 (g29.mono (by decide)) b29 k29 m29 m_len m_range m_tuple
  have g31 := ok_no_holds (P := l.prog) (w := w) (mg := mg) (base := base) (k := 0) F31 T m_len
  have g32 := ok_held_ranksL (P := l.prog) (w := w) (mg := mg) (base := base) (k := 1) F32 (g20.mono (by decide)) b20 k20 m20 m_tuple m_enumerate
  have g33 := ok_asked_out (P := l.prog) (w := w) (mg := mg) (base := base) (k := 2) F33 (g31.mono (by decide)) b31 k31 m31 (g32.mono (by decide)) b32 k32 m32 (g25.mono (by decide)) b25 k25 m25 (g20.mono (by decide)) b20 k20 m20 m_list m_len m_range m_tuple
  have g34 := ok_ref_init (P := l.prog) (w := w) (mg := mg) (base := base) (k := 0) F34 ET
  have g35 := ok_asked_by (P := l.prog) (w := w) (mg := mg) (base := base) (k := 2) F35 ⟨(g25.mono (by decide)), b25, k25, m25⟩ ⟨(g24.mono (by decide)), b24, k24, m24⟩
  have g36 := ok_askers (P := l.prog) (w := w) (mg := mg) (base := base) (k := 3) F36 ⟨(g35.mono (by decide)), b35, k35, m35⟩ m_tuple m_range m_len
  have g37 := ok_asked_once (P := l.prog) (w := w) (mg := mg) (base := base) (k := 3) F37 ⟨(g35.mono (by decide)), b35, k35, m35⟩ ⟨(g7.mono (by decide)), b7, k7, m7⟩ m_len
  have g37X := ok_asked_onceX (P := l.prog) (w := w) (mg := mg) (base := base) (k := 2) F37 ET ⟨(g35.mono (by decide)), b35, k35, m35⟩ ⟨(g7.mono (by decide)), b7, k7, m7⟩ (g34.mono (by decide)) b34 m_len
  have g38 := ok_holds_behind (P := l.prog) (w := w) (mg := mg) (base := base) (k := 4) F38 ⟨(g31.mono (by decide)), b31, k31, m31⟩ ⟨(g37.mono (by decide)), b37, k37, m37⟩
  have g38X := ok_holds_behindX (P := l.prog) (w := w) (mg := mg) (base := base) (k := 4) F38 ⟨(g31.mono (by decide)), b31, k31, m31⟩ ⟨(fn_or (g37.mono (by decide)) (g37X.mono (by decide))), b37, k37, m37⟩
  have g39 := ok_first_asker (P := l.prog) (w := w) (mg := mg) (base := base) (k := 3) F39 ⟨(g35.mono (by decide)), b35, k35, m35⟩
  have g40 := ok_askers_by (P := l.prog) (w := w) (mg := mg) (base := base) (k := 4) F40 ⟨(g31.mono (by decide)), b31, k31, m31⟩ ⟨(g37.mono (by decide)), b37, k37, m37⟩ ⟨(g39.mono (by decide)), b39, k39, m39⟩ m_tuple
  have g41 := ok_is_asking (P := l.prog) (w := w) (mg := mg) (base := base) (k := 5) F41 ET ⟨(fn_or (g38.mono (by decide)) (g38X.mono (by decide))), b38, k38, m38⟩ ⟨(g36.mono (by decide)), b36, k36, m36⟩ m_isinstance m_tuple
  have g42 := ok_l_can (P := l.prog) (w := w) (mg := mg) (base := base) (k := 2) F42 ⟨(g30.mono (by decide)), b30, k30, m30⟩ m_tuple m_range m_len
  have g43 := ok_l_behind (P := l.prog) (w := w) (mg := mg) (base := base) (k := 2) F43 ⟨(g30.mono (by decide)), b30, k30, m30⟩
  have g44 := ok_l_run (P := l.prog) (w := w) (mg := mg) (base := base) (k := 3) F44 ⟨(g42.mono (by decide)), b42, k42, m42⟩ ⟨(g43.mono (by decide)), b43, k43, m43⟩ ⟨(g2.mono (by decide)), b2, k2, m2⟩ m_tuple m_range m_len m_sum
  have g45 := ok_l_is_run (P := l.prog) (w := w) (mg := mg) (base := base) (k := 3) F45 ⟨(g42.mono (by decide)), b42, k42, m42⟩ ⟨(g43.mono (by decide)), b43, k43, m43⟩ m_isinstance m_tuple m_int m_bool m_len
  have g46 := ok_any_right (P := l.prog) (w := w) (mg := mg) (base := base) (k := 4) F46 rfl GH ET TB__law_any_right ⟨(g42.mono (by decide)), b42, k42, m42⟩ ⟨(g43.mono (by decide)), b43, k43, m43⟩ ⟨(g36.mono (by decide)), b36, k36, m36⟩ ⟨(fn_or (g37.mono (by decide)) (g37X.mono (by decide))), b37, k37, m37⟩ ⟨(g1.mono (by decide)), b1, k1, m1⟩ ⟨(g2.mono (by decide)), b2, k2, m2⟩ m_isinstance m_tuple m_len m_range m_repr
  have g47 := ok_steps_right (P := l.prog) (w := w) (mg := mg) (base := base) (k := 4) F47 rfl GH ET TB__law_steps_right ⟨(g42.mono (by decide)), b42, k42, m42⟩ ⟨(g43.mono (by decide)), b43, k43, m43⟩ ⟨(g36.mono (by decide)), b36, k36, m36⟩ n36 ⟨(fn_or (g37.mono (by decide)) (g37X.mono (by decide))), b37, k37, m37⟩ n37 ⟨(g37.mono (by decide)), b37, k37, m37⟩ ⟨(g38.mono (by decide)), b38, k38, m38⟩ n38 m_isinstance m_len m_range m_repr m_list
  have g48 := ok_rows_right (P := l.prog) (w := w) (mg := mg) (base := base) (k := 6) F48 ⟨(g1.mono (by decide)), b1, k1, m1⟩ ⟨(g41.mono (by decide)), b41, k41, m41⟩ n41 ⟨(g45.mono (by decide)), b45, k45, m45⟩ m_len m_list m_range m_repr
  have g49 := ok_orders_right (P := l.prog) (w := w) (mg := mg) (base := base) (k := 5) F49 ⟨(g4.mono (by decide)), b4, k4, m4⟩ ⟨(g40.mono (by decide)), b40, k40, m40⟩ n40 ⟨(g42.mono (by decide)), b42, k42, m42⟩ ⟨(g43.mono (by decide)), b43, k43, m43⟩ m_isinstance m_tuple m_len m_list m_range m_repr m_sum
  exact ok_law (P := l.prog) (w := w) (mg := mg) (base := base) (k := 4) F50 rfl T M GH ET TB_law (g18.mono (by decide)) b18 ⟨(g3.mono (by decide)), b3, k3, m3⟩ ⟨(g1.mono (by decide)), b1, k1, m1⟩ ⟨(g2.mono (by decide)), b2, k2, m2⟩ ⟨(g4.mono (by decide)), b4, k4, m4⟩ ⟨(g12.mono (by decide)), b12, k12, m12⟩ ⟨(g5.mono (by decide)), b5, k5, m5⟩ ⟨(g44.mono (by decide)), b44, k44, m44⟩ ⟨(g46.mono (by decide)), b46, k46, m46⟩ ⟨(g47.mono (by decide)), b47, k47, m47⟩ ⟨(g48.mono (by decide)), b48, k48, m48⟩ ⟨(g49.mono (by decide)), b49, k49, m49⟩ ⟨(g33.mono (by decide)), b33, k33, m33⟩ n33 ⟨(g28.mono (by decide)), b28, k28, m28⟩ ⟨(g42.mono (by decide)), b42, k42, m42⟩ ⟨(g38.mono (by decide)), b38, k38, m38⟩ ⟨(g40.mono (by decide)), b40, k40, m40⟩ ⟨(g36.mono (by decide)), b36, k36, m36⟩ ⟨(g41.mono (by decide)), b41, k41, m41⟩ ⟨(fn_or (g38.mono (by decide)) (g38X.mono (by decide))), b38, k38, m38⟩ m_isinstance m_len m_int m_range m_list m_repr
end K14
open PySem PySem.W PyProof.Rows
set_option maxHeartbeats 0 in
theorem PySem.Challenge.cw_lastpairs_k15_whole_asking_in_any_sequen_holds : PySem.Challenge.rw_lastpairs_k15_whole_asking_in_any_sequen.Holds := by
  w_on; o_law; k_head; (case hw => w_witness2)
  k_fill
  refine K14.walkX (l := PySem.Challenge.rw_lastpairs_k15_whole_asking_in_any_sequen) (n := 63) (k := 8) (CX := fun _ => L2.CX0) (x := "script") rfl (by decide) rfl ⟨rfl, by decide, by decide⟩ (fun w h Y => PySem.W.km_in_of Y) ?F ?C
  case C => intro w H s e s' z; exact z
  case F =>
    intro w mg fa h Y KX G hmg
    refine' K14.all_mk (PT46 := 376) (PT47 := 359) (PT50 := 381) KX G hmg ?a1 ?l1 ?c1 ?k1 ?a2 ?l2 ?c2 ?k2 ?a3 ?l3 ?c3 ?k3 ?a4 ?l4 ?c4 ?k4 ?a5 ?l5 ?c5 ?k5 ?a6 ?l6 ?c6 ?k6 ?a7 ?l7 ?c7 ?k7 ?a8 ?l8 ?c8 ?k8 ?a9 ?l9 ?c9 ?k9 ?a10 ?l10 ?c10 ?k10 ?a11 ?l11 ?c11 ?k11 ?a12 ?l12 ?c12 ?k12 ?a13 ?l13 ?c13 ?k13 ?a14 ?l14 ?c14 ?k14 ?a15 ?l15 ?c15 ?k15 ?a16 ?l16 ?c16 ?k16 ?a17 ?l17 ?c17 ?k17 ?a18 ?i18 ?l18 ?c18 ?k18 ?a19 ?l19 ?c19 ?k19 ?a20 ?l20 ?c20 ?k20 ?a21 ?l21 ?c21 ?k21 ?a22 ?l22 ?c22 ?k22 ?a23 ?l23 ?c23 ?k23 ?a24 ?l24 ?c24 ?k24 ?a25 ?l25 ?c25 ?k25 ?a26 ?l26 ?c26 ?k26 ?a27 ?i27 ?l27 ?c27 ?k27 ?a28 ?l28 ?c28 ?k28 ?a29 ?l29 ?c29 ?k29 ?a30 ?l30 ?c30 ?k30 ?a31 ?l31 ?c31 ?k31 ?a32 ?l32 ?c32 ?k32 ?a33 ?l33 ?c33 ?k33 ?a34 ?i34 ?l34 ?c34 ?k34 ?a35 ?l35 ?c35 ?k35 ?a36 ?l36 ?c36 ?k36 ?a37 ?l37 ?c37 ?k37 ?a38 ?l38 ?c38 ?k38 ?a39 ?l39 ?c39 ?k39 ?a40 ?l40 ?c40 ?k40 ?a41 ?l41 ?c41 ?k41 ?a42 ?l42 ?c42 ?k42 ?a43 ?l43 ?c43 ?k43 ?a44 ?l44 ?c44 ?k44 ?a45 ?l45 ?c45 ?k45 ?a46 ?l46 ?c46 ?k46 ?a47 ?l47 ?c47 ?k47 ?a48 ?l48 ?c48 ?k48 ?a49 ?l49 ?c49 ?k49 ?a50 ?l50 ?c50 ?k50 ?aC ?pg ?hd ?po ?sa ?mk ?kc ?nA0 ?nA1 ?nA2 ?ic1 ?ic2 ?ic3 ?ic4 ?z_int ?z_len ?z_abs ?z_range ?z_list ?z_tuple ?z_sorted ?z_isinstance ?z_bool ?z_str ?z_all ?z_set ?z_enumerate ?z_sum ?z_repr ?zi_MOST_LETTERS ?zi_MOST_PERSONS ?eL ?eV ?q_sa ?q_ex ?q_ty ?q_k ?q_ga ?q_gg ?q_hd ?q_ha ?q_hn ?q_ht ?q_hm ?q_w ?q_gR ?q_gM ?q_kM ?q_xm ?q_is ?aH ?lH ?cH ?kH ?hT46 ?nT46 ?hC46 ?hT47 ?nT47 ?hC47 ?hT50 ?nT50 ?hC50 ?ne46_47 ?ne46_50 ?ne47_50
    (case aC => k_is); (case q_gR => k_is); (case q_gM => k_is); (case eL => k_is); (case a1 => k_is); (case l1 => k_is); (case c1 => k_is); (case k1 => k_is); (case a2 => k_is); (case l2 => k_is); (case c2 => k_is); (case k2 => k_is); (case a3 => k_is); (case l3 => k_is); (case c3 => k_is); (case k3 => k_is); (case a4 => k_is); (case l4 => k_is); (case c4 => k_is); (case k4 => k_is); (case a5 => k_is); (case l5 => k_is); (case c5 => k_is); (case k5 => k_is); (case a6 => k_is); (case l6 => k_is); (case c6 => k_is); (case k6 => k_is); (case a7 => k_is); (case l7 => k_is); (case c7 => k_is); (case k7 => k_is); (case a8 => k_is); (case l8 => k_is); (case c8 => k_is); (case k8 => k_is); (case a9 => k_is); (case l9 => k_is); (case c9 => k_is); (case k9 => k_is); (case a10 => k_is); (case l10 => k_is); (case c10 => k_is); (case k10 => k_is); (case a11 => k_is); (case l11 => k_is); (case c11 => k_is); (case k11 => k_is); (case a12 => k_is); (case l12 => k_is); (case c12 => k_is); (case k12 => k_is); (case a13 => k_is); (case l13 => k_is); (case c13 => k_is); (case k13 => k_is); (case a14 => k_is); (case l14 => k_is); (case c14 => k_is); (case k14 => k_is); (case a15 => k_is); (case l15 => k_is); (case c15 => k_is); (case k15 => k_is); (case a16 => k_is); (case l16 => k_is); (case c16 => k_is); (case k16 => k_is); (case a17 => k_is); (case l17 => k_is); (case c17 => k_is); (case k17 => k_is); (case a18 => k_is); (case i18 => k_is); (case l18 => k_is); (case c18 => k_is); (case k18 => k_is); (case a19 => k_is); (case l19 => k_is); (case c19 => k_is); (case k19 => k_is); (case a20 => k_is); (case l20 => k_is); (case c20 => k_is); (case k20 => k_is); (case a21 => k_is); (case l21 => k_is); (case c21 => k_is); (case k21 => k_is); (case a22 => k_is); (case l22 => k_is); (case c22 => k_is); (case k22 => k_is); (case a23 => k_is); (case l23 => k_is); (case c23 => k_is); (case k23 => k_is); (case a24 => k_is); (case l24 => k_is); (case c24 => k_is); (case k24 => k_is); (case a25 => k_is); (case l25 => k_is); (case c25 => k_is); (case k25 => k_is); (case a26 => k_is); (case l26 => k_is); (case c26 => k_is); (case k26 => k_is); (case a27 => k_is); (case i27 => k_is); (case l27 => k_is); (case c27 => k_is); (case k27 => k_is); (case a28 => k_is); (case l28 => k_is); (case c28 => k_is); (case k28 => k_is); (case a29 => k_is); (case l29 => k_is); (case c29 => k_is); (case k29 => k_is); (case a30 => k_is); (case l30 => k_is); (case c30 => k_is); (case k30 => k_is); (case a31 => k_is); (case l31 => k_is); (case c31 => k_is); (case k31 => k_is); (case a32 => k_is); (case l32 => k_is); (case c32 => k_is); (case k32 => k_is); (case a33 => k_is); (case l33 => k_is); (case c33 => k_is); (case k33 => k_is); (case a34 => k_is); (case i34 => k_is); (case l34 => k_is); (case c34 => k_is); (case k34 => k_is); (case a35 => k_is); (case l35 => k_is); (case c35 => k_is); (case k35 => k_is); (case a36 => k_is); (case l36 => k_is); (case c36 => k_is); (case k36 => k_is); (case a37 => k_is); (case l37 => k_is); (case c37 => k_is); (case k37 => k_is); (case a38 => k_is); (case l38 => k_is); (case c38 => k_is); (case k38 => k_is); (case a39 => k_is); (case l39 => k_is); (case c39 => k_is); (case k39 => k_is); (case a40 => k_is); (case l40 => k_is); (case c40 => k_is); (case k40 => k_is); (case a41 => k_is); (case l41 => k_is); (case c41 => k_is); (case k41 => k_is); (case a42 => k_is); (case l42 => k_is); (case c42 => k_is); (case k42 => k_is); (case a43 => k_is); (case l43 => k_is); (case c43 => k_is); (case k43 => k_is); (case a44 => k_is); (case l44 => k_is); (case c44 => k_is); (case k44 => k_is); (case a45 => k_is); (case l45 => k_is); (case c45 => k_is); (case k45 => k_is); (case a46 => k_is); (case l46 => k_is); (case c46 => k_is); (case k46 => k_is); (case a47 => k_is); (case l47 => k_is); (case c47 => k_is); (case k47 => k_is); (case a48 => k_is); (case l48 => k_is); (case c48 => k_is); (case k48 => k_is); (case a49 => k_is); (case l49 => k_is); (case c49 => k_is); (case k49 => k_is); (case a50 => k_is); (case l50 => k_is); (case c50 => k_is); (case k50 => k_is); (case pg => k_is); (case hd => k_is); (case po => k_is); (case sa => k_is); (case mk => k_is); (case kc => k_is); (case nA0 => k_is); (case nA1 => k_is); (case nA2 => k_is); (case ic1 => k_is); (case ic2 => k_is); (case ic3 => k_is); (case ic4 => k_is); (case z_int => k_is); (case z_len => k_is); (case z_abs => k_is); (case z_range => k_is); (case z_list => k_is); (case z_tuple => k_is); (case z_sorted => k_is); (case z_isinstance => k_is); (case z_bool => k_is); (case z_str => k_is); (case z_all => k_is); (case z_set => k_is); (case z_enumerate => k_is); (case z_sum => k_is); (case z_repr => k_is); (case zi_MOST_LETTERS => k_is); (case zi_MOST_PERSONS => k_is); (case eV => first | k_is | kernel_rfl); (case q_sa => k_is); (case q_ex => k_is); (case q_ty => k_is); (case q_k => k_is); (case q_ga => k_is); (case q_gg => k_is); (case q_hd => k_is); (case q_ha => k_is); (case q_hn => k_is); (case q_ht => k_is); (case q_hm => k_is); (case q_w => k_is); (case q_kM => k_is); (case q_xm => first | k_is | kernel_rfl); (case q_is => first | k_is | kernel_rfl); (case aH => k_is); (case lH => k_is); (case cH => k_is); (case kH => k_is)
    case hT46 => exact PySem.W.km_tabs_of Y 376 (by decide)
    case nT46 => first | k_is | kernel_rfl
    case hC46 => exact PySem.W.codeHd_of_K KX (by kernel_rfl)
    case hT47 => exact PySem.W.km_tabs_of Y 359 (by decide)
    case nT47 => first | k_is | kernel_rfl
    case hC47 => exact PySem.W.codeHd_of_K KX (by kernel_rfl)
    case hT50 => exact PySem.W.km_tabs_of Y 381 (by decide)
    case nT50 => first | k_is | kernel_rfl
    case hC50 => exact PySem.W.codeHd_of_K KX (by kernel_rfl)
    case ne46_47 => decide
    case ne46_50 => decide
    case ne47_50 => decide
