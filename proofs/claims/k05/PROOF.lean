import PyProof.Rows.All
import Wide.All
import OpenK.AllK
import Wide.FinOn
import HandS.ForMost
import HandS.Style
import HandS.Walk
import HandS.Codes
import HandS.FStrTup
import PyProof.StrOps2
import PyProof.ReprRoads
import PySem.Challenge.RW_lastpairs_k05_marks_cut_and_joined
set_option Elab.async false
set_option linter.all false
set_option maxRecDepth 100000
namespace K05
/-! the mathematics: marks of a list of codes -/
structure Mk where
  ln : Nat
  at_ : Nat
  s : List Nat
  k : Nat
def kd (c : Nat) : Nat := if 97 ≤ c ∧ c ≤ 122 then 1 else if 48 ≤ c ∧ c ≤ 57 then 2 else 0
structure St0 where
  found : List Mk
  ln : Nat
  at_ : Nat
/-- whether a sign goes on with the last mark -/
def touch (k : Nat) (ln at_ : Nat) (m : Mk) : Bool := decide (m.k = k) && (decide (m.ln = ln) && decide (m.at_ + m.s.length = at_))
def ext (found : List Mk) (k ln at_ : Nat) : Bool := decide (0 < k) && (match found.getLast? with | none => false | some m => touch k ln at_ m)
def grow (found : List Mk) (c : Nat) : List Mk := match found.getLast? with
  | none => found
  | some m => found.dropLast ++ [⟨m.ln, m.at_, m.s ++ [c], m.k⟩]
def stepF (found : List Mk) (ln at_ c : Nat) : List Mk :=
  if ext found (kd c) ln at_ then grow found c else if c = 32 then found else found ++ [⟨ln, at_, [c], kd c⟩]
def stp (S : St0) (c : Nat) : St0 := if c = 10 then ⟨stepF S.found S.ln S.at_ c, S.ln + 1, 0⟩ else ⟨stepF S.found S.ln S.at_ c, S.ln, S.at_ + 1⟩
def due (l : List Nat) : St0 := l.foldl stp ⟨[], 0, 0⟩
theorem due_snoc (l : List Nat) (c : Nat) : due (l ++ [c]) = stp (due l) c := by
  unfold due
  rw [List.foldl_append]
  rfl
/-! a part of a line -/
def lnF (n : Nat) (found : List Mk) (a : Nat) : List Nat → List Mk
  | [] => found
  | c :: r => lnF n (stepF found n a c) (a + 1) r
theorem lnF_append (n : Nat) : ∀ (l r : List Nat) (found : List Mk) (a : Nat), lnF n found a (l ++ r) = lnF n (lnF n found a l) (a + l.length) r
  | [], r, found, a => rfl
  | c :: l, r, found, a => by
    show lnF n (stepF found n a c) (a + 1) (l ++ r) = _
    rw [lnF_append n l r]
    show _ = lnF n (lnF n (stepF found n a c) (a + 1) l) (a + (l.length + 1)) r
    rw [show a + 1 + l.length = a + (l.length + 1) by omega]
theorem fold_line : ∀ (l : List Nat) (found : List Mk) (n a : Nat), (∀ c ∈ l, c ≠ 10) → l.foldl stp ⟨found, n, a⟩ = ⟨lnF n found a l, n, a + l.length⟩
  | [], found, n, a, _ => rfl
  | c :: l, found, n, a, h => by
    have hc : c ≠ 10 := h c (by simp)
    rw [List.foldl_cons]
    have e : stp ⟨found, n, a⟩ c = ⟨stepF found n a c, n, a + 1⟩ := by
      unfold stp
      rw [if_neg hc]
    rw [e, fold_line l _ n (a + 1) (fun x hx => h x (by simp [hx]))]
    show (⟨lnF n (stepF found n a c) (a + 1) l, n, a + 1 + l.length⟩ : St0) = ⟨lnF n (stepF found n a c) (a + 1) l, n, a + (l.length + 1)⟩
    rw [show a + 1 + l.length = a + (l.length + 1) by omega]
/-- what stands in earlier lines does not matter -/
def Before (n : Nat) (F0 : List Mk) : Prop := ∀ m ∈ F0, m.ln < n
theorem ext_before {F0 G : List Mk} {k n a : Nat} (h : Before n F0) : ext (F0 ++ G) k n a = ext G k n a := by
  unfold ext
  rw [List.getLast?_append]
  cases e : G.getLast? with
  | some m => rfl
  | none =>
    simp only [Option.none_or]
    cases e2 : F0.getLast? with
    | none => rfl
    | some m =>
      have hm := h m (List.mem_of_getLast? e2)
      have : touch k n a m = false := by
        unfold touch
        rw [decide_eq_false (show ¬ m.ln = n by omega)]
        simp
      simp only [this]
theorem grow_before {F0 G : List Mk} {c : Nat} (h : G ≠ []) : grow (F0 ++ G) c = F0 ++ grow G c := by
  unfold grow
  rw [List.getLast?_append]
  cases e : G.getLast? with
  | none => exact absurd (List.getLast?_eq_none_iff.mp e) h
  | some m =>
    simp only [Option.some_or]
    rw [List.dropLast_append_of_ne_nil h, List.append_assoc]
theorem stepF_before {F0 G : List Mk} {n a c : Nat} (h : Before n F0) : stepF (F0 ++ G) n a c = F0 ++ stepF G n a c := by
  unfold stepF
  rw [ext_before h]
  cases e : ext G (kd c) n a with
  | true =>
    have hG : G ≠ [] := by
      intro z
      subst z
      unfold ext at e
      simp at e
    simp only [if_true]
    exact grow_before hG
  | false =>
    simp only [Bool.false_eq_true, if_false]
    by_cases hc : c = 32
    · simp only [hc, if_true]
    · simp only [hc, if_false, List.append_assoc]
theorem lnF_before {n : Nat} {F0 : List Mk} (h : Before n F0) : ∀ (l : List Nat) (G : List Mk) (a : Nat), lnF n (F0 ++ G) a l = F0 ++ lnF n G a l
  | [], G, a => rfl
  | c :: l, G, a => by
    show lnF n (stepF (F0 ++ G) n a c) (a + 1) l = F0 ++ lnF n (stepF G n a c) (a + 1) l
    rw [stepF_before h, lnF_before h l]
/-- the marks of a line -/
def lineM (n : Nat) (l : List Nat) : List Mk := lnF n [] 0 l
theorem stepF_ln {G : List Mk} {n a c : Nat} (h : ∀ m ∈ G, m.ln = n) : ∀ m ∈ stepF G n a c, m.ln = n := by
  intro m hm
  unfold stepF at hm
  split at hm
  · unfold grow at hm
    split at hm
    · exact h m hm
    · rename_i m' e
      rcases List.mem_append.mp hm with hm | hm
      · exact h m (List.dropLast_subset _ hm)
      · rw [List.mem_singleton.mp hm]
        exact h m' (List.mem_of_getLast? e)
  · split at hm
    · exact h m hm
    · rcases List.mem_append.mp hm with hm | hm
      · exact h m hm
      · rw [List.mem_singleton.mp hm]
theorem lnF_ln {n : Nat} : ∀ (l : List Nat) (G : List Mk) (a : Nat), (∀ m ∈ G, m.ln = n) → ∀ m ∈ lnF n G a l, m.ln = n
  | [], G, a, h => h
  | c :: l, G, a, h => lnF_ln l _ _ (stepF_ln h)
/-- the marks of lines -/
def linesM (n : Nat) : List (List Nat) → List Mk
  | [] => []
  | [l] => lineM n l
  | l :: r => lineM n l ++ [⟨n, l.length, [10], 0⟩] ++ linesM (n + 1) r
def glue : List (List Nat) → List Nat
  | [] => []
  | [l] => l
  | l :: r => l ++ [10] ++ glue r
theorem kd10 : kd 10 = 0 := by decide
theorem fold_lines : ∀ (ls : List (List Nat)) (F0 : List Mk) (n : Nat), Before n F0 → (∀ l ∈ ls, ∀ c ∈ l, c ≠ 10) → ((glue ls).foldl stp ⟨F0, n, 0⟩).found = F0 ++ linesM n ls
  | [], F0, n, hb, h => by simp [glue, linesM]
  | [l], F0, n, hb, h => by
    show (l.foldl stp ⟨F0, n, 0⟩).found = F0 ++ lineM n l
    rw [fold_line l F0 n 0 (h l (by simp))]
    show lnF n F0 0 l = _
    have := lnF_before hb l [] 0
    rw [List.append_nil] at this
    exact this
  | l :: l2 :: r, F0, n, hb, h => by
    show ((l ++ [10] ++ glue (l2 :: r)).foldl stp ⟨F0, n, 0⟩).found = F0 ++ (lineM n l ++ [⟨n, l.length, [10], 0⟩] ++ linesM (n + 1) (l2 :: r))
    rw [List.foldl_append, List.foldl_append, fold_line l F0 n 0 (h l (by simp))]
    have e0 : lnF n F0 0 l = F0 ++ lineM n l := by
      have := lnF_before hb l [] 0
      rw [List.append_nil] at this
      exact this
    rw [e0]
    have e1 : [10].foldl stp ⟨F0 ++ lineM n l, n, 0 + l.length⟩ = ⟨F0 ++ lineM n l ++ [⟨n, l.length, [10], 0⟩], n + 1, 0⟩ := by
      show stp ⟨F0 ++ lineM n l, n, 0 + l.length⟩ 10 = _
      unfold stp
      rw [if_pos rfl]
      show (⟨stepF (F0 ++ lineM n l) n (0 + l.length) 10, n + 1, 0⟩ : St0) = _
      have : stepF (F0 ++ lineM n l) n (0 + l.length) 10 = F0 ++ lineM n l ++ [⟨n, l.length, [10], 0⟩] := by
        unfold stepF
        have e : ext (F0 ++ lineM n l) (kd 10) n (0 + l.length) = false := by
          unfold ext
          rw [kd10]
          simp
        rw [e, kd10, Nat.zero_add]
        simp
      rw [this]
    rw [e1, fold_lines (l2 :: r) _ (n + 1) ?_ (fun x hx => h x (by simp only [List.mem_cons] at hx ⊢; exact .inr hx))]
    · simp only [List.append_assoc]
    · intro m hm
      rcases List.mem_append.mp hm with hm | hm
      · rcases List.mem_append.mp hm with hm | hm
        · have := hb m hm
          omega
        · have := lnF_ln l [] 0 (by simp) m hm
          omega
      · rw [List.mem_singleton.mp hm]
        show n < n + 1
        omega
theorem due_lines {ls : List (List Nat)} (h : ∀ l ∈ ls, ∀ c ∈ l, c ≠ 10) : (due (glue ls)).found = linesM 0 ls := by
  unfold due
  rw [fold_lines ls [] 0 (by intro m hm; cases hm) h, List.nil_append]
end K05
namespace K05
theorem kd32 : kd 32 = 0 := by decide
theorem run_new {G : List Mk} {n a c : Nat} (h : ext G (kd c) n a = false) (hk : 0 < kd c) : stepF G n a c = G ++ [⟨n, a, [c], kd c⟩] := by
  unfold stepF
  have h32 : c ≠ 32 := fun e => by rw [e, kd32] at hk; exact absurd hk (by decide)
  rw [h, if_neg h32]
  simp
theorem run_ext {n a k : Nat} (hk : 0 < k) : ∀ (seg : List Nat) (G : List Mk) (s : List Nat), (∀ c ∈ seg, kd c = k) → lnF n (G ++ [⟨n, a, s, k⟩]) (a + s.length) seg = G ++ [⟨n, a, s ++ seg, k⟩]
  | [], G, s, _ => by simp [lnF]
  | c :: r, G, s, h => by
    have hc : kd c = k := h c (by simp)
    have e : stepF (G ++ [⟨n, a, s, k⟩]) n (a + s.length) c = G ++ [⟨n, a, s ++ [c], k⟩] := by
      unfold stepF
      have e1 : ext (G ++ [⟨n, a, s, k⟩]) (kd c) n (a + s.length) = true := by
        unfold ext
        rw [List.getLast?_append, hc]
        simp [touch, hk]
      rw [e1, if_pos rfl]
      unfold grow
      rw [List.getLast?_append]
      simp
    show lnF n (stepF (G ++ [⟨n, a, s, k⟩]) n (a + s.length) c) (a + s.length + 1) r = _
    have ih := run_ext (n := n) (a := a) hk r G (s ++ [c]) (fun x hx => h x (by simp [hx]))
    rw [List.length_append, List.length_singleton, ← Nat.add_assoc] at ih
    rw [e, ih]
    simp
theorem run_all {n a k : Nat} {G : List Mk} {seg : List Nat} (hk : 0 < k) (hs : seg ≠ []) (h : ∀ c ∈ seg, kd c = k) (hb : ext G k n a = false) : lnF n G a seg = G ++ [⟨n, a, seg, k⟩] := by
  cases seg with
  | nil => exact absurd rfl hs
  | cons c r =>
    have hc : kd c = k := h c (by simp)
    show lnF n (stepF G n a c) (a + 1) r = _
    rw [run_new (by rw [hc]; exact hb) (by rw [hc]; exact hk), hc]
    exact run_ext hk r G [c] (fun x hx => h x (by simp [hx]))
theorem one_sign {n a c : Nat} {G : List Mk} (hk : kd c = 0) (h32 : c ≠ 32) : lnF n G a [c] = G ++ [⟨n, a, [c], 0⟩] := by
  show stepF G n a c = _
  unfold stepF
  have e : ext G (kd c) n a = false := by
    unfold ext
    rw [hk]
    simp
  rw [e, hk, if_neg h32]
  simp
theorem one_blank {n a : Nat} {G : List Mk} : lnF n G a [32] = G := by
  show stepF G n a 32 = _
  unfold stepF
  have e : ext G (kd 32) n a = false := by
    unfold ext
    rw [kd32]
    simp
  rw [e]
  simp
/-- the place where a mark may begin: no earlier one goes on with sign c -/
structure Free0 (n : Nat) (l : List Nat) (a : Nat) (G : List Mk) : Prop where
  le : a ≤ l.length
  eq : G = lnF n [] 0 (l.take a)
  low : ∀ m ∈ G, m.at_ + m.s.length ≤ a
  no : ∀ c, l[a]? = some c → ext G (kd c) n a = false
theorem free_start {n : Nat} {l : List Nat} : Free0 n l 0 [] := by
  refine ⟨Nat.zero_le _, by simp [lnF], by simp, fun c _ => ?_⟩
  unfold ext
  simp
theorem ext_last {G : List Mk} {m : Mk} {k n a : Nat} (h : m.k ≠ k ∨ k = 0 ∨ m.at_ + m.s.length ≠ a) : ext (G ++ [m]) k n a = false := by
  unfold ext
  rw [List.getLast?_append]
  simp only [List.getLast?_singleton, Option.some_or, touch]
  rcases h with h | h | h
  · rw [decide_eq_false h]; simp
  · subst h; simp
  · rw [decide_eq_false h]; simp
theorem take_seg {l : List Nat} {a e : Nat} (h : a ≤ e) : l.take e = l.take a ++ (l.drop a).take (e - a) := by
  have q : e = a + (e - a) := by omega
  rw [q, List.take_add]
  rw [show a + (e - a) - a = e - a by omega]
theorem lnF_seg {n : Nat} {l : List Nat} {a e : Nat} {G : List Mk} (h : Free0 n l a G) (hae : a ≤ e) : lnF n [] 0 (l.take e) = lnF n G a ((l.drop a).take (e - a)) := by
  have hl : (l.take a).length = a := by rw [List.length_take, Nat.min_eq_left h.le]
  rw [take_seg hae, lnF_append, hl, Nat.zero_add, ← h.eq]
/-- a run of letters or digits -/
theorem free_run {n : Nat} {l : List Nat} {a e k : Nat} {G : List Mk} (h : Free0 n l a G) (hk : 0 < k) (hae : a < e) (hel : e ≤ l.length) (hs : ∀ j c, a ≤ j → j < e → l[j]? = some c → kd c = k) (hend : ∀ c, l[e]? = some c → kd c ≠ k) :
    Free0 n l e (G ++ [⟨n, a, (l.drop a).take (e - a), k⟩]) := by
  have hlen : ((l.drop a).take (e - a)).length = e - a := by rw [List.length_take, List.length_drop]; omega
  have hall : ∀ c ∈ (l.drop a).take (e - a), kd c = k := by
    intro c hc
    obtain ⟨j, hj⟩ := List.mem_iff_getElem?.mp hc
    rw [List.getElem?_take] at hj
    split at hj
    · rw [List.getElem?_drop] at hj
      exact hs (a + j) c (by omega) (by omega) hj
    · cases hj
  have hne : (l.drop a).take (e - a) ≠ [] := fun z => by rw [z] at hlen; simp at hlen; omega
  have hb : ext G k n a = false := by
    have ha : a < l.length := by omega
    have q := h.no l[a] (List.getElem?_eq_getElem ha)
    rw [hs a l[a] (Nat.le_refl _) hae (List.getElem?_eq_getElem ha)] at q
    exact q
  refine ⟨hel, ?_, ?_, fun c hc => ?_⟩
  · rw [lnF_seg h (by omega), run_all hk hne hall hb]
  · intro m hm
    rcases List.mem_append.mp hm with hm | hm
    · have := h.low m hm
      omega
    · rw [List.mem_singleton.mp hm]
      show a + ((l.drop a).take (e - a)).length ≤ e
      omega
  · exact ext_last (.inl (fun q => hend c hc q.symm))
theorem free_sign {n : Nat} {l : List Nat} {a c : Nat} {G : List Mk} (h : Free0 n l a G) (hc : l[a]? = some c) (hk : kd c = 0) (h32 : c ≠ 32) : Free0 n l (a + 1) (G ++ [⟨n, a, [c], 0⟩]) := by
  have ha : a < l.length := (List.getElem?_eq_some_iff.mp hc).1
  have hseg : (l.drop a).take (a + 1 - a) = [c] := by
    rw [show a + 1 - a = 1 by omega, List.drop_eq_getElem_cons ha]
    have : l[a] = c := (List.getElem?_eq_some_iff.mp hc).2
    simp [this]
  refine ⟨by omega, ?_, ?_, fun c' hc' => ?_⟩
  · rw [lnF_seg h (by omega), hseg, one_sign hk h32]
  · intro m hm
    rcases List.mem_append.mp hm with hm | hm
    · have := h.low m hm
      omega
    · rw [List.mem_singleton.mp hm]
      show a + 1 ≤ a + 1
      omega
  · refine ext_last ?_
    by_cases q : kd c' = 0
    · exact .inr (.inl q)
    · exact .inl (fun z => q z.symm)
theorem free_blank {n : Nat} {l : List Nat} {a : Nat} {G : List Mk} (h : Free0 n l a G) (hc : l[a]? = some 32) : Free0 n l (a + 1) G := by
  have ha : a < l.length := (List.getElem?_eq_some_iff.mp hc).1
  have hseg : (l.drop a).take (a + 1 - a) = [32] := by
    rw [show a + 1 - a = 1 by omega, List.drop_eq_getElem_cons ha]
    have : l[a] = 32 := (List.getElem?_eq_some_iff.mp hc).2
    simp [this]
  refine ⟨by omega, ?_, ?_, fun c' hc' => ?_⟩
  · rw [lnF_seg h (by omega), hseg, one_blank]
  · intro m hm
    have := h.low m hm
    omega
  · unfold ext
    cases e : G.getLast? with
    | none => simp
    | some m =>
      have := h.low m (List.mem_of_getLast? e)
      have q : touch (kd c') n (a + 1) m = false := by
        unfold touch
        rw [decide_eq_false (show ¬ m.at_ + m.s.length = a + 1 by omega)]
        simp
      simp only [q, Bool.and_false]
theorem free_end {n : Nat} {l : List Nat} {G : List Mk} (h : Free0 n l l.length G) : G = lineM n l := by
  have := h.eq
  rw [List.take_length] at this
  exact this
/-! marks joined again -/
structure Good (m : Mk) : Prop where
  ok : (0 < m.k ∧ m.s ≠ [] ∧ ∀ c ∈ m.s, kd c = m.k) ∨ (m.k = 0 ∧ ∃ c, m.s = [c] ∧ kd c = 0 ∧ c ≠ 32)
theorem good_step {G : List Mk} {n a c : Nat} (h : ∀ m ∈ G, Good m) : ∀ m ∈ stepF G n a c, Good m := by
  intro m hm
  unfold stepF at hm
  split at hm
  · rename_i he
    unfold grow at hm
    split at hm
    · exact h m hm
    · rename_i m' e
      rcases List.mem_append.mp hm with hm | hm
      · exact h m (List.dropLast_subset _ hm)
      · rw [List.mem_singleton.mp hm]
        have hm' := h m' (List.mem_of_getLast? e)
        unfold ext at he
        rw [e] at he
        simp only [touch, Bool.and_eq_true, decide_eq_true_eq] at he
        obtain ⟨h0, h1, _⟩ := he
        refine ⟨.inl ⟨by show 0 < m'.k; omega, by simp, fun x hx => ?_⟩⟩
        rcases List.mem_append.mp hx with hx | hx
        · rcases hm'.ok with ⟨_, _, q⟩ | ⟨q, _⟩
          · exact q x hx
          · omega
        · rw [List.mem_singleton.mp hx]
          exact h1.symm
  · split at hm
    · exact h m hm
    · rename_i h32
      rcases List.mem_append.mp hm with hm | hm
      · exact h m hm
      · rw [List.mem_singleton.mp hm]
        by_cases q : kd c = 0
        · exact ⟨.inr ⟨q, c, rfl, q, h32⟩⟩
        · refine ⟨.inl ⟨by show 0 < kd c; omega, by simp, fun x hx => ?_⟩⟩
          rw [List.mem_singleton.mp hx]
theorem good_fold : ∀ (l : List Nat) (S : St0), (∀ m ∈ S.found, Good m) → ∀ m ∈ (l.foldl stp S).found, Good m
  | [], S, h => h
  | c :: l, S, h => by
    rw [List.foldl_cons]
    refine good_fold l _ ?_
    have := good_step (G := S.found) (n := S.ln) (a := S.at_) (c := c) h
    unfold stp
    split <;> exact this
theorem good_due (l : List Nat) : ∀ m ∈ (due l).found, Good m := good_fold l _ (by simp)
/-- the last mark is not next to what comes -/
def Apart (S : St0) : Prop := ∀ m, S.found.getLast? = some m → m.ln ≠ S.ln ∨ m.at_ + m.s.length ≠ S.at_
theorem ext_apart {S : St0} (h : Apart S) (k : Nat) : ext S.found k S.ln S.at_ = false := by
  unfold ext
  cases e : S.found.getLast? with
  | none => simp
  | some m =>
    have q : touch k S.ln S.at_ m = false := by
      unfold touch
      rcases h m e with h | h
      · rw [decide_eq_false h]; simp
      · rw [decide_eq_false h]; simp
    simp only [q, Bool.and_false]
/-- a good mark and a blank, behind what it is apart from -/
theorem fold_mark {m : Mk} (g : Good m) (S : St0) (h : Apart S) : ∃ m' , (m.s.foldl stp S).found = S.found ++ [m'] ∧ m'.s = m.s ∧ (m'.ln = (m.s.foldl stp S).ln ∧ m'.at_ + m'.s.length = (m.s.foldl stp S).at_ ∨ m'.ln < (m.s.foldl stp S).ln) := by
  obtain ⟨F, n, a⟩ := S
  rcases g.ok with ⟨hk, hs, hall⟩ | ⟨hk, c, hc, kc, h32⟩
  · have h10 : ∀ c ∈ m.s, c ≠ 10 := fun c hc z => by
      have := hall c hc
      rw [z, kd10] at this
      omega
    rw [fold_line m.s F n a h10, run_all hk hs hall (ext_apart h m.k)]
    exact ⟨_, rfl, rfl, .inl ⟨rfl, rfl⟩⟩
  · rw [hc]
    have e : stepF F n a c = F ++ [⟨n, a, [c], 0⟩] := one_sign kc h32
    by_cases h10 : c = 10
    · refine ⟨⟨n, a, [c], 0⟩, ?_, rfl, .inr ?_⟩
      · show (stp ⟨F, n, a⟩ c).found = _
        unfold stp
        rw [if_pos h10]
        exact e
      · show n < (stp ⟨F, n, a⟩ c).ln
        unfold stp
        rw [if_pos h10]
        exact Nat.lt_succ_self n
    · refine ⟨⟨n, a, [c], 0⟩, ?_, rfl, .inl ?_⟩
      · show (stp ⟨F, n, a⟩ c).found = _
        unfold stp
        rw [if_neg h10]
        exact e
      · show n = (stp ⟨F, n, a⟩ c).ln ∧ a + 1 = (stp ⟨F, n, a⟩ c).at_
        unfold stp
        rw [if_neg h10]
        exact ⟨rfl, rfl⟩
theorem fold_blank (S : St0) : [32].foldl stp S = ⟨S.found, S.ln, S.at_ + 1⟩ := by
  obtain ⟨F, n, a⟩ := S
  show stp ⟨F, n, a⟩ 32 = _
  unfold stp
  rw [if_neg (by decide)]
  have : stepF F n a 32 = F := one_blank (n := n) (a := a)
  show (⟨stepF F n a 32, n, a + 1⟩ : St0) = _
  rw [this]
/-- joined with blanks -/
def glueB : List (List Nat) → List Nat
  | [] => []
  | [l] => l
  | l :: r => l ++ [32] ++ glueB r
theorem fold_joined : ∀ (ms : List Mk), (∀ m ∈ ms, Good m) → ∀ S : St0, Apart S → ((glueB (ms.map (·.s))).foldl stp S).found.map (·.s) = S.found.map (·.s) ++ ms.map (·.s)
  | [], _, S, _ => by simp [glueB]
  | [m], g, S, h => by
    obtain ⟨m', e1, e2, _⟩ := fold_mark (g m (by simp)) S h
    show (List.foldl stp S m.s).found.map Mk.s = _
    rw [e1]
    simp [e2]
  | m :: m2 :: r, g, S, h => by
    obtain ⟨m', e1, e2, e3⟩ := fold_mark (g m (by simp)) S h
    show (List.foldl stp S (m.s ++ [32] ++ glueB ((m2 :: r).map Mk.s))).found.map Mk.s = _
    rw [List.foldl_append, List.foldl_append, fold_blank]
    rw [fold_joined (m2 :: r) (fun x hx => g x (by simp only [List.mem_cons] at hx ⊢; exact .inr hx)) _ ?_]
    · simp only [e1, List.map_append, List.map_cons, List.map_nil, e2, List.append_assoc]
      rfl
    · intro x hx
      have hx : (m.s.foldl stp S).found.getLast? = some x := hx
      rw [e1, List.getLast?_append] at hx
      have hx : m' = x := by simpa using hx
      subst hx
      show m'.ln ≠ (m.s.foldl stp S).ln ∨ m'.at_ + m'.s.length ≠ (m.s.foldl stp S).at_ + 1
      rcases e3 with ⟨_, e4⟩ | e4
      · right; omega
      · left; omega
theorem due_joined (l : List Nat) : (due (glueB ((due l).found.map (·.s)))).found.map (·.s) = (due l).found.map (·.s) := by
  have := fold_joined (due l).found (good_due l) ⟨[], 0, 0⟩ (by intro m h; cases h)
  exact this
end K05
namespace K05
open PySem PySem.Spec PyProof.Rows L2
def topS (i : Nat) : Stmt := PySem.Challenge.pw_lastpairs_k05_marks_cut_and_joined.main.body.getD i (.Pass ⟨0, 0, 0, 0⟩)
abbrev sMarks : Stmt := topS 3
abbrev sLine : Stmt := topS 4
abbrev sEnd : Stmt := topS 5
abbrev sRun : Stmt := topS 6
abbrev sHeap : Stmt := topS 8
abbrev sDraw : Stmt := topS 9
abbrev sPick : Stmt := topS 10
abbrev sKind : Stmt := topS 11
abbrev sDue : Stmt := topS 12
abbrev sPiece : Stmt := topS 13
abbrev sLaw : Stmt := topS 14

theorem same_upd {H : Hp} {p : Addr} {o : HO} (h : H p = none) : Same H (upd H p o) := fun b x e => by
  rw [upd_ne (ne_of_none e h)]
  exact e

/-! ### the source of draws: a list of a list of great numbers and of a number -/
structure Src (H : Hp) (h l : Addr) : Prop where
  ex : ∃ (cs : List Int) (z : Int), H h = some (.lst [.ref l, .int z]) ∧ H l = some (.lst (cs.map V.int)) ∧ (∀ c ∈ cs, 0 ≤ c) ∧ cs.length ≤ 60 ∧ 0 ≤ z ∧ z < 2147483648
/-- all but the source stands -/
def Bar (h l : Addr) (H H' : Hp) : Prop := ∀ b o, b ≠ h → b ≠ l → H b = some o → H' b = some o
theorem Bar.refl {h l : Addr} {H : Hp} : Bar h l H H := fun _ _ _ _ e => e
theorem Bar.trans {h l : Addr} {H H1 H2 : Hp} (a : Bar h l H H1) (b : Bar h l H1 H2) : Bar h l H H2 := fun c o n1 n2 e => b c o n1 n2 (a c o n1 n2 e)
theorem Bar.same {h l : Addr} {H H' : Hp} (a : Same H H') : Bar h l H H' := fun c o _ _ e => a c o e
theorem Bar.upd_h {h l : Addr} {H : Hp} {o : HO} : Bar h l H (upd H h o) := fun c u n1 _ e => by rw [upd_ne n1]; exact e
theorem Bar.upd_l {h l : Addr} {H : Hp} {o : HO} : Bar h l H (upd H l o) := fun c u _ n2 e => by rw [upd_ne n2]; exact e
theorem src_ne {H : Hp} {h l : Addr} {cs : List Int} {z : Int} (a : H h = some (.lst [.ref l, .int z])) (b : H l = some (.lst (cs.map V.int))) : h ≠ l := by
  intro e
  rw [e, b] at a
  cases cs with
  | nil => cases a
  | cons c r => cases a
theorem Src.same {H H' : Hp} {h l : Addr} (s : Src H h l) (e : Same H H') : Src H' h l := by
  obtain ⟨cs, z, a, b, r⟩ := s.ex
  exact ⟨cs, z, e _ _ a, e _ _ b, r⟩
theorem Src.ne {H : Hp} {h l p : Addr} {o : HO} (s : Src H h l) (e : H p = some o) (n : ∀ xs, o ≠ .lst xs) : p ≠ h ∧ p ≠ l := by
  obtain ⟨cs, z, a, b, r⟩ := s.ex
  exact ⟨fun q => by rw [q, a] at e; cases e; exact n _ rfl, fun q => by rw [q, b] at e; cases e; exact n _ rfl⟩

/-- a while by its invariant and by what stands behind it -/
theorem tw {c : TT} {tb : TS} {D : Ends} {σ : L2.St} {H : Hp} (W : Nat → L2.St → Hp → Prop) (Y : L2.St → Hp → Prop) {m0 : Nat} (h0 : W m0 σ H) (out : ∀ σ H, Y σ H → D.nx σ H)
    (turn : (∀ σ H, Y σ H → D.nx σ H) → ∀ m σ H, W m σ H → c σ H fun b H1 => if b = true then ∃ N : L2.St → Hp → Prop, (∀ σ' H', N σ' H' → ∃ m', m' < m ∧ W m' σ' H') ∧ tb { D with nx := N, ct := N, bk := D.nx } σ H1 else D.nx σ H1) :
    tWhile c tb D σ H := ⟨W, ⟨m0, h0⟩, turn out⟩
theorem list_end {α : Type} (xs : List α) : xs = [] ∨ ∃ ys y, xs = ys ++ [y] := by
  rcases List.eq_nil_or_concat xs with h | ⟨ys, y, h⟩
  · exact .inl h
  · exact .inr ⟨ys, y, by rw [h]; simp⟩
def spDraw : Sp := fun vs H Q _ => ∃ (h l : Addr) (many : Int), vs = [.ref h, .int many] ∧ Src H h l ∧ 0 < many ∧ many < 1073741824 ∧
  ∀ (k : Int) (H' : Hp), 0 ≤ k → k < many → Src H' h l → Bar h l H H' → Q (.int k) H'

theorem dp_ints {K : PySem.W.Frag} {H : Hp} : ∀ cs : List Int, DpAll K H (cs.map V.int) (cs.map PyData.int)
  | [] => .nil
  | c :: r => .cons (.int c) (dp_ints r)
theorem shaped_ints (cs : List Int) : SeqAt.shaped (.list (cs.map PyData.int)) = true := by
  have h1 : ∀ cs : List Int, PyData.canLayAll0 (cs.map PyData.int) = true := by
    intro cs
    induction cs with
    | nil => rfl
    | cons c r ih => simp only [List.map_cons, PyData.canLayAll0, PyData.canLay0, ih, Bool.and_self]
  have h2 : ∀ cs : List Int, PyData.depthAll (cs.map PyData.int) ≤ 1 := by
    intro cs
    induction cs with
    | nil => simp [PyData.depthAll]
    | cons c r ih => simp only [List.map_cons, PyData.depthAll, PyData.depth]; omega
  have h3 := h2 cs
  have h4 : PyData.depth (.list (cs.map PyData.int)) ≤ 64 := by
    simp only [PyData.depth]
    omega
  have h5 : PyData.canLay0 (.list (cs.map PyData.int)) = true := by
    simp only [PyData.canLay0, h1]
  show (PyData.canLay0 (.list (cs.map PyData.int)) && decide (PyData.depth (.list (cs.map PyData.int)) ≤ 64)) = true
  rw [h5, decide_eq_true h4]
  rfl
theorem eqv_nil : ∀ cs : List Int, PyData.eqv (.list (cs.map PyData.int)) (.list []) = cs.isEmpty
  | [] => by decide
  | c :: r => by simp [PyData.eqv, PyData.eqvAll]
theorem scDraw : FnScope ["heap", "many", "rest"] ["heap", "many"] (defScope sDraw) := ⟨rfl, rfl, rfl, by decide +kernel, rfl, by decide +kernel, by decide +kernel⟩
section
variable {P : Program} {w : World} {K : PySem.W.Frag} {mg : Str → Option Value} {base : Heap}
theorem ok_draw {f : Addr} {fd : FuncData} {k : Nat} (F : Fun K "_law_draw" "_law_draw" sDraw f fd) (mi : mg "int" = none) : FnOk P w K mg base CX0 (k + 1) f fd ["heap", "many"] spDraw := by
  refine F.ok scDraw (fun vs H Q E h => ?_) (fun cdv A outer s H vs Q E hr h => ?_)
  · obtain ⟨h, l, many, rfl, _⟩ := h
    rfl
  · obtain ⟨h, l, many, rfl, src, m0, m1, q⟩ := h
    refine ⟨_, pss_cons (ps_while PassesOwn.never (PW.pt (pw_and (pt_cmpR (op_neD hr.units) (pe_ix ix_list (pv 0) pe_int (fun _ _ => rfl)) (pe_lst pa_nil) (nomark _)) (pw_and1 (pt_cmpR op_eq (pe_ix ix_list (pe_ix ix_list (pv 0) pe_int (fun _ _ => rfl)) (pe_un un_neg pe_int) (fun _ _ => rfl)) pe_int (nomark _)))))
        (pss_one (ps_expr (pe_bm0 PySem.F.plainAttrs_list PySem.F.slot_list_pop PySem.F.type_list_pop mt_pop (pe_ix ix_list (pv 0) pe_int (fun _ _ => rfl))))))
      (pss_cons (ps_if (pt_cmpR (op_neD hr.units) (pe_ix ix_list (pv 0) pe_int (fun _ _ => rfl)) (pe_lst pa_nil) (nomark _))
        (pss_cons (ps_set (i := 2) scDraw.nd rfl (.inl rfl) (pe_bm0 PySem.F.plainAttrs_list PySem.F.slot_list_pop PySem.F.type_list_pop mt_pop (pe_ix ix_list (pv 0) pe_int (fun _ _ => rfl))))
        (pss_cons (ps_expr (pe_bm PySem.F.plainAttrs_list PySem.F.slot_list_append PySem.F.type_list_append mt_append (pe_ix ix_list (pv 0) pe_int (fun _ _ => rfl)) (pa_cons (pe_op op_fdivN (pv 2) (pv 1)) pa_nil)))
        (pss_one (ps_ret (pe_op op_mod (pe_callTy call_int1 (by rfl) mi (by decide +kernel) (pa_cons (pv 2) pa_nil)) (pv 1)))))) pss_nil)
      (pss_cons (ps_asg (pe_op op_mod (pe_callTy call_int1 (by rfl) mi (by decide +kernel) (pa_cons (pe_op op_add (pe_op op_mul (pe_ix ix_list (pv 0) pe_int (fun _ _ => rfl)) pe_int) pe_int) pa_nil)) pe_int) (pg_sub (pv 0) pe_int set_list))
      (pss_one (ps_ret (pe_op op_mod (pe_callTy call_int1 (by rfl) mi (by decide +kernel) (pa_cons (pe_op op_fdivN (pe_ix ix_list (pv 0) pe_int (fun _ _ => rfl)) pe_int) pa_nil)) (pv 1)))))), ?_⟩
    obtain ⟨cs0, z0, a0, b0, p0, n0, y0, y1⟩ := src.ex
    refine tw (fun m σ H' => σ = [some (.ref h), some (.int many), none] ∧ ∃ (cs : List Int) (z : Int), H' h = some (.lst [.ref l, .int z]) ∧ H' l = some (.lst (cs.map V.int)) ∧ (∀ c ∈ cs, 0 ≤ c) ∧ cs.length ≤ 60 ∧ 0 ≤ z ∧ z < 2147483648 ∧ Bar h l H H' ∧ m = cs.length)
      (fun σ H' => σ = [some (.ref h), some (.int many), none] ∧ ∃ (cs : List Int) (z : Int), H' h = some (.lst [.ref l, .int z]) ∧ H' l = some (.lst (cs.map V.int)) ∧ (∀ c ∈ cs, 0 ≤ c) ∧ cs.length ≤ 60 ∧ 0 ≤ z ∧ z < 2147483648 ∧ Bar h l H H')
      ⟨rfl, cs0, z0, a0, b0, p0, n0, y0, y1, Bar.refl, rfl⟩ ?_ (fun out => ?_)
    · -- behind the loop
      rintro σ H1 ⟨rfl, cs, z, eh, el, pos, len, z1, z2, bar⟩
      have nhl := src_ne eh el
      refine ⟨_, rfl, h, _, 0, .ref l, rfl, rfl, SqL.of eh, atI_nat (j := 0) rfl, Nat.zero_le _, fun p hp => ?_⟩
      have nph : h ≠ p := ne_of_none eh hp
      have npl : l ≠ p := ne_of_none el hp
      have eh1 : (upd H1 p (.lst [])) h = some (.lst [.ref l, .int z]) := by rw [upd_ne nph]; exact eh
      have el1 : (upd H1 p (.lst [])) l = some (.lst (cs.map V.int)) := by rw [upd_ne npl]; exact el
      have bar1 : Bar h l H (upd H1 p (.lst [])) := bar.trans (.same (same_upd hp))
      refine ⟨.list (cs.map PyData.int), .list [], .lst (SqL.of el1) (dp_ints cs), .lst (SqL.of upd_same) .nil, shaped_ints cs, by decide, _, rfl, ?_⟩
      rw [eqv_nil]
      generalize upd H1 p (.lst []) = H2 at eh1 el1 bar1
      rcases list_end cs with rfl | ⟨ds, c, rfl⟩
      · -- no great number is left
        refine iteF ?_
        refine ⟨_, rfl, h, _, 1, .int z, rfl, rfl, SqL.of eh1, atI_nat (j := 1) rfl, _, _, rfl, rfl, .inl ⟨by omega, by omega⟩, _, _, rfl, rfl, .inl ⟨_, rfl, _, _, rfl, rfl, (show (0 : Int) < 2147483647 by decide), _, rfl, h, _, 1, 1, rfl, rfl, eh1, rfl, ?_⟩⟩
        have w0 : 0 ≤ (z * 48271 + 17) % 2147483647 := Int.emod_nonneg _ (by decide)
        have w1 : (z * 48271 + 17) % 2147483647 < 2147483647 := Int.emod_lt_of_pos _ (by decide)
        have eh2 : (upd H2 h (.lst ([V.ref l, .int z].set 1 (.int ((z * 48271 + 17) % 2147483647))))) h = some (.lst [.ref l, .int ((z * 48271 + 17) % 2147483647)]) := upd_same
        refine ⟨_, rfl, h, _, 1, .int ((z * 48271 + 17) % 2147483647), rfl, rfl, SqL.of eh2, atI_nat (j := 1) rfl, _, _, rfl, rfl, ⟨by decide, by decide⟩, .inl ⟨_, rfl, _, rfl, _, _, rfl, rfl, m0, ?_⟩⟩
        refine q _ _ (Int.emod_nonneg _ (by omega)) (Int.emod_lt_of_pos _ m0) ⟨[], _, eh2, ?_, by simp, by simp, w0, by omega⟩ (bar1.trans .upd_h)
        rw [upd_ne (Ne.symm nhl)]
        exact el1
      · have e1 : ((ds ++ [c]).isEmpty) = false := by simp
        rw [e1]
        refine iteT ?_
        have e2 : (ds ++ [c]).map V.int = ds.map V.int ++ [.int c] := by simp
        rw [e2] at el1
        have c0 : 0 ≤ c := pos c (by simp)
        refine ⟨_, rfl, h, _, 0, .ref l, rfl, rfl, SqL.of eh1, atI_nat (j := 0) rfl, .inl ⟨rfl, _, SqL.of el1⟩, l, _, .int c, rfl, rfl, el1, by simp, ?_⟩
        have el2 : (upd H2 l (.lst (ds.map V.int ++ [V.int c]).dropLast)) l = some (.lst (ds.map V.int)) := by
          rw [upd_same, List.dropLast_concat]
        have eh2 : (upd H2 l (.lst (ds.map V.int ++ [V.int c]).dropLast)) h = some (.lst [.ref l, .int z]) := by
          rw [upd_ne nhl]; exact eh1
        have bar2 : Bar h l H (upd H2 l (.lst (ds.map V.int ++ [V.int c]).dropLast)) := bar1.trans .upd_l
        generalize upd H2 l (.lst (ds.map V.int ++ [V.int c]).dropLast) = H3 at el2 eh2 bar2
        have len' : ds.length + 1 ≤ 60 := by simp at len; omega
        refine ⟨_, rfl, h, _, 0, .ref l, rfl, rfl, SqL.of eh2, atI_nat (j := 0) rfl, .inl ⟨rfl, _, SqL.of el2⟩, _, rfl, _, rfl, _, _, rfl, rfl, ⟨by omega, by omega⟩, l, _, _, rfl, rfl, el2, ?_, ?_⟩
        · rw [List.length_map]
          exact small1000 (by omega)
        have el3 : (upd H3 l (.lst (ds.map V.int ++ [.int (c.fdiv many)]))) l = some (.lst ((ds ++ [c.fdiv many]).map V.int)) := by
          rw [upd_same]; simp
        have eh3 : (upd H3 l (.lst (ds.map V.int ++ [.int (c.fdiv many)]))) h = some (.lst [.ref l, .int z]) := by
          rw [upd_ne nhl]; exact eh2
        refine ⟨_, rfl, .inl ⟨_, rfl, _, rfl, _, _, rfl, rfl, m0, ?_⟩⟩
        refine q _ _ (Int.emod_nonneg _ (by omega)) (Int.emod_lt_of_pos _ m0) ⟨_, z, eh3, el3, ?_, by simp; omega, z1, z2⟩ (bar2.trans .upd_l)
        intro x hx
        rcases List.mem_append.mp hx with hx | hx
        · exact pos x (by simp [hx])
        · rw [List.mem_singleton.mp hx, Int.fdiv_eq_ediv_of_nonneg _ (by omega)]
          exact Int.ediv_nonneg c0 (by omega)
    · rintro m σ H1 ⟨rfl, cs, z, eh, el, pos, len, z1, z2, bar, rfl⟩
      have nhl := src_ne eh el
      -- heap[0] != []
      refine ⟨_, rfl, h, _, 0, .ref l, rfl, rfl, SqL.of eh, atI_nat (j := 0) rfl, Nat.zero_le _, fun p hp => ?_⟩
      have nph : h ≠ p := ne_of_none eh hp
      have npl : l ≠ p := ne_of_none el hp
      have eh1 : (upd H1 p (.lst [])) h = some (.lst [.ref l, .int z]) := by rw [upd_ne nph]; exact eh
      have el1 : (upd H1 p (.lst [])) l = some (.lst (cs.map V.int)) := by rw [upd_ne npl]; exact el
      have bar1 : Bar h l H (upd H1 p (.lst [])) := bar.trans (.same (same_upd hp))
      refine ⟨.list (cs.map PyData.int), .list [], .lst (SqL.of el1) (dp_ints cs), .lst (SqL.of upd_same) .nil, shaped_ints cs, by decide, _, rfl, ?_⟩
      rw [eqv_nil]
      generalize upd H1 p (.lst []) = H2 at eh1 el1 bar1
      rcases list_end cs with rfl | ⟨ds, c, rfl⟩
      · -- no great number is left
        refine iteF (iteF ?_)
        exact out _ _ ⟨rfl, [], z, eh1, el1, pos, len, z1, z2, bar1⟩
      · have e1 : ((ds ++ [c]).isEmpty) = false := by simp
        rw [e1]
        refine iteT ?_
        have e2 : (ds ++ [c]).map V.int = ds.map V.int ++ [.int c] := by simp
        rw [e2] at el1
        refine ⟨_, rfl, h, _, 0, .ref l, rfl, rfl, SqL.of eh1, atI_nat (j := 0) rfl, 1, rfl, l, _, -1, .int c, rfl, rfl, SqL.of el1, atI_last _ _, rfl, _, rfl, ?_⟩
        refine ite2 (fun e => ?_) (fun e => ?_)
        · refine ⟨fun σ' H' => ∃ m', m' < (ds ++ [c]).length ∧ (σ' = [some (.ref h), some (.int many), none] ∧ ∃ (cs : List Int) (z : Int), H' h = some (.lst [.ref l, .int z]) ∧ H' l = some (.lst (cs.map V.int)) ∧ (∀ c ∈ cs, 0 ≤ c) ∧ cs.length ≤ 60 ∧ 0 ≤ z ∧ z < 2147483648 ∧ Bar h l H H' ∧ m' = cs.length), fun _ _ x => x, ?_⟩
          refine ⟨_, rfl, h, _, 0, .ref l, rfl, rfl, SqL.of eh1, atI_nat (j := 0) rfl, .inl ⟨rfl, _, SqL.of el1⟩, l, _, .int c, rfl, rfl, el1, by simp, ?_⟩
          refine ⟨ds.length, by simp, rfl, ds, z, ?_, ?_, fun c' h' => pos c' (by simp [h']), ?_, z1, z2, bar1.trans .upd_l, rfl⟩
          · rw [upd_ne nhl]; exact eh1
          · rw [upd_same, List.dropLast_concat]
          · simp at len; omega
        · refine out _ _ ⟨rfl, ds ++ [c], z, eh1, ?_, pos, len, z1, z2, bar1⟩
          rw [e2]; exact el1
end
end K05
namespace K05
open PySem PySem.Spec PyProof.Rows L2
def spPick : Sp := fun vs H Q _ => ∃ (h l s : Addr) (xs : List V), vs = [.ref h, .ref s] ∧ Src H h l ∧ H s = some (.lst xs) ∧ s ≠ h ∧ s ≠ l ∧ 0 < xs.length ∧ xs.length < 1000 ∧
  ∀ (k : Nat) (v : V) (H' : Hp), xs[k]? = some v → Src H' h l → Bar h l H H' → Q v H'
theorem scPick : FnScope ["heap", "some"] ["heap", "some"] (defScope sPick) := ⟨rfl, rfl, rfl, by decide +kernel, rfl, by decide +kernel, by decide +kernel⟩
def spHeap (K : PySem.W.Frag) : Sp := fun vs H Q _ => ∃ (a : Addr) (ns : List Int), vs = [.ref a] ∧ SqL K H a (ns.map V.int) ∧
  ∀ (h l : Addr) (H' : Hp), Same H H' → H h = none → H l = none → Src H' h l → Q (.ref h) H'
theorem scHeap : FnScope ["script", "cell", "cells", "stir"] ["script"] (defScope sHeap) := ⟨rfl, rfl, rfl, by decide +kernel, rfl, by decide +kernel, by decide +kernel⟩
theorem yes {σ : L2.St} {H : Hp} {A : Hp → Prop} {B : Hp → Prop} (h : A H) : tYes σ H (fun b H3 => if b = true then A H3 else B H3) := by
  show (if true = true then A H else B H)
  exact iteT h
theorem cut60 (xs : List V) : cutV xs none (some 60) = xs.take 60 := by
  unfold cutV
  rw [HT.sIx_none, show HT.sIx xs.length xs.length (some 60) = min 60 xs.length from HT.sIx_nat xs.length xs.length 60, List.drop_zero, Nat.sub_zero]
  rw [Nat.min_def]
  split
  · rfl
  · rw [List.take_of_length_le (Nat.le_refl _), List.take_of_length_le (by omega)]
section
variable {P : Program} {w : World} {K : PySem.W.Frag} {mg : Str → Option Value} {base : Heap}
theorem ok_pick {f g : Addr} {fd gd : FuncData} {k : Nat} (F : Fun K "_law_pick" "_law_pick" sPick f fd) (G : FnOk P w K mg base CX0 k g gd ["heap", "many"] spDraw) (bG : Binds K gd ["heap", "many"] []) (kG : PySem.W.keepIn K (.ref g) = true) (mG : mg "_law_draw" = some (.ref g)) (ml : mg "len" = none) :
    FnOk P w K mg base CX0 (k + 1) f fd ["heap", "some"] spPick := by
  refine F.ok scPick (fun vs H Q E h => ?_) (fun cdv A outer s H vs Q E hr h => ?_)
  · obtain ⟨h, l, s, xs, rfl, _⟩ := h
    rfl
  · obtain ⟨h, l, s, xs, rfl, src, es, n1, n2, x0, x1, q⟩ := h
    refine ⟨_, pss_one (ps_ret (pe_ix ix_list (pv 1) (pe_call G hr rfl mG kG bG .nil pass0 (pa_cons (pv 0) (pa_cons (pe_callB call_len_seq (by rfl) ml PySem.boot_len (pa_cons (pv 1) pa_nil)) pa_nil))) (fun _ _ => rfl))), ?_⟩
    refine ⟨_, rfl, _, rfl, _, rfl, s, xs, rfl, .inl (SqL.of es), h, l, _, rfl, src, by omega, by omega, fun i H' i0 i1 src' bar => ?_⟩
    obtain ⟨j, rfl⟩ : ∃ j : Nat, i = (j : Int) := ⟨i.toNat, by omega⟩
    have hj : j < xs.length := by omega
    exact ⟨s, xs, _, _, rfl, rfl, SqL.of (bar _ _ n1 n2 es), atI_nat (List.getElem?_eq_getElem hj), q j _ H' (List.getElem?_eq_getElem hj) src' bar⟩
theorem ok_heap {f : Addr} {fd : FuncData} {k : Nat} (F : Fun K "_law_heap" "_law_heap" sHeap f fd) (mi : mg "int" = none) (ma : mg "abs" = none) : FnOk P w K mg base CX0 (k + 1) f fd ["script"] (spHeap K) := by
  refine F.ok scHeap (fun vs H Q E h => ?_) (fun cdv A outer s H vs Q E hr h => ?_)
  · obtain ⟨a, ns, rfl, _⟩ := h
    rfl
  · obtain ⟨a, ns, rfl, hS, q⟩ := h
    refine ⟨_, pss_cons (ps_par (i := 2) (j := 3) rfl scHeap.nd rfl rfl (by decide) rfl rfl (pa_cons (pe_lc (own := [("cell", 1)]) (g := gName 1) (tt := tYes) rfl scHeap.nd (pi_list (pe_slice sl_list (pv 0) po_none (po_some pe_int)))
          (blkOk_by (own := [("cell", 1)]) (N := ["script", "cell", "cells", "stir"]) (sc := defScope sHeap) (by decide +kernel)) (fun _ _ _ _ _ => pg_name (i := 1) scHeap.nd rfl (Or.inl rfl)) (fun _ _ _ _ _ => pts_nil)
          (fun _ _ _ _ _ => pe_op op_add (pe_op op_mul pe_int (pe_callB call_abs (by rfl) ma (by decide +kernel) (pa_cons (pv 1) pa_nil))) (pe_callTy call_int1 (by rfl) mi (by decide +kernel) (pa_cons (pe_cmp (pc_lt (pv 1) pe_int) rfl) pa_nil)))) (pa_cons pe_int pa_nil)) (by rfl))
      (pss_cons (ps_for PassesOwn.never rfl (pi_list (pv 2)) (pg_name (i := 1) scHeap.nd rfl (.inl rfl))
        (pss_one (ps_set (i := 3) scHeap.nd rfl (.inl rfl) (pe_op op_mod (pe_callTy call_int1 (by rfl) mi (by decide +kernel) (pa_cons (pe_op op_add (pe_op op_add (pe_op op_mul (pv 3) pe_int) (pe_op op_mod (pe_callTy call_int1 (by rfl) mi (by decide +kernel) (pa_cons (pv 1) pa_nil)) pe_int)) pe_int) pa_nil)) pe_int))))
      (pss_one (ps_ret (pe_lst (pa_cons (pe_revL (pe_lc (own := [("cell", 1)]) (g := gName 1) rfl scHeap.nd (pi_list (pv 2))
          (blkOk_by (own := [("cell", 1)]) (N := ["script", "cell", "cells", "stir"]) (sc := defScope sHeap) (by decide +kernel)) (fun _ _ _ _ _ => pg_name (i := 1) scHeap.nd rfl (Or.inl rfl)) (fun _ _ _ _ _ => pts_one (pt_cmpR op_ge (pv 1) (pe_op op_pow pe_int pe_int) (nomark _)))
          (fun _ _ _ _ _ => pv 1))) (pa_cons (pv 3) pa_nil)))))), ?_⟩
    refine ⟨.ref a, rfl, 60, rfl, a, _, rfl, hS, fun c nc => ?_⟩
    have s1 : Same H (upd H c (.lst (cutV (ns.map V.int) none (some 60)))) := same_upd nc
    have ec : (upd H c (.lst (cutV (ns.map V.int) none (some 60)))) c = some (.lst ((ns.take 60).map V.int)) := by
      rw [upd_same, cut60, List.map_take]
    generalize upd H c (.lst (cutV (ns.map V.int) none (some 60))) = H1 at s1 ec
    refine ⟨c, rfl, ⟨_, SqL.of ec⟩, fun D nD => ?_⟩
    have ncD : c ≠ D := ne_of_none ec nD
    have len60 : (ns.take 60).length ≤ 60 := by rw [List.length_take]; exact Nat.min_le_left _ _
    refine lc_list (K := K) (a := c) (xs := (ns.take 60).map V.int) (fun i H' => ∃ cs : List Int, H' D = some (.lst (cs.map V.int)) ∧ cs.length = i ∧ (∀ z ∈ cs, 0 ≤ z) ∧ H' c = some (.lst ((ns.take 60).map V.int)) ∧ ∀ b o, b ≠ D → H1 b = some o → H' b = some o)
      ⟨[], upd_same, rfl, by simp, by rw [upd_ne ncD]; exact ec, fun b o n e => by rw [upd_ne n]; exact e⟩ (fun i H' _ ⟨_, _, _, _, e, _⟩ => SqL.of e) ?_ ?_
    · rintro i x H' hx ⟨cs, eD, ei, pos, ec', keep⟩
      have hi : i < (ns.take 60).length := by
        have := (List.getElem?_eq_some_iff.mp hx).1
        rw [List.length_map] at this
        exact this
      obtain ⟨u, rfl⟩ : ∃ u, x = V.int u := by
        rw [List.getElem?_map, List.getElem?_eq_getElem hi] at hx
        exact ⟨_, (Option.some.inj hx).symm⟩
      refine ⟨rfl, yes ?_⟩
      refine ⟨_, rfl, _, rfl, _, _, rfl, rfl, .inl ⟨by decide, by decide⟩, _, rfl, u, 0, rfl, rfl, .inr ⟨_, rfl, _, _, rfl, rfl, _, eD, ?_, ?_⟩⟩
      · rw [List.length_map, ei]
        exact small1000 (by omega)
      · refine ⟨cs ++ [2 * (if u < 0 then -u else u) + (if decide (u < 0) = true then 1 else 0)], ?_, by simp [ei], ?_, ?_, fun b o n e => ?_⟩
        · rw [upd_same]
          simp
        · intro z hz
          rcases List.mem_append.mp hz with hz | hz
          · exact pos z hz
          · rw [List.mem_singleton.mp hz]
            split <;> split <;> omega
        · rw [upd_ne ncD]; exact ec'
        · rw [upd_ne n]; exact keep b o n e
    · rintro H2 ⟨cs, eD, ei, pos, ec', keep⟩
      have same2 : Same H H2 := fun b o e => keep b o (fun z => by rw [z] at e; have := s1 _ _ e; rw [nD] at this; cases this) (s1 b o e)
      rw [List.length_map] at ei
      have lc : cs.length ≤ 60 := by omega
      refine ⟨_, _, rfl, ?_⟩
      -- for cell in cells: stir = ..
      refine ⟨_, rfl, D, rfl, ⟨_, SqL.of eD⟩, for_list (K := K) (a := D) (xs := cs.map V.int) (fun i σ H' => ∃ (y : Option V) (z : Int), σ = [some (.ref a), y, some (.ref D), some (.int z)] ∧ 0 ≤ z ∧ z < 2147483648 ∧ H' = H2)
        ⟨none, 60013, rfl, by decide, by decide, rfl⟩ (fun i σ H' _ ⟨_, _, _, _, _, e⟩ => by rw [e]; exact SqL.of eD) ?_ ?_⟩
      · rintro i x σ H' hx ⟨y, z, rfl, z0, z1, rfl⟩
        obtain ⟨u, rfl⟩ : ∃ u, x = V.int u := by
          rw [List.getElem?_map] at hx
          cases e : cs[i]? with
          | none => rw [e] at hx; cases hx
          | some u => rw [e] at hx; exact ⟨u, (Option.some.inj hx).symm⟩
        refine ⟨_, rfl, _, _, rfl, rfl, .inl ⟨by omega, by omega⟩, _, rfl, .inl ⟨_, rfl, _, _, rfl, rfl, (show (0 : Int) < 2147483563 by decide), _, _, rfl, rfl, _, _, rfl, rfl, .inl ⟨_, rfl, _, _, rfl, rfl, (show (0 : Int) < 2147483647 by decide), ?_⟩⟩⟩
        have w0 : 0 ≤ (z * 69621 + u % 2147483563 + 29) % 2147483647 := Int.emod_nonneg _ (by decide)
        have w1 : (z * 69621 + u % 2147483563 + 29) % 2147483647 < 2147483647 := Int.emod_lt_of_pos _ (by decide)
        exact ⟨_, _, rfl, w0, by omega, rfl⟩
      · rintro σ H' ⟨y, z, rfl, z0, z1, rfl⟩
        -- return [[..][::-1], stir]
        refine ⟨_, rfl, D, rfl, ⟨_, SqL.of eD⟩, fun G nG => ?_⟩
        have nDG : D ≠ G := ne_of_none eD nG
        refine lc_list (K := K) (a := D) (xs := cs.map V.int) (fun i H3 => ∃ ds : List Int, H3 G = some (.lst (ds.map V.int)) ∧ ds.length ≤ i ∧ (∀ z ∈ ds, 0 ≤ z) ∧ H3 D = some (.lst (cs.map V.int)) ∧ ∀ b o, b ≠ G → H' b = some o → H3 b = some o)
          ⟨[], upd_same, by simp, by simp, by rw [upd_ne nDG]; exact eD, fun b o n e => by rw [upd_ne n]; exact e⟩ (fun i H3 _ ⟨_, _, _, _, e, _⟩ => SqL.of e) ?_ ?_
        · rintro i x H3 hx ⟨ds, eG, di, dp, eD3, keep3⟩
          have hi : i < cs.length := by
            have := (List.getElem?_eq_some_iff.mp hx).1
            rw [List.length_map] at this
            exact this
          have ex : x = V.int cs[i] := by
            rw [List.getElem?_map, List.getElem?_eq_getElem hi] at hx
            exact (Option.some.inj hx).symm
          subst ex
          refine ⟨rfl, _, rfl, _, _, rfl, rfl, ⟨by decide, by decide, by decide⟩, _, _, rfl, rfl, _, rfl, ?_⟩
          refine ite2 (fun c1 => ?_) (fun c1 => ?_)
          · refine ⟨_, rfl, _, eG, ?_, ds ++ [cs[i]], ?_, by simp; exact di, ?_, ?_, fun b o n e => ?_⟩
            · rw [List.length_map]
              exact small1000 (by omega)
            · rw [upd_same]; simp
            · intro z' hz
              rcases List.mem_append.mp hz with hz | hz
              · exact dp z' hz
              · rw [List.mem_singleton.mp hz]
                exact pos _ (List.getElem_mem hi)
            · rw [upd_ne nDG]; exact eD3
            · rw [upd_ne n]; exact keep3 b o n e
          · exact ⟨ds, eG, by omega, dp, eD3, keep3⟩
        · rintro H3 ⟨ds, eG, di, dp, eD3, keep3⟩
          rw [List.length_map] at di
          have same3 : Same H H3 := fun b o e => keep3 b o (fun z => by rw [z] at e; have := same2 _ _ e; rw [nG] at this; cases this) (same2 b o e)
          refine ⟨G, _, rfl, SqL.of eG, fun p np => ⟨_, rfl, (by show 2 ≤ sizeLine; decide), fun h nh => ?_⟩⟩
          have nhp : p ≠ h := fun e => by rw [← e, upd_same] at nh; cases nh
          have nh3 : H3 h = none := by rw [upd_ne (Ne.symm nhp)] at nh; exact nh
          refine q h p _ (same3.trans ((same_upd np).trans (same_upd nh))) (same3.free nh3) (same3.free np) ⟨ds.reverse, z, upd_same, ?_, ?_, ?_, z0, z1⟩
          · rw [upd_ne nhp, upd_same, List.map_reverse]
          · intro c hc
            exact dp c (List.mem_reverse.mp hc)
          · rw [List.length_reverse]; omega
end
end K05
namespace K05
open PySem PySem.Spec PyProof.Rows L2
abbrev SS (l : List Nat) : Str := ⟨l.toArray⟩
theorem SS_len (l : List Nat) : (SS l).length = l.length := by simp [SS, Str.length]
theorem sz5 {n : Nat} (h : n ≤ 100000) : n ≤ sizeLine := Nat.le_trans h (by decide)
theorem szS {l : List Nat} (h : l.length ≤ 100000) : (SS l).length ≤ sizeLine := by rw [SS_len]; exact sz5 h
def LET : List Nat := List.range' 97 26
def DIG : List Nat := List.range' 48 10
theorem mem_let {c : Nat} : c ∈ LET ↔ kd c = 1 := by
  unfold LET kd
  rw [List.mem_range'_1]
  split
  · simp; omega
  · split <;> simp <;> omega
theorem mem_dig {c : Nat} : c ∈ DIG ↔ kd c = 2 := by
  unfold DIG kd
  rw [List.mem_range'_1]
  split
  · simp; omega
  · split <;> simp <;> omega
theorem kd_cases (c : Nat) : kd c = 0 ∨ kd c = 1 ∨ kd c = 2 := by
  unfold kd
  split
  · simp
  · split <;> simp
theorem scRun : FnScope ["line", "at", "signs", "end"] ["line", "at", "signs"] (defScope sRun) := ⟨rfl, rfl, rfl, by decide +kernel, rfl, by decide +kernel, by decide +kernel⟩
def spRun : Sp := fun vs H Q _ => ∃ (l sg : List Nat) (a : Nat), vs = [.str (SS l), .int a, .str (SS sg)] ∧ a ≤ l.length ∧ l.length ≤ 100000 ∧
  ∀ e : Nat, a ≤ e → e ≤ l.length → (∀ j c, a ≤ j → j < e → l[j]? = some c → c ∈ sg) → (∀ c, l[e]? = some c → c ∉ sg) → Q (.int e) H
/-- where a mark that begins at a may end -/
structure MEnd (l : List Nat) (a e : Nat) : Prop where
  run : ∀ c, l[a]? = some c → 0 < kd c → a < e ∧ e ≤ l.length ∧ (∀ j c', a ≤ j → j < e → l[j]? = some c' → kd c' = kd c) ∧ (∀ c', l[e]? = some c' → kd c' ≠ kd c)
  one : ∀ c, l[a]? = some c → kd c = 0 → e = a + 1
def spEnd : Sp := fun vs H Q _ => ∃ (l : List Nat) (a : Nat), vs = [.str (SS l), .int a] ∧ a < l.length ∧ l.length ≤ 100000 ∧
  ∀ (e : Nat) (H' : Hp), Same H H' → MEnd l a e → Q (.int e) H'
theorem scEnd : FnScope ["line", "at", "signs"] ["line", "at"] (defScope sEnd) := ⟨rfl, rfl, rfl, by decide +kernel, rfl, by decide +kernel, by decide +kernel⟩
section
variable {P : Program} {w : World} {K : PySem.W.Frag} {mg : Str → Option Value} {base : Heap}
theorem ok_run {f : Addr} {fd : FuncData} {k : Nat} (F : Fun K "_end_of_run" "_end_of_run" sRun f fd) (ml : mg "len" = none) : FnOk P w K mg base CX0 (k + 1) f fd ["line", "at", "signs"] spRun := by
  refine F.ok scRun (fun vs H Q E h => ?_) (fun cdv A outer s H vs Q E hr h => ?_)
  · obtain ⟨l, sg, a, rfl, _⟩ := h
    rfl
  · obtain ⟨l, sg, a, rfl, ha, hl, q⟩ := h
    refine ⟨_, pss_cons (ps_set (i := 3) scRun.nd rfl (.inl rfl) (pv 1))
      (pss_cons (ps_while PassesOwn.never (PW.pt (pw_and (pt_cmpR op_lt (pv 3) (pe_callB call_len_str (by rfl) ml PySem.boot_len (pa_cons (pv 0) pa_nil)) (nomark _)) (pw_and1 (pt_cmpR op_in_sign (pe_ix ix_str (pv 0) (pv 3) (fun _ _ => rfl)) (pv 2) rfl))))
        (pss_one (ps_aug (i := 3) scRun.nd rfl (.inl rfl) pe_int ip_add)))
      (pss_one (ps_ret (pv 3)))), ?_⟩
    refine ⟨_, rfl, ?_⟩
    refine tw (fun m σ H' => ∃ e : Nat, σ = [some (.str (SS l)), some (.int a), some (.str (SS sg)), some (.int e)] ∧ H' = H ∧ a ≤ e ∧ e ≤ l.length ∧ (∀ j c, a ≤ j → j < e → l[j]? = some c → c ∈ sg) ∧ m = l.length - e)
      (fun σ H' => ∃ e : Nat, σ = [some (.str (SS l)), some (.int a), some (.str (SS sg)), some (.int e)] ∧ H' = H ∧ a ≤ e ∧ e ≤ l.length ∧ (∀ j c, a ≤ j → j < e → l[j]? = some c → c ∈ sg) ∧ (∀ c, l[e]? = some c → c ∉ sg))
      ⟨a, rfl, rfl, Nat.le_refl _, ha, fun j c h1 h2 => by omega, rfl⟩ ?_ (fun out => ?_)
    · rintro σ H' ⟨e, rfl, rfl, h1, h2, h3, h4⟩
      exact ⟨_, rfl, q e h1 h2 h3 h4⟩
    · rintro m σ H' ⟨e, rfl, rfl, h1, h2, h3, rfl⟩
      refine ⟨_, rfl, _, rfl, _, rfl, szS hl, _, _, rfl, rfl, _, rfl, ?_⟩
      rw [SS_len]
      refine ite2 (fun c1 => ?_) (fun c1 => ?_)
      · have he : e < l.length := by
          have := of_decide_eq_true c1
          omega
        refine ⟨_, rfl, _, rfl, _, _, l[e], rfl, rfl, szS hl, atI_nat (List.getElem?_eq_getElem he), _, rfl, _, _, rfl, rfl, _, rfl, ?_⟩
        refine ite2 (fun c2 => ?_) (fun c2 => ?_)
        · have c3 : l[e] ∈ sg := of_decide_eq_true c2
          refine ⟨fun σ' H'' => ∃ m', m' < l.length - e ∧ (∃ e : Nat, σ' = [some (.str (SS l)), some (.int a), some (.str (SS sg)), some (.int e)] ∧ H'' = H' ∧ a ≤ e ∧ e ≤ l.length ∧ (∀ j c, a ≤ j → j < e → l[j]? = some c → c ∈ sg) ∧ m' = l.length - e), fun _ _ x => x, ?_⟩
          refine ⟨_, rfl, _, _, rfl, rfl, l.length - (e + 1), by omega, e + 1, rfl, rfl, by omega, by omega, fun j c j1 j2 hj => ?_, rfl⟩
          by_cases hje : j = e
          · subst hje
            rw [List.getElem?_eq_getElem he] at hj
            rw [← Option.some.inj hj]
            exact c3
          · exact h3 j c j1 (by omega) hj
        · have c3 : ¬ l[e] ∈ sg := fun z => c2 (decide_eq_true z)
          refine out _ _ ⟨e, rfl, rfl, h1, h2, h3, fun c hc => ?_⟩
          rw [List.getElem?_eq_getElem he] at hc
          rw [← Option.some.inj hc]
          exact c3
      · refine iteF (out _ _ ⟨e, rfl, rfl, h1, h2, h3, fun c hc => ?_⟩)
        have he := (List.getElem?_eq_some_iff.mp hc).1
        exact absurd (decide_eq_true (show (e : Int) < (l.length : Int) by omega)) c1
theorem ok_end {f g : Addr} {fd gd : FuncData} {k : Nat} {t1 t2 : Tok} (F : Fun K "_end_of_mark" "_end_of_mark" sEnd f fd) (G : FnOk P w K mg base CX0 k g gd ["line", "at", "signs"] spRun) (bG : Binds K gd ["line", "at", "signs"] []) (kG : PySem.W.keepIn K (.ref g) = true) (mG : mg "_end_of_run" = some (.ref g))
    (mL : mg "LETTERS" = some (.str (SS LET) t1)) (mD : mg "DIGITS" = some (.str (SS DIG) t2)) : FnOk P w K mg base CX0 (k + 1) f fd ["line", "at"] spEnd := by
  refine F.ok scEnd (fun vs H Q E h => ?_) (fun cdv A outer s H vs Q E hr h => ?_)
  · obtain ⟨l, a, rfl, _⟩ := h
    rfl
  · obtain ⟨l, a, rfl, ha, hl, q⟩ := h
    refine ⟨_, pss_cons (ps_for PassesOwn.never rfl (pi_tup (pe_tup (pa_cons (pe_glob (v := .str (SS LET)) rfl mL ⟨_, rfl⟩) (pa_cons (pe_glob (v := .str (SS DIG)) rfl mD ⟨_, rfl⟩) pa_nil)))) (pg_name (i := 2) scEnd.nd rfl (.inl rfl))
        (pss_one (ps_if (pt_cmpR op_in_sign (pe_ix ix_str (pv 0) (pv 1) (fun _ _ => rfl)) (pv 2) rfl) (pss_one (ps_ret (pe_call G hr rfl mG kG bG .nil pass0 (pa_cons (pv 0) (pa_cons (pv 1) (pa_cons (pv 2) pa_nil)))))) pss_nil)))
      (pss_one (ps_ret (pe_op op_add (pv 1) pe_int))), ?_⟩
    refine ⟨(by show 2 ≤ sizeLine; decide), fun T nT => ⟨T, rfl, ⟨_, .inl (.inl upd_same)⟩, ?_⟩⟩
    have hS := same_upd (o := .tup [.str (SS LET), .str (SS DIG)]) nT
    refine for_tup (K := K) (a := T) (xs := [.str (SS LET), .str (SS DIG)]) (fun i σ H' => ∃ y : Option V, σ = [some (.str (SS l)), some (.int a), y] ∧ H' = upd H T (.tup [.str (SS LET), .str (SS DIG)]) ∧ (0 < i → kd l[a] ≠ 1) ∧ (1 < i → kd l[a] ≠ 2))
      ⟨none, rfl, rfl, by simp, by simp⟩ (fun i σ H' _ ⟨_, _, e, _⟩ => by rw [e]; exact .inl (.inl upd_same)) ?_ ?_
    · rintro i x σ H' hx ⟨y, rfl, rfl, h1, h2⟩
      obtain ⟨sg, j, hj, hsg, rfl, hlt⟩ : ∃ (sg : List Nat) (j : Nat), 0 < j ∧ (∀ c, c ∈ sg ↔ kd c = j) ∧ x = .str (SS sg) ∧ (kd l[a] ≠ j → (0 < i + 1 → kd l[a] ≠ 1) ∧ (1 < i + 1 → kd l[a] ≠ 2)) := by
        match i, hx, h1, h2 with
        | 0, hx, h1, h2 => exact ⟨LET, 1, by decide, fun c => mem_let, (Option.some.inj hx).symm, fun n => ⟨fun _ => n, fun z => by omega⟩⟩
        | 1, hx, h1, h2 => exact ⟨DIG, 2, by decide, fun c => mem_dig, (Option.some.inj hx).symm, fun n => ⟨fun _ => h1 (by decide), fun _ => n⟩⟩
      refine ⟨_, rfl, _, rfl, _, _, l[a], rfl, rfl, szS hl, atI_nat (List.getElem?_eq_getElem ha), _, rfl, _, _, rfl, rfl, _, rfl, ?_⟩
      refine ite2 (fun c2 => ?_) (fun c2 => ?_)
      · have c3 : kd l[a] = j := (hsg _).mp (of_decide_eq_true c2)
        refine ⟨_, rfl, _, rfl, _, rfl, l, sg, a, rfl, by omega, hl, fun e e1 e2 e3 e4 => ?_⟩
        have hne : a < e := by
          rcases Nat.lt_or_ge a e with z | z
          · exact z
          · have e0 : e = a := by omega
            subst e0
            exact absurd ((hsg _).mpr c3) (e4 _ (List.getElem?_eq_getElem ha))
        refine q e _ hS ⟨fun c hc hk => ?_, fun c hc hk => ?_⟩
        · have e : c = l[a] := by rw [List.getElem?_eq_getElem ha] at hc; exact (Option.some.inj hc).symm
          subst e
          rw [c3]
          exact ⟨hne, e2, fun j' c' j1 j2 hj' => (hsg _).mp (e3 j' c' j1 j2 hj'), fun c' hc' z => e4 c' hc' ((hsg _).mpr z)⟩
        · have e : c = l[a] := by rw [List.getElem?_eq_getElem ha] at hc; exact (Option.some.inj hc).symm
          subst e
          omega
      · have c3 : kd l[a] ≠ j := fun z => c2 (decide_eq_true ((hsg _).mpr z))
        exact ⟨_, rfl, rfl, (hlt c3).1, (hlt c3).2⟩
    · rintro σ H' ⟨y, rfl, rfl, h1, h2⟩
      refine ⟨_, rfl, _, _, rfl, rfl, ?_⟩
      refine q (a + 1) _ hS ⟨fun c hc hk => ?_, fun c hc hk => rfl⟩
      have e : c = l[a] := by rw [List.getElem?_eq_getElem ha] at hc; exact (Option.some.inj hc).symm
      subst e
      have := kd_cases l[a]
      have h1 := h1 (by decide)
      have h2 := h2 (by decide)
      omega
end
end K05
namespace K05
open PySem PySem.Spec PyProof.Rows L2
/-! ### rows of tuples -/
def Rows (H : Hp) (enc : Mk → List V) : List Addr → List Mk → Prop
  | [], [] => True
  | p :: ps, m :: ms => H p = some (.tup (enc m)) ∧ Rows H enc ps ms
  | _, _ => False
section
variable {H H' : Hp} {enc : Mk → List V}
theorem Rows.len : ∀ {ps : List Addr} {ms : List Mk}, Rows H enc ps ms → ps.length = ms.length
  | [], [], _ => rfl
  | _ :: _, _ :: _, h => congrArg (· + 1) (Rows.len h.2)
  | [], _ :: _, h => h.elim
  | _ :: _, [], h => h.elim
theorem Rows.keep (k : ∀ b xs, H b = some (.tup xs) → H' b = some (.tup xs)) : ∀ {ps : List Addr} {ms : List Mk}, Rows H enc ps ms → Rows H' enc ps ms
  | [], [], _ => trivial
  | _ :: _, _ :: _, h => ⟨k _ _ h.1, Rows.keep k h.2⟩
  | [], _ :: _, h => h.elim
  | _ :: _, [], h => h.elim
theorem Rows.snoc {p : Addr} {m : Mk} (e : H p = some (.tup (enc m))) : ∀ {ps : List Addr} {ms : List Mk}, Rows H enc ps ms → Rows H enc (ps ++ [p]) (ms ++ [m])
  | [], [], _ => ⟨e, trivial⟩
  | _ :: _, _ :: _, h => ⟨h.1, Rows.snoc e h.2⟩
  | [], _ :: _, h => h.elim
  | _ :: _, [], h => h.elim
theorem Rows.app : ∀ {ps qs : List Addr} {ms ns : List Mk}, Rows H enc ps ms → Rows H enc qs ns → Rows H enc (ps ++ qs) (ms ++ ns)
  | [], _, [], _, _, h => h
  | _ :: _, _, _ :: _, _, h, h2 => ⟨h.1, Rows.app h.2 h2⟩
  | [], _, _ :: _, _, h, _ => h.elim
  | _ :: _, _, [], _, h, _ => h.elim
theorem Rows.get : ∀ {ps : List Addr} {ms : List Mk}, Rows H enc ps ms → ∀ {i : Nat} {m : Mk}, ms[i]? = some m → ∃ p, ps[i]? = some p ∧ H p = some (.tup (enc m))
  | [], [], _, i, m, e => by simp at e
  | p :: ps, m' :: ms, h, 0, m, e => by
    have e' : m' = m := Option.some.inj e
    subst e'
    exact ⟨p, rfl, h.1⟩
  | p :: ps, m' :: ms, h, i + 1, m, e => Rows.get h.2 (i := i) e
  | [], _ :: _, h, _, _, _ => h.elim
  | _ :: _, [], h, _, _, _ => h.elim
theorem Rows.last {m : Mk} : ∀ {ps : List Addr} {ms : List Mk}, Rows H enc ps (ms ++ [m]) → ∃ qs q, ps = qs ++ [q] ∧ Rows H enc qs ms ∧ H q = some (.tup (enc m))
  | [], [], h => h.elim
  | [p], [], h => ⟨[], p, rfl, trivial, h.1⟩
  | _ :: _ :: _, [], h => h.2.elim
  | [], _ :: _, h => h.elim
  | p :: ps, m' :: ms, h => by
    obtain ⟨qs, q, rfl, h1, h2⟩ := Rows.last (ps := ps) (ms := ms) h.2
    exact ⟨p :: qs, q, rfl, ⟨h.1, h1⟩, h2⟩
end
def e2 (m : Mk) : List V := [.int m.at_, .str (SS m.s)]
def e3 (m : Mk) : List V := [.int m.ln, .int m.at_, .str (SS m.s)]
def e4 (m : Mk) : List V := [.int m.ln, .int m.at_, .str (SS m.s), .int m.k]
theorem six {n d a : Nat} (h : a ≤ n) : HT.sIx n d (some (a : Int)) = a := by
  rw [show HT.sIx n d (some (a : Int)) = min a n from HT.sIx_nat n d a, Nat.min_eq_left h]
theorem cutS_nat {l : List Nat} {a e : Nat} (h1 : a ≤ e) (h2 : e ≤ l.length) : cutS (SS l) (some (a : Int)) (some (e : Int)) = SS ((l.drop a).take (e - a)) := by
  unfold cutS
  rw [six (by rw [SS_len]; omega), six (by rw [SS_len]; omega)]
theorem blank_eq {c : Nat} : (V.str ⟨#[c]⟩ = V.str (" " : Str)) ↔ c = 32 := by
  constructor
  · intro e
    have e1 : (⟨#[c]⟩ : Str) = ⟨#[32]⟩ := V.str.inj e
    have e2 : #[c] = #[32] := congrArg Str.cps e1
    have e3 : [c] = [32] := congrArg Array.toList e2
    exact List.head_eq_of_cons_eq e3
  · intro e
    subst e
    rfl
theorem not_d {p : Prop} [Decidable p] (h : (!decide p) = true) : ¬ p := fun z => by
  rw [decide_eq_true z] at h
  cases h
theorem of_not_d {p : Prop} [Decidable p] (h : ¬ (!decide p) = true) : p := by
  by_cases z : p
  · exact z
  · exact absurd (by rw [decide_eq_false z]; rfl) h
theorem one_seg {l : List Nat} {a : Nat} (ha : a < l.length) : (l.drop a).take (a + 1 - a) = [l[a]] := by
  rw [show a + 1 - a = 1 by omega, List.drop_eq_getElem_cons ha]
  rfl
theorem stepF_len (G : List Mk) (n a c : Nat) : (stepF G n a c).length ≤ G.length + 1 := by
  unfold stepF
  split
  · unfold grow
    split
    · omega
    · rw [List.length_append, List.length_dropLast, List.length_singleton]
      omega
  · split
    · omega
    · rw [List.length_append, List.length_singleton]
      omega
theorem lnF_len (n : Nat) : ∀ (l : List Nat) (G : List Mk) (a : Nat), (lnF n G a l).length ≤ G.length + l.length
  | [], G, a => Nat.le_refl _
  | c :: l, G, a => by
    have h1 := lnF_len n l (stepF G n a c) (a + 1)
    have h2 := stepF_len G n a c
    show (lnF n (stepF G n a c) (a + 1) l).length ≤ G.length + (l.length + 1)
    omega
theorem free_len {n : Nat} {l : List Nat} {a : Nat} {G : List Mk} (h : Free0 n l a G) : G.length ≤ l.length := by
  rw [h.eq]
  have h1 := lnF_len n (l.take a) [] 0
  rw [List.length_take] at h1
  simp at h1
  omega
def spLine : Sp := fun vs H Q _ => ∃ (n : Nat) (l : List Nat), vs = [.str (SS l)] ∧ l.length ≤ 100000 ∧
  ∀ (p : Addr) (ps : List Addr) (H' : Hp), Same H H' → H p = none → H' p = some (.lst (ps.map V.ref)) → Rows H' e2 ps (lineM n l) → Q (.ref p) H'
theorem scLine : FnScope ["line", "marks", "at", "end"] ["line"] (defScope sLine) := ⟨rfl, rfl, rfl, by decide +kernel, rfl, by decide +kernel, by decide +kernel⟩
section
variable {P : Program} {w : World} {K : PySem.W.Frag} {mg : Str → Option Value} {base : Heap}
theorem ok_line {f g : Addr} {fd gd : FuncData} {k : Nat} (F : Fun K "_marks_of_line" "_marks_of_line" sLine f fd) (G : FnOk P w K mg base CX0 k g gd ["line", "at"] spEnd) (bG : Binds K gd ["line", "at"] []) (kG : PySem.W.keepIn K (.ref g) = true) (mG : mg "_end_of_mark" = some (.ref g))
    (ml : mg "len" = none) : FnOk P w K mg base CX0 (k + 1) f fd ["line"] spLine := by
  refine F.ok scLine (fun vs H Q E h => ?_) (fun cdv A outer s H vs Q E hr h => ?_)
  · obtain ⟨n, l, rfl, _⟩ := h
    rfl
  · obtain ⟨n, l, rfl, hl, q⟩ := h
    refine ⟨_, pss_cons (ps_set (i := 1) scLine.nd rfl (.inl rfl) (pe_lst pa_nil))
      (pss_cons (ps_set (i := 2) scLine.nd rfl (.inl rfl) pe_int)
      (pss_cons (ps_while PassesOwn.never (pt_cmpR op_lt (pv 2) (pe_callB call_len_str (by rfl) ml PySem.boot_len (pa_cons (pv 0) pa_nil)) (nomark _))
        (pss_cons (ps_set (i := 3) scLine.nd rfl (.inl rfl) (pe_call G hr rfl mG kG bG .nil pass0 (pa_cons (pv 0) (pa_cons (pv 2) pa_nil))))
        (pss_cons (ps_if (pt_cmpR op_ne (pe_ix ix_str (pv 0) (pv 2) (fun _ _ => rfl)) pe_str (nomark _))
            (pss_one (ps_expr (pe_bm PySem.F.plainAttrs_list PySem.F.slot_list_append PySem.F.type_list_append mt_append (pv 1) (pa_cons (pe_tup (pa_cons (pv 2) (pa_cons (pe_slice sl_str (pv 0) (po_some (pv 2)) (po_some (pv 3))) pa_nil))) pa_nil)))) pss_nil)
        (pss_one (ps_set (i := 2) scLine.nd rfl (.inl rfl) (pv 3))))))
      (pss_one (ps_ret (pv 1))))), ?_⟩
    refine ⟨Nat.zero_le _, fun p np => ?_⟩
    refine tw (fun m σ H' => ∃ (a : Nat) (y : Option V) (F0 : List Mk) (ps : List Addr), σ = [some (.str (SS l)), some (.ref p), some (.int a), y] ∧ Free0 n l a F0 ∧ H' p = some (.lst (ps.map V.ref)) ∧ Rows H' e2 ps F0 ∧ (∀ b o, b ≠ p → H b = some o → H' b = some o) ∧ m = l.length - a)
      (fun σ H' => ∃ (y : Option V) (ps : List Addr), σ = [some (.str (SS l)), some (.ref p), some (.int l.length), y] ∧ H' p = some (.lst (ps.map V.ref)) ∧ Rows H' e2 ps (lineM n l) ∧ (∀ b o, b ≠ p → H b = some o → H' b = some o))
      ⟨0, none, [], [], rfl, free_start, upd_same, trivial, fun b o nb e => by rw [upd_ne nb]; exact e, rfl⟩ ?_ (fun out => ?_)
    · rintro σ H' ⟨y, ps, rfl, h1, h2, h3⟩
      exact ⟨_, rfl, q p ps H' (fun b o e => h3 b o (ne_of_none e np) e) np h1 h2⟩
    · rintro m σ H1 ⟨a, y, F0, ps, rfl, fr, h1, h2, h3, rfl⟩
      refine ⟨_, rfl, _, rfl, _, rfl, szS hl, _, _, rfl, rfl, _, rfl, ?_⟩
      rw [SS_len]
      refine ite2 (fun c1 => ?_) (fun c1 => ?_)
      · have ha : a < l.length := by
          have := of_decide_eq_true c1
          omega
        refine ⟨fun σ' H' => ∃ m', m' < l.length - a ∧ (∃ (a : Nat) (y : Option V) (F0 : List Mk) (ps : List Addr), σ' = [some (.str (SS l)), some (.ref p), some (.int a), y] ∧ Free0 n l a F0 ∧ H' p = some (.lst (ps.map V.ref)) ∧ Rows H' e2 ps F0 ∧ (∀ b o, b ≠ p → H b = some o → H' b = some o) ∧ m' = l.length - a), fun _ _ x => x, ?_⟩
        refine ⟨_, rfl, _, rfl, l, a, rfl, ha, hl, fun e H2 s2 me => ?_⟩
        have hc : l[a]? = some l[a] := List.getElem?_eq_getElem ha
        have h1' := s2 _ _ h1
        have h2' := Rows.keep (fun b xs e => s2 b _ e) h2
        have h3' : ∀ b o, b ≠ p → H b = some o → H2 b = some o := fun b o nb eb => s2 _ _ (h3 b o nb eb)
        have hle : a < e ∧ e ≤ l.length := by
          rcases Nat.eq_zero_or_pos (kd l[a]) with z | z
          · have := me.one _ hc z
            omega
          · have := me.run _ hc z
            exact ⟨this.1, this.2.1⟩
        refine ⟨_, rfl, _, rfl, _, _, l[a], rfl, rfl, szS hl, atI_nat hc, rfl, _, rfl, ?_⟩
        refine ite2 (fun c2 => ?_) (fun c2 => ?_)
        · have h32 : l[a] ≠ 32 := fun z => by
            exact not_d c2 (blank_eq.mpr z)
          have fr2 : Free0 n l e (F0 ++ [⟨n, a, (l.drop a).take (e - a), kd l[a]⟩]) := by
            rcases Nat.eq_zero_or_pos (kd l[a]) with z | z
            · have ee := me.one _ hc z
              subst ee
              have := free_sign fr hc z h32
              have hseg : (l.drop a).take (a + 1 - a) = [l[a]] := one_seg ha
              rw [hseg, z]
              exact this
            · obtain ⟨r1, r2, r3, r4⟩ := me.run _ hc z
              exact free_run fr z r1 r2 r3 r4
          refine ⟨_, rfl, .inl ⟨rfl, _, SqL.of h1'⟩, _, rfl, _, rfl, _, rfl, _, rfl, _, rfl, _, rfl, _, rfl, szS hl, (by show 2 ≤ sizeLine; decide), fun t nt => ⟨p, _, _, rfl, rfl, (by rw [upd_ne (ne_of_none h1' nt)]; exact h1'), ?_, ?_⟩⟩
          · rw [List.length_map, Rows.len h2]
            exact Nat.lt_of_le_of_lt (Nat.le_trans (free_len fr) hl) (by decide)
          · have npt : p ≠ t := ne_of_none h1' nt
            refine ⟨_, rfl, l.length - e, by omega, e, _, _, ps ++ [t], rfl, fr2, ?_, ?_, ?_, rfl⟩
            · rw [upd_same, List.map_append]
              rfl
            · refine Rows.snoc ?_ (Rows.keep (fun b xs eb => ?_) h2')
              · rw [upd_ne (Ne.symm npt), upd_same]
                show some (HO.tup [V.int a, V.str (cutS (SS l) (some (a : Int)) (some (e : Int)))]) = _
                rw [cutS_nat (by omega) hle.2]
                rfl
              · have nbp : b ≠ p := fun z => by rw [z, h1'] at eb; cases eb
                rw [upd_ne nbp, upd_ne (ne_of_none eb nt)]
                exact eb
            · intro b o nb eb
              rw [upd_ne nb, upd_ne (ne_of_none (h3' b o nb eb) nt)]
              exact h3' b o nb eb
        · have h32 : l[a] = 32 := by
            exact blank_eq.mp (of_not_d c2)
          have z : kd l[a] = 0 := by rw [h32]; exact kd32
          have ee := me.one _ hc z
          subst ee
          rw [h32] at hc
          exact ⟨_, rfl, l.length - (a + 1), by omega, a + 1, _, F0, ps, rfl, free_blank fr hc, h1', h2', h3', rfl⟩
      · have he : a = l.length := by
          have := fr.le
          have : ¬ (a : Int) < (l.length : Int) := fun z => c1 (decide_eq_true z)
          omega
        subst he
        exact out _ _ ⟨y, ps, rfl, h1, by rw [← free_end fr]; exact h2, h3⟩
end
end K05
namespace K05
open PySem PySem.Spec PyProof.Rows L2
theorem parts_of : ∀ t : List Nat, ∃ ls : List (List Nat), ls ≠ [] ∧ TL.joinL [10] ls = t ∧ ∀ l ∈ ls, 10 ∉ l
  | [] => ⟨[[]], by simp, rfl, by simp⟩
  | c :: t => by
    obtain ⟨ls, h1, h2, h3⟩ := parts_of t
    by_cases hc : c = 10
    · subst hc
      cases ls with
      | nil => exact absurd rfl h1
      | cons x r =>
        refine ⟨[] :: x :: r, by simp, ?_, fun l hl => ?_⟩
        · show [] ++ ([10] ++ TL.joinL [10] (x :: r)) = _
          rw [h2]
          rfl
        · rcases List.mem_cons.mp hl with e | e
          · rw [e]; simp
          · exact h3 l e
    · cases ls with
      | nil => exact absurd rfl h1
      | cons x r =>
        refine ⟨(c :: x) :: r, by simp, ?_, fun l hl => ?_⟩
        · rw [← h2]
          cases r with
          | nil => rfl
          | cons y z => rfl
        · rcases List.mem_cons.mp hl with e | e
          · rw [e]
            intro z
            rcases List.mem_cons.mp z with z | z
            · exact hc z.symm
            · exact h3 x (by simp) z
          · exact h3 l (by simp [e])
theorem glue_join : ∀ ls : List (List Nat), glue ls = TL.joinL [10] ls
  | [] => rfl
  | [_] => rfl
  | x :: y :: r => by
    show x ++ [10] ++ glue (y :: r) = x ++ ([10] ++ TL.joinL [10] (y :: r))
    rw [glue_join (y :: r), List.append_assoc]
theorem split_of (t : List Nat) : ∃ ls : List (List Nat), ls ≠ [] ∧ Txt.split (SS t) ("\n" : Str) = ls.map SS ∧ (due t).found = linesM 0 ls ∧ ∀ l ∈ ls, l.length ≤ t.length := by
  obtain ⟨ls, h1, h2, h3⟩ := parts_of t
  refine ⟨ls, h1, ?_, ?_, ?_⟩
  · have e := SX.split_S (a := t) (b := [10]) (by simp) (by decide)
    have e2 : TL.spl [10] 0 [] t = ls := by
      rw [← h2]
      exact TL.spl_join h1 h3
    rw [e2] at e
    exact e
  · rw [← h2, ← glue_join]
    exact due_lines fun l hl c hc z => h3 l hl (by rw [← z]; exact hc)
  · rw [← h2]
    clear h2 h3
    have : ∀ ls : List (List Nat), ∀ l ∈ ls, l.length ≤ (TL.joinL [10] ls).length := by
      intro ls
      induction ls with
      | nil => intro l hl; cases hl
      | cons x r ih =>
        intro l hl
        cases r with
        | nil =>
          rw [List.mem_singleton.mp hl]
          exact Nat.le_refl _
        | cons y z =>
          show l.length ≤ (x ++ ([10] ++ TL.joinL [10] (y :: z))).length
          rw [List.length_append, List.length_append]
          rcases List.mem_cons.mp hl with e | e
          · rw [e]; omega
          · have := ih l e
            omega
    exact this ls
def outM (n tot : Nat) : List (List Nat) → List Mk
  | [] => []
  | l :: r => lineM n l ++ (if n + 1 < tot then [⟨n, l.length, [10], 0⟩] else []) ++ outM (n + 1) tot r
theorem outM_app : ∀ (l1 l2 : List (List Nat)) (n tot : Nat), outM n tot (l1 ++ l2) = outM n tot l1 ++ outM (n + l1.length) tot l2
  | [], l2, n, tot => rfl
  | l :: r, l2, n, tot => by
    show lineM n l ++ _ ++ outM (n + 1) tot (r ++ l2) = lineM n l ++ _ ++ outM (n + 1) tot r ++ outM (n + (r.length + 1)) tot l2
    rw [outM_app r l2 (n + 1) tot, show n + 1 + r.length = n + (r.length + 1) by omega]
    simp only [List.append_assoc]
theorem outM_eq : ∀ (ls : List (List Nat)) (n : Nat), outM n (n + ls.length) ls = linesM n ls
  | [], n => rfl
  | [l], n => by
    show lineM n l ++ (if n + 1 < n + 1 then _ else []) ++ [] = lineM n l
    rw [if_neg (by omega)]
    simp
  | l :: l2 :: r, n => by
    show lineM n l ++ (if n + 1 < n + ((r.length + 1) + 1) then _ else []) ++ outM (n + 1) (n + ((r.length + 1) + 1)) (l2 :: r) = lineM n l ++ [⟨n, l.length, [10], 0⟩] ++ linesM (n + 1) (l2 :: r)
    rw [if_pos (by omega)]
    have := outM_eq (l2 :: r) (n + 1)
    rw [← this]
    show _ = lineM n l ++ _ ++ outM (n + 1) (n + 1 + (r.length + 1)) (l2 :: r)
    rw [show n + 1 + (r.length + 1) = n + ((r.length + 1) + 1) by omega]
theorem due_len (t : List Nat) : (due t).found.length ≤ t.length := by
  have : ∀ (l : List Nat) (S : St0), (l.foldl stp S).found.length ≤ S.found.length + l.length := by
    intro l
    induction l with
    | nil => intro S; exact Nat.le_refl _
    | cons c r ih =>
      intro S
      have h1 := ih (stp S c)
      have h2 := stepF_len S.found S.ln S.at_ c
      have h3 : (stp S c).found = stepF S.found S.ln S.at_ c := by unfold stp; split <;> rfl
      rw [h3] at h1
      show (r.foldl stp (stp S c)).found.length ≤ S.found.length + (r.length + 1)
      omega
  have h := this t ⟨[], 0, 0⟩
  show (t.foldl stp ⟨[], 0, 0⟩).found.length ≤ t.length
  simpa using h
def spMarks : Sp := fun vs H Q _ => ∃ t : List Nat, vs = [.str (SS t)] ∧ t.length ≤ 90000 ∧
  ∀ (p : Addr) (ps : List Addr) (H' : Hp), Same H H' → H' p = some (.tup (ps.map V.ref)) → Rows H' e3 ps (due t).found → Q (.ref p) H'
theorem scMarks : FnScope ["text", "marks", "lines", "number", "line", "at", "mark"] ["text"] (defScope sMarks) := ⟨rfl, rfl, rfl, by decide +kernel, rfl, by decide +kernel, by decide +kernel⟩
section
variable {P : Program} {w : World} {K : PySem.W.Frag} {mg : Str → Option Value} {base : Heap}
theorem ok_marks {f g : Addr} {fd gd : FuncData} {k : Nat} (F : Fun K "marks_of" "marks_of" sMarks f fd) (G : FnOk P w K mg base CX0 k g gd ["line"] spLine) (bG : Binds K gd ["line"] []) (kG : PySem.W.keepIn K (.ref g) = true) (mG : mg "_marks_of_line" = some (.ref g))
    (ml : mg "len" = none) (me : mg "enumerate" = none) (mt : mg "tuple" = none) : FnOk P w K mg base CX0 (k + 1) f fd ["text"] spMarks := by
  refine F.ok scMarks (fun vs H Q E h => ?_) (fun cdv A outer s H vs Q E hr h => ?_)
  · obtain ⟨l, rfl, _⟩ := h
    rfl
  · obtain ⟨t, rfl, hl, q⟩ := h
    refine ⟨_, pss_cons (ps_set (i := 1) scMarks.nd rfl (.inl rfl) (pe_lst pa_nil))
      (pss_cons (ps_set (i := 2) scMarks.nd rfl (.inl rfl) (pe_split (pv 0) pe_str))
      (pss_cons (ps_for PassesOwn.never rfl (pi_enum (by rfl) me (pa_cons (pv 2) pa_nil)) (pg_tup rfl (pgs_cons (pg_name (i := 3) scMarks.nd rfl (.inl rfl)) (pgs_cons (pg_name (i := 4) scMarks.nd rfl (.inl rfl)) pgs_nil)))
        (pss_cons (ps_for PassesOwn.never rfl (pi_list (pe_call G hr rfl mG kG bG .nil pass0 (pa_cons (pv 4) pa_nil))) (pg_tup rfl (pgs_cons (pg_name (i := 5) scMarks.nd rfl (.inl rfl)) (pgs_cons (pg_name (i := 6) scMarks.nd rfl (.inl rfl)) pgs_nil)))
          (pss_one (ps_expr (pe_bm PySem.F.plainAttrs_list PySem.F.slot_list_append PySem.F.type_list_append mt_append (pv 1) (pa_cons (pe_tup (pa_cons (pv 3) (pa_cons (pv 5) (pa_cons (pv 6) pa_nil)))) pa_nil)))))
        (pss_one (ps_if (pt_cmpR op_lt (pv 3) (pe_op op_sub (pe_callB call_len_seq (by rfl) ml PySem.boot_len (pa_cons (pv 2) pa_nil)) pe_int) (nomark _))
          (pss_one (ps_expr (pe_bm PySem.F.plainAttrs_list PySem.F.slot_list_append PySem.F.type_list_append mt_append (pv 1) (pa_cons (pe_tup (pa_cons (pv 3) (pa_cons (pe_callB call_len_str (by rfl) ml PySem.boot_len (pa_cons (pv 4) pa_nil)) (pa_cons pe_str pa_nil)))) pa_nil)))) pss_nil))))
      (pss_one (ps_ret (pe_callTy call_tuple_of (by rfl) mt (by decide +kernel) (pa_cons (pv 1) pa_nil)))))), ?_⟩
    obtain ⟨ls, ls0, es, ed, elen⟩ := split_of t
    refine ⟨Nat.zero_le _, fun p np => ?_⟩
    refine ⟨_, rfl, ⟨_, rfl⟩, _, _, rfl, rfl, by decide, by rw [SS_len]; exact sz5 (by omega), fun L nL => ?_⟩
    have npL : p ≠ L := fun e => by rw [← e, upd_same] at nL; cases nL
    have nL0 : H L = none := by rw [upd_ne (Ne.symm npL)] at nL; exact nL
    rw [es]
    have hwhole : (outM 0 ls.length ls).length ≤ 90000 := by
      have e := outM_eq ls 0
      rw [Nat.zero_add] at e
      rw [e, ← ed]
      exact Nat.le_trans (due_len t) hl
    have hpart : ∀ i, ∀ hi : i < ls.length, outM 0 ls.length (ls.take (i + 1)) = outM 0 ls.length (ls.take i) ++ (lineM i ls[i] ++ (if i + 1 < ls.length then [⟨i, ls[i].length, [10], 0⟩] else [])) := by
      intro i hi
      rw [List.take_succ_eq_append_getElem hi, outM_app, List.length_take, Nat.min_eq_left (by omega), Nat.zero_add]
      show _ ++ (lineM i ls[i] ++ _ ++ []) = _
      rw [List.append_nil]
    have hless : ∀ i, (outM 0 ls.length (ls.take i)).length ≤ 90000 := by
      intro i
      have e : outM 0 ls.length ls = outM 0 ls.length (ls.take i) ++ outM (0 + (ls.take i).length) ls.length (ls.drop i) := by
        rw [← outM_app, List.take_append_drop]
      rw [e, List.length_append] at hwhole
      omega
    have eL : (upd (upd H p (.lst [])) L (.lst ((ls.map SS).map V.str))) L = some (.lst ((ls.map SS).map V.str)) := upd_same
    refine ⟨_, rfl, L, _, rfl, SqL.of eL, for_it walk_enum (fun i σ H' => ∃ (y3 y4 y5 y6 : Option V) (ps : List Addr), σ = [some (.str (SS t)), some (.ref p), some (.ref L), y3, y4, y5, y6] ∧ H' p = some (.lst (ps.map V.ref)) ∧
        Rows H' e3 ps (outM 0 ls.length (ls.take i)) ∧ H' L = some (.lst ((ls.map SS).map V.str)) ∧ (∀ b o, b ≠ p → H b = some o → H' b = some o))
      ⟨none, none, none, none, [], rfl, by rw [upd_ne npL, upd_same]; rfl, by rw [List.take_zero]; trivial, eL, fun b o nb e => by rw [upd_ne (ne_of_none e nL0), upd_ne nb]; exact e⟩
      (fun i σ H' _ ⟨_, _, _, _, _, _, _, _, e, _⟩ => SqL.of e) ?_ ?_⟩
    · rintro i x σ H1 H2 hi ⟨y3, y4, y5, y6, ps, rfl, h1, h2, h3, h4⟩ ⟨T, a, b, rfl, nT, rfl, ea, eb⟩
      have hi' : i < ls.length := by simpa using hi
      have ea' : a = .int (i : Nat) := (Option.some.inj ea).symm
      have eb' : b = .str (SS ls[i]) := by
        have eb2 : ((ls.map SS).map V.str)[i]? = some b := eb
        rw [List.getElem?_map, List.getElem?_map, List.getElem?_eq_getElem hi'] at eb2
        exact (Option.some.inj eb2).symm
      subst ea' eb'
      have npT : p ≠ T := ne_of_none h1 nT
      have nLT : L ≠ T := ne_of_none h3 nT
      have g1 : (upd H1 T (.tup [.int (i : Nat), .str (SS ls[i])])) p = some (.lst (ps.map V.ref)) := by rw [upd_ne npT]; exact h1
      have g2 : Rows (upd H1 T (.tup [.int (i : Nat), .str (SS ls[i])])) e3 ps (outM 0 ls.length (ls.take i)) := Rows.keep (fun b xs e => by rw [upd_ne (ne_of_none e nT)]; exact e) h2
      have g3 : (upd H1 T (.tup [.int (i : Nat), .str (SS ls[i])])) L = some (.lst ((ls.map SS).map V.str)) := by rw [upd_ne nLT]; exact h3
      have g4 : ∀ b o, b ≠ p → H b = some o → (upd H1 T (.tup [.int (i : Nat), .str (SS ls[i])])) b = some o := fun b o nb e => by
        rw [upd_ne (ne_of_none (h4 b o nb e) nT)]
        exact h4 b o nb e
      refine ⟨T, _, rfl, .inl (.inl upd_same), rfl, _, _, rfl, _, _, rfl, rfl, ?_⟩
      generalize upd H1 T (.tup [.int (i : Nat), .str (SS ls[i])]) = H2 at g1 g2 g3 g4
      have hli : ls[i].length ≤ 100000 := Nat.le_trans (elen _ (List.getElem_mem hi')) (by omega)
      refine ⟨_, rfl, i, ls[i], rfl, hli, fun r rs H3 s3 nr hr' rr => ?_⟩
      have npr : p ≠ r := ne_of_none g1 nr
      have nLr : L ≠ r := ne_of_none g3 nr
      have hbig := hless (i + 1)
      rw [hpart i hi', List.length_append, List.length_append] at hbig
      refine ⟨r, rfl, ⟨_, SqL.of hr'⟩, for_list (K := K) (a := r) (xs := rs.map V.ref) (fun j σ H' => ∃ (y5 y6 : Option V) (ps : List Addr), σ = [some (.str (SS t)), some (.ref p), some (.ref L), some (.int (i : Nat)), some (.str (SS ls[i])), y5, y6] ∧ H' p = some (.lst (ps.map V.ref)) ∧
          Rows H' e3 ps (outM 0 ls.length (ls.take i) ++ (lineM i ls[i]).take j) ∧ H' L = some (.lst ((ls.map SS).map V.str)) ∧ (∀ b o, b ≠ p → H b = some o → H' b = some o) ∧ H' r = some (.lst (rs.map V.ref)) ∧ Rows H' e2 rs (lineM i ls[i]))
        ⟨_, _, ps, rfl, s3 _ _ g1, by rw [List.take_zero, List.append_nil]; exact Rows.keep (fun b xs e => s3 _ _ e) g2, s3 _ _ g3, fun b o nb e => s3 _ _ (g4 b o nb e), hr', rr⟩
        (fun j σ H' _ ⟨_, _, _, _, _, _, _, _, e, _⟩ => SqL.of e) ?_ ?_⟩
      · rintro j x σ H4 hx ⟨y5, y6, ps, rfl, k1, k2, k3, k4, k5, k6⟩
        have hj : j < (lineM i ls[i]).length := by
          have := (List.getElem?_eq_some_iff.mp hx).1
          rw [List.length_map, Rows.len k6] at this
          exact this
        obtain ⟨u, hu, eu⟩ := Rows.get k6 (List.getElem?_eq_getElem hj)
        have ex : x = .ref u := by
          rw [List.getElem?_map, hu] at hx
          exact (Option.some.inj hx).symm
        subst ex
        refine ⟨u, _, rfl, .inl (.inl eu), rfl, _, _, rfl, _, _, rfl, rfl, ?_⟩
        refine ⟨_, rfl, .inl ⟨rfl, _, SqL.of k1⟩, _, rfl, _, rfl, _, rfl, (by show 3 ≤ sizeLine; decide), fun z nz => ⟨p, _, _, rfl, rfl, (by rw [upd_ne (ne_of_none k1 nz)]; exact k1), ?_, ?_⟩⟩
        · rw [List.length_map, Rows.len k2, List.length_append, List.length_take]
          exact Nat.lt_of_le_of_lt (m := 100000) (by omega) (by decide)
        · have npz : p ≠ z := ne_of_none k1 nz
          have nLp : L ≠ p := Ne.symm npL
          refine ⟨_, _, ps ++ [z], rfl, ?_, ?_, ?_, ?_, ?_, ?_⟩
          · rw [upd_same, List.map_append]
            rfl
          · rw [List.take_succ_eq_append_getElem hj, ← List.append_assoc]
            refine Rows.snoc ?_ (Rows.keep (fun b xs eb => ?_) k2)
            · rw [upd_ne (Ne.symm npz), upd_same]
              have := lnF_ln (n := i) ls[i] [] 0 (by simp) _ (List.getElem_mem hj)
              show _ = some (HO.tup [V.int ((lineM i ls[i])[j]).ln, _, _])
              have e9 : ((lineM i ls[i])[j]).ln = i := this
              rw [e9]
            · have nbp : b ≠ p := fun q => by rw [q, k1] at eb; cases eb
              rw [upd_ne nbp, upd_ne (ne_of_none eb nz)]
              exact eb
          · rw [upd_ne nLp, upd_ne (ne_of_none k3 nz)]; exact k3
          · intro b o nb eb
            rw [upd_ne nb, upd_ne (ne_of_none (k4 b o nb eb) nz)]
            exact k4 b o nb eb
          · rw [upd_ne (Ne.symm npr), upd_ne (ne_of_none k5 nz)]; exact k5
          · refine Rows.keep (fun b xs eb => ?_) k6
            have nbp : b ≠ p := fun q => by rw [q, k1] at eb; cases eb
            rw [upd_ne nbp, upd_ne (ne_of_none eb nz)]
            exact eb
      · rintro σ H4 ⟨y5, y6, ps, rfl, k1, k2, k3, k4, k5, k6⟩
        rw [List.length_map, Rows.len rr, List.take_length] at k2
        refine ⟨_, rfl, _, rfl, L, _, rfl, .inl (SqL.of k3), _, _, rfl, rfl, _, _, rfl, rfl, _, rfl, ?_⟩
        rw [List.length_map, List.length_map]
        refine ite2 (fun c1 => ?_) (fun c1 => ?_)
        · have hlt : i + 1 < ls.length := by
            have := of_decide_eq_true c1
            omega
          rw [if_pos hlt] at hbig
          refine ⟨_, rfl, .inl ⟨rfl, _, SqL.of k1⟩, _, rfl, _, rfl, _, rfl, szS hli, (by show 3 ≤ sizeLine; decide), fun z nz => ⟨p, _, _, rfl, rfl, (by rw [upd_ne (ne_of_none k1 nz)]; exact k1), ?_, ?_⟩⟩
          · rw [List.length_map, Rows.len k2, List.length_append]
            exact Nat.lt_of_le_of_lt (m := 100000) (by omega) (by decide)
          · have npz : p ≠ z := ne_of_none k1 nz
            refine ⟨_, _, _, _, ps ++ [z], rfl, ?_, ?_, ?_, ?_⟩
            · rw [upd_same, List.map_append]
              rfl
            · rw [hpart i hi', if_pos hlt, ← List.append_assoc]
              refine Rows.snoc ?_ (Rows.keep (fun b xs eb => ?_) k2)
              · rw [upd_ne (Ne.symm npz), upd_same, SS_len]
                rfl
              · have nbp : b ≠ p := fun q => by rw [q, k1] at eb; cases eb
                rw [upd_ne nbp, upd_ne (ne_of_none eb nz)]
                exact eb
            · rw [upd_ne (Ne.symm npL), upd_ne (ne_of_none k3 nz)]; exact k3
            · intro b o nb eb
              rw [upd_ne nb, upd_ne (ne_of_none (k4 b o nb eb) nz)]
              exact k4 b o nb eb
        · have hlt : ¬ i + 1 < ls.length := fun z => c1 (decide_eq_true (by omega))
          refine ⟨_, _, _, _, ps, rfl, k1, ?_, k3, k4⟩
          rw [hpart i hi', if_neg hlt, List.append_nil]
          exact k2
    · rintro σ H1 ⟨y3, y4, y5, y6, ps, rfl, h1, h2, h3, h4⟩
      rw [List.length_map, List.length_map, List.take_length] at h2
      have e := outM_eq ls 0
      rw [Nat.zero_add] at e
      rw [e, ← ed] at h2
      refine ⟨_, rfl, p, _, rfl, .inl ⟨SqL.of h1, fun z nz => ?_⟩⟩
      refine q z ps _ (fun b o eb => ?_) upd_same (Rows.keep (fun b xs eb => ?_) h2)
      · have e1 := h4 b o (ne_of_none eb np) eb
        rw [upd_ne (ne_of_none e1 nz)]
        exact e1
      · rw [upd_ne (ne_of_none eb nz)]
        exact eb
end
end K05
namespace K05
open PySem PySem.Spec PyProof.Rows L2
theorem lt_one {c d : Nat} : ([c] < [d]) ↔ c < d := by
  simp [List.cons_lt_cons_iff]
def spKind : Sp := fun vs H Q _ => ∃ c : Nat, vs = [.str (SS [c])] ∧ Q (.int (kd c)) H
theorem scKind : FnScope ["sign"] ["sign"] (defScope sKind) := ⟨rfl, rfl, rfl, by decide +kernel, rfl, by decide +kernel, by decide +kernel⟩
theorem cut2 {c : TT} {ta tb : TS} {D : Ends} {σ : L2.St} {H : Hp} (Yt Yf : Hp → Prop) (ht : ∀ H1, Yt H1 → ta D σ H1) (hf : ∀ H1, Yf H1 → tb D σ H1)
    (k : (∀ H1, Yt H1 → ta D σ H1) → (∀ H1, Yf H1 → tb D σ H1) → c σ H fun b H1 => if b = true then ta D σ H1 else tb D σ H1) : tIfS c ta tb D σ H := k ht hf
def d4 (m : Mk) : PyData := .tuple [.int m.ln, .int m.at_, .str (SS m.s), .int m.k]
def d3 (m : Mk) : PyData := .tuple [.int m.ln, .int m.at_, .str (SS m.s)]
def OkC (m : Mk) : Prop := ∀ c ∈ m.s, c < 1114112
theorem strOk_of {l : List Nat} (h : ∀ c ∈ l, c < 1114112) : PyData.strOk (SS l) = true := by
  unfold PyData.strOk
  rw [← Array.all_toList]
  show l.all _ = true
  rw [List.all_eq_true]
  intro c hc
  exact decide_eq_true (h c hc)
theorem shaped4 : ∀ (G : List Mk), (∀ m ∈ G, OkC m) → SeqAt.shaped (.list (G.map d4)) = true := by
  have h1 : ∀ G : List Mk, (∀ m ∈ G, OkC m) → PyData.canLayAll0 (G.map d4) = true ∧ PyData.depthAll (G.map d4) ≤ 1 := by
    intro G
    induction G with
    | nil => intro _; exact ⟨rfl, by simp [PyData.depthAll]⟩
    | cons m r ih =>
      intro h
      obtain ⟨a, b⟩ := ih fun x hx => h x (by simp [hx])
      have hm := strOk_of (h m (by simp))
      refine ⟨?_, ?_⟩
      · simp only [List.map_cons, d4, PyData.canLayAll0, PyData.canLay0, hm, Bool.true_and]
        exact a
      · simp only [List.map_cons, d4, PyData.depthAll, PyData.depth]
        omega
  intro G h
  obtain ⟨a, b⟩ := h1 G h
  have h4 : PyData.depth (.list (G.map d4)) ≤ 64 := by
    simp only [PyData.depth]
    omega
  have h5 : PyData.canLay0 (.list (G.map d4)) = true := by
    simp only [PyData.canLay0, a]
  show (PyData.canLay0 (.list (G.map d4)) && decide (PyData.depth (.list (G.map d4)) ≤ 64)) = true
  rw [h5, decide_eq_true h4]
  rfl
theorem dp4 {K : PySem.W.Frag} {H : Hp} : ∀ {ps : List Addr} {G : List Mk}, Rows H e4 ps G → DpAll K H (ps.map V.ref) (G.map d4)
  | [], [], _ => .nil
  | _ :: _, _ :: _, h => .cons (.tup (.inl (.inl h.1)) (.cons (.int _) (.cons (.int _) (.cons (.str _) (.cons (.int _) .nil))))) (dp4 h.2)
  | [], _ :: _, h => h.elim
  | _ :: _, [], h => h.elim
theorem dp3 {K : PySem.W.Frag} {H : Hp} : ∀ {ps : List Addr} {G : List Mk}, Rows H e3 ps G → DpAll K H (ps.map V.ref) (G.map d3)
  | [], [], _ => .nil
  | _ :: _, _ :: _, h => .cons (.tup (.inl (.inl h.1)) (.cons (.int _) (.cons (.int _) (.cons (.str _) .nil)))) (dp3 h.2)
  | [], _ :: _, h => h.elim
  | _ :: _, [], h => h.elim
theorem eqv_nil4 : ∀ G : List Mk, PyData.eqv (.list (G.map d4)) (.list []) = G.isEmpty
  | [] => by decide
  | c :: r => by simp [PyData.eqv, PyData.eqvAll]
theorem ok_stepF {G : List Mk} {n a c : Nat} (h : ∀ m ∈ G, OkC m) (hc : c < 1114112) : ∀ m ∈ stepF G n a c, OkC m := by
  intro m hm
  unfold stepF at hm
  split at hm
  · unfold grow at hm
    split at hm
    · exact h m hm
    · rename_i m' e
      rcases List.mem_append.mp hm with hm | hm
      · exact h m (List.dropLast_subset _ hm)
      · rw [List.mem_singleton.mp hm]
        intro x hx
        rcases List.mem_append.mp hx with hx | hx
        · exact h m' (List.mem_of_getLast? e) x hx
        · rw [List.mem_singleton.mp hx]; exact hc
  · split at hm
    · exact h m hm
    · rcases List.mem_append.mp hm with hm | hm
      · exact h m hm
      · rw [List.mem_singleton.mp hm]
        intro x hx
        rw [List.mem_singleton.mp hx]; exact hc
theorem stp_found (S : St0) (c : Nat) : (stp S c).found = stepF S.found S.ln S.at_ c := by unfold stp; split <;> rfl
theorem ok_due (l : List Nat) (h : ∀ c ∈ l, c < 1114112) : ∀ m ∈ (due l).found, OkC m := by
  have : ∀ (l : List Nat) (S : St0), (∀ c ∈ l, c < 1114112) → (∀ m ∈ S.found, OkC m) → ∀ m ∈ (l.foldl stp S).found, OkC m := by
    intro l
    induction l with
    | nil => intro S _ h; exact h
    | cons c r ih =>
      intro S hc h
      refine ih (stp S c) (fun x hx => hc x (by simp [hx])) ?_
      rw [stp_found]
      exact ok_stepF h (hc c (by simp))
  exact this l ⟨[], 0, 0⟩ h (by intro m hm; cases hm)
def spDue : Sp := fun vs H Q _ => ∃ t : List Nat, vs = [.str (SS t)] ∧ t.length ≤ 90000 ∧ (∀ c ∈ t, c < 1114112) ∧
  ∀ (p : Addr) (ps : List Addr) (H' : Hp), Same H H' → H' p = some (.lst (ps.map V.ref)) → Rows H' e3 ps (due t).found → Q (.ref p) H'
theorem scDue : FnScope ["text", "found", "line", "at", "sign", "kind", "mark"] ["text"] (defScope sDue) := ⟨rfl, rfl, rfl, by decide +kernel, rfl, by decide +kernel, by decide +kernel⟩
section
variable {P : Program} {w : World} {K : PySem.W.Frag} {mg : Str → Option Value} {base : Heap}
theorem ok_kind {f : Addr} {fd : FuncData} {k : Nat} (F : Fun K "_law_kind" "_law_kind" sKind f fd) : FnOk P w K mg base CX0 (k + 1) f fd ["sign"] spKind := by
  refine F.ok scKind (fun vs H Q E h => ?_) (fun cdv A outer s H vs Q E hr h => ?_)
  · obtain ⟨c, rfl, _⟩ := h
    rfl
  · obtain ⟨c, rfl, q⟩ := h
    refine ⟨_, pss_cons (ps_if (pt_chain op_le_str op_le_str pe_str (pv 0) pe_str) (pss_one (ps_ret pe_int)) pss_nil)
      (pss_one (ps_ret (pe_ifExp (pt_chain op_le_str op_le_str pe_str (pv 0) pe_str) pe_int pe_int))), ?_⟩
    have t1 : ∀ (d : Nat) (Z : Prop), (97 ≤ c → Z) → (¬ 97 ≤ c → Z) → Z := fun d Z a b => by
      by_cases h : 97 ≤ c
      · exact a h
      · exact b h
    have l1 : (!decide ([c] < [97])) = decide (97 ≤ c) := by
      rw [decide_eq_decide.mpr (lt_one (c := c) (d := 97))]
      by_cases h : c < 97
      · rw [decide_eq_true h, decide_eq_false (by omega)]; rfl
      · rw [decide_eq_false h, decide_eq_true (by omega)]; rfl
    have l2 : (!decide ([122] < [c])) = decide (c ≤ 122) := by
      rw [decide_eq_decide.mpr (lt_one (c := 122) (d := c))]
      by_cases h : 122 < c
      · rw [decide_eq_true h, decide_eq_false (by omega)]; rfl
      · rw [decide_eq_false h, decide_eq_true (by omega)]; rfl
    have l3 : (!decide ([c] < [48])) = decide (48 ≤ c) := by
      rw [decide_eq_decide.mpr (lt_one (c := c) (d := 48))]
      by_cases h : c < 48
      · rw [decide_eq_true h, decide_eq_false (by omega)]; rfl
      · rw [decide_eq_false h, decide_eq_true (by omega)]; rfl
    have l4 : (!decide ([57] < [c])) = decide (c ≤ 57) := by
      rw [decide_eq_decide.mpr (lt_one (c := 57) (d := c))]
      by_cases h : 57 < c
      · rw [decide_eq_true h, decide_eq_false (by omega)]; rfl
      · rw [decide_eq_false h, decide_eq_true (by omega)]; rfl
    refine cut2 (fun H1 => H1 = H ∧ kd c = 1) (fun H1 => H1 = H ∧ ¬ (97 ≤ c ∧ c ≤ 122)) ?_ ?_ (fun ht hf => ?_)
    · rintro H1 ⟨rfl, e⟩
      rw [e] at q
      exact q
    · rintro H1 ⟨rfl, e⟩
      refine ⟨_, rfl, _, _, rfl, rfl, _, rfl, ?_⟩
      refine ite2 (fun e1 => ?_) (fun e1 => ?_)
      · refine ⟨_, _, rfl, rfl, _, rfl, ?_⟩
        have g1 : 48 ≤ c := of_decide_eq_true (l3.symm.trans e1)
        refine ite2 (fun e2 => ?_) (fun e2 => ?_)
        · have g2 : c ≤ 57 := of_decide_eq_true (l4.symm.trans e2)
          have : kd c = 2 := by unfold kd; rw [if_neg e, if_pos ⟨g1, g2⟩]
          rw [this] at q
          exact q
        · have g2 : ¬ c ≤ 57 := fun z => e2 (l4.trans (decide_eq_true z))
          have : kd c = 0 := by unfold kd; rw [if_neg e, if_neg (fun z => g2 z.2)]
          rw [this] at q
          exact q
      · have g1 : ¬ 48 ≤ c := fun z => e1 (l3.trans (decide_eq_true z))
        have : kd c = 0 := by unfold kd; rw [if_neg e, if_neg (fun z => g1 z.1)]
        rw [this] at q
        exact ⟨_, rfl, q⟩
    · refine ⟨_, rfl, _, _, rfl, rfl, _, rfl, ?_⟩
      refine ite2 (fun e1 => ?_) (fun e1 => ?_)
      · refine ⟨_, _, rfl, rfl, _, rfl, ?_⟩
        have g1 : 97 ≤ c := of_decide_eq_true (l1.symm.trans e1)
        refine ite2 (fun e2 => ?_) (fun e2 => ?_)
        · have g2 : c ≤ 122 := of_decide_eq_true (l2.symm.trans e2)
          exact ht _ ⟨rfl, by unfold kd; rw [if_pos ⟨g1, g2⟩]⟩
        · have g2 : ¬ c ≤ 122 := fun z => e2 (l2.trans (decide_eq_true z))
          exact hf _ ⟨rfl, fun z => g2 z.2⟩
      · have g1 : ¬ 97 ≤ c := fun z => e1 (l1.trans (decide_eq_true z))
        exact ⟨_, rfl, hf _ ⟨rfl, fun z => g1 z.1⟩⟩
end
end K05
namespace K05
open PySem PySem.Spec PyProof.Rows L2
theorem due_take {t : List Nat} {i : Nat} (hi : i < t.length) : due (t.take (i + 1)) = stp (due (t.take i)) t[i] := by
  rw [List.take_succ_eq_append_getElem hi, due_snoc]
theorem six0 (n d : Nat) : HT.sIx n d none = d := HT.sIx_none n d
theorem nl_eq {c : Nat} : (V.str ⟨#[c]⟩ = V.str ("\n" : Str)) ↔ c = 10 := by
  constructor
  · intro e
    have e1 : (⟨#[c]⟩ : Str) = ⟨#[10]⟩ := V.str.inj e
    have e2 : #[c] = #[10] := congrArg Str.cps e1
    have e3 : [c] = [10] := congrArg Array.toList e2
    exact List.head_eq_of_cons_eq e3
  · intro e
    subst e
    rfl
theorem shaped2 (a b : Int) : SeqAt.shaped (.tuple [.int a, .int b]) = true := by
  show (PyData.canLay0 (.tuple [.int a, .int b]) && decide (PyData.depth (.tuple [.int a, .int b]) ≤ 64)) = true
  simp [PyData.canLay0, PyData.canLayAll0, PyData.depth, PyData.depthAll]
theorem eqv2 (a b c d : Int) : PyData.eqv (.tuple [.int a, .int b]) (.tuple [.int c, .int d]) = (decide (a = c) && decide (b = d)) := by
  simp [PyData.eqv, PyData.eqvAll]
  rfl
theorem seqcut {t u : TS} {D : Ends} {σ : L2.St} {H : Hp} (Y : L2.St → Hp → Prop) (out : ∀ σ H, Y σ H → u D σ H) (k : (∀ σ H, Y σ H → u D σ H) → t { D with nx := u D } σ H) : tSeq t u D σ H := k out
theorem gn {i : Nat} {v : V} {σ : L2.St} {H : Hp} {Q : L2.St → Hp → Prop} (h : Q (σ.set i (some v)) H) : gName i v σ H Q := h
theorem ixN_last (m : Nat) : ixN (m + 1) (-1) = some m := by
  unfold ixN
  rw [if_neg (by decide), if_pos (by omega)]
  congr 1
  omega
theorem set_last {α : Type} (xs : List α) (x y : α) : (xs ++ [x]).set xs.length y = xs ++ [y] := by
  rw [List.set_append_right xs.length y (Nat.le_refl _), Nat.sub_self]
  rfl
theorem cut_12 (a b : V) (r : List V) : cutV (a :: b :: r) none (some 2) = [a, b] := by
  unfold cutV
  rw [HT.sIx_none, show HT.sIx (a :: b :: r).length (a :: b :: r).length (some 2) = min 2 (a :: b :: r).length from HT.sIx_nat _ _ 2, List.drop_zero, Nat.sub_zero]
  rw [Nat.min_eq_left (by simp)]
  rfl
theorem cut_123 (a b c : V) (r : List V) : cutV (a :: b :: c :: r) none (some 3) = [a, b, c] := by
  unfold cutV
  rw [HT.sIx_none, show HT.sIx (a :: b :: c :: r).length (a :: b :: c :: r).length (some 3) = min 3 (a :: b :: c :: r).length from HT.sIx_nat _ _ 3, List.drop_zero, Nat.sub_zero]
  rw [Nat.min_eq_left (by simp)]
  rfl
theorem part4 (k : Int) (j : Nat) (hk : k = (j : Int)) (hj : j < 4) : ¬ (HT.sIx 4 0 none = 0 ∧ HT.sIx 4 4 (some k) = 4) := by
  intro z
  rw [hk, show HT.sIx 4 4 (some (j : Int)) = min j 4 from HT.sIx_nat 4 4 j] at z
  omega
theorem grow_snoc (F : List Mk) (m : Mk) (c : Nat) : grow (F ++ [m]) c = F ++ [⟨m.ln, m.at_, m.s ++ [c], m.k⟩] := by
  unfold grow
  rw [List.getLast?_append]
  simp
theorem ext_snoc (F : List Mk) (m : Mk) (k n a : Nat) : ext (F ++ [m]) k n a = (decide (0 < k) && touch k n a m) := by
  unfold ext
  rw [List.getLast?_append]
  simp
theorem stepF_slen {G : List Mk} {n a c B : Nat} (h : ∀ m ∈ G, m.s.length ≤ B) : ∀ m ∈ stepF G n a c, m.s.length ≤ B + 1 := by
  intro m hm
  unfold stepF at hm
  split at hm
  · unfold grow at hm
    split at hm
    · have := h m hm; omega
    · rename_i m' e
      rcases List.mem_append.mp hm with hm | hm
      · have := h m (List.dropLast_subset _ hm); omega
      · rw [List.mem_singleton.mp hm]
        have := h m' (List.mem_of_getLast? e)
        show (m'.s ++ [c]).length ≤ B + 1
        rw [List.length_append, List.length_singleton]
        omega
  · split at hm
    · have := h m hm; omega
    · rcases List.mem_append.mp hm with hm | hm
      · have := h m hm; omega
      · rw [List.mem_singleton.mp hm]
        show 1 ≤ B + 1
        omega
theorem due_slen (l : List Nat) : ∀ m ∈ (due l).found, m.s.length ≤ l.length := by
  have : ∀ (l : List Nat) (S : St0) (B : Nat), (∀ m ∈ S.found, m.s.length ≤ B) → ∀ m ∈ (l.foldl stp S).found, m.s.length ≤ B + l.length := by
    intro l
    induction l with
    | nil => intro S B h; exact h
    | cons c r ih =>
      intro S B h m hm
      have := ih (stp S c) (B + 1) (by rw [stp_found]; exact stepF_slen h) m hm
      show m.s.length ≤ B + (r.length + 1)
      omega
  intro m hm
  have := this l ⟨[], 0, 0⟩ 0 (by intro m hm; cases hm) m hm
  omega
section
variable {P : Program} {w : World} {K : PySem.W.Frag} {mg : Str → Option Value} {base : Heap}
theorem ok_due_def {f g : Addr} {fd gd : FuncData} {k : Nat} (F : Fun K "_law_marks" "_law_marks" sDue f fd) (G : FnOk P w K mg base CX0 k g gd ["sign"] spKind) (bG : Binds K gd ["sign"] []) (kG : PySem.W.keepIn K (.ref g) = true) (mG : mg "_law_kind" = some (.ref g))
    (ml : mg "len" = none) : FnOk P w K mg base CX0 (k + 1) f fd ["text"] spDue := by
  refine F.ok scDue (fun vs H Q E h => ?_) (fun cdv A outer s H vs Q E hr h => ?_)
  · obtain ⟨t, rfl, _⟩ := h
    rfl
  · obtain ⟨t, rfl, hl, hc, q⟩ := h
    refine ⟨_, pss_cons (ps_par3 (i := 1) (j := 2) (l := 3) rfl scDue.nd rfl rfl rfl (by decide) (by decide) (by decide) rfl rfl rfl (pa_cons (pe_lst pa_nil) (pa_cons pe_int (pa_cons pe_int pa_nil))) (by rfl))
      (pss_cons (ps_for PassesOwn.never rfl (pi_str (pv 0)) (pg_name (i := 4) scDue.nd rfl (.inl rfl))
        (pss_cons (ps_set (i := 5) scDue.nd rfl (.inl rfl) (pe_call G hr rfl mG kG bG .nil pass0 (pa_cons (pv 4) pa_nil)))
        (pss_cons (ps_if (PW.pt (pw_and (pt_cmpR op_gt (pv 5) pe_int (nomark _)) (pw_and (pt_cmpR (op_neD hr.units) (pv 1) (pe_lst pa_nil) (nomark _))
              (pw_and (pt_cmpR op_eq (pe_ix ix_tup (pe_ix ix_list (pv 1) (pe_un un_neg pe_int) (fun _ _ => rfl)) pe_int (fun _ _ => rfl)) (pv 5) (nomark _))
              (pw_and1 (pt_cmpR (op_eqD hr.units) (pe_slice sl_tup (pe_ix ix_list (pv 1) (pe_un un_neg pe_int) (fun _ _ => rfl)) po_none (po_some pe_int))
                (pe_tup (pa_cons (pv 2) (pa_cons (pe_op op_sub (pv 3) (pe_callB call_len_str (by rfl) ml PySem.boot_len (pa_cons (pe_ix ix_tup (pe_ix ix_list (pv 1) (pe_un un_neg pe_int) (fun _ _ => rfl)) pe_int (fun _ _ => rfl)) pa_nil))) pa_nil))) (nomark _)))))))
            (pss_one (ps_asg (pe_op op_catT (pe_slice sl_tup (pe_ix ix_list (pv 1) (pe_un un_neg pe_int) (fun _ _ => rfl)) po_none (po_some pe_int))
                (pe_tup (pa_cons (pe_op op_add_str (pe_ix ix_tup (pe_ix ix_list (pv 1) (pe_un un_neg pe_int) (fun _ _ => rfl)) pe_int (fun _ _ => rfl)) (pv 4)) (pa_cons (pv 5) pa_nil)))) (pg_sub (pv 1) (pe_un un_neg pe_int) set_list)))
            (pss_one (ps_if (pt_cmpR op_ne (pv 4) pe_str (nomark _))
              (pss_one (ps_expr (pe_bm PySem.F.plainAttrs_list PySem.F.slot_list_append PySem.F.type_list_append mt_append (pv 1) (pa_cons (pe_tup (pa_cons (pv 2) (pa_cons (pv 3) (pa_cons (pv 4) (pa_cons (pv 5) pa_nil))))) pa_nil)))) pss_nil)))
        (pss_one (ps_asg (pe_ifExp (pt_cmpR op_eq (pv 4) pe_str (nomark _)) (pe_tup (pa_cons (pe_op op_add (pv 2) pe_int) (pa_cons pe_int pa_nil))) (pe_tup (pa_cons (pv 2) (pa_cons (pe_op op_add (pv 3) pe_int) pa_nil))))
          (pg_tup rfl (pgs_cons (pg_name (i := 2) scDue.nd rfl (.inl rfl)) (pgs_cons (pg_name (i := 3) scDue.nd rfl (.inl rfl)) pgs_nil)))))))
      )
      (pss_one (ps_ret (pe_lc (own := [("mark", 6)]) (g := gName 6) (tt := tYes) (te := tSl (rSlT K) (tVar 6) tNoPart (tPart (tC (V.int 3)))) rfl scDue.nd (pi_list (pv 1)) (blkOk_by (own := [("mark", 6)]) (N := ["text", "found", "line", "at", "sign", "kind", "mark"]) (sc := defScope sDue) (by decide +kernel))
          (fun _ _ _ _ _ => pg_name (i := 6) scDue.nd rfl (Or.inl rfl)) (fun _ _ _ _ _ => pts_nil) (fun _ _ _ _ _ => pe_slice sl_tup (pv 6) po_none (po_some pe_int)))))), ?_⟩
    refine ⟨Nat.zero_le _, fun p np => ⟨_, _, _, rfl, ?_⟩⟩
    refine ⟨_, rfl, _, rfl, for_it walk_str (fun i σ H' => ∃ (y4 y5 : Option V) (ps : List Addr), σ = [some (.str (SS t)), some (.ref p), some (.int (due (t.take i)).ln), some (.int (due (t.take i)).at_), y4, y5, none] ∧ H' p = some (.lst (ps.map V.ref)) ∧
        Rows H' e4 ps (due (t.take i)).found ∧ (∀ b o, b ≠ p → H b = some o → H' b = some o))
      ⟨none, none, [], rfl, upd_same, trivial, fun b o nb e => by rw [upd_ne nb]; exact e⟩ (fun _ _ _ _ _ => trivial) ?_ ?_⟩
    · rintro i x σ H1 H2 hi ⟨y4, y5, ps, rfl, h1, h2, h3⟩ ⟨rfl, c, hc0, rfl⟩
      have hi' : i < t.length := by simpa using hi
      have hc1 : t[i] = c := by
        have e : t[i]? = some c := by simpa using hc0
        rw [List.getElem?_eq_getElem hi'] at e
        exact Option.some.inj e
      have hok := ok_due (t.take i) (fun x hx => hc x (List.take_subset _ _ hx))
      have hcc : c < 1114112 := by rw [← hc1]; exact hc _ (List.getElem_mem hi')
      have edue := due_take hi'
      rw [hc1] at edue
      have hFl : (due (t.take i)).found.length ≤ 90000 := Nat.le_trans (due_len _) (by rw [List.length_take]; omega)
      refine ⟨_, rfl, c, rfl, ?_⟩
      have hsl : ∀ m ∈ (due (t.take i)).found, m.s.length ≤ 90000 := fun m hm => Nat.le_trans (due_slen _ m hm) (by rw [List.length_take]; omega)
      generalize due (t.take i) = S at h2 hok edue hFl hsl
      obtain ⟨F0, n, a⟩ := S
      refine gn ?_
      dsimp only
      refine (seqcut (t := tIfS _ _ _) (fun σ' H' => σ' = [some (.str (SS t)), some (.ref p), some (.int n), some (.int a), some (.str (SS [c])), some (.int (kd c)), none] ∧ ∃ ps, H' p = some (.lst (ps.map V.ref)) ∧ Rows H' e4 ps (stepF F0 n a c) ∧ (∀ b o, b ≠ p → H b = some o → H' b = some o)) ?_ (fun out => ?_))
      · -- line, at = ..
        rintro σ' H5 ⟨rfl, ps, k1, k2, k3⟩
        refine ⟨_, rfl, rfl, _, rfl, ?_⟩
        refine ite2 (fun c2 => ?_) (fun c2 => ?_)
        · have h10 : c = 10 := nl_eq.mp (of_decide_eq_true c2)
          have e5 : stp ⟨F0, n, a⟩ c = ⟨stepF F0 n a c, n + 1, 0⟩ := by unfold stp; rw [if_pos h10]
          rw [e5] at edue
          refine ⟨_, rfl, _, _, rfl, rfl, (by show 2 ≤ sizeLine; decide), fun T nT => ⟨T, _, rfl, .inl (.inl upd_same), rfl, _, _, rfl, _, _, rfl, rfl, ?_⟩⟩
          refine ⟨some (.str (SS [c])), some (.int (kd c)), ps, by rw [edue]; rfl, ?_, ?_, ?_⟩
          · rw [upd_ne (ne_of_none k1 nT)]; exact k1
          · rw [edue]
            exact Rows.keep (fun b xs eb => by rw [upd_ne (ne_of_none eb nT)]; exact eb) k2
          · intro b o nb eb
            rw [upd_ne (ne_of_none (k3 b o nb eb) nT)]
            exact k3 b o nb eb
        · have h10 : ¬ c = 10 := fun z => c2 (decide_eq_true (nl_eq.mpr z))
          have e5 : stp ⟨F0, n, a⟩ c = ⟨stepF F0 n a c, n, a + 1⟩ := by unfold stp; rw [if_neg h10]
          rw [e5] at edue
          refine ⟨_, rfl, _, rfl, _, _, rfl, rfl, (by show 2 ≤ sizeLine; decide), fun T nT => ⟨T, _, rfl, .inl (.inl upd_same), rfl, _, _, rfl, _, _, rfl, rfl, ?_⟩⟩
          refine ⟨some (.str (SS [c])), some (.int (kd c)), ps, by rw [edue]; rfl, ?_, ?_, ?_⟩
          · rw [upd_ne (ne_of_none k1 nT)]; exact k1
          · rw [edue]
            exact Rows.keep (fun b xs eb => by rw [upd_ne (ne_of_none eb nT)]; exact eb) k2
          · intro b o nb eb
            rw [upd_ne (ne_of_none (k3 b o nb eb) nT)]
            exact k3 b o nb eb
      · refine cut2 (fun H' => H' p = some (.lst (ps.map V.ref)) ∧ Rows H' e4 ps F0 ∧ (∀ b o, b ≠ p → H b = some o → H' b = some o) ∧ ext F0 (kd c) n a = true)
          (fun H' => H' p = some (.lst (ps.map V.ref)) ∧ Rows H' e4 ps F0 ∧ (∀ b o, b ≠ p → H b = some o → H' b = some o) ∧ ext F0 (kd c) n a = false) ?_ ?_ (fun ht hf => ?_)
        · rintro H5 ⟨k1, k2, k3, k4⟩
          have hst : stepF F0 n a c = grow F0 c := by
            unfold stepF
            rw [k4]
            simp
          rcases list_end F0 with rfl | ⟨F1, m, rfl⟩
          · unfold ext at k4
            simp at k4
          rw [grow_snoc] at hst
          obtain ⟨qs, r, rfl, k5, k6⟩ := Rows.last k2
          rw [ext_snoc] at k4
          have hk : kd c = m.k := by
            have := (Bool.and_eq_true _ _ ▸ k4).2
            unfold touch at this
            simp only [Bool.and_eq_true, decide_eq_true_eq] at this
            exact this.1.symm
          have emap : (qs ++ [r]).map V.ref = qs.map V.ref ++ [.ref r] := by simp
          rw [emap] at k1
          have hmlen : m.s.length + 1 ≤ 1000000 := by
            have := hsl m (by simp)
            omega
          refine ⟨_, rfl, 1, rfl, p, _, -1, .ref r, rfl, rfl, SqL.of k1, atI_last _ _, 2, rfl, r, _, rfl, .inl (.inl k6), part4 2 2 rfl (by decide), fun u nu => ?_⟩
          have npu : p ≠ u := ne_of_none k1 nu
          have nru : r ≠ u := ne_of_none k6 nu
          have a1 : (upd H5 u (.tup (cutV (e4 m) none (some 2)))) p = some (.lst (qs.map V.ref ++ [.ref r])) := by rw [upd_ne npu]; exact k1
          have a2 : (upd H5 u (.tup (cutV (e4 m) none (some 2)))) r = some (.tup (e4 m)) := by rw [upd_ne nru]; exact k6
          have a3 : (upd H5 u (.tup (cutV (e4 m) none (some 2)))) u = some (.tup [.int m.ln, .int m.at_]) := by rw [upd_same]; exact congrArg (fun z => some (HO.tup z)) (cut_12 _ _ _)
          have a4 : Same H5 (upd H5 u (.tup (cutV (e4 m) none (some 2)))) := same_upd nu
          generalize upd H5 u (.tup (cutV (e4 m) none (some 2))) = H6 at a1 a2 a3 a4
          refine ⟨_, rfl, 1, rfl, p, _, -1, .ref r, rfl, rfl, SqL.of a1, atI_last _ _, r, _, 2, .str (SS m.s), rfl, rfl, .inl (.inl a2), atI_nat (j := 2) rfl, _, rfl, _, _, rfl, rfl, ?_, _, rfl, (by show 2 ≤ sizeLine; decide), fun z nz => ?_⟩
          · rw [SS_len, SS_len]
            exact Nat.le_trans hmlen (by decide)
          have b1 : (upd H6 z (.tup [.str (SS m.s ++ SS [c]), .int (kd c)])) p = some (.lst (qs.map V.ref ++ [.ref r])) := by rw [upd_ne (ne_of_none a1 nz)]; exact a1
          have b3 : (upd H6 z (.tup [.str (SS m.s ++ SS [c]), .int (kd c)])) u = some (.tup [.int m.ln, .int m.at_]) := by rw [upd_ne (ne_of_none a3 nz)]; exact a3
          have b4 : Same H5 (upd H6 z (.tup [.str (SS m.s ++ SS [c]), .int (kd c)])) := a4.trans (same_upd nz)
          have b5 : (upd H6 z (.tup [.str (SS m.s ++ SS [c]), .int (kd c)])) z = some (.tup [.str (SS m.s ++ SS [c]), .int (kd c)]) := upd_same
          generalize upd H6 z (.tup [.str (SS m.s ++ SS [c]), .int (kd c)]) = H7 at b1 b3 b4 b5
          refine ⟨u, z, _, _, rfl, rfl, .inl (.inl b3), .inl (.inl b5), by simp, (by show 4 ≤ sizeLine; decide), fun q => by simp at q, fun _ v nv => ?_⟩
          have npv : p ≠ v := ne_of_none b1 nv
          refine ⟨_, rfl, 1, rfl, p, _, -1, qs.length, rfl, rfl, (by rw [upd_ne npv]; exact b1), ?_, ?_⟩
          · rw [List.length_append, List.length_map, List.length_singleton]
            exact ixN_last _
          · refine out _ _ ⟨rfl, qs ++ [v], ?_, ?_, ?_⟩
            · rw [upd_same]
              have := set_last (qs.map V.ref) (V.ref r) (V.ref v)
              rw [List.length_map] at this
              rw [this]
              simp
            · rw [hst]
              refine Rows.snoc ?_ (Rows.keep (fun b xs eb => ?_) k5)
              · rw [upd_ne (Ne.symm npv), upd_same]
                show some (HO.tup [V.int m.ln, V.int m.at_, V.str (SS m.s ++ SS [c]), V.int (kd c)]) = some (HO.tup [V.int m.ln, V.int m.at_, V.str (SS (m.s ++ [c])), V.int m.k])
                rw [hk, show SS m.s ++ SS [c] = SS (m.s ++ [c]) from SX.S_cat m.s [c]]
              · have nbp : b ≠ p := fun q => by rw [q, k1] at eb; cases eb
                have eb7 := b4 _ _ eb
                rw [upd_ne nbp, upd_ne (ne_of_none eb7 nv)]
                exact eb7
            · intro b o nb eb
              have eb7 := b4 _ _ (k3 b o nb eb)
              rw [upd_ne nb, upd_ne (ne_of_none eb7 nv)]
              exact eb7
        · rintro H5 ⟨k1, k2, k3, k4⟩
          have hst : stepF F0 n a c = if c = 32 then F0 else F0 ++ [⟨n, a, [c], kd c⟩] := by
            unfold stepF
            rw [k4]
            simp
          refine ⟨_, rfl, rfl, _, rfl, ?_⟩
          refine ite2 (fun c2 => ?_) (fun c2 => ?_)
          · have h32 : c ≠ 32 := fun z => not_d c2 (blank_eq.mpr z)
            rw [if_neg h32] at hst
            refine ⟨_, rfl, .inl ⟨rfl, _, SqL.of k1⟩, _, rfl, _, rfl, _, rfl, _, rfl, (by show 4 ≤ sizeLine; decide), fun z nz => ⟨p, _, _, rfl, rfl, (by rw [upd_ne (ne_of_none k1 nz)]; exact k1), ?_, ?_⟩⟩
            · rw [List.length_map, Rows.len k2]
              exact Nat.lt_of_le_of_lt hFl (by decide)
            · have npz : p ≠ z := ne_of_none k1 nz
              refine out _ _ ⟨rfl, ps ++ [z], ?_, ?_, ?_⟩
              · rw [upd_same, List.map_append]
                rfl
              · rw [hst]
                refine Rows.snoc ?_ (Rows.keep (fun b xs eb => ?_) k2)
                · rw [upd_ne (Ne.symm npz), upd_same]
                  rfl
                · have nbp : b ≠ p := fun q => by rw [q, k1] at eb; cases eb
                  rw [upd_ne nbp, upd_ne (ne_of_none eb nz)]
                  exact eb
              · intro b o nb eb
                rw [upd_ne nb, upd_ne (ne_of_none (k3 b o nb eb) nz)]
                exact k3 b o nb eb
          · have h32 : c = 32 := blank_eq.mp (of_not_d c2)
            rw [if_pos h32] at hst
            exact out _ _ ⟨rfl, ps, k1, by rw [hst]; exact k2, k3⟩
        · refine ⟨_, rfl, _, _, rfl, rfl, _, rfl, ?_⟩
          refine ite2 (fun c1 => ?_) (fun c1 => ?_)
          · have hk0 : 0 < kd c := by
              have := of_decide_eq_true c1
              omega
            refine ⟨_, rfl, Nat.zero_le _, fun u nu => ?_⟩
            have a1 : (upd H2 u (.lst [])) p = some (.lst (ps.map V.ref)) := by rw [upd_ne (ne_of_none h1 nu)]; exact h1
            have a2 : Rows (upd H2 u (.lst [])) e4 ps F0 := Rows.keep (fun b xs eb => by rw [upd_ne (ne_of_none eb nu)]; exact eb) h2
            have a3 : ∀ b o, b ≠ p → H b = some o → (upd H2 u (.lst [])) b = some o := fun b o nb eb => by rw [upd_ne (ne_of_none (h3 b o nb eb) nu)]; exact h3 b o nb eb
            refine ⟨.list (F0.map d4), .list [], .lst (SqL.of a1) (dp4 a2), .lst (SqL.of upd_same) .nil, shaped4 F0 hok, by decide, _, rfl, ?_⟩
            rw [eqv_nil4]
            generalize upd H2 u (.lst []) = H3 at a1 a2 a3
            rcases list_end F0 with rfl | ⟨F1, m, rfl⟩
            · refine iteF (iteF (hf _ ⟨a1, a2, a3, ?_⟩))
              unfold ext
              simp
            · have e1 : (F1 ++ [m]).isEmpty = false := by simp
              rw [e1]
              refine iteT ?_
              obtain ⟨qs, r, rfl, k5, k6⟩ := Rows.last a2
              have emap : (qs ++ [r]).map V.ref = qs.map V.ref ++ [.ref r] := by simp
              have a1' := a1
              rw [emap] at a1'
              refine ⟨_, rfl, 1, rfl, p, _, -1, .ref r, rfl, rfl, SqL.of a1', atI_last _ _, r, _, 3, .int m.k, rfl, rfl, .inl (.inl k6), atI_nat (j := 3) rfl, _, rfl, rfl, _, rfl, ?_⟩
              refine ite2 (fun c2 => ?_) (fun c2 => ?_)
              · have hmk : m.k = kd c := by
                  have := V.int.inj (of_decide_eq_true c2)
                  omega
                refine ⟨_, rfl, 1, rfl, p, _, -1, .ref r, rfl, rfl, SqL.of a1', atI_last _ _, 2, rfl, r, _, rfl, .inl (.inl k6), part4 2 2 rfl (by decide), fun v nv => ?_⟩
                have b1 : (upd H3 v (.tup (cutV (e4 m) none (some 2)))) p = some (.lst (qs.map V.ref ++ [.ref r])) := by rw [upd_ne (ne_of_none a1' nv)]; exact a1'
                have b2 : (upd H3 v (.tup (cutV (e4 m) none (some 2)))) r = some (.tup (e4 m)) := by rw [upd_ne (ne_of_none k6 nv)]; exact k6
                have b3 : (upd H3 v (.tup (cutV (e4 m) none (some 2)))) v = some (.tup [.int m.ln, .int m.at_]) := by rw [upd_same]; exact congrArg (fun z => some (HO.tup z)) (cut_12 _ _ _)
                have b4 : Same H3 (upd H3 v (.tup (cutV (e4 m) none (some 2)))) := same_upd nv
                generalize upd H3 v (.tup (cutV (e4 m) none (some 2))) = H4 at b1 b2 b3 b4
                have hms : m.s.length ≤ 100000 := by
                  have := hsl m (by simp)
                  omega
                refine ⟨_, rfl, _, rfl, _, rfl, 1, rfl, p, _, -1, .ref r, rfl, rfl, SqL.of b1, atI_last _ _, r, _, 2, .str (SS m.s), rfl, rfl, .inl (.inl b2), atI_nat (j := 2) rfl, _, rfl, szS hms, _, _, rfl, rfl, (by show 2 ≤ sizeLine; decide), fun z nz => ?_⟩
                have c4 : Same H3 (upd H4 z (.tup [.int n, .int ((a : Int) - ((SS m.s).length : Nat))])) := b4.trans (same_upd nz)
                have c3 : (upd H4 z (.tup [.int n, .int ((a : Int) - ((SS m.s).length : Nat))])) v = some (.tup [.int m.ln, .int m.at_]) := by rw [upd_ne (ne_of_none b3 nz)]; exact b3
                refine ⟨.tuple [.int m.ln, .int m.at_], .tuple [.int n, .int ((a : Int) - ((SS m.s).length : Nat))], .tup (.inl (.inl c3)) (.cons (.int _) (.cons (.int _) .nil)), .tup (.inl (.inl upd_same)) (.cons (.int _) (.cons (.int _) .nil)), shaped2 _ _, shaped2 _ _, _, rfl, ?_⟩
                rw [eqv2, SS_len]
                have f1 := c4 _ _ a1
                have f2 := Rows.keep (fun b xs eb => c4 _ _ eb) a2
                have f3 : ∀ b o, b ≠ p → H b = some o → _ := fun b o nb eb => c4 _ _ (a3 b o nb eb)
                refine ite2 (fun c3 => ?_) (fun c3 => ?_)
                · rw [Bool.and_eq_true, decide_eq_true_eq, decide_eq_true_eq] at c3
                  refine ht _ ⟨f1, f2, f3, ?_⟩
                  rw [ext_snoc]
                  unfold touch
                  rw [decide_eq_true hk0, decide_eq_true hmk, decide_eq_true (show m.ln = n by omega), decide_eq_true (show m.at_ + m.s.length = a by omega)]
                  rfl
                · refine hf _ ⟨f1, f2, f3, ?_⟩
                  rw [ext_snoc]
                  unfold touch
                  by_cases g1 : m.ln = n
                  · have g2 : ¬ m.at_ + m.s.length = a := fun z => c3 (by rw [Bool.and_eq_true, decide_eq_true_eq, decide_eq_true_eq]; omega)
                    rw [decide_eq_false g2]
                    simp
                  · rw [decide_eq_false g1]
                    simp
              · have hmk : ¬ m.k = kd c := fun z => c2 (decide_eq_true (by rw [z]))
                refine iteF (hf _ ⟨a1, a2, a3, ?_⟩)
                rw [ext_snoc]
                unfold touch
                rw [decide_eq_false hmk]
                simp
          · have hk0 : ¬ 0 < kd c := fun z => c1 (decide_eq_true (by omega))
            refine iteF (hf _ ⟨h1, h2, h3, ?_⟩)
            unfold ext
            rw [decide_eq_false hk0]
            simp
    · rintro σ H1 ⟨y4, y5, ps, rfl, h1, h2, h3⟩
      have et : t.take (SS t).cps.size = t := by
        rw [show (SS t).cps.size = t.length by simp]
        exact List.take_length
      rw [et] at h2
      have hFl : (due t).found.length ≤ 90000 := Nat.le_trans (due_len _) hl
      refine ⟨_, rfl, p, rfl, ⟨_, SqL.of h1⟩, fun D nD => ?_⟩
      have npD : p ≠ D := ne_of_none h1 nD
      refine lc_list (K := K) (a := p) (xs := ps.map V.ref) (fun i H' => ∃ qs, H' D = some (.lst (qs.map V.ref)) ∧ Rows H' e3 qs ((due t).found.take i) ∧ H' p = some (.lst (ps.map V.ref)) ∧ Rows H' e4 ps (due t).found ∧ (∀ b o, b ≠ p → H b = some o → H' b = some o))
        ⟨[], upd_same, by rw [List.take_zero]; trivial, by rw [upd_ne npD]; exact h1, Rows.keep (fun b xs eb => by rw [upd_ne (ne_of_none eb nD)]; exact eb) h2, fun b o nb eb => by rw [upd_ne (ne_of_none (h3 b o nb eb) nD)]; exact h3 b o nb eb⟩
        (fun i H' _ ⟨_, _, _, e, _⟩ => SqL.of e) ?_ ?_
      · rintro i x H2 hx ⟨qs, k1, k2, k3, k4, k5⟩
        have hi : i < (due t).found.length := by
          have := (List.getElem?_eq_some_iff.mp hx).1
          rw [List.length_map, Rows.len k4] at this
          exact this
        obtain ⟨u, hu, eu⟩ := Rows.get k4 (List.getElem?_eq_getElem hi)
        have ex : x = .ref u := by
          rw [List.getElem?_map, hu] at hx
          exact (Option.some.inj hx).symm
        subst ex
        refine ⟨rfl, yes ?_⟩
        refine ⟨_, rfl, 3, rfl, u, _, rfl, .inl (.inl eu), part4 3 3 rfl (by decide), fun z nz => ?_⟩
        have nDz : D ≠ z := ne_of_none k1 nz
        have nDp : D ≠ p := Ne.symm npD
        refine ⟨_, (by rw [upd_ne nDz]; exact k1), ?_, qs ++ [z], ?_, ?_, ?_, ?_, ?_⟩
        · rw [List.length_map, Rows.len k2, List.length_take]
          exact Nat.lt_of_le_of_lt (m := 90000) (by omega) (by decide)
        · rw [upd_same, List.map_append]
          rfl
        · rw [List.take_succ_eq_append_getElem hi]
          refine Rows.snoc ?_ (Rows.keep (fun b xs eb => ?_) k2)
          · rw [upd_ne (Ne.symm nDz), upd_same]
            exact congrArg (fun z => some (HO.tup z)) (cut_123 _ _ _ _)
          · have nb : b ≠ D := fun q => by rw [q, k1] at eb; cases eb
            rw [upd_ne nb, upd_ne (ne_of_none eb nz)]
            exact eb
        · rw [upd_ne npD, upd_ne (ne_of_none k3 nz)]; exact k3
        · refine Rows.keep (fun b xs eb => ?_) k4
          have nb : b ≠ D := fun q => by rw [q, k1] at eb; cases eb
          rw [upd_ne nb, upd_ne (ne_of_none eb nz)]
          exact eb
        · intro b o nb eb
          have e5 := k5 b o nb eb
          have nbD : b ≠ D := fun q => by
            have e6 := h3 b o nb eb
            rw [q, nD] at e6
            cases e6
          rw [upd_ne nbD, upd_ne (ne_of_none e5 nz)]
          exact e5
      · rintro H2 ⟨qs, k1, k2, k3, k4, k5⟩
        rw [List.length_map, Rows.len h2, List.take_length] at k2
        exact q D qs H2 (fun b o eb => k5 b o (ne_of_none eb np) eb) k1 k2
end
end K05
namespace K05
open PySem PySem.Spec PyProof.Rows L2
abbrev ST (l : List Nat) : Str := ⟨l.toArray⟩
def reps (l : List Nat) (n : Nat) : List Nat := (List.replicate n l).flatten
theorem fold_cat : ∀ (xs : List (Array Nat)) (acc : Array Nat), xs.foldl (· ++ ·) acc = acc ++ (xs.map Array.toList).flatten.toArray
  | [], acc => by simp
  | x :: r, acc => by
    rw [List.foldl_cons, fold_cat r]
    apply Array.ext'
    simp
theorem reps_eq (l : List Nat) (n : Nat) : (⟨(List.replicate n l.toArray).foldl (· ++ ·) #[]⟩ : Str) = ST (reps l n) := by
  unfold ST reps
  rw [fold_cat]
  congr 1
  apply Array.ext'
  simp
theorem reps_len (l : List Nat) (n : Nat) : (reps l n).length = n * l.length := by
  unfold reps
  simp
theorem reps_mem {l : List Nat} {n c : Nat} (h : c ∈ reps l n) : c ∈ l := by
  unfold reps at h
  obtain ⟨x, hx, hc⟩ := List.mem_flatten.mp h
  rw [List.eq_of_mem_replicate hx] at hc
  exact hc
/-- a text some times -/
theorem op_times {X : Cx} : OpR X (binaryOp .Mult) (fun x y H Q => ∃ (l : List Nat) (n : Nat), x = .str (ST l) ∧ y = .int n ∧ 0 < n ∧ 0 < l.length ∧ n * l.length ≤ 100000 ∧ Q (.str (ST (reps l n))) H) := by
  intro pins s σ H x y v u Q I rx ry h
  obtain ⟨l, n, rfl, rfl, n0, l0, hz, q⟩ := h
  obtain ⟨t, rfl⟩ := rx
  obtain ⟨t', rfl⟩ := ry
  have hlen : (ST l).length = l.length := by simp [ST, Str.length]
  have hnb : n ≤ 100000 := Nat.le_trans (Nat.le_mul_of_pos_right n l0) hz
  have hlb : l.length ≤ 100000 := Nat.le_trans (Nat.le_mul_of_pos_left l.length n0) hz
  have hn1 : ¬ ((n : Int) < 1) := by omega
  refine PySem.P.mul_str (x := ST l) (n := (n : Int)) ?_ (fun _ _ => ?_) (fun _ _ => ?_) ?_
  · have h1 : ¬ ((n : Int) < -(2 ^ 63 : Int)) := by omega
    have h2 : ¬ ((n : Int) ≥ 2 ^ 63) := by omega
    rw [decide_eq_false h1, decide_eq_false h2]
    rfl
  · rw [hlen]
    have hq : (100000 : Int) ≤ (2 ^ 63 - 1) / (n : Int) := by
      rw [Int.le_ediv_iff_mul_le (by omega)]
      omega
    omega
  · rw [hlen, Int.toNat_natCast]
    have h1 : l.length * n ≤ 100000 := by rw [Nat.mul_comm]; exact hz
    have h2 : ¬ l.length * n > sizeLine := Nat.not_lt.mpr (Nat.le_trans h1 (by decide))
    exact decide_eq_false h2
  · rw [if_neg hn1]
    by_cases h1 : n = 1
    · subst h1
      have e : ((((1 : Nat) : Int) == 1) || ((ST l).length == 0)) = true := by simp
      rw [if_pos e]
      have er : reps l 1 = l := by unfold reps; simp
      rw [er] at q
      exact ⟨.str (ST l), H, I, ⟨t, rfl⟩, q⟩
    · have e : (((n : Int) == 1) || ((ST l).length == 0)) = false := by
        rw [hlen, Bool.or_eq_false_iff]
        refine ⟨?_, ?_⟩
        · rw [beq_eq_false_iff_ne]; omega
        · rw [beq_eq_false_iff_ne]; omega
      rw [e]
      rw [if_neg (by decide), Int.toNat_natCast, reps_eq]
      refine ⟨?_, .str _, H, I.tok _, ⟨_, rfl⟩, q⟩
      have h3 : (ST (reps l n)).length = n * l.length := by rw [← reps_len]; simp [ST, Str.length]
      rw [h3]
      exact Nat.le_trans hz (by decide)
def spPiece : Sp := fun vs H Q _ => ∃ (h l : Addr), vs = [.ref h] ∧ Src H h l ∧ ∀ (t : List Nat) (H' : Hp), t.length ≤ 30 → (∀ c ∈ t, c < 128) → Src H' h l → Bar h l H H' → Q (.str (ST t)) H'
theorem scPiece : FnScope ["heap", "kind", "some", "turn"] ["heap"] (defScope sPiece) := ⟨rfl, rfl, rfl, by decide +kernel, rfl, by decide +kernel, by decide +kernel⟩
theorem Src.new {H : Hp} {h l u : Addr} (s : Src H h l) (n : H u = none) : u ≠ h ∧ u ≠ l := by
  obtain ⟨cs, z, a, b, _⟩ := s.ex
  exact ⟨(ne_of_none a n).symm, (ne_of_none b n).symm⟩
theorem joinL_nil : ∀ cs : List Nat, TL.joinL [] (cs.map fun c => [c]) = cs
  | [] => rfl
  | [_] => rfl
  | c :: d :: r => by
    show [c] ++ ([] ++ TL.joinL [] ((d :: r).map fun c => [c])) = _
    rw [joinL_nil (d :: r)]
    rfl
theorem join_signs (cs : List Nat) : Txt.join (ST []) (cs.map fun c => ST [c]) = ST cs := by
  have e := SX.join_S [] (cs.map fun c => [c])
  rw [List.map_map] at e
  rw [joinL_nil] at e
  exact e
theorem lens_signs (cs : List Nat) : ((cs.map fun c => ST [c]).map (·.length)).sum = cs.length := by
  induction cs with
  | nil => rfl
  | cons c r ih =>
    rw [List.map_cons, List.map_cons, List.sum_cons, ih]
    show 1 + r.length = r.length + 1
    omega
section
variable {P : Program} {w : World} {K : PySem.W.Frag} {mg : Str → Option Value} {base : Heap}
theorem ok_piece {f g p : Addr} {fd gd pd : FuncData} {k : Nat} (F : Fun K "_law_piece" "_law_piece" sPiece f fd) (G : FnOk P w K mg base CX0 k g gd ["heap", "many"] spDraw) (bG : Binds K gd ["heap", "many"] []) (kG : PySem.W.keepIn K (.ref g) = true) (mG : mg "_law_draw" = some (.ref g))
    (R : FnOk P w K mg base CX0 k p pd ["heap", "some"] spPick) (bR : Binds K pd ["heap", "some"] []) (kR : PySem.W.keepIn K (.ref p) = true) (mR : mg "_law_pick" = some (.ref p)) (mr : mg "range" = none) : FnOk P w K mg base CX0 (k + 1) f fd ["heap"] spPiece := by
  refine F.ok scPiece (fun vs H Q E h => ?_) (fun cdv A outer s H vs Q E hr h => ?_)
  · obtain ⟨h, l, rfl, _⟩ := h
    rfl
  · obtain ⟨h, l, rfl, src, q⟩ := h
    refine ⟨_, pss_cons (ps_set (i := 1) scPiece.nd rfl (.inl rfl) (pe_call G hr rfl mG kG bG .nil pass0 (pa_cons (pv 0) (pa_cons pe_int pa_nil))))
      (pss_cons (ps_if (pt_cmpR op_lt (pv 1) pe_int (nomark _))
        (pss_one (ps_ret (pe_join pe_str (pe_lc (own := [("turn", 3)]) (g := gName 3) (tt := tYes) rfl scPiece.nd (pi_range1 rfl mr (pa_cons (pe_op op_add pe_int (pe_call G hr rfl mG kG bG .nil pass0 (pa_cons (pv 0) (pa_cons (pe_call R hr rfl mR kR bR .nil pass0 (pa_cons (pv 0) (pa_cons (pe_lst (pa_cons pe_int (pa_cons pe_int (pa_cons pe_int pa_nil)))) pa_nil))) pa_nil)))) pa_nil))
          (blkOk_by (own := [("turn", 3)]) (N := ["heap", "kind", "some", "turn"]) (sc := defScope sPiece) (by decide +kernel)) (fun _ _ _ _ _ => pg_name (i := 3) scPiece.nd rfl (Or.inl rfl)) (fun _ _ _ _ _ => pts_nil)
          (fun _ _ _ _ _ => pe_ix ix_str pe_str (pe_call G hr rfl mG kG bG .nil pass0 (pa_cons (pv 0) (pa_cons pe_int pa_nil))) (fun _ _ => rfl)))))) pss_nil)
      (pss_cons (ps_if (pt_cmpR op_lt (pv 1) pe_int (nomark _))
        (pss_one (ps_ret (pe_join pe_str (pe_lc (own := [("turn", 3)]) (g := gName 3) (tt := tYes) rfl scPiece.nd (pi_range1 rfl mr (pa_cons (pe_op op_add pe_int (pe_call G hr rfl mG kG bG .nil pass0 (pa_cons (pv 0) (pa_cons (pe_call R hr rfl mR kR bR .nil pass0 (pa_cons (pv 0) (pa_cons (pe_lst (pa_cons pe_int (pa_cons pe_int (pa_cons pe_int pa_nil)))) pa_nil))) pa_nil)))) pa_nil))
          (blkOk_by (own := [("turn", 3)]) (N := ["heap", "kind", "some", "turn"]) (sc := defScope sPiece) (by decide +kernel)) (fun _ _ _ _ _ => pg_name (i := 3) scPiece.nd rfl (Or.inl rfl)) (fun _ _ _ _ _ => pts_nil)
          (fun _ _ _ _ _ => pe_ix ix_str pe_str (pe_call G hr rfl mG kG bG .nil pass0 (pa_cons (pv 0) (pa_cons pe_int pa_nil))) (fun _ _ => rfl)))))) pss_nil)
      (pss_cons (ps_if (pt_cmpR op_eq (pv 1) pe_int (nomark _))
        (pss_one (ps_ret (pe_op op_times pe_str (pe_op op_add pe_int (pe_call G hr rfl mG kG bG .nil pass0 (pa_cons (pv 0) (pa_cons pe_int pa_nil))))))) pss_nil)
      (pss_cons (ps_set (i := 2) scPiece.nd rfl (.inl rfl) (pe_lst (pa_cons pe_str (pa_cons pe_str (pa_cons pe_str (pa_cons pe_str (pa_cons pe_str (pa_cons pe_str (pa_cons pe_str (pa_cons pe_str (pa_cons pe_str (pa_cons pe_str (pa_cons pe_str (pa_cons pe_str (pa_cons pe_str (pa_cons pe_str (pa_cons pe_str (pa_cons pe_str (pa_cons pe_str (pa_cons pe_str (pa_cons pe_str (pa_cons pe_str (pa_cons pe_str (pa_cons pe_str pa_nil))))))))))))))))))))))))
      (pss_one (ps_ret (pe_call R hr rfl mR kR bR .nil pass0 (pa_cons (pv 0) (pa_cons (pe_op op_cat (pv 2) (pe_lst (pa_cons pe_str (pa_cons pe_str (pa_cons pe_str pa_nil))))) pa_nil))))))))), ?_⟩
    refine ⟨_, rfl, h, l, _, rfl, src, by decide, by decide, fun i H1 i0 i1 src1 bar1 => ?_⟩
    refine ⟨_, rfl, _, _, rfl, rfl, _, rfl, ?_⟩
    refine ite2 (fun c1 => ?_) (fun c1 => ?_)
    · --
      refine ⟨⟨_, rfl⟩, _, rfl, _, rfl, (by show 3 ≤ sizeLine; decide), fun u nu => ?_⟩
      obtain ⟨nuh, nul⟩ := Src.new src1 nu
      refine ⟨h, l, u, _, rfl, src1.same (same_upd nu), upd_same, nuh, nul, by simp, by simp, fun j v H2 hv src2 bar2 => ?_⟩
      obtain ⟨m, rfl, m0, m1⟩ : ∃ m : Int, v = .int m ∧ 0 < m ∧ m ≤ 30 := by
        match j, hv with
        | 0, hv => exact ⟨3, (Option.some.inj hv).symm, by decide, by decide⟩
        | 1, hv => exact ⟨7, (Option.some.inj hv).symm, by decide, by decide⟩
        | 2, hv => exact ⟨30, (Option.some.inj hv).symm, by decide, by decide⟩
      refine ⟨h, l, m, rfl, src2, m0, by omega, fun x H3 x0 x1 src3 bar3 => ?_⟩
      have bar13 : Bar h l H H3 := (bar1.trans (Bar.same (same_upd nu))).trans (bar2.trans bar3)
      refine ⟨_, _, rfl, rfl, _, rfl, by omega, by omega, fun D nD => ?_⟩
      obtain ⟨nDh, nDl⟩ := Src.new src3 nD
      refine lc_range (lo := 0) (n := (1 + x).toNat) (fun i H' => ∃ cs : List Nat, H' D = some (.lst ((cs.map fun c => ST [c]).map V.str)) ∧ cs.length = i ∧ (∀ c ∈ cs, c < 128) ∧ Src H' h l ∧ (∀ b o, b ≠ h → b ≠ l → b ≠ D → H b = some o → H' b = some o))
        ⟨[], upd_same, rfl, by simp, src3.same (same_upd nD), fun b o n1 n2 n3 eb => by rw [upd_ne n3]; exact bar13 b o n1 n2 eb⟩ ?_ ?_
      · rintro i' H4 hi ⟨cs, k1, k2, k3, k4, k5⟩
        refine ⟨rfl, yes ?_⟩
        refine ⟨_, rfl, h, l, 10, rfl, k4, by decide, by decide, fun y H5 y0 y1 src5 bar5 => ?_⟩
        obtain ⟨j', rfl⟩ : ∃ j' : Nat, y = (j' : Int) := ⟨y.toNat, by omega⟩
        have hj : j' < ([97, 98, 99, 120, 121, 122, 110, 111, 114, 117] : List Nat).length := by show j' < 10; omega
        have hc : ([97, 98, 99, 120, 121, 122, 110, 111, 114, 117] : List Nat)[j'] < 128 := (by decide : ∀ c ∈ ([97, 98, 99, 120, 121, 122, 110, 111, 114, 117] : List Nat), c < 128) _ (List.getElem_mem hj)
        refine ⟨_, _, ([97, 98, 99, 120, 121, 122, 110, 111, 114, 117] : List Nat)[j'], rfl, rfl, (by decide), atI_nat (List.getElem?_eq_getElem hj), _, bar5 _ _ nDh nDl k1, ?_, cs ++ [([97, 98, 99, 120, 121, 122, 110, 111, 114, 117] : List Nat)[j']], ?_, ?_, ?_, ?_, ?_⟩
        · rw [List.length_map, List.length_map, k2]
          exact Nat.lt_of_le_of_lt (m := 100) (by omega) (by decide)
        · rw [upd_same]
          simp
        · rw [List.length_append, k2]
          rfl
        · intro c hc'
          rcases List.mem_append.mp hc' with hc' | hc'
          · exact k3 c hc'
          · rw [List.mem_singleton.mp hc']
            exact hc
        · obtain ⟨cs2, z2, a2, b2, r2⟩ := src5.ex
          exact ⟨cs2, z2, by rw [upd_ne (Ne.symm nDh)]; exact a2, by rw [upd_ne (Ne.symm nDl)]; exact b2, r2⟩
        · intro b o n1 n2 n3 eb
          rw [upd_ne n3]
          exact bar5 _ _ n1 n2 (k5 b o n1 n2 n3 eb)
      · rintro H4 ⟨cs, k1, k2, k3, k4, k5⟩
        refine ⟨_, D, cs.map (fun c => ST [c]), rfl, rfl, .inl (SqL.of k1), ?_, ?_⟩
        · rw [lens_signs, List.length_map]
          show cs.length + cs.length * 0 ≤ 16777216
          omega
        · have e : Txt.join ("" : Str) (cs.map fun c => ST [c]) = ST cs := join_signs cs
          rw [e]
          exact q cs H4 (by omega) k3 k4 fun b o n1 n2 eb => k5 b o n1 n2 (fun z => by
            have := bar13 b o n1 n2 eb
            rw [z, nD] at this
            cases this) eb
    · refine ⟨_, rfl, _, _, rfl, rfl, _, rfl, ?_⟩
      refine ite2 (fun c2 => ?_) (fun c2 => ?_)
      · --
        refine ⟨⟨_, rfl⟩, _, rfl, _, rfl, (by show 3 ≤ sizeLine; decide), fun u nu => ?_⟩
        obtain ⟨nuh, nul⟩ := Src.new src1 nu
        refine ⟨h, l, u, _, rfl, src1.same (same_upd nu), upd_same, nuh, nul, by simp, by simp, fun j v H2 hv src2 bar2 => ?_⟩
        obtain ⟨m, rfl, m0, m1⟩ : ∃ m : Int, v = .int m ∧ 0 < m ∧ m ≤ 30 := by
          match j, hv with
          | 0, hv => exact ⟨2, (Option.some.inj hv).symm, by decide, by decide⟩
          | 1, hv => exact ⟨4, (Option.some.inj hv).symm, by decide, by decide⟩
          | 2, hv => exact ⟨6, (Option.some.inj hv).symm, by decide, by decide⟩
        refine ⟨h, l, m, rfl, src2, m0, by omega, fun x H3 x0 x1 src3 bar3 => ?_⟩
        have bar13 : Bar h l H H3 := (bar1.trans (Bar.same (same_upd nu))).trans (bar2.trans bar3)
        refine ⟨_, _, rfl, rfl, _, rfl, by omega, by omega, fun D nD => ?_⟩
        obtain ⟨nDh, nDl⟩ := Src.new src3 nD
        refine lc_range (lo := 0) (n := (1 + x).toNat) (fun i H' => ∃ cs : List Nat, H' D = some (.lst ((cs.map fun c => ST [c]).map V.str)) ∧ cs.length = i ∧ (∀ c ∈ cs, c < 128) ∧ Src H' h l ∧ (∀ b o, b ≠ h → b ≠ l → b ≠ D → H b = some o → H' b = some o))
          ⟨[], upd_same, rfl, by simp, src3.same (same_upd nD), fun b o n1 n2 n3 eb => by rw [upd_ne n3]; exact bar13 b o n1 n2 eb⟩ ?_ ?_
        · rintro i' H4 hi ⟨cs, k1, k2, k3, k4, k5⟩
          refine ⟨rfl, yes ?_⟩
          refine ⟨_, rfl, h, l, 10, rfl, k4, by decide, by decide, fun y H5 y0 y1 src5 bar5 => ?_⟩
          obtain ⟨j', rfl⟩ : ∃ j' : Nat, y = (j' : Int) := ⟨y.toNat, by omega⟩
          have hj : j' < ([48, 49, 50, 51, 52, 53, 54, 55, 56, 57] : List Nat).length := by show j' < 10; omega
          have hc : ([48, 49, 50, 51, 52, 53, 54, 55, 56, 57] : List Nat)[j'] < 128 := (by decide : ∀ c ∈ ([48, 49, 50, 51, 52, 53, 54, 55, 56, 57] : List Nat), c < 128) _ (List.getElem_mem hj)
          refine ⟨_, _, ([48, 49, 50, 51, 52, 53, 54, 55, 56, 57] : List Nat)[j'], rfl, rfl, (by decide), atI_nat (List.getElem?_eq_getElem hj), _, bar5 _ _ nDh nDl k1, ?_, cs ++ [([48, 49, 50, 51, 52, 53, 54, 55, 56, 57] : List Nat)[j']], ?_, ?_, ?_, ?_, ?_⟩
          · rw [List.length_map, List.length_map, k2]
            exact Nat.lt_of_le_of_lt (m := 100) (by omega) (by decide)
          · rw [upd_same]
            simp
          · rw [List.length_append, k2]
            rfl
          · intro c hc'
            rcases List.mem_append.mp hc' with hc' | hc'
            · exact k3 c hc'
            · rw [List.mem_singleton.mp hc']
              exact hc
          · obtain ⟨cs2, z2, a2, b2, r2⟩ := src5.ex
            exact ⟨cs2, z2, by rw [upd_ne (Ne.symm nDh)]; exact a2, by rw [upd_ne (Ne.symm nDl)]; exact b2, r2⟩
          · intro b o n1 n2 n3 eb
            rw [upd_ne n3]
            exact bar5 _ _ n1 n2 (k5 b o n1 n2 n3 eb)
        · rintro H4 ⟨cs, k1, k2, k3, k4, k5⟩
          refine ⟨_, D, cs.map (fun c => ST [c]), rfl, rfl, .inl (SqL.of k1), ?_, ?_⟩
          · rw [lens_signs, List.length_map]
            show cs.length + cs.length * 0 ≤ 16777216
            omega
          · have e : Txt.join ("" : Str) (cs.map fun c => ST [c]) = ST cs := join_signs cs
            rw [e]
            exact q cs H4 (by omega) k3 k4 fun b o n1 n2 eb => k5 b o n1 n2 (fun z => by
              have := bar13 b o n1 n2 eb
              rw [z, nD] at this
              cases this) eb
      · refine ⟨_, rfl, rfl, _, rfl, ?_⟩
        refine ite2 (fun c3 => ?_) (fun c3 => ?_)
        · refine ⟨_, rfl, h, l, 3, rfl, src1, by decide, by decide, fun x H2 x0 x1 src2 bar2 => ?_⟩
          obtain ⟨j, rfl⟩ : ∃ j : Nat, x = (j : Int) := ⟨x.toNat, by omega⟩
          refine ⟨_, _, rfl, rfl, [32], 1 + j, rfl, (by rw [Int.natCast_add]; rfl), by omega, by decide, (by simp; omega), ?_⟩
          refine q _ H2 ?_ ?_ src2 (bar1.trans bar2)
          · rw [reps_len]
            simp
            omega
          · intro c hc
            rw [List.mem_singleton.mp (reps_mem hc)]
            decide
        · refine ⟨(by show 22 ≤ sizeLine; decide), fun u nu => ?_⟩
          refine ⟨_, rfl, _, rfl, (by show 3 ≤ sizeLine; decide), fun v nv => ⟨u, v, _, _, rfl, rfl, Eq.trans (upd_ne (ne_of_none upd_same nv)) upd_same, upd_same, by decide, fun z nz => ?_⟩⟩
          · have n0 : H1 z = none := Same.free ((same_upd nu).trans (same_upd nv)) nz
            obtain ⟨nzh, nzl⟩ := Src.new src1 n0
            refine ⟨h, l, z, _, rfl, src1.same (((same_upd nu).trans (same_upd nv)).trans (same_upd nz)), upd_same, nzh, nzl, by simp, by simp, fun j v' H' hv src2 bar2 => ?_⟩
            have hv2 : (([10, 58, 44, 59, 47, 33, 38, 124, 40, 41, 65, 90, 45, 126, 95, 64, 123, 91, 63, 10, 46, 36, 92, 35, 42] : List Nat).map fun c => V.str (ST [c]))[j]? = some v' := hv
            rw [List.getElem?_map] at hv2
            cases e : ([10, 58, 44, 59, 47, 33, 38, 124, 40, 41, 65, 90, 45, 126, 95, 64, 123, 91, 63, 10, 46, 36, 92, 35, 42] : List Nat)[j]? with
            | none => rw [e] at hv2; cases hv2
            | some c =>
              rw [e] at hv2
              have ev : v' = V.str (ST [c]) := (Option.some.inj hv2).symm
              subst ev
              refine q [c] H' (by simp) (fun x hx => ?_) src2 (bar1.trans ((Bar.same (((same_upd nu).trans (same_upd nv)).trans (same_upd nz))).trans bar2))
              rw [List.mem_singleton.mp hx]
              exact (by decide : ∀ c ∈ ([10, 58, 44, 59, 47, 33, 38, 124, 40, 41, 65, 90, 45, 126, 95, 64, 123, 91, 63, 10, 46, 36, 92, 35, 42] : List Nat), c < 128) _ (List.mem_of_getElem? e)
end
end K05
namespace K05
open PySem PySem.Spec PyProof.Rows L2
/-! ### defs that ask repr of data: their promise, where no repr is under way -/
def RunG (P : Program) (w : World) (K : PySem.W.Frag) (mg : Str → Option Value) (base : Heap) (k : Nat) (f : Addr) (fd : FuncData) (ps : List Str) (sp : Sp) : Prop :=
  ∀ (A : Around) (outer : List Env) (s : Shared) (H : Hp) (args : Args) (us : List Value) (vs : List V) (Q : VK) (E : XK), A.guards = some [] → Room k A → Env0 P w K mg base A outer s H →
    BindsTo s fd args (ps.zip us) → Vals vs us → sp vs H Q E → codeAny (model P w) A (.call (.ref f) args) (CR CX0 outer P w H s Q E) s
theorem call_repr {X : Cx} (hg : X.A.guards = some []) (hu : X.A.units + 64 < cLine) :
    CallR X (.builtin "repr") (fun xs H Q => ∃ a d, xs = [.ref a] ∧ Dp X.K H (.ref a) d ∧ d.showable = true ∧ d.hasDict = false ∧ d.depth ≤ 60 ∧ d.shown.length ≤ sizeLine ∧ Q (.str d.shown) H) := by
  intro pins s σ H xs us Q I r h
  obtain ⟨a, d, rfl, hd, hs, hn, hz, hl, q⟩ := h
  obtain ⟨u, rfl, ru⟩ := vals1 r
  obtain ⟨as, rd⟩ := Dp.reads I d _ _ hd ru
  cases ru
  exact repr_of_reads' rd hs (PyData.noDict_hsm hn) hg (by omega) (fun _ _ e => e) (fun h' t tk keep => ⟨.str d.shown, H, I.kept keep, ⟨t, rfl⟩, q⟩) hl
section
variable {P : Program} {w : World} {K : PySem.W.Frag} {mg : Str → Option Value} {base : Heap}
theorem okG {x qual : Str} {st : Stmt} {f : Addr} {fd : FuncData} {N ps : List Str} {k : Nat} {sp : Sp} (F : Fun K x qual st f fd) (S : FnScope N ps (defScope st)) (len : ∀ vs H Q E, sp vs H Q E → vs.length = ps.length)
    (body : ∀ (cdv : Value) (A : Around) (outer : List Env) (s : Shared) (H : Hp) (vs : List V) (Q : VK) (E : XK), A.guards = some [] → Room k (A.deeper (envOfC qual (defScope st) s.heap.objs.size f cdv)) → sp vs H Q E →
      ∃ t, PSs (cxOf CX0 P w K mg base N qual (defScope st) f cdv A outer s H E).nox (defBody st) t ∧ t { nx := fun _ H' => Q .non H', rt := Q } (start N vs) H) : RunG P w K mg base (k + 1) f fd ps sp := by
  obtain ⟨oc, od, kV, doc, pm, an, cdv, ct, osl, rfl, lk, hcd⟩ := F.ex
  intro A outer s H args us vs Q E hA room e0 bind rel promise
  have KX := e0.mod.kin.keeps (h' := s.heap) fun b o e => (e0.bs b o e).1
  have lim := e0.mod.nolimit.keeps (h' := s.heap) fun b o e => (e0.bs b o e).1
  have kinds : ∀ y ∈ ps.zip us, (defScope st).names.lookup y.1 = some .local ∨ ((defScope st).names.lookup y.1 = some .cell ∧ ((cellsFrom (s.heap.objs.size + 1) (defScope st).names []).lookup y.1).isSome = true) := by
    intro y hy
    cases S.par y.1 (List.of_mem_zip (show (y.1, y.2) ∈ ps.zip us from hy)).1 with
    | inl q => exact .inl q
    | inr q => exact .inr ⟨q, PySem.W.cellsFrom_some _ _ _ (.inl q)⟩
  apply codeAny_call_function room.depth (KX _ _ lk) rfl S.co S.gen rfl (PySem.W.codeRec_of KX hcd) (bind _ _ _ _ _)
  apply wpAny_newFunctionEnv_cells S.kind kinds
  intro env he s1 x
  subst he
  obtain ⟨t, ht, hq⟩ := body cdv A outer s H vs Q E hA (room.deeper _) promise
  have I := inv_start (CX := CX0) (E := E) S room.hd e0 (len _ _ _ _ promise) rel x
  refine ⟨lim.keeps x.toInCall.keep, codeAny_func (wpAny_mono (ht.nox.run [] s1 (start N vs) H _ I hq) ?_ (fun _ _ z => z))⟩
  intro fl s' z
  cases fl with
  | ret u => exact let ⟨v, _, H', J, rv, q⟩ := z; ⟨v, H', J.os, J.bare, J.base, J.hok, rv, q⟩
  | next => exact let ⟨_, H', J, q⟩ := z; ⟨V.non, H', J.os, J.bare, J.base, J.hok, rfl, q⟩
  | brk => exact let ⟨_, _, _, q⟩ := z; q.elim
  | cont => exact let ⟨_, _, _, q⟩ := z; q.elim
end
end K05
namespace K05
open PySem PySem.Spec PyProof.Rows L2
section
variable {P : Program} {w : World} {K : PySem.W.Frag} {mg mb : Str → Option Value} {s₁ : Shared} {a : Addr} {vs : List Value} {H : Hp}
/-- the call of the law: nothing is tracked but the script at a -/
theorem env_law (KX : K.In s₁.heap) (hns : s₁.heap.Ns mainGlobals mg) (hb : s₁.heap.Ns builtinsNs mb) (hbb : ∀ x : Str, x ≠ "__name__" → mb x = bootBuiltins x) (hlim : s₁.heap.NoLimit) (hg : s₁.gens = #[])
    (ha : s₁.heap.get? a = some { cls := .type "list", data := .seq vs.toArray }) (hok : HOk P w H s₁.heap) (one : ∀ b u, H b = some u → b = a) (apart : ∀ u, H a = some u → K.lookup a = none) :
    K.In (hidT s₁.heap H) ∧ (hidT s₁.heap H).Ns mainGlobals mg ∧ Env0 P w K mg (hidT s₁.heap H) callerA [] s₁ H := by
  have free : ∀ b, b ≠ a → H b = none := by
    intro b n
    cases e : H b with
    | none => rfl
    | some u => exact (n (one b u e)).elim
  have low : ∀ {b : Addr} {o : Obj}, s₁.heap.get? b = some o → b ≠ a → (hidT s₁.heap H).get? b = some o := fun e n => hidT_get e (free _ n)
  have ns : ∀ {b : Addr} {m : Str → Option Value}, s₁.heap.Ns b m → (hidT s₁.heap H).Ns b m := by
    rintro b m ⟨o, es, ep, e, d, r⟩
    refine ⟨o, es, ep, low e ?_, d, r⟩
    intro z
    rw [z, ha] at e
    cases e
    cases d
  have kin : K.In (hidT s₁.heap H) := by
    intro b o e
    by_cases n : b = a
    · subst n
      cases q : H b with
      | none => exact hidT_get (KX _ _ e) q
      | some u =>
        have z := apart u q
        rw [z] at e
        cases e
    · exact low (KX _ _ e) n
  obtain ⟨mc, l1, l2⟩ := hlim
  exact ⟨kin, ns hns, ⟨rfl, ⟨kin, ns hns, ⟨mb, ns hb, hbb⟩, ⟨mc, ns l1, l2⟩⟩, fun b o e => of_hidT e, Nat.le_of_eq (hidT_size _ _), trivial, (fun b z => nomatch z), hok, .of_eq hg⟩⟩
theorem run_law {k : Nat} {fa : Addr} {fd : FuncData} {x : Str} {sp : Sp} (env : Env0 P w K mg (hidT s₁.heap H) callerA [] s₁ H) (F : RunG P w K mg (hidT s₁.heap H) k fa fd [x] sp) (hr : Room k callerA)
    (hbind : ∀ (s : Shared) (u : Value), BindsTo s fd ⟨[u], []⟩ [(x, u)]) (hO : Only H) (hok : HOk P w H s₁.heap) (hsp : sp [.ref a] H (fun v _ => v = .bl true) fun _ _ _ => False) :
    codeAny (model P w) callerA (.call (.ref fa) ⟨[.ref a], []⟩) (fun r s' => r = .ok (.ret (.bool true)) ∧ OldK s₁.heap s'.heap ∧ s'.os = s₁.os ∧ AllBare s'.gens) s₁ := by
  have run := F callerA [] s₁ H ⟨[.ref a], []⟩ [.ref a] [.ref a] _ _ rfl hr env (hbind s₁ (.ref a)) (.cons rfl .nil) hsp
  refine codeAny_mono run ?_
  intro r s' h
  match r, h with
  | .ok (.ret u), h =>
    obtain ⟨v, H', os, bare, un, hok', r', q⟩ := h
    have q2 : v = V.bl true := q
    subst q2
    obtain rfl : u = Value.bool true := r'
    refine ⟨rfl, OldK.of_keep ?_, os, bare⟩
    intro b o e
    cases q : H b with
    | none => exact un.keep b o e q (fun z => nomatch z) (fun z => nomatch z)
    | some u =>
      rcases hO b with z | ⟨ob, xs, z⟩
      · rw [q] at z
        cases z
      · have e1 := (hok b _ z).1
        have e2 := (hok' b _ (un.frzs b ob _ z)).1
        rw [e] at e1
        cases e1
        exact e2
end
/-- the goal behind k_head, from such a promise of the law -/
theorem walkG {l : PySem.W.OpenLaw} {n k : Nat} {q : Program} {loose : List Str} {XP : (Str → Option Value) → Heap → Prop} {YP : World → Heap → Prop} {d : DefRec} {K : Params → PySem.W.Frag} {sp : PySem.W.Frag → Sp} {x : Str}
    (hn : l.most = some n) (hn2 : n ≤ sizeLine) (hdf : d.params.defaults = []) (hr : Room k callerA) (hY : ∀ (w : World) (h : Heap), YP w h → (K w.params).In h)
    (F : ∀ (w : World) (mg : Str → Option Value) (fa : Addr) (h : Heap), (K w.params).In h → h.Ns mainGlobals mg → mg d.name = some (.ref fa) →
      ∃ fd : FuncData, (∀ (s : Shared) (u : Value), BindsTo s fd ⟨[u], []⟩ [(x, u)]) ∧ ∀ base : Heap, (K w.params).In base → base.Ns mainGlobals mg → RunG l.prog w (K w.params) mg base k fa fd [x] (sp (K w.params)))
    (hsp : ∀ (K : PySem.W.Frag) (H : Hp) (a : Addr) (ns : List Int), ns.length ≤ n → SqL K H a (ns.map V.int) → sp K [.ref a] H (fun v _ => v = .bl true) fun _ _ _ => False) :
    PySem.W.WalkO q loose XP YP l.row.toRowW d [] (fun f vs => PySem.call f vs) := by
  apply Att.attach_call hn hdf
  intro w s₀ s₁ mg mb fa o pm cd doc a vs ns G Y ho hd hcd hmg hobj hints hlen hg
  have KX := hY w _ Y
  obtain ⟨fd, hb, hF⟩ := F w mg fa _ KX G.T.g hmg
  have rel := vals_ints hints
  have hz : (ns.map V.int).length ≤ sizeLine := by rw [List.length_map]; exact Nat.le_trans hlen hn2
  cases hk : (K w.params).lookup a with
  | some o' =>
    have e := KX a o' hk
    rw [hobj] at e
    cases e
    have ok0 : HOk l.prog w (fun _ => none) s₁.heap := fun b u z => nomatch z
    obtain ⟨k1, k2, k3⟩ := env_law (P := l.prog) (w := w) (H := fun _ => none) KX G.T.g G.T.b G.T.builtins G.T.nolimit hg hobj ok0 (fun b u z => nomatch z) (fun u z => nomatch z)
    refine run_law k3 (hF _ k1 k2) hr hb (fun b => .inl rfl) ok0 (hsp _ _ a ns hlen ?_)
    exact .inr ⟨_, vs.toArray, _, hk, rfl, rfl, rfl, by rw [List.size_toArray, ← rel.length]; exact hz, by simpa using rel⟩
  | none =>
    have at_ : (upd (fun _ => none) a (.frz { cls := .type "list", data := .seq vs.toArray } (.lst (ns.map V.int)))) a = some (.frz { cls := .type "list", data := .seq vs.toArray } (.lst (ns.map V.int))) := upd_same
    have off : ∀ b, b ≠ a → (upd (fun _ => none) a (.frz { cls := .type "list", data := .seq vs.toArray } (.lst (ns.map V.int)))) b = none := fun b n => upd_ne n
    generalize upd (fun _ => none) a (.frz { cls := .type "list", data := .seq vs.toArray } (.lst (ns.map V.int))) = H at at_ off
    have only : Only H := by
      intro b
      by_cases n : b = a
      · exact .inr ⟨_, _, by rw [n]; exact at_⟩
      · exact .inl (off b n)
    have ok1 : HOk l.prog w H s₁.heap := by
      intro b u z
      by_cases n : b = a
      · rw [n, at_] at z
        cases z
        rw [n]
        exact ⟨hobj, hz, vs, _, rel, hobj⟩
      · rw [off b n] at z
        cases z
    have one : ∀ b u, H b = some u → b = a := by
      intro b u z
      by_cases n : b = a
      · exact n
      · rw [off b n] at z
        cases z
    obtain ⟨k1, k2, k3⟩ := env_law (P := l.prog) (w := w) (H := H) KX G.T.g G.T.b G.T.builtins G.T.nolimit hg hobj ok1 one (fun u z => hk)
    exact run_law k3 (hF _ k1 k2) hr hb only ok1 (hsp _ _ a ns hlen (.inl (.inr ⟨_, at_⟩)))
end K05
namespace K05
open PySem PySem.Spec PyProof.Rows L2
/-! ### a def called with all its arguments by keywords -/
section
variable {X : Cx} {CX : CXT} {k : Nat} {f : Addr} {fd : FuncData} {ps ks : List Str} {sp : Sp} {E : XK} {x : Str} {p pos : Pos} {kws : List Keyword} {tk : TA} {g : List Value → List Value → List Value} {gV : List V → List V → List V}
theorem pe_named (F : FnOk X.prog X.w X.K X.mg X.base CX k f fd ps sp) (hr : Room k X.A) (hg : Gl X x) (hm : X.mg x = some (.ref f)) (kp : PySem.W.keepIn X.K (.ref f) = true) (b : KBinds X.K fd ps ks g gV) (hx : Passes CX X E) (hkw : PK X kws tk)
    (h1 : (backToKw pos (keywordEach kws X.env)).all (·.1.isSome) = true := by rfl) (h2 : (backToKw pos (keywordEach kws X.env)).filterMap (·.1) = ks := by rfl) (h3 : (x == ("__debug__" : Str)) = false := by decide)
    (h4 : ((backTo pos (starEach [] X.env)).any (·.1) || (backToKw pos (keywordEach kws X.env)).any (·.1.isNone)) = false := by rfl) :
    PE X (.Call (.Name x p) [] kws pos) (tCallK sp gV E tNil tk) := by
  constructor
  intro pins s σ H Q I h
  apply wpAny_Call_Name_kw (ld_glob I hg hm _ h3)
  apply PySem.W.callWith_KW0 (h₀ := X.base) I.ok.mod.kin kp h1 _ h4
  refine thn (hkw.run pos pins s σ H _ I h) ?_
  rintro ws s2 ⟨zs, H2, I2, rz, q2⟩
  refine ⟨I2.kIn, ?_⟩
  rw [h2]
  exact run_fnk (us := []) (vs := []) F hr b hx I2 .nil rz q2
end
theorem named1 {K : PySem.W.Frag} {x qual : Str} {st : Stmt} {f : Addr} {fd : FuncData} {n : Str} (F : Fun K x qual st f fd)
    (h0 : ∀ (kV doc pm : Value) (an : Option Addr) (cdv ct u : Value), bindArgs (PySem.W.fnOf x qual (defArgs st) (defBody st) (defScope st) .none kV doc pm an cdv ct) ⟨[u], []⟩ = pure [(n, u)])
    (h1 : ∀ (kV doc pm : Value) (an : Option Addr) (cdv ct u : Value), bindArgs (PySem.W.fnOf x qual (defArgs st) (defBody st) (defScope st) .none kV doc pm an cdv ct) ⟨[], [(n, u)]⟩ = pure [(n, u)]) :
    KBinds K fd [n] [n] (fun us ws => us ++ ws) (fun vs zs => vs ++ zs) := by
  obtain ⟨oc, od, kV, doc, pm, an, cdv, ct, osl, rfl, lk, hcd⟩ := F.ex
  refine ⟨fun s us ws _ hl => ?_, fun a b => a.append b⟩
  match us, ws, hl with
  | [u], [], _ => exact .of_eq (h0 kV doc pm an cdv ct u)
  | [], [u], _ => exact .of_eq (h1 kV doc pm an cdv ct u)
/-! ### how long what repr shows is -/
theorem int_len {n : Nat} (h : n < 2 ^ 20) : (((toString ((n : Nat) : Int) : String) : Str)).length ≤ 20 := by
  have h1 := nat_repr_length_le (n := n) (k := 20) (by decide) h
  rw [PySem.ofString_length]
  exact h1
def cost (G : List Mk) : Nat := (G.map fun m => m.s.length).sum
theorem cost_stepF (G : List Mk) (n a c : Nat) : cost (stepF G n a c) ≤ cost G + 1 := by
  unfold stepF
  split
  · rcases list_end G with rfl | ⟨F, m, rfl⟩
    · exact Nat.le_succ _
    · unfold grow
      rw [List.getLast?_append]
      simp [cost]
      omega
  · split
    · omega
    · simp [cost]
theorem cost_due (l : List Nat) : cost (due l).found ≤ l.length := by
  have : ∀ (l : List Nat) (S : St0), cost (l.foldl stp S).found ≤ cost S.found + l.length := by
    intro l
    induction l with
    | nil => intro S; exact Nat.le_refl _
    | cons c r ih =>
      intro S
      have h1 := ih (stp S c)
      have h2 := cost_stepF S.found S.ln S.at_ c
      rw [stp_found] at h1
      show cost (r.foldl stp (stp S c)).found ≤ cost S.found + (r.length + 1)
      omega
  have h := this l ⟨[], 0, 0⟩
  show cost (l.foldl stp ⟨[], 0, 0⟩).found ≤ l.length
  simpa [cost] using h
theorem shown3 (m : Mk) (h1 : m.ln < 2 ^ 20) (h2 : m.at_ < 2 ^ 20) (h3 : ∀ c ∈ m.s, c < 128) : (d3 m).shown.length ≤ 10 * m.s.length + 60 := by
  have e : (d3 m).shown = tupleText [PyData.shown (.int m.ln), PyData.shown (.int m.at_), PyData.shown (.str (SS m.s))] := by
    simp only [d3, PyData.shown, PyData.shownAll]
  have a1 : (PyData.shown (.int m.ln)).length ≤ 20 := by simp only [PyData.shown]; exact int_len h1
  have a2 : (PyData.shown (.int m.at_)).length ≤ 20 := by simp only [PyData.shown]; exact int_len h2
  have a3 : (PyData.shown (.str (SS m.s))).length ≤ 10 * m.s.length + 2 := by
    simp only [PyData.shown]
    have := StrLaws.reprText_len (SS m.s) (fun c hc => Nat.lt_of_lt_of_le (h3 c hc) (by decide))
    rw [SS_len] at this
    exact this
  rw [e]
  have := fmt_text [PyData.shown (.int m.ln), PyData.shown (.int m.at_), PyData.shown (.str (SS m.s))]
  rw [piled_cons, piled_cons, piled_cons] at this
  have e0 : piled ([] : List Str) = 0 := rfl
  omega
theorem shownAll_le : ∀ G : List Mk, (∀ m ∈ G, m.ln < 2 ^ 20 ∧ m.at_ < 2 ^ 20 ∧ ∀ c ∈ m.s, c < 128) → piled (PyData.shownAll (G.map d3)) ≤ 10 * cost G + 62 * G.length
  | [], _ => by simp [PyData.shownAll, piled, cost]
  | m :: r, h => by
    have ih := shownAll_le r fun x hx => h x (by simp [hx])
    obtain ⟨h1, h2, h3⟩ := h m (by simp)
    have := shown3 m h1 h2 h3
    rw [List.map_cons, PyData.shownAll, piled_cons]
    have ec : cost (m :: r) = m.s.length + cost r := by simp [cost]
    rw [ec, List.length_cons]
    omega
theorem data3 (G : List Mk) (h : ∀ m ∈ G, m.ln < 2 ^ 20 ∧ m.at_ < 2 ^ 20 ∧ ∀ c ∈ m.s, c < 128) (hz : 10 * cost G + 62 * G.length ≤ 1000000) :
    (PyData.tuple (G.map d3)).showable = true ∧ (PyData.tuple (G.map d3)).hasDict = false ∧ (PyData.tuple (G.map d3)).depth ≤ 60 ∧ (PyData.tuple (G.map d3)).shown.length ≤ sizeLine ∧ SeqAt.shaped (.tuple (G.map d3)) = true := by
  have lg : ∀ n : Nat, n < 2 ^ 20 → ((n : Int).natAbs.log2 < 1920) := by
    intro n hn
    rw [Int.natAbs_natCast]
    by_cases h0 : n = 0
    · subst h0; decide
    · have := (Nat.log2_lt h0).mpr hn
      omega
  have all : ∀ G : List Mk, (∀ m ∈ G, m.ln < 2 ^ 20 ∧ m.at_ < 2 ^ 20 ∧ ∀ c ∈ m.s, c < 128) → PyData.showableAll (G.map d3) = true ∧ PyData.hasDictAll (G.map d3) = false ∧ PyData.depthAll (G.map d3) ≤ 1 ∧ PyData.canLayAll0 (G.map d3) = true := by
    intro G
    induction G with
    | nil => intro _; exact ⟨by simp [PyData.showableAll], by simp [PyData.hasDictAll], by simp [PyData.depthAll], rfl⟩
    | cons m r ih =>
      intro h
      obtain ⟨a, b, c, d⟩ := ih fun x hx => h x (by simp [hx])
      obtain ⟨h1, h2, h3⟩ := h m (by simp)
      have hm := strOk_of (l := m.s) (fun c hc => Nat.lt_of_lt_of_le (h3 c hc) (by decide))
      refine ⟨?_, ?_, ?_, ?_⟩
      · simp only [List.map_cons, d3, PyData.showableAll, PyData.showable, decide_eq_true (lg _ h1), decide_eq_true (lg _ h2), Bool.true_and, Bool.and_true]
        exact a
      · simp only [List.map_cons, d3, PyData.hasDictAll, PyData.hasDict, Bool.false_or]
        exact b
      · simp only [List.map_cons, d3, PyData.depthAll, PyData.depth]
        omega
      · simp only [List.map_cons, d3, PyData.canLayAll0, PyData.canLay0, hm, Bool.true_and]
        exact d
  obtain ⟨a, b, c, d⟩ := all G h
  have hd : (PyData.tuple (G.map d3)).depth ≤ 60 := by
    simp only [PyData.depth]
    omega
  refine ⟨by simp only [PyData.showable]; exact a, by simp only [PyData.hasDict]; exact b, hd, ?_, ?_⟩
  · have e : (PyData.tuple (G.map d3)).shown = tupleText (PyData.shownAll (G.map d3)) := by simp only [PyData.shown]
    rw [e]
    have h1 := fmt_text (PyData.shownAll (G.map d3))
    have h2 := shownAll_le G h
    exact Nat.le_trans (m := 2000000) (by omega) (by decide)
  · show (PyData.canLay0 (.tuple (G.map d3)) && decide (PyData.depth (.tuple (G.map d3)) ≤ 64)) = true
    have e : PyData.canLay0 (.tuple (G.map d3)) = true := by simp only [PyData.canLay0]; exact d
    rw [e, decide_eq_true (by omega)]
    rfl
/-! ### where marks stand -/
theorem place_due (l : List Nat) : (due l).ln ≤ l.length ∧ (due l).at_ ≤ l.length ∧ ∀ m ∈ (due l).found, m.ln ≤ l.length ∧ m.at_ ≤ l.length := by
  have step : ∀ (S : St0) (c B : Nat), S.ln ≤ B → S.at_ ≤ B → (∀ m ∈ S.found, m.ln ≤ B ∧ m.at_ ≤ B) → (stp S c).ln ≤ B + 1 ∧ (stp S c).at_ ≤ B + 1 ∧ ∀ m ∈ (stp S c).found, m.ln ≤ B + 1 ∧ m.at_ ≤ B + 1 := by
    intro S c B h1 h2 h3
    refine ⟨?_, ?_, ?_⟩
    · unfold stp; split
      · show S.ln + 1 ≤ B + 1; omega
      · show S.ln ≤ B + 1; omega
    · unfold stp; split
      · show 0 ≤ B + 1; omega
      · show S.at_ + 1 ≤ B + 1; omega
    · rw [stp_found]
      intro m hm
      unfold stepF at hm
      split at hm
      · unfold grow at hm
        split at hm
        · have := h3 m hm; omega
        · rename_i m' e
          rcases List.mem_append.mp hm with hm | hm
          · have := h3 m (List.dropLast_subset _ hm); omega
          · rw [List.mem_singleton.mp hm]
            have := h3 m' (List.mem_of_getLast? e)
            show m'.ln ≤ B + 1 ∧ m'.at_ ≤ B + 1
            omega
      · split at hm
        · have := h3 m hm; omega
        · rcases List.mem_append.mp hm with hm | hm
          · have := h3 m hm; omega
          · rw [List.mem_singleton.mp hm]
            show S.ln ≤ B + 1 ∧ S.at_ ≤ B + 1
            omega
  have all : ∀ (l : List Nat) (S : St0) (B : Nat), S.ln ≤ B → S.at_ ≤ B → (∀ m ∈ S.found, m.ln ≤ B ∧ m.at_ ≤ B) → (l.foldl stp S).ln ≤ B + l.length ∧ (l.foldl stp S).at_ ≤ B + l.length ∧ ∀ m ∈ (l.foldl stp S).found, m.ln ≤ B + l.length ∧ m.at_ ≤ B + l.length := by
    intro l
    induction l with
    | nil => intro S B h1 h2 h3; exact ⟨h1, h2, h3⟩
    | cons c r ih =>
      intro S B h1 h2 h3
      obtain ⟨k1, k2, k3⟩ := step S c B h1 h2 h3
      have := ih (stp S c) (B + 1) k1 k2 k3
      rw [List.length_cons, show B + (r.length + 1) = B + 1 + r.length by omega]
      exact this
  have := all l ⟨[], 0, 0⟩ 0 (Nat.le_refl _) (Nat.le_refl _) (by intro m hm; cases hm)
  rw [Nat.zero_add] at this
  exact this
theorem ok128 (l : List Nat) (h : ∀ c ∈ l, c < 128) : ∀ m ∈ (due l).found, ∀ c ∈ m.s, c < 128 := by
  have : ∀ (l : List Nat) (S : St0), (∀ c ∈ l, c < 128) → (∀ m ∈ S.found, ∀ c ∈ m.s, c < 128) → ∀ m ∈ (l.foldl stp S).found, ∀ c ∈ m.s, c < 128 := by
    intro l
    induction l with
    | nil => intro S _ h; exact h
    | cons c r ih =>
      intro S hc h
      refine ih (stp S c) (fun x hx => hc x (by simp [hx])) ?_
      rw [stp_found]
      intro m hm x hx
      have hc0 := hc c (by simp)
      unfold stepF at hm
      split at hm
      · unfold grow at hm
        split at hm
        · exact h m hm x hx
        · rename_i m' e
          rcases List.mem_append.mp hm with hm | hm
          · exact h m (List.dropLast_subset _ hm) x hx
          · rw [List.mem_singleton.mp hm] at hx
            rcases List.mem_append.mp hx with hx | hx
            · exact h m' (List.mem_of_getLast? e) x hx
            · rw [List.mem_singleton.mp hx]; exact hc0
      · split at hm
        · exact h m hm x hx
        · rcases List.mem_append.mp hm with hm | hm
          · exact h m hm x hx
          · rw [List.mem_singleton.mp hm] at hx
            rw [List.mem_singleton.mp hx]; exact hc0
  exact this l ⟨[], 0, 0⟩ h (by intro m hm; cases hm)
theorem data_due (t : List Nat) (ht : t.length ≤ 5000) (hc : ∀ c ∈ t, c < 128) : (∀ m ∈ (due t).found, m.ln < 2 ^ 20 ∧ m.at_ < 2 ^ 20 ∧ ∀ c ∈ m.s, c < 128) ∧ 10 * cost (due t).found + 62 * (due t).found.length ≤ 1000000 := by
  obtain ⟨_, _, p⟩ := place_due t
  refine ⟨fun m hm => ?_, ?_⟩
  · have := p m hm
    refine ⟨by omega, by omega, ok128 t hc m hm⟩
  · have h1 := cost_due t
    have h2 := due_len t
    omega
end K05
namespace K05
open PySem PySem.Spec PyProof.Rows L2
theorem joinL_flat : ∀ ts : List (List Nat), TL.joinL [] ts = ts.flatten
  | [] => rfl
  | [t] => by simp [TL.joinL]
  | t :: u :: r => by
    show t ++ ([] ++ TL.joinL [] (u :: r)) = _
    rw [joinL_flat (u :: r)]
    simp
theorem join_pieces (ts : List (List Nat)) : Txt.join (ST []) (ts.map ST) = ST ts.flatten := by
  have e := SX.join_S [] ts
  rw [joinL_flat] at e
  exact e
theorem joinL_blank : ∀ ts : List (List Nat), TL.joinL [32] ts = glueB ts
  | [] => rfl
  | [_] => rfl
  | t :: u :: r => by
    show t ++ ([32] ++ TL.joinL [32] (u :: r)) = t ++ [32] ++ glueB (u :: r)
    rw [joinL_blank (u :: r), List.append_assoc]
theorem join_marks (ts : List (List Nat)) : Txt.join (" " : Str) (ts.map ST) = ST (glueB ts) := by
  have e := SX.join_S [32] ts
  rw [joinL_blank] at e
  exact e
theorem glueB_len : ∀ ts : List (List Nat), (glueB ts).length ≤ (ts.map (·.length)).sum + ts.length
  | [] => by simp [glueB]
  | [t] => by simp [glueB]
  | t :: u :: r => by
    have ih := glueB_len (u :: r)
    show (t ++ [32] ++ glueB (u :: r)).length ≤ _
    rw [List.length_append, List.length_append, List.length_singleton, List.map_cons, List.sum_cons, List.length_cons]
    omega
theorem sum_lens (ts : List (List Nat)) : ((ts.map ST).map (·.length)).sum = (ts.map (·.length)).sum := by
  rw [SX.lens]
theorem flat_len {ts : List (List Nat)} (h : ∀ t ∈ ts, t.length ≤ 30) : (ts.map (·.length)).sum ≤ 30 * ts.length ∧ ts.flatten.length = (ts.map (·.length)).sum := by
  induction ts with
  | nil => exact ⟨Nat.le_refl _, rfl⟩
  | cons t r ih =>
    obtain ⟨a, b⟩ := ih fun x hx => h x (by simp [hx])
    have := h t (by simp)
    refine ⟨?_, ?_⟩
    · rw [List.map_cons, List.sum_cons, List.length_cons]
      omega
    · rw [List.flatten_cons, List.length_append, List.map_cons, List.sum_cons, b]
def ds (ts : List (List Nat)) : List PyData := ts.map fun t => .str (ST t)
theorem dpS {K : PySem.W.Frag} {H : Hp} : ∀ ts : List (List Nat), DpAll K H (ts.map fun t => V.str (ST t)) (ds ts)
  | [] => .nil
  | t :: r => .cons (.str _) (dpS r)
theorem shapedS (ts : List (List Nat)) (h : ∀ t ∈ ts, ∀ c ∈ t, c < 128) : SeqAt.shaped (.list (ds ts)) = true ∧ PyData.canLay0 (.list (ds ts)) = true := by
  have all : ∀ ts : List (List Nat), (∀ t ∈ ts, ∀ c ∈ t, c < 128) → PyData.canLayAll0 (ds ts) = true ∧ PyData.depthAll (ds ts) ≤ 1 := by
    intro ts
    induction ts with
    | nil => intro _; exact ⟨rfl, by simp [ds, PyData.depthAll]⟩
    | cons t r ih =>
      intro h
      obtain ⟨a, b⟩ := ih fun x hx => h x (by simp [hx])
      have ht := strOk_of (l := t) (fun c hc => Nat.lt_of_lt_of_le (h t (by simp) c hc) (by decide))
      refine ⟨?_, ?_⟩
      · show (PyData.canLay0 (.str (ST t)) && PyData.canLayAll0 (ds r)) = true
        rw [a, Bool.and_true]
        simp only [PyData.canLay0]
        exact ht
      · show max (PyData.depth (.str (ST t))) (PyData.depthAll (ds r)) ≤ 1
        simp only [PyData.depth]
        omega
  obtain ⟨a, b⟩ := all ts h
  have e : PyData.canLay0 (.list (ds ts)) = true := by simp only [PyData.canLay0]; exact a
  refine ⟨?_, e⟩
  show (PyData.canLay0 (.list (ds ts)) && decide (PyData.depth (.list (ds ts)) ≤ 64)) = true
  have d : PyData.depth (.list (ds ts)) ≤ 64 := by simp only [PyData.depth]; omega
  rw [e, decide_eq_true d]
  rfl
theorem cat2 (a b : List Nat) : ST a ++ ST b = ST (a ++ b) := SX.S_cat a b
def NL : List Str := ["script", "heap", "turn", "text", "due", "told", "joined", "again", "line", "at", "mark"]
theorem scL : FnScope ["script", "heap", "turn", "text", "due", "told", "joined", "again", "line", "at", "mark"] ["script"] (defScope sLaw) := ⟨rfl, rfl, rfl, by decide +kernel, rfl, by decide +kernel, by decide +kernel⟩
def spLaw (K : PySem.W.Frag) : Sp := fun vs H Q _ => ∃ (a : Addr) (ns : List Int), vs = [.ref a] ∧ SqL K H a (ns.map V.int) ∧ ns.length ≤ 63 ∧ ∀ H', Q (.bl true) H'
/-- what the law's def calls, and what of the built-ins -/
structure Low (P : Program) (w : World) (K : PySem.W.Frag) (mg : Str → Option Value) (base : Heap) (fH fD fP fS fM fU : Addr) (dH dD dP dS dM dU : FuncData) : Prop where
  gH : FnOk P w K mg base CX0 4 fH dH ["script"] (spHeap K)
  bH : Binds K dH ["script"] []
  kH : PySem.W.keepIn K (.ref fH) = true
  mH : mg "_law_heap" = some (.ref fH)
  gD : FnOk P w K mg base CX0 4 fD dD ["heap", "many"] spDraw
  bD : Binds K dD ["heap", "many"] []
  kD : PySem.W.keepIn K (.ref fD) = true
  mD : mg "_law_draw" = some (.ref fD)
  gP : FnOk P w K mg base CX0 4 fP dP ["heap", "some"] spPick
  bP : Binds K dP ["heap", "some"] []
  kP : PySem.W.keepIn K (.ref fP) = true
  mP : mg "_law_pick" = some (.ref fP)
  gS : FnOk P w K mg base CX0 4 fS dS ["heap"] spPiece
  bS : Binds K dS ["heap"] []
  kS : PySem.W.keepIn K (.ref fS) = true
  mS : mg "_law_piece" = some (.ref fS)
  gM : FnOk P w K mg base CX0 4 fM dM ["text"] spMarks
  bM : Binds K dM ["text"] []
  nM : KBinds K dM ["text"] ["text"] (fun us ws => us ++ ws) (fun vs zs => vs ++ zs)
  kM : PySem.W.keepIn K (.ref fM) = true
  mM : mg "marks_of" = some (.ref fM)
  gU : FnOk P w K mg base CX0 4 fU dU ["text"] spDue
  bU : Binds K dU ["text"] []
  kU : PySem.W.keepIn K (.ref fU) = true
  mU : mg "_law_marks" = some (.ref fU)
  ran : mg "range" = none
  int : mg "int" = none
  len : mg "len" = none
  tup : mg "tuple" = none
  rep : mg "repr" = none
section
variable {P : Program} {w : World} {K : PySem.W.Frag} {mg : Str → Option Value} {base : Heap}
theorem ok_law {f fH fD fP fS fM fU : Addr} {fd dH dD dP dS dM dU : FuncData} (F : Fun K "law" "law" sLaw f fd) (T : Low P w K mg base fH fD fP fS fM fU dH dD dP dS dM dU) : RunG P w K mg base 5 f fd ["script"] (spLaw K) := by
  refine okG F scL (fun vs H Q E h => ?_) (fun cdv A outer s H vs Q E hA hr h => ?_)
  · obtain ⟨a, ns, rfl, _⟩ := h
    rfl
  · obtain ⟨a, ns, rfl, hS, hlen, q⟩ := h
    refine ⟨_, pss_cons (ps_set (i := 1) scL.nd rfl (Or.inr rfl) (pe_call T.gH hr rfl T.mH T.kH T.bH .nil pass0 (pa_cons (pv 0) pa_nil)))
      (pss_cons (ps_for PassesOwn.never rfl (pi_range1 rfl T.ran (pa_cons (pe_op op_add pe_int (pe_op op_mul pe_int (pe_callTy call_int1 (by rfl) T.int (by decide +kernel) (pa_cons (pe_cmp (pc_gt (pe_callB call_len_seq (by rfl) T.len PySem.boot_len (pa_cons (pv 0) pa_nil)) pe_int) rfl) pa_nil)))) pa_nil)) (pg_name (i := 2) scL.nd rfl (.inl rfl))
        (pss_cons (ps_set (i := 3) scL.nd rfl (.inl rfl) (pe_join pe_str (pe_lc (own := [("again", 7)]) (g := gName 7) (tt := tYes) rfl scL.nd (pi_range1 rfl T.ran (pa_cons (pe_call T.gP hr rfl T.mP T.kP T.bP .nil pass0 (pa_cons (pv 1) (pa_cons (pe_lst (pa_cons pe_int (pa_cons pe_int (pa_cons pe_int (pa_cons pe_int (pa_cons pe_int pa_nil)))))) pa_nil))) pa_nil))
            (blkOk_by (own := [("again", 7)]) (N := ["script", "heap", "turn", "text", "due", "told", "joined", "again", "line", "at", "mark"]) (sc := defScope sLaw) (by decide +kernel)) (fun _ _ _ _ _ => pg_name (i := 7) scL.nd rfl (Or.inl rfl)) (fun _ _ _ _ _ => pts_nil)
            (fun _ _ _ _ _ => pe_call T.gS hr rfl T.mS T.kS T.bS .nil pass0 (pa_cons (pv 1) pa_nil)))))
        (pss_cons (ps_set (i := 3) scL.nd rfl (.inl rfl) (pe_ifExp (pt_cmpR op_eq (pe_call T.gD hr rfl T.mD T.kD T.bD .nil pass0 (pa_cons (pv 1) (pa_cons pe_int pa_nil))) pe_int (nomark _))
            (pe_op op_add_str (pe_op op_add_str (pe_op op_add_str (pe_op op_add_str (pe_op op_times pe_str pe_int) pe_str) (pv 3)) pe_str) (pe_op op_times pe_str pe_int)) (pv 3)))
        (pss_cons (ps_set (i := 4) scL.nd rfl (.inl rfl) (pe_callTy call_tuple_of (by rfl) T.tup (by decide +kernel) (pa_cons (pe_call T.gU hr rfl T.mU T.kU T.bU .nil pass0 (pa_cons (pv 3) pa_nil)) pa_nil)))
        (pss_cons (ps_set (i := 5) scL.nd rfl (.inl rfl) (pe_call T.gM hr rfl T.mM T.kM T.bM .nil pass0 (pa_cons (pv 3) pa_nil)))
        (pss_cons (ps_if (PW.pt (pw_or (pt_cmpR op_ne (pe_callB (call_repr hA hr.units) (by rfl) T.rep (by decide +kernel) (pa_cons (pv 5) pa_nil)) (pe_callB (call_repr hA hr.units) (by rfl) T.rep (by decide +kernel) (pa_cons (pv 4) pa_nil)) (nomark _))
            (pw_or1 (pt_cmpR (op_neD hr.units) (pe_named T.gM hr rfl T.mM T.kM T.nM pass0 (pk_cons (pv 3) pk_nil)) (pv 5) (nomark _))))) (pss_one (ps_ret pe_bl)) pss_nil)
        (pss_cons (ps_set (i := 6) scL.nd rfl (.inl rfl) (pe_join pe_str (pe_lc (own := [("line", 8), ("at", 9), ("mark", 10)]) (tt := tYes) (g := gTup K 3 _) rfl scL.nd (pi_tup (pv 4))
            (blkOk_by (own := [("line", 8), ("at", 9), ("mark", 10)]) (N := ["script", "heap", "turn", "text", "due", "told", "joined", "again", "line", "at", "mark"]) (sc := defScope sLaw) (by decide +kernel)) (fun _ _ _ _ _ => pg_tup rfl (pgs_cons (pg_name (i := 8) scL.nd rfl (.inl rfl)) (pgs_cons (pg_name (i := 9) scL.nd rfl (.inl rfl)) (pgs_cons (pg_name (i := 10) scL.nd rfl (.inl rfl)) pgs_nil)))) (fun _ _ _ _ _ => pts_nil)
            (fun _ _ _ _ _ => pv 10))))
        (pss_one (ps_if (pt_cmpR (op_neD hr.units) (pe_lc (own := [("line", 8), ("at", 9), ("mark", 10)]) (tt := tYes) (g := gTup K 3 _) rfl scL.nd (pi_tup (pe_call T.gM hr rfl T.mM T.kM T.bM .nil pass0 (pa_cons (pv 6) pa_nil)))
              (blkOk_by (own := [("line", 8), ("at", 9), ("mark", 10)]) (N := ["script", "heap", "turn", "text", "due", "told", "joined", "again", "line", "at", "mark"]) (sc := defScope sLaw) (by decide +kernel)) (fun _ _ _ _ _ => pg_tup rfl (pgs_cons (pg_name (i := 8) scL.nd rfl (.inl rfl)) (pgs_cons (pg_name (i := 9) scL.nd rfl (.inl rfl)) (pgs_cons (pg_name (i := 10) scL.nd rfl (.inl rfl)) pgs_nil)))) (fun _ _ _ _ _ => pts_nil)
              (fun _ _ _ _ _ => pv 10))
            (pe_lc (own := [("line", 8), ("at", 9), ("mark", 10)]) (tt := tYes) (g := gTup K 3 _) rfl scL.nd (pi_tup (pv 4))
              (blkOk_by (own := [("line", 8), ("at", 9), ("mark", 10)]) (N := ["script", "heap", "turn", "text", "due", "told", "joined", "again", "line", "at", "mark"]) (sc := defScope sLaw) (by decide +kernel)) (fun _ _ _ _ _ => pg_tup rfl (pgs_cons (pg_name (i := 8) scL.nd rfl (.inl rfl)) (pgs_cons (pg_name (i := 9) scL.nd rfl (.inl rfl)) (pgs_cons (pg_name (i := 10) scL.nd rfl (.inl rfl)) pgs_nil)))) (fun _ _ _ _ _ => pts_nil)
              (fun _ _ _ _ _ => pv 10)) (nomark _)) (pss_one (ps_ret pe_bl)) pss_nil)))))))))
      (pss_cons (ps_if (PW.pt (pw_or (pt_cmpR (op_neD hr.units) (pe_call T.gM hr rfl T.mM T.kM T.bM .nil pass0 (pa_cons pe_str pa_nil)) (pe_tup pa_nil) (nomark _))
          (pw_or (pt_cmpR (op_neD hr.units) (pe_call T.gM hr rfl T.mM T.kM T.bM .nil pass0 (pa_cons pe_str pa_nil)) (pe_tup pa_nil) (nomark _))
          (pw_or1 (pt_cmpR (op_neD hr.units) (pe_call T.gM hr rfl T.mM T.kM T.bM .nil pass0 (pa_cons pe_str pa_nil)) (pe_tup (pa_cons (pe_tup (pa_cons pe_int (pa_cons pe_int (pa_cons pe_str pa_nil)))) pa_nil)) (nomark _)))))) (pss_one (ps_ret pe_bl)) pss_nil)
      (pss_one (ps_ret (pe_cmpR (op_eqD hr.units) (pe_call T.gM hr rfl T.mM T.kM T.bM .nil pass0 (pa_cons pe_str pa_nil)) (pe_tup (pa_cons (pe_tup (pa_cons pe_int (pa_cons pe_int (pa_cons pe_str pa_nil)))) (pa_cons (pe_tup (pa_cons pe_int (pa_cons pe_int (pa_cons pe_str pa_nil)))) (pa_cons (pe_tup (pa_cons pe_int (pa_cons pe_int (pa_cons pe_str pa_nil)))) (pa_cons (pe_tup (pa_cons pe_int (pa_cons pe_int (pa_cons pe_str pa_nil)))) (pa_cons (pe_tup (pa_cons pe_int (pa_cons pe_int (pa_cons pe_str pa_nil)))) (pa_cons (pe_tup (pa_cons pe_int (pa_cons pe_int (pa_cons pe_str pa_nil)))) (pa_cons (pe_tup (pa_cons pe_int (pa_cons pe_int (pa_cons pe_str pa_nil)))) (pa_cons (pe_tup (pa_cons pe_int (pa_cons pe_int (pa_cons pe_str pa_nil)))) (pa_cons (pe_tup (pa_cons pe_int (pa_cons pe_int (pa_cons pe_str pa_nil)))) pa_nil)))))))))) (nomark _)))))), ?_⟩
    refine ⟨_, rfl, a, ns, rfl, hS, fun h l H1 s1 nh nl src1 => ?_⟩
    have hS1 : SqL K H1 a (ns.map V.int) := s1.seq hS
    -- for turn in range(3 + 3 * int(len(script) > 2))
    refine ⟨_, rfl, a, _, rfl, .inl hS1, _, _, rfl, rfl, .inr ⟨_, rfl, _, _, rfl, rfl, .inl ⟨by decide, by decide⟩, _, _, rfl, rfl, _, rfl, ?_, ?_, for_range (lo := 0) (n := _) (fun i σ H' => ∃ y2 y3 y4 y5 y6 y7 y8 y9 y10 : Option V, σ = [some (.ref a), some (.ref h), y2, y3, y4, y5, y6, y7, y8, y9, y10] ∧ Src H' h l)
      ⟨none, none, none, none, none, none, none, none, none, rfl, src1⟩ ?_ ?_⟩⟩
    · split <;> omega
    · split <;> omega
    · rintro i σ H2 hi ⟨y2, y3, y4, y5, y6, y7, y8, y9, y10, rfl, src2⟩
      -- text = ''.join([..])
      refine ⟨⟨_, rfl⟩, _, rfl, (by show 5 ≤ sizeLine; decide), fun u nu => ?_⟩
      obtain ⟨nuh, nul⟩ := Src.new src2 nu
      refine ⟨h, l, u, _, rfl, src2.same (same_upd nu), upd_same, nuh, nul, by simp, by simp, fun j v H3 hv src3 bar3 => ?_⟩
      obtain ⟨m, rfl, m0, m1⟩ : ∃ m : Int, v = .int m ∧ 0 ≤ m ∧ m ≤ 60 := by
        match j, hv with
        | 0, hv => exact ⟨5, (Option.some.inj hv).symm, by decide, by decide⟩
        | 1, hv => exact ⟨20, (Option.some.inj hv).symm, by decide, by decide⟩
        | 2, hv => exact ⟨1, (Option.some.inj hv).symm, by decide, by decide⟩
        | 3, hv => exact ⟨60, (Option.some.inj hv).symm, by decide, by decide⟩
        | 4, hv => exact ⟨0, (Option.some.inj hv).symm, by decide, by decide⟩
      refine ⟨_, rfl, by omega, by omega, fun D nD => ?_⟩
      obtain ⟨nDh, nDl⟩ := Src.new src3 nD
      refine lc_range (lo := 0) (n := m.toNat) (fun i H' => ∃ ts : List (List Nat), H' D = some (.lst ((ts.map ST).map V.str)) ∧ ts.length = i ∧ (∀ t ∈ ts, t.length ≤ 30) ∧ (∀ t ∈ ts, ∀ c ∈ t, c < 128) ∧ Src H' h l)
        ⟨[], upd_same, rfl, by simp, by simp, src3.same (same_upd nD)⟩ ?_ ?_
      · rintro i' H4 hi' ⟨ts, k1, k2, k3, k4, k5⟩
        refine ⟨rfl, yes ?_⟩
        refine ⟨_, rfl, h, l, rfl, k5, fun t H5 t0 t1 src5 bar5 => ⟨_, bar5 _ _ nDh nDl k1, ?_, ts ++ [t], ?_, ?_, ?_, ?_, ?_⟩⟩
        · rw [List.length_map, List.length_map, k2]
          exact Nat.lt_of_le_of_lt (m := 100) (by omega) (by decide)
        · rw [upd_same]
          simp
        · rw [List.length_append, k2]
          rfl
        · intro x hx
          rcases List.mem_append.mp hx with hx | hx
          · exact k3 x hx
          · rw [List.mem_singleton.mp hx]; exact t0
        · intro x hx
          rcases List.mem_append.mp hx with hx | hx
          · exact k4 x hx
          · rw [List.mem_singleton.mp hx]; exact t1
        · obtain ⟨cs2, z2, a2, b2, r2⟩ := src5.ex
          exact ⟨cs2, z2, by rw [upd_ne (Ne.symm nDh)]; exact a2, by rw [upd_ne (Ne.symm nDl)]; exact b2, r2⟩
      · rintro H4 ⟨ts, k1, k2, k3, k4, src4⟩
        obtain ⟨f1, f2⟩ := flat_len k3
        refine ⟨_, D, ts.map ST, rfl, rfl, .inl (SqL.of k1), ?_, ?_⟩
        · rw [sum_lens, List.length_map]
          show (ts.map (·.length)).sum + ts.length * 0 ≤ 16777216
          omega
        have e : Txt.join ("" : Str) (ts.map ST) = ST ts.flatten := join_pieces ts
        rw [e]
        have t0 : ts.flatten.length ≤ 1800 := by omega
        have t1 : ∀ c ∈ ts.flatten, c < 128 := by
          intro c hc
          obtain ⟨x, hx, hc⟩ := List.mem_flatten.mp hc
          exact k4 x hx c hc
        generalize ts.flatten = t at t0 t1
        refine gn ?_
        dsimp only
        refine seqcut (t := tAsg _ _) (fun σ' H' => ∃ t : List Nat, σ' = [some (.ref a), some (.ref h), some (.int (0 + i)), some (.str (ST t)), y4, y5, y6, y7, y8, y9, y10] ∧ t.length ≤ 3000 ∧ (∀ c ∈ t, c < 128) ∧ Src H' h l) ?_ (fun out => ?_)
        · rintro σ' H2 ⟨t, rfl, tl, tc, src2⟩
          obtain ⟨dd, dz⟩ := data_due t (by omega) tc
          obtain ⟨w1, w2, w3, w4, w5⟩ := data3 (due t).found dd dz
          have hGl : (due t).found.length ≤ 90000 := Nat.le_trans (due_len t) (by omega)
          -- due = tuple(_law_marks(text))
          refine ⟨_, rfl, t, rfl, by omega, fun c hc => Nat.lt_of_lt_of_le (tc c hc) (by decide), fun p ps H3 s3 hp rp => ⟨p, _, rfl, .inl ⟨SqL.of hp, fun d nd => ?_⟩⟩⟩
          have b1 : (upd H3 d (.tup (ps.map V.ref))) d = some (.tup (ps.map V.ref)) := upd_same
          have b2 : Rows (upd H3 d (.tup (ps.map V.ref))) e3 ps (due t).found := Rows.keep (fun b xs e => by rw [upd_ne (ne_of_none e nd)]; exact e) rp
          have b3 : Src (upd H3 d (.tup (ps.map V.ref))) h l := src2.same (s3.trans (same_upd nd))
          generalize upd H3 d (.tup (ps.map V.ref)) = H4 at b1 b2 b3
          -- told = marks_of(text)
          refine ⟨_, rfl, t, rfl, by omega, fun r rs H5 s5 hr5 rr => ?_⟩
          have c1 := s5 _ _ b1
          have c2 := Rows.keep (fun b xs e => s5 b _ e) b2
          have c3 := b3.same s5
          -- repr(told) != repr(due) or marks_of(text=text) != told
          refine ⟨_, rfl, r, _, rfl, .tup (.inl (.inl hr5)) (dp3 rr), w1, w2, w3, w4, _, rfl, d, _, rfl, .tup (.inl (.inl c1)) (dp3 c2), w1, w2, w3, w4, rfl, _, rfl, ?_⟩
          rw [decide_eq_true rfl]
          refine iteF ?_
          refine ⟨_, rfl, t, rfl, by omega, fun r2 rs2 H6 s6 hr6 rr6 => ⟨_, rfl, _, _, .tup (.inl (.inl hr6)) (dp3 rr6), .tup (.inl (.inl (s6 _ _ hr5))) (dp3 (Rows.keep (fun b xs e => s6 b _ e) rr)), w5, w5, _, rfl, ?_⟩⟩
          have ee : PyData.eqv (.tuple ((due t).found.map d3)) (.tuple ((due t).found.map d3)) = true := by
            have z : (PyData.canLay0 (.tuple ((due t).found.map d3)) && decide (PyData.depth (.tuple ((due t).found.map d3)) ≤ 64)) = true := w5
            exact SeqAt.eqv_refl _ (Bool.and_eq_true _ _ ▸ z).1
          rw [ee]
          refine iteF ?_
          have e1 := s6 _ _ c1
          have e2 := Rows.keep (fun b xs e => s6 b _ e) c2
          have e3 := c3.same s6
          -- joined = ' '.join([..])
          refine ⟨⟨_, rfl⟩, _, rfl, d, rfl, ⟨_, .inl (.inl e1)⟩, fun D nD => ?_⟩
          refine lc_tup (K := K) (a := d) (xs := ps.map V.ref) (fun i H' => H' D = some (.lst (((((due t).found).take i).map (·.s)).map fun t => V.str (ST t))) ∧ Same H6 H') ⟨upd_same, same_upd nD⟩ (fun i H' _ z => .inl (.inl (z.2 _ _ e1))) ?_ ?_
          · rintro i x H' hx ⟨k1, k2⟩
            have rk := Rows.keep (fun b xs e => k2 b _ e) e2
            have hi : i < ((due t).found).length := by
              have := (List.getElem?_eq_some_iff.mp hx).1
              rw [List.length_map, Rows.len rk] at this
              exact this
            obtain ⟨u, hu, eu⟩ := Rows.get rk (List.getElem?_eq_getElem hi)
            have ex : x = .ref u := by
              rw [List.getElem?_map, hu] at hx
              exact (Option.some.inj hx).symm
            subst ex
            refine ⟨u, _, rfl, .inl (.inl eu), rfl, _, _, rfl, _, _, rfl, _, _, rfl, rfl, ?_⟩
            refine ⟨rfl, yes ⟨_, rfl, _, k1, ?_, ?_, ?_⟩⟩
            · rw [List.length_map, List.length_map, List.length_take]
              exact Nat.lt_of_le_of_lt (m := 90000) (by omega) (by decide)
            · rw [upd_same, List.take_succ_eq_append_getElem hi, List.map_append, List.map_append]
              rfl
            · intro b o e
              rw [upd_ne (ne_of_none e nD)]
              exact k2 b o e
          · rintro H' ⟨k1, k2⟩
            rw [List.length_map, Rows.len e2, List.take_length] at k1
            have hk1 : H' D = some (.lst (((((due t).found.map (·.s)).map ST)).map V.str)) := by
              rw [k1]
              simp
            have hml : ((due t).found.map (·.s)).length ≤ 3000 := by
              rw [List.length_map]
              have := due_len t
              omega
            have hms : (((due t).found.map (·.s)).map (·.length)).sum ≤ 3000 := by
              have := cost_due t
              unfold cost at this
              rw [List.map_map]
              exact Nat.le_trans this (by omega)
            refine ⟨_, D, ((due t).found.map (·.s)).map ST, rfl, rfl, .inl (SqL.of hk1), ?_, ?_⟩
            · rw [sum_lens, List.length_map]
              show _ + _ * 1 ≤ 16777216
              omega
            rw [join_marks]
            have jl : (glueB ((due t).found.map (·.s))).length ≤ 90000 := Nat.le_trans (glueB_len _) (by omega)
            have n1 := k2 _ _ e1
            have n2 := Rows.keep (fun b xs e => k2 b _ e) e2
            have n3 := e3.same k2
            -- [.. marks_of(joined)] != [.. due]
            refine ⟨_, rfl, glueB ((due t).found.map (·.s)), rfl, jl, fun q3 qs3 H7 s7 hq rq => ⟨q3, rfl, ⟨_, .inl (.inl hq)⟩, fun D2 nD2 => ?_⟩⟩
            have hG2 : (due (glueB ((due t).found.map (·.s)))).found.length ≤ 90000 := Nat.le_trans (due_len _) jl
            refine lc_tup (K := K) (a := q3) (xs := qs3.map V.ref) (fun i H' => H' D2 = some (.lst (((((due (glueB ((due t).found.map (·.s)))).found).take i).map (·.s)).map fun t => V.str (ST t))) ∧ Same H7 H') ⟨upd_same, same_upd nD2⟩ (fun i H' _ z => .inl (.inl (z.2 _ _ hq))) ?_ ?_
            · rintro i x H' hx ⟨k1, k2⟩
              have rk := Rows.keep (fun b xs e => k2 b _ e) rq
              have hi : i < ((due (glueB ((due t).found.map (·.s)))).found).length := by
                have := (List.getElem?_eq_some_iff.mp hx).1
                rw [List.length_map, Rows.len rk] at this
                exact this
              obtain ⟨u, hu, eu⟩ := Rows.get rk (List.getElem?_eq_getElem hi)
              have ex : x = .ref u := by
                rw [List.getElem?_map, hu] at hx
                exact (Option.some.inj hx).symm
              subst ex
              refine ⟨u, _, rfl, .inl (.inl eu), rfl, _, _, rfl, _, _, rfl, _, _, rfl, rfl, ?_⟩
              refine ⟨rfl, yes ⟨_, rfl, _, k1, ?_, ?_, ?_⟩⟩
              · rw [List.length_map, List.length_map, List.length_take]
                exact Nat.lt_of_le_of_lt (m := 90000) (by omega) (by decide)
              · rw [upd_same, List.take_succ_eq_append_getElem hi, List.map_append, List.map_append]
                rfl
              · intro b o e
                rw [upd_ne (ne_of_none e nD2)]
                exact k2 b o e
            · rintro H' ⟨k1, k2⟩
              rw [List.length_map, Rows.len rq, List.take_length] at k1
              have o1 := k2 _ _ (s7 _ _ n1)
              have o2 := Rows.keep (fun b xs e => k2 b _ (s7 b _ e)) n2
              have o3 := (n3.same s7).same k2
              rename_i kk1 kk2
              refine ⟨_, rfl, d, rfl, ⟨_, .inl (.inl o1)⟩, fun D3 nD3 => ?_⟩
              have k1a := k1
              refine lc_tup (K := K) (a := d) (xs := ps.map V.ref) (fun i H'' => H'' D3 = some (.lst (((((due t).found).take i).map (·.s)).map fun t => V.str (ST t))) ∧ Same H' H'') ⟨upd_same, same_upd nD3⟩ (fun i H'' _ z => .inl (.inl (z.2 _ _ o1))) ?_ ?_
              · rintro i x H'' hx ⟨k1, k2⟩
                have rk := Rows.keep (fun b xs e => k2 b _ e) o2
                have hi : i < ((due t).found).length := by
                  have := (List.getElem?_eq_some_iff.mp hx).1
                  rw [List.length_map, Rows.len rk] at this
                  exact this
                obtain ⟨u, hu, eu⟩ := Rows.get rk (List.getElem?_eq_getElem hi)
                have ex : x = .ref u := by
                  rw [List.getElem?_map, hu] at hx
                  exact (Option.some.inj hx).symm
                subst ex
                refine ⟨u, _, rfl, .inl (.inl eu), rfl, _, _, rfl, _, _, rfl, _, _, rfl, rfl, ?_⟩
                refine ⟨rfl, yes ⟨_, rfl, _, k1, ?_, ?_, ?_⟩⟩
                · rw [List.length_map, List.length_map, List.length_take]
                  exact Nat.lt_of_le_of_lt (m := 90000) (by omega) (by decide)
                · rw [upd_same, List.take_succ_eq_append_getElem hi, List.map_append, List.map_append]
                  rfl
                · intro b o e
                  rw [upd_ne (ne_of_none e nD3)]
                  exact k2 b o e
              · rintro H'' ⟨k1, k2⟩
                rw [List.length_map, Rows.len o2, List.take_length] at k1
                rw [due_joined] at k1a
                have hs : ∀ x ∈ (due t).found.map (·.s), ∀ c ∈ x, c < 128 := by
                  intro x hx
                  obtain ⟨m, hm, rfl⟩ := List.mem_map.mp hx
                  exact (dd m hm).2.2
                obtain ⟨sh1, sh2⟩ := shapedS ((due t).found.map (·.s)) hs
                refine ⟨_, _, .lst (SqL.of (k2 _ _ k1a)) (dpS _), .lst (SqL.of k1) (dpS _), sh1, sh1, _, rfl, ?_⟩
                rw [SeqAt.eqv_refl _ sh2]
                refine iteF ?_
                exact ⟨_, _, _, _, _, _, _, _, _, rfl, o3.same k2⟩
        · -- text = '7' * 390 + ..
          refine ⟨_, rfl, h, l, 5, rfl, src4, by decide, by decide, fun z H5 z0 z1 src5 bar5 => ⟨rfl, _, rfl, ?_⟩⟩
          refine ite2 (fun c1 => ?_) (fun c1 => ?_)
          · --
            have L1 : (ST (reps [55] 390)).length = 390 := by rw [SS_len, reps_len]; rfl
            have L2 : (ST (reps [49, 50] 190)).length = 380 := by rw [SS_len, reps_len]; rfl
            have L3 : (" " : Str).length = 1 := rfl
            have L4 : (":" : Str).length = 1 := rfl
            have L5 : (ST t).length = t.length := SS_len t
            refine ⟨[55], 390, rfl, rfl, by decide, by decide, by decide, _, _, rfl, rfl, ?_, _, rfl, _, _, rfl, rfl, ?_, _, _, rfl, rfl, ?_, [49, 50], 190, rfl, rfl, by decide, by decide, by decide, _, _, rfl, rfl, ?_, ?_⟩
            · rw [L1, L3]; decide
            · rw [PySem.strLen_append, L1, L3, L5]; exact Nat.le_trans (m := 5000) (by omega) (by decide)
            · rw [PySem.strLen_append, PySem.strLen_append, L1, L3, L4, L5]; exact Nat.le_trans (m := 5000) (by omega) (by decide)
            · rw [PySem.strLen_append, PySem.strLen_append, PySem.strLen_append, L1, L2, L3, L4, L5]; exact Nat.le_trans (m := 5000) (by omega) (by decide)
            · have es : ST (reps [55] 390) ++ (" " : Str) ++ ST t ++ (":" : Str) ++ ST (reps [49, 50] 190) = ST (reps [55] 390 ++ [32] ++ t ++ [58] ++ reps [49, 50] 190) := by
                show ST (reps [55] 390) ++ ST [32] ++ ST t ++ ST [58] ++ ST (reps [49, 50] 190) = _
                rw [cat2, cat2, cat2, cat2]
              rw [es]
              refine out _ _ ⟨_, rfl, ?_, ?_, src5⟩
              · simp only [List.length_append, reps_len, List.length_singleton, List.length_cons, List.length_nil]
                omega
              · intro c hc
                simp only [List.mem_append] at hc
                rcases hc with (((hc | hc) | hc) | hc) | hc
                · rw [List.mem_singleton.mp (reps_mem hc)]; decide
                · rw [List.mem_singleton.mp hc]; decide
                · exact t1 c hc
                · rw [List.mem_singleton.mp hc]; decide
                · have := reps_mem hc
                  simp at this
                  omega
          · exact ⟨_, rfl, out _ _ ⟨t, rfl, by omega, t1, src5⟩⟩
    · rintro σ H2 ⟨y2, y3, y4, y5, y6, y7, y8, y9, y10, rfl, src2⟩
      -- marks_of('') != () or ..
      have q1 : PyData.eqv (.tuple ((due []).found.map d3)) (.tuple []) = true := by decide +kernel
      have q2 : PyData.eqv (.tuple ((due [32, 32]).found.map d3)) (.tuple []) = true := by decide +kernel
      have q3 : PyData.eqv (.tuple ((due [32, 10]).found.map d3)) (.tuple [.tuple [.int 0, .int 1, .str ("\n" : Str)]]) = true := by decide +kernel
      have q4 : PyData.eqv (.tuple ((due [102, 105, 114, 58, 32, 109, 111, 115, 115, 10, 10, 32, 55, 120, 44, 108, 97, 114, 107]).found.map d3)) (.tuple [.tuple [.int 0, .int 0, .str ("fir" : Str)], .tuple [.int 0, .int 3, .str (":" : Str)], .tuple [.int 0, .int 5, .str ("moss" : Str)], .tuple [.int 0, .int 9, .str ("\n" : Str)], .tuple [.int 1, .int 0, .str ("\n" : Str)], .tuple [.int 2, .int 1, .str ("7" : Str)], .tuple [.int 2, .int 2, .str ("x" : Str)], .tuple [.int 2, .int 3, .str ("," : Str)], .tuple [.int 2, .int 4, .str ("lark" : Str)]]) = true := by decide +kernel
      have b4 : [V.str ("fir: moss\n\n 7x,lark" : Str)] = [V.str (SS [102, 105, 114, 58, 32, 109, 111, 115, 115, 10, 10, 32, 55, 120, 44, 108, 97, 114, 107])] := by decide +kernel
      refine ⟨[], rfl, by decide, fun r2 rs2 H3 s3 hr2 rr2 => ⟨Nat.zero_le _, fun z nz => ⟨_, .tuple [], .tup (.inl (.inl (same_upd nz _ _ hr2))) (dp3 (Rows.keep (fun b xs e => same_upd nz _ _ e) rr2)), .tup (.inl (.inl upd_same)) .nil, by decide +kernel, by decide +kernel, _, rfl, ?_⟩⟩⟩
      rw [q1]
      refine iteF ?_
      refine ⟨[32, 32], rfl, by decide, fun r3 rs3 H4 s4 hr3 rr3 => ⟨Nat.zero_le _, fun z nz => ⟨_, .tuple [], .tup (.inl (.inl (same_upd nz _ _ hr3))) (dp3 (Rows.keep (fun b xs e => same_upd nz _ _ e) rr3)), .tup (.inl (.inl upd_same)) .nil, by decide +kernel, by decide +kernel, _, rfl, ?_⟩⟩⟩
      rw [q2]
      refine iteF ?_
      refine ⟨[32, 10], rfl, by decide, fun r4 rs4 H5 s5 hr4 rr4 => ⟨(by show 3 ≤ sizeLine; decide), fun z1 nz1 => ⟨(by show 1 ≤ sizeLine; decide), fun z nz => ⟨_, .tuple [.tuple [.int 0, .int 1, .str ("\n" : Str)]], .tup (.inl (.inl (same_upd nz _ _ (same_upd nz1 _ _ hr4)))) (dp3 (Rows.keep (fun b xs e => same_upd nz _ _ (same_upd nz1 _ _ e)) rr4)), .tup (.inl (.inl upd_same)) (.cons (.tup (.inl (.inl (same_upd nz _ _ upd_same))) (.cons (.int _) (.cons (.int _) (.cons (.str _) .nil)))) .nil), by decide +kernel, by decide +kernel, _, rfl, ?_⟩⟩⟩⟩
      rw [q3]
      refine iteF ?_
      refine ⟨[102, 105, 114, 58, 32, 109, 111, 115, 115, 10, 10, 32, 55, 120, 44, 108, 97, 114, 107], b4, by decide, fun r5 rs5 H6 s6 hr5 rr5 => ⟨(by show 3 ≤ sizeLine; decide), fun z1 nz1 => ⟨(by show 3 ≤ sizeLine; decide), fun z2 nz2 => ⟨(by show 3 ≤ sizeLine; decide), fun z3 nz3 => ⟨(by show 3 ≤ sizeLine; decide), fun z4 nz4 => ⟨(by show 3 ≤ sizeLine; decide), fun z5 nz5 => ⟨(by show 3 ≤ sizeLine; decide), fun z6 nz6 => ⟨(by show 3 ≤ sizeLine; decide), fun z7 nz7 => ⟨(by show 3 ≤ sizeLine; decide), fun z8 nz8 => ⟨(by show 3 ≤ sizeLine; decide), fun z9 nz9 => ⟨(by show 9 ≤ sizeLine; decide), fun z nz => ⟨_, .tuple [.tuple [.int 0, .int 0, .str ("fir" : Str)], .tuple [.int 0, .int 3, .str (":" : Str)], .tuple [.int 0, .int 5, .str ("moss" : Str)], .tuple [.int 0, .int 9, .str ("\n" : Str)], .tuple [.int 1, .int 0, .str ("\n" : Str)], .tuple [.int 2, .int 1, .str ("7" : Str)], .tuple [.int 2, .int 2, .str ("x" : Str)], .tuple [.int 2, .int 3, .str ("," : Str)], .tuple [.int 2, .int 4, .str ("lark" : Str)]], .tup (.inl (.inl (same_upd nz _ _ (same_upd nz9 _ _ (same_upd nz8 _ _ (same_upd nz7 _ _ (same_upd nz6 _ _ (same_upd nz5 _ _ (same_upd nz4 _ _ (same_upd nz3 _ _ (same_upd nz2 _ _ (same_upd nz1 _ _ hr5)))))))))))) (dp3 (Rows.keep (fun b xs e => (same_upd nz _ _ (same_upd nz9 _ _ (same_upd nz8 _ _ (same_upd nz7 _ _ (same_upd nz6 _ _ (same_upd nz5 _ _ (same_upd nz4 _ _ (same_upd nz3 _ _ (same_upd nz2 _ _ (same_upd nz1 _ _ e))))))))))) rr5)), .tup (.inl (.inl upd_same)) (.cons (.tup (.inl (.inl (same_upd nz _ _ (same_upd nz9 _ _ (same_upd nz8 _ _ (same_upd nz7 _ _ (same_upd nz6 _ _ (same_upd nz5 _ _ (same_upd nz4 _ _ (same_upd nz3 _ _ (same_upd nz2 _ _ upd_same))))))))))) (.cons (.int _) (.cons (.int _) (.cons (.str _) .nil)))) (.cons (.tup (.inl (.inl (same_upd nz _ _ (same_upd nz9 _ _ (same_upd nz8 _ _ (same_upd nz7 _ _ (same_upd nz6 _ _ (same_upd nz5 _ _ (same_upd nz4 _ _ (same_upd nz3 _ _ upd_same)))))))))) (.cons (.int _) (.cons (.int _) (.cons (.str _) .nil)))) (.cons (.tup (.inl (.inl (same_upd nz _ _ (same_upd nz9 _ _ (same_upd nz8 _ _ (same_upd nz7 _ _ (same_upd nz6 _ _ (same_upd nz5 _ _ (same_upd nz4 _ _ upd_same))))))))) (.cons (.int _) (.cons (.int _) (.cons (.str _) .nil)))) (.cons (.tup (.inl (.inl (same_upd nz _ _ (same_upd nz9 _ _ (same_upd nz8 _ _ (same_upd nz7 _ _ (same_upd nz6 _ _ (same_upd nz5 _ _ upd_same)))))))) (.cons (.int _) (.cons (.int _) (.cons (.str _) .nil)))) (.cons (.tup (.inl (.inl (same_upd nz _ _ (same_upd nz9 _ _ (same_upd nz8 _ _ (same_upd nz7 _ _ (same_upd nz6 _ _ upd_same))))))) (.cons (.int _) (.cons (.int _) (.cons (.str _) .nil)))) (.cons (.tup (.inl (.inl (same_upd nz _ _ (same_upd nz9 _ _ (same_upd nz8 _ _ (same_upd nz7 _ _ upd_same)))))) (.cons (.int _) (.cons (.int _) (.cons (.str _) .nil)))) (.cons (.tup (.inl (.inl (same_upd nz _ _ (same_upd nz9 _ _ (same_upd nz8 _ _ upd_same))))) (.cons (.int _) (.cons (.int _) (.cons (.str _) .nil)))) (.cons (.tup (.inl (.inl (same_upd nz _ _ (same_upd nz9 _ _ upd_same)))) (.cons (.int _) (.cons (.int _) (.cons (.str _) .nil)))) (.cons (.tup (.inl (.inl (same_upd nz _ _ upd_same))) (.cons (.int _) (.cons (.int _) (.cons (.str _) .nil)))) .nil))))))))), by decide +kernel, by decide +kernel, ?_⟩⟩⟩⟩⟩⟩⟩⟩⟩⟩⟩⟩
      rw [q4]
      exact q _
end
end K05
namespace K05
open PySem PySem.Spec PyProof.Rows L2
theorem all_mk {l : PySem.W.OpenLaw} {w : World} {K : PySem.W.Frag} {h : Heap} {mg : Str → Option Value} {fa f1 f2 f3 f4 f5 f6 f7 f8 f9 f10 f11 : Addr} {tL tD : Tok} (X : K.In h) (G : h.Ns mainGlobals mg) (hfa : mg "law" = some (.ref fa))
    {od1 an1 od2 an2 od3 an3 od4 an4 od5 an5 od6 an6 od7 an7 od8 an8 od9 an9 od10 an10 od11 an11 : Option Addr} {sl1 sl2 sl3 sl4 sl5 sl6 sl7 sl8 sl9 sl10 sl11 : Array (Option Value)} {oc1 kV1 dc1 pm1 cd1 ct1 oc2 kV2 dc2 pm2 cd2 ct2 oc3 kV3 dc3 pm3 cd3 ct3 oc4 kV4 dc4 pm4 cd4 ct4 oc5 kV5 dc5 pm5 cd5 ct5 oc6 kV6 dc6 pm6 cd6 ct6 oc7 kV7 dc7 pm7 cd7 ct7 oc8 kV8 dc8 pm8 cd8 ct8 oc9 kV9 dc9 pm9 cd9 ct9 oc10 kV10 dc10 pm10 cd10 ct10 oc11 kV11 dc11 pm11 cd11 ct11 : Value}
    (a1 : PySem.W.nsIn K mainGlobals "marks_of" = some (some (.ref f1))) (l1 : K.lookup f1 = some ⟨oc1, od1, .func (PySem.W.fnOf "marks_of" "marks_of" (defArgs sMarks) (defBody sMarks) (defScope sMarks) .none kV1 dc1 pm1 an1 cd1 ct1), sl1⟩) (c1 : PySem.W.codeIn K cd1 "marks_of" = true) (k1 : PySem.W.keepIn K (.ref f1) = true)
    (a2 : PySem.W.nsIn K mainGlobals "_marks_of_line" = some (some (.ref f2))) (l2 : K.lookup f2 = some ⟨oc2, od2, .func (PySem.W.fnOf "_marks_of_line" "_marks_of_line" (defArgs sLine) (defBody sLine) (defScope sLine) .none kV2 dc2 pm2 an2 cd2 ct2), sl2⟩) (c2 : PySem.W.codeIn K cd2 "_marks_of_line" = true) (k2 : PySem.W.keepIn K (.ref f2) = true)
    (a3 : PySem.W.nsIn K mainGlobals "_end_of_mark" = some (some (.ref f3))) (l3 : K.lookup f3 = some ⟨oc3, od3, .func (PySem.W.fnOf "_end_of_mark" "_end_of_mark" (defArgs sEnd) (defBody sEnd) (defScope sEnd) .none kV3 dc3 pm3 an3 cd3 ct3), sl3⟩) (c3 : PySem.W.codeIn K cd3 "_end_of_mark" = true) (k3 : PySem.W.keepIn K (.ref f3) = true)
    (a4 : PySem.W.nsIn K mainGlobals "_end_of_run" = some (some (.ref f4))) (l4 : K.lookup f4 = some ⟨oc4, od4, .func (PySem.W.fnOf "_end_of_run" "_end_of_run" (defArgs sRun) (defBody sRun) (defScope sRun) .none kV4 dc4 pm4 an4 cd4 ct4), sl4⟩) (c4 : PySem.W.codeIn K cd4 "_end_of_run" = true) (k4 : PySem.W.keepIn K (.ref f4) = true)
    (a5 : PySem.W.nsIn K mainGlobals "_law_heap" = some (some (.ref f5))) (l5 : K.lookup f5 = some ⟨oc5, od5, .func (PySem.W.fnOf "_law_heap" "_law_heap" (defArgs sHeap) (defBody sHeap) (defScope sHeap) .none kV5 dc5 pm5 an5 cd5 ct5), sl5⟩) (c5 : PySem.W.codeIn K cd5 "_law_heap" = true) (k5 : PySem.W.keepIn K (.ref f5) = true)
    (a6 : PySem.W.nsIn K mainGlobals "_law_draw" = some (some (.ref f6))) (l6 : K.lookup f6 = some ⟨oc6, od6, .func (PySem.W.fnOf "_law_draw" "_law_draw" (defArgs sDraw) (defBody sDraw) (defScope sDraw) .none kV6 dc6 pm6 an6 cd6 ct6), sl6⟩) (c6 : PySem.W.codeIn K cd6 "_law_draw" = true) (k6 : PySem.W.keepIn K (.ref f6) = true)
    (a7 : PySem.W.nsIn K mainGlobals "_law_pick" = some (some (.ref f7))) (l7 : K.lookup f7 = some ⟨oc7, od7, .func (PySem.W.fnOf "_law_pick" "_law_pick" (defArgs sPick) (defBody sPick) (defScope sPick) .none kV7 dc7 pm7 an7 cd7 ct7), sl7⟩) (c7 : PySem.W.codeIn K cd7 "_law_pick" = true) (k7 : PySem.W.keepIn K (.ref f7) = true)
    (a8 : PySem.W.nsIn K mainGlobals "_law_kind" = some (some (.ref f8))) (l8 : K.lookup f8 = some ⟨oc8, od8, .func (PySem.W.fnOf "_law_kind" "_law_kind" (defArgs sKind) (defBody sKind) (defScope sKind) .none kV8 dc8 pm8 an8 cd8 ct8), sl8⟩) (c8 : PySem.W.codeIn K cd8 "_law_kind" = true) (k8 : PySem.W.keepIn K (.ref f8) = true)
    (a9 : PySem.W.nsIn K mainGlobals "_law_marks" = some (some (.ref f9))) (l9 : K.lookup f9 = some ⟨oc9, od9, .func (PySem.W.fnOf "_law_marks" "_law_marks" (defArgs sDue) (defBody sDue) (defScope sDue) .none kV9 dc9 pm9 an9 cd9 ct9), sl9⟩) (c9 : PySem.W.codeIn K cd9 "_law_marks" = true) (k9 : PySem.W.keepIn K (.ref f9) = true)
    (a10 : PySem.W.nsIn K mainGlobals "_law_piece" = some (some (.ref f10))) (l10 : K.lookup f10 = some ⟨oc10, od10, .func (PySem.W.fnOf "_law_piece" "_law_piece" (defArgs sPiece) (defBody sPiece) (defScope sPiece) .none kV10 dc10 pm10 an10 cd10 ct10), sl10⟩) (c10 : PySem.W.codeIn K cd10 "_law_piece" = true) (k10 : PySem.W.keepIn K (.ref f10) = true)
    (a11 : PySem.W.nsIn K mainGlobals "law" = some (some (.ref f11))) (l11 : K.lookup f11 = some ⟨oc11, od11, .func (PySem.W.fnOf "law" "law" (defArgs sLaw) (defBody sLaw) (defScope sLaw) .none kV11 dc11 pm11 an11 cd11 ct11), sl11⟩) (c11 : PySem.W.codeIn K cd11 "law" = true) (k11 : PySem.W.keepIn K (.ref f11) = true)
    (z_len : PySem.W.nsIn K mainGlobals "len" = some none)
    (z_enumerate : PySem.W.nsIn K mainGlobals "enumerate" = some none)
    (z_tuple : PySem.W.nsIn K mainGlobals "tuple" = some none)
    (z_range : PySem.W.nsIn K mainGlobals "range" = some none)
    (z_int : PySem.W.nsIn K mainGlobals "int" = some none)
    (z_abs : PySem.W.nsIn K mainGlobals "abs" = some none)
    (z_repr : PySem.W.nsIn K mainGlobals "repr" = some none)
    (cL : PySem.W.nsIn K mainGlobals "LETTERS" = some (some (.str ("abcdefghijklmnopqrstuvwxyz" : Str) tL))) (cD : PySem.W.nsIn K mainGlobals "DIGITS" = some (some (.str ("0123456789" : Str) tD))) :
    ∃ fd : FuncData, (∀ (s : Shared) (v : Value), BindsTo s fd ⟨[v], []⟩ [("script", v)]) ∧ ∀ base : Heap, K.In base → base.Ns mainGlobals mg → RunG l.prog w K mg base 5 fa fd ["script"] (spLaw K) := by
  have e := hfa.symm.trans (PySem.W.mg_of X G a11)
  cases e
  have F1 := fun_mk (st := sMarks) l1 c1 k1
  have F2 := fun_mk (st := sLine) l2 c2 k2
  have F3 := fun_mk (st := sEnd) l3 c3 k3
  have F4 := fun_mk (st := sRun) l4 c4 k4
  have F5 := fun_mk (st := sHeap) l5 c5 k5
  have F6 := fun_mk (st := sDraw) l6 c6 k6
  have F7 := fun_mk (st := sPick) l7 c7 k7
  have F8 := fun_mk (st := sKind) l8 c8 k8
  have F9 := fun_mk (st := sDue) l9 c9 k9
  have F10 := fun_mk (st := sPiece) l10 c10 k10
  have F11 := fun_mk (st := sLaw) l11 c11 k11
  have b1 := F1.binds (ps := ["text"]) fun _ _ _ _ _ _ us hl => match us, hl with | [_], _ => rfl
  have b2 := F2.binds (ps := ["line"]) fun _ _ _ _ _ _ us hl => match us, hl with | [_], _ => rfl
  have b3 := F3.binds (ps := ["line", "at"]) fun _ _ _ _ _ _ us hl => match us, hl with | [_, _], _ => rfl
  have b4 := F4.binds (ps := ["line", "at", "signs"]) fun _ _ _ _ _ _ us hl => match us, hl with | [_, _, _], _ => rfl
  have b5 := F5.binds (ps := ["script"]) fun _ _ _ _ _ _ us hl => match us, hl with | [_], _ => rfl
  have b6 := F6.binds (ps := ["heap", "many"]) fun _ _ _ _ _ _ us hl => match us, hl with | [_, _], _ => rfl
  have b7 := F7.binds (ps := ["heap", "some"]) fun _ _ _ _ _ _ us hl => match us, hl with | [_, _], _ => rfl
  have b8 := F8.binds (ps := ["sign"]) fun _ _ _ _ _ _ us hl => match us, hl with | [_], _ => rfl
  have b9 := F9.binds (ps := ["text"]) fun _ _ _ _ _ _ us hl => match us, hl with | [_], _ => rfl
  have b10 := F10.binds (ps := ["heap"]) fun _ _ _ _ _ _ us hl => match us, hl with | [_], _ => rfl
  have m_len := PySem.W.mg_none_of X G z_len
  have m_enumerate := PySem.W.mg_none_of X G z_enumerate
  have m_tuple := PySem.W.mg_none_of X G z_tuple
  have m_range := PySem.W.mg_none_of X G z_range
  have m_int := PySem.W.mg_none_of X G z_int
  have m_abs := PySem.W.mg_none_of X G z_abs
  have m_repr := PySem.W.mg_none_of X G z_repr
  have eL : (("abcdefghijklmnopqrstuvwxyz" : String) : Str) = SS LET := by decide +kernel
  have eD : (("0123456789" : String) : Str) = SS DIG := by decide +kernel
  have mL := PySem.W.mg_of X G cL
  rw [eL] at mL
  have mD := PySem.W.mg_of X G cD
  rw [eD] at mD
  have m1 := PySem.W.mg_of X G a1
  have m2 := PySem.W.mg_of X G a2
  have m3 := PySem.W.mg_of X G a3
  have m4 := PySem.W.mg_of X G a4
  have m5 := PySem.W.mg_of X G a5
  have m6 := PySem.W.mg_of X G a6
  have m7 := PySem.W.mg_of X G a7
  have m8 := PySem.W.mg_of X G a8
  have m9 := PySem.W.mg_of X G a9
  have m10 := PySem.W.mg_of X G a10
  refine ⟨PySem.W.fnOf "law" "law" (defArgs sLaw) (defBody sLaw) (defScope sLaw) .none kV11 dc11 pm11 an11 cd11 ct11, fun s v => .of_eq rfl, fun base _ _ => ?_⟩
  have g4 := ok_run (P := l.prog) (w := w) (base := base) (k := 0) F4 m_len
  have g3 := ok_end (k := 1) F3 g4 b4 k4 m4 mL mD
  have g2 := ok_line (k := 2) F2 g3 b3 k3 m3 m_len
  have g1 := ok_marks (k := 3) F1 g2 b2 k2 m2 m_len m_enumerate m_tuple
  have g5 := ok_heap (P := l.prog) (w := w) (base := base) (k := 3) F5 m_int m_abs
  have g6 := ok_draw (P := l.prog) (w := w) (base := base) (k := 0) F6 m_int
  have g7 := ok_pick (k := 1) F7 g6 b6 k6 m6 m_len
  have g8 := ok_kind (P := l.prog) (w := w) (mg := mg) (base := base) (k := 0) F8
  have g9 := ok_due_def (k := 1) F9 g8 b8 k8 m8 m_len
  have g10 := ok_piece (k := 2) F10 (g6.mono (by decide)) b6 k6 m6 g7 b7 k7 m7 m_range
  have n1 := named1 (n := "text") F1 (fun _ _ _ _ _ _ _ => rfl) (fun _ _ _ _ _ _ _ => rfl)
  exact ok_law F11 ⟨g5, b5, k5, m5, g6.mono (by decide), b6, k6, m6, g7.mono (by decide), b7, k7, m7, g10.mono (by decide), b10, k10, m10, g1, b1, n1, k1, m1, g9.mono (by decide), b9, k9, m9, m_range, m_int, m_len, m_tuple, m_repr⟩
end K05
open PySem PySem.W PyProof.Rows
set_option maxHeartbeats 0 in
theorem PySem.Challenge.cw_lastpairs_k05_marks_cut_and_joined_holds : PySem.Challenge.rw_lastpairs_k05_marks_cut_and_joined.Holds := by
  w_on; o_law; k_head; (case hw => w_witness2)
  k_fill
  refine K05.walkG (l := PySem.Challenge.rw_lastpairs_k05_marks_cut_and_joined) (n := 63) (k := 5) (x := "script") (sp := K05.spLaw) rfl (by decide) rfl ⟨rfl, by decide, by decide⟩ (fun w h Y => PySem.W.kIn_of Y) ?F (fun _ _ a ns hl hS => ⟨a, ns, rfl, hS, hl, fun _ => rfl⟩)
  case F =>
    intro w mg fa h KX G hmg
    refine' K05.all_mk KX G hmg ?a1 ?l1 ?c1 ?k1 ?a2 ?l2 ?c2 ?k2 ?a3 ?l3 ?c3 ?k3 ?a4 ?l4 ?c4 ?k4 ?a5 ?l5 ?c5 ?k5 ?a6 ?l6 ?c6 ?k6 ?a7 ?l7 ?c7 ?k7 ?a8 ?l8 ?c8 ?k8 ?a9 ?l9 ?c9 ?k9 ?a10 ?l10 ?c10 ?k10 ?a11 ?l11 ?c11 ?k11 ?z_len ?z_enumerate ?z_tuple ?z_range ?z_int ?z_abs ?z_repr ?cL ?cD
    (case a1 => k_is); (case l1 => k_is); (case c1 => k_is); (case k1 => k_is); (case a2 => k_is); (case l2 => k_is); (case c2 => k_is); (case k2 => k_is); (case a3 => k_is); (case l3 => k_is); (case c3 => k_is); (case k3 => k_is); (case a4 => k_is); (case l4 => k_is); (case c4 => k_is); (case k4 => k_is); (case a5 => k_is); (case l5 => k_is); (case c5 => k_is); (case k5 => k_is); (case a6 => k_is); (case l6 => k_is); (case c6 => k_is); (case k6 => k_is); (case a7 => k_is); (case l7 => k_is); (case c7 => k_is); (case k7 => k_is); (case a8 => k_is); (case l8 => k_is); (case c8 => k_is); (case k8 => k_is); (case a9 => k_is); (case l9 => k_is); (case c9 => k_is); (case k9 => k_is); (case a10 => k_is); (case l10 => k_is); (case c10 => k_is); (case k10 => k_is); (case a11 => k_is); (case l11 => k_is); (case c11 => k_is); (case k11 => k_is); (case z_len => k_is); (case z_enumerate => k_is); (case z_tuple => k_is); (case z_range => k_is); (case z_int => k_is); (case z_abs => k_is); (case z_repr => k_is); (case cL => k_is); (case cD => k_is)
