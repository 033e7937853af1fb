import PyProof.Rows.All
import Wide.All
import OpenK.AllK
import Wide.FinOn
import PyProof.EqAt
import PyProof.EqKinds
import PyProof.TupleCall
import PyProof.DictTable
import Open.SpecLaws
import KE.OsGo
import KE.KExcInit
import PySem.Challenge.RW_icebreaks_s01_answers
import HandS.ForSpec
import HandS.ForMost
import HandS.ExcInit
import HandS.ExcField
import HandS.SortInts
import HandS.SetFor
import HandS.Flow
import HandS.Conv
import HandS.Wide
set_option Elab.async false
set_option linter.all false
set_option autoImplicit false
set_option maxRecDepth 100000
set_option maxHeartbeats 4000000
/-! Lists of growths and of breaks: the mathematics of the icebreaking schedule, over the specification's own words. -/
namespace Ice
abbrev Sch := Km562.Schedule

/-! ### sums and slices -/
theorem ksum (l : List Nat) : Km562.sum l = l.sum := by
  have h : ∀ (l : List Nat) (a : Nat), l.foldl (fun (a b : Nat) => a + b) a = a + l.sum := by
    intro l
    induction l with
    | nil => intro a; simp
    | cons x r ih => intro a; rw [List.foldl_cons, ih, List.sum_cons]; omega
  unfold Km562.sum
  rw [h]; omega
/-- g[a:b] -/
def cut (g : List Nat) (a b : Nat) : List Nat := (g.drop a).take (b - a)
def thick (g : List Nat) (a b : Nat) : Nat := (cut g a (b + 1)).sum
theorem getD_drop (g : List Nat) (a i : Nat) : g.getD (a + i) 0 = (g.drop a).getD i 0 := by
  simp [List.getD_eq_getElem?_getD]
theorem range_sum (l : List Nat) : ∀ n : Nat, ((List.range n).map fun i => l.getD i 0).sum = (l.take n).sum
  | 0 => by simp
  | n + 1 => by
    rw [List.range_succ, List.map_append, List.sum_append, range_sum l n, List.take_succ, List.sum_append]
    simp only [List.map_cons, List.map_nil, List.sum_cons, List.sum_nil, Nat.add_zero, List.getD_eq_getElem?_getD]
    cases l[n]? <;> simp
theorem thick_eq (s : Sch) (a b : Nat) : Km562.thickness s a b = thick s.growth a b := by
  unfold Km562.thickness thick cut
  rw [ksum]
  have e : (fun i => s.growth.getD (a + i) 0) = fun i => (s.growth.drop a).getD i 0 := funext fun i => getD_drop _ _ _
  rw [e, range_sum]
theorem effort_eq (s : Sch) (a b : Nat) : Km562.effort s a b = thick s.growth a b * thick s.growth a b := by
  unfold Km562.effort
  rw [thick_eq]
theorem sum_le {l : List Nat} {m : Nat} (h : ∀ x ∈ l, x ≤ m) : l.sum ≤ l.length * m := by
  induction l with
  | nil => simp
  | cons x r ih =>
    rw [List.sum_cons, List.length_cons, Nat.add_mul]
    have h1 := h x (List.mem_cons_self ..)
    have h2 := ih fun y hy => h y (List.mem_cons_of_mem _ hy)
    omega
theorem thick_le {g : List Nat} {a b : Nat} (hl : g.length ≤ 10) (hm : ∀ x ∈ g, x ≤ 30) : thick g a b ≤ 300 := by
  unfold thick cut
  have h := sum_le (l := (g.drop a).take (b + 1 - a)) (m := 30) fun x hx => hm x (List.drop_subset _ _ (List.take_subset _ _ hx))
  have h2 : ((g.drop a).take (b + 1 - a)).length ≤ 10 := by
    rw [List.length_take, List.length_drop]; omega
  omega

/-! ### breaks -/
def up (bs : List Nat) : Prop := bs.Pairwise (· < ·)
/-- a break's first day, as the program looks for it -/
def firstDay (bs : List Nat) (day : Nat) : Nat := bs.foldl (fun f o => if o < day then o + 1 else f) 0
theorem firstDay_fold (day : Nat) : ∀ (bs : List Nat) (f : Nat), up bs → (∀ b ∈ bs, f ≤ b + 1) →
    bs.foldl (fun f o => if o < day then o + 1 else f) f = (bs.filter fun b => decide (b < day)).foldl (fun (first b : Nat) => max first (b + 1)) f
  | [], _, _, _ => rfl
  | b :: r, f, hu, hf => by
    have hu' := List.pairwise_cons.mp hu
    rw [List.foldl_cons]
    by_cases c : b < day
    · rw [if_pos c, List.filter_cons_of_pos (by simpa using c), List.foldl_cons]
      have e : max f (b + 1) = b + 1 := Nat.max_eq_right (hf b (List.mem_cons_self ..))
      rw [e]
      exact firstDay_fold day r (b + 1) hu'.2 fun x hx => Nat.le_succ_of_le (hu'.1 x hx)
    · rw [if_neg c, List.filter_cons_of_neg (by simpa using c)]
      exact firstDay_fold day r f hu'.2 fun x hx => hf x (List.mem_cons_of_mem _ hx)
theorem thicknessAt_eq (s : Sch) (hu : up s.breaks) (day : Nat) : Km562.thicknessAt s day = thick s.growth (firstDay s.breaks day) day := by
  unfold Km562.thicknessAt
  rw [thick_eq]
  unfold firstDay
  rw [firstDay_fold day s.breaks 0 hu fun b _ => Nat.zero_le _]
theorem firstDay_big (day : Nat) : ∀ (bs : List Nat) (f : Nat), (∀ b ∈ bs, day ≤ b) → bs.foldl (fun f o => if o < day then o + 1 else f) f = f
  | [], _, _ => rfl
  | b :: r, f, h => by
    rw [List.foldl_cons, if_neg (Nat.not_lt.mpr (h b (List.mem_cons_self ..)))]
    exact firstDay_big day r f fun x hx => h x (List.mem_cons_of_mem _ hx)
theorem firstDay_small (day : Nat) : ∀ (bs : List Nat) (f : Nat), (∀ b ∈ bs, b < day) → bs.foldl (fun f o => if o < day then o + 1 else f) f = bs.foldl (fun _ o => o + 1) f
  | [], _, _ => rfl
  | b :: r, f, h => by
    rw [List.foldl_cons, List.foldl_cons, if_pos (h b (List.mem_cons_self ..))]
    exact firstDay_small day r (b + 1) fun x hx => h x (List.mem_cons_of_mem _ hx)
theorem thicknesses_from (s : Sch) : ∀ (bs pre : List Nat), up (pre ++ bs) →
    Km562.thicknessesFrom s (pre.foldl (fun _ o => o + 1) 0) bs = bs.map fun d => thick s.growth (firstDay (pre ++ bs) d) d
  | [], _, _ => rfl
  | d :: r, pre, hu => by
    have e : pre ++ d :: r = (pre ++ [d]) ++ r := by simp
    have h1 := List.pairwise_append.mp hu
    have h2 := List.pairwise_cons.mp h1.2.1
    have ef : firstDay (pre ++ d :: r) d = pre.foldl (fun _ o => o + 1) 0 := by
      unfold firstDay
      rw [List.foldl_append, firstDay_small d pre 0 fun b hb => h1.2.2 b hb d (List.mem_cons_self ..), List.foldl_cons, if_neg (Nat.lt_irrefl d),
        firstDay_big d r _ fun b hb => Nat.le_of_lt (h2.1 b hb)]
    show Km562.thickness s (pre.foldl (fun _ o => o + 1) 0) d :: Km562.thicknessesFrom s (d + 1) r = _
    have ih := thicknesses_from s r (pre ++ [d]) (by rw [← e]; exact hu)
    have e2 : (pre ++ [d]).foldl (fun _ o => o + 1) 0 = d + 1 := by simp
    rw [e2, ← e] at ih
    rw [ih, List.map_cons, ef, thick_eq]
def removed (g bs : List Nat) : List Nat := bs.map fun d => thick g (firstDay bs d) d
theorem thicknesses_eq (s : Sch) {bs : List Nat} (hu : up bs) : Km562.thicknesses s bs = removed s.growth bs := thicknesses_from s bs [] hu
def effortOf (g bs : List Nat) : Nat := ((removed g bs).map fun x => x * x).sum
theorem totalEffort_eq (s : Sch) {bs : List Nat} (hu : up bs) : Km562.totalEffort s bs = effortOf s.growth bs := by
  unfold Km562.totalEffort effortOf
  rw [ksum, thicknesses_eq s hu]

/-! ### inserting, removing -/
theorem mem_insert (x : Nat) : ∀ (l : List Nat) (y : Nat), y ∈ Km562.insertDay x l ↔ y = x ∨ y ∈ l
  | [], y => by simp [Km562.insertDay]
  | z :: r, y => by
    unfold Km562.insertDay
    by_cases h : x = z
    · rw [if_pos h, h]; simp
    · rw [if_neg h]
      by_cases h2 : x < z
      · rw [if_pos h2]; simp
      · rw [if_neg h2, List.mem_cons, mem_insert x r y, List.mem_cons]
        constructor
        · rintro (h | h | h)
          · exact .inr (.inl h)
          · exact .inl h
          · exact .inr (.inr h)
        · rintro (h | h | h)
          · exact .inr (.inl h)
          · exact .inl h
          · exact .inr (.inr h)
theorem up_insert (x : Nat) : ∀ l : List Nat, up l → up (Km562.insertDay x l)
  | [], _ => by simp [Km562.insertDay, up]
  | z :: r, h => by
    have h' := List.pairwise_cons.mp h
    unfold Km562.insertDay
    by_cases e : x = z
    · rw [if_pos e]; exact h
    · rw [if_neg e]
      by_cases e2 : x < z
      · rw [if_pos e2]
        refine List.pairwise_cons.mpr ⟨fun y hy => ?_, h⟩
        rcases List.mem_cons.mp hy with q | q
        · rw [q]; exact e2
        · exact Nat.lt_trans e2 (h'.1 y q)
      · rw [if_neg e2]
        refine List.pairwise_cons.mpr ⟨fun y hy => ?_, up_insert x r h'.2⟩
        rcases (mem_insert x r y).mp hy with q | q
        · rw [q]; omega
        · exact h'.1 y q
theorem perm_insert (x : Nat) : ∀ l : List Nat, x ∉ l → (Km562.insertDay x l).Perm (l ++ [x])
  | [], _ => by simp [Km562.insertDay]
  | z :: r, h => by
    have h1 : ¬ x = z := fun e => h (by rw [e]; exact List.mem_cons_self ..)
    have h2 : x ∉ r := fun m => h (List.mem_cons_of_mem _ m)
    unfold Km562.insertDay
    rw [if_neg h1]
    by_cases e2 : x < z
    · rw [if_pos e2]
      exact (List.perm_append_comm (l₁ := [x]) (l₂ := z :: r))
    · rw [if_neg e2]
      exact (perm_insert x r h2).cons z
theorem firstDay_insert (day : Nat) (bs : List Nat) (hu : up bs) : firstDay (Km562.insertDay day bs) day = firstDay bs day := by
  have key : ∀ (bs : List Nat) (f : Nat), (Km562.insertDay day bs).foldl (fun f o => if o < day then o + 1 else f) f = bs.foldl (fun f o => if o < day then o + 1 else f) f := by
    intro bs
    induction bs with
    | nil => intro f; simp [Km562.insertDay]
    | cons z r ih =>
      intro f
      unfold Km562.insertDay
      by_cases e : day = z
      · rw [if_pos e]
      · rw [if_neg e]
        by_cases e2 : day < z
        · rw [if_pos e2, List.foldl_cons, if_neg (Nat.lt_irrefl _)]
        · rw [if_neg e2, List.foldl_cons, List.foldl_cons, ih]
  exact key bs 0
/-- two increasing lists of the same members -/
theorem up_ext : ∀ {l k : List Nat}, up l → up k → (∀ x, x ∈ l ↔ x ∈ k) → l = k
  | [], [], _, _, _ => rfl
  | [], y :: k, _, _, h => absurd ((h y).mpr (List.mem_cons_self ..)) (by simp)
  | x :: l, [], _, _, h => absurd ((h x).mp (List.mem_cons_self ..)) (by simp)
  | x :: l, y :: k, hl, hk, h => by
    have h1 := List.pairwise_cons.mp hl
    have h2 := List.pairwise_cons.mp hk
    have e : x = y := by
      rcases List.mem_cons.mp ((h x).mp (List.mem_cons_self ..)) with q | q
      · exact q
      · rcases List.mem_cons.mp ((h y).mpr (List.mem_cons_self ..)) with q2 | q2
        · exact q2.symm
        · have a := h2.1 x q
          have b := h1.1 y q2
          omega
    subst e
    rw [up_ext (l := l) (k := k) h1.2 h2.2 fun z => ?_]
    constructor
    · intro hz
      rcases List.mem_cons.mp ((h z).mp (List.mem_cons_of_mem _ hz)) with q | q
      · rw [q] at hz; exact absurd (h1.1 x hz) (Nat.lt_irrefl _)
      · exact q
    · intro hz
      rcases List.mem_cons.mp ((h z).mpr (List.mem_cons_of_mem _ hz)) with q | q
      · rw [q] at hz; exact absurd (h2.1 x hz) (Nat.lt_irrefl _)
      · exact q
/-- what sorted hands over of an increasing list and a new member -/
theorem sorted_insert {day : Nat} {bs : List Nat} (hu : up bs) (hn : day ∉ bs) {l : List Nat} (hp : l.Perm (bs ++ [day])) (hs : l.Pairwise (· ≤ ·)) : l = Km562.insertDay day bs := by
  have nd : (bs ++ [day]).Nodup := by
    refine List.nodup_append.mpr ⟨hu.imp (fun h => Nat.ne_of_lt h), by simp, fun a ha b hb => ?_⟩
    rintro rfl
    rw [List.mem_singleton.mp hb] at ha
    exact hn ha
  have nl : l.Nodup := hp.nodup_iff.mpr nd
  have ul : up l := hs.imp₂ (fun a b h1 h2 => Nat.lt_of_le_of_ne h1 h2) nl
  refine up_ext ul (up_insert day bs hu) fun x => ?_
  rw [hp.mem_iff, mem_insert, List.mem_append, List.mem_singleton]
  exact or_comm
theorem erase_at : ∀ (bs : List Nat) (d j : Nat), up bs → bs[j]? = some d → bs.eraseIdx j = bs.filter fun b => b != d
  | [], _, _, _, h => by simp at h
  | b :: r, d, 0, hu, h => by
    have e : b = d := Option.some.inj h
    have h1 := List.pairwise_cons.mp hu
    rw [← e, List.filter_cons_of_neg (by simp), List.eraseIdx_cons_zero]
    exact (List.filter_eq_self.mpr fun x hx => by simpa using Nat.ne_of_gt (h1.1 x hx)).symm
  | b :: r, d, j + 1, hu, h => by
    have h1 := List.pairwise_cons.mp hu
    have hr : r[j]? = some d := h
    have hd : d ∈ r := List.mem_of_getElem? hr
    have ne := h1.1 d hd
    rw [List.filter_cons_of_pos (by simpa using Nat.ne_of_lt ne), List.eraseIdx_cons_succ, erase_at r d j h1.2 hr]
theorem up_filter {bs : List Nat} (p : Nat → Bool) (hu : up bs) : up (bs.filter p) := List.Pairwise.filter _ hu
theorem up_nodup {bs : List Nat} (hu : up bs) : bs.Nodup := hu.imp fun h => Nat.ne_of_lt h
/-- the place of a member, and none ahead -/
theorem place_of {bs : List Nat} (hu : up bs) {d : Nat} (h : d ∈ bs) : ∃ j : Nat, bs[j]? = some d ∧ ∀ m : Nat, m < j → bs[m]? ≠ some d := by
  obtain ⟨j, hj, e⟩ := List.mem_iff_getElem.mp h
  have ej : bs[j]? = some d := by rw [List.getElem?_eq_getElem hj, e]
  refine ⟨j, ej, fun m hm q => ?_⟩
  obtain ⟨hm', e'⟩ := List.getElem?_eq_some_iff.mp q
  have z := (List.getElem_inj (up_nodup hu)).mp (e'.trans e.symm)
  omega
theorem filter_len {bs : List Nat} (hu : up bs) {d : Nat} (h : d ∈ bs) : (bs.filter fun b => b != d).length = bs.length - 1 := by
  obtain ⟨j, ej, _⟩ := place_of hu h
  rw [← erase_at bs d j hu ej, List.length_eraseIdx, if_pos (List.getElem?_eq_some_iff.mp ej).1]
theorem up_length : ∀ {bs : List Nat} {n k : Nat}, up bs → (∀ b ∈ bs, k ≤ b ∧ b < n) → bs.length ≤ n - k
  | [], _, _, _, _ => Nat.zero_le _
  | b :: r, n, k, hu, h => by
    have h1 := List.pairwise_cons.mp hu
    have hb := h b (List.mem_cons_self ..)
    have ih := up_length (bs := r) (n := n) (k := b + 1) h1.2 fun x hx => ⟨h1.1 x hx, (h x (List.mem_cons_of_mem _ hx)).2⟩
    rw [List.length_cons]; omega
/-- the last of an increasing list -/
theorem last_up : ∀ {bs : List Nat} {n : Nat}, up bs → (∀ b ∈ bs, b < n + 1) → (n ∈ bs ↔ bs.reverse.headD 99 + 1 = n + 1 ∧ bs ≠ []) := by
  intro bs n hu h
  cases e : bs.reverse with
  | nil =>
    have e2 : bs = [] := by simpa using congrArg List.reverse e
    subst e2; simp
  | cons x r =>
    have e2 : bs = r.reverse ++ [x] := by simpa using congrArg List.reverse e
    subst e2
    have h1 := List.pairwise_append.mp hu
    simp only [List.headD_cons]
    constructor
    · intro hm
      rcases List.mem_append.mp hm with q | q
      · have a := h1.2.2 n q x (List.mem_singleton.mpr rfl)
        have b := h x (by simp)
        omega
      · exact ⟨by rw [List.mem_singleton.mp q], by simp⟩
    · rintro ⟨q, _⟩
      have : x = n := by omega
      rw [this]; simp
end Ice

/-! The optimal breaks: the table that the program fills, against the specification's recursion. -/
namespace Ice
abbrev Pl := Nat × List Nat
/-- one candidate more: the plan that is best so far, and what lies behind the break on `day` -/
def better (g : List Nat) (m first : Nat) (later : Nat → Option Pl) (best : Option Pl) (day : Nat) : Option Pl :=
  if thick g first day ≤ m then
    match later (day + 1) with
    | none => best
    | some r => match best with
      | none => some (thick g first day * thick g first day + r.1, day :: r.2)
      | some o => if thick g first day * thick g first day + r.1 < o.1 then some (thick g first day * thick g first day + r.1, day :: r.2) else some o
  else best
/-- the days from first on -/
def days (first n : Nat) : List Nat := (List.range (n - first)).map (first + ·)
def bestFrom (g : List Nat) (m first : Nat) (later : Nat → Option Pl) : Option Pl := (days first g.length).foldl (better g m first later) none
theorem optFrom_zero (s : Sch) (f : Nat) : Km562.optimalFrom s 0 f = if s.growth.length ≤ f then some (0, []) else none := rfl
theorem optFrom_succ (s : Sch) (k f : Nat) : Km562.optimalFrom s (k + 1) f = bestFrom s.growth s.maxThickness f (Km562.optimalFrom s k) := by
  unfold Km562.optimalFrom
  unfold Km562.dayCount
  by_cases h : s.growth.length ≤ f
  · rw [if_pos h]
    unfold bestFrom days
    rw [Nat.sub_eq_zero_of_le h]; rfl
  · rw [if_neg h]
    unfold bestFrom days
    rw [List.foldl_map]
    congr 1
    funext best i
    unfold better
    rw [thick_eq, effort_eq]
    by_cases c : s.maxThickness < thick s.growth f (f + i)
    · rw [if_pos c, if_neg (Nat.not_le.mpr c)]
    · rw [if_neg c, if_pos (Nat.not_lt.mp c)]
      cases Km562.optimalFrom s k (f + i + 1) with
      | none => rfl
      | some r => cases best <;> rfl
/-! ### what the fold gives -/
/-- the best of a list of candidate days: it is a candidate, and none is better -/
def IsBest (g : List Nat) (m first : Nat) (later : Nat → Option Pl) (ds : List Nat) (r : Option Pl) : Prop :=
  (∀ p, r = some p → ∃ d ∈ ds, thick g first d ≤ m ∧ ∃ q, later (d + 1) = some q ∧ p = (thick g first d * thick g first d + q.1, d :: q.2)) ∧
  (∀ d ∈ ds, thick g first d ≤ m → ∀ q, later (d + 1) = some q → ∃ p, r = some p ∧ p.1 ≤ thick g first d * thick g first d + q.1)
theorem isBest_step {g : List Nat} {m first : Nat} {later : Nat → Option Pl} {ds : List Nat} {r : Option Pl} (h : IsBest g m first later ds r) (d : Nat) :
    IsBest g m first later (ds ++ [d]) (better g m first later r d) := by
  have old : ∀ p, r = some p → ∃ d' ∈ ds ++ [d], thick g first d' ≤ m ∧ ∃ q, later (d' + 1) = some q ∧ p = (thick g first d' * thick g first d' + q.1, d' :: q.2) := fun p e => by
    obtain ⟨d', m', q⟩ := h.1 p e
    exact ⟨d', List.mem_append_left _ m', q⟩
  unfold better
  by_cases c : thick g first d ≤ m
  · rw [if_pos c]
    cases e : later (d + 1) with
    | none =>
      refine ⟨old, fun d' hd c' q eq => ?_⟩
      rcases List.mem_append.mp hd with z | z
      · exact h.2 d' z c' q eq
      · rw [List.mem_singleton.mp z, e] at eq; cases eq
    | some q0 =>
      have new : ∃ d' ∈ ds ++ [d], thick g first d' ≤ m ∧ ∃ q, later (d' + 1) = some q ∧ (thick g first d * thick g first d + q0.1, d :: q0.2) = (thick g first d' * thick g first d' + q.1, d' :: q.2) := ⟨d, by simp, c, q0, e, rfl⟩
      cases er : r with
      | none =>
        refine ⟨fun p ep => by cases ep; exact new, fun d' hd c' q eq => ?_⟩
        rcases List.mem_append.mp hd with z | z
        · obtain ⟨p, ep, _⟩ := h.2 d' z c' q eq
          rw [er] at ep; cases ep
        · rw [List.mem_singleton.mp z] at eq ⊢
          rw [e] at eq; cases eq
          exact ⟨_, rfl, Nat.le_refl _⟩
      | some o =>
        dsimp only
        by_cases cb : thick g first d * thick g first d + q0.1 < o.1
        · rw [if_pos cb]
          refine ⟨fun p ep => by cases ep; exact new, fun d' hd c' q eq => ?_⟩
          rcases List.mem_append.mp hd with z | z
          · obtain ⟨p, ep, hp⟩ := h.2 d' z c' q eq
            rw [er] at ep; cases ep
            exact ⟨_, rfl, Nat.le_trans (Nat.le_of_lt cb) hp⟩
          · rw [List.mem_singleton.mp z] at eq ⊢
            rw [e] at eq; cases eq
            exact ⟨_, rfl, Nat.le_refl _⟩
        · rw [if_neg cb]
          refine ⟨fun p ep => by cases ep; exact old o er, fun d' hd c' q eq => ?_⟩
          rcases List.mem_append.mp hd with z | z
          · obtain ⟨p, ep, hp⟩ := h.2 d' z c' q eq
            rw [er] at ep; cases ep
            exact ⟨_, rfl, hp⟩
          · rw [List.mem_singleton.mp z] at eq ⊢
            rw [e] at eq; cases eq
            exact ⟨_, rfl, Nat.not_lt.mp cb⟩
  · rw [if_neg c]
    refine ⟨old, fun d' hd c' q eq => ?_⟩
    rcases List.mem_append.mp hd with z | z
    · exact h.2 d' z c' q eq
    · rw [List.mem_singleton.mp z] at c'; exact absurd c' c
theorem isBest_fold {g : List Nat} {m first : Nat} {later : Nat → Option Pl} : ∀ (ds pre : List Nat) (r : Option Pl), IsBest g m first later pre r → IsBest g m first later (pre ++ ds) (ds.foldl (better g m first later) r)
  | [], pre, r, h => by rw [List.append_nil]; exact h
  | d :: ds, pre, r, h => by
    rw [List.foldl_cons, show pre ++ d :: ds = (pre ++ [d]) ++ ds by simp]
    exact isBest_fold ds (pre ++ [d]) _ (isBest_step h d)
theorem bestFrom_is (g : List Nat) (m first : Nat) (later : Nat → Option Pl) : IsBest g m first later (days first g.length) (bestFrom g m first later) := by
  have h := isBest_fold (g := g) (m := m) (first := first) (later := later) (days first g.length) [] none ⟨(fun _ e => nomatch e), (fun _ z => absurd z (by simp))⟩
  rw [List.nil_append] at h
  exact h
theorem mem_days {first n d : Nat} : d ∈ days first n ↔ first ≤ d ∧ d < n := by
  unfold days
  rw [List.mem_map]
  constructor
  · rintro ⟨i, hi, rfl⟩
    have := List.mem_range.mp hi
    omega
  · rintro ⟨h1, h2⟩
    exact ⟨d - first, List.mem_range.mpr (by omega), by omega⟩
/-! ### one plan of the recursion -/
theorem opt_some {s : Sch} {k f : Nat} {p : Pl} (h : Km562.optimalFrom s (k + 1) f = some p) :
    ∃ d, f ≤ d ∧ d < s.growth.length ∧ thick s.growth f d ≤ s.maxThickness ∧ ∃ q, Km562.optimalFrom s k (d + 1) = some q ∧ p = (thick s.growth f d * thick s.growth f d + q.1, d :: q.2) := by
  rw [optFrom_succ] at h
  obtain ⟨d, hd, c, q, e1, e2⟩ := (bestFrom_is _ _ _ _).1 p h
  obtain ⟨h1, h2⟩ := mem_days.mp hd
  exact ⟨d, h1, h2, c, q, e1, e2⟩
theorem opt_le {s : Sch} {k f d : Nat} {q : Pl} (h1 : f ≤ d) (h2 : d < s.growth.length) (c : thick s.growth f d ≤ s.maxThickness) (e : Km562.optimalFrom s k (d + 1) = some q) :
    ∃ p, Km562.optimalFrom s (k + 1) f = some p ∧ p.1 ≤ thick s.growth f d * thick s.growth f d + q.1 := by
  rw [optFrom_succ]
  exact (bestFrom_is _ _ _ _).2 d (mem_days.mpr ⟨h1, h2⟩) c q e
/-- the breaks are just so many, increasing, of the days from f on -/
theorem opt_form (s : Sch) : ∀ (k f : Nat) (p : Pl), Km562.optimalFrom s k f = some p → p.2.length = k ∧ up p.2 ∧ ∀ b ∈ p.2, f ≤ b ∧ b < s.growth.length
  | 0, f, p, h => by
    rw [optFrom_zero] at h
    split at h
    · cases h; exact ⟨rfl, List.Pairwise.nil, fun b hb => absurd hb (by simp)⟩
    · cases h
  | k + 1, f, p, h => by
    obtain ⟨d, h1, h2, _, q, e, rfl⟩ := opt_some h
    obtain ⟨a1, a2, a3⟩ := opt_form s k (d + 1) q e
    refine ⟨by rw [List.length_cons, a1], List.pairwise_cons.mpr ⟨fun b hb => (a3 b hb).1, a2⟩, fun b hb => ?_⟩
    rcases List.mem_cons.mp hb with z | z
    · rw [z]; exact ⟨h1, h2⟩
    · have := a3 b z
      omega
theorem opt_few (s : Sch) {k f : Nat} {p : Pl} (h : Km562.optimalFrom s k f = some p) : k ≤ s.growth.length - f := by
  obtain ⟨a, b, c⟩ := opt_form s k f p h
  rw [← a]
  exact up_length b c
/-- each plan's effort is a number of days' efforts: at most 300 squared each -/
theorem opt_bound (s : Sch) (hl : s.growth.length ≤ 10) (hm : ∀ x ∈ s.growth, x ≤ 30) : ∀ (k f : Nat) (p : Pl), Km562.optimalFrom s k f = some p → p.1 ≤ k * 90000
  | 0, f, p, h => by
    rw [optFrom_zero] at h
    split at h
    · cases h; exact Nat.zero_le _
    · cases h
  | k + 1, f, p, h => by
    obtain ⟨d, _, _, _, q, e, rfl⟩ := opt_some h
    have ih := opt_bound s hl hm k (d + 1) q e
    have t := thick_le (a := f) (b := d) hl hm
    have t2 : thick s.growth f d * thick s.growth f d ≤ 300 * 300 := Nat.mul_le_mul t t
    show thick s.growth f d * thick s.growth f d + q.1 ≤ (k + 1) * 90000
    omega
/-! ### no valid list is better -/
/-- a valid list of breaks from f on: its effort by the days -/
def effFrom (g : List Nat) : Nat → List Nat → Nat
  | _, [] => 0
  | f, d :: r => thick g f d * thick g f d + effFrom g (d + 1) r
theorem effFrom_eq (s : Sch) : ∀ (bs : List Nat) (f : Nat), ((Km562.thicknessesFrom s f bs).map fun x => x * x).sum = effFrom s.growth f bs
  | [], _ => rfl
  | d :: r, f => by
    show (Km562.thickness s f d * Km562.thickness s f d :: (Km562.thicknessesFrom s (d + 1) r).map fun x => x * x).sum = _
    rw [List.sum_cons, effFrom_eq s r (d + 1), thick_eq]; rfl
theorem opt_best (s : Sch) : ∀ (bs : List Nat) (f : Nat), up bs → (∀ b ∈ bs, f ≤ b ∧ b < s.growth.length) → (∀ x ∈ Km562.thicknessesFrom s f bs, x ≤ s.maxThickness) →
    (bs = [] → s.growth.length ≤ f) → (bs ≠ [] → s.growth.length - 1 ∈ bs) → ∃ p, Km562.optimalFrom s bs.length f = some p ∧ p.1 ≤ effFrom s.growth f bs
  | [], f, _, _, _, h0, _ => ⟨(0, []), by rw [List.length_nil, optFrom_zero, if_pos (h0 rfl)], Nat.le_refl _⟩
  | d :: r, f, hu, hb, ht, _, h1 => by
    have h2 := List.pairwise_cons.mp hu
    have hd := hb d (List.mem_cons_self ..)
    have td : thick s.growth f d ≤ s.maxThickness := by
      rw [← thick_eq]
      exact ht _ (List.mem_cons_self ..)
    have hl := h1 (by simp)
    obtain ⟨p, e, le⟩ := opt_best s r (d + 1) h2.2 (fun b m => ⟨h2.1 b m, (hb b (List.mem_cons_of_mem _ m)).2⟩) (fun x m => ht x (List.mem_cons_of_mem _ m)) (fun e => by
        subst e
        have := List.mem_singleton.mp hl
        omega) (fun e => by
        rcases List.mem_cons.mp hl with z | z
        · cases r with
          | nil => exact absurd rfl e
          | cons b r' =>
            have a := h2.1 b (List.mem_cons_self ..)
            have c := (hb b (by simp)).2
            omega
        · exact z)
    obtain ⟨p2, e2, le2⟩ := opt_le hd.1 hd.2 td e
    exact ⟨p2, e2, Nat.le_trans le2 (Nat.add_le_add_left le _)⟩
/-! ### without a limit -/
theorem thick_split (g : List Nat) {f c d : Nat} (h1 : f ≤ c) (h2 : c < d) : thick g f d = thick g f c + thick g (c + 1) d := by
  unfold thick cut
  have e1 : d + 1 - f = (c + 1 - f) + (d + 1 - (c + 1)) := by omega
  have e2 : g.drop (c + 1) = (g.drop f).drop (c + 1 - f) := by rw [List.drop_drop]; congr 1; omega
  rw [e1, List.take_add, List.sum_append, ← e2]
theorem sq_split (a b : Nat) : a * a + b * b ≤ (a + b) * (a + b) := by
  rw [Nat.add_mul, Nat.mul_add, Nat.mul_add]; omega
/-- more breaks: there is a plan, and it takes no more effort -/
theorem opt_more (s : Sch) (hm : ∀ a b, thick s.growth a b ≤ s.maxThickness) : ∀ (k f : Nat) (p : Pl), Km562.optimalFrom s (k + 1) f = some p → k + 2 ≤ s.growth.length - f →
    ∃ q, Km562.optimalFrom s (k + 2) f = some q ∧ q.1 ≤ p.1
  | k, f, p, h, hn => by
    obtain ⟨d, h1, h2, c, r, er, rfl⟩ := opt_some h
    by_cases hd : f < d
    · obtain ⟨q1, e1, l1⟩ := opt_le (s := s) (k := k) (f := f + 1) (d := d) (by omega) h2 (hm _ _) er
      obtain ⟨q2, e2, l2⟩ := opt_le (s := s) (k := k + 1) (f := f) (d := f) (Nat.le_refl f) (by omega) (hm _ _) e1
      refine ⟨q2, e2, ?_⟩
      have sp := thick_split s.growth (Nat.le_refl f) hd
      have sq := sq_split (thick s.growth f f) (thick s.growth (f + 1) d)
      rw [← sp] at sq
      show q2.1 ≤ thick s.growth f d * thick s.growth f d + r.1
      omega
    · have e : d = f := by omega
      subst e
      cases k with
      | zero =>
        rw [optFrom_zero] at er
        split at er
        · omega
        · cases er
      | succ k =>
        obtain ⟨q1, e1, l1⟩ := opt_more s hm k (d + 1) r er (by omega)
        obtain ⟨q2, e2, l2⟩ := opt_le (s := s) (k := k + 2) (f := d) (d := d) (Nat.le_refl d) h2 (hm _ _) e1
        refine ⟨q2, e2, ?_⟩
        show q2.1 ≤ thick s.growth d d * thick s.growth d d + r.1
        omega
theorem opt_there (s : Sch) (hm : ∀ a b, thick s.growth a b ≤ s.maxThickness) : ∀ (k f : Nat), k + 1 ≤ s.growth.length - f → ∃ p, Km562.optimalFrom s (k + 1) f = some p
  | 0, f, h => by
    obtain ⟨p, e, _⟩ := opt_le (s := s) (k := 0) (f := f) (d := s.growth.length - 1) (q := (0, [])) (by omega) (by omega) (hm _ _) (by rw [optFrom_zero, if_pos (by omega)])
    exact ⟨p, e⟩
  | k + 1, f, h => by
    obtain ⟨q, e⟩ := opt_there s hm k (f + 1) (by omega)
    obtain ⟨p, e2, _⟩ := opt_le (s := s) (k := k + 1) (f := f) (d := f) (Nat.le_refl f) (by omega) (hm _ _) e
    exact ⟨p, e2⟩
/-! ### the table -/
/-- the program's list for k breaks: by first day -/
def row (s : Sch) (k : Nat) : List (Option Pl) := (List.range (s.growth.length + 1)).map fun f => Km562.optimalFrom s k f
theorem row_get {s : Sch} {k f : Nat} (h : f ≤ s.growth.length) : (row s k)[f]? = some (Km562.optimalFrom s k f) := by
  unfold row
  rw [List.getElem?_map, List.getElem?_range (by omega)]; rfl
theorem row_len (s : Sch) (k : Nat) : (row s k).length = s.growth.length + 1 := by unfold row; simp
theorem row_zero (s : Sch) : row s 0 = List.replicate s.growth.length none ++ [some (0, [])] := by
  unfold row
  rw [List.range_succ, List.map_append, List.map_cons, List.map_nil, optFrom_zero, if_pos (Nat.le_refl _)]
  congr 1
  have : (List.range s.growth.length).map (fun f => Km562.optimalFrom s 0 f) = (List.range s.growth.length).map fun _ => none := by
    refine List.map_congr_left fun f hf => ?_
    have := List.mem_range.mp hf
    rw [optFrom_zero, if_neg (by omega)]
  rw [this, List.map_const', List.length_range]
def plans (s : Sch) : List (Option Pl) := (List.range (s.growth.length + 1)).map fun k => Km562.optimal s k
theorem plans_get {s : Sch} {k : Nat} (h : k ≤ s.growth.length) : (plans s)[k]? = some (Km562.optimal s k) := by
  unfold plans
  rw [List.getElem?_map, List.getElem?_range (by omega)]; rfl
theorem plans_len (s : Sch) : (plans s).length = s.growth.length + 1 := by unfold plans; simp
/-- the plans that are there -/
def found (s : Sch) : List Pl := (plans s).filterMap id
def cost (tc : Nat) (p : Pl) : Nat := p.1 + tc * p.2.length
/-- as the program looks for the cheapest -/
def cheaper (tc : Nat) (b p : Pl) : Pl := if cost tc p < cost tc b then p else b
/-- the specification's fold over numbers of breaks, against the fold over the plans that are there -/
theorem cheapest_fold (s : Sch) : ∀ (ks : List Nat) (b : Pl), Km562.optimal s b.2.length = some b →
    ks.foldl (fun (best : Option (Nat × Nat)) (breaks : Nat) => match Km562.optimal s breaks with
      | none => best
      | some result => match best with
        | none => some (breaks, result.1 + s.tripCost * breaks)
        | some other => if result.1 + s.tripCost * breaks < other.2 then some (breaks, result.1 + s.tripCost * breaks) else some other) (some (b.2.length, cost s.tripCost b))
      = let c := ((ks.map fun k => Km562.optimal s k).filterMap id).foldl (cheaper s.tripCost) b; some (c.2.length, cost s.tripCost c)
  | [], b, _ => rfl
  | k :: ks, b, hb => by
    rw [List.foldl_cons, List.map_cons]
    cases e : Km562.optimal s k with
    | none =>
      rw [List.filterMap_cons_none (by rfl)]
      exact cheapest_fold s ks b hb
    | some p =>
      have hk : p.2.length = k := (opt_form s k 0 p e).1
      rw [List.filterMap_cons_some (by rfl), List.foldl_cons]
      subst hk
      dsimp only
      unfold cheaper
      show List.foldl _ (if cost s.tripCost p < cost s.tripCost b then some (p.2.length, cost s.tripCost p) else some (b.2.length, cost s.tripCost b)) ks = _
      by_cases c : cost s.tripCost p < cost s.tripCost b
      · rw [if_pos c, if_pos c]
        exact cheapest_fold s ks p e
      · rw [if_neg c, if_neg c]
        exact cheapest_fold s ks b hb
def cheapestOf (s : Sch) : Option Pl := match found s with
  | [] => none
  | p :: r => some ((p :: r).foldl (cheaper s.tripCost) p)
theorem cheaper_self (tc : Nat) (p : Pl) : cheaper tc p p = p := by unfold cheaper; rw [if_neg (Nat.lt_irrefl _)]
theorem cheapest_start (s : Sch) : ∀ ks : List Nat,
    ks.foldl (fun (best : Option (Nat × Nat)) (breaks : Nat) => match Km562.optimal s breaks with
      | none => best
      | some result => match best with
        | none => some (breaks, result.1 + s.tripCost * breaks)
        | some other => if result.1 + s.tripCost * breaks < other.2 then some (breaks, result.1 + s.tripCost * breaks) else some other) none
      = (match (ks.map fun k => Km562.optimal s k).filterMap id with
        | [] => none
        | p :: r => let c := (p :: r).foldl (cheaper s.tripCost) p; some (c.2.length, cost s.tripCost c))
  | [] => rfl
  | k :: ks => by
    rw [List.foldl_cons, List.map_cons]
    cases e : Km562.optimal s k with
    | none =>
      rw [List.filterMap_cons_none (by rfl)]
      exact cheapest_start s ks
    | some p =>
      have hk : p.2.length = k := (opt_form s k 0 p e).1
      rw [List.filterMap_cons_some (by rfl)]
      subst hk
      show List.foldl _ (some (p.2.length, cost s.tripCost p)) ks = _
      rw [cheapest_fold s ks p e]
      show _ = some ((List.foldl (cheaper s.tripCost) p (p :: (ks.map fun k => Km562.optimal s k).filterMap id)).2.length, cost s.tripCost (List.foldl (cheaper s.tripCost) p (p :: (ks.map fun k => Km562.optimal s k).filterMap id)))
      rw [List.foldl_cons, cheaper_self]
theorem cheapest_eq (s : Sch) : Km562.cheapest s = (cheapestOf s).map fun p => (p.2.length, cost s.tripCost p) := by
  unfold Km562.cheapest Km562.dayCount
  refine (cheapest_start s _).trans ?_
  unfold cheapestOf found plans
  generalize List.filterMap id (List.map (fun k => Km562.optimal s k) (List.range (s.growth.length + 1))) = l
  cases l <;> rfl
theorem mem_found {s : Sch} {p : Pl} (h : p ∈ found s) : Km562.optimal s p.2.length = some p := by
  unfold found plans at h
  obtain ⟨o, ho, e⟩ := List.mem_filterMap.mp h
  obtain ⟨k, _, e2⟩ := List.mem_map.mp ho
  have e' : o = some p := e
  rw [e'] at e2
  rw [(opt_form s k 0 p e2).1]; exact e2
theorem cheaper_mem (tc : Nat) : ∀ (l : List Pl) (b : Pl), l.foldl (cheaper tc) b = b ∨ l.foldl (cheaper tc) b ∈ l
  | [], _ => .inl rfl
  | p :: l, b => by
    rw [List.foldl_cons]
    rcases cheaper_mem tc l (cheaper tc b p) with h | h
    · rw [h]
      unfold cheaper
      by_cases c : cost tc p < cost tc b
      · rw [if_pos c]; exact .inr (List.mem_cons_self ..)
      · rw [if_neg c]; exact .inl rfl
    · exact .inr (List.mem_cons_of_mem _ h)
theorem cheapestOf_is {s : Sch} {p : Pl} (h : cheapestOf s = some p) : Km562.optimal s p.2.length = some p := by
  unfold cheapestOf at h
  split at h
  · cases h
  · rename_i p0 r e
    have e' := Option.some.inj h
    rcases cheaper_mem s.tripCost (p0 :: r) p0 with z | z
    · rw [z] at e'
      exact mem_found (by rw [e, ← e']; exact List.mem_cons_self ..)
    · rw [e'] at z
      exact mem_found (by rw [e]; exact z)
/-- the smallest number of breaks -/
theorem min_found (s : Sch) : ((List.range (s.growth.length + 1)).find? fun k => (Km562.optimal s k).isSome) = (found s).head?.map fun p => p.2.length := by
  unfold found plans
  generalize List.range (s.growth.length + 1) = ks
  induction ks with
  | nil => rfl
  | cons k ks ih =>
    rw [List.find?_cons, List.map_cons]
    cases e : Km562.optimal s k with
    | none => rw [List.filterMap_cons_none (by rfl)]; exact ih
    | some p =>
      rw [List.filterMap_cons_some (by rfl)]
      have hk : p.2.length = k := (opt_form s k 0 p e).1
      simp [hk]
end Ice

/-! The instance's own laws, kept by each call. -/
namespace Ice
structure WF (m : Sch) : Prop where
  len : m.growth.length ≤ 10
  le : ∀ x ∈ m.growth, x ≤ 30
  trip : m.tripCost ≤ 9999
  max : m.maxThickness ≤ 999
  up : up m.breaks
  lt : ∀ b ∈ m.breaks, b < m.growth.length
def fresh : Sch := ⟨[], 0, 999, []⟩
theorem wf_fresh : WF fresh := ⟨by decide, fun x h => absurd h (by simp [fresh]), by decide, by decide, List.Pairwise.nil, fun x h => absurd h (by simp [fresh])⟩
theorem WF.few {m : Sch} (w : WF m) : m.breaks.length ≤ m.growth.length := by
  have h := up_length (bs := m.breaks) (n := m.growth.length) (k := 0) w.up fun b hb => ⟨Nat.zero_le _, w.lt b hb⟩
  omega
theorem WF.opt {m : Sch} (w : WF m) {k : Nat} {p : Pl} (h : Km562.optimal m k = some p) : WF { m with breaks := p.2 } := by
  obtain ⟨_, h2, h3⟩ := opt_form m k 0 p h
  exact ⟨w.len, w.le, w.trip, w.max, h2, fun b hb => (h3 b hb).2⟩
theorem WF.set {m : Sch} (w : WF m) (d : Nat) {x : Nat} (h : x ≤ 30) : WF { m with growth := m.growth.set d x } := by
  refine ⟨?_, fun y hy => ?_, w.trip, w.max, w.up, fun b hb => ?_⟩
  · show (m.growth.set d x).length ≤ 10
    rw [List.length_set]; exact w.len
  · rcases List.mem_or_eq_of_mem_set hy with q | q
    · exact w.le y q
    · rw [q]; exact h
  · show b < (m.growth.set d x).length
    rw [List.length_set]; exact w.lt b hb
theorem WF.limit {m : Sch} (w : WF m) {x : Nat} (h : x ≤ 999) : WF { m with maxThickness := x } := ⟨w.len, w.le, w.trip, h, w.up, w.lt⟩
theorem WF.nolimit {m : Sch} (w : WF m) : WF (Km562.unlimited m) := w.limit (Nat.le_refl _)
theorem wf_add {m : Sch} (w : WF m) {x : Nat} (h : x ≤ 30) (h2 : m.growth.length < 10) : WF { m with growth := m.growth ++ [x] } := by
  refine ⟨?_, fun y hy => ?_, w.trip, w.max, w.up, fun b hb => ?_⟩
  · show (m.growth ++ [x]).length ≤ 10
    rw [List.length_append, List.length_singleton]; omega
  · rcases List.mem_append.mp hy with q | q
    · exact w.le y q
    · rw [List.mem_singleton.mp q]; exact h
  · show b < (m.growth ++ [x]).length
    rw [List.length_append]
    have := w.lt b hb
    omega
theorem wf_pop {m : Sch} (w : WF m) : WF { m with growth := m.growth.take (m.growth.length - 1), breaks := m.breaks.filter fun b => decide (b + 1 < m.growth.length) } := by
  refine ⟨?_, fun y hy => w.le y (List.take_subset _ _ hy), w.trip, w.max, up_filter _ w.up, fun b hb => ?_⟩
  · show (m.growth.take _).length ≤ 10
    rw [List.length_take]
    have := w.len
    omega
  · show b < (m.growth.take _).length
    have h1 := (List.mem_filter.mp hb).2
    have h2 : b + 1 < m.growth.length := by simpa using h1
    rw [List.length_take]; omega
/-! ### each call's own equation -/
section
open Km562 (dayCount error number listResult boolean)
variable (m : Sch)
theorem st_add (x : Nat) : Km562.step (some m) (.addDay x) = if 30 < x then (some m, error (-22)) else if 10 ≤ m.growth.length then (some m, error (-28)) else (some { m with growth := m.growth ++ [x] }, number (m.growth.length : Nat)) := rfl
theorem st_pop : Km562.step (some m) .removeLastDay = if m.growth.length = 0 then (some m, error (-6)) else
    (some { m with growth := m.growth.take (m.growth.length - 1), breaks := m.breaks.filter fun b => decide (b + 1 < m.growth.length) }, number (m.growth.length - 1 : Nat)) := rfl
theorem st_set (d x : Nat) : Km562.step (some m) (.setGrowth d x) = if m.growth.length ≤ d then (some m, error (-2)) else if 30 < x then (some m, error (-22)) else (some { m with growth := m.growth.set d x }, number (m.growth.getD d 0 : Nat)) := rfl
theorem st_trip (x : Nat) : Km562.step (some m) (.setTripCost x) = if 9999 < x then (some m, error (-22)) else (some { m with tripCost := x }, number (m.tripCost : Nat)) := rfl
theorem st_max (x : Nat) : Km562.step (some m) (.setMaxThickness x) = if 999 < x then (some m, error (-22)) else (some { m with maxThickness := x }, number (m.maxThickness : Nat)) := rfl
theorem st_list : Km562.step (some m) .listGrowth = (some m, listResult m.growth) := rfl
theorem st_between (a b : Nat) : Km562.step (some m) (.thicknessBetween a b) = (some m, if m.growth.length ≤ a ∨ m.growth.length ≤ b then error (-2) else if b < a then error (-22) else ⟨(Km562.thickness m a b : Int), [(Km562.effort m a b : Int)]⟩) := rfl
theorem st_addBreak (d : Nat) : Km562.step (some m) (.addBreak d) = if m.growth.length ≤ d then (some m, error (-2)) else if m.breaks.contains d = true then (some m, error (-17)) else
    (some { m with breaks := Km562.insertDay d m.breaks }, number (Km562.thicknessAt m d : Nat)) := rfl
theorem st_remBreak (d : Nat) : Km562.step (some m) (.removeBreak d) = if m.breaks.contains d = false then (some m, error (-2)) else (some { m with breaks := m.breaks.filter fun b => b != d }, number (m.breaks.length - 1 : Nat)) := rfl
theorem st_breaks : Km562.step (some m) .listBreaks = (some m, listResult m.breaks) := rfl
theorem st_perBreak : Km562.step (some m) .thicknessPerBreak = (some m, listResult (Km562.thicknesses m m.breaks)) := rfl
theorem st_valid : Km562.step (some m) .isValidSchedule = (some m, boolean (Km562.isValid m m.breaks)) := rfl
theorem st_cost : Km562.step (some m) .scheduleCost = (some m, ⟨(Km562.totalEffort m m.breaks : Int), [(Km562.totalEffort m m.breaks + m.tripCost * m.breaks.length : Nat)]⟩) := rfl
theorem st_total : Km562.step (some m) .totalGrowth = (some m, number (Km562.sum m.growth : Nat)) := rfl
theorem st_opt (k : Nat) : Km562.step (some m) (.optimalBreaks k) = (some m, if m.growth.length < k then error (-22) else Km562.optimalResult (Km562.optimal m k)) := rfl
theorem st_use (k : Nat) : Km562.step (some m) (.useOptimalBreaks k) = if m.growth.length < k then (some m, error (-22)) else
    (match Km562.optimal m k with | none => (some m, error (-33)) | some best => (some { m with breaks := best.2 }, number (best.1 : Nat))) := rfl
theorem st_excess : Km562.step (some m) .excessEffort = (some m, if Km562.isValid m m.breaks = false then error (-33) else
    (match Km562.optimal m m.breaks.length with | none => error (-33) | some best => number (Km562.totalEffort m m.breaks - best.1 : Nat))) := rfl
theorem st_saving (k : Nat) : Km562.step (some m) (.savingOfBreak k) = (some m, if k < 2 ∨ m.growth.length < k then error (-22) else number (Km562.saving m k : Nat)) := rfl
theorem st_min : Km562.step (some m) .minBreakCount = (some m, (match (List.range (m.growth.length + 1)).find? fun k => (Km562.optimal m k).isSome with | none => error (-33) | some k => number (k : Nat))) := rfl
theorem st_cheap : Km562.step (some m) .cheapestBreakCount = (some m, (match Km562.cheapest m with | none => error (-33) | some best => ⟨(best.1 : Int), [(best.2 : Int)]⟩)) := rfl
theorem st_useCheap : Km562.step (some m) .useCheapestBreaks = (match Km562.cheapest m with | none => (some m, error (-33)) | some best => (some { m with breaks := ((Km562.optimal m best.1).map fun result => result.2).getD [] }, number (best.2 : Nat))) := rfl
theorem st_withGrowth (d x : Nat) : Km562.step (some m) (.cheapestWithGrowth d x) = (some m, if m.growth.length ≤ d then error (-2) else if 30 < x then error (-22) else
    (match Km562.cheapest { m with growth := m.growth.set d x } with | none => error (-33) | some best => ⟨(best.1 : Int), [(best.2 : Int)]⟩)) := rfl
theorem st_withMax (x : Nat) : Km562.step (some m) (.cheapestWithMaxThickness x) = (some m, if 999 < x then error (-22) else
    (match Km562.cheapest { m with maxThickness := x } with | none => error (-33) | some best => ⟨(best.1 : Int), [(best.2 : Int)]⟩)) := rfl
theorem st_balanced (k : Nat) : Km562.step (some m) (.balancedEffort k) = (some m, if k = 0 ∨ m.growth.length < k then error (-22) else number (Km562.balancedSquares m.growth.length k : Nat)) := rfl
theorem st_at (d : Nat) : Km562.step (some m) (.thicknessAt d) = (some m, if m.growth.length ≤ d then error (-2) else number (Km562.thicknessAt m d : Nat)) := rfl
theorem st_summary : Km562.step (some m) .summary = (some m, ⟨(m.growth.length : Int), [(m.tripCost : Int), (m.maxThickness : Int), (m.breaks.length : Int)]⟩) := rfl
end
theorem step_wf {m : Sch} (w : WF m) (c : Km562.Call) : ∃ m' r, Km562.step (some m) c = (some m', r) ∧ WF m' := by
  have keep : ∀ {r : Km562.Result}, ∃ m' r', ((some m, r) : Km562.State × Km562.Result) = (some m', r') ∧ WF m' := fun {r} => ⟨m, r, rfl, w⟩
  cases c with
  | create => exact ⟨_, _, rfl, wf_fresh⟩
  | addDay x =>
    show ∃ m' r, (if 30 < x then _ else if Km562.maxDays ≤ Km562.dayCount m then _ else _) = _ ∧ _
    by_cases h : 30 < x
    · rw [if_pos h]; exact keep
    · rw [if_neg h]
      by_cases h2 : Km562.maxDays ≤ Km562.dayCount m
      · rw [if_pos h2]; exact keep
      · rw [if_neg h2]
        exact ⟨_, _, rfl, wf_add w (by omega) (by have z : ¬ 10 ≤ m.growth.length := h2; omega)⟩
  | removeLastDay =>
    show ∃ m' r, (if Km562.dayCount m = 0 then _ else _) = _ ∧ _
    by_cases h : Km562.dayCount m = 0
    · rw [if_pos h]; exact keep
    · rw [if_neg h]
      exact ⟨_, _, rfl, wf_pop w⟩
  | setGrowth d x =>
    show ∃ m' r, (if Km562.dayCount m ≤ d then _ else if 30 < x then _ else _) = _ ∧ _
    by_cases h : Km562.dayCount m ≤ d
    · rw [if_pos h]; exact keep
    · rw [if_neg h]
      by_cases h2 : 30 < x
      · rw [if_pos h2]; exact keep
      · rw [if_neg h2]
        exact ⟨_, _, rfl, w.set d (by omega)⟩
  | setTripCost x =>
    show ∃ m' r, (if 9999 < x then _ else _) = _ ∧ _
    by_cases h : 9999 < x
    · rw [if_pos h]; exact keep
    · rw [if_neg h]
      exact ⟨_, _, rfl, ⟨w.len, w.le, (by show x ≤ 9999; omega), w.max, w.up, w.lt⟩⟩
  | setMaxThickness x =>
    show ∃ m' r, (if 999 < x then _ else _) = _ ∧ _
    by_cases h : 999 < x
    · rw [if_pos h]; exact keep
    · rw [if_neg h]
      exact ⟨_, _, rfl, w.limit (by omega)⟩
  | listGrowth => exact keep
  | thicknessBetween a b => exact keep
  | addBreak d =>
    show ∃ m' r, (if Km562.dayCount m ≤ d then _ else if m.breaks.contains d = true then _ else _) = _ ∧ _
    by_cases h : Km562.dayCount m ≤ d
    · rw [if_pos h]; exact keep
    · rw [if_neg h]
      by_cases h2 : m.breaks.contains d = true
      · rw [if_pos h2]; exact keep
      · rw [if_neg h2]
        refine ⟨_, _, rfl, ⟨w.len, w.le, w.trip, w.max, up_insert d _ w.up, fun b hb => ?_⟩⟩
        have hd : ¬ m.growth.length ≤ d := h
        rcases (mem_insert d _ b).mp hb with q | q
        · show b < m.growth.length
          omega
        · exact w.lt b q
  | removeBreak d =>
    show ∃ m' r, (if m.breaks.contains d = false then _ else _) = _ ∧ _
    by_cases h : m.breaks.contains d = false
    · rw [if_pos h]; exact keep
    · rw [if_neg h]
      exact ⟨_, _, rfl, ⟨w.len, w.le, w.trip, w.max, up_filter _ w.up, fun b hb => w.lt b (List.mem_filter.mp hb).1⟩⟩
  | listBreaks => exact keep
  | thicknessPerBreak => exact keep
  | isValidSchedule => exact keep
  | scheduleCost => exact keep
  | totalGrowth => exact keep
  | optimalBreaks k => exact keep
  | useOptimalBreaks k =>
    rw [st_use]
    by_cases h : m.growth.length < k
    · rw [if_pos h]; exact keep
    · rw [if_neg h]
      cases e : Km562.optimal m k with
      | none => exact keep
      | some p => exact ⟨_, _, rfl, w.opt e⟩
  | excessEffort => exact keep
  | savingOfBreak k => exact keep
  | minBreakCount => exact keep
  | cheapestBreakCount => exact keep
  | useCheapestBreaks =>
    rw [st_useCheap, cheapest_eq]
    cases e : cheapestOf m with
    | none => exact keep
    | some p =>
      refine ⟨_, _, rfl, ?_⟩
      show WF { m with breaks := ((Km562.optimal m p.2.length).map fun result => result.2).getD [] }
      rw [cheapestOf_is e]
      exact w.opt (cheapestOf_is e)
  | cheapestWithGrowth d x => exact keep
  | cheapestWithMaxThickness x => exact keep
  | balancedEffort k => exact keep
  | thicknessAt d => exact keep
  | summary => exact keep
/-! ### some calls' own facts -/
theorem valid_iff {m : Sch} (w : WF m) : Km562.isValid m m.breaks = true ↔ (m.growth.length = 0 ∨ (m.growth.length - 1 ∈ m.breaks ∧ ∀ x ∈ removed m.growth m.breaks, x ≤ m.maxThickness)) := by
  unfold Km562.isValid Km562.dayCount
  rw [thicknesses_eq m w.up, Bool.and_eq_true, Bool.or_eq_true, beq_iff_eq, beq_iff_eq, List.all_eq_true]
  cases e : m.growth.length with
  | zero =>
    have hb : m.breaks = [] := List.eq_nil_iff_forall_not_mem.mpr fun b hb => by
      have := w.lt b hb
      omega
    rw [hb]
    simp [removed]
  | succ n =>
    have hl := last_up w.up (n := n) (fun b hb => by rw [← e]; exact w.lt b hb)
    have hn : n < 10 := by have := w.len; omega
    constructor
    · rintro ⟨h1, h2⟩
      refine .inr ⟨?_, fun x hx => by simpa using h2 x hx⟩
      rcases h1 with h1 | h1
      · cases h1
      · refine hl.mpr ⟨h1, fun z => ?_⟩
        rw [z] at h1
        simp at h1
        omega
    · rintro (h | ⟨h1, h2⟩)
      · cases h
      · exact ⟨.inr (hl.mp h1).1, fun x hx => by simpa using h2 x hx⟩
theorem excess_le {m : Sch} (w : WF m) (hv : Km562.isValid m m.breaks = true) {p : Pl} (h : Km562.optimal m m.breaks.length = some p) : p.1 ≤ Km562.totalEffort m m.breaks := by
  have z := (valid_iff w).mp hv
  obtain ⟨q, e, le⟩ := opt_best m m.breaks 0 w.up (fun b hb => ⟨Nat.zero_le _, w.lt b hb⟩) (fun x hx => by
      have hx' : x ∈ removed m.growth m.breaks := by rw [← thicknesses_eq m w.up]; exact hx
      rcases z with z | z
      · have hb : m.breaks = [] := List.eq_nil_iff_forall_not_mem.mpr fun b hb => by
          have := w.lt b hb
          omega
        rw [hb] at hx'
        exact absurd hx' (by simp [removed])
      · exact z.2 x hx') (fun e => by
      rcases z with z | z
      · omega
      · rw [e] at z; exact absurd z.1 (by simp)) (fun e => by
      rcases z with z | z
      · cases hb : m.breaks with
        | nil => exact absurd hb e
        | cons b r =>
          have := w.lt b (by rw [hb]; exact List.mem_cons_self ..)
          omega
      · exact z.1)
  have e' : Km562.optimal m m.breaks.length = some q := e
  rw [h] at e'
  cases e'
  unfold Km562.totalEffort Km562.thicknesses
  rw [ksum, effFrom_eq]
  exact le
theorem nolimit_thick {m : Sch} (w : WF m) (a b : Nat) : thick (Km562.unlimited m).growth a b ≤ (Km562.unlimited m).maxThickness :=
  Nat.le_trans (thick_le w.len w.le) (by show 300 ≤ 999; omega)
theorem saving_two {m : Sch} (w : WF m) {k : Nat} (h1 : 2 ≤ k) (h2 : k ≤ m.growth.length) :
    ∃ p q, Km562.optimal (Km562.unlimited m) (k - 1) = some p ∧ Km562.optimal (Km562.unlimited m) k = some q ∧ q.1 ≤ p.1 := by
  obtain ⟨j, rfl⟩ : ∃ j, k = j + 2 := ⟨k - 2, by omega⟩
  obtain ⟨p, e⟩ := opt_there (Km562.unlimited m) (nolimit_thick w) j 0 (by show j + 1 ≤ m.growth.length - 0; omega)
  obtain ⟨q, e2, le⟩ := opt_more (Km562.unlimited m) (nolimit_thick w) j 0 p e (by show j + 2 ≤ m.growth.length - 0; omega)
  exact ⟨p, q, e, e2, le⟩
end Ice

/-! One list of numbers, call by call. -/
namespace Ice
/-- how many numbers follow a call's own -/
def counts : List Nat := [0, 1, 0, 2, 1, 1, 0, 2, 1, 1, 0, 0, 0, 0, 0, 1, 1, 0, 1, 0, 0, 0, 2, 1, 1, 1, 0]
inductive Parsed : List Int → List (List Int) → Prop
  | nil : Parsed [] []
  | cons (p : Nat) (args rest : List Int) (cs : List (List Int)) (hc : counts[p]? = some args.length) (h : Parsed rest cs) : Parsed ((p : Int) :: (args ++ rest)) (((p : Int) :: args) :: cs)
theorem ite_some {c : Prop} [Decidable c] {α : Type} {a b : Option α} {x : α} (h : (if c then a else b) = some x) : (c ∧ a = some x) ∨ (¬ c ∧ b = some x) := by
  by_cases hc : c
  · rw [if_pos hc] at h; exact .inl ⟨hc, h⟩
  · rw [if_neg hc] at h; exact .inr ⟨hc, h⟩
theorem shape_counts {p : Int} {n k : Nat} (h : PyKm562.shape p = some (n, k)) : k = 0 ∧ ∃ q : Nat, p = (q : Int) ∧ counts[q]? = some n := by
  unfold PyKm562.shape at h
  iterate 27
    rcases ite_some h with ⟨e, h⟩ | ⟨_, h⟩
    · cases h
      exact ⟨rfl, p.toNat, by rw [e]; rfl, by rw [e]; rfl⟩
  cases h
theorem whole_same (c : List (List Int)) : PyKm562.whole c = c := by
  unfold PyKm562.whole
  split <;> rfl
theorem parsed_of : ∀ (f : Nat) (l : List Int) (raw : List (List (List Int))), PyFlat.calls PyKm562.shape f l = some raw → ∃ cs, Parsed l cs ∧ raw = cs.map fun c => [c]
  | _, [], raw, h => by
    have e : raw = [] := by
      unfold PyFlat.calls at h
      exact (Option.some.inj h).symm
    exact ⟨[], .nil, by rw [e]; rfl⟩
  | 0, p :: r, raw, h => by
    unfold PyFlat.calls at h
    cases h
  | f + 1, p :: r, raw, h => by
    rw [PyFlat.calls, PyFlat.call] at h
    cases e : PyKm562.shape p with
    | none => rw [e] at h; cases h
    | some nk =>
      obtain ⟨n, k⟩ := nk
      obtain ⟨rfl, q, rfl, hq⟩ := shape_counts e
      rw [e] at h
      dsimp only at h
      by_cases c : r.length < n
      · rw [if_pos c] at h; cases h
      · rw [if_neg c] at h
        unfold PyFlat.rows at h
        dsimp only at h
        cases e2 : PyFlat.calls PyKm562.shape f (r.drop n) with
        | none => rw [e2] at h; cases h
        | some cs =>
          rw [e2] at h
          obtain ⟨cs', h1, h2⟩ := parsed_of f (r.drop n) cs e2
          have hz : (r.take n).length = n := by rw [List.length_take]; omega
          have hp := Parsed.cons q (r.take n) (r.drop n) cs' (by rw [hz]; exact hq) h1
          rw [List.take_append_drop] at hp
          refine ⟨((q : Int) :: r.take n) :: cs', hp, ?_⟩
          have h' := Option.some.inj h
          rw [← h', h2]; rfl
def said (s : Km562.State) (cs : List (List Int)) : List Int := PyFlat.told (PyFlat.played Km562Neutral.step s (cs.map fun c => [c]))
theorem said_nil (s : Km562.State) : said s [] = [] := rfl
theorem said_cons (s : Km562.State) (c : List Int) (cs : List (List Int)) : said s (c :: cs) = ((Km562Neutral.step s [c]).2.length : Int) :: ((Km562Neutral.step s [c]).2 ++ said (Km562Neutral.step s [c]).1 cs) := by
  show List.flatMap _ _ = _
  rw [List.map_cons]
  show List.flatMap (fun a => (a.length : Int) :: a) ((Km562Neutral.step s [c]).2 :: PyFlat.played Km562Neutral.step (Km562Neutral.step s [c]).1 (cs.map fun c => [c])) = _
  rw [List.flatMap_cons]; rfl
theorem asked_parsed {l : List Int} (h : PyKm562.answers_asked l = true) : ∃ cs, Parsed l cs ∧ PyKm562.answers l = said none cs ∧ (PyKm562.answers l).length ≤ 10000000 := by
  unfold PyKm562.answers_asked at h
  cases e : PyFlat.calls PyKm562.shape l.length l with
  | none => rw [e] at h; cases h
  | some raw =>
    rw [e] at h
    obtain ⟨cs, h1, h2⟩ := parsed_of _ _ _ e
    simp only [Bool.and_eq_true] at h
    have h3 : (PyKm562.answers l).length ≤ 10000000 := by
      have z := h.2
      unfold PyFlat.short at z
      exact of_decide_eq_true z
    refine ⟨cs, h1, ?_, h3⟩
    unfold PyKm562.answers PyKm562.calls said
    rw [e]
    dsimp only
    have ew : raw.map PyKm562.whole = raw := by
      have : PyKm562.whole = id := funext whole_same
      rw [this, List.map_id]
    rw [ew, h2]; rfl
/-- ahead of a create -/
theorem step_none {p : Nat} {args : List Int} (hc : counts[p]? = some args.length) (h0 : p ≠ 0) : Km562Neutral.step none [(p : Int) :: args] = (none, [-11]) := by
  have key : ∀ c : Km562.Call, c ≠ .create → Km562.step none c = (none, Km562.error (-11)) := fun c hne => by cases c <;> first | rfl | exact absurd rfl hne
  have hp : p < 27 := (List.getElem?_eq_some_iff.mp hc).1
  match p, args, hc with
  | 0, _, _ => exact absurd rfl h0
  | 1, [_], _ | 2, [], _ | 3, [_, _], _ | 4, [_], _ | 5, [_], _ | 6, [], _ | 7, [_, _], _ | 8, [_], _ | 9, [_], _ | 10, [], _ | 11, [], _ | 12, [], _ | 13, [], _ | 14, [], _ | 15, [_], _ | 16, [_], _ | 17, [], _ | 18, [_], _ | 19, [], _ | 20, [], _ | 21, [], _ | 22, [_, _], _ | 23, [_], _ | 24, [_], _ | 25, [_], _ | 26, [], _ => rfl
theorem step_create (s : Km562.State) : Km562Neutral.step s [[(0 : Int)]] = (some fresh, [0]) := by cases s <;> rfl
/-- a call's own numbers, as natural ones -/
def callOf (p : Nat) (args : List Nat) : Option Km562.Call := match p, args with
  | 1, [a] => some (.addDay a)
  | 2, [] => some .removeLastDay
  | 3, [a, b] => some (.setGrowth a b)
  | 4, [a] => some (.setTripCost a)
  | 5, [a] => some (.setMaxThickness a)
  | 6, [] => some .listGrowth
  | 7, [a, b] => some (.thicknessBetween a b)
  | 8, [a] => some (.addBreak a)
  | 9, [a] => some (.removeBreak a)
  | 10, [] => some .listBreaks
  | 11, [] => some .thicknessPerBreak
  | 12, [] => some .isValidSchedule
  | 13, [] => some .scheduleCost
  | 14, [] => some .totalGrowth
  | 15, [a] => some (.optimalBreaks a)
  | 16, [a] => some (.useOptimalBreaks a)
  | 17, [] => some .excessEffort
  | 18, [a] => some (.savingOfBreak a)
  | 19, [] => some .minBreakCount
  | 20, [] => some .cheapestBreakCount
  | 21, [] => some .useCheapestBreaks
  | 22, [a, b] => some (.cheapestWithGrowth a b)
  | 23, [a] => some (.cheapestWithMaxThickness a)
  | 24, [a] => some (.balancedEffort a)
  | 25, [a] => some (.thicknessAt a)
  | 26, [] => some .summary
  | _, _ => none
theorem callOf_some {p : Nat} {args : List Nat} (hc : counts[p]? = some args.length) (h0 : p ≠ 0) : ∃ c, callOf p args = some c ∧ Km562Neutral.parseCall [(p : Int) :: args.map fun (x : Nat) => (x : Int)] = some c := by
  have hp : p < 27 := (List.getElem?_eq_some_iff.mp hc).1
  match p, args, hc with
  | 0, _, _ => exact absurd rfl h0
  | 1, [_], _ | 2, [], _ | 3, [_, _], _ | 4, [_], _ | 5, [_], _ | 6, [], _ | 7, [_, _], _ | 8, [_], _ | 9, [_], _ | 10, [], _ | 11, [], _ | 12, [], _ | 13, [], _ | 14, [], _ | 15, [_], _ | 16, [_], _ | 17, [], _ | 18, [_], _ | 19, [], _ | 20, [], _ | 21, [], _ | 22, [_, _], _ | 23, [_], _ | 24, [_], _ | 25, [_], _ | 26, [], _ => exact ⟨_, rfl, rfl⟩
theorem step_call {p : Nat} {args : List Nat} {m m' : Sch} {c : Km562.Call} {r : Km562.Result} (hc : counts[p]? = some args.length) (h0 : p ≠ 0) (e : callOf p args = some c) (h : Km562.step (some m) c = (some m', r)) :
    Km562Neutral.step (some m) [(p : Int) :: args.map fun (x : Nat) => (x : Int)] = (some m', r.num :: r.nums) := by
  obtain ⟨c', e1, e2⟩ := callOf_some hc h0
  rw [e] at e1
  cases e1
  unfold Km562Neutral.step
  rw [e2]
  show ((Km562.step (some m) c).1, (Km562.step (some m) c).2.num :: (Km562.step (some m) c).2.nums) = _
  rw [h]
theorem nats_of : ∀ {l : List Int}, (∀ x ∈ l, 0 ≤ x) → ∃ ns : List Nat, l = ns.map fun (x : Nat) => (x : Int)
  | [], _ => ⟨[], rfl⟩
  | x :: l, h => by
    obtain ⟨ns, e⟩ := nats_of (l := l) fun y hy => h y (List.mem_cons_of_mem _ hy)
    have hx := h x (List.mem_cons_self ..)
    exact ⟨x.toNat :: ns, by rw [List.map_cons, ← e, Int.toNat_of_nonneg hx]⟩
end Ice

/-! Refusals: classes of the program over Exception whose __init__ hands a number on to their base's. -/
namespace IceX
open PySem PySem.Spec PyProof.Rows L2
abbrev exT : List Value := [.type "Exception", .type "BaseException", .type "object"]
/-- what the written part says of a refusal's class, R the base that the handler names -/
structure ErC (K : PySem.W.Frag) (R C : Addr) : Prop where
  cls : ∃ nm q N bs bm sn sub ab col dd k0 k1 k2 k3 k5, K.lookup C = some (excClassObj nm q C N bs bm true sn sub ab col dd k0 k1 k2 k3 k5 "Exception.__new__") ∧ PySem.W.excTail exT bm = true
  sa : PySem.W.findIn K (.ref C) "__setattr__" = some (some (.builtin "object.__setattr__"))
  noC : PySem.W.findIn K (.ref C) "code" = some none
  exC : PySem.W.subIn K (.ref C) (.type "BaseException") = some true
  tyC : PySem.W.typeIn K (.ref C) = some (.type "type")
  kC : PySem.W.keepIn K (.ref C) = true
  xf : XfC K C
  te : PySem.W.exmOne K (.ref C) (.ref R) = some true
section
open Builtin Builtin.ObjectAttr
variable {prog : Program} {w : World} {A : Around} {E : Value → Shared → Prop} {R : Result → Shared → Prop} {hp : Heap} {g : Array GenState} {d : Drawn} {t : Nat} {os : OsState}
/-- the first value that is given to a new exception -/
theorem code_first {K : PySem.W.Frag} {tk : Tok} {v : Value} {x C R0 : Addr} {fv : Array Value} (T : ErC K R0 C)
    (X : K.In hp) (hx : hp.get? x = some { cls := .ref C, data := .fields fv })
    (hq : ∀ h' tk' dx, (∀ b o, b ≠ x → hp.get? b = some o → h'.get? b = some o) → hp.objs.size ≤ dx → dx ≠ x → h'.get? x = some { cls := .ref C, dict := some dx, data := .fields fv } →
      h'.Ns1 dx (fun y => if y = "code" then some v else none) → R (.ok (.ret .none)) ⟨h', g, d, tk', os⟩) :
    codeAny (model prog w) A (.call (.builtin "object.__setattr__") ⟨[.ref x, .str "code" tk, v], []⟩) R ⟨hp, g, d, t, os⟩ := by
  obtain ⟨nm, q, N, bs, bm, sn, sub, ab, col, dd, k0, k1, k2, k3, k5, hC, hbm⟩ := T.cls
  have hcd : PySem.W.clsIn K C = some { name := nm, bases := bs, mro := .ref C :: bm, ns := N, qualname := q, hasDict := true, slotNames := sn, subclasses := sub, abstract := ab, collection := col, hasDel := false } := by unfold PySem.W.clsIn; rw [hC] <;> rfl
  have I : PySem.W.InstAt hp x { cls := .ref C, data := .fields fv } C none := ⟨hx, rfl, rfl, trivial⟩
  have hxs : x ≠ hp.objs.size := Nat.ne_of_lt (Heap.lt_size hx)
  have ov : PySem.W.excOver K C exT = true := by
    unfold PySem.W.excOver
    rw [hcd]
    show ((C == C) && PySem.W.excTail exT bm) = true
    rw [hbm, beq_self_eq_true]; rfl
  have tk0 : PySem.W.takerIn K C "code" = some none := by
    unfold PySem.W.takerIn
    rw [T.noC]; rfl
  have hcls : PySem.W.Looks (model prog w) hp (classData C) _ := PySem.W.looks_clsIn X hcd
  refine PySem.W.osa_openX PySem.F.store_Exception X I ov tk0 fun b => ?_
  show wpAny _ _ (storeInOwnDict (.ref x) (.ref C) (.str "code" tk) "code" v b) _ _ _
  unfold storeInOwnDict ownDictForStores
  cases b
  all_goals
    repeat (first | with_reducible refine HandSPX.store_in_new ?_ ?_ | with_reducible refine wpAny_loadPart_at hx ?_ | with_reducible refine hcls.at ?_ | wp_step)
  all_goals first
    | exact ⟨_, #[], _, (Heap.get?_update_ne _ _ _ _ hxs.symm).trans (Heap.get?_push_at rfl rfl), rfl, fun e he => absurd he (by simp), fun _ => rfl⟩
    | skip
  all_goals
    intro h' tk' hn' hs
    have hx1 : (hp.push { cls := .type "dict", data := .dict #[] }).get? x = some { cls := .ref C, data := .fields fv } := Heap.get?_push_of_some _ hx
    refine hq h' tk' hp.objs.size (fun b o hb ho => ?_) (Nat.le_refl _) hxs.symm ?_ hn'
    · exact (hs.2 b (Nat.ne_of_lt (Heap.lt_size ho))).trans ((Heap.get?_update_ne _ _ _ _ hb).trans (Heap.get?_push_of_some _ ho))
    · exact (hs.2 x hxs).trans (Heap.get?_update_self _ hx1 rfl)
end
section
variable {X : Cx} {pins : List (Addr × Obj)} {σ : L2.St} {H : Hp} {s : Shared} {a C R dx : Addr} {y : V} {u : Value} {Q : Unit → Shared → Prop} {E : Value → Shared → Prop} {A : Around}
/-- self.code = y, of a new refusal -/
theorem code_new (T : ErC X.K R C) (I : Inv X pins σ H s) (e : H a = some (exo a C none)) (ry : RelV y u)
    (h : ∀ dx s', H dx = none → dx ≠ a → Inv X pins σ (upd (upd H dx (exd dx [("code", y)])) a (exo a C (some dx))) s' → Q () s') : wpAny (model X.prog X.w) A (setAttr (.ref a) "code" u) Q E s := by
  obtain ⟨t1, ho⟩ := exo_at I.hok e
  obtain ⟨hp, g, d, t, os⟩ := s
  refine PySem.W.set_plain I.kIn (ox := { cls := .ref C, dict := none, data := .fields #[.ref t1, .none, .none, .none, .bool false, .none] }) (od := none) ⟨ho, rfl, rfl, trivial⟩ T.sa ?_
  refine code_first T I.kIn ho fun h' tk' dx k dn dne hx hn => ?_
  have hnd : H dx = none := I.hok.fresh dn
  have nd : ∀ {b : Addr} {o : Obj}, hp.get? b = some o → b ≠ dx := fun {b o} q => Nat.ne_of_lt (Nat.lt_of_lt_of_le (Heap.lt_size q) dn)
  have na : ∀ {b : Addr}, H b = none → b ≠ a := fun {b} n z => by
    rw [z, e] at n
    cases n
  have U : Un X.fs [] H (upd (upd H dx (exd dx [("code", y)])) a (exo a C (some dx))) hp h' := {
    keep := fun b o q n _ _ => k b o (na n) q
    slot := fun b o q n _ _ => ⟨o.slots, k b o (na n) q⟩
    free := fun b o q n _ => by rw [upd_ne (na n), upd_ne (nd q)]; exact n
    there := fun b o q _ => by
      by_cases hb : b = a
      · exact ⟨_, by rw [hb]; exact hx⟩
      · exact ⟨o, k b o hb q⟩
    tups := fun b xs q => by rw [upd_ne (at_ne e q exo_tup), upd_ne (ne_of_none q hnd)]; exact q
    frzs := fun b o v q => by rw [upd_ne (at_ne e q exo_frz), upd_ne (ne_of_none q hnd)]; exact q
    tbls := fun b ps q => ⟨#[], by rw [upd_ne (at_ne e q exo_tbl), upd_ne (ne_of_none q hnd), q]; simp⟩ }
  refine h dx _ hnd dne (I.un (t' := tk') U fun b o q => ?_)
  by_cases hb : b = a
  · subst hb
    rw [upd_same] at q
    cases q
    exact exo_ok hx
  · rw [upd_ne hb] at q
    by_cases hd : b = dx
    · subst hd
      rw [upd_same] at q
      cases q
      exact exd_ok hn (relO_put (fs := []) ry fun g => True.intro)
    · rw [upd_ne hd] at q
      exact (I.hok b o q).stay (fun c v hc z => k c v (by
          rcases hc with hc | hc
          · rw [hc]
            exact hb
          · exact at_ne e hc exo_own) z)
        (fun c hc => by rw [upd_ne (at_ne e hc exo_own), upd_ne (ne_of_none hc hnd)]; exact hc) (fun c xs hc => by rw [upd_ne (at_ne e hc exo_tup), upd_ne (ne_of_none hc hnd)]; exact hc)
end
/-- self.code = e -/
def tCode (K : PySem.W.Frag) (R : Addr) (to te : TE) : TS := fun D σ H => te σ H fun y H1 => to σ H1 fun x H2 => ∃ a C : Addr, x = .ref a ∧ ErC K R C ∧ H2 a = some (exo a C none) ∧
  ∀ dx, H2 dx = none → dx ≠ a → D.nx σ (upd (upd H2 dx (exd dx [("code", y)])) a (exo a C (some dx)))
/-- C(), C's own __init__ keeping sp -/
def tNew (C : Addr) (sp : Sp) : L2.St → Hp → XK → Prop := fun _ H Q => ∀ a, H a = none → sp [.ref a] (upd H a (exo a C none))
  (fun v H2 => v = .non ∧ ∃ (d : Addr) (fs : List (Str × V)), H2 a = some (exo a C (some d)) ∧ H2 d = some (exd d fs) ∧ H d = none ∧ Q (.ref C) (some d) (upd (del H2 a) d (.xd fs))) (fun _ _ _ => False)
/-- Base.__init__(self, ..) -/
def tBase (sp : Sp) (ta : TA) : TE := fun σ H Q => ta σ H fun vs H1 => sp vs H1 Q (fun _ _ _ => False)
section
variable {X : Cx} {o e : Expr} {es : List Expr} {to te : TE} {ta : TA} {p p' p1 p2 pos : Pos} {R : Addr}
theorem ps_code (ho : PE X o to) (he : PE X e te) (hs : swapsWith e (some (.Attribute o "code" p')) pos.line X.env = pure false := by rfl) : PS X (.Assign [.Attribute o "code" p'] e pos) (tCode X.K R to te) := by
  refine ⟨fun pins s σ H D I h => ?_⟩
  refine plainObj_wpAny_Assign_Attribute (thn (he.run pins s σ H _ I h) fun v s1 ⟨y, H1, I1, r1, q1⟩ => thn (ho.run pins s1 σ H1 _ I1 q1) fun u s2 ⟨x, H2, I2, r2, a, C, ex, T, ea, q⟩ => ?_) hs
  subst ex
  obtain rfl : u = Value.ref a := r2
  exact code_new T I2 ea r1 fun dx s' n ne J => ⟨σ, _, J, q dx n ne⟩
theorem pe_base {x : Str} {CX : CXT} {k : Nat} {f : Addr} {fd : FuncData} {ps : List Str} {sp : Sp} {pl : Sem Bool} (hg : Gl X x) (hm : X.mg x = some (.ref R)) (rd : PySem.W.readsIn X.K R (.type "type") = true)
    (ga : PySem.W.specialIn X.K (.ref R) "__getattribute__" = some (some (.builtin "type.__getattribute__"))) (at_ : PySem.W.findCls X.K (.ref R) (.type "type") "__init__" = some (.val (.ref f)))
    (F : FnOk X.prog X.w X.K X.mg X.base CX k f fd ps sp) (hr : Room k X.A) (hk : PySem.W.keepIn X.K (.ref f) = true) (hb : Binds X.K fd ps []) (hx : Passes CX X (fun _ _ _ => False)) (ha : PA X (e :: es) ta)
    (hdb : (x == ("__debug__" : Str)) = false := by decide)
    (hc : eval (.Call (.Attribute (.Name x p1) "__init__" p2) (e :: es) [] pos) X.env = (do
      let ov ← eval (.Name x p1) X.env
      standAt p2.atName
      let (f, first) ← holding [ov] (getMethod ov "__init__" pl)
      callWith pos f first (backTo pos (starEach (e :: es) X.env)) (backToKw pos (keywordEach [] X.env))) := by rfl)
    (he : starEach (e :: es) X.env = (false, eval e X.env) :: starEach es X.env := by rfl) (hpl : (backTo pos (starEach es X.env)).any (·.1) = false := by rfl) :
    PE X (.Call (.Attribute (.Name x p1) "__init__" p2) (e :: es) [] pos) (tBase sp ta) := by
  refine ⟨fun pins s σ H Q I h => ?_⟩
  refine PySem.W.methodCall_KW (ld_glob I hg hm ?_ hdb) hc
  refine PySem.W.method_cls I.kIn ga (PySem.W.cls_value I.kIn rd at_ rfl ?_)
  refine PySem.W.callWith_K (first := []) (h₀ := X.base) I.ok.mod.kin hk (thn (ha.run pos pins _ σ H _ (I.tok _) h) fun us s2 ⟨vs, H2, I2, r, q⟩ => ⟨I2.kIn, ?_⟩) he hpl
  have z := run_fn (us := us) (vs := vs) (ds := []) (dvs := []) F hr hb .nil hx I2 r (by rw [List.append_nil]; exact q)
  exact z
theorem pmk_new {CX : CXT} {x : Str} {C fI : Addr} {k : Nat} {fd : FuncData} {ps : List Str} {sp : Sp} (T : ErC X.K R C) (iC : PySem.W.findIn X.K (.ref C) "__init__" = some (some (.ref fI))) (tI : PySem.W.typeIn X.K (.ref fI) = some (.type "function"))
    (F1 : FnOk X.prog X.w X.K X.mg X.base CX k fI fd ps sp) (hr : Room (k + 1) X.A) (hb : Binds X.K fd ps []) (hx : Passes CX X (fun _ _ _ => False)) (hg : Gl X x) (hm : X.mg x = some (.ref C))
    (hdb : (x == ("__debug__" : Str)) = false := by decide) : PMk X (.Call (.Name x p) [] [] pos) (tNew C sp) := by
  intro pins s σ H Q I h
  obtain ⟨nm, q, N, bs, bm, sn, sub, ab, col, dd, k0, k1, k2, k3, k5, hC, hbm⟩ := T.cls
  refine wpAny_Call_Name_kw (ld_glob I hg hm ?_ hdb)
  refine PySem.W.callWith_K0 I.kIn T.kC ?_
  obtain ⟨hp, g, dr, tk, os⟩ := s
  have hsz : hp.objs.size ≤ hp.objs.size + 1 := Nat.le_succ _
  have hn : H (hp.objs.size + 1) = none := I.hok.fresh hsz
  have hq := h (hp.objs.size + 1) hn
  have kk : ∀ b o, hp.get? b = some o → ((hp.push (PySem.W.kdv_tup [])).push (PySem.HandSPX.excO C hp.objs.size)).get? b = some o := fun b o e => Heap.get?_push_of_some _ (Heap.get?_push_of_some _ e)
  have hget : ((hp.push (PySem.W.kdv_tup [])).push (PySem.HandSPX.excO C hp.objs.size)).get? (hp.objs.size + 1) = some (PySem.HandSPX.excO C hp.objs.size) := by heap_get
  have I2 : Inv X pins σ (upd H (hp.objs.size + 1) (exo (hp.objs.size + 1) C none)) ⟨(hp.push (PySem.W.kdv_tup [])).push (PySem.HandSPX.excO C hp.objs.size), g, dr, tk, os⟩ :=
    I.laid (t' := tk) (a := hp.objs.size + 1) (o := exo (hp.objs.size + 1) C none) (h' := (hp.push (PySem.W.kdv_tup [])).push (PySem.HandSPX.excO C hp.objs.size)) kk hsz (exo_ok hget)
  have hl : ([Value.ref (hp.objs.size + 1)] ++ []).length = ps.length := (F1.len _ _ _ _ hq)
  refine wpAny_call (PySem.HandSPX.call_own PySem.F.excBase_Exception (fun Y => PySem.W.excTail_contains Y bm hbm) (I.kIn _ _ hC) (PySem.W.looks_findIn I.kIn iC) (fun self => PySem.W.bind_fn I.kIn self tI) (Nat.zero_le _)
    (codeAny_mono (F1.run _ X.stack _ _ ⟨[Value.ref (hp.objs.size + 1)], []⟩ ([Value.ref (hp.objs.size + 1)] ++ []) _ _ (fun _ _ _ => False) (hr.make C [] []) (I2.env0.make C [] []) (hb _ [Value.ref (hp.objs.size + 1)] I2.kIn hl) (.cons (show RelV (V.ref (hp.objs.size + 1)) _ from rfl) .nil) hq) fun r s' hq' => ?_))
  cases r with
  | error er => exact hx pins σ _ _ er s' I2 hq'
  | ok fl =>
    cases fl with
    | ret u =>
      obtain ⟨v, H2, os2, bare2, un2, hok2, rv, ev, d, fs, ea, ed, hd1, q2⟩ := hq'
      subst ev
      obtain ⟨h2, g2, d2, t2, os'⟩ := s'
      exact ⟨rv, mk_end (raises_own T.exC T.tyC) I hsz kk un2 hok2 os2 bare2 ea ed hd1 q2⟩
    | next => exact False.elim hq'
    | brk => exact False.elim hq'
    | cont => exact False.elim hq'
end
end IceX

/-! Words for the bodies: defs by their names, lists of natural numbers, the instance. -/
namespace Ice
open PySem PySem.Spec PyProof.Rows L2 IceX
/-! ### the text -/
def topS (i : Nat) : Stmt := PySem.Challenge.pw_icebreaks_s01_answers.main.body.getD i (.Pass ⟨0, 0, 0, 0⟩)
/-- a def as the top has left it, by its name -/
def Df (K : PySem.W.Frag) (mg : Str → Option Value) (x : Str) (st : Stmt) (ps : List Str) : Prop := ∃ f fd, Fun K x x st f fd ∧ mg x = some (.ref f) ∧ Binds K fd ps []
/-- a def's promise, by its name -/
def Has (P : Program) (w : World) (K : PySem.W.Frag) (mg : Str → Option Value) (base : Heap) (CX : CXT) (k : Nat) (x : Str) (ps : List Str) (sp : Sp) : Prop :=
  ∃ f fd, mg x = some (.ref f) ∧ FnOk P w K mg base CX k f fd ps sp ∧ PySem.W.keepIn K (.ref f) = true ∧ Binds K fd ps []
theorem has_mk {P : Program} {w : World} {K : PySem.W.Frag} {mg : Str → Option Value} {base : Heap} {CX : CXT} {k : Nat} {x : Str} {st : Stmt} {ps : List Str} {sp : Sp} (D : Df K mg x st ps)
    (h : ∀ f fd, Fun K x x st f fd → FnOk P w K mg base CX k f fd ps sp) : Has P w K mg base CX k x ps sp := by
  obtain ⟨f, fd, F, m, b⟩ := D
  exact ⟨f, fd, m, h f fd F, F.kp, b⟩
theorem Has.imp {P : Program} {w : World} {K : PySem.W.Frag} {mg : Str → Option Value} {base : Heap} {CX : CXT} {k : Nat} {x : Str} {ps : List Str} {sp sp' : Sp} (D : Has P w K mg base CX k x ps sp)
    (h : ∀ vs H Q E, sp' vs H Q E → sp vs H Q E) : Has P w K mg base CX k x ps sp' := by
  obtain ⟨f, fd, m, F, kp, b⟩ := D
  exact ⟨f, fd, m, F.imp h, kp, b⟩
def tH (sp : Sp) (E : XK) (t : TA) : TE := fun σ H Q => t σ H fun vs H1 => sp vs H1 Q E
section
variable {X : Cx} {CX : CXT} {k : Nat} {ps : List Str} {sp : Sp} {E : XK} {x : Str} {p pos : Pos} {e : Expr} {es : List Expr} {t : TA}
theorem pe_H (D : Has X.prog X.w X.K X.mg X.base CX k x ps sp) (hr : Room k X.A) (hx : Passes CX X E) (ha : PA X (e :: es) t) (hg : Gl X x := by rfl)
    (hdb : (x == ("__debug__" : Str)) = false := by decide) (he : starEach (e :: es) X.env = (false, eval e X.env) :: starEach es X.env := by rfl) (hpl : (backTo pos (starEach es X.env)).any (·.1) = false := by rfl) :
    PE X (.Call (.Name x p) (e :: es) [] pos) (tH sp E t) := by
  obtain ⟨f, fd, m, F, kp, b⟩ := D
  have h := pe_call (p := p) (pos := pos) (dvs := []) (E := E) F hr hg m kp b .nil hx ha hdb he hpl
  refine ⟨fun pins s σ H Q I q => h.run pins s σ H Q I ?_⟩
  have e0 : (fun (vs : List V) (H1 : Hp) => sp (vs ++ []) H1 Q E) = fun vs H1 => sp vs H1 Q E := by
    funext vs H1
    rw [List.append_nil]
  show t σ H (fun vs H1 => sp (vs ++ []) H1 Q E)
  rw [e0]
  exact q
end
/-- a raise within: the callee's way out is the def's own -/
theorem passC {X : Cx} {E : XK} (tk : Takes X fun cls d _ H => E cls d H) : Passes (L2.CX X.prog X.w) X E := passes_call tk fun _ _ _ _ h => h
/-! ### lists of natural numbers -/
abbrev zs (l : List Nat) : List Int := l.map fun (n : Nat) => (n : Int)
abbrev nV (l : List Nat) : List V := (zs l).map V.int
theorem nV_len (l : List Nat) : (nV l).length = l.length := by simp
theorem nV_get {l : List Nat} {i : Nat} {x : Nat} (h : l[i]? = some x) : (nV l)[i]? = some (V.int (x : Int)) := by simp [h]
theorem nV_of {l : List Nat} {i : Nat} {v : V} (h : (nV l)[i]? = some v) : ∃ x : Nat, l[i]? = some x ∧ v = V.int (x : Int) := by
  rw [List.getElem?_map, List.getElem?_map] at h
  cases e : l[i]? with
  | none => rw [e] at h; cases h
  | some x => rw [e] at h; exact ⟨x, rfl, (Option.some.inj h).symm⟩
theorem nV_app (l r : List Nat) : nV (l ++ r) = nV l ++ nV r := by simp
theorem nV_app_int (l : List Nat) (d : Nat) : nV (l ++ [d]) = nV l ++ [V.int (d : Int)] := nV_app l [d]
theorem nV_take (l : List Nat) (n : Nat) : nV (l.take n) = (nV l).take n := by simp [List.map_take]
theorem nV_drop (l : List Nat) (n : Nat) : nV (l.drop n) = (nV l).drop n := by simp [List.map_drop]
theorem zs_sum : ∀ l : List Nat, (zs l).sum = (l.sum : Int)
  | [] => rfl
  | x :: l => by
    show (x : Int) + (zs l).sum = ((x + l.sum : Nat) : Int)
    rw [zs_sum l]; omega
theorem cut_V (g : List Nat) (a b : Nat) : cutV (nV g) (some (a : Int)) (some (b : Int)) = nV (cut g a b) := by
  unfold cutV cut
  rw [HT.sIx_nat, HT.sIx_nat, nV_len, nV_take, nV_drop]
  by_cases h : g.length ≤ a
  · rw [List.drop_eq_nil_of_le (by rw [nV_len]; omega), List.drop_eq_nil_of_le (by rw [nV_len]; omega)]
    simp
  · have e1 : min a g.length = a := by omega
    rw [e1]
    by_cases h2 : b ≤ g.length
    · rw [Nat.min_eq_left h2]
    · rw [Nat.min_eq_right (by omega), List.take_of_length_le (by rw [List.length_drop, nV_len]; omega), List.take_of_length_le (by rw [List.length_drop, nV_len]; omega)]
theorem nV_inj : ∀ {l r : List Nat}, nV l = nV r → l = r := by
  intro l
  induction l with
  | nil => intro r h; cases r with | nil => rfl | cons y r => cases h
  | cons x l ih =>
    intro r h
    cases r with
    | nil => cases h
    | cons y r =>
      have h' := List.cons.inj h
      have e : (x : Int) = (y : Int) := V.int.inj h'.1
      rw [Int.ofNat.inj e, ih h'.2]
theorem in_V (d : Nat) (l : List Nat) : inV (.int (d : Int)) (nV l) = decide (d ∈ l) := by
  unfold inV
  induction l with
  | nil => rfl
  | cons x l ih =>
    show (eqV (.int (x : Int)) (.int (d : Int)) || (nV l).any fun y => eqV y (.int (d : Int))) = _
    rw [ih]
    have e : eqV (.int (x : Int)) (.int (d : Int)) = decide (x = d) := by
      show ((x : Int) == (d : Int)) = decide (x = d)
      by_cases h : x = d
      · rw [h]; simp
      · rw [decide_eq_false h]
        simpa using fun z => h (Int.ofNat.inj z)
    rw [e]
    by_cases h : x = d
    · rw [decide_eq_true h, Bool.true_or, decide_eq_true (by rw [h]; exact List.mem_cons_self ..)]
    · rw [decide_eq_false h, Bool.false_or]
      by_cases h2 : d ∈ l
      · rw [decide_eq_true h2, decide_eq_true (List.mem_cons_of_mem _ h2)]
      · rw [decide_eq_false h2, decide_eq_false fun z => (List.mem_cons.mp z).elim (fun q => h q.symm) h2]
theorem flat_V (l : List Nat) : (nV l).all flatV = true := by
  induction l with
  | nil => rfl
  | cons x l ih => exact ih
theorem perm_zs {ns : List Int} {l : List Nat} (h : ns.Perm (zs l)) : ∃ l' : List Nat, ns = zs l' ∧ l'.Perm l := by
  obtain ⟨l', e⟩ := nats_of (l := ns) fun x hx => by
    obtain ⟨y, _, e⟩ := List.mem_map.mp (h.mem_iff.mp hx)
    rw [← e]; exact Int.natCast_nonneg y
  refine ⟨l', e, ?_⟩
  have z := h.map Int.toNat
  have id1 : ∀ l : List Nat, (zs l).map Int.toNat = l := fun l => by
    induction l with
    | nil => rfl
    | cons x l ih => show Int.toNat (x : Int) :: (zs l).map Int.toNat = x :: l; rw [ih]; rfl
  rw [e, show l'.map (fun (x : Nat) => (x : Int)) = zs l' from rfl, id1, id1] at z
  exact z
theorem sorted_zs {l : List Nat} (h : (zs l).Pairwise (· ≤ ·)) : l.Pairwise (· ≤ ·) := by
  rw [List.pairwise_map] at h
  exact h.imp fun q => by omega
/-! ### names of the top -/
structure Bi (mg : Str → Option Value) : Prop where
  len : mg "len" = none
  sum : mg "sum" = none
  max : mg "max" = none
  sorted : mg "sorted" = none
  list : mg "list" = none
  range : mg "range" = none
structure Cn (mg : Str → Option Value) : Prop where
  days : ∃ t, mg "MOST_DAYS" = some (.int 10 t)
  growth : ∃ t, mg "MOST_GROWTH" = some (.int 30 t)
  trip : ∃ t, mg "MOST_TRIP_COST" = some (.int 9999 t)
  thick : ∃ t, mg "MOST_THICKNESS" = some (.int 999 t)
  create : ∃ t, mg "CREATE" = some (.int 0 t)
theorem pe_cn {X : Cx} {x : Str} {i : Int} {pos : Pos} (h : ∃ t, X.mg x = some (.int i t)) (hg : Gl X x := by rfl) (hd : (x == ("__debug__" : Str)) = false := by decide) : PE X (.Name x pos) (tC (.int i)) := by
  obtain ⟨t, e⟩ := h
  exact pe_glob hg e ⟨t, rfl⟩ hd
theorem if_true_of {c : Bool} {A B : Prop} (hc : c = true) (h : A) : if c = true then A else B := by
  rw [if_pos hc]
  exact h
theorem if_false_of {c : Bool} {A B : Prop} (hc : c = false) (h : B) : if c = true then A else B := by
  rw [hc, if_neg Bool.false_ne_true]
  exact h
theorem Same.upd_new {H H1 : Hp} {p : Addr} {o : HO} (s : Same H H1) (h : H1 p = none) : Same H (upd H1 p o) := fun b u e => by
  rw [upd_ne (ne_of_none (s b u e) h)]
  exact s b u e
/-- a new address, written once more -/
theorem Same.upd_at {H H1 : Hp} {p : Addr} {o : HO} (s : Same H H1) (h : H p = none) : Same H (upd H1 p o) := fun b u e => by
  rw [upd_ne (ne_of_none e h)]
  exact s b u e
theorem same_new {H : Hp} {p : Addr} {o : HO} (h : H p = none) : Same H (upd H p o) := Same.upd_new (Same.refl H) h
end Ice

namespace Ice
open PySem PySem.Spec PyProof.Rows L2 IceX
section
variable {P : Program} {w : World} {K : PySem.W.Frag} {mg : Str → Option Value} {base : Heap}
/-! ### thickness_of -/
def spThick (K : PySem.W.Frag) : Sp := fun vs H Q _ => ∃ (a : Addr) (g : List Nat) (i j : Nat), vs = [.ref a, .int i, .int j] ∧ SqL K H a (nV g) ∧ ∀ H', Same H H' → Q (.int (thick g i j : Nat)) H'
theorem sc1 : FnScope ["growths", "first_day", "last_day"] ["growths", "first_day", "last_day"] (defScope (topS 1)) := ⟨rfl, rfl, rfl, by decide +kernel, rfl, by decide +kernel, by decide +kernel⟩
theorem h_thick (D : Df K mg "thickness_of" (topS 1) ["growths", "first_day", "last_day"]) (B : Bi mg) : Has P w K mg base CX0 1 "thickness_of" ["growths", "first_day", "last_day"] (spThick K) := by
  refine has_mk D fun f fd F => F.ok sc1 (fun vs H Q E h => ?_) (fun cdv A outer s H vs Q E hr h => ⟨_, pss_one (ps_ret (pe_callB (cr_sum rfl) (by rfl) B.sum boot_sum
    (pa_cons (pe_slice sl_list (pv 0) (po_some (pv 1)) (po_some (pe_op op_add (pv 2) pe_int))) pa_nil))), ?_⟩)
  · obtain ⟨a, g, i, j, rfl, _⟩ := h
    rfl
  · obtain ⟨a, g, i, j, rfl, hg, k⟩ := h
    refine ⟨_, rfl, _, rfl, _, rfl, _, rfl, _, _, rfl, rfl, _, rfl, a, _, rfl, hg, fun p hp => ?_⟩
    have e1 : (j : Int) + 1 = ((j + 1 : Nat) : Int) := by omega
    rw [e1, cut_V]
    refine ⟨p, zs (cut g i (j + 1)), rfl, SqL.of upd_same, ?_⟩
    rw [zs_sum]
    exact k _ (same_new hp)
/-! ### effort_of -/
def spEff : Sp := fun vs H Q _ => ∃ n : Nat, vs = [.int n] ∧ n < 2 ^ 64 ∧ Q (.int (n * n : Nat)) H
theorem sc2 : FnScope ["thickness"] ["thickness"] (defScope (topS 2)) := ⟨rfl, rfl, rfl, by decide +kernel, rfl, by decide +kernel, by decide +kernel⟩
theorem h_eff (D : Df K mg "effort_of" (topS 2) ["thickness"]) : Has P w K mg base CX0 1 "effort_of" ["thickness"] spEff := by
  refine has_mk D fun f fd F => F.ok sc2 (fun vs H Q E h => ?_) (fun cdv A outer s H vs Q E hr h => ⟨_, pss_one (ps_ret (pe_op op_mul (pv 0) (pv 0))), ?_⟩)
  · obtain ⟨n, rfl, _⟩ := h
    rfl
  · obtain ⟨n, rfl, hn, k⟩ := h
    refine ⟨_, rfl, _, rfl, _, _, rfl, rfl, .inl ⟨by omega, by omega⟩, ?_⟩
    have e : (n : Int) * (n : Int) = ((n * n : Nat) : Int) := by rw [Int.natCast_mul]
    show Q (.int ((n : Int) * (n : Int))) H
    rw [e]
    exact k
/-! ### thickness_before_break -/
def spBefore (K : PySem.W.Frag) : Sp := fun vs H Q _ => ∃ (a b : Addr) (g bs : List Nat) (d : Nat), vs = [.ref a, .ref b, .int d] ∧ SqL K H a (nV g) ∧ SqL K H b (nV bs) ∧ ∀ H', Same H H' → Q (.int (thick g (firstDay bs d) d : Nat)) H'
theorem sc3 : FnScope ["growths", "breaks", "day", "first_day", "other"] ["growths", "breaks", "day"] (defScope (topS 3)) := ⟨rfl, rfl, rfl, by decide +kernel, rfl, by decide +kernel, by decide +kernel⟩
theorem take_more {α : Type} : ∀ {l : List α} {i : Nat} {x : α}, l[i]? = some x → l.take (i + 1) = l.take i ++ [x] := fun {l i x} h => by
  rw [List.take_add_one, h]; rfl
theorem firstDay_take {bs : List Nat} {d i x : Nat} (h : bs[i]? = some x) : firstDay (bs.take (i + 1)) d = if x < d then x + 1 else firstDay (bs.take i) d := by
  unfold firstDay
  rw [take_more h, List.foldl_append]; rfl
theorem h_before (D : Df K mg "thickness_before_break" (topS 3) ["growths", "breaks", "day"]) (hT : ∀ {base : Heap}, Has P w K mg base CX0 1 "thickness_of" ["growths", "first_day", "last_day"] (spThick K)) :
    Has P w K mg base CX0 2 "thickness_before_break" ["growths", "breaks", "day"] (spBefore K) := by
  refine has_mk D fun f fd F => F.ok sc3 (fun vs H Q E h => ?_) (fun cdv A outer s H vs Q E hr h => ⟨_, pss_cons (ps_set (i := 3) sc3.nd rfl (Or.inl rfl) pe_int)
    (pss_cons (ps_for PassesOwn.never rfl (pi_list (pv 1)) (pg_name (i := 4) sc3.nd rfl (Or.inl rfl))
      (pss_one (ps_if (pt_cmpR op_lt (pv 4) (pv 2) (nomark _)) (pss_one (ps_set (i := 3) sc3.nd rfl (Or.inl rfl) (pe_op op_add (pv 4) pe_int))) pss_nil)))
    (pss_one (ps_ret (pe_H hT hr pass0 (pa_cons (pv 0) (pa_cons (pv 3) (pa_cons (pv 2) pa_nil))))))), ?_⟩)
  · obtain ⟨a, b, g, bs, d, rfl, _⟩ := h
    rfl
  · obtain ⟨a, b, g, bs, d, rfl, hg, hb, k⟩ := h
    refine ⟨_, rfl, b, rfl, ⟨_, hb⟩, for_list (K := K) (a := b) (xs := nV bs) (fun i σ H' => ∃ v : Option V, H' = H ∧ σ = [some (.ref a), some (.ref b), some (.int (d : Nat)), some (.int (firstDay (bs.take i) d : Nat)), v])
      ⟨none, rfl, rfl⟩ (fun i σ H' _ ⟨_, e, _⟩ => by rw [e]; exact hb) ?_ ?_⟩
    · rintro i y σ H' hi ⟨v, rfl, rfl⟩
      obtain ⟨x, hx, rfl⟩ := nV_of hi
      have st := firstDay_take (d := d) hx
      refine ⟨_, rfl, _, rfl, _, _, rfl, rfl, _, rfl, ?_⟩
      by_cases c : x < d
      · rw [if_pos c] at st
        refine if_true_of (decide_eq_true (by omega)) ?_
        refine ⟨_, rfl, _, _, rfl, rfl, ?_⟩
        refine ⟨some (.int (x : Nat)), rfl, ?_⟩
        rw [st]; rfl
      · rw [if_neg c] at st
        refine if_false_of (decide_eq_false (by omega)) ?_
        refine ⟨some (.int (x : Nat)), rfl, ?_⟩
        rw [st]; rfl
    · rintro σ H' ⟨v, rfl, rfl⟩
      rw [nV_len, List.take_length]
      exact ⟨_, rfl, _, rfl, _, rfl, a, g, _, d, rfl, hg, k⟩
/-! ### removed_thicknesses -/
def spRemoved (K : PySem.W.Frag) : Sp := fun vs H Q _ => ∃ (a b : Addr) (g bs : List Nat), vs = [.ref a, .ref b] ∧ SqL K H a (nV g) ∧ SqL K H b (nV bs) ∧ bs.length ≤ 1000 ∧
  ∀ H' p, Same H H' → H p = none → H' p = some (.lst (nV (removed g bs))) → Q (.ref p) H'
theorem sc4 : FnScope ["growths", "breaks", "day"] ["growths", "breaks"] (defScope (topS 4)) := ⟨rfl, rfl, rfl, by decide +kernel, rfl, by decide +kernel, by decide +kernel⟩
theorem removed_take {g bs : List Nat} {i x : Nat} (h : bs[i]? = some x) : (removed g bs).take (i + 1) = (removed g bs).take i ++ [thick g (firstDay bs x) x] := by
  refine take_more ?_
  unfold removed
  rw [List.getElem?_map, h]; rfl
theorem removed_len (g bs : List Nat) : (removed g bs).length = bs.length := by unfold removed; simp
theorem h_removed (D : Df K mg "removed_thicknesses" (topS 4) ["growths", "breaks"]) (hT : ∀ {base : Heap}, Has P w K mg base CX0 2 "thickness_before_break" ["growths", "breaks", "day"] (spBefore K)) :
    Has P w K mg base CX0 3 "removed_thicknesses" ["growths", "breaks"] (spRemoved K) := by
  refine has_mk D fun f fd F => F.ok sc4 (fun vs H Q E h => ?_) (fun cdv A outer s H vs Q E hr h => ⟨_, pss_one (ps_ret (pe_lc (own := [("day", 2)]) (g := gName 2) (tt := tYes) (by rfl) sc4.nd (pi_list (pv 1))
    (blkOk_by (own := [("day", 2)]) (N := ["growths", "breaks", "day"]) (sc := defScope (topS 4)) (by decide +kernel))
    (fun _ _ _ _ _ => pg_name (i := 2) sc4.nd rfl (Or.inl rfl)) (fun _ _ _ _ _ => pts_nil)
    (fun _ _ _ _ _ => pe_H hT hr pass0 (pa_cons (pv 0) (pa_cons (pv 1) (pa_cons (pv 2) pa_nil)))))), ?_⟩)
  · obtain ⟨a, b, g, bs, rfl, _⟩ := h
    rfl
  · obtain ⟨a, b, g, bs, rfl, hg, hb, hz, k⟩ := h
    refine ⟨_, rfl, b, rfl, ⟨_, hb⟩, fun D hD => lc_list (K := K) (a := b) (xs := nV bs) (fun i H' => Same H H' ∧ H' D = some (.lst (nV ((removed g bs).take i)))) ⟨same_new hD, upd_same⟩ (fun i H' _ ⟨s1, _⟩ => s1.seq hb) ?_ ?_⟩
    · rintro i y H' hi ⟨s1, hl⟩
      obtain ⟨x, hx, rfl⟩ := nV_of hi
      refine ⟨rfl, ?_⟩
      refine ⟨_, rfl, _, rfl, _, rfl, a, b, g, bs, x, rfl, s1.seq hg, s1.seq hb, fun H2 s2 => ?_⟩
      refine ⟨_, s2 _ _ hl, ?_, Same.upd_at (s1.trans s2) hD, ?_⟩
      · rw [nV_len, List.length_take]
        exact Nat.lt_of_le_of_lt (Nat.min_le_right _ _) (by rw [removed_len]; exact small1000 hz)
      · rw [upd_same, removed_take hx, nV_app]; rfl
    · rintro H' ⟨s1, hl⟩
      rw [nV_len, ← removed_len g bs, List.take_length] at hl
      exact k _ D s1 hD hl
/-! ### effort_of_list -/
def spEffL (K : PySem.W.Frag) : Sp := fun vs H Q _ => ∃ (a b : Addr) (g bs : List Nat), vs = [.ref a, .ref b] ∧ SqL K H a (nV g) ∧ SqL K H b (nV bs) ∧ bs.length ≤ 1000 ∧ (∀ i j, thick g i j ≤ 300) ∧
  ∀ H', Same H H' → Q (.int (effortOf g bs : Nat)) H'
theorem sc5 : FnScope ["growths", "breaks", "thickness"] ["growths", "breaks"] (defScope (topS 5)) := ⟨rfl, rfl, rfl, by decide +kernel, rfl, by decide +kernel, by decide +kernel⟩
theorem h_effL (D : Df K mg "effort_of_list" (topS 5) ["growths", "breaks"]) (B : Bi mg) (hE : ∀ {base : Heap}, Has P w K mg base CX0 1 "effort_of" ["thickness"] spEff)
    (hR : ∀ {base : Heap}, Has P w K mg base CX0 3 "removed_thicknesses" ["growths", "breaks"] (spRemoved K)) : Has P w K mg base CX0 4 "effort_of_list" ["growths", "breaks"] (spEffL K) := by
  refine has_mk D fun f fd F => F.ok sc5 (fun vs H Q E h => ?_) (fun cdv A outer s H vs Q E hr h => ⟨_, pss_one (ps_ret (pe_callB (cr_sum rfl) (by rfl) B.sum boot_sum (pa_cons
    (pe_lc (own := [("thickness", 2)]) (g := gName 2) (tt := tYes) (by rfl) sc5.nd (pi_list (pe_H hR hr pass0 (pa_cons (pv 0) (pa_cons (pv 1) pa_nil))))
    (blkOk_by (own := [("thickness", 2)]) (N := ["growths", "breaks", "thickness"]) (sc := defScope (topS 5)) (by decide +kernel))
    (fun _ _ _ _ _ => pg_name (i := 2) sc5.nd rfl (Or.inl rfl)) (fun _ _ _ _ _ => pts_nil)
    (fun _ _ _ _ _ => pe_H hE (hr.mono (by decide)) pass0 (pa_cons (pv 2) pa_nil))) pa_nil))), ?_⟩)
  · obtain ⟨a, b, g, bs, rfl, _⟩ := h
    rfl
  · obtain ⟨a, b, g, bs, rfl, hg, hb, hz, ht, k⟩ := h
    refine ⟨_, rfl, _, rfl, a, b, g, bs, rfl, hg, hb, hz, fun H1 p s1 hp hl => ?_⟩
    refine ⟨p, rfl, ⟨_, SqL.of hl⟩, fun D hD => lc_list (K := K) (a := p) (xs := nV (removed g bs)) (fun i H' => Same H1 H' ∧ H' D = some (.lst (nV (((removed g bs).map fun x => x * x).take i)))) ⟨same_new hD, upd_same⟩ (fun i H' _ ⟨s2, _⟩ => s2.seq (SqL.of hl)) ?_ ?_⟩
    · rintro i y H' hi ⟨s2, h2⟩
      obtain ⟨x, hx, rfl⟩ := nV_of hi
      refine ⟨rfl, ?_⟩
      have hx3 : x ≤ 300 := by
        have hm := List.mem_of_getElem? hx
        unfold removed at hm
        obtain ⟨d, _, e⟩ := List.mem_map.mp hm
        rw [← e]; exact ht _ _
      refine ⟨_, rfl, x, rfl, by omega, ?_⟩
      refine ⟨_, h2, ?_, Same.upd_at s2 hD, ?_⟩
      · rw [nV_len, List.length_take]
        exact Nat.lt_of_le_of_lt (Nat.min_le_right _ _) (by rw [List.length_map, removed_len]; exact small1000 hz)
      · rw [upd_same, take_more (x := x * x) (by rw [List.getElem?_map, hx]; rfl), nV_app]; rfl
    · rintro H' ⟨s2, h2⟩
      rw [nV_len, ← List.length_map (as := removed g bs) (f := fun x => x * x), List.take_length] at h2
      refine ⟨D, zs ((removed g bs).map fun x => x * x), rfl, SqL.of h2, ?_⟩
      rw [zs_sum]
      exact k _ (s1.trans s2)
/-! ### is_valid_list -/
def validB (g bs : List Nat) (m : Nat) : Bool := if g.length = 0 then decide (bs.length = 0) else if g.length - 1 ∈ bs then decide (∀ x ∈ removed g bs, x ≤ m) else false
def spValid (K : PySem.W.Frag) : Sp := fun vs H Q _ => ∃ (a b : Addr) (g bs : List Nat) (m : Nat), vs = [.ref a, .ref b, .int m] ∧ SqL K H a (nV g) ∧ SqL K H b (nV bs) ∧ bs.length ≤ 1000 ∧
  ∀ H', Same H H' → Q (.bl (validB g bs m)) H'
theorem sc6 : FnScope ["growths", "breaks", "max_thickness"] ["growths", "breaks", "max_thickness"] (defScope (topS 6)) := ⟨rfl, rfl, rfl, by decide +kernel, rfl, by decide +kernel, by decide +kernel⟩
theorem h_valid (D : Df K mg "is_valid_list" (topS 6) ["growths", "breaks", "max_thickness"]) (B : Bi mg)
    (hR : ∀ {base : Heap}, Has P w K mg base CX0 3 "removed_thicknesses" ["growths", "breaks"] (spRemoved K)) : Has P w K mg base CX0 4 "is_valid_list" ["growths", "breaks", "max_thickness"] (spValid K) := by
  refine has_mk D fun f fd F => F.ok sc6 (fun vs H Q E h => ?_) (fun cdv A outer s H vs Q E hr h => ⟨_, pss_cons (ps_if (pt_cmpR op_eq (pe_callB call_len (by rfl) B.len boot_len (pa_cons (pv 0) pa_nil)) pe_int (nomark _))
      (pss_one (ps_ret (pe_cmpR op_eq (pe_callB call_len (by rfl) B.len boot_len (pa_cons (pv 1) pa_nil)) pe_int (nomark _)))) pss_nil)
    (pss_cons (ps_if (pt_cmpR op_notIn_seq (pe_op op_sub (pe_callB call_len (by rfl) B.len boot_len (pa_cons (pv 0) pa_nil)) pe_int) (pv 1) rfl) (pss_one (ps_ret pe_bl)) pss_nil)
    (pss_one (ps_ret (pe_cmpR op_le (pe_callB (cr_max rfl) (by rfl) B.max boot_max (pa_cons (pe_H hR hr pass0 (pa_cons (pv 0) (pa_cons (pv 1) pa_nil))) pa_nil)) (pv 2) (nomark _))))), ?_⟩)
  · obtain ⟨a, b, g, bs, m, rfl, _⟩ := h
    rfl
  · obtain ⟨a, b, g, bs, m, rfl, hg, hb, hz, k⟩ := h
    refine ⟨_, rfl, _, _, rfl, .inl ⟨_, hg, rfl⟩, rfl, _, rfl, ?_⟩
    rw [nV_len]
    by_cases c : g.length = 0
    · refine if_true_of (decide_eq_true (by rw [c]; rfl)) ?_
      refine ⟨_, rfl, _, _, rfl, .inl ⟨_, hb, rfl⟩, rfl, ?_⟩
      have e : validB g bs m = decide (V.int ((nV bs).length : Nat) = V.int 0) := by
        unfold validB
        rw [if_pos c, nV_len]
        by_cases z : bs.length = 0
        · rw [z]; rfl
        · rw [decide_eq_false z]
          exact (decide_eq_false fun q => z (Int.ofNat.inj (V.int.inj q))).symm
      have kk := k H (Same.refl H)
      rw [e] at kk
      exact kk
    · refine if_false_of (decide_eq_false fun q => c (Int.ofNat.inj (V.int.inj q))) ?_
      refine ⟨_, rfl, _, _, rfl, .inl ⟨_, hg, rfl⟩, _, _, rfl, rfl, _, rfl, b, _, rfl, .inl hb, rfl, flat_V bs, _, rfl, ?_⟩
      have e1 : ((nV g).length : Int) - 1 = ((g.length - 1 : Nat) : Int) := by rw [nV_len]; omega
      show if (!inV (.int (((nV g).length : Int) - 1)) (nV bs)) = true then _ else _
      rw [e1, in_V]
      by_cases c2 : g.length - 1 ∈ bs
      · rw [decide_eq_true c2]
        refine iteF ?_
        refine ⟨_, rfl, _, rfl, a, b, g, bs, rfl, hg, hb, hz, fun H1 p s1 hp hl => ?_⟩
        refine ⟨p, zs (removed g bs), rfl, SqL.of hl, ?_, fun x hx hm => ?_⟩
        · rw [List.length_map, removed_len]
          exact List.length_pos_of_mem c2
        · obtain ⟨y, hy, rfl⟩ := List.mem_map.mp hx
          refine ⟨_, rfl, _, _, rfl, rfl, ?_⟩
          have e : validB g bs m = decide ((y : Int) ≤ (m : Int)) := by
            unfold validB
            rw [if_neg c, if_pos c2]
            by_cases z : y ≤ m
            · rw [decide_eq_true (show (y : Int) ≤ m by omega)]
              refine decide_eq_true fun x hx => ?_
              have := hm (x : Int) (List.mem_map.mpr ⟨x, hx, rfl⟩)
              omega
            · rw [decide_eq_false (show ¬ (y : Int) ≤ m by omega)]
              exact decide_eq_false fun q => z (q y hy)
          have kk := k _ s1
          rw [e] at kk
          exact kk
      · rw [decide_eq_false c2]
        refine iteT ?_
        have e : validB g bs m = false := by
          unfold validB
          rw [if_neg c, if_neg c2]
        have kk := k _ (Same.refl H)
        rw [e] at kk
        exact kk
end
end Ice

namespace Ice
open PySem PySem.Spec PyProof.Rows L2 IceX
section
variable {P : Program} {w : World} {K : PySem.W.Frag} {mg : Str → Option Value} {base : Heap} {R : Addr}
/-! ### refusals -/
/-- Refusal, as the top has left it -/
structure RefD (K : PySem.W.Frag) (mg : Str → Option Value) (R : Addr) : Prop where
  gR : mg "Refusal" = some (.ref R)
  rd : PySem.W.readsIn K R (.type "type") = true
  ga : PySem.W.specialIn K (.ref R) "__getattribute__" = some (some (.builtin "type.__getattribute__"))
  ini : ∃ f fd, Fun K "__init__" "Refusal.__init__" (inClass (topS 12) 0) f fd ∧ PySem.W.findCls K (.ref R) (.type "type") "__init__" = some (.val (.ref f)) ∧ Binds K fd ["self", "code"] []
/-- a class under it -/
def ErD (K : PySem.W.Frag) (mg : Str → Option Value) (R : Addr) (x q : Str) (st : Stmt) : Prop := ∃ C f fd, mg x = some (.ref C) ∧ ErC K R C ∧ PySem.W.findIn K (.ref C) "__init__" = some (some (.ref f)) ∧
  PySem.W.typeIn K (.ref f) = some (.type "function") ∧ Fun K "__init__" q st f fd ∧ Binds K fd ["self"] []
def spRI (K : PySem.W.Frag) (R : Addr) : Sp := fun vs H Q _ => ∃ (a C : Addr) (c : Int), vs = [.ref a, .int c] ∧ ErC K R C ∧ H a = some (exo a C none) ∧
  ∀ dx, H dx = none → dx ≠ a → Q .non (upd (upd H dx (exd dx [("code", .int c)])) a (exo a C (some dx)))
def spSI (K : PySem.W.Frag) (R : Addr) (c : Int) : Sp := fun vs H Q _ => ∃ (a C : Addr), vs = [.ref a] ∧ ErC K R C ∧ H a = some (exo a C none) ∧
  ∀ dx, H dx = none → dx ≠ a → Q .non (upd (upd H dx (exd dx [("code", .int c)])) a (exo a C (some dx)))
theorem sc12 : FnScope ["self", "code"] ["self", "code"] (defScope (inClass (topS 12) 0)) := ⟨rfl, rfl, rfl, by decide +kernel, rfl, by decide +kernel, by decide +kernel⟩
theorem ok_refusal {f : Addr} {fd : FuncData} (F : Fun K "__init__" "Refusal.__init__" (inClass (topS 12) 0) f fd) : FnOk P w K mg base CX0 1 f fd ["self", "code"] (spRI K R) := by
  refine F.ok sc12 (fun vs H Q E h => ?_) (fun cdv A outer s H vs Q E hr h => ⟨_, pss_one (ps_code (R := R) (pv 0) (pv 1)), ?_⟩)
  · obtain ⟨a, C, c, rfl, _⟩ := h
    rfl
  · obtain ⟨a, C, c, rfl, T, e, k⟩ := h
    exact ⟨_, rfl, _, rfl, a, C, rfl, T, e, k⟩
theorem sc13 : FnScope ["self"] ["self"] (defScope (inClass (topS 13) 0)) := ⟨rfl, rfl, rfl, by decide +kernel, rfl, by decide +kernel, by decide +kernel⟩
theorem ok_NoInstance {f : Addr} {fd : FuncData} (F : Fun K "__init__" "NoInstance.__init__" (inClass (topS 13) 0) f fd) (T : RefD K mg R) : FnOk P w K mg base CX0 2 f fd ["self"] (spSI K R (-11)) := by
  obtain ⟨fR, fdR, FR, at_, bR⟩ := T.ini
  refine F.ok sc13 (fun vs H Q E h => ?_) (fun cdv A outer s H vs Q E hr h => ⟨_, pss_one (ps_expr (pe_base (R := R) (by rfl) T.gR T.rd T.ga at_ (ok_refusal (R := R) FR) hr FR.kp bR pass0 (pa_cons (pv 0) (pa_cons (pe_un un_neg pe_int) pa_nil)))), ?_⟩)
  · obtain ⟨a, C, rfl, _⟩ := h
    rfl
  · obtain ⟨a, C, rfl, T, e, k⟩ := h
    exact ⟨_, rfl, _, rfl, a, C, _, rfl, T, e, k⟩
theorem sc14 : FnScope ["self"] ["self"] (defScope (inClass (topS 14) 0)) := ⟨rfl, rfl, rfl, by decide +kernel, rfl, by decide +kernel, by decide +kernel⟩
theorem ok_NoSuchDay {f : Addr} {fd : FuncData} (F : Fun K "__init__" "NoSuchDay.__init__" (inClass (topS 14) 0) f fd) (T : RefD K mg R) : FnOk P w K mg base CX0 2 f fd ["self"] (spSI K R (-2)) := by
  obtain ⟨fR, fdR, FR, at_, bR⟩ := T.ini
  refine F.ok sc14 (fun vs H Q E h => ?_) (fun cdv A outer s H vs Q E hr h => ⟨_, pss_one (ps_expr (pe_base (R := R) (by rfl) T.gR T.rd T.ga at_ (ok_refusal (R := R) FR) hr FR.kp bR pass0 (pa_cons (pv 0) (pa_cons (pe_un un_neg pe_int) pa_nil)))), ?_⟩)
  · obtain ⟨a, C, rfl, _⟩ := h
    rfl
  · obtain ⟨a, C, rfl, T, e, k⟩ := h
    exact ⟨_, rfl, _, rfl, a, C, _, rfl, T, e, k⟩
theorem sc15 : FnScope ["self"] ["self"] (defScope (inClass (topS 15) 0)) := ⟨rfl, rfl, rfl, by decide +kernel, rfl, by decide +kernel, by decide +kernel⟩
theorem ok_NoSuchBreak {f : Addr} {fd : FuncData} (F : Fun K "__init__" "NoSuchBreak.__init__" (inClass (topS 15) 0) f fd) (T : RefD K mg R) : FnOk P w K mg base CX0 2 f fd ["self"] (spSI K R (-2)) := by
  obtain ⟨fR, fdR, FR, at_, bR⟩ := T.ini
  refine F.ok sc15 (fun vs H Q E h => ?_) (fun cdv A outer s H vs Q E hr h => ⟨_, pss_one (ps_expr (pe_base (R := R) (by rfl) T.gR T.rd T.ga at_ (ok_refusal (R := R) FR) hr FR.kp bR pass0 (pa_cons (pv 0) (pa_cons (pe_un un_neg pe_int) pa_nil)))), ?_⟩)
  · obtain ⟨a, C, rfl, _⟩ := h
    rfl
  · obtain ⟨a, C, rfl, T, e, k⟩ := h
    exact ⟨_, rfl, _, rfl, a, C, _, rfl, T, e, k⟩
theorem sc16 : FnScope ["self"] ["self"] (defScope (inClass (topS 16) 0)) := ⟨rfl, rfl, rfl, by decide +kernel, rfl, by decide +kernel, by decide +kernel⟩
theorem ok_OutOfRange {f : Addr} {fd : FuncData} (F : Fun K "__init__" "OutOfRange.__init__" (inClass (topS 16) 0) f fd) (T : RefD K mg R) : FnOk P w K mg base CX0 2 f fd ["self"] (spSI K R (-22)) := by
  obtain ⟨fR, fdR, FR, at_, bR⟩ := T.ini
  refine F.ok sc16 (fun vs H Q E h => ?_) (fun cdv A outer s H vs Q E hr h => ⟨_, pss_one (ps_expr (pe_base (R := R) (by rfl) T.gR T.rd T.ga at_ (ok_refusal (R := R) FR) hr FR.kp bR pass0 (pa_cons (pv 0) (pa_cons (pe_un un_neg pe_int) pa_nil)))), ?_⟩)
  · obtain ⟨a, C, rfl, _⟩ := h
    rfl
  · obtain ⟨a, C, rfl, T, e, k⟩ := h
    exact ⟨_, rfl, _, rfl, a, C, _, rfl, T, e, k⟩
theorem sc17 : FnScope ["self"] ["self"] (defScope (inClass (topS 17) 0)) := ⟨rfl, rfl, rfl, by decide +kernel, rfl, by decide +kernel, by decide +kernel⟩
theorem ok_NoDays {f : Addr} {fd : FuncData} (F : Fun K "__init__" "NoDays.__init__" (inClass (topS 17) 0) f fd) (T : RefD K mg R) : FnOk P w K mg base CX0 2 f fd ["self"] (spSI K R (-6)) := by
  obtain ⟨fR, fdR, FR, at_, bR⟩ := T.ini
  refine F.ok sc17 (fun vs H Q E h => ?_) (fun cdv A outer s H vs Q E hr h => ⟨_, pss_one (ps_expr (pe_base (R := R) (by rfl) T.gR T.rd T.ga at_ (ok_refusal (R := R) FR) hr FR.kp bR pass0 (pa_cons (pv 0) (pa_cons (pe_un un_neg pe_int) pa_nil)))), ?_⟩)
  · obtain ⟨a, C, rfl, _⟩ := h
    rfl
  · obtain ⟨a, C, rfl, T, e, k⟩ := h
    exact ⟨_, rfl, _, rfl, a, C, _, rfl, T, e, k⟩
theorem sc18 : FnScope ["self"] ["self"] (defScope (inClass (topS 18) 0)) := ⟨rfl, rfl, rfl, by decide +kernel, rfl, by decide +kernel, by decide +kernel⟩
theorem ok_BreakThereAlready {f : Addr} {fd : FuncData} (F : Fun K "__init__" "BreakThereAlready.__init__" (inClass (topS 18) 0) f fd) (T : RefD K mg R) : FnOk P w K mg base CX0 2 f fd ["self"] (spSI K R (-17)) := by
  obtain ⟨fR, fdR, FR, at_, bR⟩ := T.ini
  refine F.ok sc18 (fun vs H Q E h => ?_) (fun cdv A outer s H vs Q E hr h => ⟨_, pss_one (ps_expr (pe_base (R := R) (by rfl) T.gR T.rd T.ga at_ (ok_refusal (R := R) FR) hr FR.kp bR pass0 (pa_cons (pv 0) (pa_cons (pe_un un_neg pe_int) pa_nil)))), ?_⟩)
  · obtain ⟨a, C, rfl, _⟩ := h
    rfl
  · obtain ⟨a, C, rfl, T, e, k⟩ := h
    exact ⟨_, rfl, _, rfl, a, C, _, rfl, T, e, k⟩
theorem sc19 : FnScope ["self"] ["self"] (defScope (inClass (topS 19) 0)) := ⟨rfl, rfl, rfl, by decide +kernel, rfl, by decide +kernel, by decide +kernel⟩
theorem ok_TooManyDays {f : Addr} {fd : FuncData} (F : Fun K "__init__" "TooManyDays.__init__" (inClass (topS 19) 0) f fd) (T : RefD K mg R) : FnOk P w K mg base CX0 2 f fd ["self"] (spSI K R (-28)) := by
  obtain ⟨fR, fdR, FR, at_, bR⟩ := T.ini
  refine F.ok sc19 (fun vs H Q E h => ?_) (fun cdv A outer s H vs Q E hr h => ⟨_, pss_one (ps_expr (pe_base (R := R) (by rfl) T.gR T.rd T.ga at_ (ok_refusal (R := R) FR) hr FR.kp bR pass0 (pa_cons (pv 0) (pa_cons (pe_un un_neg pe_int) pa_nil)))), ?_⟩)
  · obtain ⟨a, C, rfl, _⟩ := h
    rfl
  · obtain ⟨a, C, rfl, T, e, k⟩ := h
    exact ⟨_, rfl, _, rfl, a, C, _, rfl, T, e, k⟩
theorem sc20 : FnScope ["self"] ["self"] (defScope (inClass (topS 20) 0)) := ⟨rfl, rfl, rfl, by decide +kernel, rfl, by decide +kernel, by decide +kernel⟩
theorem ok_NoValidList {f : Addr} {fd : FuncData} (F : Fun K "__init__" "NoValidList.__init__" (inClass (topS 20) 0) f fd) (T : RefD K mg R) : FnOk P w K mg base CX0 2 f fd ["self"] (spSI K R (-33)) := by
  obtain ⟨fR, fdR, FR, at_, bR⟩ := T.ini
  refine F.ok sc20 (fun vs H Q E h => ?_) (fun cdv A outer s H vs Q E hr h => ⟨_, pss_one (ps_expr (pe_base (R := R) (by rfl) T.gR T.rd T.ga at_ (ok_refusal (R := R) FR) hr FR.kp bR pass0 (pa_cons (pv 0) (pa_cons (pe_un un_neg pe_int) pa_nil)))), ?_⟩)
  · obtain ⟨a, C, rfl, _⟩ := h
    rfl
  · obtain ⟨a, C, rfl, T, e, k⟩ := h
    exact ⟨_, rfl, _, rfl, a, C, _, rfl, T, e, k⟩
theorem sc21 : FnScope ["self"] ["self"] (defScope (inClass (topS 21) 0)) := ⟨rfl, rfl, rfl, by decide +kernel, rfl, by decide +kernel, by decide +kernel⟩
theorem ok_ScheduleNotValid {f : Addr} {fd : FuncData} (F : Fun K "__init__" "ScheduleNotValid.__init__" (inClass (topS 21) 0) f fd) (T : RefD K mg R) : FnOk P w K mg base CX0 2 f fd ["self"] (spSI K R (-33)) := by
  obtain ⟨fR, fdR, FR, at_, bR⟩ := T.ini
  refine F.ok sc21 (fun vs H Q E h => ?_) (fun cdv A outer s H vs Q E hr h => ⟨_, pss_one (ps_expr (pe_base (R := R) (by rfl) T.gR T.rd T.ga at_ (ok_refusal (R := R) FR) hr FR.kp bR pass0 (pa_cons (pv 0) (pa_cons (pe_un un_neg pe_int) pa_nil)))), ?_⟩)
  · obtain ⟨a, C, rfl, _⟩ := h
    rfl
  · obtain ⟨a, C, rfl, T, e, k⟩ := h
    exact ⟨_, rfl, _, rfl, a, C, _, rfl, T, e, k⟩
/-- what a raise leaves -/
def ErrOut (K : PySem.W.Frag) (R : Addr) (H : Hp) (E : XK) (c : Int) : Prop := ∀ C d H', ErC K R C → H' d = some (.xd [("code", .int c)]) → Same H H' → E (.ref C) (some d) H'
theorem ErrOut.mono {H H1 : Hp} {E : XK} {c : Int} (h : ErrOut K R H E c) (s : Same H H1) : ErrOut K R H1 E c := fun C d H' T e s1 => h C d H' T e (s.trans s1)
def CanRaise (P : Program) (w : World) (K : PySem.W.Frag) (mg : Str → Option Value) (base : Heap) (R : Addr) (x : Str) (c : Int) : Prop := ∃ C f fd, mg x = some (.ref C) ∧ ErC K R C ∧ PySem.W.findIn K (.ref C) "__init__" = some (some (.ref f)) ∧
  PySem.W.typeIn K (.ref f) = some (.type "function") ∧ FnOk P w K mg base CX0 2 f fd ["self"] (spSI K R c) ∧ Binds K fd ["self"] []
theorem can_NoInstance (D : ErD K mg R "NoInstance" "NoInstance.__init__" (inClass (topS 13) 0)) (T : RefD K mg R) : CanRaise P w K mg base R "NoInstance" (-11) := by
  obtain ⟨C, f, fd, m, E, i, t, F, b⟩ := D
  exact ⟨C, f, fd, m, E, i, t, ok_NoInstance F T, b⟩
theorem can_NoSuchDay (D : ErD K mg R "NoSuchDay" "NoSuchDay.__init__" (inClass (topS 14) 0)) (T : RefD K mg R) : CanRaise P w K mg base R "NoSuchDay" (-2) := by
  obtain ⟨C, f, fd, m, E, i, t, F, b⟩ := D
  exact ⟨C, f, fd, m, E, i, t, ok_NoSuchDay F T, b⟩
theorem can_NoSuchBreak (D : ErD K mg R "NoSuchBreak" "NoSuchBreak.__init__" (inClass (topS 15) 0)) (T : RefD K mg R) : CanRaise P w K mg base R "NoSuchBreak" (-2) := by
  obtain ⟨C, f, fd, m, E, i, t, F, b⟩ := D
  exact ⟨C, f, fd, m, E, i, t, ok_NoSuchBreak F T, b⟩
theorem can_OutOfRange (D : ErD K mg R "OutOfRange" "OutOfRange.__init__" (inClass (topS 16) 0)) (T : RefD K mg R) : CanRaise P w K mg base R "OutOfRange" (-22) := by
  obtain ⟨C, f, fd, m, E, i, t, F, b⟩ := D
  exact ⟨C, f, fd, m, E, i, t, ok_OutOfRange F T, b⟩
theorem can_NoDays (D : ErD K mg R "NoDays" "NoDays.__init__" (inClass (topS 17) 0)) (T : RefD K mg R) : CanRaise P w K mg base R "NoDays" (-6) := by
  obtain ⟨C, f, fd, m, E, i, t, F, b⟩ := D
  exact ⟨C, f, fd, m, E, i, t, ok_NoDays F T, b⟩
theorem can_BreakThereAlready (D : ErD K mg R "BreakThereAlready" "BreakThereAlready.__init__" (inClass (topS 18) 0)) (T : RefD K mg R) : CanRaise P w K mg base R "BreakThereAlready" (-17) := by
  obtain ⟨C, f, fd, m, E, i, t, F, b⟩ := D
  exact ⟨C, f, fd, m, E, i, t, ok_BreakThereAlready F T, b⟩
theorem can_TooManyDays (D : ErD K mg R "TooManyDays" "TooManyDays.__init__" (inClass (topS 19) 0)) (T : RefD K mg R) : CanRaise P w K mg base R "TooManyDays" (-28) := by
  obtain ⟨C, f, fd, m, E, i, t, F, b⟩ := D
  exact ⟨C, f, fd, m, E, i, t, ok_TooManyDays F T, b⟩
theorem can_NoValidList (D : ErD K mg R "NoValidList" "NoValidList.__init__" (inClass (topS 20) 0)) (T : RefD K mg R) : CanRaise P w K mg base R "NoValidList" (-33) := by
  obtain ⟨C, f, fd, m, E, i, t, F, b⟩ := D
  exact ⟨C, f, fd, m, E, i, t, ok_NoValidList F T, b⟩
theorem can_ScheduleNotValid (D : ErD K mg R "ScheduleNotValid" "ScheduleNotValid.__init__" (inClass (topS 21) 0)) (T : RefD K mg R) : CanRaise P w K mg base R "ScheduleNotValid" (-33) := by
  obtain ⟨C, f, fd, m, E, i, t, F, b⟩ := D
  exact ⟨C, f, fd, m, E, i, t, ok_ScheduleNotValid F T, b⟩
theorem ps_R {X : Cx} {W : WX} {x : Str} {c : Int} {p pos pos2 : Pos} (D : CanRaise X.prog X.w X.K X.mg X.base R x c) (hr : Room 3 X.A) (tk : Takes X W) (hc : X.calm = true := by rfl) (hg : Gl X x := by rfl)
    (hdb : (x == ("__debug__" : Str)) = false := by decide) :
    PS X (.Raise (some (.Call (.Name x p) [] [] pos)) none pos2) (fun _ σ H => ∀ C d, ErC X.K R C → H d = none → W (.ref C) (some d) σ (upd H d (.xd [("code", .int c)]))) := by
  obtain ⟨C, f, fd, m, E, i, t, F, b⟩ := D
  have z := ps_raise (pos := pos2) hc tk (pmk_new (p := p) (pos := pos) E i t F hr b pass0 hg m hdb)
  refine ⟨fun pins s σ H D I q => z.run pins s σ H D I ?_⟩
  show tNew C (spSI X.K R c) σ H fun cls d H' => W cls d σ H'
  intro a ha
  refine ⟨a, C, rfl, E, upd_same, fun dx hd hne => ?_⟩
  rw [upd_ne hne] at hd
  refine ⟨rfl, dx, [("code", .int c)], upd_same, by rw [upd_ne hne]; exact upd_same, hd, ?_⟩
  have e : upd (del (upd (upd (upd H a (exo a C none)) dx (exd dx [("code", V.int c)])) a (exo a C (some dx))) a) dx (.xd [("code", V.int c)]) = upd H dx (.xd [("code", V.int c)]) := by
    funext y
    by_cases h1 : y = dx
    · rw [h1, upd_same, upd_same]
    · rw [upd_ne h1, upd_ne h1]
      by_cases h2 : y = a
      · rw [h2, del_same, ha]
      · rw [del_ne h2, upd_ne h2, upd_ne h1, upd_ne h2]
  rw [e]
  exact q C dx E hd
/-! ### the instance -/
def iF (g b : Addr) (t m : Nat) : List (Str × V) := [("growths", .ref g), ("breaks", .ref b), ("trip_cost", .int t), ("max_thickness", .int m)]
theorem lk_here {k : Str} {v : V} {r : List (Str × V)} : List.lookup k ((k, v) :: r) = some v := by
  have e : (k == k) = true := beq_self_eq_true k
  simp only [List.lookup, e]
theorem lk_past {k g : Str} {v : V} {r : List (Str × V)} (h : (k == g) = false) : List.lookup k ((g, v) :: r) = List.lookup k r := by
  simp only [List.lookup, h]
theorem put_here {f : Str} {v x : V} {r : List (Str × V)} : putF f v ((f, x) :: r) = (f, v) :: r := if_pos rfl
theorem put_past {f g : Str} {v x : V} {r : List (Str × V)} (h : ¬ g = f) : putF f v ((g, x) :: r) = (g, x) :: putF f v r := if_neg h
theorem iF_g (g b : Addr) (t m : Nat) : (iF g b t m).lookup ("growths" : Str) = some (.ref g) := lk_here
theorem iF_b (g b : Addr) (t m : Nat) : (iF g b t m).lookup ("breaks" : Str) = some (.ref b) := (lk_past (by decide +kernel)).trans lk_here
theorem iF_t (g b : Addr) (t m : Nat) : (iF g b t m).lookup ("trip_cost" : Str) = some (.int t) := (lk_past (by decide +kernel)).trans ((lk_past (by decide +kernel)).trans lk_here)
theorem iF_m (g b : Addr) (t m : Nat) : (iF g b t m).lookup ("max_thickness" : Str) = some (.int m) := (lk_past (by decide +kernel)).trans ((lk_past (by decide +kernel)).trans ((lk_past (by decide +kernel)).trans lk_here))
theorem iF_putb (g b c : Addr) (t m : Nat) : putF "breaks" (.ref c) (iF g b t m) = iF g c t m := (put_past (by decide +kernel)).trans (congrArg _ put_here)
theorem iF_putt (g b : Addr) (t m n : Nat) : putF "trip_cost" (.int (n : Nat)) (iF g b t m) = iF g b n m := (put_past (by decide +kernel)).trans (congrArg _ ((put_past (by decide +kernel)).trans (congrArg _ put_here)))
theorem iF_putm (g b : Addr) (t m n : Nat) : putF "max_thickness" (.int (n : Nat)) (iF g b t m) = iF g b t n :=
  (put_past (by decide +kernel)).trans (congrArg _ ((put_past (by decide +kernel)).trans (congrArg _ ((put_past (by decide +kernel)).trans (congrArg _ put_here)))))
theorem iF_new (g b : Addr) (t m : Nat) : putF "max_thickness" (.int (m : Nat)) (putF "trip_cost" (.int (t : Nat)) (putF "breaks" (.ref b) (putF "growths" (.ref g) []))) = iF g b t m := by
  have e1 : putF "breaks" (.ref b) (putF "growths" (.ref g) []) = [(("growths" : Str), V.ref g), ("breaks", .ref b)] := (put_past (by decide +kernel)).trans rfl
  rw [e1]
  have e2 : putF "trip_cost" (.int (t : Nat)) [(("growths" : Str), V.ref g), ("breaks", .ref b)] = [(("growths" : Str), V.ref g), ("breaks", .ref b), ("trip_cost", .int t)] :=
    (put_past (by decide +kernel)).trans (congrArg _ ((put_past (by decide +kernel)).trans rfl))
  rw [e2]
  exact (put_past (by decide +kernel)).trans (congrArg _ ((put_past (by decide +kernel)).trans (congrArg _ ((put_past (by decide +kernel)).trans rfl))))
structure ICl (K : PySem.W.Frag) (mg : Str → Option Value) (C : Addr) : Prop where
  cl : Cls K C
  nG : NoAttr K C "growths"
  nB : NoAttr K C "breaks"
  nT : NoAttr K C "trip_cost"
  nM : NoAttr K C "max_thickness"
  gC : mg "Instance" = some (.ref C)
structure InstAt (C : Addr) (H : Hp) (a g b : Addr) (m : Sch) : Prop where
  obj : ∃ dx, H a = some (.ins C dx (iF g b m.tripCost m.maxThickness))
  gr : H g = some (.lst (nV m.growth))
  br : H b = some (.lst (nV m.breaks))
  ne : g ≠ b
theorem InstAt.same {C : Addr} {H H' : Hp} {a g b : Addr} {m : Sch} (I : InstAt C H a g b m) (s : Same H H') : InstAt C H' a g b m := by
  obtain ⟨dx, e⟩ := I.obj
  exact ⟨⟨dx, s _ _ e⟩, s _ _ I.gr, s _ _ I.br, I.ne⟩
theorem InstAt.ag {C : Addr} {H : Hp} {a g b : Addr} {m : Sch} (I : InstAt C H a g b m) : a ≠ g := by
  obtain ⟨dx, e⟩ := I.obj
  exact ne_of e I.gr (by intro z; cases z)
theorem InstAt.ab {C : Addr} {H : Hp} {a g b : Addr} {m : Sch} (I : InstAt C H a g b m) : a ≠ b := by
  obtain ⟨dx, e⟩ := I.obj
  exact ne_of e I.br (by intro z; cases z)
def spInst (C : Addr) : Sp := fun vs H Q _ => ∃ (p dx : Addr), vs = [.ref p] ∧ H p = some (.ins C dx []) ∧
  ∀ (H' : Hp) (g b : Addr), InstAt C H' p g b fresh → H g = none → H b = none → (∀ y o, H y = some o → y ≠ p → H' y = some o) → Q .non H'
theorem sc23 : FnScope ["self"] ["self"] (defScope (inClass (topS 23) 0)) := ⟨rfl, rfl, rfl, by decide +kernel, rfl, by decide +kernel, by decide +kernel⟩
theorem ok_instance {C f : Addr} {fd : FuncData} (F : Fun K "__init__" "Instance.__init__" (inClass (topS 23) 0) f fd) (T : ICl K mg C) (N : Cn mg) : FnOk P w K mg base CX0 1 f fd ["self"] (spInst C) := by
  refine F.ok sc23 (fun vs H Q E h => ?_) (fun cdv A outer s H vs Q E hr h => ⟨_, pss_cons (ps_fld (pv 0) (pe_lst pa_nil) rfl) (pss_cons (ps_fld (pv 0) (pe_lst pa_nil) rfl)
    (pss_cons (ps_fld (pv 0) pe_int rfl) (pss_one (ps_fld (pv 0) (pe_cn N.thick) rfl)))), ?_⟩)
  · obtain ⟨p, dx, rfl, _⟩ := h
    rfl
  · obtain ⟨p, dx, rfl, hp, k⟩ := h
    refine ⟨Nat.zero_le _, fun g hg => ?_⟩
    have pg : p ≠ g := ne_of_none hp hg
    refine ⟨_, rfl, p, C, dx, [], rfl, by rw [upd_ne pg]; exact hp, T.cl, T.nG, (by show 0 < 1000; decide), ?_⟩
    refine ⟨Nat.zero_le _, fun b hb => ?_⟩
    have pb : p ≠ b := ne_of_none upd_same hb
    rw [upd_ne (Ne.symm pb)] at hb
    have gb : g ≠ b := ne_of_none upd_same hb
    rw [upd_ne (Ne.symm gb)] at hb
    refine ⟨_, rfl, p, C, dx, _, rfl, by rw [upd_ne pb]; exact upd_same, T.cl, T.nB, (by show 1 < 1000; decide), ?_⟩
    refine ⟨_, rfl, p, C, dx, _, rfl, upd_same, T.cl, T.nT, (by show 2 < 1000; decide), ?_⟩
    refine ⟨_, rfl, p, C, dx, _, rfl, upd_same, T.cl, T.nM, (by show 3 < 1000; decide), ?_⟩
    refine k _ g b ⟨⟨dx, upd_same.trans (congrArg (fun q => some (HO.ins C dx q)) (iF_new g b 0 999))⟩, ?_, ?_, gb⟩ hg hb fun y o e hy => ?_
    · rw [upd_ne (Ne.symm pg), upd_ne (Ne.symm pg), upd_ne (Ne.symm pg), upd_ne gb, upd_ne (Ne.symm pg)]
      exact upd_same
    · rw [upd_ne (Ne.symm pb), upd_ne (Ne.symm pb), upd_ne (Ne.symm pb)]
      exact upd_same
    · rw [upd_ne hy, upd_ne hy, upd_ne hy, upd_ne (ne_of_none e hb), upd_ne hy, upd_ne (ne_of_none e hg)]
      exact e
/-! ### the checks -/
def spCheckDay (K : PySem.W.Frag) (R C : Addr) : Sp := fun vs H Q E => ∃ (a g b : Addr) (m : Sch) (d : Nat), vs = [.ref a, .int d] ∧ InstAt C H a g b m ∧ (d < m.growth.length → Q .non H) ∧ (m.growth.length ≤ d → ErrOut K R H E (-2))
theorem sc24 : FnScope ["instance", "day"] ["instance", "day"] (defScope (topS 24)) := ⟨rfl, rfl, rfl, by decide +kernel, rfl, by decide +kernel, by decide +kernel⟩
theorem h_checkDay {C : Addr} (D : Df K mg "check_day" (topS 24) ["instance", "day"]) (B : Bi mg) (T : ICl K mg C) (hE : ∀ {base : Heap}, CanRaise P w K mg base R "NoSuchDay" (-2)) :
    Has P w K mg base (L2.CX P w) 4 "check_day" ["instance", "day"] (spCheckDay K R C) := by
  refine has_mk D fun f fd F => F.okX sc24 (fun vs H Q E h => ?_) (fun cdv A outer s H vs Q E hr h => ⟨_, pss_one (ps_if (pt_cmpR op_ge (pv 1) (pe_callB call_len (by rfl) B.len boot_len (pa_cons (pe_fld (pv 0) rfl) pa_nil)) (nomark _))
    (pss_one (ps_R hE hr (takes_of rfl rfl rfl rfl))) pss_nil), ?_⟩)
  · obtain ⟨a, g, b, m, d, rfl, _⟩ := h
    rfl
  · obtain ⟨a, g, b, m, d, rfl, I, k1, k2⟩ := h
    obtain ⟨dx, ha⟩ := I.obj
    refine ⟨_, rfl, _, rfl, a, C, dx, _, _, rfl, ha, T.cl, T.nG, iF_g _ _ _ _, _, _, rfl, .inl ⟨_, SqL.of I.gr, rfl⟩, _, _, rfl, rfl, _, rfl, ?_⟩
    rw [nV_len]
    by_cases c : d < m.growth.length
    · exact if_false_of (decide_eq_false (by omega)) (k1 c)
    · refine if_true_of (decide_eq_true (by omega)) fun C' e T' he => ?_
      exact k2 (by omega) C' e _ T' upd_same (same_new he)
def spAtMost (K : PySem.W.Frag) (R : Addr) : Sp := fun vs H Q E => ∃ (x y : Nat), vs = [.int x, .int y] ∧ (x ≤ y → Q .non H) ∧ (y < x → ErrOut K R H E (-22))
theorem sc25 : FnScope ["number", "most"] ["number", "most"] (defScope (topS 25)) := ⟨rfl, rfl, rfl, by decide +kernel, rfl, by decide +kernel, by decide +kernel⟩
theorem h_atMost (D : Df K mg "check_at_most" (topS 25) ["number", "most"]) (hE : ∀ {base : Heap}, CanRaise P w K mg base R "OutOfRange" (-22)) : Has P w K mg base (L2.CX P w) 4 "check_at_most" ["number", "most"] (spAtMost K R) := by
  refine has_mk D fun f fd F => F.okX sc25 (fun vs H Q E h => ?_) (fun cdv A outer s H vs Q E hr h => ⟨_, pss_one (ps_if (pt_cmpR op_gt (pv 0) (pv 1) (nomark _)) (pss_one (ps_R hE hr (takes_of rfl rfl rfl rfl))) pss_nil), ?_⟩)
  · obtain ⟨x, y, rfl, _⟩ := h
    rfl
  · obtain ⟨x, y, rfl, k1, k2⟩ := h
    refine ⟨_, rfl, _, rfl, _, _, rfl, rfl, _, rfl, ?_⟩
    by_cases c : x ≤ y
    · exact if_false_of (decide_eq_false (by omega)) (k1 c)
    · exact if_true_of (decide_eq_true (by omega)) fun C' e T' he => k2 (by omega) C' e _ T' upd_same (same_new he)
def spBetween (K : PySem.W.Frag) (R : Addr) : Sp := fun vs H Q E => ∃ (x l y : Nat), vs = [.int x, .int l, .int y] ∧ (l ≤ x → x ≤ y → Q .non H) ∧ (x < l ∨ y < x → ErrOut K R H E (-22))
theorem sc26 : FnScope ["number", "least", "most"] ["number", "least", "most"] (defScope (topS 26)) := ⟨rfl, rfl, rfl, by decide +kernel, rfl, by decide +kernel, by decide +kernel⟩
theorem h_between (D : Df K mg "check_between" (topS 26) ["number", "least", "most"]) (hE : ∀ {base : Heap}, CanRaise P w K mg base R "OutOfRange" (-22)) : Has P w K mg base (L2.CX P w) 4 "check_between" ["number", "least", "most"] (spBetween K R) := by
  refine has_mk D fun f fd F => F.okX sc26 (fun vs H Q E h => ?_) (fun cdv A outer s H vs Q E hr h => ⟨_, pss_one (ps_if (pw_or (pt_cmpR op_lt (pv 0) (pv 1) (nomark _)) (pw_or1 (pt_cmpR op_gt (pv 0) (pv 2) (nomark _)))).pt
    (pss_one (ps_R hE hr (takes_of rfl rfl rfl rfl))) pss_nil), ?_⟩)
  · obtain ⟨x, l, y, rfl, _⟩ := h
    rfl
  · obtain ⟨x, l, y, rfl, k1, k2⟩ := h
    refine ⟨_, rfl, _, rfl, _, _, rfl, rfl, _, rfl, ?_⟩
    by_cases c : x < l
    · refine if_true_of (decide_eq_true (by omega)) ?_
      exact fun C' e T' he => k2 (.inl c) C' e _ T' upd_same (same_new he)
    · refine if_false_of (decide_eq_false (by omega)) ?_
      refine ⟨_, rfl, _, rfl, _, _, rfl, rfl, _, rfl, ?_⟩
      by_cases c2 : x ≤ y
      · exact if_false_of (decide_eq_false (by omega)) (k1 (by omega) c2)
      · exact if_true_of (decide_eq_true (by omega)) fun C' e T' he => k2 (.inr (by omega)) C' e _ T' upd_same (same_new he)
end
end Ice

namespace Ice
open PySem PySem.Spec PyProof.Rows L2 IceX
section
variable {P : Program} {w : World} {K : PySem.W.Frag} {mg : Str → Option Value} {base : Heap} {R C : Addr}
/-! ### what an operation promises -/
def Keep (H H' : Hp) (a g b : Addr) : Prop := ∀ y o, H y = some o → y ≠ a → y ≠ g → y ≠ b → H' y = some o
theorem Keep.same {H H' : Hp} {a g b : Addr} (s : Same H H') : Keep H H' a g b := fun y o e _ _ _ => s y o e
theorem Keep.after {H H1 H' : Hp} {a g b : Addr} (s : Same H H1) (k : Keep H1 H' a g b) : Keep H H' a g b := fun y o e h1 h2 h3 => k y o (s y o e) h1 h2 h3
theorem Keep.new {H H' : Hp} {a g b p : Addr} {o : HO} (k : Keep H H' a g b) (h : H' p = none) : Keep H (upd H' p o) a g b := fun y u e h1 h2 h3 => by
  have z := k y u e h1 h2 h3
  rw [upd_ne (ne_of_none z h)]
  exact z
def ans (r : Km562.Result) : List V := (r.num :: r.nums).map V.int
def Op (K : PySem.W.Frag) (R C a g b : Addr) (m : Sch) (H : Hp) (Q : VK) (E : XK) (c : Km562.Call) : Prop :=
  (∀ m' r H' b' p, Km562.step (some m) c = (some m', r) → InstAt C H' a g b' m' → (b' = b ∨ H b' = none) → Keep H H' a g b → H p = none → H' p = some (.lst (ans r)) → Q (.ref p) H') ∧
  (∀ code, Km562.step (some m) c = (some m, Km562.error code) → ErrOut K R H E code)
def spOp0 (K : PySem.W.Frag) (R C : Addr) (c : Km562.Call) : Sp := fun vs H Q E => ∃ (a g b : Addr) (m : Sch), vs = [.ref a] ∧ InstAt C H a g b m ∧ WF m ∧ Op K R C a g b m H Q E c
def spOp1 (K : PySem.W.Frag) (R C : Addr) (c : Nat → Km562.Call) : Sp := fun vs H Q E => ∃ (a g b : Addr) (m : Sch) (x : Nat), vs = [.ref a, .int x] ∧ InstAt C H a g b m ∧ WF m ∧ Op K R C a g b m H Q E (c x)
def spOp2 (K : PySem.W.Frag) (R C : Addr) (c : Nat → Nat → Km562.Call) : Sp := fun vs H Q E => ∃ (a g b : Addr) (m : Sch) (x y : Nat), vs = [.ref a, .int x, .int y] ∧ InstAt C H a g b m ∧ WF m ∧ Op K R C a g b m H Q E (c x y)
/-- an answer, nothing changed -/
theorem Op.tell {a g b : Addr} {m : Sch} {H : Hp} {Q : VK} {E : XK} {c : Km562.Call} {r : Km562.Result} (o : Op K R C a g b m H Q E c) (e : Km562.step (some m) c = (some m, r)) (I : InstAt C H a g b m) {H1 : Hp} (s : Same H H1) {p : Addr} (hp : H1 p = none) :
    Q (.ref p) (upd H1 p (.lst (ans r))) := by
  refine o.1 m r _ b p e (I.same (Same.upd_new s hp)) (.inl rfl) (Keep.same (Same.upd_new s hp)) ?_ upd_same
  cases z : H p with
  | none => rfl
  | some u => rw [s p u z] at hp; cases hp
theorem InstAt.setG {H : Hp} {a g b : Addr} {m : Sch} (I : InstAt C H a g b m) (l : List Nat) : InstAt C (upd H g (.lst (nV l))) a g b { m with growth := l } := by
  obtain ⟨dx, e⟩ := I.obj
  exact ⟨⟨dx, by rw [upd_ne I.ag]; exact e⟩, upd_same, by rw [upd_ne (Ne.symm I.ne)]; exact I.br, I.ne⟩
theorem InstAt.setB {H : Hp} {a g b : Addr} {m : Sch} (I : InstAt C H a g b m) (l : List Nat) : InstAt C (upd H b (.lst (nV l))) a g b { m with breaks := l } := by
  obtain ⟨dx, e⟩ := I.obj
  exact ⟨⟨dx, by rw [upd_ne I.ab]; exact e⟩, by rw [upd_ne I.ne]; exact I.gr, upd_same, I.ne⟩
theorem keep_g {H : Hp} {a g b : Addr} {o : HO} : Keep H (upd H g o) a g b := fun y u e _ h _ => by rw [upd_ne h]; exact e
theorem keep_b {H : Hp} {a g b : Addr} {o : HO} : Keep H (upd H b o) a g b := fun y u e _ _ h => by rw [upd_ne h]; exact e
theorem keep_a {H : Hp} {a g b : Addr} {o : HO} : Keep H (upd H a o) a g b := fun y u e h _ _ => by rw [upd_ne h]; exact e
theorem Keep.trans {H H1 H' : Hp} {a g b : Addr} (k1 : Keep H H1 a g b) (k2 : Keep H1 H' a g b) : Keep H H' a g b := fun y o e h1 h2 h3 => k2 y o (k1 y o e h1 h2 h3) h1 h2 h3
/-- an answer behind a change -/
theorem Op.done {a g b b' : Addr} {m m' : Sch} {H : Hp} {Q : VK} {E : XK} {c : Km562.Call} {r : Km562.Result} (o : Op K R C a g b m H Q E c) (e : Km562.step (some m) c = (some m', r)) {H1 : Hp} (I : InstAt C H1 a g b' m') (hb : b' = b ∨ H b' = none)
    (k : Keep H H1 a g b) {p : Addr} (hp : H1 p = none) (h0 : H p = none) : Q (.ref p) (upd H1 p (.lst (ans r))) :=
  o.1 m' r _ b' p e (I.same (same_new hp)) hb (k.new hp) h0 upd_same
/-- what is new behind a change was new ahead of it -/
theorem new_back {H H1 : Hp} {a g b : Addr} {p : Addr} (k : Keep H H1 a g b) {m : Sch} (I : InstAt C H1 a g b m) (hp : H1 p = none) : H p = none := by
  cases e : H p with
  | none => rfl
  | some u =>
    obtain ⟨dx, ea⟩ := I.obj
    have h1 : p ≠ a := fun z => by rw [z, ea] at hp; cases hp
    have h2 : p ≠ g := fun z => by rw [z, I.gr] at hp; cases hp
    have h3 : p ≠ b := fun z => by rw [z, I.br] at hp; cases hp
    rw [k p u e h1 h2 h3] at hp
    cases hp
/-! ### add_day -/
theorem sc28 : FnScope ["instance", "growth", "day"] ["instance", "growth"] (defScope (topS 28)) := ⟨rfl, rfl, rfl, by decide +kernel, rfl, by decide +kernel, by decide +kernel⟩
theorem h_addDay (D : Df K mg "add_day" (topS 28) ["instance", "growth"]) (B : Bi mg) (N : Cn mg) (T : ICl K mg C) (hA : ∀ {base : Heap}, Has P w K mg base (L2.CX P w) 4 "check_at_most" ["number", "most"] (spAtMost K R))
    (hE : ∀ {base : Heap}, CanRaise P w K mg base R "TooManyDays" (-28)) : Has P w K mg base (L2.CX P w) 9 "add_day" ["instance", "growth"] (spOp1 K R C .addDay) := by
  refine has_mk D fun f fd F => F.okX sc28 (fun vs H Q E h => ?_) (fun cdv A outer s H vs Q E hr h => ⟨_, pss_cons (ps_expr (pe_H hA (hr.mono (by decide)) (passC (takes_of rfl rfl rfl rfl)) (pa_cons (pv 1) (pa_cons (pe_cn N.growth) pa_nil))))
    (pss_cons (ps_set (i := 2) sc28.nd rfl (Or.inl rfl) (pe_callB call_len (by rfl) B.len boot_len (pa_cons (pe_fld (pv 0) rfl) pa_nil)))
    (pss_cons (ps_if (pt_cmpR op_eq (pv 2) (pe_cn N.days) (nomark _)) (pss_one (ps_R hE (hr.mono (by decide)) (takes_of rfl rfl rfl rfl))) pss_nil)
    (pss_cons (ps_expr (pe_bm PySem.F.plainAttrs_list PySem.F.slot_list_append PySem.F.type_list_append mt_append (pe_fld (pv 0) rfl) (pa_cons (pv 1) pa_nil)))
    (pss_one (ps_ret (pe_lst (pa_cons (pv 2) pa_nil))))))), ?_⟩)
  · obtain ⟨a, g, b, m, x, rfl, _⟩ := h
    rfl
  · obtain ⟨a, g, b, m, x, rfl, I, wf, o⟩ := h
    obtain ⟨dx, ha⟩ := I.obj
    refine ⟨_, rfl, x, 30, rfl, fun c1 => ?_, fun c1 => o.2 (-22) (by rw [st_add, if_pos c1])⟩
    refine ⟨_, rfl, a, C, dx, _, _, rfl, ha, T.cl, T.nG, iF_g _ _ _ _, _, _, rfl, .inl ⟨_, SqL.of I.gr, rfl⟩, ?_⟩
    rw [nV_len]
    refine ⟨_, rfl, rfl, _, rfl, ?_⟩
    by_cases c2 : m.growth.length = 10
    · refine if_true_of (decide_eq_true (by rw [c2]; rfl)) fun C' e T' he => ?_
      exact o.2 (-28) (by rw [st_add, if_neg (by omega), if_pos (by omega)]) C' e _ T' upd_same (same_new he)
    · refine if_false_of (decide_eq_false fun q => c2 (Int.ofNat.inj (V.int.inj q))) ?_
      have hl := wf.len
      refine ⟨_, rfl, a, C, dx, _, _, rfl, ha, T.cl, T.nG, iF_g _ _ _ _, .inl ⟨rfl, _, SqL.of I.gr⟩, _, rfl, g, _, _, rfl, rfl, I.gr, (by rw [nV_len]; exact small1000 (by omega)), ?_⟩
      refine ⟨_, rfl, (by show 1 ≤ sizeLine; decide), fun p hp => ?_⟩
      have I1 := I.setG (m.growth ++ [x])
      rw [nV_app] at I1
      exact Op.done (r := Km562.number (m.growth.length : Nat)) o (by rw [st_add, if_neg (by omega), if_neg (by omega)]) I1 (.inl rfl) keep_g hp (new_back keep_g I1 hp)
/-! ### remove_last_day -/
theorem sc29 : FnScope ["instance", "last_day"] ["instance"] (defScope (topS 29)) := ⟨rfl, rfl, rfl, by decide +kernel, rfl, by decide +kernel, by decide +kernel⟩
theorem drop_last {l : List Nat} : (nV l).dropLast = nV (l.take (l.length - 1)) := by
  rw [nV_take, List.dropLast_eq_take, nV_len]
theorem pop_breaks {m : Sch} (wf : WF m) : (m.breaks.filter fun b => decide (b + 1 < m.growth.length)) = m.breaks.filter fun b => b != m.growth.length - 1 := by
  refine List.filter_congr fun b hb => ?_
  have := wf.lt b hb
  by_cases h : b + 1 < m.growth.length
  · rw [decide_eq_true h]
    exact (bne_iff_ne.mpr (by omega)).symm
  · rw [decide_eq_false h]
    have e : b = m.growth.length - 1 := by omega
    rw [e]; simp
theorem zs_erase : ∀ (l : List Nat) (j : Nat), (zs l).eraseIdx j = zs (l.eraseIdx j)
  | [], _ => rfl
  | _ :: _, 0 => rfl
  | x :: l, j + 1 => by
    show (x : Int) :: (zs l).eraseIdx j = (x : Int) :: zs (l.eraseIdx j)
    rw [zs_erase l j]
theorem h_popDay (D : Df K mg "remove_last_day" (topS 29) ["instance"]) (B : Bi mg) (T : ICl K mg C)
    (hE : ∀ {base : Heap}, CanRaise P w K mg base R "NoDays" (-6)) : Has P w K mg base (L2.CX P w) 9 "remove_last_day" ["instance"] (spOp0 K R C .removeLastDay) := by
  refine has_mk D fun f fd F => F.okX sc29 (fun vs H Q E h => ?_) (fun cdv A outer s H vs Q E hr h => ⟨_, pss_cons (ps_if (pt_cmpR op_eq (pe_callB call_len (by rfl) B.len boot_len (pa_cons (pe_fld (pv 0) rfl) pa_nil)) pe_int (nomark _)) (pss_one (ps_R hE (hr.mono (by decide)) (takes_of rfl rfl rfl rfl))) pss_nil)
    (pss_cons (ps_expr (pe_bm0 PySem.F.plainAttrs_list PySem.F.slot_list_pop PySem.F.type_list_pop mt_pop (pe_fld (pv 0) rfl)))
    (pss_cons (ps_set (i := 1) sc29.nd rfl (Or.inl rfl) (pe_callB call_len (by rfl) B.len boot_len (pa_cons (pe_fld (pv 0) rfl) pa_nil)))
    (pss_cons (ps_if (pt_cmpR op_in_seq (pv 1) (pe_fld (pv 0) rfl) rfl) (pss_one (ps_expr (pe_bm PySem.F.plainAttrs_list PySem.F.slot_list_remove PySem.F.type_list_remove mt_remove (pe_fld (pv 0) rfl) (pa_cons (pv 1) pa_nil)))) pss_nil)
    (pss_one (ps_ret (pe_lst (pa_cons (pv 1) pa_nil))))))), ?_⟩)
  · obtain ⟨a, g, b, m, rfl, _⟩ := h
    rfl
  · obtain ⟨a, g, b, m, rfl, I, wf, o⟩ := h
    obtain ⟨dx, ha⟩ := I.obj
    refine ⟨_, rfl, a, C, dx, _, _, rfl, ha, T.cl, T.nG, iF_g _ _ _ _, _, _, rfl, .inl ⟨_, SqL.of I.gr, rfl⟩, rfl, _, rfl, ?_⟩
    rw [nV_len]
    by_cases c : m.growth.length = 0
    · refine if_true_of (decide_eq_true (by rw [c]; rfl)) fun C' e T' he => ?_
      exact o.2 (-6) (by rw [st_pop, if_pos c]) C' e _ T' upd_same (same_new he)
    · refine if_false_of (decide_eq_false fun q => c (Int.ofNat.inj (V.int.inj q))) ?_
      obtain ⟨y, hy⟩ : ∃ y, (nV m.growth)[(nV m.growth).length - 1]? = some y := ⟨_, List.getElem?_eq_getElem (by rw [nV_len]; omega)⟩
      refine ⟨_, rfl, a, C, dx, _, _, rfl, ha, T.cl, T.nG, iF_g _ _ _ _, .inl ⟨rfl, _, SqL.of I.gr⟩, g, _, y, rfl, rfl, I.gr, hy, ?_⟩
      rw [drop_last]
      have I1 := I.setG (m.growth.take (m.growth.length - 1))
      have k1 : Keep H (upd H g (.lst (nV (m.growth.take (m.growth.length - 1))))) a g b := keep_g
      generalize upd H g (.lst (nV (m.growth.take (m.growth.length - 1)))) = H1 at I1 k1
      obtain ⟨dx1, ha1⟩ := I1.obj
      refine ⟨_, rfl, a, C, dx1, _, _, rfl, ha1, T.cl, T.nG, iF_g _ _ _ _, _, _, rfl, .inl ⟨_, SqL.of I1.gr, rfl⟩, ?_⟩
      have el : (nV (m.growth.take (m.growth.length - 1))).length = m.growth.length - 1 := by rw [nV_len, List.length_take]; omega
      show ∃ v, _
      rw [el]
      have est : Km562.step (some m) .removeLastDay = (some { m with growth := m.growth.take (m.growth.length - 1), breaks := m.breaks.filter fun b => b != m.growth.length - 1 }, Km562.number (m.growth.length - 1 : Nat)) := by
        rw [st_pop, if_neg c, pop_breaks wf]
      refine ⟨_, rfl, _, rfl, a, C, dx1, _, _, rfl, ha1, T.cl, T.nB, iF_b _ _ _ _, b, _, rfl, .inl (SqL.of I1.br), rfl, flat_V _, _, rfl, ?_⟩
      show if inV (.int ((m.growth.length - 1 : Nat) : Int)) (nV m.breaks) = true then _ else _
      rw [in_V]
      by_cases c2 : m.growth.length - 1 ∈ m.breaks
      · obtain ⟨j, hj, hn⟩ := place_of wf.up c2
        refine if_true_of (decide_eq_true c2) ?_
        refine ⟨_, rfl, a, C, dx1, _, _, rfl, ha1, T.cl, T.nB, iF_b _ _ _ _, .inl ⟨rfl, _, SqL.of I1.br⟩, _, rfl, b, zs m.breaks, _, j, rfl, rfl, I1.br, (by rw [List.getElem?_map, hj]; rfl), (fun k hk e => ?_), ?_⟩
        · rw [List.getElem?_map] at e
          obtain ⟨z, e1, e2⟩ := Option.map_eq_some_iff.mp e
          have e3 : z = m.growth.length - 1 := Int.ofNat.inj e2
          rw [e3] at e1
          exact hn k hk e1
        · have ee : (zs m.breaks).eraseIdx j = zs (m.breaks.filter fun b => b != m.growth.length - 1) := by
            rw [← erase_at m.breaks _ j wf.up hj, zs_erase]
          rw [ee]
          refine ⟨_, rfl, (by show 1 ≤ sizeLine; decide), fun p hp => ?_⟩
          have I2 := I1.setB (m.breaks.filter fun b => b != m.growth.length - 1)
          have k2 := Keep.trans k1 (keep_b (H := H1) (a := a) (g := g) (b := b) (o := .lst (nV (m.breaks.filter fun b => b != m.growth.length - 1))))
          exact Op.done o est I2 (.inl rfl) k2 hp (new_back k2 I2 hp)
      · refine if_false_of (decide_eq_false c2) ?_
        refine ⟨_, rfl, (by show 1 ≤ sizeLine; decide), fun p hp => ?_⟩
        have ee : (m.breaks.filter fun b => b != m.growth.length - 1) = m.breaks := List.filter_eq_self.mpr fun x hx => bne_iff_ne.mpr fun z => c2 (z ▸ hx)
        rw [ee] at est
        exact Op.done o est I1 (.inl rfl) k1 hp (new_back k1 I1 hp)
end
end Ice

namespace Ice
open PySem PySem.Spec PyProof.Rows L2 IceX
section
variable {P : Program} {w : World} {K : PySem.W.Frag} {mg : Str → Option Value} {base : Heap} {R C : Addr}
theorem ixN_nat {n d : Nat} (h : d < n) : ixN n (d : Int) = some d := by
  have z := atI_nat (xs := List.range n) (j := d) (v := d) (List.getElem?_range h)
  unfold atI at z
  rw [List.length_range] at z
  cases e : ixN n (d : Int) with
  | none => rw [e] at z; cases z
  | some k =>
    rw [e] at z
    have z' : (List.range n)[k]? = some d := z
    obtain ⟨h1, h2⟩ := List.getElem?_eq_some_iff.mp z'
    rw [List.getElem_range] at h2
    rw [h2]
theorem nV_set (l : List Nat) (d x : Nat) : (nV l).set d (V.int x) = nV (l.set d x) := by
  rw [← List.map_set, ← List.map_set]
/-! ### set_growth -/
theorem sc30 : FnScope ["instance", "day", "growth", "old_growth"] ["instance", "day", "growth"] (defScope (topS 30)) := ⟨rfl, rfl, rfl, by decide +kernel, rfl, by decide +kernel, by decide +kernel⟩
theorem h_setGrowth (D : Df K mg "set_growth" (topS 30) ["instance", "day", "growth"]) (N : Cn mg) (T : ICl K mg C) (hD : ∀ {base : Heap}, Has P w K mg base (L2.CX P w) 4 "check_day" ["instance", "day"] (spCheckDay K R C))
    (hA : ∀ {base : Heap}, Has P w K mg base (L2.CX P w) 4 "check_at_most" ["number", "most"] (spAtMost K R)) : Has P w K mg base (L2.CX P w) 9 "set_growth" ["instance", "day", "growth"] (spOp2 K R C .setGrowth) := by
  refine has_mk D fun f fd F => F.okX sc30 (fun vs H Q E h => ?_) (fun cdv A outer s H vs Q E hr h => ⟨_, pss_cons (ps_expr (pe_H hD (hr.mono (by decide)) (passC (takes_of rfl rfl rfl rfl)) (pa_cons (pv 0) (pa_cons (pv 1) pa_nil))))
    (pss_cons (ps_expr (pe_H hA (hr.mono (by decide)) (passC (takes_of rfl rfl rfl rfl)) (pa_cons (pv 2) (pa_cons (pe_cn N.growth) pa_nil))))
    (pss_cons (ps_set (i := 3) sc30.nd rfl (Or.inl rfl) (pe_ix ix_list (pe_fld (pv 0) rfl) (pv 1) (fun _ _ => rfl)))
    (pss_cons (ps_asg (pv 2) (pg_sub (pe_fld (pv 0) rfl) (pv 1) set_list))
    (pss_one (ps_ret (pe_lst (pa_cons (pv 3) pa_nil))))))), ?_⟩)
  · obtain ⟨a, g, b, m, x, y, rfl, _⟩ := h
    rfl
  · obtain ⟨a, g, b, m, d, x, rfl, I, wf, o⟩ := h
    obtain ⟨dx, ha⟩ := I.obj
    refine ⟨_, rfl, _, rfl, a, g, b, m, d, rfl, I, fun c1 => ?_, fun c1 => o.2 (-2) (by rw [st_set, if_pos c1])⟩
    refine ⟨_, rfl, x, 30, rfl, fun c2 => ?_, fun c2 => o.2 (-22) (by rw [st_set, if_neg (by omega), if_pos c2])⟩
    obtain ⟨z, hz⟩ : ∃ z, m.growth[d]? = some z := ⟨_, List.getElem?_eq_getElem c1⟩
    refine ⟨_, rfl, a, C, dx, _, _, rfl, ha, T.cl, T.nG, iF_g _ _ _ _, _, rfl, g, _, _, _, rfl, rfl, SqL.of I.gr, atI_nat (nV_get hz), ?_⟩
    refine ⟨_, rfl, _, rfl, a, C, dx, _, _, rfl, ha, T.cl, T.nG, iF_g _ _ _ _, _, rfl, g, _, _, d, rfl, rfl, I.gr, ixN_nat (by rw [nV_len]; exact c1), ?_⟩
    rw [nV_set]
    refine ⟨_, rfl, (by show 1 ≤ sizeLine; decide), fun p hp => ?_⟩
    have I1 := I.setG (m.growth.set d x)
    exact Op.done (r := Km562.number (z : Nat)) o (by rw [st_set, if_neg (by omega), if_neg (by omega), List.getD_eq_getElem?_getD, hz]; rfl) I1 (.inl rfl) keep_g hp (new_back keep_g I1 hp)
/-! ### set_trip_cost, set_max_thickness -/
theorem sc31 : FnScope ["instance", "trip_cost", "old_trip_cost"] ["instance", "trip_cost"] (defScope (topS 31)) := ⟨rfl, rfl, rfl, by decide +kernel, rfl, by decide +kernel, by decide +kernel⟩
theorem h_setTrip (D : Df K mg "set_trip_cost" (topS 31) ["instance", "trip_cost"]) (N : Cn mg) (T : ICl K mg C)
    (hA : ∀ {base : Heap}, Has P w K mg base (L2.CX P w) 4 "check_at_most" ["number", "most"] (spAtMost K R)) : Has P w K mg base (L2.CX P w) 9 "set_trip_cost" ["instance", "trip_cost"] (spOp1 K R C .setTripCost) := by
  refine has_mk D fun f fd F => F.okX sc31 (fun vs H Q E h => ?_) (fun cdv A outer s H vs Q E hr h => ⟨_, pss_cons (ps_expr (pe_H hA (hr.mono (by decide)) (passC (takes_of rfl rfl rfl rfl)) (pa_cons (pv 1) (pa_cons (pe_cn N.trip) pa_nil))))
    (pss_cons (ps_set (i := 2) sc31.nd rfl (Or.inl rfl) (pe_fld (pv 0) rfl))
    (pss_cons (ps_fld (pv 0) (pv 1) rfl)
    (pss_one (ps_ret (pe_lst (pa_cons (pv 2) pa_nil)))))), ?_⟩)
  · obtain ⟨a, g, b, m, x, rfl, _⟩ := h
    rfl
  · obtain ⟨a, g, b, m, x, rfl, I, wf, o⟩ := h
    obtain ⟨dx, ha⟩ := I.obj
    refine ⟨_, rfl, x, 9999, rfl, fun c1 => ?_, fun c1 => o.2 (-22) (by rw [st_trip, if_pos c1])⟩
    refine ⟨_, rfl, a, C, dx, _, _, rfl, ha, T.cl, T.nT, iF_t _ _ _ _, ?_⟩
    refine ⟨_, rfl, _, rfl, a, C, dx, _, rfl, ha, T.cl, T.nT, (by show 4 < 1000; decide), ?_⟩
    refine ⟨_, rfl, (by show 1 ≤ sizeLine; decide), fun p hp => ?_⟩
    have I1 : InstAt C (upd H a (.ins C dx (putF "trip_cost" (.int x) (iF g b m.tripCost m.maxThickness)))) a g b { m with tripCost := x } :=
      ⟨⟨dx, upd_same.trans (congrArg (fun q => some (HO.ins C dx q)) (iF_putt _ _ _ _ _))⟩, by rw [upd_ne (Ne.symm I.ag)]; exact I.gr, by rw [upd_ne (Ne.symm I.ab)]; exact I.br, I.ne⟩
    exact Op.done (r := Km562.number (m.tripCost : Nat)) o (by rw [st_trip, if_neg (by omega)]) I1 (.inl rfl) keep_a hp (new_back keep_a I1 hp)
theorem sc32 : FnScope ["instance", "max_thickness", "old_max_thickness"] ["instance", "max_thickness"] (defScope (topS 32)) := ⟨rfl, rfl, rfl, by decide +kernel, rfl, by decide +kernel, by decide +kernel⟩
theorem h_setMax (D : Df K mg "set_max_thickness" (topS 32) ["instance", "max_thickness"]) (N : Cn mg) (T : ICl K mg C)
    (hA : ∀ {base : Heap}, Has P w K mg base (L2.CX P w) 4 "check_at_most" ["number", "most"] (spAtMost K R)) : Has P w K mg base (L2.CX P w) 9 "set_max_thickness" ["instance", "max_thickness"] (spOp1 K R C .setMaxThickness) := by
  refine has_mk D fun f fd F => F.okX sc32 (fun vs H Q E h => ?_) (fun cdv A outer s H vs Q E hr h => ⟨_, pss_cons (ps_expr (pe_H hA (hr.mono (by decide)) (passC (takes_of rfl rfl rfl rfl)) (pa_cons (pv 1) (pa_cons (pe_cn N.thick) pa_nil))))
    (pss_cons (ps_set (i := 2) sc32.nd rfl (Or.inl rfl) (pe_fld (pv 0) rfl))
    (pss_cons (ps_fld (pv 0) (pv 1) rfl)
    (pss_one (ps_ret (pe_lst (pa_cons (pv 2) pa_nil)))))), ?_⟩)
  · obtain ⟨a, g, b, m, x, rfl, _⟩ := h
    rfl
  · obtain ⟨a, g, b, m, x, rfl, I, wf, o⟩ := h
    obtain ⟨dx, ha⟩ := I.obj
    refine ⟨_, rfl, x, 999, rfl, fun c1 => ?_, fun c1 => o.2 (-22) (by rw [st_max, if_pos c1])⟩
    refine ⟨_, rfl, a, C, dx, _, _, rfl, ha, T.cl, T.nM, iF_m _ _ _ _, ?_⟩
    refine ⟨_, rfl, _, rfl, a, C, dx, _, rfl, ha, T.cl, T.nM, (by show 4 < 1000; decide), ?_⟩
    refine ⟨_, rfl, (by show 1 ≤ sizeLine; decide), fun p hp => ?_⟩
    have I1 : InstAt C (upd H a (.ins C dx (putF "max_thickness" (.int x) (iF g b m.tripCost m.maxThickness)))) a g b { m with maxThickness := x } :=
      ⟨⟨dx, upd_same.trans (congrArg (fun q => some (HO.ins C dx q)) (iF_putm _ _ _ _ _))⟩, by rw [upd_ne (Ne.symm I.ag)]; exact I.gr, by rw [upd_ne (Ne.symm I.ab)]; exact I.br, I.ne⟩
    exact Op.done (r := Km562.number (m.maxThickness : Nat)) o (by rw [st_max, if_neg (by omega)]) I1 (.inl rfl) keep_a hp (new_back keep_a I1 hp)
/-! ### list_growth -/
theorem ans_list (l : List Nat) : ans (Km562.listResult l) = V.int (l.length : Nat) :: nV l := rfl
theorem sc33 : FnScope ["instance"] ["instance"] (defScope (topS 33)) := ⟨rfl, rfl, rfl, by decide +kernel, rfl, by decide +kernel, by decide +kernel⟩
theorem h_listGrowth (D : Df K mg "list_growth" (topS 33) ["instance"]) (B : Bi mg) (T : ICl K mg C) : Has P w K mg base (L2.CX P w) 9 "list_growth" ["instance"] (spOp0 K R C .listGrowth) := by
  refine has_mk D fun f fd F => F.okX sc33 (fun vs H Q E h => ?_) (fun cdv A outer s H vs Q E hr h => ⟨_, pss_one (ps_ret (pe_op op_cat (pe_lst (pa_cons (pe_callB call_len (by rfl) B.len boot_len (pa_cons (pe_fld (pv 0) rfl) pa_nil)) pa_nil)) (pe_fld (pv 0) rfl))), ?_⟩)
  · obtain ⟨a, g, b, m, rfl, _⟩ := h
    rfl
  · obtain ⟨a, g, b, m, rfl, I, wf, o⟩ := h
    obtain ⟨dx, ha⟩ := I.obj
    have hl := wf.len
    refine ⟨_, rfl, a, C, dx, _, _, rfl, ha, T.cl, T.nG, iF_g _ _ _ _, _, _, rfl, .inl ⟨_, SqL.of I.gr, rfl⟩, (by show 1 ≤ sizeLine; decide), fun q hq => ?_⟩
    rw [nV_len]
    have s1 : Same H (upd H q (.lst [V.int (m.growth.length : Nat)])) := same_new hq
    refine ⟨_, rfl, a, C, dx, _, _, rfl, s1 _ _ ha, T.cl, T.nG, iF_g _ _ _ _, q, g, _, _, rfl, rfl, upd_same, s1 _ _ I.gr, ?_, fun p hp => ?_⟩
    · rw [nV_len]
      exact Nat.le_of_lt (small1000 (by show 1 + _ ≤ 1000; omega))
    · have z := o.tell (st_list m) I s1 hp
      rw [ans_list] at z
      exact z
/-! ### thickness_between -/
theorem sc34 : FnScope ["instance", "first_day", "last_day", "thickness"] ["instance", "first_day", "last_day"] (defScope (topS 34)) := ⟨rfl, rfl, rfl, by decide +kernel, rfl, by decide +kernel, by decide +kernel⟩
theorem h_between2 (D : Df K mg "thickness_between" (topS 34) ["instance", "first_day", "last_day"]) (T : ICl K mg C) (hD : ∀ {base : Heap}, Has P w K mg base (L2.CX P w) 4 "check_day" ["instance", "day"] (spCheckDay K R C))
    (hT : ∀ {base : Heap}, Has P w K mg base CX0 1 "thickness_of" ["growths", "first_day", "last_day"] (spThick K)) (hF : ∀ {base : Heap}, Has P w K mg base CX0 1 "effort_of" ["thickness"] spEff)
    (hE : ∀ {base : Heap}, CanRaise P w K mg base R "OutOfRange" (-22)) : Has P w K mg base (L2.CX P w) 9 "thickness_between" ["instance", "first_day", "last_day"] (spOp2 K R C .thicknessBetween) := by
  refine has_mk D fun f fd F => F.okX sc34 (fun vs H Q E h => ?_) (fun cdv A outer s H vs Q E hr h => ⟨_, pss_cons (ps_expr (pe_H hD (hr.mono (by decide)) (passC (takes_of rfl rfl rfl rfl)) (pa_cons (pv 0) (pa_cons (pv 1) pa_nil))))
    (pss_cons (ps_expr (pe_H hD (hr.mono (by decide)) (passC (takes_of rfl rfl rfl rfl)) (pa_cons (pv 0) (pa_cons (pv 2) pa_nil))))
    (pss_cons (ps_if (pt_cmpR op_lt (pv 2) (pv 1) (nomark _)) (pss_one (ps_R hE (hr.mono (by decide)) (takes_of rfl rfl rfl rfl))) pss_nil)
    (pss_cons (ps_set (i := 3) sc34.nd rfl (Or.inl rfl) (pe_H hT (hr.mono (by decide)) pass0 (pa_cons (pe_fld (pv 0) rfl) (pa_cons (pv 1) (pa_cons (pv 2) pa_nil)))))
    (pss_one (ps_ret (pe_lst (pa_cons (pv 3) (pa_cons (pe_H hF (hr.mono (by decide)) pass0 (pa_cons (pv 3) pa_nil)) pa_nil)))))))), ?_⟩)
  · obtain ⟨a, g, b, m, x, y, rfl, _⟩ := h
    rfl
  · obtain ⟨a, g, b, m, x, y, rfl, I, wf, o⟩ := h
    obtain ⟨dx, ha⟩ := I.obj
    refine ⟨_, rfl, _, rfl, a, g, b, m, x, rfl, I, fun c1 => ?_, fun c1 => o.2 (-2) (by rw [st_between, if_pos (.inl c1)])⟩
    refine ⟨_, rfl, _, rfl, a, g, b, m, y, rfl, I, fun c2 => ?_, fun c2 => o.2 (-2) (by rw [st_between, if_pos (.inr c2)])⟩
    refine ⟨_, rfl, _, rfl, _, _, rfl, rfl, _, rfl, ?_⟩
    by_cases c3 : y < x
    · refine if_true_of (decide_eq_true (by omega)) fun C' e T' he => ?_
      exact o.2 (-22) (by rw [st_between, if_neg (by omega), if_pos c3]) C' e _ T' upd_same (same_new he)
    · refine if_false_of (decide_eq_false (by omega)) ?_
      refine ⟨_, rfl, a, C, dx, _, _, rfl, ha, T.cl, T.nG, iF_g _ _ _ _, _, rfl, _, rfl, g, m.growth, x, y, rfl, SqL.of I.gr, fun H1 s1 => ?_⟩
      have t3 := thick_le (a := x) (b := y) wf.len wf.le
      refine ⟨_, rfl, _, rfl, _, rfl, by omega, (by show 2 ≤ sizeLine; decide), fun p hp => ?_⟩
      have z := o.tell (r := ⟨(thick m.growth x y : Int), [((thick m.growth x y * thick m.growth x y : Nat) : Int)]⟩) (by rw [st_between, if_neg (by omega), if_neg c3, thick_eq, effort_eq]) I s1 hp
      exact z
/-! ### total_growth, summary -/
theorem sc35 : FnScope ["instance"] ["instance"] (defScope (topS 35)) := ⟨rfl, rfl, rfl, by decide +kernel, rfl, by decide +kernel, by decide +kernel⟩
theorem h_total (D : Df K mg "total_growth" (topS 35) ["instance"]) (B : Bi mg) (T : ICl K mg C) : Has P w K mg base (L2.CX P w) 9 "total_growth" ["instance"] (spOp0 K R C .totalGrowth) := by
  refine has_mk D fun f fd F => F.okX sc35 (fun vs H Q E h => ?_) (fun cdv A outer s H vs Q E hr h => ⟨_, pss_one (ps_ret (pe_lst (pa_cons (pe_callB (cr_sum rfl) (by rfl) B.sum boot_sum (pa_cons (pe_fld (pv 0) rfl) pa_nil)) pa_nil))), ?_⟩)
  · obtain ⟨a, g, b, m, rfl, _⟩ := h
    rfl
  · obtain ⟨a, g, b, m, rfl, I, wf, o⟩ := h
    obtain ⟨dx, ha⟩ := I.obj
    refine ⟨_, rfl, a, C, dx, _, _, rfl, ha, T.cl, T.nG, iF_g _ _ _ _, g, zs m.growth, rfl, SqL.of I.gr, (by show 1 ≤ sizeLine; decide), fun p hp => ?_⟩
    rw [zs_sum]
    exact o.tell (r := Km562.number (m.growth.sum : Nat)) (by rw [st_total, ksum]) I (Same.refl H) hp
theorem sc36 : FnScope ["instance"] ["instance"] (defScope (topS 36)) := ⟨rfl, rfl, rfl, by decide +kernel, rfl, by decide +kernel, by decide +kernel⟩
theorem h_summary (D : Df K mg "summary" (topS 36) ["instance"]) (B : Bi mg) (T : ICl K mg C) : Has P w K mg base (L2.CX P w) 9 "summary" ["instance"] (spOp0 K R C .summary) := by
  refine has_mk D fun f fd F => F.okX sc36 (fun vs H Q E h => ?_) (fun cdv A outer s H vs Q E hr h => ⟨_, pss_one (ps_ret (pe_lst (pa_cons (pe_callB call_len (by rfl) B.len boot_len (pa_cons (pe_fld (pv 0) rfl) pa_nil)) (pa_cons (pe_fld (pv 0) rfl)
    (pa_cons (pe_fld (pv 0) rfl) (pa_cons (pe_callB call_len (by rfl) B.len boot_len (pa_cons (pe_fld (pv 0) rfl) pa_nil)) pa_nil)))))), ?_⟩)
  · obtain ⟨a, g, b, m, rfl, _⟩ := h
    rfl
  · obtain ⟨a, g, b, m, rfl, I, wf, o⟩ := h
    obtain ⟨dx, ha⟩ := I.obj
    refine ⟨_, rfl, a, C, dx, _, _, rfl, ha, T.cl, T.nG, iF_g _ _ _ _, _, _, rfl, .inl ⟨_, SqL.of I.gr, rfl⟩, ?_⟩
    refine ⟨_, rfl, a, C, dx, _, _, rfl, ha, T.cl, T.nT, iF_t _ _ _ _, ?_⟩
    refine ⟨_, rfl, a, C, dx, _, _, rfl, ha, T.cl, T.nM, iF_m _ _ _ _, ?_⟩
    refine ⟨_, rfl, a, C, dx, _, _, rfl, ha, T.cl, T.nB, iF_b _ _ _ _, _, _, rfl, .inl ⟨_, SqL.of I.br, rfl⟩, (by show 4 ≤ sizeLine; decide), fun p hp => ?_⟩
    rw [nV_len, nV_len]
    exact o.tell (st_summary m) I (Same.refl H) hp
end
end Ice

namespace Ice
open PySem PySem.Spec PyProof.Rows L2 IceX
section
variable {P : Program} {w : World} {K : PySem.W.Frag} {mg : Str → Option Value} {base : Heap} {R C : Addr}
theorem WF.few1000 {m : Sch} (wf : WF m) : m.breaks.length ≤ 1000 := by
  have h1 := wf.few
  have h2 := wf.len
  omega
theorem contains_dec (l : List Nat) (d : Nat) : l.contains d = decide (d ∈ l) := by
  rw [Bool.eq_iff_iff, List.contains_iff_mem, decide_eq_true_iff]
/-! ### add_break -/
theorem sc61 : FnScope ["instance", "day"] ["instance", "day"] (defScope (topS 61)) := ⟨rfl, rfl, rfl, by decide +kernel, rfl, by decide +kernel, by decide +kernel⟩
theorem h_addBreak (D : Df K mg "add_break" (topS 61) ["instance", "day"]) (B : Bi mg) (T : ICl K mg C) (hD : ∀ {base : Heap}, Has P w K mg base (L2.CX P w) 4 "check_day" ["instance", "day"] (spCheckDay K R C))
    (hB : ∀ {base : Heap}, Has P w K mg base CX0 2 "thickness_before_break" ["growths", "breaks", "day"] (spBefore K))
    (hE : ∀ {base : Heap}, CanRaise P w K mg base R "BreakThereAlready" (-17)) : Has P w K mg base (L2.CX P w) 9 "add_break" ["instance", "day"] (spOp1 K R C .addBreak) := by
  refine has_mk D fun f fd F => F.okX sc61 (fun vs H Q E h => ?_) (fun cdv A outer s H vs Q E hr h => ⟨_, pss_cons (ps_expr (pe_H hD (hr.mono (by decide)) (passC (takes_of rfl rfl rfl rfl)) (pa_cons (pv 0) (pa_cons (pv 1) pa_nil))))
    (pss_cons (ps_if (pt_cmpR op_in_seq (pv 1) (pe_fld (pv 0) rfl) rfl) (pss_one (ps_R hE (hr.mono (by decide)) (takes_of rfl rfl rfl rfl))) pss_nil)
    (pss_cons (ps_fld (pv 0) (pe_callB cr_sortedI (by rfl) B.sorted boot_sorted (pa_cons (pe_op op_cat (pe_fld (pv 0) rfl) (pe_lst (pa_cons (pv 1) pa_nil))) pa_nil)) rfl)
    (pss_one (ps_ret (pe_lst (pa_cons (pe_H hB (hr.mono (by decide)) pass0 (pa_cons (pe_fld (pv 0) rfl) (pa_cons (pe_fld (pv 0) rfl) (pa_cons (pv 1) pa_nil)))) pa_nil)))))), ?_⟩)
  · obtain ⟨a, g, b, m, x, rfl, _⟩ := h
    rfl
  · obtain ⟨a, g, b, m, d, rfl, I, wf, o⟩ := h
    obtain ⟨dx, ha⟩ := I.obj
    have hf := wf.few1000
    refine ⟨_, rfl, _, rfl, a, g, b, m, d, rfl, I, fun c1 => ?_, fun c1 => o.2 (-2) (by rw [st_addBreak, if_pos c1])⟩
    refine ⟨_, rfl, _, rfl, a, C, dx, _, _, rfl, ha, T.cl, T.nB, iF_b _ _ _ _, b, _, rfl, .inl (SqL.of I.br), rfl, flat_V _, _, rfl, ?_⟩
    show if inV (.int (d : Int)) (nV m.breaks) = true then _ else _
    rw [in_V]
    by_cases c2 : d ∈ m.breaks
    · refine if_true_of (decide_eq_true c2) fun C' e T' he => ?_
      exact o.2 (-17) (by rw [st_addBreak, if_neg (by omega), contains_dec, if_pos (decide_eq_true c2)]) C' e _ T' upd_same (same_new he)
    · refine if_false_of (decide_eq_false c2) ?_
      -- sorted(instance.breaks + [day])
      refine ⟨_, rfl, a, C, dx, _, _, rfl, ha, T.cl, T.nB, iF_b _ _ _ _, ?_⟩
      refine ⟨_, rfl, (by show 1 ≤ sizeLine; decide), fun p1 hp1 => ?_⟩
      have s1 : Same H (upd H p1 (.lst [V.int (d : Nat)])) := same_new hp1
      refine ⟨b, p1, _, _, rfl, rfl, s1 _ _ I.br, upd_same, ?_, fun p2 hp2 => ?_⟩
      · rw [nV_len]
        exact Nat.le_of_lt (Nat.lt_of_le_of_lt (show m.breaks.length + 1 ≤ 1001 by omega) (by decide))
      have s2 := Same.upd_new (o := .lst (nV m.breaks ++ [V.int (d : Nat)])) s1 hp2
      refine ⟨p2, zs (m.breaks ++ [d]), rfl, SqL.of (by rw [upd_same, ← nV_app_int]), fun ns' p3 hpm hst hp3 => ?_⟩
      obtain ⟨l', rfl, hl'⟩ := perm_zs hpm
      have el := sorted_insert wf.up c2 hl' (sorted_zs hst)
      subst el
      have s3 := Same.upd_new (o := .lst (nV (Km562.insertDay d m.breaks))) s2 hp3
      have h3 : H p3 = none := s2.free hp3
      have g3 : (upd (upd (upd H p1 (.lst [V.int (d : Nat)])) p2 (.lst (nV m.breaks ++ [V.int (d : Nat)]))) p3 (.lst (nV (Km562.insertDay d m.breaks)))) p3 = some (.lst (nV (Km562.insertDay d m.breaks))) := upd_same
      generalize upd (upd (upd H p1 (.lst [V.int (d : Nat)])) p2 (.lst (nV m.breaks ++ [V.int (d : Nat)]))) p3 (.lst (nV (Km562.insertDay d m.breaks))) = H3 at s3 g3
      refine ⟨_, rfl, a, C, dx, _, rfl, s3 _ _ ha, T.cl, T.nB, (by show 4 < 1000; decide), ?_⟩
      have k1 : Keep H (upd H3 a (.ins C dx (putF "breaks" (.ref p3) (iF g b m.tripCost m.maxThickness)))) a g b := Keep.after s3 keep_a
      have pa : p3 ≠ a := fun z => by rw [z, ha] at h3; cases h3
      have pg : p3 ≠ g := fun z => by rw [z, I.gr] at h3; cases h3
      have I1 : InstAt C (upd H3 a (.ins C dx (putF "breaks" (.ref p3) (iF g b m.tripCost m.maxThickness)))) a g p3 { m with breaks := Km562.insertDay d m.breaks } :=
        ⟨⟨dx, upd_same.trans (congrArg (fun q => some (HO.ins C dx q)) (iF_putb _ _ _ _ _))⟩, by rw [upd_ne (Ne.symm I.ag)]; exact s3 _ _ I.gr, by rw [upd_ne pa]; exact g3, Ne.symm pg⟩
      have old : ∀ p, (upd H3 a (.ins C dx (putF "breaks" (.ref p3) (iF g b m.tripCost m.maxThickness)))) p = none → H p = none := fun p hp => by
        have pn : p ≠ a := fun z => by rw [z, upd_same] at hp; cases hp
        rw [upd_ne pn] at hp
        exact s3.free hp
      generalize upd H3 a (.ins C dx (putF "breaks" (.ref p3) (iF g b m.tripCost m.maxThickness))) = H4 at I1 k1 old
      obtain ⟨dx4, ha4⟩ := I1.obj
      refine ⟨_, rfl, a, C, dx4, _, _, rfl, ha4, T.cl, T.nG, iF_g _ _ _ _, ?_⟩
      refine ⟨_, rfl, a, C, dx4, _, _, rfl, ha4, T.cl, T.nB, iF_b _ _ _ _, _, rfl, g, p3, m.growth, Km562.insertDay d m.breaks, d, rfl, SqL.of I1.gr, SqL.of I1.br, fun H5 s5 => ?_⟩
      refine ⟨(by show 1 ≤ sizeLine; decide), fun p hp => ?_⟩
      have k2 : Keep H H5 a g b := fun y u e h1 h2 h3 => s5 _ _ (k1 y u e h1 h2 h3)
      have z := Op.done (r := Km562.number (thick m.growth (firstDay (Km562.insertDay d m.breaks) d) d : Nat)) o
        (by rw [st_addBreak, if_neg (by omega), contains_dec, if_neg (by rw [decide_eq_false c2]; decide), firstDay_insert d _ wf.up, thicknessAt_eq m wf.up]) (I1.same s5) (.inr h3) k2 hp (old p (s5.free hp))
      exact z
/-! ### remove_break -/
theorem sc62 : FnScope ["instance", "day"] ["instance", "day"] (defScope (topS 62)) := ⟨rfl, rfl, rfl, by decide +kernel, rfl, by decide +kernel, by decide +kernel⟩
theorem h_remBreak (D : Df K mg "remove_break" (topS 62) ["instance", "day"]) (B : Bi mg) (T : ICl K mg C)
    (hE : ∀ {base : Heap}, CanRaise P w K mg base R "NoSuchBreak" (-2)) : Has P w K mg base (L2.CX P w) 9 "remove_break" ["instance", "day"] (spOp1 K R C .removeBreak) := by
  refine has_mk D fun f fd F => F.okX sc62 (fun vs H Q E h => ?_) (fun cdv A outer s H vs Q E hr h => ⟨_, pss_cons (ps_if (pt_cmpR op_notIn_seq (pv 1) (pe_fld (pv 0) rfl) rfl) (pss_one (ps_R hE (hr.mono (by decide)) (takes_of rfl rfl rfl rfl))) pss_nil)
    (pss_cons (ps_expr (pe_bm PySem.F.plainAttrs_list PySem.F.slot_list_remove PySem.F.type_list_remove mt_remove (pe_fld (pv 0) rfl) (pa_cons (pv 1) pa_nil)))
    (pss_one (ps_ret (pe_lst (pa_cons (pe_callB call_len (by rfl) B.len boot_len (pa_cons (pe_fld (pv 0) rfl) pa_nil)) pa_nil))))), ?_⟩)
  · obtain ⟨a, g, b, m, x, rfl, _⟩ := h
    rfl
  · obtain ⟨a, g, b, m, d, rfl, I, wf, o⟩ := h
    obtain ⟨dx, ha⟩ := I.obj
    refine ⟨_, rfl, _, rfl, a, C, dx, _, _, rfl, ha, T.cl, T.nB, iF_b _ _ _ _, b, _, rfl, .inl (SqL.of I.br), rfl, flat_V _, _, rfl, ?_⟩
    show if (!inV (.int (d : Int)) (nV m.breaks)) = true then _ else _
    rw [in_V]
    by_cases c2 : d ∈ m.breaks
    · rw [decide_eq_true c2]
      refine iteF ?_
      obtain ⟨j, hj, hn⟩ := place_of wf.up c2
      refine ⟨_, rfl, a, C, dx, _, _, rfl, ha, T.cl, T.nB, iF_b _ _ _ _, .inl ⟨rfl, _, SqL.of I.br⟩, _, rfl, b, zs m.breaks, _, j, rfl, rfl, I.br, (by rw [List.getElem?_map, hj]; rfl), (fun k hk e => ?_), ?_⟩
      · rw [List.getElem?_map] at e
        obtain ⟨z, e1, e2⟩ := Option.map_eq_some_iff.mp e
        have e3 : z = d := Int.ofNat.inj e2
        rw [e3] at e1
        exact hn k hk e1
      · have ee : (zs m.breaks).eraseIdx j = zs (m.breaks.filter fun b => b != d) := by
          rw [← erase_at m.breaks _ j wf.up hj, zs_erase]
        rw [ee]
        have I2 := I.setB (m.breaks.filter fun b => b != d)
        have k2 : Keep H (upd H b (.lst (nV (m.breaks.filter fun b => b != d)))) a g b := keep_b
        obtain ⟨dx2, ha2⟩ := I2.obj
        refine ⟨_, rfl, a, C, dx2, _, _, rfl, ha2, T.cl, T.nB, iF_b _ _ _ _, _, _, rfl, .inl ⟨_, SqL.of I2.br, rfl⟩, (by show 1 ≤ sizeLine; decide), fun p hp => ?_⟩
        rw [nV_len, filter_len wf.up c2]
        exact Op.done (r := Km562.number (m.breaks.length - 1 : Nat)) o (by rw [st_remBreak, contains_dec, if_neg (by rw [decide_eq_true c2]; decide)]) I2 (.inl rfl) k2 hp (new_back k2 I2 hp)
    · rw [decide_eq_false c2]
      refine iteT fun C' e T' he => ?_
      exact o.2 (-2) (by rw [st_remBreak, contains_dec, if_pos (decide_eq_false c2)]) C' e _ T' upd_same (same_new he)
/-! ### list_breaks, thickness_per_break -/
theorem sc63 : FnScope ["instance"] ["instance"] (defScope (topS 63)) := ⟨rfl, rfl, rfl, by decide +kernel, rfl, by decide +kernel, by decide +kernel⟩
theorem h_listBreaks (D : Df K mg "list_breaks" (topS 63) ["instance"]) (B : Bi mg) (T : ICl K mg C) : Has P w K mg base (L2.CX P w) 9 "list_breaks" ["instance"] (spOp0 K R C .listBreaks) := by
  refine has_mk D fun f fd F => F.okX sc63 (fun vs H Q E h => ?_) (fun cdv A outer s H vs Q E hr h => ⟨_, pss_one (ps_ret (pe_op op_cat (pe_lst (pa_cons (pe_callB call_len (by rfl) B.len boot_len (pa_cons (pe_fld (pv 0) rfl) pa_nil)) pa_nil)) (pe_fld (pv 0) rfl))), ?_⟩)
  · obtain ⟨a, g, b, m, rfl, _⟩ := h
    rfl
  · obtain ⟨a, g, b, m, rfl, I, wf, o⟩ := h
    obtain ⟨dx, ha⟩ := I.obj
    have h1 := wf.few
    have h2 := wf.len
    refine ⟨_, rfl, a, C, dx, _, _, rfl, ha, T.cl, T.nB, iF_b _ _ _ _, _, _, rfl, .inl ⟨_, SqL.of I.br, rfl⟩, (by show 1 ≤ sizeLine; decide), fun q hq => ?_⟩
    rw [nV_len]
    have s1 : Same H (upd H q (.lst [V.int (m.breaks.length : Nat)])) := same_new hq
    refine ⟨_, rfl, a, C, dx, _, _, rfl, s1 _ _ ha, T.cl, T.nB, iF_b _ _ _ _, q, b, _, _, rfl, rfl, upd_same, s1 _ _ I.br, ?_, fun p hp => ?_⟩
    · rw [nV_len]
      exact Nat.le_of_lt (small1000 (by show 1 + _ ≤ 1000; omega))
    · have z := o.tell (st_breaks m) I s1 hp
      rw [ans_list] at z
      exact z
theorem sc64 : FnScope ["instance"] ["instance"] (defScope (topS 64)) := ⟨rfl, rfl, rfl, by decide +kernel, rfl, by decide +kernel, by decide +kernel⟩
theorem h_perBreak (D : Df K mg "thickness_per_break" (topS 64) ["instance"]) (B : Bi mg) (T : ICl K mg C)
    (hR : ∀ {base : Heap}, Has P w K mg base CX0 3 "removed_thicknesses" ["growths", "breaks"] (spRemoved K)) : Has P w K mg base (L2.CX P w) 9 "thickness_per_break" ["instance"] (spOp0 K R C .thicknessPerBreak) := by
  refine has_mk D fun f fd F => F.okX sc64 (fun vs H Q E h => ?_) (fun cdv A outer s H vs Q E hr h => ⟨_, pss_one (ps_ret (pe_op op_cat (pe_lst (pa_cons (pe_callB call_len (by rfl) B.len boot_len (pa_cons (pe_fld (pv 0) rfl) pa_nil)) pa_nil))
    (pe_H hR (hr.mono (by decide)) pass0 (pa_cons (pe_fld (pv 0) rfl) (pa_cons (pe_fld (pv 0) rfl) pa_nil))))), ?_⟩)
  · obtain ⟨a, g, b, m, rfl, _⟩ := h
    rfl
  · obtain ⟨a, g, b, m, rfl, I, wf, o⟩ := h
    obtain ⟨dx, ha⟩ := I.obj
    have h1 := wf.few
    have h2 := wf.len
    refine ⟨_, rfl, a, C, dx, _, _, rfl, ha, T.cl, T.nB, iF_b _ _ _ _, _, _, rfl, .inl ⟨_, SqL.of I.br, rfl⟩, (by show 1 ≤ sizeLine; decide), fun q hq => ?_⟩
    rw [nV_len]
    have s1 : Same H (upd H q (.lst [V.int (m.breaks.length : Nat)])) := same_new hq
    refine ⟨_, rfl, a, C, dx, _, _, rfl, s1 _ _ ha, T.cl, T.nG, iF_g _ _ _ _, ?_⟩
    refine ⟨_, rfl, a, C, dx, _, _, rfl, s1 _ _ ha, T.cl, T.nB, iF_b _ _ _ _, g, b, m.growth, m.breaks, rfl, s1.seq (SqL.of I.gr), s1.seq (SqL.of I.br), wf.few1000, fun H2 p2 s2 hp2 hl2 => ?_⟩
    refine ⟨q, p2, _, _, rfl, rfl, s2 _ _ upd_same, hl2, ?_, fun p hp => ?_⟩
    · rw [nV_len, removed_len]
      exact Nat.le_of_lt (small1000 (by show 1 + _ ≤ 1000; omega))
    · have z := o.tell (st_perBreak m) I (s1.trans s2) hp
      rw [ans_list, thicknesses_eq m wf.up, removed_len] at z
      exact z
/-! ### is_valid_schedule -/
theorem valid_B {m : Sch} (wf : WF m) : validB m.growth m.breaks m.maxThickness = Km562.isValid m m.breaks := by
  rw [Bool.eq_iff_iff, valid_iff wf]
  unfold validB
  by_cases c : m.growth.length = 0
  · rw [if_pos c]
    have hb : m.breaks = [] := List.eq_nil_iff_forall_not_mem.mpr fun b hb => by
      have := wf.lt b hb
      omega
    rw [hb]; simp [c]
  · rw [if_neg c]
    by_cases c2 : m.growth.length - 1 ∈ m.breaks
    · rw [if_pos c2, decide_eq_true_iff]
      exact ⟨fun h => .inr ⟨c2, h⟩, fun h => h.elim (fun z => absurd z c) fun z => z.2⟩
    · rw [if_neg c2]
      exact ⟨fun h => (by cases h), fun h => h.elim (fun z => absurd z c) fun z => absurd z.1 c2⟩
theorem sc65 : FnScope ["instance"] ["instance"] (defScope (topS 65)) := ⟨rfl, rfl, rfl, by decide +kernel, rfl, by decide +kernel, by decide +kernel⟩
theorem h_isValid (D : Df K mg "is_valid_schedule" (topS 65) ["instance"]) (T : ICl K mg C)
    (hV : ∀ {base : Heap}, Has P w K mg base CX0 4 "is_valid_list" ["growths", "breaks", "max_thickness"] (spValid K)) : Has P w K mg base (L2.CX P w) 9 "is_valid_schedule" ["instance"] (spOp0 K R C .isValidSchedule) := by
  refine has_mk D fun f fd F => F.okX sc65 (fun vs H Q E h => ?_) (fun cdv A outer s H vs Q E hr h => ⟨_, pss_cons (ps_if (pt_val (pe_H hV (hr.mono (by decide)) pass0 (pa_cons (pe_fld (pv 0) rfl) (pa_cons (pe_fld (pv 0) rfl) (pa_cons (pe_fld (pv 0) rfl) pa_nil)))))
    (pss_one (ps_ret (pe_lst (pa_cons pe_int pa_nil)))) pss_nil) (pss_one (ps_ret (pe_lst (pa_cons pe_int pa_nil)))), ?_⟩)
  · obtain ⟨a, g, b, m, rfl, _⟩ := h
    rfl
  · obtain ⟨a, g, b, m, rfl, I, wf, o⟩ := h
    obtain ⟨dx, ha⟩ := I.obj
    refine ⟨_, rfl, a, C, dx, _, _, rfl, ha, T.cl, T.nG, iF_g _ _ _ _, ?_⟩
    refine ⟨_, rfl, a, C, dx, _, _, rfl, ha, T.cl, T.nB, iF_b _ _ _ _, ?_⟩
    refine ⟨_, rfl, a, C, dx, _, _, rfl, ha, T.cl, T.nM, iF_m _ _ _ _, g, b, m.growth, m.breaks, m.maxThickness, rfl, SqL.of I.gr, SqL.of I.br, wf.few1000, fun H1 s1 => ⟨_, rfl, ?_⟩⟩
    rw [valid_B wf]
    cases e : Km562.isValid m m.breaks with
    | true =>
      refine iteT ⟨(by show 1 ≤ sizeLine; decide), fun p hp => ?_⟩
      exact o.tell (r := Km562.number 1) (by rw [st_valid, e]; rfl) I s1 hp
    | false =>
      refine iteF ⟨(by show 1 ≤ sizeLine; decide), fun p hp => ?_⟩
      exact o.tell (r := Km562.number 0) (by rw [st_valid, e]; rfl) I s1 hp
/-! ### schedule_cost, thickness_at -/
theorem sc66 : FnScope ["instance", "effort"] ["instance"] (defScope (topS 66)) := ⟨rfl, rfl, rfl, by decide +kernel, rfl, by decide +kernel, by decide +kernel⟩
theorem h_cost (D : Df K mg "schedule_cost" (topS 66) ["instance"]) (B : Bi mg) (T : ICl K mg C)
    (hL : ∀ {base : Heap}, Has P w K mg base CX0 4 "effort_of_list" ["growths", "breaks"] (spEffL K)) : Has P w K mg base (L2.CX P w) 9 "schedule_cost" ["instance"] (spOp0 K R C .scheduleCost) := by
  refine has_mk D fun f fd F => F.okX sc66 (fun vs H Q E h => ?_) (fun cdv A outer s H vs Q E hr h => ⟨_, pss_cons (ps_set (i := 1) sc66.nd rfl (Or.inl rfl) (pe_H hL (hr.mono (by decide)) pass0 (pa_cons (pe_fld (pv 0) rfl) (pa_cons (pe_fld (pv 0) rfl) pa_nil))))
    (pss_one (ps_ret (pe_lst (pa_cons (pv 1) (pa_cons (pe_op op_add (pv 1) (pe_op op_mul (pe_fld (pv 0) rfl) (pe_callB call_len (by rfl) B.len boot_len (pa_cons (pe_fld (pv 0) rfl) pa_nil)))) pa_nil))))), ?_⟩)
  · obtain ⟨a, g, b, m, rfl, _⟩ := h
    rfl
  · obtain ⟨a, g, b, m, rfl, I, wf, o⟩ := h
    obtain ⟨dx, ha⟩ := I.obj
    have ht := wf.trip
    refine ⟨_, rfl, a, C, dx, _, _, rfl, ha, T.cl, T.nG, iF_g _ _ _ _, ?_⟩
    refine ⟨_, rfl, a, C, dx, _, _, rfl, ha, T.cl, T.nB, iF_b _ _ _ _, g, b, m.growth, m.breaks, rfl, SqL.of I.gr, SqL.of I.br, wf.few1000, (fun i j => thick_le wf.len wf.le), fun H1 s1 => ?_⟩
    refine ⟨_, rfl, _, rfl, _, rfl, a, C, dx, _, _, rfl, s1 _ _ ha, T.cl, T.nT, iF_t _ _ _ _, ?_⟩
    refine ⟨_, rfl, a, C, dx, _, _, rfl, s1 _ _ ha, T.cl, T.nB, iF_b _ _ _ _, _, _, rfl, .inl ⟨_, SqL.of (s1 _ _ I.br), rfl⟩, _, _, rfl, rfl, .inl ⟨by omega, by omega⟩, _, _, rfl, rfl, (by show 2 ≤ sizeLine; decide), fun p hp => ?_⟩
    have z := o.tell (r := ⟨(effortOf m.growth m.breaks : Int), [((effortOf m.growth m.breaks + m.tripCost * m.breaks.length : Nat) : Int)]⟩) (by rw [st_cost, totalEffort_eq m wf.up]) I s1 hp
    have e : (effortOf m.growth m.breaks : Int) + (m.tripCost : Int) * ((nV m.breaks).length : Nat) = ((effortOf m.growth m.breaks + m.tripCost * m.breaks.length : Nat) : Int) := by
      rw [nV_len, Int.natCast_add, Int.natCast_mul]
    show Q (.ref p) (upd H1 p (.lst [V.int (effortOf m.growth m.breaks : Nat), V.int ((effortOf m.growth m.breaks : Int) + (m.tripCost : Int) * ((nV m.breaks).length : Nat))]))
    rw [e]
    exact z
theorem sc67 : FnScope ["instance", "day"] ["instance", "day"] (defScope (topS 67)) := ⟨rfl, rfl, rfl, by decide +kernel, rfl, by decide +kernel, by decide +kernel⟩
theorem h_at (D : Df K mg "thickness_at" (topS 67) ["instance", "day"]) (T : ICl K mg C) (hD : ∀ {base : Heap}, Has P w K mg base (L2.CX P w) 4 "check_day" ["instance", "day"] (spCheckDay K R C))
    (hB : ∀ {base : Heap}, Has P w K mg base CX0 2 "thickness_before_break" ["growths", "breaks", "day"] (spBefore K)) : Has P w K mg base (L2.CX P w) 9 "thickness_at" ["instance", "day"] (spOp1 K R C .thicknessAt) := by
  refine has_mk D fun f fd F => F.okX sc67 (fun vs H Q E h => ?_) (fun cdv A outer s H vs Q E hr h => ⟨_, pss_cons (ps_expr (pe_H hD (hr.mono (by decide)) (passC (takes_of rfl rfl rfl rfl)) (pa_cons (pv 0) (pa_cons (pv 1) pa_nil))))
    (pss_one (ps_ret (pe_lst (pa_cons (pe_H hB (hr.mono (by decide)) pass0 (pa_cons (pe_fld (pv 0) rfl) (pa_cons (pe_fld (pv 0) rfl) (pa_cons (pv 1) pa_nil)))) pa_nil)))), ?_⟩)
  · obtain ⟨a, g, b, m, x, rfl, _⟩ := h
    rfl
  · obtain ⟨a, g, b, m, d, rfl, I, wf, o⟩ := h
    obtain ⟨dx, ha⟩ := I.obj
    refine ⟨_, rfl, _, rfl, a, g, b, m, d, rfl, I, fun c1 => ?_, fun c1 => o.2 (-2) (by rw [st_at, if_pos c1])⟩
    refine ⟨_, rfl, a, C, dx, _, _, rfl, ha, T.cl, T.nG, iF_g _ _ _ _, ?_⟩
    refine ⟨_, rfl, a, C, dx, _, _, rfl, ha, T.cl, T.nB, iF_b _ _ _ _, _, rfl, g, b, m.growth, m.breaks, d, rfl, SqL.of I.gr, SqL.of I.br, fun H1 s1 => ?_⟩
    refine ⟨(by show 1 ≤ sizeLine; decide), fun p hp => ?_⟩
    exact o.tell (r := Km562.number (thick m.growth (firstDay m.breaks d) d : Nat)) (by rw [st_at, if_neg (by omega), thicknessAt_eq m wf.up]) I s1 hp
end
end Ice

namespace Ice
open PySem PySem.Spec PyProof.Rows L2 IceX
section
variable {P : Program} {w : World} {K : PySem.W.Frag} {mg : Str → Option Value} {base : Heap} {R C : Addr} {CP : Addr}
/-! ### plans -/
def pF (e : Nat) (l : Addr) : List (Str × V) := [("effort", .int e), ("breaks", .ref l)]
theorem pF_e (e : Nat) (l : Addr) : (pF e l).lookup ("effort" : Str) = some (.int e) := lk_here
theorem pF_b (e : Nat) (l : Addr) : (pF e l).lookup ("breaks" : Str) = some (.ref l) := (lk_past (by decide +kernel)).trans lk_here
theorem pF_new (e : Nat) (l : Addr) : putF "breaks" (.ref l) (putF "effort" (.int (e : Nat)) []) = pF e l := (put_past (by decide +kernel)).trans rfl
structure PCl (K : PySem.W.Frag) (mg : Str → Option Value) (CP : Addr) : Prop where
  cl : Cls K CP
  nE : NoAttr K CP "effort"
  nB : NoAttr K CP "breaks"
  gP : mg "Plan" = some (.ref CP)
  made : ∃ f fd, Mk K CP f ∧ Fun K "__init__" "Plan.__init__" (inClass (topS 39) 0) f fd ∧ Binds K fd ["self", "effort", "breaks"] []
/-- v stands for a plan, or for none; x: what its list's address keeps -/
def PlanAt (CP : Addr) (x : Addr → Prop) (H : Hp) (v : V) : Option Pl → Prop
  | none => v = .non
  | some p => ∃ a dx l, v = .ref a ∧ x l ∧ H a = some (.ins CP dx (pF p.1 l)) ∧ H l = some (.lst (nV p.2))
theorem PlanAt.same {x : Addr → Prop} {H H' : Hp} {v : V} : ∀ {o : Option Pl}, PlanAt CP x H v o → Same H H' → PlanAt CP x H' v o
  | none, h, _ => h
  | some _, ⟨a, dx, l, e, hx, h1, h2⟩, s => ⟨a, dx, l, e, hx, s _ _ h1, s _ _ h2⟩
theorem PlanAt.imp {x y : Addr → Prop} {H : Hp} {v : V} (f : ∀ l, x l → y l) : ∀ {o : Option Pl}, PlanAt CP x H v o → PlanAt CP y H v o
  | none, h => h
  | some _, ⟨a, dx, l, e, hx, h1, h2⟩ => ⟨a, dx, l, e, f l hx, h1, h2⟩
theorem PlanAt.app {x : Addr → Prop} {H : Hp} {p : Addr} {xs ys : List V} (hp : H p = some (.lst xs)) {v : V} (f : ∀ l, x l → l ≠ p) : ∀ {o : Option Pl}, PlanAt CP x H v o → PlanAt CP x (upd H p (.lst ys)) v o
  | none, h => h
  | some _, ⟨a, dx, l, e, hx, h1, h2⟩ => ⟨a, dx, l, e, hx, by rw [upd_ne (ne_of h1 hp (by intro z; cases z))]; exact h1, by rw [upd_ne (f l hx)]; exact h2⟩
structure PlanL (CP : Addr) (x : Addr → Prop) (H : Hp) (vs : List V) (os : List (Option Pl)) : Prop where
  len : vs.length = os.length
  at_ : ∀ (i : Nat) o, os[i]? = some o → ∃ v, vs[i]? = some v ∧ PlanAt CP x H v o
theorem PlanL.same {x : Addr → Prop} {H H' : Hp} {vs : List V} {os : List (Option Pl)} (h : PlanL CP x H vs os) (s : Same H H') : PlanL CP x H' vs os :=
  ⟨h.len, fun i o e => let ⟨v, e1, e2⟩ := h.at_ i o e; ⟨v, e1, e2.same s⟩⟩
theorem PlanL.imp {x y : Addr → Prop} {H : Hp} {vs : List V} {os : List (Option Pl)} (h : PlanL CP x H vs os) (f : ∀ l, x l → y l) : PlanL CP y H vs os :=
  ⟨h.len, fun i o e => let ⟨v, e1, e2⟩ := h.at_ i o e; ⟨v, e1, e2.imp f⟩⟩
theorem PlanL.app {x : Addr → Prop} {H : Hp} {p : Addr} {xs ys : List V} (hp : H p = some (.lst xs)) {vs : List V} {os : List (Option Pl)} (h : PlanL CP x H vs os) (f : ∀ l, x l → l ≠ p) : PlanL CP x (upd H p (.lst ys)) vs os :=
  ⟨h.len, fun i o e => let ⟨v, e1, e2⟩ := h.at_ i o e; ⟨v, e1, e2.app hp f⟩⟩
theorem PlanL.snoc {x : Addr → Prop} {H : Hp} {vs : List V} {os : List (Option Pl)} (h : PlanL CP x H vs os) {v : V} {o : Option Pl} (hv : PlanAt CP x H v o) : PlanL CP x H (vs ++ [v]) (os ++ [o]) := by
  refine ⟨by rw [List.length_append, List.length_append, h.len]; rfl, fun i o' e => ?_⟩
  rcases Nat.lt_trichotomy i os.length with c | c | c
  · rw [List.getElem?_append_left c] at e
    obtain ⟨v', e1, e2⟩ := h.at_ i o' e
    exact ⟨v', by rw [List.getElem?_append_left (by rw [h.len]; exact c)]; exact e1, e2⟩
  · rw [c, List.getElem?_concat_length] at e
    cases e
    exact ⟨v, by rw [c, ← h.len, List.getElem?_concat_length], hv⟩
  · rw [List.getElem?_eq_none (by rw [List.length_append, List.length_singleton]; omega)] at e
    cases e
theorem PlanL.nil {x : Addr → Prop} {H : Hp} : PlanL CP x H [] [] := ⟨rfl, fun i o e => by simp at e⟩
/-! ### Plan -/
def spPlan (CP : Addr) : Sp := fun vs H Q _ => ∃ (p dx l : Addr) (e : Nat), vs = [.ref p, .int e, .ref l] ∧ H p = some (.ins CP dx []) ∧
  ∀ H', H' p = some (.ins CP dx (pF e l)) → (∀ y o, H y = some o → y ≠ p → H' y = some o) → Q .non H'
theorem sc39 : FnScope ["self", "effort", "breaks"] ["self", "effort", "breaks"] (defScope (inClass (topS 39) 0)) := ⟨rfl, rfl, rfl, by decide +kernel, rfl, by decide +kernel, by decide +kernel⟩
theorem ok_plan {f : Addr} {fd : FuncData} (F : Fun K "__init__" "Plan.__init__" (inClass (topS 39) 0) f fd) (T : PCl K mg CP) : FnOk P w K mg base CX0 1 f fd ["self", "effort", "breaks"] (spPlan CP) := by
  refine F.ok sc39 (fun vs H Q E h => ?_) (fun cdv A outer s H vs Q E hr h => ⟨_, pss_cons (ps_fld (pv 0) (pv 1) rfl) (pss_one (ps_fld (pv 0) (pv 2) rfl)), ?_⟩)
  · obtain ⟨p, dx, l, e, rfl, _⟩ := h
    rfl
  · obtain ⟨p, dx, l, e, rfl, hp, k⟩ := h
    refine ⟨_, rfl, _, rfl, p, CP, dx, [], rfl, hp, T.cl, T.nE, (by show 0 < 1000; decide), ?_⟩
    refine ⟨_, rfl, _, rfl, p, CP, dx, _, rfl, upd_same, T.cl, T.nB, (by show 1 < 1000; decide), ?_⟩
    exact k _ (upd_same.trans (congrArg (fun q => some (HO.ins CP dx q)) (pF_new e l))) fun y o h1 h2 => by
      rw [upd_ne h2, upd_ne h2]
      exact h1
/-- Plan(e, l): what is new -/
theorem made_plan {H : Hp} {x dx l : Addr} {e : Nat} {z : Int} {bs : List Nat} {Q : VK} (hz : z = (e : Nat)) (nx : H x = none) (nd : H dx = none) (hl : H l = some (.lst (nV bs)))
    (k : ∀ H', Same H H' → H' x = some (.ins CP dx (pF e l)) → Q (.ref x) H') :
    spPlan CP [.ref x, .int z, .ref l] (upd (upd H dx (.own x)) x (.ins CP dx [])) (fun v H2 => v = .non ∧ Q (.ref x) H2) E0 := by
  subst hz
  refine ⟨x, dx, l, e, rfl, upd_same, fun H' h1 h2 => ⟨rfl, k H' (Same.made nx nd h2) h1⟩⟩
/-! ### best_plan_from -/
def spBest (K : PySem.W.Frag) (CP : Addr) : Sp := fun vs H Q _ => ∃ (a L : Addr) (g : List Nat) (m f : Nat) (ls : List V) (later : Nat → Option Pl) (x : Addr → Prop), vs = [.ref a, .int m, .int f, .ref L] ∧ SqL K H a (nV g) ∧ SqL K H L ls ∧
  f ≤ g.length ∧ g.length ≤ 10 ∧ (∀ i j, thick g i j ≤ 300) ∧ (∀ j, j ≤ g.length → ∃ v, ls[j]? = some v ∧ PlanAt CP x H v (later j)) ∧ (∀ j q, later j = some q → q.2.length ≤ 100) ∧
  ∀ v H', Same H H' → PlanAt CP (fun l => H l = none) H' v (bestFrom g m f later) → Q v H'
theorem sc40 : FnScope ["growths", "max_thickness", "first_day", "later_plans", "best", "day", "thickness", "later", "effort"] ["growths", "max_thickness", "first_day", "later_plans"] (defScope (topS 40)) :=
  ⟨rfl, rfl, rfl, by decide +kernel, rfl, by decide +kernel, by decide +kernel⟩
theorem days_len (f n : Nat) : (days f n).length = n - f := by unfold days; simp
theorem days_get {f n i : Nat} (h : i < n - f) : (days f n)[i]? = some (f + i) := by
  unfold days
  rw [List.getElem?_map, List.getElem?_range h]; rfl
theorem h_best (D : Df K mg "best_plan_from" (topS 40) ["growths", "max_thickness", "first_day", "later_plans"]) (B : Bi mg) (T : PCl K mg CP)
    (hT : ∀ {base : Heap}, Has P w K mg base CX0 1 "thickness_of" ["growths", "first_day", "last_day"] (spThick K)) (hF : ∀ {base : Heap}, Has P w K mg base CX0 1 "effort_of" ["thickness"] spEff) :
    Has P w K mg base CX0 5 "best_plan_from" ["growths", "max_thickness", "first_day", "later_plans"] (spBest K CP) := by
  obtain ⟨fP, fdP, mkP, FP, bP⟩ := T.made
  have GP : ∀ {base : Heap}, FnOk P w K mg base CX0 1 fP fdP ["self", "effort", "breaks"] (spPlan CP) := ok_plan FP T
  refine has_mk D fun f fd F => F.ok sc40 (fun vs H Q E h => ?_) (fun cdv A outer s H vs Q E hr h => ⟨_, pss_cons (ps_set (i := 4) sc40.nd rfl (Or.inl rfl) pe_non)
    (pss_cons (ps_for PassesOwn.never rfl (pi_range2 rfl B.range (pa_cons (pv 2) (pa_cons (pe_callB call_len (by rfl) B.len boot_len (pa_cons (pv 0) pa_nil)) pa_nil))) (pg_name (i := 5) sc40.nd rfl (Or.inl rfl))
      (pss_cons (ps_set (i := 6) sc40.nd rfl (Or.inl rfl) (pe_H hT (hr.mono (by decide)) pass0 (pa_cons (pv 0) (pa_cons (pv 2) (pa_cons (pv 5) pa_nil)))))
      (pss_cons (ps_set (i := 7) sc40.nd rfl (Or.inl rfl) (pe_ix ix_list (pv 3) (pe_op op_add (pv 5) pe_int) (fun _ _ => rfl)))
      (pss_one (ps_if (pw_and (pt_cmpR op_le (pv 6) (pv 1) (nomark _)) (pw_and1 (pt_cmp (pc_notN (pv 7))))).pt
        (pss_cons (ps_set (i := 8) sc40.nd rfl (Or.inl rfl) (pe_op op_add (pe_H hF (hr.mono (by decide)) pass0 (pa_cons (pv 6) pa_nil)) (pe_fld (pv 7) rfl)))
        (pss_one (ps_if (pw_or (pt_cmp (pc_isN (pv 4))) (pw_or1 (pt_cmpR op_lt (pv 8) (pe_fld (pv 4) rfl) (nomark _)))).pt
          (pss_one (ps_set (i := 4) sc40.nd rfl (Or.inl rfl) (pe_make mkP GP (hr.mono (by decide)) rfl T.gP bP .nil pass0 (pa_cons (pv 8) (pa_cons (pe_op op_cat (pe_lst (pa_cons (pv 5) pa_nil)) (pe_fld (pv 7) rfl)) pa_nil)))))
          pss_nil))) pss_nil)))))
    (pss_one (ps_ret (pv 4)))), ?_⟩)
  · obtain ⟨a, L, g, m, f, ls, later, x, rfl, _⟩ := h
    rfl
  · obtain ⟨a, L, g, m, f, ls, later, x, rfl, hg, hL, hf, hn, ht, hls, hq, k⟩ := h
    refine ⟨_, rfl, _, rfl, _, _, rfl, .inl ⟨_, hg, rfl⟩, ?_⟩
    rw [nV_len]
    refine ⟨_, _, rfl, ⟨by omega, by omega, by omega, by omega⟩, ?_⟩
    have en : ((g.length : Int) - (f : Int)).toNat = g.length - f := by omega
    rw [en]
    refine for_range (lo := (f : Int)) (n := g.length - f) (fun i σ H' => ∃ (v : V) (s5 s6 s7 s8 : Option V), σ = [some (.ref a), some (.int m), some (.int f), some (.ref L), some v, s5, s6, s7, s8] ∧ Same H H' ∧
      PlanAt CP (fun l => H l = none) H' v (((days f g.length).take i).foldl (better g m f later) none)) ⟨.non, none, none, none, none, rfl, Same.refl H, rfl⟩ ?_ ?_
    · rintro i σ H' hi ⟨v, s5, s6, s7, s8, rfl, s1, hv⟩
      have ed : (f : Int) + (i : Int) = ((f + i : Nat) : Int) := by omega
      rw [ed]
      have et := take_more (days_get hi)
      have step : ((days f g.length).take (i + 1)).foldl (better g m f later) none = better g m f later (((days f g.length).take i).foldl (better g m f later) none) (f + i) := by
        rw [et, List.foldl_append]; rfl
      generalize ((days f g.length).take i).foldl (better g m f later) none = bst at hv step
      rw [step]
      refine ⟨_, rfl, _, rfl, _, rfl, a, g, f, f + i, rfl, s1.seq hg, fun H1 s2 => ?_⟩
      have s12 := s1.trans s2
      have hv1 := hv.same s2
      obtain ⟨vl, el, hl⟩ := hls (f + i + 1) (by omega)
      have ed2 : ((f + i : Nat) : Int) + 1 = ((f + i + 1 : Nat) : Int) := by omega
      refine ⟨_, rfl, _, rfl, _, _, rfl, rfl, L, ls, _, vl, rfl, rfl, s12.seq hL, (by show atI ls (((f + i : Nat) : Int) + 1) = some vl; rw [ed2]; exact atI_nat el), ?_⟩
      have hl1 := hl.same s12
      refine ⟨_, rfl, _, rfl, _, _, rfl, rfl, _, rfl, ?_⟩
      by_cases c1 : thick g f (f + i) ≤ m
      · refine if_true_of (decide_eq_true (by omega)) ?_
        refine ⟨_, rfl, _, rfl, ?_⟩
        cases eo : later (f + i + 1) with
        | none =>
          rw [eo] at hl1
          have e0 : vl = .non := hl1
          refine if_false_of (by rw [e0]; rfl) ?_
          have hb : better g m f later bst (f + i) = bst := by unfold better; rw [if_pos c1, eo]
          exact ⟨v, _, _, _, _, rfl, s12, by rw [hb]; exact hv1⟩
        | some q =>
          rw [eo] at hl1
          obtain ⟨la, ldx, ll, e1, _, h1, h2⟩ := hl1
          subst e1
          refine if_true_of (by rfl) ?_
          have t3 := ht f (f + i)
          refine ⟨_, rfl, _, rfl, (by omega), ?_⟩
          refine ⟨_, rfl, la, CP, ldx, _, _, rfl, h1, T.cl, T.nE, pF_e _ _, _, _, rfl, rfl, ?_⟩
          generalize hsq : thick g f (f + i) * thick g f (f + i) = sq
          have room : [V.int ((f + i : Nat) : Int)].length + (nV q.2).length ≤ sizeLine := by
            rw [nV_len]
            have := hq _ _ eo
            exact Nat.le_of_lt (small1000 (by show 1 + _ ≤ 1000; omega))
          have made : ∀ p1, H1 p1 = none → ∀ p2, (upd H1 p1 (.lst [V.int ((f + i : Nat) : Int)])) p2 = none → ∀ x' dx' H', (upd (upd H1 p1 (.lst [V.int ((f + i : Nat) : Int)])) p2 (.lst ([V.int ((f + i : Nat) : Int)] ++ nV q.2))) x' = none →
              (upd (upd H1 p1 (.lst [V.int ((f + i : Nat) : Int)])) p2 (.lst ([V.int ((f + i : Nat) : Int)] ++ nV q.2))) dx' = none →
              (∀ y o, (upd (upd (upd (upd H1 p1 (.lst [V.int ((f + i : Nat) : Int)])) p2 (.lst ([V.int ((f + i : Nat) : Int)] ++ nV q.2))) dx' (.own x')) x' (.ins CP dx' [])) y = some o → y ≠ x' → H' y = some o) →
              H' x' = some (.ins CP dx' (pF (sq + q.1) p2)) → Same H H' ∧ PlanAt CP (fun l => H l = none) H' (.ref x') (some (sq + q.1, (f + i) :: q.2)) := by
            intro p1 hp1 p2 hp2 x' dx' H' nx nd s3 h3
            have sA := Same.upd_new (o := .lst [V.int ((f + i : Nat) : Int)]) s12 hp1
            have sB := Same.upd_new (o := .lst ([V.int ((f + i : Nat) : Int)] ++ nV q.2)) sA hp2
            have s4 := Same.made nx nd s3
            exact ⟨sB.trans s4, x', dx', p2, rfl, sA.free hp2, h3, s4 _ _ upd_same⟩
          have args : ∀ x' p2 : Addr, [V.ref x', V.int ((sq : Int) + (q.1 : Int)), V.ref p2] = [V.ref x', V.int ((sq + q.1 : Nat) : Int), V.ref p2] := fun x' p2 => by rw [Int.natCast_add]
          refine ⟨_, rfl, _, rfl, ?_⟩
          cases bst with
          | none =>
            have e0 : v = .non := hv1
            subst e0
            have hb : better g m f later none (f + i) = some (sq + q.1, (f + i) :: q.2) := by unfold better; rw [if_pos c1, eo, hsq]
            refine if_true_of (by rfl) ?_
            refine ⟨_, rfl, _, rfl, (by show 1 ≤ sizeLine; decide), fun p1 hp1 => ?_⟩
            refine ⟨_, rfl, la, CP, ldx, _, _, rfl, (by rw [upd_ne (ne_of_none h1 hp1)]; exact h1), T.cl, T.nB, pF_b _ _, p1, ll, _, _, rfl, rfl, upd_same, (by rw [upd_ne (ne_of_none h2 hp1)]; exact h2), room, fun p2 hp2 => ?_⟩
            intro x' dx' nx nd _
            refine ⟨x', dx', p2, sq + q.1, args x' p2, upd_same, fun H' h3 s3 => ⟨rfl, ?_⟩⟩
            obtain ⟨z1, z2⟩ := made p1 hp1 p2 hp2 x' dx' H' nx nd s3 h3
            exact ⟨_, _, _, _, _, rfl, z1, by rw [hb]; exact z2⟩
          | some o =>
            obtain ⟨oa, odx, ol, e1, hx1, h3, h4⟩ := hv1
            subst e1
            refine if_false_of (by rfl) ?_
            refine ⟨_, rfl, _, rfl, oa, CP, odx, _, _, rfl, h3, T.cl, T.nE, pF_e _ _, _, _, rfl, rfl, _, rfl, ?_⟩
            by_cases c2 : sq + q.1 < o.1
            · have hb : better g m f later (some o) (f + i) = some (sq + q.1, (f + i) :: q.2) := by unfold better; rw [if_pos c1, eo, hsq]; exact if_pos c2
              refine if_true_of (decide_eq_true (by omega)) ?_
              refine ⟨_, rfl, _, rfl, (by show 1 ≤ sizeLine; decide), fun p1 hp1 => ?_⟩
              refine ⟨_, rfl, la, CP, ldx, _, _, rfl, (by rw [upd_ne (ne_of_none h1 hp1)]; exact h1), T.cl, T.nB, pF_b _ _, p1, ll, _, _, rfl, rfl, upd_same, (by rw [upd_ne (ne_of_none h2 hp1)]; exact h2), room, fun p2 hp2 => ?_⟩
              intro x' dx' nx nd _
              refine ⟨x', dx', p2, sq + q.1, args x' p2, upd_same, fun H' h5 s3 => ⟨rfl, ?_⟩⟩
              obtain ⟨z1, z2⟩ := made p1 hp1 p2 hp2 x' dx' H' nx nd s3 h5
              exact ⟨_, _, _, _, _, rfl, z1, by rw [hb]; exact z2⟩
            · have hb : better g m f later (some o) (f + i) = some o := by unfold better; rw [if_pos c1, eo, hsq]; exact if_neg c2
              refine if_false_of (decide_eq_false (by omega)) ?_
              exact ⟨_, _, _, _, _, rfl, s12, by rw [hb]; exact ⟨oa, odx, ol, rfl, hx1, h3, h4⟩⟩
      · refine if_false_of (decide_eq_false (by omega)) ?_
        refine if_false_of rfl ?_
        have hb : better g m f later bst (f + i) = bst := by unfold better; rw [if_neg c1]
        exact ⟨v, _, _, _, _, rfl, s12, by rw [hb]; exact hv1⟩
    · rintro σ H' ⟨v, s5, s6, s7, s8, rfl, s1, hv⟩
      rw [← days_len, List.take_length] at hv
      exact ⟨_, rfl, k v H' s1 hv⟩
end
end Ice

namespace Ice
open PySem PySem.Spec PyProof.Rows L2 IceX
section
variable {P : Program} {w : World} {K : PySem.W.Frag} {mg : Str → Option Value} {base : Heap} {R C : Addr} {CP : Addr}
theorem opt_len {s : Sch} (hn : s.growth.length ≤ 10) {k f : Nat} {p : Pl} (h : Km562.optimalFrom s k f = some p) : p.2.length ≤ 100 := by
  have h1 := opt_few s h
  have h2 := (opt_form s k f p h).1
  omega
/-! ### with_one_break_more -/
def spMore (K : PySem.W.Frag) (CP : Addr) : Sp := fun vs H Q _ => ∃ (a L : Addr) (s : Sch) (k : Nat) (ls : List V) (x : Addr → Prop), vs = [.ref a, .int s.maxThickness, .ref L] ∧ SqL K H a (nV s.growth) ∧ SqL K H L ls ∧
  s.growth.length ≤ 10 ∧ (∀ i j, thick s.growth i j ≤ 300) ∧ PlanL CP x H ls (row s k) ∧
  ∀ p vs' H', Same H H' → H p = none → H' p = some (.lst vs') → PlanL CP (fun l => H l = none ∧ l ≠ p) H' vs' (row s (k + 1)) → Q (.ref p) H'
theorem sc41 : FnScope ["growths", "max_thickness", "later_plans", "first_day"] ["growths", "max_thickness", "later_plans"] (defScope (topS 41)) := ⟨rfl, rfl, rfl, by decide +kernel, rfl, by decide +kernel, by decide +kernel⟩
theorem h_more (D : Df K mg "with_one_break_more" (topS 41) ["growths", "max_thickness", "later_plans"]) (B : Bi mg)
    (hB : ∀ {base : Heap}, Has P w K mg base CX0 5 "best_plan_from" ["growths", "max_thickness", "first_day", "later_plans"] (spBest K CP)) :
    Has P w K mg base CX0 6 "with_one_break_more" ["growths", "max_thickness", "later_plans"] (spMore K CP) := by
  refine has_mk D fun f fd F => F.ok sc41 (fun vs H Q E h => ?_) (fun cdv A outer s H vs Q E hr h => ⟨_, pss_one (ps_ret (pe_lc (own := [("first_day", 3)]) (g := gName 3) (tt := tYes) (by rfl) sc41.nd
    (pi_range1 rfl B.range (pa_cons (pe_op op_add (pe_callB call_len (by rfl) B.len boot_len (pa_cons (pv 0) pa_nil)) pe_int) pa_nil))
    (blkOk_by (own := [("first_day", 3)]) (N := ["growths", "max_thickness", "later_plans", "first_day"]) (sc := defScope (topS 41)) (by decide +kernel))
    (fun _ _ _ _ _ => pg_name (i := 3) sc41.nd rfl (Or.inl rfl)) (fun _ _ _ _ _ => pts_nil)
    (fun _ _ _ _ _ => pe_H hB (hr.mono (by decide)) pass0 (pa_cons (pv 0) (pa_cons (pv 1) (pa_cons (pv 3) (pa_cons (pv 2) pa_nil))))))), ?_⟩)
  · obtain ⟨a, L, s, k, ls, x, rfl, _⟩ := h
    rfl
  · obtain ⟨a, L, m, k, ls, x, rfl, hg, hL, hn, ht, hls, kq⟩ := h
    refine ⟨_, rfl, _, _, rfl, .inl ⟨_, hg, rfl⟩, _, _, rfl, rfl, _, rfl, ?_⟩
    rw [nV_len]
    refine ⟨by omega, by omega, fun D hD => ?_⟩
    have en : ((m.growth.length : Int) + 1).toNat = m.growth.length + 1 := by omega
    rw [en]
    refine lc_range (lo := 0) (n := m.growth.length + 1) (fun i H' => Same H H' ∧ ∃ vs, H' D = some (.lst vs) ∧ PlanL CP (fun l => H l = none ∧ l ≠ D) H' vs ((row m (k + 1)).take i)) ⟨same_new hD, [], upd_same, PlanL.nil⟩ ?_ ?_
    · rintro i H' hi ⟨s1, vs, hl, hv⟩
      refine ⟨rfl, ?_⟩
      have e0 : (0 : Int) + (i : Int) = (i : Nat) := by omega
      rw [e0]
      refine ⟨_, rfl, _, rfl, _, rfl, _, rfl, a, L, m.growth, m.maxThickness, i, ls, Km562.optimalFrom m k, x, rfl, s1.seq hg, s1.seq hL, by omega, hn, ht, (fun j hj => ?_), (fun j q e => opt_len hn e), fun v H2 s2 hp => ?_⟩
      · obtain ⟨v, e1, e2⟩ := hls.at_ j _ (row_get hj)
        exact ⟨v, e1, e2.same s1⟩
      · have et := take_more (row_get (s := m) (k := k + 1) (f := i) (by omega))
        have s12 := s1.trans s2
        refine ⟨vs, s2 _ _ hl, ?_, Same.upd_at s12 hD, _, upd_same, ?_⟩
        · rw [hv.len, List.length_take]
          exact Nat.lt_of_le_of_lt (Nat.min_le_right _ _) (by rw [row_len]; exact small1000 (by omega))
        · rw [et]
          rw [← optFrom_succ] at hp
          have hp' : PlanAt CP (fun l => H l = none ∧ l ≠ D) H2 v (Km562.optimalFrom m (k + 1) i) := hp.imp fun l h => ⟨s1.free h, fun z => by rw [z, hl] at h; cases h⟩
          exact PlanL.snoc ((hv.same s2).app (s2 _ _ hl) fun l h => h.2) (hp'.app (s2 _ _ hl) fun l h => h.2)
    · rintro H' ⟨s1, vs, hl, hv⟩
      rw [← row_len m (k + 1), List.take_length] at hv
      exact kq D vs H' s1 hD hl hv
/-! ### optimal_plans -/
def spPlans (K : PySem.W.Frag) (CP : Addr) : Sp := fun vs H Q _ => ∃ (a : Addr) (s : Sch), vs = [.ref a, .int s.maxThickness] ∧ SqL K H a (nV s.growth) ∧ s.growth.length ≤ 10 ∧ (∀ i j, thick s.growth i j ≤ 300) ∧
  ∀ p vs' H', Same H H' → H p = none → H' p = some (.lst vs') → PlanL CP (fun l => H l = none) H' vs' (plans s) → Q (.ref p) H'
theorem sc42 : FnScope ["growths", "max_thickness", "later_plans", "plans"] ["growths", "max_thickness"] (defScope (topS 42)) := ⟨rfl, rfl, rfl, by decide +kernel, rfl, by decide +kernel, by decide +kernel⟩
theorem rep_flat (n : Nat) : (List.replicate n [V.non]).flatten = List.replicate n V.non := by
  induction n with
  | zero => rfl
  | succ n ih => rw [List.replicate_succ, List.flatten_cons, ih, List.replicate_succ]; rfl
theorem row_planL {x : Addr → Prop} {H : Hp} {s : Sch} {v : V} (h : PlanAt CP x H v (some (0, []))) : PlanL CP x H (List.replicate s.growth.length V.non ++ [v]) (row s 0) := by
  rw [row_zero]
  refine PlanL.snoc ⟨by rw [List.length_replicate, List.length_replicate], fun i o e => ?_⟩ h
  obtain ⟨hi, e'⟩ := List.getElem?_eq_some_iff.mp e
  rw [List.length_replicate] at hi
  rw [List.getElem_replicate] at e'
  subst e'
  exact ⟨V.non, by rw [List.getElem?_replicate, if_pos hi], rfl⟩
theorem plans_take {s : Sch} {k : Nat} (h : k ≤ s.growth.length) : (plans s).take (k + 1) = (plans s).take k ++ [Km562.optimal s k] := take_more (plans_get h)
theorem h_plans (D : Df K mg "optimal_plans" (topS 42) ["growths", "max_thickness"]) (B : Bi mg) (T : PCl K mg CP)
    (hM : ∀ {base : Heap}, Has P w K mg base CX0 6 "with_one_break_more" ["growths", "max_thickness", "later_plans"] (spMore K CP)) :
    Has P w K mg base CX0 7 "optimal_plans" ["growths", "max_thickness"] (spPlans K CP) := by
  obtain ⟨fP, fdP, mkP, FP, bP⟩ := T.made
  have GP : ∀ {base : Heap}, FnOk P w K mg base CX0 1 fP fdP ["self", "effort", "breaks"] (spPlan CP) := ok_plan FP T
  refine has_mk D fun f fd F => F.ok sc42 (fun vs H Q E h => ?_) (fun cdv A outer s H vs Q E hr h => ⟨_, pss_cons (ps_set (i := 2) sc42.nd rfl (Or.inl rfl) (pe_op op_cat (pe_op op_rep (pe_lst (pa_cons pe_non pa_nil)) (pe_callB call_len (by rfl) B.len boot_len (pa_cons (pv 0) pa_nil)))
      (pe_lst (pa_cons (pe_make mkP GP (hr.mono (by decide)) rfl T.gP bP .nil pass0 (pa_cons pe_int (pa_cons (pe_lst pa_nil) pa_nil))) pa_nil))))
    (pss_cons (ps_set (i := 3) sc42.nd rfl (Or.inl rfl) (pe_lst (pa_cons (pe_ix ix_list (pv 2) pe_int (fun _ _ => rfl)) pa_nil)))
    (pss_cons (ps_while PassesOwn.never (pt_cmpR op_le (pe_callB call_len (by rfl) B.len boot_len (pa_cons (pv 3) pa_nil)) (pe_callB call_len (by rfl) B.len boot_len (pa_cons (pv 0) pa_nil)) (nomark _))
      (pss_cons (ps_set (i := 2) sc42.nd rfl (Or.inl rfl) (pe_H hM (hr.mono (by decide)) pass0 (pa_cons (pv 0) (pa_cons (pv 1) (pa_cons (pv 2) pa_nil)))))
      (pss_one (ps_expr (pe_bm PySem.F.plainAttrs_list PySem.F.slot_list_append PySem.F.type_list_append mt_append (pv 3) (pa_cons (pe_ix ix_list (pv 2) pe_int (fun _ _ => rfl)) pa_nil))))))
    (pss_one (ps_ret (pv 3))))), ?_⟩)
  · obtain ⟨a, s, rfl, _⟩ := h
    rfl
  · obtain ⟨a, m, rfl, hg, hn, ht, kq⟩ := h
    -- [None] * len(growths) + [Plan(0, [])]
    refine ⟨(by show 1 ≤ sizeLine; decide), fun p1 hp1 => ?_⟩
    have s1 : Same H (upd H p1 (.lst [V.non])) := same_new hp1
    refine ⟨_, rfl, _, _, rfl, .inl ⟨_, s1.seq hg, rfl⟩, p1, _, _, rfl, rfl, upd_same, by omega, by rw [nV_len]; omega, ?_, fun p2 hp2 => ?_⟩
    · rw [nV_len]
      exact Nat.le_of_lt (small1000 (by show 1 * Int.toNat _ ≤ 1000; omega))
    have e1 : ((nV m.growth).length : Int).toNat = m.growth.length := by rw [nV_len]; omega
    rw [e1, rep_flat]
    have s2 := Same.upd_new (o := .lst (List.replicate m.growth.length V.non)) s1 hp2
    have h2 : (upd (upd H p1 (.lst [V.non])) p2 (.lst (List.replicate m.growth.length V.non))) p2 = some (.lst (List.replicate m.growth.length V.non)) := upd_same
    generalize upd (upd H p1 (.lst [V.non])) p2 (.lst (List.replicate m.growth.length V.non)) = H2 at s2 h2
    refine ⟨Nat.zero_le _, fun p3 hp3 => ?_⟩
    have s3 := Same.upd_new (o := .lst []) s2 hp3
    have s23 : Same H2 (upd H2 p3 (.lst [])) := same_new hp3
    have h3 : (upd H2 p3 (.lst [])) p3 = some (.lst []) := upd_same
    generalize upd H2 p3 (.lst []) = H3 at s3 s23 h3
    intro x dx nx nd _
    refine ⟨x, dx, p3, 0, rfl, upd_same, fun H4 h4 k4 => ⟨rfl, ?_⟩⟩
    have s34 := Same.made nx nd k4
    have s4 := s3.trans s34
    refine ⟨(by show 1 ≤ sizeLine; decide), fun p4 hp4 => ?_⟩
    have s45 : Same H4 (upd H4 p4 (.lst [V.ref x])) := same_new hp4
    refine ⟨p2, p4, _, _, rfl, rfl, s45 _ _ (s34 _ _ (s23 _ _ h2)), upd_same, ?_, fun L hL => ?_⟩
    · rw [List.length_replicate]
      exact Nat.le_of_lt (small1000 (by show _ + 1 ≤ 1000; omega))
    have s5 := Same.upd_new (o := .lst (List.replicate m.growth.length V.non ++ [V.ref x])) (s4.trans s45) hL
    have hP0 : PlanAt CP (fun l => H l = none) (upd (upd H4 p4 (.lst [V.ref x])) L (.lst (List.replicate m.growth.length V.non ++ [V.ref x]))) (.ref x) (some (0, [])) := by
      have s46 := Same.upd_new (o := .lst (List.replicate m.growth.length V.non ++ [V.ref x])) s45 hL
      exact ⟨x, dx, p3, rfl, s2.free hp3, s46 _ _ h4, s46 _ _ (s34 _ _ h3)⟩
    have hLl : (upd (upd H4 p4 (.lst [V.ref x])) L (.lst (List.replicate m.growth.length V.non ++ [V.ref x]))) L = some (.lst (List.replicate m.growth.length V.non ++ [V.ref x])) := upd_same
    generalize upd (upd H4 p4 (.lst [V.ref x])) L (.lst (List.replicate m.growth.length V.non ++ [V.ref x])) = H5 at s5 hP0 hLl
    have hr0 := row_planL (s := m) hP0
    obtain ⟨v0, ev0, hv0⟩ := hr0.at_ 0 _ (row_get (Nat.zero_le _))
    refine ⟨_, rfl, L, _, 0, v0, rfl, rfl, SqL.of hLl, (by exact atI_nat (j := 0) ev0), (by show 1 ≤ sizeLine; decide), fun p hp => ?_⟩
    have s6 := Same.upd_new (o := .lst [v0]) s5 hp
    have s56 : Same H5 (upd H5 p (.lst [v0])) := same_new hp
    have nep : ∀ l v, H5 l = some v → l ≠ p := fun l v e => ne_of_none e hp
    have addp : ∀ {v : V} {o : Option Pl}, PlanAt CP (fun l => H l = none) H5 v o → PlanAt CP (fun l => H l = none ∧ l ≠ p) (upd H5 p (.lst [v0])) v o := by
      intro v o h
      cases o with
      | none => exact h
      | some q =>
        obtain ⟨b1, b2, b3, b4, b5, b6, b7⟩ := h
        exact ⟨b1, b2, b3, b4, ⟨b5, nep _ _ b7⟩, s56 _ _ b6, s56 _ _ b7⟩
    refine while_by (fun σ H' => ∃ (k : Nat) (L : Addr) (ls vs : List V), σ = [some (.ref a), some (.int m.maxThickness), some (.ref L), some (.ref p)] ∧ Same H H' ∧ k ≤ m.growth.length ∧ L ≠ p ∧ H' L = some (.lst ls) ∧ H' p = some (.lst vs) ∧
        PlanL CP (fun l => H l = none ∧ l ≠ p) H' ls (row m k) ∧ PlanL CP (fun l => H l = none ∧ l ≠ p) H' vs ((plans m).take (k + 1)))
      (fun σ H' => match H' p with | some (.lst vs) => m.growth.length + 1 - vs.length | _ => 0) ⟨0, L, _, _, rfl, s6, Nat.zero_le _, nep _ _ hLl, s56 _ _ hLl, upd_same, ⟨hr0.len, fun i o e => let ⟨v, e1, e2⟩ := hr0.at_ i o e; ⟨v, e1, addp e2⟩⟩, ?_⟩ ?_ ?_
    · rw [plans_take (Nat.zero_le _)]
      exact PlanL.snoc (vs := []) (os := List.take 0 (plans m)) (by rw [List.take_zero]; exact PlanL.nil) (addp hv0)
    · rintro σ H' ⟨k, L, ls, vs, rfl, sH, hk, hLp, hL', hp', hrow, hpl⟩
      have el : vs.length = k + 1 := by rw [hpl.len, List.length_take, plans_len]; omega
      refine ⟨_, rfl, _, _, rfl, .inl ⟨_, SqL.of hp', rfl⟩, _, rfl, _, _, rfl, .inl ⟨_, sH.seq hg, rfl⟩, _, _, rfl, rfl, _, rfl, ?_⟩
      rw [nV_len, el]
      by_cases c : k + 1 ≤ m.growth.length
      · refine if_true_of (decide_eq_true (by omega)) ?_
        refine ⟨_, rfl, _, rfl, _, rfl, a, L, m, k, ls, _, rfl, sH.seq hg, SqL.of hL', hn, ht, hrow, fun L2 ls2 H2 s2 hL2 hl2 hrow2 => ?_⟩
        have hp2 := s2 _ _ hp'
        have sH2 := sH.trans s2
        have L2p : L2 ≠ p := fun z => by rw [z, hp'] at hL2; cases hL2
        have hrow3 : PlanL CP (fun l => H l = none ∧ l ≠ p) H2 ls2 (row m (k + 1)) := hrow2.imp fun l h => ⟨sH.free h.1, fun z => by have h1 := h.1; rw [z, hp'] at h1; cases h1⟩
        obtain ⟨v, ev, hv⟩ := hrow3.at_ 0 _ (row_get (Nat.zero_le _))
        refine ⟨_, rfl, .inl ⟨rfl, _, SqL.of hp2⟩, _, rfl, _, _, _, v, rfl, rfl, SqL.of hl2, (by exact atI_nat (j := 0) ev), p, _, _, rfl, rfl, hp2, by rw [el]; exact small1000 (by omega), ?_⟩
        have h0 : H p = none := s5.free hp
        refine ⟨⟨k + 1, L2, ls2, _, rfl, Same.upd_at sH2 h0, c, L2p, by rw [upd_ne L2p]; exact hl2, upd_same, hrow3.app hp2 fun l h => h.2, ?_⟩, ?_⟩
        · rw [plans_take c]
          exact PlanL.snoc ((hpl.same s2).app hp2 fun l h => h.2) (hv.app hp2 fun l h => h.2)
        · show (match (upd H2 p (.lst (vs ++ [v]))) p with | some (.lst vs) => m.growth.length + 1 - vs.length | _ => 0) < (match H' p with | some (.lst vs) => m.growth.length + 1 - vs.length | _ => 0)
          rw [upd_same, hp']
          show m.growth.length + 1 - (vs ++ [v]).length < m.growth.length + 1 - vs.length
          rw [List.length_append, List.length_singleton, el]
          omega
      · refine if_false_of (decide_eq_false (by omega)) ?_
        have ek : k = m.growth.length := by omega
        rw [ek, ← plans_len m, List.take_length] at hpl
        exact ⟨_, rfl, kq p vs H' sH (s5.free hp) hp' (hpl.imp fun l h => h.1)⟩
    · rintro σ H' Q1 Q2 hQ ⟨v1, e1, x1, n1, e2, l1, v2, e3, x2, n2, e4, l2, i, j, e5, e6, b, e7, q⟩
      exact ⟨v1, e1, x1, n1, e2, l1, v2, e3, x2, n2, e4, l2, i, j, e5, e6, b, e7, hQ _ _ q⟩
/-! ### total_cost_of, cheapest_of -/
def spCost (CP : Addr) : Sp := fun vs H Q _ => ∃ (v : V) (t : Nat) (p : Pl) (x : Addr → Prop), vs = [v, .int t] ∧ PlanAt CP x H v (some p) ∧ t ≤ 9999 ∧ Q (.int (cost t p : Nat)) H
theorem sc43 : FnScope ["plan", "trip_cost"] ["plan", "trip_cost"] (defScope (topS 43)) := ⟨rfl, rfl, rfl, by decide +kernel, rfl, by decide +kernel, by decide +kernel⟩
theorem h_pcost (D : Df K mg "total_cost_of" (topS 43) ["plan", "trip_cost"]) (B : Bi mg) (T : PCl K mg CP) : Has P w K mg base CX0 1 "total_cost_of" ["plan", "trip_cost"] (spCost CP) := by
  refine has_mk D fun f fd F => F.ok sc43 (fun vs H Q E h => ?_) (fun cdv A outer s H vs Q E hr h => ⟨_, pss_one (ps_ret (pe_op op_add (pe_fld (pv 0) rfl) (pe_op op_mul (pv 1) (pe_callB call_len (by rfl) B.len boot_len (pa_cons (pe_fld (pv 0) rfl) pa_nil))))), ?_⟩)
  · obtain ⟨v, t, p, x, rfl, _⟩ := h
    rfl
  · obtain ⟨v, t, p, x, rfl, ⟨a, dx, l, rfl, _, h1, h2⟩, ht, k⟩ := h
    refine ⟨_, rfl, a, CP, dx, _, _, rfl, h1, T.cl, T.nE, pF_e _ _, _, rfl, _, rfl, a, CP, dx, _, _, rfl, h1, T.cl, T.nB, pF_b _ _, _, _, rfl, .inl ⟨_, SqL.of h2, rfl⟩, _, _, rfl, rfl, .inl ⟨by omega, by omega⟩, _, _, rfl, rfl, ?_⟩
    have e : (p.1 : Int) + (t : Int) * ((nV p.2).length : Nat) = (cost t p : Nat) := by
      unfold cost
      rw [nV_len, Int.natCast_add, Int.natCast_mul]
    show Q (.int ((p.1 : Int) + (t : Int) * ((nV p.2).length : Nat))) H
    rw [e]
    exact k
def spCheap (K : PySem.W.Frag) (CP : Addr) : Sp := fun vs H Q _ => ∃ (L : Addr) (t : Nat) (ls : List V) (p : Pl) (ps : List Pl) (x : Addr → Prop), vs = [.ref L, .int t] ∧ SqL K H L ls ∧ PlanL CP x H ls ((p :: ps).map some) ∧ t ≤ 9999 ∧
  ∀ v, PlanAt CP x H v (some ((p :: ps).foldl (cheaper t) p)) → Q v H
theorem sc44 : FnScope ["plans", "trip_cost", "cheapest", "plan"] ["plans", "trip_cost"] (defScope (topS 44)) := ⟨rfl, rfl, rfl, by decide +kernel, rfl, by decide +kernel, by decide +kernel⟩
theorem h_cheapest (D : Df K mg "cheapest_of" (topS 44) ["plans", "trip_cost"]) (hC : ∀ {base : Heap}, Has P w K mg base CX0 1 "total_cost_of" ["plan", "trip_cost"] (spCost CP)) :
    Has P w K mg base CX0 2 "cheapest_of" ["plans", "trip_cost"] (spCheap K CP) := by
  refine has_mk D fun f fd F => F.ok sc44 (fun vs H Q E h => ?_) (fun cdv A outer s H vs Q E hr h => ⟨_, pss_cons (ps_set (i := 2) sc44.nd rfl (Or.inl rfl) (pe_ix ix_list (pv 0) pe_int (fun _ _ => rfl)))
    (pss_cons (ps_for PassesOwn.never rfl (pi_list (pv 0)) (pg_name (i := 3) sc44.nd rfl (Or.inl rfl))
      (pss_one (ps_if (pt_cmpR op_lt (pe_H hC hr pass0 (pa_cons (pv 3) (pa_cons (pv 1) pa_nil))) (pe_H hC hr pass0 (pa_cons (pv 2) (pa_cons (pv 1) pa_nil))) (nomark _))
        (pss_one (ps_set (i := 2) sc44.nd rfl (Or.inl rfl) (pv 3))) pss_nil)))
    (pss_one (ps_ret (pv 2)))), ?_⟩)
  · obtain ⟨L, t, ls, p, ps, x, rfl, _⟩ := h
    rfl
  · obtain ⟨L, t, ls, p, ps, x, rfl, hL, hls, ht, k⟩ := h
    obtain ⟨v0, e0, h0⟩ := hls.at_ 0 _ (by rfl)
    refine ⟨_, rfl, L, ls, 0, v0, rfl, rfl, hL, (by exact atI_nat (j := 0) e0), ?_⟩
    refine ⟨_, rfl, L, rfl, ⟨_, hL⟩, for_list (K := K) (a := L) (xs := ls) (fun i σ H' => H' = H ∧ ∃ (v : V) (s3 : Option V), σ = [some (.ref L), some (.int (t : Nat)), some v, s3] ∧ PlanAt CP x H v (some (((p :: ps).take i).foldl (cheaper t) p)))
      ⟨rfl, v0, none, rfl, h0⟩ (fun i σ H' _ ⟨e, _⟩ => by rw [e]; exact hL) ?_ ?_⟩
    · rintro i y σ H' hi ⟨rfl, v, s3, rfl, hv⟩
      have hil : i < (p :: ps).length := by
        have h1 := (List.getElem?_eq_some_iff.mp hi).1
        rw [hls.len, List.length_map] at h1
        exact h1
      obtain ⟨q, eq⟩ : ∃ q, (p :: ps)[i]? = some q := ⟨_, List.getElem?_eq_getElem hil⟩
      obtain ⟨vq, ev, hvq⟩ := hls.at_ i (some q) (by rw [List.getElem?_map, eq]; rfl)
      rw [hi] at ev
      cases ev
      have et : ((p :: ps).take (i + 1)).foldl (cheaper t) p = cheaper t (((p :: ps).take i).foldl (cheaper t) p) q := by
        rw [take_more eq, List.foldl_append]; rfl
      generalize ((p :: ps).take i).foldl (cheaper t) p = bst at hv et
      refine ⟨_, rfl, _, rfl, y, t, q, x, rfl, hvq, ht, ?_⟩
      refine ⟨_, rfl, _, rfl, v, t, bst, x, rfl, hv, ht, _, _, rfl, rfl, _, rfl, ?_⟩
      by_cases c : cost t q < cost t bst
      · rw [show cheaper t bst q = q from if_pos c] at et
        refine if_true_of (decide_eq_true (by omega)) ?_
        exact ⟨_, rfl, rfl, y, _, rfl, by rw [et]; exact hvq⟩
      · rw [show cheaper t bst q = bst from if_neg c] at et
        refine if_false_of (decide_eq_false (by omega)) ?_
        exact ⟨rfl, v, _, rfl, by rw [et]; exact hv⟩
    · rintro σ H' ⟨rfl, v, s3, rfl, hv⟩
      rw [hls.len, List.length_map, List.take_length] at hv
      exact ⟨_, rfl, k v hv⟩
end
end Ice

namespace Ice
open PySem PySem.Spec PyProof.Rows L2 IceX
section
variable {P : Program} {w : World} {K : PySem.W.Frag} {mg : Str → Option Value} {base : Heap} {R C : Addr} {CP : Addr}
theorem WF.t3 {m : Sch} (wf : WF m) : ∀ i j, thick m.growth i j ≤ 300 := fun i j => thick_le wf.len wf.le
/-! ### optimal_plan -/
def spOpt (K : PySem.W.Frag) (R C CP : Addr) : Sp := fun vs H Q E => ∃ (a g b : Addr) (m : Sch) (k : Nat), vs = [.ref a, .int k] ∧ InstAt C H a g b m ∧ WF m ∧ (m.growth.length < k → ErrOut K R H E (-22)) ∧
  (k ≤ m.growth.length → Km562.optimal m k = none → ErrOut K R H E (-33)) ∧
  ∀ q v H', k ≤ m.growth.length → Km562.optimal m k = some q → Same H H' → PlanAt CP (fun l => H l = none) H' v (some q) → Q v H'
theorem sc46 : FnScope ["instance", "break_count", "plan"] ["instance", "break_count"] (defScope (topS 46)) := ⟨rfl, rfl, rfl, by decide +kernel, rfl, by decide +kernel, by decide +kernel⟩
theorem h_opt (D : Df K mg "optimal_plan" (topS 46) ["instance", "break_count"]) (B : Bi mg) (T : ICl K mg C) (hA : ∀ {base : Heap}, Has P w K mg base (L2.CX P w) 4 "check_at_most" ["number", "most"] (spAtMost K R))
    (hP : ∀ {base : Heap}, Has P w K mg base CX0 7 "optimal_plans" ["growths", "max_thickness"] (spPlans K CP)) (hE : ∀ {base : Heap}, CanRaise P w K mg base R "NoValidList" (-33)) :
    Has P w K mg base (L2.CX P w) 8 "optimal_plan" ["instance", "break_count"] (spOpt K R C CP) := by
  refine has_mk D fun f fd F => F.okX sc46 (fun vs H Q E h => ?_) (fun cdv A outer s H vs Q E hr h => ⟨_, pss_cons (ps_expr (pe_H hA (hr.mono (by decide)) (passC (takes_of rfl rfl rfl rfl)) (pa_cons (pv 1) (pa_cons (pe_callB call_len (by rfl) B.len boot_len (pa_cons (pe_fld (pv 0) rfl) pa_nil)) pa_nil))))
    (pss_cons (ps_set (i := 2) sc46.nd rfl (Or.inl rfl) (pe_ix ix_list (pe_H hP (hr.mono (by decide)) pass0 (pa_cons (pe_fld (pv 0) rfl) (pa_cons (pe_fld (pv 0) rfl) pa_nil))) (pv 1) (fun _ _ => rfl)))
    (pss_cons (ps_if (pt_cmp (pc_isN (pv 2))) (pss_one (ps_R hE (hr.mono (by decide)) (takes_of rfl rfl rfl rfl))) pss_nil)
    (pss_one (ps_ret (pv 2))))), ?_⟩)
  · obtain ⟨a, g, b, m, k, rfl, _⟩ := h
    rfl
  · obtain ⟨a, g, b, m, k, rfl, I, wf, k1, k2, k3⟩ := h
    obtain ⟨dx, ha⟩ := I.obj
    refine ⟨_, rfl, _, rfl, a, C, dx, _, _, rfl, ha, T.cl, T.nG, iF_g _ _ _ _, _, _, rfl, .inl ⟨_, SqL.of I.gr, rfl⟩, k, m.growth.length, by rw [nV_len], fun c1 => ?_, k1⟩
    refine ⟨_, rfl, a, C, dx, _, _, rfl, ha, T.cl, T.nG, iF_g _ _ _ _, ?_⟩
    refine ⟨_, rfl, a, C, dx, _, _, rfl, ha, T.cl, T.nM, iF_m _ _ _ _, g, m, rfl, SqL.of I.gr, wf.len, wf.t3, fun p vs' H1 s1 hp hl hpl => ?_⟩
    obtain ⟨v, ev, hv⟩ := hpl.at_ k _ (plans_get c1)
    refine ⟨_, rfl, p, _, _, v, rfl, rfl, SqL.of hl, atI_nat ev, ?_⟩
    refine ⟨_, rfl, _, rfl, ?_⟩
    cases eo : Km562.optimal m k with
    | none =>
      rw [eo] at hv
      have e0 : v = .non := hv
      subst e0
      refine if_true_of (by rfl) fun C' e T' he => ?_
      exact k2 c1 eo C' e _ T' upd_same (Same.upd_new s1 he)
    | some q =>
      rw [eo] at hv
      have hv' := hv
      obtain ⟨pa, pdx, pl, rfl, _⟩ := hv'
      refine if_false_of (by rfl) ?_
      exact ⟨_, rfl, k3 q _ _ c1 eo s1 hv⟩
/-! ### optimal_breaks, use_optimal_breaks -/
theorem sc47 : FnScope ["instance", "break_count", "plan"] ["instance", "break_count"] (defScope (topS 47)) := ⟨rfl, rfl, rfl, by decide +kernel, rfl, by decide +kernel, by decide +kernel⟩
theorem h_optB (D : Df K mg "optimal_breaks" (topS 47) ["instance", "break_count"]) (TP : PCl K mg CP) (hO : ∀ {base : Heap}, Has P w K mg base (L2.CX P w) 8 "optimal_plan" ["instance", "break_count"] (spOpt K R C CP)) :
    Has P w K mg base (L2.CX P w) 9 "optimal_breaks" ["instance", "break_count"] (spOp1 K R C .optimalBreaks) := by
  refine has_mk D fun f fd F => F.okX sc47 (fun vs H Q E h => ?_) (fun cdv A outer s H vs Q E hr h => ⟨_, pss_cons (ps_set (i := 2) sc47.nd rfl (Or.inl rfl) (pe_H hO (hr.mono (by decide)) (passC (takes_of rfl rfl rfl rfl)) (pa_cons (pv 0) (pa_cons (pv 1) pa_nil))))
    (pss_one (ps_ret (pe_op op_cat (pe_lst (pa_cons (pe_fld (pv 2) rfl) pa_nil)) (pe_fld (pv 2) rfl)))), ?_⟩)
  · obtain ⟨a, g, b, m, k, rfl, _⟩ := h
    rfl
  · obtain ⟨a, g, b, m, k, rfl, I, wf, o⟩ := h
    refine ⟨_, rfl, _, rfl, a, g, b, m, k, rfl, I, wf, fun c => o.2 (-22) (by rw [st_opt, if_pos c]), fun c e => o.2 (-33) (by rw [st_opt, if_neg (by omega), e]; rfl), fun q v H1 c e s1 hv => ?_⟩
    obtain ⟨pa, pdx, pl, rfl, _, h1, h2⟩ := hv
    refine ⟨_, rfl, pa, CP, pdx, _, _, rfl, h1, TP.cl, TP.nE, pF_e _ _, (by show 1 ≤ sizeLine; decide), fun p1 hp1 => ?_⟩
    have s2 : Same H1 (upd H1 p1 (.lst [V.int (q.1 : Nat)])) := same_new hp1
    refine ⟨_, rfl, pa, CP, pdx, _, _, rfl, s2 _ _ h1, TP.cl, TP.nB, pF_b _ _, p1, pl, _, _, rfl, rfl, upd_same, s2 _ _ h2, ?_, fun p hp => ?_⟩
    · rw [nV_len]
      have := opt_len wf.len e
      exact Nat.le_of_lt (small1000 (by show 1 + _ ≤ 1000; omega))
    · exact o.tell (r := ⟨(q.1 : Int), Km562.toInts q.2⟩) (by rw [st_opt, if_neg (by omega), e]; rfl) I (s1.trans s2) hp
/-- instance.breaks = plan.breaks -/
theorem inst_breaks {H H1 : Hp} {a g b l : Addr} {m : Sch} {dx : Addr} (I : InstAt C H a g b m) (s1 : Same H H1) (hl0 : H l = none) {bs : List Nat} (hl : H1 l = some (.lst (nV bs))) :
    InstAt C (upd H1 a (.ins C dx (putF "breaks" (.ref l) (iF g b m.tripCost m.maxThickness)))) a g l { m with breaks := bs } ∧ Keep H (upd H1 a (.ins C dx (putF "breaks" (.ref l) (iF g b m.tripCost m.maxThickness)))) a g b ∧
    (∀ p, (upd H1 a (.ins C dx (putF "breaks" (.ref l) (iF g b m.tripCost m.maxThickness)))) p = none → H p = none) := by
  obtain ⟨dx0, ha⟩ := I.obj
  have la : l ≠ a := fun z => by rw [z, ha] at hl0; cases hl0
  have lg : l ≠ g := fun z => by rw [z, I.gr] at hl0; cases hl0
  refine ⟨⟨⟨dx, upd_same.trans (congrArg (fun q => some (HO.ins C dx q)) (iF_putb _ _ _ _ _))⟩, by rw [upd_ne (Ne.symm I.ag)]; exact s1 _ _ I.gr, by rw [upd_ne la]; exact hl, Ne.symm lg⟩, Keep.after s1 keep_a, fun p hp => ?_⟩
  have pn : p ≠ a := fun z => by rw [z, upd_same] at hp; cases hp
  rw [upd_ne pn] at hp
  exact s1.free hp
theorem sc48 : FnScope ["instance", "break_count", "plan"] ["instance", "break_count"] (defScope (topS 48)) := ⟨rfl, rfl, rfl, by decide +kernel, rfl, by decide +kernel, by decide +kernel⟩
theorem h_useO (D : Df K mg "use_optimal_breaks" (topS 48) ["instance", "break_count"]) (T : ICl K mg C) (TP : PCl K mg CP) (hO : ∀ {base : Heap}, Has P w K mg base (L2.CX P w) 8 "optimal_plan" ["instance", "break_count"] (spOpt K R C CP)) :
    Has P w K mg base (L2.CX P w) 9 "use_optimal_breaks" ["instance", "break_count"] (spOp1 K R C .useOptimalBreaks) := by
  refine has_mk D fun f fd F => F.okX sc48 (fun vs H Q E h => ?_) (fun cdv A outer s H vs Q E hr h => ⟨_, pss_cons (ps_set (i := 2) sc48.nd rfl (Or.inl rfl) (pe_H hO (hr.mono (by decide)) (passC (takes_of rfl rfl rfl rfl)) (pa_cons (pv 0) (pa_cons (pv 1) pa_nil))))
    (pss_cons (ps_fld (pv 0) (pe_fld (pv 2) rfl) rfl)
    (pss_one (ps_ret (pe_lst (pa_cons (pe_fld (pv 2) rfl) pa_nil))))), ?_⟩)
  · obtain ⟨a, g, b, m, k, rfl, _⟩ := h
    rfl
  · obtain ⟨a, g, b, m, k, rfl, I, wf, o⟩ := h
    obtain ⟨dx, ha⟩ := I.obj
    refine ⟨_, rfl, _, rfl, a, g, b, m, k, rfl, I, wf, fun c => o.2 (-22) (by rw [st_use, if_pos c]), fun c e => o.2 (-33) (by rw [st_use, if_neg (by omega), e]), fun q v H1 c e s1 hv => ?_⟩
    obtain ⟨pa, pdx, pl, rfl, hl0, h1, h2⟩ := hv
    refine ⟨_, rfl, pa, CP, pdx, _, _, rfl, h1, TP.cl, TP.nB, pF_b _ _, ?_⟩
    refine ⟨_, rfl, a, C, dx, _, rfl, s1 _ _ ha, T.cl, T.nB, (by show 4 < 1000; decide), ?_⟩
    obtain ⟨I2, k2, old⟩ := inst_breaks (dx := dx) I s1 hl0 h2
    have pne : pa ≠ a := by
      intro z
      subst z
      have := s1 _ _ ha
      rw [h1] at this
      cases this
    refine ⟨_, rfl, pa, CP, pdx, _, _, rfl, (by rw [upd_ne pne]; exact h1), TP.cl, TP.nE, pF_e _ _, (by show 1 ≤ sizeLine; decide), fun p hp => ?_⟩
    exact Op.done (r := Km562.number (q.1 : Nat)) o (by rw [st_use, if_neg (by omega), e]) I2 (.inr hl0) k2 hp (old p hp)
/-! ### excess_effort -/
theorem sc49 : FnScope ["instance", "plan"] ["instance"] (defScope (topS 49)) := ⟨rfl, rfl, rfl, by decide +kernel, rfl, by decide +kernel, by decide +kernel⟩
theorem h_excess (D : Df K mg "excess_effort" (topS 49) ["instance"]) (B : Bi mg) (T : ICl K mg C) (TP : PCl K mg CP) (hO : ∀ {base : Heap}, Has P w K mg base (L2.CX P w) 8 "optimal_plan" ["instance", "break_count"] (spOpt K R C CP))
    (hV : ∀ {base : Heap}, Has P w K mg base CX0 4 "is_valid_list" ["growths", "breaks", "max_thickness"] (spValid K)) (hL : ∀ {base : Heap}, Has P w K mg base CX0 4 "effort_of_list" ["growths", "breaks"] (spEffL K))
    (hE : ∀ {base : Heap}, CanRaise P w K mg base R "ScheduleNotValid" (-33)) : Has P w K mg base (L2.CX P w) 9 "excess_effort" ["instance"] (spOp0 K R C .excessEffort) := by
  refine has_mk D fun f fd F => F.okX sc49 (fun vs H Q E h => ?_) (fun cdv A outer s H vs Q E hr h => ⟨_, pss_cons (ps_if (pt_not (pt_val (pe_H hV (hr.mono (by decide)) pass0 (pa_cons (pe_fld (pv 0) rfl) (pa_cons (pe_fld (pv 0) rfl) (pa_cons (pe_fld (pv 0) rfl) pa_nil))))))
      (pss_one (ps_R hE (hr.mono (by decide)) (takes_of rfl rfl rfl rfl))) pss_nil)
    (pss_cons (ps_set (i := 1) sc49.nd rfl (Or.inl rfl) (pe_H hO (hr.mono (by decide)) (passC (takes_of rfl rfl rfl rfl)) (pa_cons (pv 0) (pa_cons (pe_callB call_len (by rfl) B.len boot_len (pa_cons (pe_fld (pv 0) rfl) pa_nil)) pa_nil))))
    (pss_one (ps_ret (pe_lst (pa_cons (pe_op op_sub (pe_H hL (hr.mono (by decide)) pass0 (pa_cons (pe_fld (pv 0) rfl) (pa_cons (pe_fld (pv 0) rfl) pa_nil))) (pe_fld (pv 1) rfl)) pa_nil))))), ?_⟩)
  · obtain ⟨a, g, b, m, rfl, _⟩ := h
    rfl
  · obtain ⟨a, g, b, m, rfl, I, wf, o⟩ := h
    obtain ⟨dx, ha⟩ := I.obj
    refine ⟨_, rfl, a, C, dx, _, _, rfl, ha, T.cl, T.nG, iF_g _ _ _ _, ?_⟩
    refine ⟨_, rfl, a, C, dx, _, _, rfl, ha, T.cl, T.nB, iF_b _ _ _ _, ?_⟩
    refine ⟨_, rfl, a, C, dx, _, _, rfl, ha, T.cl, T.nM, iF_m _ _ _ _, g, b, m.growth, m.breaks, m.maxThickness, rfl, SqL.of I.gr, SqL.of I.br, wf.few1000, fun H1 s1 => ⟨_, rfl, ?_⟩⟩
    rw [valid_B wf]
    cases ev : Km562.isValid m m.breaks with
    | false =>
      refine if_true_of rfl fun C' e T' he => ?_
      exact o.2 (-33) (by rw [st_excess, ev]; rfl) C' e _ T' upd_same (Same.upd_new s1 he)
    | true =>
      refine if_false_of rfl ?_
      have I1 := I.same s1
      refine ⟨_, rfl, _, rfl, a, C, dx, _, _, rfl, s1 _ _ ha, T.cl, T.nB, iF_b _ _ _ _, _, _, rfl, .inl ⟨_, SqL.of I1.br, rfl⟩, a, g, b, m, m.breaks.length, by rw [nV_len], I1, wf, fun c => ?_, fun c e => ?_, fun q v H2 c e s2 hv => ?_⟩
      · have := wf.few
        omega
      · exact (o.2 (-33) (by rw [st_excess, ev, if_neg (by decide), e])).mono s1
      · obtain ⟨pa, pdx, pl, rfl, hl0, h1, h2⟩ := hv
        have I2 := I1.same s2
        have s12 := s1.trans s2
        refine ⟨_, rfl, a, C, dx, _, _, rfl, s12 _ _ ha, T.cl, T.nG, iF_g _ _ _ _, ?_⟩
        refine ⟨_, rfl, a, C, dx, _, _, rfl, s12 _ _ ha, T.cl, T.nB, iF_b _ _ _ _, g, b, m.growth, m.breaks, rfl, SqL.of I2.gr, SqL.of I2.br, wf.few1000, wf.t3, fun H3 s3 => ?_⟩
        refine ⟨_, rfl, pa, CP, pdx, _, _, rfl, s3 _ _ h1, TP.cl, TP.nE, pF_e _ _, _, _, rfl, rfl, (by show 1 ≤ sizeLine; decide), fun p hp => ?_⟩
        have le := excess_le wf ev e
        rw [totalEffort_eq m wf.up] at le
        have z := o.tell (r := Km562.number (effortOf m.growth m.breaks - q.1 : Nat)) (by rw [st_excess, ev, if_neg (by decide), e, totalEffort_eq m wf.up]) I (s12.trans s3) hp
        have ee : (effortOf m.growth m.breaks : Int) - (q.1 : Int) = ((effortOf m.growth m.breaks - q.1 : Nat) : Int) := by omega
        show Q (.ref p) (upd H3 p (.lst [V.int ((effortOf m.growth m.breaks : Int) - (q.1 : Int))]))
        rw [ee]
        exact z
/-! ### saving_of_break -/
theorem sc50 : FnScope ["instance", "k", "plans"] ["instance", "k"] (defScope (topS 50)) := ⟨rfl, rfl, rfl, by decide +kernel, rfl, by decide +kernel, by decide +kernel⟩
theorem h_saving (D : Df K mg "saving_of_break" (topS 50) ["instance", "k"]) (B : Bi mg) (N : Cn mg) (T : ICl K mg C) (TP : PCl K mg CP) (hA : ∀ {base : Heap}, Has P w K mg base (L2.CX P w) 4 "check_between" ["number", "least", "most"] (spBetween K R))
    (hP : ∀ {base : Heap}, Has P w K mg base CX0 7 "optimal_plans" ["growths", "max_thickness"] (spPlans K CP)) : Has P w K mg base (L2.CX P w) 9 "saving_of_break" ["instance", "k"] (spOp1 K R C .savingOfBreak) := by
  refine has_mk D fun f fd F => F.okX sc50 (fun vs H Q E h => ?_) (fun cdv A outer s H vs Q E hr h => ⟨_, pss_cons (ps_expr (pe_H hA (hr.mono (by decide)) (passC (takes_of rfl rfl rfl rfl)) (pa_cons (pv 1) (pa_cons pe_int (pa_cons (pe_callB call_len (by rfl) B.len boot_len (pa_cons (pe_fld (pv 0) rfl) pa_nil)) pa_nil)))))
    (pss_cons (ps_set (i := 2) sc50.nd rfl (Or.inl rfl) (pe_H hP (hr.mono (by decide)) pass0 (pa_cons (pe_fld (pv 0) rfl) (pa_cons (pe_cn N.thick) pa_nil))))
    (pss_one (ps_ret (pe_lst (pa_cons (pe_op op_sub (pe_fld (pe_ix ix_list (pv 2) (pe_op op_sub (pv 1) pe_int) (fun _ _ => rfl)) rfl) (pe_fld (pe_ix ix_list (pv 2) (pv 1) (fun _ _ => rfl)) rfl)) pa_nil))))), ?_⟩)
  · obtain ⟨a, g, b, m, k, rfl, _⟩ := h
    rfl
  · obtain ⟨a, g, b, m, k, rfl, I, wf, o⟩ := h
    obtain ⟨dx, ha⟩ := I.obj
    refine ⟨_, rfl, _, rfl, a, C, dx, _, _, rfl, ha, T.cl, T.nG, iF_g _ _ _ _, _, _, rfl, .inl ⟨_, SqL.of I.gr, rfl⟩, k, 2, m.growth.length, by rw [nV_len]; rfl, fun c1 c2 => ?_, fun c => o.2 (-22) (by rw [st_saving, if_pos c])⟩
    have wu := wf.nolimit
    refine ⟨_, rfl, a, C, dx, _, _, rfl, ha, T.cl, T.nG, iF_g _ _ _ _, g, Km562.unlimited m, rfl, SqL.of I.gr, wu.len, wu.t3, fun p vs' H1 s1 hp hl hpl => ?_⟩
    obtain ⟨q1, q2, e1, e2, le⟩ := saving_two wf c1 c2
    obtain ⟨v1, ev1, hv1⟩ := hpl.at_ (k - 1) _ (plans_get (s := Km562.unlimited m) (by show k - 1 ≤ m.growth.length; omega))
    obtain ⟨v2, ev2, hv2⟩ := hpl.at_ k _ (plans_get (s := Km562.unlimited m) (by show k ≤ m.growth.length; omega))
    rw [e1] at hv1
    rw [e2] at hv2
    obtain ⟨pa, pdx, pl, rfl, _, h1, _⟩ := hv1
    obtain ⟨qa, qdx, ql, rfl, _, h2, _⟩ := hv2
    have ek : (k : Int) - 1 = ((k - 1 : Nat) : Int) := by omega
    refine ⟨_, rfl, _, rfl, _, _, rfl, rfl, p, _, _, _, rfl, rfl, SqL.of hl, (by show atI vs' ((k : Int) - 1) = _; rw [ek]; exact atI_nat ev1), pa, CP, pdx, _, _, rfl, h1, TP.cl, TP.nE, pF_e _ _, ?_⟩
    refine ⟨_, rfl, _, rfl, p, _, _, _, rfl, rfl, SqL.of hl, atI_nat ev2, qa, CP, qdx, _, _, rfl, h2, TP.cl, TP.nE, pF_e _ _, _, _, rfl, rfl, (by show 1 ≤ sizeLine; decide), fun p' hp' => ?_⟩
    have es : Km562.saving m k = q1.1 - q2.1 := by
      unfold Km562.saving
      rw [e1, e2]
    have z := o.tell (r := Km562.number (q1.1 - q2.1 : Nat)) (by rw [st_saving, if_neg (by omega), es]) I s1 hp'
    have ee : (q1.1 : Int) - (q2.1 : Int) = ((q1.1 - q2.1 : Nat) : Int) := by omega
    show Q (.ref p') (upd H1 p' (.lst [V.int ((q1.1 : Int) - (q2.1 : Int))]))
    rw [ee]
    exact z
/-! ### defined_plans -/
def spDef (K : PySem.W.Frag) (R CP : Addr) : Sp := fun vs H Q E => ∃ (a : Addr) (s : Sch), vs = [.ref a, .int s.maxThickness] ∧ SqL K H a (nV s.growth) ∧ s.growth.length ≤ 10 ∧ (∀ i j, thick s.growth i j ≤ 300) ∧
  (found s = [] → ErrOut K R H E (-33)) ∧
  ∀ q ps p vs' H', found s = q :: ps → Same H H' → H p = none → H' p = some (.lst vs') → PlanL CP (fun l => H l = none) H' vs' ((q :: ps).map some) → Q (.ref p) H'
theorem sc51 : FnScope ["growths", "max_thickness", "plans", "plan"] ["growths", "max_thickness"] (defScope (topS 51)) := ⟨rfl, rfl, rfl, by decide +kernel, rfl, by decide +kernel, by decide +kernel⟩
theorem h_def (D : Df K mg "defined_plans" (topS 51) ["growths", "max_thickness"]) (B : Bi mg) (hP : ∀ {base : Heap}, Has P w K mg base CX0 7 "optimal_plans" ["growths", "max_thickness"] (spPlans K CP))
    (hE : ∀ {base : Heap}, CanRaise P w K mg base R "NoValidList" (-33)) : Has P w K mg base (L2.CX P w) 8 "defined_plans" ["growths", "max_thickness"] (spDef K R CP) := by
  refine has_mk D fun f fd F => F.okX sc51 (fun vs H Q E h => ?_) (fun cdv A outer s H vs Q E hr h => ⟨_, pss_cons (ps_setLc (i := 2) (own := [("plan", 3)]) (g := gName 3) (by rfl) sc51.nd rfl rfl (sw_true rfl rfl rfl (by decide +kernel))
      (pi_list (pe_H hP (hr.mono (by decide)) pass0 (pa_cons (pv 0) (pa_cons (pv 1) pa_nil))))
      (blkOk_by (own := [("plan", 3)]) (N := ["growths", "max_thickness", "plans", "plan"]) (sc := defScope (topS 51)) (by decide +kernel))
      (fun _ _ _ _ _ => pg_name (i := 3) sc51.nd rfl (Or.inl rfl)) (fun _ _ _ _ _ => pts_one (pt_cmp (pc_notN (pv 3)))) (fun _ _ _ _ _ => pv 3))
    (pss_cons (ps_if (pt_cmpR op_eq (pe_callB call_len (by rfl) B.len boot_len (pa_cons (pv 2) pa_nil)) pe_int (nomark _)) (pss_one (ps_R hE (hr.mono (by decide)) (takes_of rfl rfl rfl rfl))) pss_nil)
    (pss_one (ps_ret (pv 2)))), ?_⟩)
  · obtain ⟨a, s, rfl, _⟩ := h
    rfl
  · obtain ⟨a, m, rfl, hg, hn, ht, kE, kQ⟩ := h
    refine ⟨_, rfl, _, rfl, a, m, rfl, hg, hn, ht, fun p vs1 H1 s1 hp hl hpl => ?_⟩
    refine ⟨p, rfl, ⟨_, SqL.of hl⟩, fun D hD => lc_list (K := K) (a := p) (xs := vs1) (fun i H' => Same H1 H' ∧ ∃ vs', H' D = some (.lst vs') ∧ PlanL CP (fun l => H l = none ∧ l ≠ D) H' vs' ((((plans m).take i).filterMap id).map some))
      ⟨same_new hD, [], upd_same, PlanL.nil⟩ (fun i H' _ ⟨s2, _⟩ => s2.seq (SqL.of hl)) ?_ ?_⟩
    · rintro i y H' hi ⟨s2, vs', h2, hv⟩
      refine ⟨rfl, ?_⟩
      have hil : i < (plans m).length := by
        have h1 := (List.getElem?_eq_some_iff.mp hi).1
        rw [hpl.len] at h1
        exact h1
      obtain ⟨o, eo⟩ : ∃ o, (plans m)[i]? = some o := ⟨_, List.getElem?_eq_getElem hil⟩
      obtain ⟨vo, ev, hvo⟩ := hpl.at_ i o eo
      rw [hi] at ev
      cases ev
      have et := take_more eo
      refine ⟨_, rfl, _, rfl, ?_⟩
      cases o with
      | none =>
        have e0 : y = .non := hvo
        subst e0
        refine if_false_of (by rfl) ?_
        refine ⟨s2, vs', h2, ?_⟩
        rw [et, List.filterMap_append]
        simpa using hv
      | some q =>
        have hvo' := hvo
        obtain ⟨pa, pdx, pl, rfl, hx, b1, b2⟩ := hvo'
        refine if_true_of (by rfl) ?_
        refine ⟨_, rfl, vs', h2, ?_, Same.upd_at s2 hD, _, upd_same, ?_⟩
        · rw [hv.len, List.length_map]
          have h3 : (((plans m).take i).filterMap id).length ≤ i := Nat.le_trans (List.length_filterMap_le _ _) (by rw [List.length_take]; exact Nat.min_le_left _ _)
          rw [plans_len] at hil
          exact small1000 (by omega)
        · have hq : PlanAt CP (fun l => H l = none ∧ l ≠ D) H' (.ref pa) (some q) := ⟨pa, pdx, pl, rfl, ⟨hx, fun z => by rw [z, hD] at b2; cases b2⟩, s2 _ _ b1, s2 _ _ b2⟩
          have z := PlanL.snoc (hv.app (ys := vs' ++ [V.ref pa]) h2 fun l h => h.2) (hq.app (ys := vs' ++ [V.ref pa]) h2 fun l h => h.2)
          rw [et, List.filterMap_append, List.map_append]
          exact z
    · rintro H' ⟨s2, vs', h2, hv⟩
      rw [hpl.len, List.take_length] at hv
      have hv1 : PlanL CP (fun l => H l = none) H' vs' ((found m).map some) := hv.imp fun l h => h.1
      refine ⟨_, rfl, _, _, rfl, .inl ⟨_, SqL.of h2, rfl⟩, rfl, _, rfl, ?_⟩
      have el : vs'.length = (found m).length := by rw [hv1.len, List.length_map]
      rw [el]
      cases ef : found m with
      | nil =>
        refine if_true_of (by rfl) fun C' e T' he => ?_
        exact kE ef C' e _ T' upd_same (Same.upd_new (s1.trans s2) he)
      | cons q ps =>
        refine if_false_of (decide_eq_false fun z => ?_) ?_
        · have := Int.ofNat.inj (V.int.inj z)
          simp at this
        · rw [ef] at hv1
          exact ⟨_, rfl, kQ q ps D vs' H' ef (s1.trans s2) (s1.free hD) h2 hv1⟩
end
end Ice

namespace Ice
open PySem PySem.Spec PyProof.Rows L2 IceX
section
variable {P : Program} {w : World} {K : PySem.W.Frag} {mg : Str → Option Value} {base : Heap} {R C : Addr} {CP : Addr}
theorem cheapestOf_nil {s : Sch} (h : found s = []) : cheapestOf s = none := by unfold cheapestOf; rw [h]
theorem cheapestOf_cons {s : Sch} {q : Pl} {ps : List Pl} (h : found s = q :: ps) : cheapestOf s = some ((q :: ps).foldl (cheaper s.tripCost) q) := by unfold cheapestOf; rw [h]
/-! ### min_break_count -/
theorem sc52 : FnScope ["instance", "plans"] ["instance"] (defScope (topS 52)) := ⟨rfl, rfl, rfl, by decide +kernel, rfl, by decide +kernel, by decide +kernel⟩
theorem h_min (D : Df K mg "min_break_count" (topS 52) ["instance"]) (B : Bi mg) (T : ICl K mg C) (TP : PCl K mg CP) (hD : ∀ {base : Heap}, Has P w K mg base (L2.CX P w) 8 "defined_plans" ["growths", "max_thickness"] (spDef K R CP)) :
    Has P w K mg base (L2.CX P w) 9 "min_break_count" ["instance"] (spOp0 K R C .minBreakCount) := by
  refine has_mk D fun f fd F => F.okX sc52 (fun vs H Q E h => ?_) (fun cdv A outer s H vs Q E hr h => ⟨_, pss_cons (ps_set (i := 1) sc52.nd rfl (Or.inl rfl) (pe_H hD (hr.mono (by decide)) (passC (takes_of rfl rfl rfl rfl)) (pa_cons (pe_fld (pv 0) rfl) (pa_cons (pe_fld (pv 0) rfl) pa_nil))))
    (pss_one (ps_ret (pe_lst (pa_cons (pe_callB call_len (by rfl) B.len boot_len (pa_cons (pe_fld (pe_ix ix_list (pv 1) pe_int (fun _ _ => rfl)) rfl) pa_nil)) pa_nil)))), ?_⟩)
  · obtain ⟨a, g, b, m, rfl, _⟩ := h
    rfl
  · obtain ⟨a, g, b, m, rfl, I, wf, o⟩ := h
    obtain ⟨dx, ha⟩ := I.obj
    refine ⟨_, rfl, a, C, dx, _, _, rfl, ha, T.cl, T.nG, iF_g _ _ _ _, ?_⟩
    refine ⟨_, rfl, a, C, dx, _, _, rfl, ha, T.cl, T.nM, iF_m _ _ _ _, g, m, rfl, SqL.of I.gr, wf.len, wf.t3, fun e => o.2 (-33) (by rw [st_min, min_found, e]; rfl), fun q ps p vs' H1 e s1 hp hl hpl => ?_⟩
    obtain ⟨v, ev, hv⟩ := hpl.at_ 0 _ (by rfl)
    obtain ⟨pa, pdx, pl, rfl, _, h1, h2⟩ := hv
    refine ⟨_, rfl, p, _, 0, _, rfl, rfl, SqL.of hl, (by exact atI_nat (j := 0) ev), pa, CP, pdx, _, _, rfl, h1, TP.cl, TP.nB, pF_b _ _, _, _, rfl, .inl ⟨_, SqL.of h2, rfl⟩, (by show 1 ≤ sizeLine; decide), fun p' hp' => ?_⟩
    rw [nV_len]
    exact o.tell (r := Km562.number (q.2.length : Nat)) (by rw [st_min, min_found, e]; rfl) I s1 hp'
/-! ### cheapest_answer -/
def spCA (K : PySem.W.Frag) (R : Addr) : Sp := fun vs H Q E => ∃ (a : Addr) (s : Sch), vs = [.ref a, .int s.maxThickness, .int s.tripCost] ∧ SqL K H a (nV s.growth) ∧ WF s ∧
  (cheapestOf s = none → ErrOut K R H E (-33)) ∧ ∀ q H1 p, cheapestOf s = some q → Same H H1 → H1 p = none → Q (.ref p) (upd H1 p (.lst [V.int (q.2.length : Nat), V.int (cost s.tripCost q : Nat)]))
theorem sc53 : FnScope ["growths", "max_thickness", "trip_cost", "plan"] ["growths", "max_thickness", "trip_cost"] (defScope (topS 53)) := ⟨rfl, rfl, rfl, by decide +kernel, rfl, by decide +kernel, by decide +kernel⟩
theorem h_ca (D : Df K mg "cheapest_answer" (topS 53) ["growths", "max_thickness", "trip_cost"]) (B : Bi mg) (TP : PCl K mg CP) (hD : ∀ {base : Heap}, Has P w K mg base (L2.CX P w) 8 "defined_plans" ["growths", "max_thickness"] (spDef K R CP))
    (hC : ∀ {base : Heap}, Has P w K mg base CX0 2 "cheapest_of" ["plans", "trip_cost"] (spCheap K CP)) (hT : ∀ {base : Heap}, Has P w K mg base CX0 1 "total_cost_of" ["plan", "trip_cost"] (spCost CP)) :
    Has P w K mg base (L2.CX P w) 9 "cheapest_answer" ["growths", "max_thickness", "trip_cost"] (spCA K R) := by
  refine has_mk D fun f fd F => F.okX sc53 (fun vs H Q E h => ?_) (fun cdv A outer s H vs Q E hr h => ⟨_, pss_cons (ps_set (i := 3) sc53.nd rfl (Or.inl rfl) (pe_H hC (hr.mono (by decide)) pass0 (pa_cons (pe_H hD (hr.mono (by decide)) (passC (takes_of rfl rfl rfl rfl)) (pa_cons (pv 0) (pa_cons (pv 1) pa_nil))) (pa_cons (pv 2) pa_nil))))
    (pss_one (ps_ret (pe_lst (pa_cons (pe_callB call_len (by rfl) B.len boot_len (pa_cons (pe_fld (pv 3) rfl) pa_nil)) (pa_cons (pe_H hT (hr.mono (by decide)) pass0 (pa_cons (pv 3) (pa_cons (pv 2) pa_nil))) pa_nil))))), ?_⟩)
  · obtain ⟨a, s, rfl, _⟩ := h
    rfl
  · obtain ⟨a, m, rfl, hg, wf, kE, kQ⟩ := h
    refine ⟨_, rfl, _, rfl, a, m, rfl, hg, wf.len, wf.t3, fun e => kE (cheapestOf_nil e), fun q ps p vs' H1 e s1 hp hl hpl => ?_⟩
    refine ⟨_, rfl, p, m.tripCost, vs', q, ps, _, rfl, SqL.of hl, hpl, wf.trip, fun v hv => ?_⟩
    have hv' := hv
    obtain ⟨pa, pdx, pl, rfl, _, h1, h2⟩ := hv'
    refine ⟨_, rfl, pa, CP, pdx, _, _, rfl, h1, TP.cl, TP.nB, pF_b _ _, _, _, rfl, .inl ⟨_, SqL.of h2, rfl⟩, ?_⟩
    refine ⟨_, rfl, _, rfl, _, m.tripCost, _, _, rfl, hv, wf.trip, (by show 2 ≤ sizeLine; decide), fun p' hp' => ?_⟩
    rw [nV_len]
    exact kQ _ _ p' (cheapestOf_cons e) s1 hp'
/-! ### cheapest_break_count, use_cheapest_breaks -/
theorem sc54 : FnScope ["instance"] ["instance"] (defScope (topS 54)) := ⟨rfl, rfl, rfl, by decide +kernel, rfl, by decide +kernel, by decide +kernel⟩
theorem h_cheap (D : Df K mg "cheapest_break_count" (topS 54) ["instance"]) (T : ICl K mg C) (hA : ∀ {base : Heap}, Has P w K mg base (L2.CX P w) 9 "cheapest_answer" ["growths", "max_thickness", "trip_cost"] (spCA K R)) :
    Has P w K mg base (L2.CX P w) 10 "cheapest_break_count" ["instance"] (spOp0 K R C .cheapestBreakCount) := by
  refine has_mk D fun f fd F => F.okX sc54 (fun vs H Q E h => ?_) (fun cdv A outer s H vs Q E hr h => ⟨_, pss_one (ps_ret (pe_H hA (hr.mono (by decide)) (passC (takes_of rfl rfl rfl rfl)) (pa_cons (pe_fld (pv 0) rfl) (pa_cons (pe_fld (pv 0) rfl) (pa_cons (pe_fld (pv 0) rfl) pa_nil))))), ?_⟩)
  · obtain ⟨a, g, b, m, rfl, _⟩ := h
    rfl
  · obtain ⟨a, g, b, m, rfl, I, wf, o⟩ := h
    obtain ⟨dx, ha⟩ := I.obj
    refine ⟨_, rfl, a, C, dx, _, _, rfl, ha, T.cl, T.nG, iF_g _ _ _ _, ?_⟩
    refine ⟨_, rfl, a, C, dx, _, _, rfl, ha, T.cl, T.nM, iF_m _ _ _ _, ?_⟩
    refine ⟨_, rfl, a, C, dx, _, _, rfl, ha, T.cl, T.nT, iF_t _ _ _ _, g, m, rfl, SqL.of I.gr, wf, fun e => o.2 (-33) (by rw [st_cheap, cheapest_eq, e]; rfl), fun q H1 p e s1 hp => ?_⟩
    exact o.tell (r := ⟨((q.2.length : Nat) : Int), [((cost m.tripCost q : Nat) : Int)]⟩) (by rw [st_cheap, cheapest_eq, e]; rfl) I s1 hp
theorem sc55 : FnScope ["instance", "plan"] ["instance"] (defScope (topS 55)) := ⟨rfl, rfl, rfl, by decide +kernel, rfl, by decide +kernel, by decide +kernel⟩
theorem h_useCheap (D : Df K mg "use_cheapest_breaks" (topS 55) ["instance"]) (T : ICl K mg C) (TP : PCl K mg CP) (hD : ∀ {base : Heap}, Has P w K mg base (L2.CX P w) 8 "defined_plans" ["growths", "max_thickness"] (spDef K R CP))
    (hC : ∀ {base : Heap}, Has P w K mg base CX0 2 "cheapest_of" ["plans", "trip_cost"] (spCheap K CP)) (hT : ∀ {base : Heap}, Has P w K mg base CX0 1 "total_cost_of" ["plan", "trip_cost"] (spCost CP)) :
    Has P w K mg base (L2.CX P w) 10 "use_cheapest_breaks" ["instance"] (spOp0 K R C .useCheapestBreaks) := by
  refine has_mk D fun f fd F => F.okX sc55 (fun vs H Q E h => ?_) (fun cdv A outer s H vs Q E hr h => ⟨_, pss_cons (ps_set (i := 1) sc55.nd rfl (Or.inl rfl) (pe_H hC (hr.mono (by decide)) pass0
      (pa_cons (pe_H hD (hr.mono (by decide)) (passC (takes_of rfl rfl rfl rfl)) (pa_cons (pe_fld (pv 0) rfl) (pa_cons (pe_fld (pv 0) rfl) pa_nil))) (pa_cons (pe_fld (pv 0) rfl) pa_nil))))
    (pss_cons (ps_fld (pv 0) (pe_fld (pv 1) rfl) rfl)
    (pss_one (ps_ret (pe_lst (pa_cons (pe_H hT (hr.mono (by decide)) pass0 (pa_cons (pv 1) (pa_cons (pe_fld (pv 0) rfl) pa_nil))) pa_nil))))), ?_⟩)
  · obtain ⟨a, g, b, m, rfl, _⟩ := h
    rfl
  · obtain ⟨a, g, b, m, rfl, I, wf, o⟩ := h
    obtain ⟨dx, ha⟩ := I.obj
    refine ⟨_, rfl, a, C, dx, _, _, rfl, ha, T.cl, T.nG, iF_g _ _ _ _, ?_⟩
    refine ⟨_, rfl, a, C, dx, _, _, rfl, ha, T.cl, T.nM, iF_m _ _ _ _, g, m, rfl, SqL.of I.gr, wf.len, wf.t3, fun e => o.2 (-33) (by rw [st_useCheap, cheapest_eq, cheapestOf_nil e]; rfl), fun q ps p vs' H1 e s1 hp hl hpl => ?_⟩
    have I1 := I.same s1
    refine ⟨_, rfl, a, C, dx, _, _, rfl, s1 _ _ ha, T.cl, T.nT, iF_t _ _ _ _, p, m.tripCost, vs', q, ps, _, rfl, SqL.of hl, hpl, wf.trip, fun v hv => ?_⟩
    have ec := cheapestOf_cons e
    generalize (q :: ps).foldl (cheaper m.tripCost) q = best at ec hv
    have eo := cheapestOf_is ec
    obtain ⟨pa, pdx, pl, rfl, hl0, h1, h2⟩ := hv
    refine ⟨_, rfl, pa, CP, pdx, _, _, rfl, h1, TP.cl, TP.nB, pF_b _ _, ?_⟩
    refine ⟨_, rfl, a, C, dx, _, rfl, s1 _ _ ha, T.cl, T.nB, (by show 4 < 1000; decide), ?_⟩
    obtain ⟨I2, k2, old⟩ := inst_breaks (dx := dx) I s1 hl0 h2
    have pne : pa ≠ a := by
      intro z
      subst z
      have := s1 _ _ ha
      rw [h1] at this
      cases this
    have la : pl ≠ a := fun z => by rw [z, ha] at hl0; cases hl0
    have hv2 : PlanAt CP (fun l => H l = none) (upd H1 a (.ins C dx (putF "breaks" (.ref pl) (iF g b m.tripCost m.maxThickness)))) (.ref pa) (some best) := ⟨pa, pdx, pl, rfl, hl0, by rw [upd_ne pne]; exact h1, by rw [upd_ne la]; exact h2⟩
    generalize upd H1 a (.ins C dx (putF "breaks" (.ref pl) (iF g b m.tripCost m.maxThickness))) = H3 at I2 k2 old hv2
    obtain ⟨dx2, ha2⟩ := I2.obj
    refine ⟨_, rfl, _, rfl, a, C, dx2, _, _, rfl, ha2, T.cl, T.nT, iF_t _ _ _ _, _, m.tripCost, best, _, rfl, hv2, wf.trip, (by show 1 ≤ sizeLine; decide), fun p' hp' => ?_⟩
    exact Op.done (r := Km562.number (cost m.tripCost best : Nat)) o (by rw [st_useCheap, cheapest_eq, ec]; show ((some { m with breaks := ((Km562.optimal m best.2.length).map fun (result : Pl) => result.2).getD [] }, Km562.number (cost m.tripCost best : Nat)) : Km562.State × Km562.Result) = _; rw [eo]; rfl) I2 (.inr hl0) k2 hp' (old p' hp')
/-! ### cheapest_with_growth, cheapest_with_max_thickness -/
theorem sc56 : FnScope ["instance", "day", "growth", "growths"] ["instance", "day", "growth"] (defScope (topS 56)) := ⟨rfl, rfl, rfl, by decide +kernel, rfl, by decide +kernel, by decide +kernel⟩
theorem h_withGrowth (D : Df K mg "cheapest_with_growth" (topS 56) ["instance", "day", "growth"]) (B : Bi mg) (N : Cn mg) (T : ICl K mg C) (hDay : ∀ {base : Heap}, Has P w K mg base (L2.CX P w) 4 "check_day" ["instance", "day"] (spCheckDay K R C))
    (hM : ∀ {base : Heap}, Has P w K mg base (L2.CX P w) 4 "check_at_most" ["number", "most"] (spAtMost K R)) (hA : ∀ {base : Heap}, Has P w K mg base (L2.CX P w) 9 "cheapest_answer" ["growths", "max_thickness", "trip_cost"] (spCA K R)) :
    Has P w K mg base (L2.CX P w) 10 "cheapest_with_growth" ["instance", "day", "growth"] (spOp2 K R C .cheapestWithGrowth) := by
  refine has_mk D fun f fd F => F.okX sc56 (fun vs H Q E h => ?_) (fun cdv A outer s H vs Q E hr h => ⟨_, pss_cons (ps_expr (pe_H hDay (hr.mono (by decide)) (passC (takes_of rfl rfl rfl rfl)) (pa_cons (pv 0) (pa_cons (pv 1) pa_nil))))
    (pss_cons (ps_expr (pe_H hM (hr.mono (by decide)) (passC (takes_of rfl rfl rfl rfl)) (pa_cons (pv 2) (pa_cons (pe_cn N.growth) pa_nil))))
    (pss_cons (ps_set (i := 3) sc56.nd rfl (Or.inl rfl) (pe_callTy call_list_of (by rfl) B.list (by decide +kernel) (pa_cons (pe_fld (pv 0) rfl) pa_nil)))
    (pss_cons (ps_asg (pv 2) (pg_sub (pv 3) (pv 1) set_list))
    (pss_one (ps_ret (pe_H hA (hr.mono (by decide)) (passC (takes_of rfl rfl rfl rfl)) (pa_cons (pv 3) (pa_cons (pe_fld (pv 0) rfl) (pa_cons (pe_fld (pv 0) rfl) pa_nil))))))))), ?_⟩)
  · obtain ⟨a, g, b, m, x, y, rfl, _⟩ := h
    rfl
  · obtain ⟨a, g, b, m, d, x, rfl, I, wf, o⟩ := h
    obtain ⟨dx, ha⟩ := I.obj
    refine ⟨_, rfl, _, rfl, a, g, b, m, d, rfl, I, fun c1 => ?_, fun c1 => o.2 (-2) (by rw [st_withGrowth, if_pos c1])⟩
    refine ⟨_, rfl, x, 30, rfl, fun c2 => ?_, fun c2 => o.2 (-22) (by rw [st_withGrowth, if_neg (by omega), if_pos c2])⟩
    refine ⟨_, rfl, a, C, dx, _, _, rfl, ha, T.cl, T.nG, iF_g _ _ _ _, g, _, rfl, .inl (SqL.of I.gr), fun l hl => ?_⟩
    have s1 : Same H (upd H l (.lst (nV m.growth))) := same_new hl
    refine ⟨_, rfl, _, rfl, _, rfl, l, _, _, d, rfl, rfl, upd_same, ixN_nat (by rw [nV_len]; exact c1), ?_⟩
    rw [nV_set, upd_upd]
    have s2 : Same H (upd H l (.lst (nV (m.growth.set d x)))) := same_new hl
    refine ⟨_, rfl, _, rfl, a, C, dx, _, _, rfl, s2 _ _ ha, T.cl, T.nM, iF_m _ _ _ _, ?_⟩
    refine ⟨_, rfl, a, C, dx, _, _, rfl, s2 _ _ ha, T.cl, T.nT, iF_t _ _ _ _, l, { m with growth := m.growth.set d x }, rfl, SqL.of upd_same, wf.set d (by omega), fun e => ?_, fun q H1 p e s3 hp => ?_⟩
    · exact (o.2 (-33) (by rw [st_withGrowth, if_neg (by omega), if_neg (by omega), cheapest_eq, e]; rfl)).mono s2
    · exact o.tell (r := ⟨((q.2.length : Nat) : Int), [((cost m.tripCost q : Nat) : Int)]⟩) (by rw [st_withGrowth, if_neg (by omega), if_neg (by omega), cheapest_eq, e]; rfl) I (s2.trans s3) hp
theorem sc57 : FnScope ["instance", "max_thickness"] ["instance", "max_thickness"] (defScope (topS 57)) := ⟨rfl, rfl, rfl, by decide +kernel, rfl, by decide +kernel, by decide +kernel⟩
theorem h_withMax (D : Df K mg "cheapest_with_max_thickness" (topS 57) ["instance", "max_thickness"]) (N : Cn mg) (T : ICl K mg C)
    (hM : ∀ {base : Heap}, Has P w K mg base (L2.CX P w) 4 "check_at_most" ["number", "most"] (spAtMost K R)) (hA : ∀ {base : Heap}, Has P w K mg base (L2.CX P w) 9 "cheapest_answer" ["growths", "max_thickness", "trip_cost"] (spCA K R)) :
    Has P w K mg base (L2.CX P w) 10 "cheapest_with_max_thickness" ["instance", "max_thickness"] (spOp1 K R C .cheapestWithMaxThickness) := by
  refine has_mk D fun f fd F => F.okX sc57 (fun vs H Q E h => ?_) (fun cdv A outer s H vs Q E hr h => ⟨_, pss_cons (ps_expr (pe_H hM (hr.mono (by decide)) (passC (takes_of rfl rfl rfl rfl)) (pa_cons (pv 1) (pa_cons (pe_cn N.thick) pa_nil))))
    (pss_one (ps_ret (pe_H hA (hr.mono (by decide)) (passC (takes_of rfl rfl rfl rfl)) (pa_cons (pe_fld (pv 0) rfl) (pa_cons (pv 1) (pa_cons (pe_fld (pv 0) rfl) pa_nil)))))), ?_⟩)
  · obtain ⟨a, g, b, m, x, rfl, _⟩ := h
    rfl
  · obtain ⟨a, g, b, m, x, rfl, I, wf, o⟩ := h
    obtain ⟨dx, ha⟩ := I.obj
    refine ⟨_, rfl, x, 999, rfl, fun c2 => ?_, fun c2 => o.2 (-22) (by rw [st_withMax, if_pos c2])⟩
    refine ⟨_, rfl, a, C, dx, _, _, rfl, ha, T.cl, T.nG, iF_g _ _ _ _, _, rfl, ?_⟩
    refine ⟨_, rfl, a, C, dx, _, _, rfl, ha, T.cl, T.nT, iF_t _ _ _ _, g, { m with maxThickness := x }, rfl, SqL.of I.gr, wf.limit (by omega), fun e => ?_, fun q H1 p e s3 hp => ?_⟩
    · exact o.2 (-33) (by rw [st_withMax, if_neg (by omega), cheapest_eq, e]; rfl)
    · exact o.tell (r := ⟨((q.2.length : Nat) : Int), [((cost m.tripCost q : Nat) : Int)]⟩) (by rw [st_withMax, if_neg (by omega), cheapest_eq, e]; rfl) I s3 hp
/-! ### balanced_effort -/
theorem sc58 : FnScope ["instance", "k", "day_count", "shorter", "longer_count"] ["instance", "k"] (defScope (topS 58)) := ⟨rfl, rfl, rfl, by decide +kernel, rfl, by decide +kernel, by decide +kernel⟩
theorem h_bal (D : Df K mg "balanced_effort" (topS 58) ["instance", "k"]) (B : Bi mg) (T : ICl K mg C) (hA : ∀ {base : Heap}, Has P w K mg base (L2.CX P w) 4 "check_between" ["number", "least", "most"] (spBetween K R))
    (hF : ∀ {base : Heap}, Has P w K mg base CX0 1 "effort_of" ["thickness"] spEff) : Has P w K mg base (L2.CX P w) 9 "balanced_effort" ["instance", "k"] (spOp1 K R C .balancedEffort) := by
  refine has_mk D fun f fd F => F.okX sc58 (fun vs H Q E h => ?_) (fun cdv A outer s H vs Q E hr h => ⟨_, pss_cons (ps_set (i := 2) sc58.nd rfl (Or.inl rfl) (pe_callB call_len (by rfl) B.len boot_len (pa_cons (pe_fld (pv 0) rfl) pa_nil)))
    (pss_cons (ps_expr (pe_H hA (hr.mono (by decide)) (passC (takes_of rfl rfl rfl rfl)) (pa_cons (pv 1) (pa_cons pe_int (pa_cons (pv 2) pa_nil)))))
    (pss_cons (ps_set (i := 3) sc58.nd rfl (Or.inl rfl) (pe_op op_fdiv (pv 2) (pv 1)))
    (pss_cons (ps_set (i := 4) sc58.nd rfl (Or.inl rfl) (pe_op op_mod (pv 2) (pv 1)))
    (pss_one (ps_ret (pe_lst (pa_cons (pe_op op_add (pe_op op_mul (pv 4) (pe_H hF (hr.mono (by decide)) pass0 (pa_cons (pe_op op_add (pv 3) pe_int) pa_nil)))
      (pe_op op_mul (pe_op op_sub (pv 1) (pv 4)) (pe_H hF (hr.mono (by decide)) pass0 (pa_cons (pv 3) pa_nil)))) pa_nil))))))), ?_⟩)
  · obtain ⟨a, g, b, m, x, rfl, _⟩ := h
    rfl
  · obtain ⟨a, g, b, m, k, rfl, I, wf, o⟩ := h
    obtain ⟨dx, ha⟩ := I.obj
    have hl := wf.len
    refine ⟨_, rfl, a, C, dx, _, _, rfl, ha, T.cl, T.nG, iF_g _ _ _ _, _, _, rfl, .inl ⟨_, SqL.of I.gr, rfl⟩, ?_⟩
    rw [nV_len]
    refine ⟨_, rfl, _, rfl, k, 1, m.growth.length, rfl, fun c1 c2 => ?_, fun c => o.2 (-22) (by rw [st_balanced, if_pos (by omega)])⟩
    obtain ⟨q, hq⟩ : ∃ q, q = m.growth.length / k := ⟨_, rfl⟩
    obtain ⟨r, hr'⟩ : ∃ r, r = m.growth.length % k := ⟨_, rfl⟩
    have eq : (m.growth.length : Int) / (k : Int) = (q : Nat) := by rw [hq, Int.natCast_ediv]
    have er : (m.growth.length : Int) % (k : Int) = (r : Nat) := by rw [hr', Int.natCast_emod]
    have hrk : r < k := by rw [hr']; exact Nat.mod_lt _ (by omega)
    have hqn : q ≤ m.growth.length := by rw [hq]; exact Nat.div_le_self _ _
    refine ⟨_, rfl, _, rfl, _, _, rfl, rfl, ⟨by omega, by omega⟩, ?_⟩
    refine ⟨_, rfl, _, rfl, _, _, rfl, rfl, (by show (0 : Int) < (k : Int); omega), ?_⟩
    refine ⟨_, rfl, _, rfl, _, _, rfl, rfl, q + 1, (by show [V.int ((m.growth.length : Int) / (k : Int) + 1)] = [V.int ((q + 1 : Nat) : Int)]; rw [eq]; rfl), by omega, ?_⟩
    refine ⟨_, _, rfl, rfl, .inl ⟨by rw [er]; omega, by rw [er]; omega⟩, ?_⟩
    refine ⟨_, rfl, _, rfl, _, _, rfl, rfl, _, rfl, q, (by show [V.int ((m.growth.length : Int) / (k : Int))] = [V.int ((q : Nat) : Int)]; rw [eq]), by omega, ?_⟩
    refine ⟨_, _, rfl, rfl, .inl ⟨by rw [er]; omega, by rw [er]; omega⟩, _, _, rfl, rfl, (by show 1 ≤ sizeLine; decide), fun p hp => ?_⟩
    have z := o.tell (r := Km562.number (r * ((q + 1) * (q + 1)) + (k - r) * (q * q) : Nat)) (by rw [st_balanced, if_neg (by omega)]; unfold Km562.balancedSquares; rw [← hq, ← hr']) I (Same.refl H) hp
    have ee : ((m.growth.length : Int) % (k : Int)) * (((q + 1) * (q + 1) : Nat) : Int) + ((k : Int) - (m.growth.length : Int) % (k : Int)) * ((q * q : Nat) : Int) = ((r * ((q + 1) * (q + 1)) + (k - r) * (q * q) : Nat) : Int) := by
      rw [er, Int.natCast_add, Int.natCast_mul r ((q + 1) * (q + 1)), Int.natCast_mul (k - r) (q * q), Int.natCast_sub (Nat.le_of_lt hrk)]
    show Q (.ref p) (upd H p (.lst [V.int (((m.growth.length : Int) % (k : Int)) * (((q + 1) * (q + 1) : Nat) : Int) + ((k : Int) - (m.growth.length : Int) % (k : Int)) * ((q * q : Nat) : Int))]))
    rw [ee]
    exact z
end
end Ice

namespace Ice
open PySem PySem.Spec PyProof.Rows L2 IceX
/-! ### a table of the top: whole numbers, and defs by their names -/
def tabOk (mg : Str → Option Value) : List DictEntry → List (Nat × Str) → Prop
  | [], [] => True
  | e :: es, (k, x) :: r => (∃ t, e.key = .int (k : Int) t) ∧ e.hash = hashInt (k : Int) ∧ mg x = some e.val ∧ tabOk mg es r
  | _, _ => False
def Tab (K : PySem.W.Frag) (mg : Str → Option Value) (x : Str) (tb : List (Nat × Str)) : Prop :=
  ∃ d es n, mg x = some (.ref d) ∧ K.lookup d = some ⟨.type "dict", none, .dict es n, #[]⟩ ∧ (d == sysModules) = false ∧ tabOk mg es.toList tb
theorem tab_keys {mg : Str → Option Value} : ∀ {es : List DictEntry} {tb : List (Nat × Str)}, tabOk mg es tb → ∀ e ∈ es, ∃ (k : Int) (t : Tok), e.key = .int k t ∧ e.hash = hashInt k
  | [], _, _, e, h => absurd h (by simp)
  | e0 :: es, (k, x) :: r, ⟨⟨t, h1⟩, h2, _, h4⟩, e, h => by
    rcases List.mem_cons.mp h with z | z
    · rw [z]; exact ⟨_, t, h1, h2⟩
    · exact tab_keys h4 e z
theorem tab_find {mg : Str → Option Value} : ∀ {es : List DictEntry} {tb : List (Nat × Str)} (p : Nat), tabOk mg es tb → findBy Value.isInt es.toArray (p : Int) = (tb.lookup p).bind mg
  | [], [], _, _ => rfl
  | e0 :: es, (k, x) :: r, p, ⟨⟨t, h1⟩, _, h3, h4⟩ => by
    have ih := tab_find p h4
    unfold findBy at ih ⊢
    rw [List.find?_toArray] at ih ⊢
    have ek : Value.isInt (p : Int) e0.key = (p == k) := by
      rw [h1]
      by_cases z : p = k
      · rw [z]; simp [Value.isInt]
      · have z2 : ¬ (k : Int) = (p : Int) := fun q => z (Int.ofNat.inj q).symm
        show ((k : Int) == (p : Int)) = (p == k)
        rw [beq_eq_false_iff_ne.mpr z2, beq_eq_false_iff_ne.mpr z]
    rw [List.find?_cons, List.lookup_cons, ek]
    cases e : (p == k) with
    | true => exact h3.symm
    | false => exact ih
theorem tab_map {prog : Program} {w : World} {K : PySem.W.Frag} {mg : Str → Option Value} {h : Heap} {d : Addr} {es : Array DictEntry} {n : Nat} {tb : List (Nat × Str)} (X : K.In h) (hl : K.lookup d = some ⟨.type "dict", none, .dict es n, #[]⟩) (hk : tabOk mg es.toList tb) :
    h.MapOf (intKind prog w) d (fun k => findBy Value.isInt es k) :=
  ⟨_, es, n, X _ _ hl, ⟨rfl, rfl, rfl⟩, rfl, fun e he => by
    obtain ⟨k, t, e1, e2⟩ := tab_keys hk e (Array.mem_toList_iff.mpr he)
    exact ⟨k, by rw [e1]; exact intKind_is prog w k t, e2⟩, fun _ => rfl⟩
def rInT (mg : Str → Option Value) (d : Addr) (tb : List (Nat × Str)) : R2 := fun x y H Q => ∃ p : Nat, x = .int (p : Int) ∧ y = .ref d ∧ Q (.bl ((tb.lookup p).bind mg).isSome) H
def rGetT (mg : Str → Option Value) (d : Addr) (tb : List (Nat × Str)) : R2 := fun x y H Q => ∃ (p : Nat) (f : Addr), x = .ref d ∧ y = .int (p : Int) ∧ (tb.lookup p).bind mg = some (.ref f) ∧ Q (.ref f) H
section
variable {X : Cx} {d : Addr} {es : Array DictEntry} {n : Nat} {tb : List (Nat × Str)}
theorem op_inT (hl : X.K.lookup d = some ⟨.type "dict", none, .dict es n, #[]⟩) (lo : (d == sysModules) = false) (hk : tabOk X.mg es.toList tb) : OpR X (compareOp .In) (rInT X.mg d tb) := by
  intro pins s σ H x y v u Q I rx ry h
  obtain ⟨p, rfl, rfl, q⟩ := h
  obtain ⟨t, rfl⟩ := rx
  cases ry
  refine wpAny_in_of (intKind_is X.prog X.w (p : Int) t) lo (tab_map (prog := X.prog) I.kIn hl hk) ?_
  have e := tab_find p hk
  rw [Array.toArray_toList] at e
  rw [e]
  exact ⟨.bl ((tb.lookup p).bind X.mg).isSome, H, I.tok _, rfl, q⟩
theorem ix_T (hl : X.K.lookup d = some ⟨.type "dict", none, .dict es n, #[]⟩) (hk : tabOk X.mg es.toList tb) : IxR X (rGetT X.mg d tb) := by
  intro value slice pins s σ H x y v u Q I rx ry h hs
  obtain ⟨p, f, rfl, rfl, e0, q⟩ := h
  obtain rfl : v = Value.ref d := rx
  obtain ⟨t, rfl⟩ := ry
  have hm := tab_map (prog := X.prog) (w := X.w) I.kIn hl hk
  have e := tab_find p hk
  rw [Array.toArray_toList, e0] at e
  exact tail_any hm.typeIs slot_dict_getitem.lookup (wpAny_getItem_of (intKind_is X.prog X.w (p : Int) t) hm e ⟨.ref f, H, I.tok _, rfl, q⟩) hs
end
def t1 : List (Nat × Str) := [(1, "add_day"), (2, "remove_last_day"), (3, "set_growth"), (4, "set_trip_cost"), (5, "set_max_thickness"), (6, "list_growth"), (7, "thickness_between"), (14, "total_growth"), (26, "summary")]
def t2 : List (Nat × Str) := [(8, "add_break"), (9, "remove_break"), (10, "list_breaks"), (11, "thickness_per_break"), (12, "is_valid_schedule"), (13, "schedule_cost"), (25, "thickness_at")]
def t3 : List (Nat × Str) := [(15, "optimal_breaks"), (16, "use_optimal_breaks"), (17, "excess_effort"), (18, "saving_of_break"), (19, "min_break_count"), (20, "cheapest_break_count"), (21, "use_cheapest_breaks"), (22, "cheapest_with_growth"), (23, "cheapest_with_max_thickness"), (24, "balanced_effort")]
def nameOf (p : Nat) : Option Str := match t1.lookup p with
  | some x => some x
  | none => match t2.lookup p with
    | some x => some x
    | none => t3.lookup p
section
variable {P : Program} {w : World} {K : PySem.W.Frag} {mg : Str → Option Value} {base : Heap} {R C : Addr} {CP : Addr}
/-! ### operation_of -/
theorem tab_all {mg : Str → Option Value} {x : Str} {p : Nat} : ∀ {es : List DictEntry} {tb : List (Nat × Str)}, tabOk mg es tb → tb.lookup p = some x → ∃ v, mg x = some v
  | [], [], _, e => by cases e
  | e0 :: es, (k, y) :: r, ⟨_, _, h3, h4⟩, e => by
    rw [List.lookup_cons] at e
    cases c : (p == k) with
    | true => rw [c] at e; cases e; exact ⟨_, h3⟩
    | false => rw [c] at e; exact tab_all h4 e
def spOf (mg : Str → Option Value) : Sp := fun vs H Q _ => ∃ (p : Nat) (x : Str) (f : Addr), vs = [.int p] ∧ nameOf p = some x ∧ mg x = some (.ref f) ∧ Q (.ref f) H
theorem sc72 : FnScope ["number"] ["number"] (defScope (topS 72)) := ⟨rfl, rfl, rfl, by decide +kernel, rfl, by decide +kernel, by decide +kernel⟩
theorem h_of (D : Df K mg "operation_of" (topS 72) ["number"]) (T1 : Tab K mg "DAY_CALLS" t1) (T2 : Tab K mg "SCHEDULE_CALLS" t2) (T3 : Tab K mg "OPTIMUM_CALLS" t3) : Has P w K mg base CX0 1 "operation_of" ["number"] (spOf mg) := by
  obtain ⟨d1, es1, n1, g1, l1, lo1, k1⟩ := T1
  obtain ⟨d2, es2, n2, g2, l2, lo2, k2⟩ := T2
  obtain ⟨d3, es3, n3, g3, l3, lo3, k3⟩ := T3
  refine has_mk D fun f fd F => F.ok sc72 (fun vs H Q E h => ?_) (fun cdv A outer s H vs Q E hr h => ⟨_, pss_cons (ps_if (pt_cmpR (op_inT l1 lo1 k1) (pv 0) (pe_glob (v := .ref d1) (by rfl) g1 rfl) rfl) (pss_one (ps_ret (pe_ix (ix_T l1 k1) (pe_glob (v := .ref d1) (by rfl) g1 rfl) (pv 0) (fun _ _ => rfl)))) pss_nil)
    (pss_cons (ps_if (pt_cmpR (op_inT l2 lo2 k2) (pv 0) (pe_glob (v := .ref d2) (by rfl) g2 rfl) rfl) (pss_one (ps_ret (pe_ix (ix_T l2 k2) (pe_glob (v := .ref d2) (by rfl) g2 rfl) (pv 0) (fun _ _ => rfl)))) pss_nil)
    (pss_one (ps_ret (pe_ix (ix_T l3 k3) (pe_glob (v := .ref d3) (by rfl) g3 rfl) (pv 0) (fun _ _ => rfl))))), ?_⟩)
  · obtain ⟨p, x, f, rfl, _⟩ := h
    rfl
  · obtain ⟨p, x, f, rfl, hx, hf, k⟩ := h
    refine ⟨_, rfl, p, rfl, rfl, _, rfl, ?_⟩
    unfold nameOf at hx
    cases e1 : t1.lookup p with
    | some y =>
      rw [e1] at hx
      cases hx
      refine if_true_of (by show (mg x).isSome = true; rw [hf]; rfl) ?_
      exact ⟨_, rfl, p, f, rfl, rfl, by rw [e1]; exact hf, k⟩
    | none =>
      rw [e1] at hx
      refine if_false_of (by rfl) ?_
      refine ⟨_, rfl, p, rfl, rfl, _, rfl, ?_⟩
      cases e2 : t2.lookup p with
      | some y =>
        rw [e2] at hx
        cases hx
        refine if_true_of (by show (mg x).isSome = true; rw [hf]; rfl) ?_
        exact ⟨_, rfl, p, f, rfl, rfl, by rw [e2]; exact hf, k⟩
      | none =>
        rw [e2] at hx
        refine if_false_of (by rfl) ?_
        have hx' : t3.lookup p = some x := hx
        exact ⟨_, rfl, p, f, rfl, rfl, by rw [hx']; exact hf, k⟩
/-! ### run_call -/
/-- a def that a slot holds -/
def HeldX (P : Program) (w : World) (K : PySem.W.Frag) (mg : Str → Option Value) (base : Heap) (k : Nat) (f : Addr) (sp : Sp) : Prop := ∃ fd ps, FnOk P w K mg base (L2.CX P w) k f fd ps sp ∧ PySem.W.keepIn K (.ref f) = true ∧ Binds K fd ps []
theorem Has.held {k j : Nat} {x : Str} {ps : List Str} {sp : Sp} (D : Has P w K mg base (L2.CX P w) k x ps sp) (h : k ≤ j) {f : Addr} (e : mg x = some (.ref f)) : HeldX P w K mg base j f sp := by
  obtain ⟨f', fd, m, F, kp, b⟩ := D
  rw [e] at m
  cases m
  exact ⟨fd, ps, F.mono h, kp, b⟩
def tX (i : Nat) (G : Addr → Sp → Prop) (E : XK) (t : TA) : TE := fun σ H Q => ∃ f sp, σ[i]? = some (some (.ref f)) ∧ G f sp ∧ t σ H fun vs H1 => sp vs H1 Q E
theorem pe_X {X : Cx} {k i : Nat} {E : XK} {x : Str} {p pos : Pos} {e : Expr} {es : List Expr} {t : TA} (hr : Room k X.A) (hx : Passes (L2.CX X.prog X.w) X E) (ha : PA X (e :: es) t) (hN : X.N[i]? = some x := by rfl)
    (hv : Vis X.env.scope x := by first | exact Or.inl rfl | exact Or.inr (Or.inl rfl) | exact Or.inr (Or.inr rfl))
    (hdb : (x == ("__debug__" : Str)) = false := by decide) (hcd : (x == ("__classdict__" : Str)) = false := by decide)
    (he : starEach (e :: es) X.env = (false, eval e X.env) :: starEach es X.env := by rfl) (hpl : (backTo pos (starEach es X.env)).any (·.1) = false := by rfl) :
    PE X (.Call (.Name x p) (e :: es) [] pos) (tX i (HeldX X.prog X.w X.K X.mg X.base k) E t) := by
  refine ⟨fun pins s σ H Q I h => ?_⟩
  obtain ⟨f, sp, hs, ⟨fd, ps, F, hk, hb⟩, ht⟩ := h
  refine wpAny_Call_Name_kw (thn ((pe_var (pos := p) hN hv hdb hcd).run pins s σ H (fun v H1 => v = .ref f ∧ H1 = H) I ⟨.ref f, hs, rfl, rfl⟩) fun u s1 ⟨v, H1, I1, r1, q1⟩ => ?_)
  obtain ⟨rfl, rfl⟩ := q1
  cases r1
  refine PySem.W.callWith_K (h₀ := X.base) I.ok.mod.kin hk (thn (ha.run pos pins s1 σ _ _ I1 ht) fun us s2 ⟨vs, H2, I2, r, q⟩ => ⟨I2.kIn, ?_⟩) he hpl
  exact run_fn (ds := []) (dvs := []) F hr hb .nil hx I2 r (by rw [List.append_nil]; exact q)
/-- every operation keeps its promise -/
def Ops (P : Program) (w : World) (K : PySem.W.Frag) (mg : Str → Option Value) (base : Heap) (R C : Addr) : Prop := ∀ p as c, callOf p as = some c → ∃ x f sp, nameOf p = some x ∧ mg x = some (.ref f) ∧ HeldX P w K mg base 10 f sp ∧
  ∀ a g b m H Q E, InstAt C H a g b m → WF m → Op K R C a g b m H Q E c → sp (.ref a :: nV as) H Q E
def spRun (K : PySem.W.Frag) (R C : Addr) : Sp := fun vs H Q E => ∃ (v : V) (gv : Addr) (p : Nat) (as : List Nat), vs = [v, .int p, .ref gv] ∧ SqL K H gv (nV as) ∧ as.length ≤ 2 ∧
  ((v = .non ∧ ErrOut K R H E (-11)) ∨ ∃ a g b m c, v = .ref a ∧ InstAt C H a g b m ∧ WF m ∧ callOf p as = some c ∧ Op K R C a g b m H Q E c)
theorem sc73 : FnScope ["instance", "number", "given", "operation"] ["instance", "number", "given"] (defScope (topS 73)) := ⟨rfl, rfl, rfl, by decide +kernel, rfl, by decide +kernel, by decide +kernel⟩
theorem h_run (D : Df K mg "run_call" (topS 73) ["instance", "number", "given"]) (B : Bi mg) (hO : ∀ {base : Heap}, Has P w K mg base CX0 1 "operation_of" ["number"] (spOf mg)) (hE : ∀ {base : Heap}, CanRaise P w K mg base R "NoInstance" (-11))
    (O : ∀ {base : Heap}, Ops P w K mg base R C) : Has P w K mg base (L2.CX P w) 11 "run_call" ["instance", "number", "given"] (spRun K R C) := by
  refine has_mk D fun f fd F => F.okX sc73 (fun vs H Q E h => ?_) (fun cdv A outer s H vs Q E hr h => ⟨_, pss_cons (ps_if (pt_cmp (pc_isN (pv 0))) (pss_one (ps_R hE (hr.mono (by decide)) (takes_of rfl rfl rfl rfl))) pss_nil)
    (pss_cons (ps_set (i := 3) sc73.nd rfl (Or.inl rfl) (pe_H hO (hr.mono (by decide)) pass0 (pa_cons (pv 1) pa_nil)))
    (pss_cons (ps_if (pt_cmpR op_eq (pe_callB call_len (by rfl) B.len boot_len (pa_cons (pv 2) pa_nil)) pe_int (nomark _)) (pss_one (ps_ret (pe_X (i := 3) hr (passC (takes_of rfl rfl rfl rfl)) (pa_cons (pv 0) pa_nil)))) pss_nil)
    (pss_cons (ps_if (pt_cmpR op_eq (pe_callB call_len (by rfl) B.len boot_len (pa_cons (pv 2) pa_nil)) pe_int (nomark _)) (pss_one (ps_ret (pe_X (i := 3) hr (passC (takes_of rfl rfl rfl rfl)) (pa_cons (pv 0) (pa_cons (pe_ix ix_list (pv 2) pe_int (fun _ _ => rfl)) pa_nil))))) pss_nil)
    (pss_one (ps_ret (pe_X (i := 3) hr (passC (takes_of rfl rfl rfl rfl)) (pa_cons (pv 0) (pa_cons (pe_ix ix_list (pv 2) pe_int (fun _ _ => rfl)) (pa_cons (pe_ix ix_list (pv 2) pe_int (fun _ _ => rfl)) pa_nil))))))))), ?_⟩)
  · obtain ⟨v, gv, p, as, rfl, _⟩ := h
    rfl
  · obtain ⟨v, gv, p, as, rfl, hg, hz, h⟩ := h
    refine ⟨_, rfl, _, rfl, ?_⟩
    rcases h with ⟨rfl, k⟩ | ⟨a, g, b, m, c, rfl, I, wf, hc, o⟩
    · exact if_true_of (by rfl) fun C' e T' he => k C' e _ T' upd_same (same_new he)
    · refine if_false_of (by rfl) ?_
      obtain ⟨x, fo, sp, hx, hf, hh, hsp⟩ := O p as c hc
      refine ⟨_, rfl, p, x, fo, rfl, hx, hf, ?_⟩
      have hq := hsp a g b m H Q E I wf o
      refine ⟨_, rfl, _, _, rfl, .inl ⟨_, hg, rfl⟩, rfl, _, rfl, ?_⟩
      rw [nV_len]
      match as, hz, hg, hq with
      | [], _, hg, hq =>
        refine if_true_of (by rfl) ?_
        exact ⟨fo, sp, rfl, hh, _, rfl, hq⟩
      | [y], _, hg, hq =>
        refine if_false_of (by rfl) ?_
        refine ⟨_, rfl, _, _, rfl, .inl ⟨_, hg, rfl⟩, rfl, _, rfl, ?_⟩
        refine if_true_of (by rfl) ?_
        exact ⟨fo, sp, rfl, hh, _, rfl, _, rfl, gv, _, _, _, rfl, rfl, hg, (by exact atI_nat (j := 0) (by rfl)), hq⟩
      | [y, z], _, hg, hq =>
        refine if_false_of (by rfl) ?_
        refine ⟨_, rfl, _, _, rfl, .inl ⟨_, hg, rfl⟩, rfl, _, rfl, ?_⟩
        refine if_false_of (by rfl) ?_
        exact ⟨fo, sp, rfl, hh, _, rfl, _, rfl, gv, _, _, _, rfl, rfl, hg, (by exact atI_nat (j := 0) (by rfl)), _, rfl, gv, _, _, _, rfl, rfl, hg, (by exact atI_nat (j := 1) (by rfl)), hq⟩
      | _ :: _ :: _ :: _, hz, _, _ => exact absurd hz (by simp)
end
end Ice

namespace Ice
open PySem PySem.Spec PyProof.Rows L2 IceX
/-- refusal.code, of whatever class the refusal is -/
def tCodeOf (K : PySem.W.Frag) (R a : Addr) (cls : Value) (d : Option Addr) (te : TE) : TE := fun σ H Q => te σ H fun x H1 => x = .ref a ∧ ∃ (C dd : Addr) (v : V), cls = .ref C ∧ ErC K R C ∧ d = some dd ∧ H1 dd = some (.xd [("code", v)]) ∧ Q v H1
theorem pe_codeOf {X : Cx} {R a : Addr} {oe : Obj} {cls : Value} {d : Option Addr} {pn : List (Addr × Obj)} {e : Expr} {te : TE} {pos : Pos}
    (hz : Zc cls d oe) (hf : ∃ vs, oe.data = .fields vs) (he : PE (X.suite a ((a, oe) :: pn)) e te) (hb : attributeBase e "code" X.env (eval e X.env) = eval e X.env := by rfl) :
    PE (X.suite a ((a, oe) :: pn)) (.Attribute e "code" pos) (tCodeOf X.K R a cls d te) := by
  refine ⟨fun pins s σ H Q I h => ?_⟩
  refine attr_of hb (thn (he.run pins s σ H _ I h) fun u s1 hh => ?_)
  obtain ⟨x, H1, I1, rx, ex, C, dd, v, ec, T, ed, ea, q⟩ := hh
  subst ex
  obtain rfl : u = Value.ref a := rx
  subst ec
  subst ed
  obtain ⟨ha, _⟩ := I1.pin (a, oe) (List.mem_append_left _ List.mem_cons_self)
  obtain ⟨vs, hd⟩ := hf
  have hx : ObjOk X.prog X.w H1 s1.heap dd (.xd [("code", v)]) := I1.hok dd _ ea
  obtain ⟨mA, hns, hr⟩ := hx
  obtain ⟨od, ho, hl⟩ := lookIn_ns hns
  have l : List.lookup ("code" : Str) [(("code" : Str), v)] = some v := lk_here
  obtain ⟨u, hu, ru⟩ := RelO.some_of (v := v) (o := mA "code") (by rw [← l]; exact hr "code")
  have J : PySem.W.InstAt s1.heap a oe C (some od) := ⟨ha, hz.1, by unfold PySem.W.notCls; rw [hd] <;> rfl, by rw [hz.2]; exact ho⟩
  exact HandSPX.exc_get I1.kIn J T.xf.ga T.xf.gg T.xf.exC (PySem.W.findObj_own T.xf.hdC T.noC rfl (by rw [hl, hu])) (handed_of ru) ⟨v, H1, I1.tok _, ru, q⟩
section
variable {P : Program} {w : World} {K : PySem.W.Frag} {mg : Str → Option Value} {base : Heap} {R C : Addr} {CP : Addr}
/-! ### answer_of -/
def Ans (C a g b : Addr) (m : Sch) (H : Hp) (Q : VK) (c : Km562.Call) : Prop :=
  ∀ m' r H' b' p, Km562.step (some m) c = (some m', r) → InstAt C H' a g b' m' → (b' = b ∨ H b' = none) → Keep H H' a g b → H p = none → H' p = some (.lst (ans r)) → Q (.ref p) H'
def spAO (K : PySem.W.Frag) (C : Addr) : Sp := fun vs H Q _ => ∃ (v : V) (gv : Addr) (p : Nat) (as : List Nat), vs = [v, .int p, .ref gv] ∧ SqL K H gv (nV as) ∧ as.length ≤ 2 ∧
  ((v = .non ∧ ∀ H' q, Same H H' → H q = none → H' q = some (.lst [V.int (-11)]) → Q (.ref q) H') ∨ ∃ a g b m c, v = .ref a ∧ InstAt C H a g b m ∧ WF m ∧ callOf p as = some c ∧ Ans C a g b m H Q c)
theorem sc74 : FnScope ["instance", "number", "given", "refusal"] ["instance", "number", "given"] (defScope (topS 74)) := ⟨rfl, rfl, rfl, by decide +kernel, rfl, by decide +kernel, by decide +kernel⟩
theorem h_ao (D : Df K mg "answer_of" (topS 74) ["instance", "number", "given"]) (gR : mg "Refusal" = some (.ref R)) (hR : ∀ {base : Heap}, Has P w K mg base (L2.CX P w) 11 "run_call" ["instance", "number", "given"] (spRun K R C)) :
    Has P w K mg base CX0 12 "answer_of" ["instance", "number", "given"] (spAO K C) := by
  obtain ⟨fR, fdR, mR, FR, kR, bR⟩ := hR (base := base)
  refine has_mk D fun f fd F => F.ok sc74 (fun vs H Q E h => ?_) (fun cdv A outer s H vs Q E hr h => ⟨_, pss_one (ps_try_as (i := 3) (tb := fun W => tRet (tCallS (spRun K R C) (WE W) (tCons (tVar 0) (tCons (tVar 1) (tCons (tVar 2) tNil)))))
    (ts := fun a cls d => tRet (tLst (tCons (tCodeOf K R a cls d (tVar 3)) tNil))) (Wout := fun _ _ _ _ => False) rfl rfl sc74.nd rfl rfl ⟨rfl, by decide, Or.inl gR⟩ takes0
    (fun W pn xe tk _ => pss_one (ps_ret (by exact (pe_callS FR hr rfl mR kR bR (fun σ => passAt tk σ) (by exact (pa_cons (pv 0) (pa_cons (pv 1) (pa_cons (pv 2) pa_nil))))))))
    (fun a oe cls d pn hz hf => pss_one (ps_ret (by exact (pe_lst (pa_cons (pe_codeOf (R := R) hz hf (pv 3)) pa_nil)))))), ?_⟩)
  · obtain ⟨v, gv, p, as, rfl, _⟩ := h
    rfl
  · obtain ⟨v, gv, p, as, rfl, hg, hz, h⟩ := h
    refine ⟨_, rfl, _, rfl, _, rfl, v, gv, p, as, rfl, hg, hz, ?_⟩
    rcases h with ⟨rfl, k⟩ | ⟨a, g, b, m, c, rfl, I, wf, hc, k⟩
    · refine .inl ⟨rfl, fun C' d H' T e s1 => ?_⟩
      refine ⟨true, T.te, fun _ x hx => ?_, fun q => Bool.noConfusion q⟩
      refine ⟨_, rfl, rfl, C', d, _, rfl, T, rfl, e, (by show 1 ≤ sizeLine; decide), fun q hq => ?_⟩
      exact k _ q (Same.upd_new s1 hq) (s1.free hq) upd_same
    · refine .inr ⟨a, g, b, m, c, rfl, I, wf, hc, k, fun code he C' d H' T e s1 => ?_⟩
      refine ⟨true, T.te, fun _ x hx => ?_, fun q => Bool.noConfusion q⟩
      refine ⟨_, rfl, rfl, C', d, _, rfl, T, rfl, e, (by show 1 ≤ sizeLine; decide), fun q hq => ?_⟩
      exact k m (Km562.error code) _ b q he (I.same (Same.upd_new s1 hq)) (.inl rfl) (Keep.same (Same.upd_new s1 hq)) (s1.free hq) upd_same
end
end Ice

namespace Ice
open PySem PySem.Spec PyProof.Rows L2 IceX
/-! ### one call's numbers off the list -/
theorem zs_split : ∀ {r : List Nat} {args rest : List Int}, args ++ rest = zs r → ∃ n : Nat, n ≤ r.length ∧ args = zs (r.take n) ∧ rest = zs (r.drop n)
  | r, [], rest, h => ⟨0, Nat.zero_le _, by simp, by simpa using h⟩
  | [], a :: args, rest, h => by simp at h
  | x :: r, a :: args, rest, h => by
    have h' := List.cons.inj (show a :: (args ++ rest) = (x : Int) :: zs r from h)
    obtain ⟨n, h1, h2, h3⟩ := zs_split (r := r) h'.2
    exact ⟨n + 1, Nat.succ_le_succ h1, by rw [h'.1, h2]; rfl, by rw [h3]; rfl⟩
theorem parsed_zs {x : Nat} {r : List Nat} {cs : List (List Int)} (h : Parsed (zs (x :: r)) cs) : ∃ n cs', counts[x]? = some n ∧ n ≤ r.length ∧ cs = ((x : Int) :: zs (r.take n)) :: cs' ∧ Parsed (zs (r.drop n)) cs' := by
  generalize el : zs (x :: r) = l at h
  cases h with
  | nil => cases el
  | cons p args rest cs' hc h' =>
    have e := List.cons.inj (show (x : Int) :: zs r = (p : Int) :: (args ++ rest) from el)
    have ep : x = p := Int.ofNat.inj e.1
    subst ep
    obtain ⟨n, h1, h2, h3⟩ := zs_split e.2.symm
    have hn : args.length = n := by rw [h2, List.length_map, List.length_take]; omega
    refine ⟨n, cs', by rw [← hn]; exact hc, h1, by rw [h2], by rw [← h3]; exact h'⟩
theorem parsed_nil {cs : List (List Int)} (h : Parsed (zs []) cs) : cs = [] := by
  generalize el : zs [] = l at h
  cases h with
  | nil => rfl
  | cons p args rest cs' hc h' => cases el
section
variable {P : Program} {w : World} {K : PySem.W.Frag} {mg : Str → Option Value} {base : Heap} {R C : Addr} {CP : Addr}
/-- PARAMETER_COUNTS -/
def Pc (K : PySem.W.Frag) (mg : Str → Option Value) : Prop := ∃ a, mg "PARAMETER_COUNTS" = some (.ref a) ∧ ∀ H : Hp, SqT K H a (nV counts)
/-- the instance, as the loop holds it; H0: the heap at the entry -/
def StAt (C : Addr) (H0 H : Hp) (q : Addr) (v : V) : Option Sch → Prop
  | none => v = .non
  | some m => ∃ a g b, v = .ref a ∧ InstAt C H a g b m ∧ WF m ∧ H0 a = none ∧ H0 g = none ∧ H0 b = none ∧ q ≠ a ∧ q ≠ g ∧ q ≠ b
theorem InstAt.other {H : Hp} {a g b q : Addr} {o : HO} {m : Sch} (I : InstAt C H a g b m) (h1 : q ≠ a) (h2 : q ≠ g) (h3 : q ≠ b) : InstAt C (upd H q o) a g b m := by
  obtain ⟨dx, e⟩ := I.obj
  exact ⟨⟨dx, by rw [upd_ne (Ne.symm h1)]; exact e⟩, by rw [upd_ne (Ne.symm h2)]; exact I.gr, by rw [upd_ne (Ne.symm h3)]; exact I.br, I.ne⟩
theorem StAt.other {H0 H : Hp} {q : Addr} {v : V} {o : HO} : ∀ {st : Option Sch}, StAt C H0 H q v st → StAt C H0 (upd H q o) q v st
  | none, h => h
  | some _, ⟨a, g, b, e, I, wf, n1, n2, n3, h1, h2, h3⟩ => ⟨a, g, b, e, I.other h1 h2 h3, wf, n1, n2, n3, h1, h2, h3⟩
theorem StAt.same {H0 H H' : Hp} {q : Addr} {v : V} (s : Same H H') : ∀ {st : Option Sch}, StAt C H0 H q v st → StAt C H0 H' q v st
  | none, h => h
  | some _, ⟨a, g, b, e, I, wf, n⟩ => ⟨a, g, b, e, I.same s, wf, n⟩
def spAns (K : PySem.W.Frag) : Sp := fun vs H Q _ => ∃ (a : Addr) (ns : List Int), vs = [.ref a] ∧ SqL K H a (ns.map V.int) ∧ (∀ x ∈ ns, 0 ≤ x) ∧ ns.length ≤ 150 ∧ PyKm562.answers_asked ns = true ∧
  ∀ (H' : Hp) (p : Addr), H' p = some (.lst ((PyKm562.answers ns).map V.int)) → Q (.ref p) H'
theorem sc75 : FnScope ["calls", "answered", "instance", "place", "number", "given", "answer"] ["calls"] (defScope (topS 75)) := ⟨rfl, rfl, rfl, by decide +kernel, rfl, by decide +kernel, by decide +kernel⟩
theorem step_said {st : Option Sch} {x : Nat} {as : List Nat} {cs : List (List Int)} {m' : Sch} {r : List Int} (h : Km562Neutral.step st [(x : Int) :: zs as] = (some m', r)) : said st (((x : Int) :: zs as) :: cs) = (r.length : Int) :: (r ++ said (some m') cs) := by
  rw [said_cons, h]
theorem counts_le {x n : Nat} (h : counts[x]? = some n) : n ≤ 2 := by
  have z : ∀ n ∈ counts, n ≤ 2 := by decide
  exact z n (List.mem_of_getElem? h)
theorem ok_answers {f fI : Addr} {fd fdI : FuncData} (F : Fun K "answers" "answers" (topS 75) f fd) (B : Bi mg) (N : Cn mg) (T : ICl K mg C) (M : Mk K C fI) (FI : Fun K "__init__" "Instance.__init__" (inClass (topS 23) 0) fI fdI) (bI : Binds K fdI ["self"] [])
    (pc : Pc K mg) (hA : ∀ {base : Heap}, Has P w K mg base CX0 12 "answer_of" ["instance", "number", "given"] (spAO K C)) : FnOk P w K mg base CX0 13 f fd ["calls"] (spAns K) := by
  obtain ⟨apc, gpc, hpc⟩ := pc
  have GI : ∀ {base : Heap}, FnOk P w K mg base CX0 1 fI fdI ["self"] (spInst C) := ok_instance FI T N
  refine F.ok sc75 (fun vs H Q E h => ?_) (fun cdv A outer s H vs Q E hr h => ⟨_, pss_cons (ps_set (i := 1) sc75.nd rfl (Or.inl rfl) (pe_lst pa_nil)) (pss_cons (ps_set (i := 2) sc75.nd rfl (Or.inl rfl) (pe_non)) (pss_cons (ps_set (i := 3) sc75.nd rfl (Or.inl rfl) (pe_int)) (pss_cons (ps_while PassesOwn.never (pt_cmpR op_lt (pv 3) (pe_callB call_len (by rfl) B.len boot_len (pa_cons (pv 0) pa_nil)) (nomark _)) (pss_cons (ps_set (i := 4) sc75.nd rfl (Or.inl rfl) (pe_ix ix_list (pv 0) (pv 3) (fun _ _ => rfl))) (pss_cons (ps_set (i := 5) sc75.nd rfl (Or.inl rfl) (pe_slice sl_list (pv 0) (po_some (pe_op op_add (pv 3) pe_int)) (po_some (pe_op op_add (pe_op op_add (pv 3) pe_int) (pe_ix ix_tup (pe_glob (v := .ref apc) (by rfl) gpc rfl) (pv 4) (fun _ _ => rfl)))))) (pss_cons (ps_aug (i := 3) sc75.nd rfl (Or.inl rfl) (pe_op op_add pe_int (pe_callB call_len (by rfl) B.len boot_len (pa_cons (pv 5) pa_nil))) ip_add) (pss_cons (ps_if (pt_cmpR op_eq (pv 4) (pe_cn N.create) (nomark _)) (pss_cons (ps_set (i := 2) sc75.nd rfl (Or.inl rfl) (pe_make0 M GI (hr.mono (by decide)) rfl T.gC bI .nil pass0)) (pss_one (ps_set (i := 6) sc75.nd rfl (Or.inl rfl) (pe_lst (pa_cons pe_int pa_nil))))) (pss_one (ps_set (i := 6) sc75.nd rfl (Or.inl rfl) (pe_H hA hr pass0 (pa_cons (pv 2) (pa_cons (pv 4) (pa_cons (pv 5) pa_nil))))))) (pss_cons (ps_expr (pe_bm PySem.F.plainAttrs_list PySem.F.slot_list_append PySem.F.type_list_append mt_append (pv 1) (pa_cons (pe_callB call_len (by rfl) B.len boot_len (pa_cons (pv 6) pa_nil)) pa_nil))) (pss_one (ps_expr (pe_bm PySem.F.plainAttrs_list PySem.F.slot_list_extend PySem.F.type_list_extend mt_extend (pv 1) (pa_cons (pv 6) pa_nil)))))))))) (pss_one (ps_ret (pv 1)))))), ?_⟩)
  · obtain ⟨a, ns, rfl, _⟩ := h
    rfl
  · obtain ⟨a, ns, rfl, hS, hpos, hlen, hask, k⟩ := h
    obtain ⟨L, rfl⟩ := nats_of hpos
    obtain ⟨cs0, hp0, he0, hb0⟩ := asked_parsed hask
    have hL : L.length ≤ 150 := by
      rw [List.length_map] at hlen
      exact hlen
    rw [he0] at k hb0
    refine ⟨Nat.zero_le _, fun q hq => ?_⟩
    have sq : Same H (upd H q (.lst [])) := same_new hq
    refine while_by (fun σ H' => ∃ (v : V) (pl : Nat) (s4 s5 s6 : Option V) (st : Option Sch) (cs : List (List Int)) (done : List Int), σ = [some (.ref a), some (.ref q), some v, some (.int (pl : Nat)), s4, s5, s6] ∧ Same H H' ∧ pl ≤ L.length ∧
        Parsed (zs (L.drop pl)) cs ∧ H' q = some (.lst (done.map V.int)) ∧ said none cs0 = done ++ said st cs ∧ StAt C H H' q v st)
      (fun (σ : L2.St) (_ : Hp) => match σ[3]? with | some (some (V.int i)) => L.length - i.toNat | _ => 0) ⟨.non, 0, none, none, none, none, cs0, [], rfl, sq, Nat.zero_le _, hp0, upd_same, rfl, rfl⟩ ?_ ?_
    · rintro σ H1 ⟨v, pl, s4, s5, s6, st, cs, done, rfl, s1, hpl, hpa, hq1, hsd, hst⟩
      refine ⟨_, rfl, _, rfl, _, _, rfl, .inl ⟨_, s1.seq hS, rfl⟩, _, _, rfl, rfl, _, rfl, ?_⟩
      rw [nV_len]
      by_cases c : pl < L.length
      · refine if_true_of (decide_eq_true (by omega)) ?_
        obtain ⟨x, hx⟩ : ∃ x, L[pl]? = some x := ⟨_, List.getElem?_eq_getElem c⟩
        have hdrop : L.drop pl = x :: L.drop (pl + 1) := by
          rw [List.drop_eq_getElem_cons c]
          rw [List.getElem?_eq_getElem c] at hx
          rw [Option.some.inj hx]
        rw [hdrop] at hpa
        obtain ⟨n, cs', hcn, hn, ecs, hpa'⟩ := parsed_zs hpa
        have hn' : n ≤ L.length - (pl + 1) := by rw [List.length_drop] at hn; exact hn
        subst ecs
        refine ⟨_, rfl, _, rfl, a, _, _, _, rfl, rfl, s1.seq hS, atI_nat (nV_get hx), ?_⟩
        -- given
        refine ⟨_, rfl, _, rfl, _, _, rfl, rfl, _, rfl, ?_⟩
        refine ⟨_, rfl, _, _, rfl, rfl, ?_⟩
        refine ⟨_, rfl, apc, _, _, _, rfl, rfl, hpc H1, atI_nat (nV_get hcn), _, _, rfl, rfl, _, rfl, a, _, rfl, s1.seq hS, fun gv hgv => ?_⟩
        have eb1 : (pl : Int) + 1 = ((pl + 1 : Nat) : Int) := by omega
        have eb2 : (pl : Int) + 1 + (n : Int) = ((pl + 1 + n : Nat) : Int) := by omega
        have ecut : cutV (nV L) (some ((pl : Int) + 1)) (some ((pl : Int) + 1 + (n : Int))) = nV ((L.drop (pl + 1)).take n) := by
          rw [eb1, show ((pl + 1 : Nat) : Int) + (n : Int) = ((pl + 1 + n : Nat) : Int) by omega, cut_V]
          unfold cut
          rw [show pl + 1 + n - (pl + 1) = n by omega]
        obtain ⟨given, hgiven⟩ : ∃ given, given = (L.drop (pl + 1)).take n := ⟨_, rfl⟩
        rw [← hgiven] at ecut hsd
        have hgn : given.length = n := by rw [hgiven, List.length_take]; omega
        have s2 : Same H1 (upd H1 gv (.lst (cutV (nV L) (some ((pl : Int) + 1)) (some ((pl : Int) + 1 + (n : Int)))))) := same_new hgv
        have hgl : (upd H1 gv (.lst (cutV (nV L) (some ((pl : Int) + 1)) (some ((pl : Int) + 1 + (n : Int)))))) gv = some (.lst (nV given)) := by rw [upd_same, ecut]
        have hst2 := hst.same s2
        have hq2 := s2 _ _ hq1
        have s12 := s1.trans s2
        generalize upd H1 gv (.lst (cutV (nV L) (some ((pl : Int) + 1)) (some ((pl : Int) + 1 + (n : Int))))) = H2 at s2 hgl hst2 hq2 s12
        have ep : (pl : Int) + (1 + ((nV given).length : Nat)) = ((pl + 1 + n : Nat) : Int) := by rw [nV_len, hgn]; omega
        refine ⟨_, rfl, _, rfl, _, _, rfl, .inl ⟨_, SqL.of hgl, rfl⟩, _, _, rfl, rfl, _, _, rfl, rfl, ?_⟩
        refine ⟨_, rfl, rfl, _, rfl, ?_⟩
        have hcn' : counts[x]? = some (zs given).length := by rw [List.length_map, hgn]; exact hcn
        have hdr : L.drop (pl + 1 + n) = (L.drop (pl + 1)).drop n := by rw [List.drop_drop]
        have hpa2 : Parsed (zs (L.drop (pl + 1 + n))) cs' := by rw [hdr]; exact hpa'
        -- what stands behind the turn, from the answer on
        have size : ∀ (r : List Int) (st' : Option Sch), Km562Neutral.step st [(x : Int) :: zs given] = (st', r) → done.length + 1 + r.length ≤ 10000000 ∧ said none cs0 = (done ++ ((r.length : Int) :: r)) ++ said st' cs' := fun r st' hs => by
          have e := hsd
          rw [said_cons, hs] at e
          refine ⟨?_, by rw [e]; simp⟩
          rw [e] at hb0
          simp only [List.length_append, List.length_cons] at hb0
          omega
        by_cases c0 : x = 0
        · refine if_true_of (decide_eq_true (by rw [c0]; rfl)) ?_
          have hs : Km562Neutral.step st [(x : Int) :: zs given] = (some fresh, [0]) := by
            have en : given = [] := by
              rw [c0] at hcn
              have e0 : n = 0 := (Option.some.inj (show some 0 = some n from hcn)).symm
              exact List.eq_nil_of_length_eq_zero (by rw [hgn, e0])
            rw [en, c0]
            exact step_create st
          obtain ⟨z1, z2⟩ := size _ _ hs
          intro ia dx nx nd _
          refine ⟨ia, dx, rfl, upd_same, fun H3 g b I hg hb hk => ⟨rfl, ?_⟩⟩
          have s3 : Same H2 H3 := Same.made nx nd hk
          have neq : ∀ y, (upd (upd H2 dx (.own ia)) ia (.ins C dx [])) y = none → q ≠ y ∧ H y = none := fun y hy => by
            have hya : y ≠ ia := fun z => by rw [z, upd_same] at hy; cases hy
            rw [upd_ne hya] at hy
            have hyd : y ≠ dx := fun z => by rw [z, upd_same] at hy; cases hy
            rw [upd_ne hyd] at hy
            exact ⟨ne_of_none hq2 hy, s12.free hy⟩
          have hst3 : StAt C H H3 q (.ref ia) (some fresh) := ⟨ia, g, b, rfl, I, wf_fresh, s12.free nx, (neq g hg).2, (neq b hb).2, ne_of_none hq2 nx, (neq g hg).1, (neq b hb).1⟩
          refine ⟨(by show 1 ≤ sizeLine; decide), fun ra hra => ?_⟩
          have s34 : Same H3 (upd H3 ra (.lst [V.int 0])) := same_new hra
          have hq4 := s34 _ _ (s3 _ _ hq2)
          have hra4 : (upd H3 ra (.lst [V.int 0])) ra = some (.lst (([0] : List Int).map V.int)) := upd_same
          have hst4 := hst3.same s34
          have s14 := (s12.trans s3).trans s34
          have rq : ra ≠ q := Ne.symm (ne_of_none (s3 _ _ hq2) hra)
          generalize upd H3 ra (.lst [V.int 0]) = H4 at s34 hq4 hra4 hst4 s14
          refine ⟨_, rfl, .inl ⟨rfl, _, SqL.of hq4⟩, _, rfl, _, _, rfl, .inl ⟨_, SqL.of hra4, rfl⟩, q, _, _, rfl, rfl, hq4, (by rw [List.length_map]; exact Nat.lt_of_lt_of_le (show done.length < 10000001 by omega) (by decide)), ?_⟩
          refine ⟨_, rfl, .inl ⟨rfl, _, SqL.of upd_same⟩, _, rfl, q, ra, _, _, rfl, rfl, upd_same, (by rw [upd_ne rq]; exact hra4), ?_, ?_⟩
          · rw [List.length_append, List.length_map, List.length_map]
            exact Nat.le_trans (show done.length + 1 + 1 ≤ 10000001 by simp at z1; omega) (by decide)
          rw [upd_upd]
          refine ⟨⟨.ref ia, pl + 1 + n, some (V.int (x : Nat)), some (V.ref gv), some (V.ref ra), some fresh, cs', done ++ [1, 0], ?_, Same.upd_at s14 hq, by omega, hpa2, ?_, z2, hst4.other⟩, ?_⟩
          · show [some (V.ref a), some (V.ref q), some (V.ref ia), some (V.int ((pl : Int) + (1 + ((nV given).length : Nat)))), some (V.int (x : Nat)), some (V.ref gv), some (V.ref ra)] = _
            rw [ep]
          · rw [upd_same, List.map_append]
            simp
          · show L.length - ((pl : Int) + (1 + ((nV given).length : Nat))).toNat < L.length - ((pl : Nat) : Int).toNat
            rw [ep]
            omega
        · refine if_false_of (decide_eq_false fun z => c0 (Int.ofNat.inj (V.int.inj z))) ?_
          refine ⟨_, rfl, _, rfl, _, rfl, v, gv, x, given, rfl, SqL.of hgl, by rw [hgn]; exact counts_le hcn, ?_⟩
          -- the answer stands at ra, in H4; behind it the two changes of answered
          cases st with
          | none =>
            have ev : v = .non := hst2
            refine .inl ⟨ev, fun H4 ra s24 hra hra4 => ?_⟩
            have hs : Km562Neutral.step none [(x : Int) :: zs given] = (none, [-11]) := step_none hcn' c0
            obtain ⟨z1, z2⟩ := size _ _ hs
            have hq4 := s24 _ _ hq2
            have hst4 : StAt C H H4 q v none := ev
            have s14 := s12.trans s24
            have rq : ra ≠ q := Ne.symm (ne_of_none hq2 hra)
            have hra4' : H4 ra = some (.lst (([-11] : List Int).map V.int)) := hra4
            refine ⟨_, rfl, .inl ⟨rfl, _, SqL.of hq4⟩, _, rfl, _, _, rfl, .inl ⟨_, SqL.of hra4', rfl⟩, q, _, _, rfl, rfl, hq4, (by rw [List.length_map]; exact Nat.lt_of_lt_of_le (show done.length < 10000001 by omega) (by decide)), ?_⟩
            refine ⟨_, rfl, .inl ⟨rfl, _, SqL.of upd_same⟩, _, rfl, q, ra, _, _, rfl, rfl, upd_same, (by rw [upd_ne rq]; exact hra4'), ?_, ?_⟩
            · rw [List.length_append, List.length_map, List.length_map]
              exact Nat.le_trans (show done.length + 1 + 1 ≤ 10000001 by simp at z1; omega) (by decide)
            rw [upd_upd]
            refine ⟨⟨v, pl + 1 + n, some (V.int (x : Nat)), some (V.ref gv), some (V.ref ra), none, cs', done ++ [1, -11], ?_, Same.upd_at s14 hq, by omega, hpa2, ?_, z2, hst4⟩, ?_⟩
            · show [some (V.ref a), some (V.ref q), some v, some (V.int ((pl : Int) + (1 + ((nV given).length : Nat)))), some (V.int (x : Nat)), some (V.ref gv), some (V.ref ra)] = _
              rw [ep]
            · rw [upd_same, List.map_append]
              simp
            · show L.length - ((pl : Int) + (1 + ((nV given).length : Nat))).toNat < L.length - ((pl : Nat) : Int).toNat
              rw [ep]
              omega
          | some m =>
            obtain ⟨ia, g, b, ev, I, wf, n1, n2, n3, q1, q2, q3⟩ := hst2
            obtain ⟨cl, ecl, _⟩ := callOf_some (p := x) (args := given) (by rw [hgn]; exact hcn) c0
            refine .inr ⟨ia, g, b, m, cl, ev, I, wf, ecl, fun m' r H4 b' ra hstep I4 hb' hk hra hra4 => ?_⟩
            have hs : Km562Neutral.step (some m) [(x : Int) :: zs given] = (some m', r.num :: r.nums) := step_call (by rw [hgn]; exact hcn) c0 ecl hstep
            obtain ⟨z1, z2⟩ := size _ _ hs
            obtain ⟨m2, r2, e2, wf2⟩ := step_wf wf cl
            have wf' : WF m' := by
              rw [hstep] at e2
              cases e2
              exact wf2
            have hq4 := hk _ _ hq2 q1 q2 q3
            have s24 : Same H H4 := fun y u e => hk y u (s12 y u e) (fun z => by rw [z, n1] at e; cases e) (fun z => by rw [z, n2] at e; cases e) (fun z => by rw [z, n3] at e; cases e)
            have nb : H b' = none ∧ q ≠ b' := by
              rcases hb' with z | z
              · rw [z]; exact ⟨n3, q3⟩
              · exact ⟨s12.free z, ne_of_none hq2 z⟩
            have hst4 : StAt C H H4 q v (some m') := ⟨ia, g, b', ev, I4, wf', n1, n2, nb.1, q1, q2, nb.2⟩
            have rq : ra ≠ q := Ne.symm (ne_of_none hq2 hra)
            have hra4' : H4 ra = some (.lst ((r.num :: r.nums).map V.int)) := hra4
            refine ⟨_, rfl, .inl ⟨rfl, _, SqL.of hq4⟩, _, rfl, _, _, rfl, .inl ⟨_, SqL.of hra4', rfl⟩, q, _, _, rfl, rfl, hq4, (by rw [List.length_map]; exact Nat.lt_of_lt_of_le (show done.length < 10000001 by omega) (by decide)), ?_⟩
            refine ⟨_, rfl, .inl ⟨rfl, _, SqL.of upd_same⟩, _, rfl, q, ra, _, _, rfl, rfl, upd_same, (by rw [upd_ne rq]; exact hra4'), ?_, ?_⟩
            · rw [List.length_append, List.length_map, List.length_map]
              exact Nat.le_trans (show done.length + 1 + (r.num :: r.nums).length ≤ 10000001 by omega) (by decide)
            rw [upd_upd]
            refine ⟨⟨v, pl + 1 + n, some (V.int (x : Nat)), some (V.ref gv), some (V.ref ra), some m', cs', done ++ (((r.num :: r.nums).length : Int) :: (r.num :: r.nums)), ?_, Same.upd_at s24 hq, by omega, hpa2, ?_, z2, hst4.other⟩, ?_⟩
            · show [some (V.ref a), some (V.ref q), some v, some (V.int ((pl : Int) + (1 + ((nV given).length : Nat)))), some (V.int (x : Nat)), some (V.ref gv), some (V.ref ra)] = _
              rw [ep]
            · rw [upd_same, List.map_append]
              simp
            · show L.length - ((pl : Int) + (1 + ((nV given).length : Nat))).toNat < L.length - ((pl : Nat) : Int).toNat
              rw [ep]
              omega
      · refine if_false_of (decide_eq_false (by omega)) ?_
        have epl : L.drop pl = [] := List.drop_eq_nil_of_le (by omega)
        rw [epl] at hpa
        have ecs := parsed_nil hpa
        rw [ecs, said_nil, List.append_nil] at hsd
        exact ⟨_, rfl, k H1 q (by rw [hq1, hsd])⟩
    · rintro σ H' Q1 Q2 hQ ⟨v1, e1, v2, e2, x2, n2, e3, l2, i, j, e5, e6, b, e7, qq⟩
      exact ⟨v1, e1, v2, e2, x2, n2, e3, l2, i, j, e5, e6, b, e7, hQ _ _ qq⟩
end
end Ice

namespace Ice
open PySem PySem.Spec PyProof.Rows L2 IceX
section
variable {P : Program} {w : World} {K : PySem.W.Frag} {mg : Str → Option Value} {base : Heap} {R C : Addr} {CP : Addr}
def OpAt (P : Program) (w : World) (K : PySem.W.Frag) (mg : Str → Option Value) (base : Heap) (R C : Addr) (p : Nat) (as : List Nat) (c : Km562.Call) : Prop := ∃ x f sp, nameOf p = some x ∧ mg x = some (.ref f) ∧ HeldX P w K mg base 10 f sp ∧
  ∀ a g b m H Q E, InstAt C H a g b m → WF m → Op K R C a g b m H Q E c → sp (.ref a :: nV as) H Q E
theorem at0 {p k : Nat} {x : Str} {ps : List Str} {c : Km562.Call} (h : Has P w K mg base (L2.CX P w) k x ps (spOp0 K R C c)) (n : nameOf p = some x) (hk : k ≤ 10) : OpAt P w K mg base R C p [] c := by
  have h' := h
  obtain ⟨f, fd, m, _⟩ := h'
  exact ⟨x, f, _, n, m, h.held hk m, fun a g b m H Q E I wf o => ⟨a, g, b, m, rfl, I, wf, o⟩⟩
theorem at1 {p k : Nat} {x : Str} {ps : List Str} {c : Nat → Km562.Call} (h : Has P w K mg base (L2.CX P w) k x ps (spOp1 K R C c)) (n : nameOf p = some x) (hk : k ≤ 10) (y : Nat) : OpAt P w K mg base R C p [y] (c y) := by
  have h' := h
  obtain ⟨f, fd, m, _⟩ := h'
  exact ⟨x, f, _, n, m, h.held hk m, fun a g b m H Q E I wf o => ⟨a, g, b, m, y, rfl, I, wf, o⟩⟩
theorem at2 {p k : Nat} {x : Str} {ps : List Str} {c : Nat → Nat → Km562.Call} (h : Has P w K mg base (L2.CX P w) k x ps (spOp2 K R C c)) (n : nameOf p = some x) (hk : k ≤ 10) (y z : Nat) : OpAt P w K mg base R C p [y, z] (c y z) := by
  have h' := h
  obtain ⟨f, fd, m, _⟩ := h'
  exact ⟨x, f, _, n, m, h.held hk m, fun a g b m H Q E I wf o => ⟨a, g, b, m, y, z, rfl, I, wf, o⟩⟩
theorem ops_mk
    (h1 : Has P w K mg base (L2.CX P w) 9 "add_day" ["instance", "growth"] (spOp1 K R C .addDay))
    (h2 : Has P w K mg base (L2.CX P w) 9 "remove_last_day" ["instance"] (spOp0 K R C .removeLastDay))
    (h3 : Has P w K mg base (L2.CX P w) 9 "set_growth" ["instance", "day", "growth"] (spOp2 K R C .setGrowth))
    (h4 : Has P w K mg base (L2.CX P w) 9 "set_trip_cost" ["instance", "trip_cost"] (spOp1 K R C .setTripCost))
    (h5 : Has P w K mg base (L2.CX P w) 9 "set_max_thickness" ["instance", "max_thickness"] (spOp1 K R C .setMaxThickness))
    (h6 : Has P w K mg base (L2.CX P w) 9 "list_growth" ["instance"] (spOp0 K R C .listGrowth))
    (h7 : Has P w K mg base (L2.CX P w) 9 "thickness_between" ["instance", "first_day", "last_day"] (spOp2 K R C .thicknessBetween))
    (h8 : Has P w K mg base (L2.CX P w) 9 "add_break" ["instance", "day"] (spOp1 K R C .addBreak))
    (h9 : Has P w K mg base (L2.CX P w) 9 "remove_break" ["instance", "day"] (spOp1 K R C .removeBreak))
    (h10 : Has P w K mg base (L2.CX P w) 9 "list_breaks" ["instance"] (spOp0 K R C .listBreaks))
    (h11 : Has P w K mg base (L2.CX P w) 9 "thickness_per_break" ["instance"] (spOp0 K R C .thicknessPerBreak))
    (h12 : Has P w K mg base (L2.CX P w) 9 "is_valid_schedule" ["instance"] (spOp0 K R C .isValidSchedule))
    (h13 : Has P w K mg base (L2.CX P w) 9 "schedule_cost" ["instance"] (spOp0 K R C .scheduleCost))
    (h14 : Has P w K mg base (L2.CX P w) 9 "total_growth" ["instance"] (spOp0 K R C .totalGrowth))
    (h15 : Has P w K mg base (L2.CX P w) 9 "optimal_breaks" ["instance", "break_count"] (spOp1 K R C .optimalBreaks))
    (h16 : Has P w K mg base (L2.CX P w) 9 "use_optimal_breaks" ["instance", "break_count"] (spOp1 K R C .useOptimalBreaks))
    (h17 : Has P w K mg base (L2.CX P w) 9 "excess_effort" ["instance"] (spOp0 K R C .excessEffort))
    (h18 : Has P w K mg base (L2.CX P w) 9 "saving_of_break" ["instance", "k"] (spOp1 K R C .savingOfBreak))
    (h19 : Has P w K mg base (L2.CX P w) 9 "min_break_count" ["instance"] (spOp0 K R C .minBreakCount))
    (h20 : Has P w K mg base (L2.CX P w) 10 "cheapest_break_count" ["instance"] (spOp0 K R C .cheapestBreakCount))
    (h21 : Has P w K mg base (L2.CX P w) 10 "use_cheapest_breaks" ["instance"] (spOp0 K R C .useCheapestBreaks))
    (h22 : Has P w K mg base (L2.CX P w) 10 "cheapest_with_growth" ["instance", "day", "growth"] (spOp2 K R C .cheapestWithGrowth))
    (h23 : Has P w K mg base (L2.CX P w) 10 "cheapest_with_max_thickness" ["instance", "max_thickness"] (spOp1 K R C .cheapestWithMaxThickness))
    (h24 : Has P w K mg base (L2.CX P w) 9 "balanced_effort" ["instance", "k"] (spOp1 K R C .balancedEffort))
    (h25 : Has P w K mg base (L2.CX P w) 9 "thickness_at" ["instance", "day"] (spOp1 K R C .thicknessAt))
    (h26 : Has P w K mg base (L2.CX P w) 9 "summary" ["instance"] (spOp0 K R C .summary))
    : Ops P w K mg base R C := by
  intro p as c h
  unfold callOf at h
  split at h
  · cases h; exact at1 h1 rfl (by decide) _
  · cases h; exact at0 h2 rfl (by decide)
  · cases h; exact at2 h3 rfl (by decide) _ _
  · cases h; exact at1 h4 rfl (by decide) _
  · cases h; exact at1 h5 rfl (by decide) _
  · cases h; exact at0 h6 rfl (by decide)
  · cases h; exact at2 h7 rfl (by decide) _ _
  · cases h; exact at1 h8 rfl (by decide) _
  · cases h; exact at1 h9 rfl (by decide) _
  · cases h; exact at0 h10 rfl (by decide)
  · cases h; exact at0 h11 rfl (by decide)
  · cases h; exact at0 h12 rfl (by decide)
  · cases h; exact at0 h13 rfl (by decide)
  · cases h; exact at0 h14 rfl (by decide)
  · cases h; exact at1 h15 rfl (by decide) _
  · cases h; exact at1 h16 rfl (by decide) _
  · cases h; exact at0 h17 rfl (by decide)
  · cases h; exact at1 h18 rfl (by decide) _
  · cases h; exact at0 h19 rfl (by decide)
  · cases h; exact at0 h20 rfl (by decide)
  · cases h; exact at0 h21 rfl (by decide)
  · cases h; exact at2 h22 rfl (by decide) _ _
  · cases h; exact at1 h23 rfl (by decide) _
  · cases h; exact at1 h24 rfl (by decide) _
  · cases h; exact at1 h25 rfl (by decide) _
  · cases h; exact at0 h26 rfl (by decide)
  · cases h
/-- what the top has left, all told -/
structure Top (K : PySem.W.Frag) (mg : Str → Option Value) (R C CP : Addr) : Prop where
  bi : Bi mg
  cn : Cn mg
  rf : RefD K mg R
  eNoInstance : ErD K mg R "NoInstance" "NoInstance.__init__" (inClass (topS 13) 0)
  eNoSuchDay : ErD K mg R "NoSuchDay" "NoSuchDay.__init__" (inClass (topS 14) 0)
  eNoSuchBreak : ErD K mg R "NoSuchBreak" "NoSuchBreak.__init__" (inClass (topS 15) 0)
  eOutOfRange : ErD K mg R "OutOfRange" "OutOfRange.__init__" (inClass (topS 16) 0)
  eNoDays : ErD K mg R "NoDays" "NoDays.__init__" (inClass (topS 17) 0)
  eBreakThereAlready : ErD K mg R "BreakThereAlready" "BreakThereAlready.__init__" (inClass (topS 18) 0)
  eTooManyDays : ErD K mg R "TooManyDays" "TooManyDays.__init__" (inClass (topS 19) 0)
  eNoValidList : ErD K mg R "NoValidList" "NoValidList.__init__" (inClass (topS 20) 0)
  eScheduleNotValid : ErD K mg R "ScheduleNotValid" "ScheduleNotValid.__init__" (inClass (topS 21) 0)
  ic : ICl K mg C
  pcl : PCl K mg CP
  T1 : Tab K mg "DAY_CALLS" t1
  T2 : Tab K mg "SCHEDULE_CALLS" t2
  T3 : Tab K mg "OPTIMUM_CALLS" t3
  d1 : Df K mg "thickness_of" (topS 1) ["growths", "first_day", "last_day"]
  d2 : Df K mg "effort_of" (topS 2) ["thickness"]
  d3 : Df K mg "thickness_before_break" (topS 3) ["growths", "breaks", "day"]
  d4 : Df K mg "removed_thicknesses" (topS 4) ["growths", "breaks"]
  d5 : Df K mg "effort_of_list" (topS 5) ["growths", "breaks"]
  d6 : Df K mg "is_valid_list" (topS 6) ["growths", "breaks", "max_thickness"]
  d24 : Df K mg "check_day" (topS 24) ["instance", "day"]
  d25 : Df K mg "check_at_most" (topS 25) ["number", "most"]
  d26 : Df K mg "check_between" (topS 26) ["number", "least", "most"]
  d40 : Df K mg "best_plan_from" (topS 40) ["growths", "max_thickness", "first_day", "later_plans"]
  d41 : Df K mg "with_one_break_more" (topS 41) ["growths", "max_thickness", "later_plans"]
  d42 : Df K mg "optimal_plans" (topS 42) ["growths", "max_thickness"]
  d43 : Df K mg "total_cost_of" (topS 43) ["plan", "trip_cost"]
  d44 : Df K mg "cheapest_of" (topS 44) ["plans", "trip_cost"]
  d46 : Df K mg "optimal_plan" (topS 46) ["instance", "break_count"]
  d51 : Df K mg "defined_plans" (topS 51) ["growths", "max_thickness"]
  d53 : Df K mg "cheapest_answer" (topS 53) ["growths", "max_thickness", "trip_cost"]
  d72 : Df K mg "operation_of" (topS 72) ["number"]
  d73 : Df K mg "run_call" (topS 73) ["instance", "number", "given"]
  d74 : Df K mg "answer_of" (topS 74) ["instance", "number", "given"]
  d28 : Df K mg "add_day" (topS 28) ["instance", "growth"]
  d29 : Df K mg "remove_last_day" (topS 29) ["instance"]
  d30 : Df K mg "set_growth" (topS 30) ["instance", "day", "growth"]
  d31 : Df K mg "set_trip_cost" (topS 31) ["instance", "trip_cost"]
  d32 : Df K mg "set_max_thickness" (topS 32) ["instance", "max_thickness"]
  d33 : Df K mg "list_growth" (topS 33) ["instance"]
  d34 : Df K mg "thickness_between" (topS 34) ["instance", "first_day", "last_day"]
  d61 : Df K mg "add_break" (topS 61) ["instance", "day"]
  d62 : Df K mg "remove_break" (topS 62) ["instance", "day"]
  d63 : Df K mg "list_breaks" (topS 63) ["instance"]
  d64 : Df K mg "thickness_per_break" (topS 64) ["instance"]
  d65 : Df K mg "is_valid_schedule" (topS 65) ["instance"]
  d66 : Df K mg "schedule_cost" (topS 66) ["instance"]
  d35 : Df K mg "total_growth" (topS 35) ["instance"]
  d47 : Df K mg "optimal_breaks" (topS 47) ["instance", "break_count"]
  d48 : Df K mg "use_optimal_breaks" (topS 48) ["instance", "break_count"]
  d49 : Df K mg "excess_effort" (topS 49) ["instance"]
  d50 : Df K mg "saving_of_break" (topS 50) ["instance", "k"]
  d52 : Df K mg "min_break_count" (topS 52) ["instance"]
  d54 : Df K mg "cheapest_break_count" (topS 54) ["instance"]
  d55 : Df K mg "use_cheapest_breaks" (topS 55) ["instance"]
  d56 : Df K mg "cheapest_with_growth" (topS 56) ["instance", "day", "growth"]
  d57 : Df K mg "cheapest_with_max_thickness" (topS 57) ["instance", "max_thickness"]
  d58 : Df K mg "balanced_effort" (topS 58) ["instance", "k"]
  d67 : Df K mg "thickness_at" (topS 67) ["instance", "day"]
  d36 : Df K mg "summary" (topS 36) ["instance"]
theorem top_ao (T : Top K mg R C CP) : ∀ {base : Heap}, Has P w K mg base CX0 12 "answer_of" ["instance", "number", "given"] (spAO K C) := by
  have thick := fun {base : Heap} => h_thick (P := P) (w := w) (base := base) T.d1 T.bi
  have eff := fun {base : Heap} => h_eff (P := P) (w := w) (base := base) T.d2
  have before := fun {base : Heap} => h_before (P := P) (w := w) (base := base) T.d3 thick
  have removed := fun {base : Heap} => h_removed (P := P) (w := w) (base := base) T.d4 before
  have effL := fun {base : Heap} => h_effL (P := P) (w := w) (base := base) T.d5 T.bi eff removed
  have valid := fun {base : Heap} => h_valid (P := P) (w := w) (base := base) T.d6 T.bi removed
  have rNoInstance := fun {base : Heap} => can_NoInstance (P := P) (w := w) (base := base) T.eNoInstance T.rf
  have rNoSuchDay := fun {base : Heap} => can_NoSuchDay (P := P) (w := w) (base := base) T.eNoSuchDay T.rf
  have rNoSuchBreak := fun {base : Heap} => can_NoSuchBreak (P := P) (w := w) (base := base) T.eNoSuchBreak T.rf
  have rOutOfRange := fun {base : Heap} => can_OutOfRange (P := P) (w := w) (base := base) T.eOutOfRange T.rf
  have rNoDays := fun {base : Heap} => can_NoDays (P := P) (w := w) (base := base) T.eNoDays T.rf
  have rBreakThereAlready := fun {base : Heap} => can_BreakThereAlready (P := P) (w := w) (base := base) T.eBreakThereAlready T.rf
  have rTooManyDays := fun {base : Heap} => can_TooManyDays (P := P) (w := w) (base := base) T.eTooManyDays T.rf
  have rNoValidList := fun {base : Heap} => can_NoValidList (P := P) (w := w) (base := base) T.eNoValidList T.rf
  have rScheduleNotValid := fun {base : Heap} => can_ScheduleNotValid (P := P) (w := w) (base := base) T.eScheduleNotValid T.rf
  have cDay := fun {base : Heap} => h_checkDay (P := P) (w := w) (base := base) T.d24 T.bi T.ic rNoSuchDay
  have cMost := fun {base : Heap} => h_atMost (P := P) (w := w) (base := base) T.d25 rOutOfRange
  have cBet := fun {base : Heap} => h_between (P := P) (w := w) (base := base) T.d26 rOutOfRange
  have best := fun {base : Heap} => h_best (P := P) (w := w) (base := base) T.d40 T.bi T.pcl thick eff
  have more := fun {base : Heap} => h_more (P := P) (w := w) (base := base) T.d41 T.bi best
  have plans := fun {base : Heap} => h_plans (P := P) (w := w) (base := base) T.d42 T.bi T.pcl more
  have pcost := fun {base : Heap} => h_pcost (P := P) (w := w) (base := base) T.d43 T.bi T.pcl
  have cheap := fun {base : Heap} => h_cheapest (P := P) (w := w) (base := base) T.d44 pcost
  have opt := fun {base : Heap} => h_opt (P := P) (w := w) (base := base) T.d46 T.bi T.ic cMost plans rNoValidList
  have defd := fun {base : Heap} => h_def (P := P) (w := w) (base := base) T.d51 T.bi plans rNoValidList
  have ca := fun {base : Heap} => h_ca (P := P) (w := w) (base := base) T.d53 T.bi T.pcl defd cheap pcost
  have ops : ∀ {base : Heap}, Ops P w K mg base R C := fun {base} => ops_mk
    (h_addDay T.d28 T.bi T.cn T.ic cMost rTooManyDays)
    (h_popDay T.d29 T.bi T.ic rNoDays)
    (h_setGrowth T.d30 T.cn T.ic cDay cMost)
    (h_setTrip T.d31 T.cn T.ic cMost)
    (h_setMax T.d32 T.cn T.ic cMost)
    (h_listGrowth T.d33 T.bi T.ic)
    (h_between2 T.d34 T.ic cDay thick eff rOutOfRange)
    (h_addBreak T.d61 T.bi T.ic cDay before rBreakThereAlready)
    (h_remBreak T.d62 T.bi T.ic rNoSuchBreak)
    (h_listBreaks T.d63 T.bi T.ic)
    (h_perBreak T.d64 T.bi T.ic removed)
    (h_isValid T.d65 T.ic valid)
    (h_cost T.d66 T.bi T.ic effL)
    (h_total T.d35 T.bi T.ic)
    (h_optB T.d47 T.pcl opt)
    (h_useO T.d48 T.ic T.pcl opt)
    (h_excess T.d49 T.bi T.ic T.pcl opt valid effL rScheduleNotValid)
    (h_saving T.d50 T.bi T.cn T.ic T.pcl cBet plans)
    (h_min T.d52 T.bi T.ic T.pcl defd)
    (h_cheap T.d54 T.ic ca)
    (h_useCheap T.d55 T.ic T.pcl defd cheap pcost)
    (h_withGrowth T.d56 T.bi T.cn T.ic cDay cMost ca)
    (h_withMax T.d57 T.cn T.ic cMost ca)
    (h_bal T.d58 T.bi T.ic cBet eff)
    (h_at T.d67 T.ic cDay before)
    (h_summary T.d36 T.bi T.ic)
  have oper := fun {base : Heap} => h_of (P := P) (w := w) (base := base) T.d72 T.T1 T.T2 T.T3
  have run := fun {base : Heap} => h_run (P := P) (w := w) (base := base) T.d73 T.bi oper rNoInstance ops
  exact fun {base} => h_ao T.d74 T.rf.gR run
/-! ### off the written part -/
theorem df_mk {h : Heap} {x : Str} {st : Stmt} {ps : List Str} {f : Addr} {oc : Value} {od an : Option Addr} {osl : Array (Option Value)} {kV doc pm cdv ct : Value} (X : K.In h) (G : h.Ns mainGlobals mg) (a : PySem.W.nsIn K mainGlobals x = some (some (.ref f)))
    (l : K.lookup f = some ⟨oc, od, .func (PySem.W.fnOf x x (defArgs st) (defBody st) (defScope st) .none kV doc pm an cdv ct), osl⟩) (c : PySem.W.codeIn K cdv x = true) (k : PySem.W.keepIn K (.ref f) = true)
    (hb : ∀ (kV doc pm : Value) (an : Option Addr) (cdv ct : Value) (us : List Value), us.length = ps.length → bindArgs (PySem.W.fnOf x x (defArgs st) (defBody st) (defScope st) .none kV doc pm an cdv ct) ⟨us, []⟩ = pure (ps.zip us)) : Df K mg x st ps := by
  have F := fun_mk (st := st) l c k
  exact ⟨f, _, F, PySem.W.mg_of X G a, F.binds hb⟩
theorem exm_sub {S R : Addr} (h1 : PySem.W.subIn K (.ref R) (.type "BaseException") = some true) (h2 : PySem.W.isClsIn K R = true) (h3 : PySem.W.typeIn K (.ref R) = some (.type "type")) (h4 : PySem.W.subIn K (.ref S) (.ref R) = some true) :
    PySem.W.exmOne K (.ref S) (.ref R) = some true := by
  have e1 : (PySem.W.subIn K (.ref R) (.type "BaseException") == some true) = true := by rw [h1] <;> rfl
  have e2 : ((PySem.W.clsIn K R).isSome && PySem.W.typeIn K (.ref R) == some (.type "type")) = true := by
    have h2' : (PySem.W.clsIn K R).isSome = true := h2
    rw [h2', h3] <;> rfl
  show (if (PySem.W.subIn K (.ref R) (.type "BaseException") == some true) = true then (if ((PySem.W.clsIn K R).isSome && PySem.W.typeIn K (.ref R) == some (.type "type")) = true then PySem.W.subIn K (.ref S) (.ref R) else none) else none) = some true
  rw [if_pos e1, if_pos e2]
  exact h4
theorem er_mk {h : Heap} {x q : Str} {st : Stmt} {C f : Addr} {nm qq : Str} {N : Addr} {bs bm : List Value} {sn : List Str} {sub : List Value} {ab : Bool} {col : Option Bool} {dd : Option Addr} {m0 m1 m2 m3 m5 : Option Value}
    {oc : Value} {od an : Option Addr} {osl : Array (Option Value)} {kV doc pm cdv ct : Value} (X : K.In h) (G : h.Ns mainGlobals mg) (a : PySem.W.nsIn K mainGlobals x = some (some (.ref C)))
    (xL : K.lookup C = some (excClassObj nm qq C N bs bm true sn sub ab col dd m0 m1 m2 m3 m5 "Exception.__new__")) (tl : PySem.W.excTail exT bm = true)
    (sa : PySem.W.findIn K (.ref C) "__setattr__" = some (some (.builtin "object.__setattr__"))) (ga : PySem.W.findIn K (.ref C) "__getattribute__" = some (some (.builtin "BaseException.__getattribute__"))) (gg : PySem.W.findIn K (.ref C) "__getattr__" = some none)
    (nc : PySem.W.findIn K (.ref C) "code" = some none) (i : PySem.W.findIn K (.ref C) "__init__" = some (some (.ref f))) (t : PySem.W.typeIn K (.ref f) = some (.type "function"))
    (kC : PySem.W.keepIn K (.ref C) = true) (eC : PySem.W.subIn K (.ref C) (.type "BaseException") = some true) (tC : PySem.W.typeIn K (.ref C) = some (.type "type")) (hC : PySem.W.hasDictIn K C = true)
    (eR : PySem.W.subIn K (.ref R) (.type "BaseException") = some true) (iR : PySem.W.isClsIn K R = true) (tR : PySem.W.typeIn K (.ref R) = some (.type "type")) (sR : PySem.W.subIn K (.ref C) (.ref R) = some true)
    (l : K.lookup f = some ⟨oc, od, .func (PySem.W.fnOf "__init__" q (defArgs st) (defBody st) (defScope st) .none kV doc pm an cdv ct), osl⟩) (c : PySem.W.codeIn K cdv q = true) (k : PySem.W.keepIn K (.ref f) = true)
    (hb : ∀ (kV doc pm : Value) (an : Option Addr) (cdv ct : Value) (us : List Value), us.length = (["self"] : List Str).length → bindArgs (PySem.W.fnOf "__init__" q (defArgs st) (defBody st) (defScope st) .none kV doc pm an cdv ct) ⟨us, []⟩ = pure ((["self"] : List Str).zip us)) :
    ErD K mg R x q st := by
  have F := fun_mk (st := st) l c k
  exact ⟨C, f, _, PySem.W.mg_of X G a, ⟨⟨nm, qq, N, bs, bm, sn, sub, ab, col, dd, m0, m1, m2, m3, m5, xL, tl⟩, sa, nc, eC, tC, kC, ⟨ga, gg, eC, hC⟩, exm_sub eR iR tR sR⟩, i, t, F, F.binds hb⟩
theorem rf_mk {h : Heap} {f : Addr} {oc : Value} {od an : Option Addr} {osl : Array (Option Value)} {kV doc pm cdv ct : Value} (X : K.In h) (G : h.Ns mainGlobals mg) (a : PySem.W.nsIn K mainGlobals "Refusal" = some (some (.ref R)))
    (rd : PySem.W.readsIn K R (.type "type") = true) (ga : PySem.W.specialIn K (.ref R) "__getattribute__" = some (some (.builtin "type.__getattribute__"))) (fc : PySem.W.findCls K (.ref R) (.type "type") "__init__" = some (.val (.ref f)))
    (l : K.lookup f = some ⟨oc, od, .func (PySem.W.fnOf "__init__" "Refusal.__init__" (defArgs (inClass (topS 12) 0)) (defBody (inClass (topS 12) 0)) (defScope (inClass (topS 12) 0)) .none kV doc pm an cdv ct), osl⟩) (c : PySem.W.codeIn K cdv "Refusal.__init__" = true)
    (k : PySem.W.keepIn K (.ref f) = true) : RefD K mg R := by
  have F := fun_mk (st := inClass (topS 12) 0) l c k
  exact ⟨PySem.W.mg_of X G a, rd, ga, f, _, F, fc, F.binds (ps := ["self", "code"]) fun _ _ _ _ _ _ us hl => match us, hl with | [_, _], _ => rfl⟩
theorem cls_mk {C : Addr} (pg : PySem.W.plainGet K C Str.empty = true) (hd : PySem.W.hasDictIn K C = true) (po : PySem.W.plainOver K C = true) (sa : PySem.W.findIn K (.ref C) "__setattr__" = some (some (.builtin "object.__setattr__"))) : Cls K C := ⟨pg, hd, po, sa⟩
theorem pcl_mk {h : Heap} {CP f : Addr} {oc : Value} {od an : Option Addr} {osl : Array (Option Value)} {kV doc pm cdv ct : Value} (X : K.In h) (G : h.Ns mainGlobals mg) (a : PySem.W.nsIn K mainGlobals "Plan" = some (some (.ref CP))) (cl : Cls K CP)
    (nE : PySem.W.findIn K (.ref CP) "effort" = some none) (nB : PySem.W.findIn K (.ref CP) "breaks" = some none) (mk : PySem.W.makesIn K CP = true) (i : PySem.W.findIn K (.ref CP) "__init__" = some (some (.ref f))) (fn : PySem.W.isFn K (.ref f) = true) (kC : PySem.W.keepIn K (.ref CP) = true)
    (l : K.lookup f = some ⟨oc, od, .func (PySem.W.fnOf "__init__" "Plan.__init__" (defArgs (inClass (topS 39) 0)) (defBody (inClass (topS 39) 0)) (defScope (inClass (topS 39) 0)) .none kV doc pm an cdv ct), osl⟩) (c : PySem.W.codeIn K cdv "Plan.__init__" = true)
    (k : PySem.W.keepIn K (.ref f) = true) : PCl K mg CP := by
  have F := fun_mk (st := inClass (topS 39) 0) l c k
  exact ⟨cl, nE, nB, PySem.W.mg_of X G a, f, _, ⟨mk, i, fn, kC⟩, F, F.binds (ps := ["self", "effort", "breaks"]) fun _ _ _ _ _ _ us hl => match us, hl with | [_, _, _], _ => rfl⟩
theorem all_pos {l : List Int} {hi : Int} (h : l.all (PySem.W.Codec.inInt 0 hi) = true) : ∀ x ∈ l, 0 ≤ x := fun x hx => (PySem.W.Codec.inInt_iff.mp (List.all_eq_true.mp h x hx)).1
theorem end_mk {h : Heap} {fa f3 fI : Addr} {oc oI : Value} {od an odI anI : Option Addr} {osl oslI : Array (Option Value)} {kV doc pm cdv ct kVI docI pmI cdvI ctI : Value} (X : K.In h) (G : h.Ns mainGlobals mg) (hfa : mg "answers" = some (.ref fa)) (T : Top K mg R C CP) (pc : Pc K mg)
    (mk : PySem.W.makesIn K C = true) (i : PySem.W.findIn K (.ref C) "__init__" = some (some (.ref fI))) (fn : PySem.W.isFn K (.ref fI) = true) (kC : PySem.W.keepIn K (.ref C) = true)
    (lI : K.lookup fI = some ⟨oI, odI, .func (PySem.W.fnOf "__init__" "Instance.__init__" (defArgs (inClass (topS 23) 0)) (defBody (inClass (topS 23) 0)) (defScope (inClass (topS 23) 0)) .none kVI docI pmI anI cdvI ctI), oslI⟩) (cI : PySem.W.codeIn K cdvI "Instance.__init__" = true)
    (kI : PySem.W.keepIn K (.ref fI) = true)
    (a : PySem.W.nsIn K mainGlobals "answers" = some (some (.ref f3))) (l : K.lookup f3 = some ⟨oc, od, .func (PySem.W.fnOf "answers" "answers" (defArgs (topS 75)) (defBody (topS 75)) (defScope (topS 75)) .none kV doc pm an cdv ct), osl⟩) (c : PySem.W.codeIn K cdv "answers" = true)
    (k : PySem.W.keepIn K (.ref f3) = true) :
    ∃ fd : FuncData, (∀ (s : Shared) (us : List Value), us.length = (["calls"] : List Str).length → BindsTo s fd ⟨us, []⟩ ((["calls"] : List Str).zip us)) ∧ ∀ base : Heap, K.In base → base.Ns mainGlobals mg → FnOk P w K mg base CX0 13 fa fd ["calls"] (spAns K) := by
  have e := hfa.symm.trans (PySem.W.mg_of X G a)
  cases e
  have F := fun_mk (st := topS 75) l c k
  have FI := fun_mk (st := inClass (topS 23) 0) lI cI kI
  have bI := FI.binds (ps := ["self"]) fun _ _ _ _ _ _ us hl => match us, hl with | [_], _ => rfl
  exact ⟨_, fun s us hu => match us, hu with | [_], _ => .of_eq rfl, fun base _ _ => ok_answers F T.bi T.cn T.ic ⟨mk, i, fn, kC⟩ FI bI pc (top_ao T)⟩
theorem cn_mk {h : Heap} {k1 k2 k3 k4 k5 : Tok} (X : K.In h) (G : h.Ns mainGlobals mg) (a1 : PySem.W.nsIn K mainGlobals "MOST_DAYS" = some (some (.int 10 k1))) (a2 : PySem.W.nsIn K mainGlobals "MOST_GROWTH" = some (some (.int 30 k2)))
    (a3 : PySem.W.nsIn K mainGlobals "MOST_TRIP_COST" = some (some (.int 9999 k3))) (a4 : PySem.W.nsIn K mainGlobals "MOST_THICKNESS" = some (some (.int 999 k4))) (a5 : PySem.W.nsIn K mainGlobals "CREATE" = some (some (.int 0 k5))) : Cn mg :=
  ⟨⟨k1, PySem.W.mg_of X G a1⟩, ⟨k2, PySem.W.mg_of X G a2⟩, ⟨k3, PySem.W.mg_of X G a3⟩, ⟨k4, PySem.W.mg_of X G a4⟩, ⟨k5, PySem.W.mg_of X G a5⟩⟩
theorem tab_mk {h : Heap} {x : Str} {tb : List (Nat × Str)} {d : Addr} {es : Array DictEntry} {n : Nat} (X : K.In h) (G : h.Ns mainGlobals mg) (a : PySem.W.nsIn K mainGlobals x = some (some (.ref d))) (l : K.lookup d = some ⟨.type "dict", none, .dict es n, #[]⟩)
    (lo : (d == sysModules) = false) (t : tabOk mg es.toList tb) : Tab K mg x tb := ⟨d, es, n, PySem.W.mg_of X G a, l, lo, t⟩
theorem pc_mk {h : Heap} {a : Addr} {o : Obj} {its : Array Value} {n : Nat} (X : K.In h) (G : h.Ns mainGlobals mg) (e : PySem.W.nsIn K mainGlobals "PARAMETER_COUNTS" = some (some (.ref a))) (l : K.lookup a = some o) (h1 : o.cls = .type "tuple") (h2 : o.data = .seq its n)
    (h3 : its.size ≤ sizeLine) (h4 : Vals (nV counts) its.toList) : Pc K mg := ⟨a, PySem.W.mg_of X G e, fun _ => .inr ⟨o, its, n, l, h1, h2, h3, h4⟩⟩
theorem icl_mk {h : Heap} {C : Addr} (X : K.In h) (G : h.Ns mainGlobals mg) (a : PySem.W.nsIn K mainGlobals "Instance" = some (some (.ref C))) (cl : Cls K C) (n1 : PySem.W.findIn K (.ref C) "growths" = some none) (n2 : PySem.W.findIn K (.ref C) "breaks" = some none)
    (n3 : PySem.W.findIn K (.ref C) "trip_cost" = some none) (n4 : PySem.W.findIn K (.ref C) "max_thickness" = some none) : ICl K mg C := ⟨cl, n1, n2, n3, n4, PySem.W.mg_of X G a⟩
theorem all_mk {h : Heap} {fa f3 fI : Addr} {oc oI : Value} {od an odI anI : Option Addr} {osl oslI : Array (Option Value)} {kV doc pm cdv ct kVI docI pmI cdvI ctI : Value} (X : K.In h) (G : h.Ns mainGlobals mg) (hfa : mg "answers" = some (.ref fa))
    (bi : Bi mg) (cn : Cn mg) (T1 : Tab K mg "DAY_CALLS" t1) (T2 : Tab K mg "SCHEDULE_CALLS" t2) (T3 : Tab K mg "OPTIMUM_CALLS" t3) (pc : Pc K mg)
    (d1 : Df K mg "thickness_of" (topS 1) ["growths", "first_day", "last_day"])
    (d2 : Df K mg "effort_of" (topS 2) ["thickness"])
    (d3 : Df K mg "thickness_before_break" (topS 3) ["growths", "breaks", "day"])
    (d4 : Df K mg "removed_thicknesses" (topS 4) ["growths", "breaks"])
    (d5 : Df K mg "effort_of_list" (topS 5) ["growths", "breaks"])
    (d6 : Df K mg "is_valid_list" (topS 6) ["growths", "breaks", "max_thickness"])
    (d24 : Df K mg "check_day" (topS 24) ["instance", "day"])
    (d25 : Df K mg "check_at_most" (topS 25) ["number", "most"])
    (d26 : Df K mg "check_between" (topS 26) ["number", "least", "most"])
    (d40 : Df K mg "best_plan_from" (topS 40) ["growths", "max_thickness", "first_day", "later_plans"])
    (d41 : Df K mg "with_one_break_more" (topS 41) ["growths", "max_thickness", "later_plans"])
    (d42 : Df K mg "optimal_plans" (topS 42) ["growths", "max_thickness"])
    (d43 : Df K mg "total_cost_of" (topS 43) ["plan", "trip_cost"])
    (d44 : Df K mg "cheapest_of" (topS 44) ["plans", "trip_cost"])
    (d46 : Df K mg "optimal_plan" (topS 46) ["instance", "break_count"])
    (d51 : Df K mg "defined_plans" (topS 51) ["growths", "max_thickness"])
    (d53 : Df K mg "cheapest_answer" (topS 53) ["growths", "max_thickness", "trip_cost"])
    (d72 : Df K mg "operation_of" (topS 72) ["number"])
    (d73 : Df K mg "run_call" (topS 73) ["instance", "number", "given"])
    (d74 : Df K mg "answer_of" (topS 74) ["instance", "number", "given"])
    (d28 : Df K mg "add_day" (topS 28) ["instance", "growth"])
    (d29 : Df K mg "remove_last_day" (topS 29) ["instance"])
    (d30 : Df K mg "set_growth" (topS 30) ["instance", "day", "growth"])
    (d31 : Df K mg "set_trip_cost" (topS 31) ["instance", "trip_cost"])
    (d32 : Df K mg "set_max_thickness" (topS 32) ["instance", "max_thickness"])
    (d33 : Df K mg "list_growth" (topS 33) ["instance"])
    (d34 : Df K mg "thickness_between" (topS 34) ["instance", "first_day", "last_day"])
    (d61 : Df K mg "add_break" (topS 61) ["instance", "day"])
    (d62 : Df K mg "remove_break" (topS 62) ["instance", "day"])
    (d63 : Df K mg "list_breaks" (topS 63) ["instance"])
    (d64 : Df K mg "thickness_per_break" (topS 64) ["instance"])
    (d65 : Df K mg "is_valid_schedule" (topS 65) ["instance"])
    (d66 : Df K mg "schedule_cost" (topS 66) ["instance"])
    (d35 : Df K mg "total_growth" (topS 35) ["instance"])
    (d47 : Df K mg "optimal_breaks" (topS 47) ["instance", "break_count"])
    (d48 : Df K mg "use_optimal_breaks" (topS 48) ["instance", "break_count"])
    (d49 : Df K mg "excess_effort" (topS 49) ["instance"])
    (d50 : Df K mg "saving_of_break" (topS 50) ["instance", "k"])
    (d52 : Df K mg "min_break_count" (topS 52) ["instance"])
    (d54 : Df K mg "cheapest_break_count" (topS 54) ["instance"])
    (d55 : Df K mg "use_cheapest_breaks" (topS 55) ["instance"])
    (d56 : Df K mg "cheapest_with_growth" (topS 56) ["instance", "day", "growth"])
    (d57 : Df K mg "cheapest_with_max_thickness" (topS 57) ["instance", "max_thickness"])
    (d58 : Df K mg "balanced_effort" (topS 58) ["instance", "k"])
    (d67 : Df K mg "thickness_at" (topS 67) ["instance", "day"])
    (d36 : Df K mg "summary" (topS 36) ["instance"])
    (rA : PySem.W.nsIn K mainGlobals "Refusal" = some (some (.ref R))) (rf : RefD K mg R)
    (e13 : ErD K mg R "NoInstance" "NoInstance.__init__" (inClass (topS 13) 0))
    (e14 : ErD K mg R "NoSuchDay" "NoSuchDay.__init__" (inClass (topS 14) 0))
    (e15 : ErD K mg R "NoSuchBreak" "NoSuchBreak.__init__" (inClass (topS 15) 0))
    (e16 : ErD K mg R "OutOfRange" "OutOfRange.__init__" (inClass (topS 16) 0))
    (e17 : ErD K mg R "NoDays" "NoDays.__init__" (inClass (topS 17) 0))
    (e18 : ErD K mg R "BreakThereAlready" "BreakThereAlready.__init__" (inClass (topS 18) 0))
    (e19 : ErD K mg R "TooManyDays" "TooManyDays.__init__" (inClass (topS 19) 0))
    (e20 : ErD K mg R "NoValidList" "NoValidList.__init__" (inClass (topS 20) 0))
    (e21 : ErD K mg R "ScheduleNotValid" "ScheduleNotValid.__init__" (inClass (topS 21) 0))
    (cA : PySem.W.nsIn K mainGlobals "Instance" = some (some (.ref C))) (ic : ICl K mg C) (pA : PySem.W.nsIn K mainGlobals "Plan" = some (some (.ref CP))) (pcl : PCl K mg CP)
    (mk : PySem.W.makesIn K C = true) (i : PySem.W.findIn K (.ref C) "__init__" = some (some (.ref fI))) (fn : PySem.W.isFn K (.ref fI) = true) (kC : PySem.W.keepIn K (.ref C) = true)
    (lI : K.lookup fI = some ⟨oI, odI, .func (PySem.W.fnOf "__init__" "Instance.__init__" (defArgs (inClass (topS 23) 0)) (defBody (inClass (topS 23) 0)) (defScope (inClass (topS 23) 0)) .none kVI docI pmI anI cdvI ctI), oslI⟩) (cI : PySem.W.codeIn K cdvI "Instance.__init__" = true)
    (kI : PySem.W.keepIn K (.ref fI) = true)
    (a : PySem.W.nsIn K mainGlobals "answers" = some (some (.ref f3))) (l : K.lookup f3 = some ⟨oc, od, .func (PySem.W.fnOf "answers" "answers" (defArgs (topS 75)) (defBody (topS 75)) (defScope (topS 75)) .none kV doc pm an cdv ct), osl⟩) (c : PySem.W.codeIn K cdv "answers" = true)
    (k : PySem.W.keepIn K (.ref f3) = true) :
    ∃ fd : FuncData, (∀ (s : Shared) (us : List Value), us.length = (["calls"] : List Str).length → BindsTo s fd ⟨us, []⟩ ((["calls"] : List Str).zip us)) ∧ ∀ base : Heap, K.In base → base.Ns mainGlobals mg → FnOk P w K mg base CX0 13 fa fd ["calls"] (spAns K) :=
  end_mk X G hfa ⟨bi, cn, rf, e13, e14, e15, e16, e17, e18, e19, e20, e21, ic, pcl, T1, T2, T3, d1, d2, d3, d4, d5, d6, d24, d25, d26, d40, d41, d42, d43, d44, d46, d51, d53, d72, d73, d74, d28, d29, d30, d31, d32, d33, d34, d61, d62, d63, d64, d65, d66, d35, d47, d48, d49, d50, d52, d54, d55, d56, d57, d58, d67, d36⟩ pc mk i fn kC lI cI kI a l c k
end
end Ice

open PySem PySem.W PyProof.Rows
set_option maxRecDepth 100000 in
set_option maxHeartbeats 0 in
theorem PySem.Challenge.cw_icebreaks_s01_answers_holds : PySem.Challenge.rw_icebreaks_s01_answers.Holds := by
  w_on; k_headS; (case hw => exact ⟨[.list [.int 0]], by decide +kernel, by decide +kernel⟩)
  k_fillS
  refine L2.walk_specK (r := PySem.Challenge.rw_icebreaks_s01_answers) (k := 13) (CX := L2.CX0) (ps := ["calls"]) (sp := Ice.spAns) (by decide +kernel) rfl rfl ⟨rfl, by decide, by decide⟩ (fun w h Y => PySem.W.kIn_of Y) ?F ?S (fun _ _ _ _ z => z)
  case F =>
    intro w mg fa h Y KX G hmg
    have bi : Ice.Bi mg := by
      refine' ⟨PySem.W.mg_none_of KX G ?b1, PySem.W.mg_none_of KX G ?b2, PySem.W.mg_none_of KX G ?b3, PySem.W.mg_none_of KX G ?b4, PySem.W.mg_none_of KX G ?b5, PySem.W.mg_none_of KX G ?b6⟩
      (case b1 => k_is); (case b2 => k_is); (case b3 => k_is); (case b4 => k_is); (case b5 => k_is); (case b6 => k_is)
    have cn : Ice.Cn mg := by
      refine' Ice.cn_mk KX G ?b1 ?b2 ?b3 ?b4 ?b5
      (case b1 => k_is); (case b2 => k_is); (case b3 => k_is); (case b4 => k_is); (case b5 => k_is)
    have d1 : Ice.Df (PySem.Challenge.cw_icebreaks_s01_answers_holds.heap_1 w.params) mg "thickness_of" (Ice.topS 1) ["growths", "first_day", "last_day"] := by
      refine' Ice.df_mk KX G ?a ?l ?c ?k (fun _ _ _ _ _ _ us hl => match us, hl with | [_, _, _], _ => rfl)
      (case a => k_is); (case l => k_is); (case c => k_is); (case k => k_is)
    have d2 : Ice.Df (PySem.Challenge.cw_icebreaks_s01_answers_holds.heap_1 w.params) mg "effort_of" (Ice.topS 2) ["thickness"] := by
      refine' Ice.df_mk KX G ?a ?l ?c ?k (fun _ _ _ _ _ _ us hl => match us, hl with | [_], _ => rfl)
      (case a => k_is); (case l => k_is); (case c => k_is); (case k => k_is)
    have d3 : Ice.Df (PySem.Challenge.cw_icebreaks_s01_answers_holds.heap_1 w.params) mg "thickness_before_break" (Ice.topS 3) ["growths", "breaks", "day"] := by
      refine' Ice.df_mk KX G ?a ?l ?c ?k (fun _ _ _ _ _ _ us hl => match us, hl with | [_, _, _], _ => rfl)
      (case a => k_is); (case l => k_is); (case c => k_is); (case k => k_is)
    have d4 : Ice.Df (PySem.Challenge.cw_icebreaks_s01_answers_holds.heap_1 w.params) mg "removed_thicknesses" (Ice.topS 4) ["growths", "breaks"] := by
      refine' Ice.df_mk KX G ?a ?l ?c ?k (fun _ _ _ _ _ _ us hl => match us, hl with | [_, _], _ => rfl)
      (case a => k_is); (case l => k_is); (case c => k_is); (case k => k_is)
    have d5 : Ice.Df (PySem.Challenge.cw_icebreaks_s01_answers_holds.heap_1 w.params) mg "effort_of_list" (Ice.topS 5) ["growths", "breaks"] := by
      refine' Ice.df_mk KX G ?a ?l ?c ?k (fun _ _ _ _ _ _ us hl => match us, hl with | [_, _], _ => rfl)
      (case a => k_is); (case l => k_is); (case c => k_is); (case k => k_is)
    have d6 : Ice.Df (PySem.Challenge.cw_icebreaks_s01_answers_holds.heap_1 w.params) mg "is_valid_list" (Ice.topS 6) ["growths", "breaks", "max_thickness"] := by
      refine' Ice.df_mk KX G ?a ?l ?c ?k (fun _ _ _ _ _ _ us hl => match us, hl with | [_, _, _], _ => rfl)
      (case a => k_is); (case l => k_is); (case c => k_is); (case k => k_is)
    have d24 : Ice.Df (PySem.Challenge.cw_icebreaks_s01_answers_holds.heap_1 w.params) mg "check_day" (Ice.topS 24) ["instance", "day"] := by
      refine' Ice.df_mk KX G ?a ?l ?c ?k (fun _ _ _ _ _ _ us hl => match us, hl with | [_, _], _ => rfl)
      (case a => k_is); (case l => k_is); (case c => k_is); (case k => k_is)
    have d25 : Ice.Df (PySem.Challenge.cw_icebreaks_s01_answers_holds.heap_1 w.params) mg "check_at_most" (Ice.topS 25) ["number", "most"] := by
      refine' Ice.df_mk KX G ?a ?l ?c ?k (fun _ _ _ _ _ _ us hl => match us, hl with | [_, _], _ => rfl)
      (case a => k_is); (case l => k_is); (case c => k_is); (case k => k_is)
    have d26 : Ice.Df (PySem.Challenge.cw_icebreaks_s01_answers_holds.heap_1 w.params) mg "check_between" (Ice.topS 26) ["number", "least", "most"] := by
      refine' Ice.df_mk KX G ?a ?l ?c ?k (fun _ _ _ _ _ _ us hl => match us, hl with | [_, _, _], _ => rfl)
      (case a => k_is); (case l => k_is); (case c => k_is); (case k => k_is)
    have d40 : Ice.Df (PySem.Challenge.cw_icebreaks_s01_answers_holds.heap_1 w.params) mg "best_plan_from" (Ice.topS 40) ["growths", "max_thickness", "first_day", "later_plans"] := by
      refine' Ice.df_mk KX G ?a ?l ?c ?k (fun _ _ _ _ _ _ us hl => match us, hl with | [_, _, _, _], _ => rfl)
      (case a => k_is); (case l => k_is); (case c => k_is); (case k => k_is)
    have d41 : Ice.Df (PySem.Challenge.cw_icebreaks_s01_answers_holds.heap_1 w.params) mg "with_one_break_more" (Ice.topS 41) ["growths", "max_thickness", "later_plans"] := by
      refine' Ice.df_mk KX G ?a ?l ?c ?k (fun _ _ _ _ _ _ us hl => match us, hl with | [_, _, _], _ => rfl)
      (case a => k_is); (case l => k_is); (case c => k_is); (case k => k_is)
    have d42 : Ice.Df (PySem.Challenge.cw_icebreaks_s01_answers_holds.heap_1 w.params) mg "optimal_plans" (Ice.topS 42) ["growths", "max_thickness"] := by
      refine' Ice.df_mk KX G ?a ?l ?c ?k (fun _ _ _ _ _ _ us hl => match us, hl with | [_, _], _ => rfl)
      (case a => k_is); (case l => k_is); (case c => k_is); (case k => k_is)
    have d43 : Ice.Df (PySem.Challenge.cw_icebreaks_s01_answers_holds.heap_1 w.params) mg "total_cost_of" (Ice.topS 43) ["plan", "trip_cost"] := by
      refine' Ice.df_mk KX G ?a ?l ?c ?k (fun _ _ _ _ _ _ us hl => match us, hl with | [_, _], _ => rfl)
      (case a => k_is); (case l => k_is); (case c => k_is); (case k => k_is)
    have d44 : Ice.Df (PySem.Challenge.cw_icebreaks_s01_answers_holds.heap_1 w.params) mg "cheapest_of" (Ice.topS 44) ["plans", "trip_cost"] := by
      refine' Ice.df_mk KX G ?a ?l ?c ?k (fun _ _ _ _ _ _ us hl => match us, hl with | [_, _], _ => rfl)
      (case a => k_is); (case l => k_is); (case c => k_is); (case k => k_is)
    have d46 : Ice.Df (PySem.Challenge.cw_icebreaks_s01_answers_holds.heap_1 w.params) mg "optimal_plan" (Ice.topS 46) ["instance", "break_count"] := by
      refine' Ice.df_mk KX G ?a ?l ?c ?k (fun _ _ _ _ _ _ us hl => match us, hl with | [_, _], _ => rfl)
      (case a => k_is); (case l => k_is); (case c => k_is); (case k => k_is)
    have d51 : Ice.Df (PySem.Challenge.cw_icebreaks_s01_answers_holds.heap_1 w.params) mg "defined_plans" (Ice.topS 51) ["growths", "max_thickness"] := by
      refine' Ice.df_mk KX G ?a ?l ?c ?k (fun _ _ _ _ _ _ us hl => match us, hl with | [_, _], _ => rfl)
      (case a => k_is); (case l => k_is); (case c => k_is); (case k => k_is)
    have d53 : Ice.Df (PySem.Challenge.cw_icebreaks_s01_answers_holds.heap_1 w.params) mg "cheapest_answer" (Ice.topS 53) ["growths", "max_thickness", "trip_cost"] := by
      refine' Ice.df_mk KX G ?a ?l ?c ?k (fun _ _ _ _ _ _ us hl => match us, hl with | [_, _, _], _ => rfl)
      (case a => k_is); (case l => k_is); (case c => k_is); (case k => k_is)
    have d72 : Ice.Df (PySem.Challenge.cw_icebreaks_s01_answers_holds.heap_1 w.params) mg "operation_of" (Ice.topS 72) ["number"] := by
      refine' Ice.df_mk KX G ?a ?l ?c ?k (fun _ _ _ _ _ _ us hl => match us, hl with | [_], _ => rfl)
      (case a => k_is); (case l => k_is); (case c => k_is); (case k => k_is)
    have d73 : Ice.Df (PySem.Challenge.cw_icebreaks_s01_answers_holds.heap_1 w.params) mg "run_call" (Ice.topS 73) ["instance", "number", "given"] := by
      refine' Ice.df_mk KX G ?a ?l ?c ?k (fun _ _ _ _ _ _ us hl => match us, hl with | [_, _, _], _ => rfl)
      (case a => k_is); (case l => k_is); (case c => k_is); (case k => k_is)
    have d74 : Ice.Df (PySem.Challenge.cw_icebreaks_s01_answers_holds.heap_1 w.params) mg "answer_of" (Ice.topS 74) ["instance", "number", "given"] := by
      refine' Ice.df_mk KX G ?a ?l ?c ?k (fun _ _ _ _ _ _ us hl => match us, hl with | [_, _, _], _ => rfl)
      (case a => k_is); (case l => k_is); (case c => k_is); (case k => k_is)
    have d28 : Ice.Df (PySem.Challenge.cw_icebreaks_s01_answers_holds.heap_1 w.params) mg "add_day" (Ice.topS 28) ["instance", "growth"] := by
      refine' Ice.df_mk KX G ?a ?l ?c ?k (fun _ _ _ _ _ _ us hl => match us, hl with | [_, _], _ => rfl)
      (case a => k_is); (case l => k_is); (case c => k_is); (case k => k_is)
    have d29 : Ice.Df (PySem.Challenge.cw_icebreaks_s01_answers_holds.heap_1 w.params) mg "remove_last_day" (Ice.topS 29) ["instance"] := by
      refine' Ice.df_mk KX G ?a ?l ?c ?k (fun _ _ _ _ _ _ us hl => match us, hl with | [_], _ => rfl)
      (case a => k_is); (case l => k_is); (case c => k_is); (case k => k_is)
    have d30 : Ice.Df (PySem.Challenge.cw_icebreaks_s01_answers_holds.heap_1 w.params) mg "set_growth" (Ice.topS 30) ["instance", "day", "growth"] := by
      refine' Ice.df_mk KX G ?a ?l ?c ?k (fun _ _ _ _ _ _ us hl => match us, hl with | [_, _, _], _ => rfl)
      (case a => k_is); (case l => k_is); (case c => k_is); (case k => k_is)
    have d31 : Ice.Df (PySem.Challenge.cw_icebreaks_s01_answers_holds.heap_1 w.params) mg "set_trip_cost" (Ice.topS 31) ["instance", "trip_cost"] := by
      refine' Ice.df_mk KX G ?a ?l ?c ?k (fun _ _ _ _ _ _ us hl => match us, hl with | [_, _], _ => rfl)
      (case a => k_is); (case l => k_is); (case c => k_is); (case k => k_is)
    have d32 : Ice.Df (PySem.Challenge.cw_icebreaks_s01_answers_holds.heap_1 w.params) mg "set_max_thickness" (Ice.topS 32) ["instance", "max_thickness"] := by
      refine' Ice.df_mk KX G ?a ?l ?c ?k (fun _ _ _ _ _ _ us hl => match us, hl with | [_, _], _ => rfl)
      (case a => k_is); (case l => k_is); (case c => k_is); (case k => k_is)
    have d33 : Ice.Df (PySem.Challenge.cw_icebreaks_s01_answers_holds.heap_1 w.params) mg "list_growth" (Ice.topS 33) ["instance"] := by
      refine' Ice.df_mk KX G ?a ?l ?c ?k (fun _ _ _ _ _ _ us hl => match us, hl with | [_], _ => rfl)
      (case a => k_is); (case l => k_is); (case c => k_is); (case k => k_is)
    have d34 : Ice.Df (PySem.Challenge.cw_icebreaks_s01_answers_holds.heap_1 w.params) mg "thickness_between" (Ice.topS 34) ["instance", "first_day", "last_day"] := by
      refine' Ice.df_mk KX G ?a ?l ?c ?k (fun _ _ _ _ _ _ us hl => match us, hl with | [_, _, _], _ => rfl)
      (case a => k_is); (case l => k_is); (case c => k_is); (case k => k_is)
    have d61 : Ice.Df (PySem.Challenge.cw_icebreaks_s01_answers_holds.heap_1 w.params) mg "add_break" (Ice.topS 61) ["instance", "day"] := by
      refine' Ice.df_mk KX G ?a ?l ?c ?k (fun _ _ _ _ _ _ us hl => match us, hl with | [_, _], _ => rfl)
      (case a => k_is); (case l => k_is); (case c => k_is); (case k => k_is)
    have d62 : Ice.Df (PySem.Challenge.cw_icebreaks_s01_answers_holds.heap_1 w.params) mg "remove_break" (Ice.topS 62) ["instance", "day"] := by
      refine' Ice.df_mk KX G ?a ?l ?c ?k (fun _ _ _ _ _ _ us hl => match us, hl with | [_, _], _ => rfl)
      (case a => k_is); (case l => k_is); (case c => k_is); (case k => k_is)
    have d63 : Ice.Df (PySem.Challenge.cw_icebreaks_s01_answers_holds.heap_1 w.params) mg "list_breaks" (Ice.topS 63) ["instance"] := by
      refine' Ice.df_mk KX G ?a ?l ?c ?k (fun _ _ _ _ _ _ us hl => match us, hl with | [_], _ => rfl)
      (case a => k_is); (case l => k_is); (case c => k_is); (case k => k_is)
    have d64 : Ice.Df (PySem.Challenge.cw_icebreaks_s01_answers_holds.heap_1 w.params) mg "thickness_per_break" (Ice.topS 64) ["instance"] := by
      refine' Ice.df_mk KX G ?a ?l ?c ?k (fun _ _ _ _ _ _ us hl => match us, hl with | [_], _ => rfl)
      (case a => k_is); (case l => k_is); (case c => k_is); (case k => k_is)
    have d65 : Ice.Df (PySem.Challenge.cw_icebreaks_s01_answers_holds.heap_1 w.params) mg "is_valid_schedule" (Ice.topS 65) ["instance"] := by
      refine' Ice.df_mk KX G ?a ?l ?c ?k (fun _ _ _ _ _ _ us hl => match us, hl with | [_], _ => rfl)
      (case a => k_is); (case l => k_is); (case c => k_is); (case k => k_is)
    have d66 : Ice.Df (PySem.Challenge.cw_icebreaks_s01_answers_holds.heap_1 w.params) mg "schedule_cost" (Ice.topS 66) ["instance"] := by
      refine' Ice.df_mk KX G ?a ?l ?c ?k (fun _ _ _ _ _ _ us hl => match us, hl with | [_], _ => rfl)
      (case a => k_is); (case l => k_is); (case c => k_is); (case k => k_is)
    have d35 : Ice.Df (PySem.Challenge.cw_icebreaks_s01_answers_holds.heap_1 w.params) mg "total_growth" (Ice.topS 35) ["instance"] := by
      refine' Ice.df_mk KX G ?a ?l ?c ?k (fun _ _ _ _ _ _ us hl => match us, hl with | [_], _ => rfl)
      (case a => k_is); (case l => k_is); (case c => k_is); (case k => k_is)
    have d47 : Ice.Df (PySem.Challenge.cw_icebreaks_s01_answers_holds.heap_1 w.params) mg "optimal_breaks" (Ice.topS 47) ["instance", "break_count"] := by
      refine' Ice.df_mk KX G ?a ?l ?c ?k (fun _ _ _ _ _ _ us hl => match us, hl with | [_, _], _ => rfl)
      (case a => k_is); (case l => k_is); (case c => k_is); (case k => k_is)
    have d48 : Ice.Df (PySem.Challenge.cw_icebreaks_s01_answers_holds.heap_1 w.params) mg "use_optimal_breaks" (Ice.topS 48) ["instance", "break_count"] := by
      refine' Ice.df_mk KX G ?a ?l ?c ?k (fun _ _ _ _ _ _ us hl => match us, hl with | [_, _], _ => rfl)
      (case a => k_is); (case l => k_is); (case c => k_is); (case k => k_is)
    have d49 : Ice.Df (PySem.Challenge.cw_icebreaks_s01_answers_holds.heap_1 w.params) mg "excess_effort" (Ice.topS 49) ["instance"] := by
      refine' Ice.df_mk KX G ?a ?l ?c ?k (fun _ _ _ _ _ _ us hl => match us, hl with | [_], _ => rfl)
      (case a => k_is); (case l => k_is); (case c => k_is); (case k => k_is)
    have d50 : Ice.Df (PySem.Challenge.cw_icebreaks_s01_answers_holds.heap_1 w.params) mg "saving_of_break" (Ice.topS 50) ["instance", "k"] := by
      refine' Ice.df_mk KX G ?a ?l ?c ?k (fun _ _ _ _ _ _ us hl => match us, hl with | [_, _], _ => rfl)
      (case a => k_is); (case l => k_is); (case c => k_is); (case k => k_is)
    have d52 : Ice.Df (PySem.Challenge.cw_icebreaks_s01_answers_holds.heap_1 w.params) mg "min_break_count" (Ice.topS 52) ["instance"] := by
      refine' Ice.df_mk KX G ?a ?l ?c ?k (fun _ _ _ _ _ _ us hl => match us, hl with | [_], _ => rfl)
      (case a => k_is); (case l => k_is); (case c => k_is); (case k => k_is)
    have d54 : Ice.Df (PySem.Challenge.cw_icebreaks_s01_answers_holds.heap_1 w.params) mg "cheapest_break_count" (Ice.topS 54) ["instance"] := by
      refine' Ice.df_mk KX G ?a ?l ?c ?k (fun _ _ _ _ _ _ us hl => match us, hl with | [_], _ => rfl)
      (case a => k_is); (case l => k_is); (case c => k_is); (case k => k_is)
    have d55 : Ice.Df (PySem.Challenge.cw_icebreaks_s01_answers_holds.heap_1 w.params) mg "use_cheapest_breaks" (Ice.topS 55) ["instance"] := by
      refine' Ice.df_mk KX G ?a ?l ?c ?k (fun _ _ _ _ _ _ us hl => match us, hl with | [_], _ => rfl)
      (case a => k_is); (case l => k_is); (case c => k_is); (case k => k_is)
    have d56 : Ice.Df (PySem.Challenge.cw_icebreaks_s01_answers_holds.heap_1 w.params) mg "cheapest_with_growth" (Ice.topS 56) ["instance", "day", "growth"] := by
      refine' Ice.df_mk KX G ?a ?l ?c ?k (fun _ _ _ _ _ _ us hl => match us, hl with | [_, _, _], _ => rfl)
      (case a => k_is); (case l => k_is); (case c => k_is); (case k => k_is)
    have d57 : Ice.Df (PySem.Challenge.cw_icebreaks_s01_answers_holds.heap_1 w.params) mg "cheapest_with_max_thickness" (Ice.topS 57) ["instance", "max_thickness"] := by
      refine' Ice.df_mk KX G ?a ?l ?c ?k (fun _ _ _ _ _ _ us hl => match us, hl with | [_, _], _ => rfl)
      (case a => k_is); (case l => k_is); (case c => k_is); (case k => k_is)
    have d58 : Ice.Df (PySem.Challenge.cw_icebreaks_s01_answers_holds.heap_1 w.params) mg "balanced_effort" (Ice.topS 58) ["instance", "k"] := by
      refine' Ice.df_mk KX G ?a ?l ?c ?k (fun _ _ _ _ _ _ us hl => match us, hl with | [_, _], _ => rfl)
      (case a => k_is); (case l => k_is); (case c => k_is); (case k => k_is)
    have d67 : Ice.Df (PySem.Challenge.cw_icebreaks_s01_answers_holds.heap_1 w.params) mg "thickness_at" (Ice.topS 67) ["instance", "day"] := by
      refine' Ice.df_mk KX G ?a ?l ?c ?k (fun _ _ _ _ _ _ us hl => match us, hl with | [_, _], _ => rfl)
      (case a => k_is); (case l => k_is); (case c => k_is); (case k => k_is)
    have d36 : Ice.Df (PySem.Challenge.cw_icebreaks_s01_answers_holds.heap_1 w.params) mg "summary" (Ice.topS 36) ["instance"] := by
      refine' Ice.df_mk KX G ?a ?l ?c ?k (fun _ _ _ _ _ _ us hl => match us, hl with | [_], _ => rfl)
      (case a => k_is); (case l => k_is); (case c => k_is); (case k => k_is)
    have T1 : Ice.Tab (PySem.Challenge.cw_icebreaks_s01_answers_holds.heap_1 w.params) mg "DAY_CALLS" Ice.t1 := by
      refine' Ice.tab_mk KX G ?a ?l ?lo ?t
      (case a => k_is); (case l => k_is); (case lo => decide)
      (case t => refine' ⟨⟨_, rfl⟩, by decide +kernel, PySem.W.mg_of KX G ?x0, ⟨_, rfl⟩, by decide +kernel, PySem.W.mg_of KX G ?x1, ⟨_, rfl⟩, by decide +kernel, PySem.W.mg_of KX G ?x2, ⟨_, rfl⟩, by decide +kernel, PySem.W.mg_of KX G ?x3, ⟨_, rfl⟩, by decide +kernel, PySem.W.mg_of KX G ?x4, ⟨_, rfl⟩, by decide +kernel, PySem.W.mg_of KX G ?x5, ⟨_, rfl⟩, by decide +kernel, PySem.W.mg_of KX G ?x6, ⟨_, rfl⟩, by decide +kernel, PySem.W.mg_of KX G ?x7, ⟨_, rfl⟩, by decide +kernel, PySem.W.mg_of KX G ?x8, True.intro⟩; (case x0 => k_is); (case x1 => k_is); (case x2 => k_is); (case x3 => k_is); (case x4 => k_is); (case x5 => k_is); (case x6 => k_is); (case x7 => k_is); (case x8 => k_is))
    have T2 : Ice.Tab (PySem.Challenge.cw_icebreaks_s01_answers_holds.heap_1 w.params) mg "SCHEDULE_CALLS" Ice.t2 := by
      refine' Ice.tab_mk KX G ?a ?l ?lo ?t
      (case a => k_is); (case l => k_is); (case lo => decide)
      (case t => refine' ⟨⟨_, rfl⟩, by decide +kernel, PySem.W.mg_of KX G ?x0, ⟨_, rfl⟩, by decide +kernel, PySem.W.mg_of KX G ?x1, ⟨_, rfl⟩, by decide +kernel, PySem.W.mg_of KX G ?x2, ⟨_, rfl⟩, by decide +kernel, PySem.W.mg_of KX G ?x3, ⟨_, rfl⟩, by decide +kernel, PySem.W.mg_of KX G ?x4, ⟨_, rfl⟩, by decide +kernel, PySem.W.mg_of KX G ?x5, ⟨_, rfl⟩, by decide +kernel, PySem.W.mg_of KX G ?x6, True.intro⟩; (case x0 => k_is); (case x1 => k_is); (case x2 => k_is); (case x3 => k_is); (case x4 => k_is); (case x5 => k_is); (case x6 => k_is))
    have T3 : Ice.Tab (PySem.Challenge.cw_icebreaks_s01_answers_holds.heap_1 w.params) mg "OPTIMUM_CALLS" Ice.t3 := by
      refine' Ice.tab_mk KX G ?a ?l ?lo ?t
      (case a => k_is); (case l => k_is); (case lo => decide)
      (case t => refine' ⟨⟨_, rfl⟩, by decide +kernel, PySem.W.mg_of KX G ?x0, ⟨_, rfl⟩, by decide +kernel, PySem.W.mg_of KX G ?x1, ⟨_, rfl⟩, by decide +kernel, PySem.W.mg_of KX G ?x2, ⟨_, rfl⟩, by decide +kernel, PySem.W.mg_of KX G ?x3, ⟨_, rfl⟩, by decide +kernel, PySem.W.mg_of KX G ?x4, ⟨_, rfl⟩, by decide +kernel, PySem.W.mg_of KX G ?x5, ⟨_, rfl⟩, by decide +kernel, PySem.W.mg_of KX G ?x6, ⟨_, rfl⟩, by decide +kernel, PySem.W.mg_of KX G ?x7, ⟨_, rfl⟩, by decide +kernel, PySem.W.mg_of KX G ?x8, ⟨_, rfl⟩, by decide +kernel, PySem.W.mg_of KX G ?x9, True.intro⟩; (case x0 => k_is); (case x1 => k_is); (case x2 => k_is); (case x3 => k_is); (case x4 => k_is); (case x5 => k_is); (case x6 => k_is); (case x7 => k_is); (case x8 => k_is); (case x9 => k_is))
    have pc : Ice.Pc (PySem.Challenge.cw_icebreaks_s01_answers_holds.heap_1 w.params) mg := by
      refine' Ice.pc_mk KX G ?a ?l ?h1 ?h2 ?h3 ?h4
      (case a => k_is); (case l => k_is); (case h1 => rfl); (case h2 => rfl); (case h3 => decide)
      (case h4 => exact .cons ⟨_, rfl⟩ (.cons ⟨_, rfl⟩ (.cons ⟨_, rfl⟩ (.cons ⟨_, rfl⟩ (.cons ⟨_, rfl⟩ (.cons ⟨_, rfl⟩ (.cons ⟨_, rfl⟩ (.cons ⟨_, rfl⟩ (.cons ⟨_, rfl⟩ (.cons ⟨_, rfl⟩ (.cons ⟨_, rfl⟩ (.cons ⟨_, rfl⟩ (.cons ⟨_, rfl⟩ (.cons ⟨_, rfl⟩ (.cons ⟨_, rfl⟩ (.cons ⟨_, rfl⟩ (.cons ⟨_, rfl⟩ (.cons ⟨_, rfl⟩ (.cons ⟨_, rfl⟩ (.cons ⟨_, rfl⟩ (.cons ⟨_, rfl⟩ (.cons ⟨_, rfl⟩ (.cons ⟨_, rfl⟩ (.cons ⟨_, rfl⟩ (.cons ⟨_, rfl⟩ (.cons ⟨_, rfl⟩ (.cons ⟨_, rfl⟩ .nil)))))))))))))))))))))))))))
    refine' Ice.all_mk KX G hmg bi cn T1 T2 T3 pc d1 d2 d3 d4 d5 d6 d24 d25 d26 d40 d41 d42 d43 d44 d46 d51 d53 d72 d73 d74 d28 d29 d30 d31 d32 d33 d34 d61 d62 d63 d64 d65 d66 d35 d47 d48 d49 d50 d52 d54 d55 d56 d57 d58 d67 d36 ?rA ?rf ?e13 ?e14 ?e15 ?e16 ?e17 ?e18 ?e19 ?e20 ?e21 ?cA ?ic ?pA ?pcl ?zmk ?zi ?zfn ?zkC ?zlI ?zcI ?zkI ?za ?zl ?zc ?zk
    (case rA => k_is)
    (case rf => refine' Ice.rf_mk KX G ?a ?rd ?ga ?fc ?l ?c ?k; (case a => k_is); (case rd => k_is); (case ga => k_is); (case fc => k_is); (case l => k_is); (case c => k_is); (case k => k_is))
    (case e13 => refine' Ice.er_mk KX G ?a ?xL ?tl ?sa ?ga ?gg ?nc ?i ?t ?kC ?eC ?tC ?hC ?eR ?iR ?tR ?sR ?l ?c ?k (fun _ _ _ _ _ _ us hl => match us, hl with | [_], _ => rfl); (case a => k_is); (case xL => k_is); (case tl => decide +kernel); (case sa => k_is); (case ga => k_is); (case gg => k_is); (case nc => k_is); (case i => k_is); (case t => k_is); (case kC => k_is); (case eC => k_is); (case tC => k_is); (case hC => k_is); (case eR => k_is); (case iR => k_is); (case tR => k_is); (case sR => k_is); (case l => k_is); (case c => k_is); (case k => k_is))
    (case e14 => refine' Ice.er_mk KX G ?a ?xL ?tl ?sa ?ga ?gg ?nc ?i ?t ?kC ?eC ?tC ?hC ?eR ?iR ?tR ?sR ?l ?c ?k (fun _ _ _ _ _ _ us hl => match us, hl with | [_], _ => rfl); (case a => k_is); (case xL => k_is); (case tl => decide +kernel); (case sa => k_is); (case ga => k_is); (case gg => k_is); (case nc => k_is); (case i => k_is); (case t => k_is); (case kC => k_is); (case eC => k_is); (case tC => k_is); (case hC => k_is); (case eR => k_is); (case iR => k_is); (case tR => k_is); (case sR => k_is); (case l => k_is); (case c => k_is); (case k => k_is))
    (case e15 => refine' Ice.er_mk KX G ?a ?xL ?tl ?sa ?ga ?gg ?nc ?i ?t ?kC ?eC ?tC ?hC ?eR ?iR ?tR ?sR ?l ?c ?k (fun _ _ _ _ _ _ us hl => match us, hl with | [_], _ => rfl); (case a => k_is); (case xL => k_is); (case tl => decide +kernel); (case sa => k_is); (case ga => k_is); (case gg => k_is); (case nc => k_is); (case i => k_is); (case t => k_is); (case kC => k_is); (case eC => k_is); (case tC => k_is); (case hC => k_is); (case eR => k_is); (case iR => k_is); (case tR => k_is); (case sR => k_is); (case l => k_is); (case c => k_is); (case k => k_is))
    (case e16 => refine' Ice.er_mk KX G ?a ?xL ?tl ?sa ?ga ?gg ?nc ?i ?t ?kC ?eC ?tC ?hC ?eR ?iR ?tR ?sR ?l ?c ?k (fun _ _ _ _ _ _ us hl => match us, hl with | [_], _ => rfl); (case a => k_is); (case xL => k_is); (case tl => decide +kernel); (case sa => k_is); (case ga => k_is); (case gg => k_is); (case nc => k_is); (case i => k_is); (case t => k_is); (case kC => k_is); (case eC => k_is); (case tC => k_is); (case hC => k_is); (case eR => k_is); (case iR => k_is); (case tR => k_is); (case sR => k_is); (case l => k_is); (case c => k_is); (case k => k_is))
    (case e17 => refine' Ice.er_mk KX G ?a ?xL ?tl ?sa ?ga ?gg ?nc ?i ?t ?kC ?eC ?tC ?hC ?eR ?iR ?tR ?sR ?l ?c ?k (fun _ _ _ _ _ _ us hl => match us, hl with | [_], _ => rfl); (case a => k_is); (case xL => k_is); (case tl => decide +kernel); (case sa => k_is); (case ga => k_is); (case gg => k_is); (case nc => k_is); (case i => k_is); (case t => k_is); (case kC => k_is); (case eC => k_is); (case tC => k_is); (case hC => k_is); (case eR => k_is); (case iR => k_is); (case tR => k_is); (case sR => k_is); (case l => k_is); (case c => k_is); (case k => k_is))
    (case e18 => refine' Ice.er_mk KX G ?a ?xL ?tl ?sa ?ga ?gg ?nc ?i ?t ?kC ?eC ?tC ?hC ?eR ?iR ?tR ?sR ?l ?c ?k (fun _ _ _ _ _ _ us hl => match us, hl with | [_], _ => rfl); (case a => k_is); (case xL => k_is); (case tl => decide +kernel); (case sa => k_is); (case ga => k_is); (case gg => k_is); (case nc => k_is); (case i => k_is); (case t => k_is); (case kC => k_is); (case eC => k_is); (case tC => k_is); (case hC => k_is); (case eR => k_is); (case iR => k_is); (case tR => k_is); (case sR => k_is); (case l => k_is); (case c => k_is); (case k => k_is))
    (case e19 => refine' Ice.er_mk KX G ?a ?xL ?tl ?sa ?ga ?gg ?nc ?i ?t ?kC ?eC ?tC ?hC ?eR ?iR ?tR ?sR ?l ?c ?k (fun _ _ _ _ _ _ us hl => match us, hl with | [_], _ => rfl); (case a => k_is); (case xL => k_is); (case tl => decide +kernel); (case sa => k_is); (case ga => k_is); (case gg => k_is); (case nc => k_is); (case i => k_is); (case t => k_is); (case kC => k_is); (case eC => k_is); (case tC => k_is); (case hC => k_is); (case eR => k_is); (case iR => k_is); (case tR => k_is); (case sR => k_is); (case l => k_is); (case c => k_is); (case k => k_is))
    (case e20 => refine' Ice.er_mk KX G ?a ?xL ?tl ?sa ?ga ?gg ?nc ?i ?t ?kC ?eC ?tC ?hC ?eR ?iR ?tR ?sR ?l ?c ?k (fun _ _ _ _ _ _ us hl => match us, hl with | [_], _ => rfl); (case a => k_is); (case xL => k_is); (case tl => decide +kernel); (case sa => k_is); (case ga => k_is); (case gg => k_is); (case nc => k_is); (case i => k_is); (case t => k_is); (case kC => k_is); (case eC => k_is); (case tC => k_is); (case hC => k_is); (case eR => k_is); (case iR => k_is); (case tR => k_is); (case sR => k_is); (case l => k_is); (case c => k_is); (case k => k_is))
    (case e21 => refine' Ice.er_mk KX G ?a ?xL ?tl ?sa ?ga ?gg ?nc ?i ?t ?kC ?eC ?tC ?hC ?eR ?iR ?tR ?sR ?l ?c ?k (fun _ _ _ _ _ _ us hl => match us, hl with | [_], _ => rfl); (case a => k_is); (case xL => k_is); (case tl => decide +kernel); (case sa => k_is); (case ga => k_is); (case gg => k_is); (case nc => k_is); (case i => k_is); (case t => k_is); (case kC => k_is); (case eC => k_is); (case tC => k_is); (case hC => k_is); (case eR => k_is); (case iR => k_is); (case tR => k_is); (case sR => k_is); (case l => k_is); (case c => k_is); (case k => k_is))
    (case cA => k_is)
    (case ic => refine' Ice.icl_mk KX G ?a (Ice.cls_mk ?pg ?hd ?po ?sa) ?n1 ?n2 ?n3 ?n4; (case a => k_is); (case pg => k_is); (case hd => k_is); (case po => k_is); (case sa => k_is); (case n1 => k_is); (case n2 => k_is); (case n3 => k_is); (case n4 => k_is))
    (case pA => k_is)
    (case pcl => refine' Ice.pcl_mk KX G ?a (Ice.cls_mk ?pg ?hd ?po ?sa) ?n1 ?n2 ?mk ?i ?fn ?kC ?l ?c ?k; (case a => k_is); (case pg => k_is); (case hd => k_is); (case po => k_is); (case sa => k_is); (case n1 => k_is); (case n2 => k_is); (case mk => k_is); (case i => k_is); (case fn => k_is); (case kC => k_is); (case l => k_is); (case c => k_is); (case k => k_is))
    (case zmk => k_is); (case zi => k_is); (case zfn => k_is); (case zkC => k_is); (case zlI => k_is); (case zcI => k_is); (case zkI => k_is); (case za => k_is); (case zl => k_is); (case zc => k_is); (case zk => k_is)
  case S =>
    intro K H xs a hO hwi hask hx
    cases hx with
    | cons h1 h2 =>
      cases h2
      cases h1 with
      | lst hs ha =>
        have e := L2.ints_dw a.1 _ ha
        subst e
        have q : ((Codec.inLen 0 150 a.1 && a.1.all (Codec.inInt 0 4294967295)) && true) = true := hwi
        rw [Bool.and_eq_true, Bool.and_eq_true] at q
        exact ⟨_, a.1, rfl, hs, Ice.all_pos q.1.2, (Codec.inNat_iff.mp q.1.1).2, hask, fun H' p hp => .lst (L2.SqL.of hp) (L2.dw_ints _)⟩
#print axioms PySem.Challenge.cw_icebreaks_s01_answers_holds
