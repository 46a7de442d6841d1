import PyProof.Rows.All
import Wide.All
import OpenK.AllK
import Wide.FinOn
import HandS.ForMost
import HandS.Evl
import HandS.IsInst
import HandS.Conv
import PySem.Challenge.RW_nocross_k01_leaders
set_option autoImplicit false
set_option Elab.async false
set_option linter.all false
set_option maxRecDepth 100000
set_option maxHeartbeats 4000000
namespace Nc

/-! ### groups of a labelling -/
section
variable {α : Type} [DecidableEq α]
def firstB (f : Nat → α) (i : Nat) : Bool := (List.range i).all fun j => decide (f j ≠ f i)
def grp (f : Nat → α) (n i : Nat) : List Nat := (List.range n).filter fun j => decide (f j = f i)
def groupsOf (f : Nat → α) (n : Nat) : List (List Nat) := ((List.range n).filter (firstB f)).map (grp f n)

theorem firstB_iff {f : Nat → α} {i : Nat} : firstB f i = true ↔ ∀ j, j < i → f j ≠ f i := by
  unfold firstB
  simp [List.all_eq_true]
theorem mem_grp {f : Nat → α} {n i j : Nat} : j ∈ grp f n i ↔ j < n ∧ f j = f i := by
  unfold grp
  simp [List.mem_filter]
theorem grp_congr {f : Nat → α} {n i j : Nat} (h : f i = f j) : grp f n i = grp f n j := by
  unfold grp
  rw [h]
theorem first_ex (f : Nat → α) : ∀ i, ∃ j, j ≤ i ∧ f j = f i ∧ firstB f j = true := by
  intro i
  induction i using Nat.strongRecOn with
  | ind i ih =>
    by_cases h : firstB f i = true
    · exact ⟨i, Nat.le_refl _, rfl, h⟩
    · have : ∃ j, j < i ∧ f j = f i := by
        apply Classical.byContradiction
        intro hn
        apply h
        rw [firstB_iff]
        intro j hj e
        exact hn ⟨j, hj, e⟩
      obtain ⟨j, hj, e⟩ := this
      obtain ⟨k, h1, h2, h3⟩ := ih j hj
      exact ⟨k, by omega, h2.trans e, h3⟩
theorem mem_groups {f : Nat → α} {n : Nat} {g : List Nat} : g ∈ groupsOf f n ↔ ∃ i, i < n ∧ firstB f i = true ∧ g = grp f n i := by
  unfold groupsOf
  simp only [List.mem_map, List.mem_filter, List.mem_range]
  constructor
  · rintro ⟨i, ⟨h1, h2⟩, h3⟩
    exact ⟨i, h1, h2, h3.symm⟩
  · rintro ⟨i, h1, h2, h3⟩
    exact ⟨i, ⟨h1, h2⟩, h3.symm⟩
theorem grp_mem {f : Nat → α} {n i : Nat} (h : i < n) : grp f n i ∈ groupsOf f n := by
  obtain ⟨j, h1, h2, h3⟩ := first_ex f i
  exact mem_groups.mpr ⟨j, by omega, h3, (grp_congr h2).symm⟩
/-- the group that has i -/
theorem group_at {f : Nat → α} {n i : Nat} {g : List Nat} (hg : g ∈ groupsOf f n) (hi : i ∈ g) : g = grp f n i := by
  obtain ⟨j, h1, h2, rfl⟩ := mem_groups.mp hg
  exact grp_congr (mem_grp.mp hi).2.symm
theorem grp_length {f : Nat → α} {n i : Nat} : (grp f n i).length ≤ n := by
  unfold grp
  refine Nat.le_trans (List.length_filter_le _ _) ?_
  simp
theorem groups_length {f : Nat → α} {n : Nat} : (groupsOf f n).length ≤ n := by
  unfold groupsOf
  rw [List.length_map]
  refine Nat.le_trans (List.length_filter_le _ _) ?_
  simp
theorem grp_sorted {f : Nat → α} {n i : Nat} : (grp f n i).Pairwise (· < ·) := by
  unfold grp
  exact List.Pairwise.filter _ (List.pairwise_lt_range)
/-- the first of a group -/
theorem sorted_head {l : List Nat} {a : Nat} (hs : l.Pairwise (· < ·)) (ha : a ∈ l) (h : ∀ x ∈ l, a ≤ x) : l.head? = some a := by
  cases l with
  | nil => simp at ha
  | cons b r =>
    have h1 := h b (by simp)
    rcases List.mem_cons.mp ha with e | e
    · rw [e]; rfl
    · have h2 := (List.pairwise_cons.mp hs).1 a e
      omega
theorem grp_head {f : Nat → α} {n i : Nat} (hi : i < n) (hf : firstB f i = true) : (grp f n i).head? = some i := by
  refine sorted_head grp_sorted (mem_grp.mpr ⟨hi, rfl⟩) fun x hx => ?_
  have h1 := (mem_grp.mp hx).2
  have h2 := firstB_iff.mp hf
  rcases Nat.lt_or_ge x i with c | c
  · exact absurd h1 (h2 x c)
  · exact c
end
theorem firstB_congr {α β : Type} [DecidableEq α] [DecidableEq β] {f : Nat → α} {g : Nat → β} {n : Nat} (h : ∀ i j, i < n → j < n → (f i = f j ↔ g i = g j)) {i : Nat} (hi : i < n) : firstB f i = firstB g i := by
  rw [Bool.eq_iff_iff, firstB_iff, firstB_iff]
  constructor
  · intro q j hj e
    exact q j hj ((h j i (by omega) hi).mpr e)
  · intro q j hj e
    exact q j hj ((h j i (by omega) hi).mp e)
theorem grp_same {α β : Type} [DecidableEq α] [DecidableEq β] {f : Nat → α} {g : Nat → β} {n : Nat} (h : ∀ i j, i < n → j < n → (f i = f j ↔ g i = g j)) {i : Nat} (hi : i < n) : grp f n i = grp g n i := by
  unfold grp
  refine List.filter_congr fun j hj => ?_
  have hj' := List.mem_range.mp hj
  simp only [decide_eq_decide]
  exact h j i hj' hi
/-- groups hang on which places are alike -/
theorem groups_congr {α β : Type} [DecidableEq α] [DecidableEq β] {f : Nat → α} {g : Nat → β} {n : Nat} (h : ∀ i j, i < n → j < n → (f i = f j ↔ g i = g j)) : groupsOf f n = groupsOf g n := by
  unfold groupsOf
  have e : (List.range n).filter (firstB f) = (List.range n).filter (firstB g) :=
    List.filter_congr fun i hi => firstB_congr h (List.mem_range.mp hi)
  rw [e]
  refine List.map_congr_left fun i hi => ?_
  exact grp_same h (List.mem_range.mp (List.mem_filter.mp hi).1)

/-! ### a list of labels, read as a labelling -/
def lb (L : List Nat) : Nat → Nat := fun i => L.getD i 0

/-! ### leaders that nest -/
structure Lead (L : List Nat) : Prop where
  le : ∀ i, i < L.length → lb L i ≤ i
  fix : ∀ i, i < L.length → lb L (lb L i) = lb L i
  nest : ∀ i b, i < L.length → lb L i ≤ b → b ≤ i → lb L i ≤ lb L b
/-- the stack of open groups -/
structure Open (L S : List Nat) : Prop where
  lt : ∀ s ∈ S, s < L.length
  fix : ∀ s ∈ S, lb L s = s
  inc : S.Pairwise (· < ·)
  over : ∀ s ∈ S, ∀ b, b < L.length → s ≤ b → s ≤ lb L b
theorem lb_old {L : List Nat} {x i : Nat} (h : i < L.length) : lb (L ++ [x]) i = lb L i := by
  unfold lb
  rw [List.getD_eq_getElem?_getD, List.getD_eq_getElem?_getD, List.getElem?_append_left h]
theorem lb_new {L : List Nat} {x : Nat} : lb (L ++ [x]) L.length = x := by
  unfold lb
  rw [List.getD_eq_getElem?_getD, List.getElem?_append_right (Nat.le_refl _)]
  simp
theorem lead_nil : Lead [] := ⟨fun _ h => absurd h (Nat.not_lt_zero _), fun _ h => absurd h (Nat.not_lt_zero _), fun _ _ h => absurd h (Nat.not_lt_zero _)⟩
theorem open_nil : Open [] [] := ⟨fun s h => by simp at h, fun s h => by simp at h, .nil, fun s h => by simp at h⟩
theorem lead_step {L S : List Nat} {x : Nat} (h : Lead L) (o : Open L S) (hx : x ∈ S ∨ x = L.length) : Lead (L ++ [x]) := by
  have hxl : x ≤ L.length := by
    rcases hx with hx | hx
    · exact Nat.le_of_lt (o.lt x hx)
    · omega
  have hsplit : ∀ i, i < (L ++ [x]).length → i < L.length ∨ i = L.length := fun i hi => by
    rw [List.length_append] at hi
    simp at hi
    omega
  refine ⟨fun i hi => ?_, fun i hi => ?_, fun i b hi h1 h2 => ?_⟩
  · rcases hsplit i hi with c | c
    · rw [lb_old c]; exact h.le i c
    · rw [c, lb_new]; exact hxl
  · rcases hsplit i hi with c | c
    · have := h.le i c
      rw [lb_old c, lb_old (by omega)]; exact h.fix i c
    · rw [c, lb_new]
      rcases hx with hx | hx
      · rw [lb_old (o.lt x hx)]; exact o.fix x hx
      · rw [hx, lb_new]
  · rcases hsplit i hi with c | c
    · rw [lb_old c] at h1 ⊢
      rw [lb_old (by omega)]
      exact h.nest i b c h1 h2
    · rw [c, lb_new] at h1 ⊢
      rw [c] at h2
      rcases Nat.lt_or_ge b L.length with d | d
      · rw [lb_old d]
        rcases hx with hx | hx
        · exact o.over x hx b d h1
        · omega
      · have e : b = L.length := by omega
        rw [e, lb_new]; exact Nat.le_refl _
theorem open_new {L S : List Nat} (o : Open L S) : Open (L ++ [L.length]) (S ++ [L.length]) := by
  have hlen : (L ++ [L.length]).length = L.length + 1 := by simp
  refine ⟨fun s hs => ?_, fun s hs => ?_, ?_, fun s hs b hb hsb => ?_⟩
  · rw [hlen]
    rcases List.mem_append.mp hs with c | c
    · have := o.lt s c; omega
    · simp at c; omega
  · rcases List.mem_append.mp hs with c | c
    · rw [lb_old (o.lt s c)]; exact o.fix s c
    · simp at c; rw [c, lb_new]
  · rw [List.pairwise_append]
    refine ⟨o.inc, by simp, fun a ha b hb => ?_⟩
    simp at hb
    have := o.lt a ha
    omega
  · rw [hlen] at hb
    rcases Nat.lt_or_ge b L.length with d | d
    · rw [lb_old d]
      rcases List.mem_append.mp hs with c | c
      · exact o.over s c b d hsb
      · simp at c; omega
    · have e : b = L.length := by omega
      rw [e, lb_new]; omega
theorem open_old {L S : List Nat} {k : Nat} (hk : 0 < k) (hkl : k ≤ S.length) (o : Open L S) : Open (L ++ [S.getD (k - 1) 0]) (S.take k) := by
  have hlen : ∀ x, (L ++ [x]).length = L.length + 1 := fun x => by simp
  have hx : S.getD (k - 1) 0 ∈ S.take k := by
    rw [List.getD_eq_getElem?_getD, List.getElem?_eq_getElem (show k - 1 < S.length by omega)]
    simp only [Option.getD_some]
    rw [List.mem_take_iff_getElem]
    exact ⟨k - 1, by omega, rfl⟩
  have hsub : ∀ s, s ∈ S.take k → s ∈ S := fun s h => List.mem_of_mem_take h
  have hmax : ∀ s ∈ S.take k, s ≤ S.getD (k - 1) 0 := fun s hs => by
    rw [List.mem_take_iff_getElem] at hs
    obtain ⟨j, hj, rfl⟩ := hs
    rw [List.getD_eq_getElem?_getD, List.getElem?_eq_getElem (show k - 1 < S.length by omega)]
    simp only [Option.getD_some]
    rcases Nat.lt_or_ge j (k - 1) with c | c
    · exact Nat.le_of_lt (List.pairwise_iff_getElem.mp o.inc j (k - 1) (by omega) (by omega) c)
    · have e : j = k - 1 := by omega
      subst e
      exact Nat.le_refl _
  refine ⟨fun s hs => ?_, fun s hs => ?_, ?_, fun s hs b hb hsb => ?_⟩
  · rw [hlen]
    have := o.lt s (hsub s hs)
    omega
  · rw [lb_old (o.lt s (hsub s hs))]; exact o.fix s (hsub s hs)
  · exact List.Pairwise.sublist (List.take_sublist _ _) o.inc
  · rw [hlen] at hb
    rcases Nat.lt_or_ge b L.length with d | d
    · rw [lb_old d]; exact o.over s (hsub s hs) b d hsb
    · have e : b = L.length := by omega
      rw [e, lb_new]; exact hmax s hs
/-- no two groups cross -/
theorem Lead.apart {L : List Nat} (h : Lead L) {a b c d : Nat} (hab : a < b) (hbc : b < c) (hcd : c < d) (hd : d < L.length) (e1 : lb L a = lb L c) (e2 : lb L b = lb L d) : lb L a = lb L b := by
  have ha := h.le a (by omega)
  have hb := h.le b (by omega)
  have q1 := h.nest c b (by omega) (by omega) (by omega)
  have q2 := h.nest d c (by omega) (by omega) (by omega)
  omega
theorem Lead.first {L : List Nat} (h : Lead L) {i : Nat} (hi : i < L.length) : firstB (lb L) i = decide (lb L i = i) := by
  rw [Bool.eq_iff_iff, firstB_iff, decide_eq_true_iff]
  constructor
  · intro q
    have h1 := h.le i hi
    have h2 := h.fix i hi
    rcases Nat.lt_or_ge (lb L i) i with c | c
    · exact absurd h2 (q _ c)
    · omega
  · intro e j hj z
    have h1 := h.le j (by omega)
    omega
theorem Lead.head {L : List Nat} (h : Lead L) {i : Nat} (hi : i < L.length) : (grp (lb L) L.length i).head? = some (lb L i) := by
  have h1 := h.le i hi
  have h2 := h.fix i hi
  rw [grp_congr h2.symm]
  refine grp_head (by omega) ?_
  rw [h.first (by omega), decide_eq_true_iff]
  exact h2

/-! ### leaders told from groups -/
def setAll (a : List Nat) (g : List Nat) (h : Nat) : List Nat := g.foldl (fun a p => a.set p h) a
def leadersM (n : Nat) (gs : List (List Nat)) : List Nat := gs.foldl (fun a g => setAll a g (g.headD 0)) (List.replicate n 0)
theorem setAll_length : ∀ (g a : List Nat) (h : Nat), (setAll a g h).length = a.length
  | [], _, _ => rfl
  | p :: g, a, h => by
    show (setAll (a.set p h) g h).length = a.length
    rw [setAll_length g, List.length_set]
theorem setAll_out : ∀ (g a : List Nat) (h p : Nat), p ∉ g → (setAll a g h)[p]? = a[p]?
  | [], _, _, _, _ => rfl
  | q :: g, a, h, p, hp => by
    show (setAll (a.set q h) g h)[p]? = a[p]?
    simp only [List.mem_cons, not_or] at hp
    rw [setAll_out g _ h p hp.2, List.getElem?_set_ne (Ne.symm hp.1)]
theorem setAll_in : ∀ (g a : List Nat) (h p : Nat), p ∈ g → p < a.length → (setAll a g h)[p]? = some h
  | [], _, _, _, hp, _ => by simp at hp
  | q :: g, a, h, p, hp, hl => by
    show (setAll (a.set q h) g h)[p]? = some h
    by_cases c : p ∈ g
    · exact setAll_in g _ h p c (by rw [List.length_set]; exact hl)
    · rw [setAll_out g _ h p c]
      rcases List.mem_cons.mp hp with e | e
      · rw [e, List.getElem?_set_self (by rw [← e]; exact hl)]
      · exact absurd e c
theorem leadersM_length (n : Nat) (gs : List (List Nat)) : (leadersM n gs).length = n := by
  have key : ∀ (gs : List (List Nat)) (a : List Nat), (gs.foldl (fun a g => setAll a g (g.headD 0)) a).length = a.length := by
    intro gs
    induction gs with
    | nil => intro a; rfl
    | cons g r ih => intro a; rw [List.foldl_cons, ih, setAll_length]
  unfold leadersM
  rw [key, List.length_replicate]
theorem leaders_at {gs : List (List Nat)} {p h : Nat} : ∀ (a : List Nat), p < a.length → (∀ g ∈ gs, p ∈ g → g.headD 0 = h) → ((∃ g ∈ gs, p ∈ g) ∨ a[p]? = some h) → (gs.foldl (fun a g => setAll a g (g.headD 0)) a)[p]? = some h := by
  induction gs with
  | nil => intro a _ _ q; rcases q with ⟨g, hg, _⟩ | q; (· simp at hg); exact q
  | cons g r ih =>
    intro a hl hh q
    rw [List.foldl_cons]
    refine ih _ (by rw [setAll_length]; exact hl) (fun g' h1 h2 => hh g' (List.mem_cons_of_mem _ h1) h2) ?_
    by_cases c : p ∈ g
    · right
      rw [setAll_in g a _ p c hl, hh g List.mem_cons_self c]
    · rcases q with ⟨g', h1, h2⟩ | q
      · rcases List.mem_cons.mp h1 with e | e
        · rw [e] at h2; exact absurd h2 c
        · exact .inl ⟨g', e, h2⟩
      · right
        rw [setAll_out g a _ p c]; exact q
theorem leaders_lead {L : List Nat} (h : Lead L) : leadersM L.length (groupsOf (lb L) L.length) = L := by
  apply List.ext_getElem?
  intro p
  rcases Nat.lt_or_ge p L.length with c | c
  · have e : L[p]? = some (lb L p) := by
      unfold lb
      rw [List.getD_eq_getElem?_getD, List.getElem?_eq_getElem c]; rfl
    rw [e]
    refine leaders_at _ (by rw [List.length_replicate]; exact c) (fun g hg hp => ?_) (.inl ⟨grp (lb L) L.length p, grp_mem c, mem_grp.mpr ⟨c, rfl⟩⟩)
    rw [group_at hg hp]
    have := h.head c
    rw [List.headD_eq_head?_getD, this]; rfl
  · rw [List.getElem?_eq_none c, List.getElem?_eq_none (by rw [leadersM_length]; exact c)]
theorem inc_length {n : Nat} : ∀ (l : List Nat) (a : Nat), l.Pairwise (· < ·) → (∀ x ∈ l, a ≤ x ∧ x < n) → l ≠ [] → a + l.length ≤ n
  | [], _, _, _, h => absurd rfl h
  | [x], a, _, h, _ => by
    have := h x (by simp)
    show a + 1 ≤ n
    omega
  | x :: y :: r, a, hp, h, _ => by
    have h1 := h x (by simp)
    have hp' := List.pairwise_cons.mp hp
    have ih := inc_length (y :: r) (x + 1) hp'.2 (fun z hz => ⟨hp'.1 z hz, (h z (List.mem_cons_of_mem _ hz)).2⟩) (by simp)
    simp only [List.length_cons] at ih ⊢
    omega
theorem inc_le {n : Nat} {l : List Nat} (hp : l.Pairwise (· < ·)) (h : ∀ x ∈ l, x < n) : l.length ≤ n := by
  cases l with
  | nil => simp
  | cons x r =>
    have := inc_length (x :: r) 0 hp (fun z hz => ⟨Nat.zero_le _, h z hz⟩) (by simp)
    omega
end Nc

namespace Nc
open PySem PySem.Spec PyProof.Rows L2 Evl

/-! ### data -/
inductive Dt where
  | non | bl (b : Bool) | int (i : Int) | str (x : Str) | lst (l : List Dt) | tup (l : List Dt)

mutual
def Dt.py : Dt → PyData
  | .non => .none
  | .bl b => .bool b
  | .int i => .int i
  | .str x => .str x
  | .lst l => .list (Dt.pys l)
  | .tup l => .tuple (Dt.pys l)
def Dt.pys : List Dt → List PyData
  | [] => []
  | d :: l => d.py :: Dt.pys l
end

/-! v stands for d in H; the lists in it stand at places that N allows -/
mutual
inductive Rp (N : Addr → Prop) (H : Hp) : V → Dt → Prop
  | non : Rp N H .non .non
  | bl (b : Bool) : Rp N H (.bl b) (.bl b)
  | int (i : Int) : Rp N H (.int i) (.int i)
  | str (x : Str) : Rp N H (.str x) (.str x)
  | lst {a : Addr} {xs : List V} {ds : List Dt} : N a → H a = some (.lst xs) → RpL N H xs ds → Rp N H (.ref a) (.lst ds)
  | tup {a : Addr} {xs : List V} {ds : List Dt} : H a = some (.tup xs) → RpL N H xs ds → Rp N H (.ref a) (.tup ds)
inductive RpL (N : Addr → Prop) (H : Hp) : List V → List Dt → Prop
  | nil : RpL N H [] []
  | cons {v : V} {vs : List V} {d : Dt} {ds : List Dt} : Rp N H v d → RpL N H vs ds → RpL N H (v :: vs) (d :: ds)
end
abbrev Any : Addr → Prop := fun _ => True
abbrev Noi : Addr → Prop := fun _ => False
/-- in H, or new ahead of H1 -/
def Nb (H H1 : Hp) : Addr → Prop := fun a => H a ≠ none ∨ H1 a = none
def Fresh (H : Hp) : Addr → Prop := fun a => H a = none

/-! the general step: another heap, another allowance -/
mutual
theorem Rp.to {N N' : Addr → Prop} {H H' : Hp} (hl : ∀ a xs, N a → H a = some (.lst xs) → N' a ∧ H' a = some (.lst xs)) (ht : ∀ a xs, H a = some (.tup xs) → H' a = some (.tup xs)) : ∀ {v : V} {d : Dt}, Rp N H v d → Rp N' H' v d
  | _, _, .non => .non
  | _, _, .bl b => .bl b
  | _, _, .int i => .int i
  | _, _, .str x => .str x
  | _, _, .lst n h r => .lst (hl _ _ n h).1 (hl _ _ n h).2 (RpL.to hl ht r)
  | _, _, .tup h r => .tup (ht _ _ h) (RpL.to hl ht r)
theorem RpL.to {N N' : Addr → Prop} {H H' : Hp} (hl : ∀ a xs, N a → H a = some (.lst xs) → N' a ∧ H' a = some (.lst xs)) (ht : ∀ a xs, H a = some (.tup xs) → H' a = some (.tup xs)) : ∀ {vs : List V} {ds : List Dt}, RpL N H vs ds → RpL N' H' vs ds
  | _, _, .nil => .nil
  | _, _, .cons r t => .cons (Rp.to hl ht r) (RpL.to hl ht t)
end
theorem Rp.mono {N : Addr → Prop} {H H' : Hp} {v : V} {d : Dt} (e : Ex H H') (r : Rp N H v d) : Rp N H' v d := r.to (fun a xs n h => ⟨n, e a _ h⟩) fun a xs h => e a _ h
theorem RpL.mono {N : Addr → Prop} {H H' : Hp} {v : List V} {d : List Dt} (e : Ex H H') (r : RpL N H v d) : RpL N H' v d := r.to (fun a xs n h => ⟨n, e a _ h⟩) fun a xs h => e a _ h
theorem Rp.wk {N N' : Addr → Prop} {H : Hp} {v : V} {d : Dt} (h : ∀ a, N a → N' a) (r : Rp N H v d) : Rp N' H v d := r.to (fun a xs n e => ⟨h a n, e⟩) fun a xs e => e
theorem RpL.wk {N N' : Addr → Prop} {H : Hp} {v : List V} {d : List Dt} (h : ∀ a, N a → N' a) (r : RpL N H v d) : RpL N' H v d := r.to (fun a xs n e => ⟨h a n, e⟩) fun a xs e => e
theorem Rp.any {N : Addr → Prop} {H : Hp} {v : V} {d : Dt} (r : Rp N H v d) : Rp Any H v d := r.wk fun _ _ => trivial
theorem RpL.any {N : Addr → Prop} {H : Hp} {v : List V} {d : List Dt} (r : RpL N H v d) : RpL Any H v d := r.wk fun _ _ => trivial
/-- what stands in H -/
theorem Rp.base {N : Addr → Prop} {H H1 H2 : Hp} {v : V} {d : Dt} (e : Ex H H2) (r : Rp N H v d) : Rp (Nb H H1) H2 v d :=
  r.to (fun a xs _ h => ⟨.inl (by rw [h]; intro z; cases z), e a _ h⟩) fun a xs h => e a _ h
theorem Rp.at {N : Addr → Prop} {H : Hp} {v : V} {d : Dt} (r : Rp N H v d) : Rp (fun a => H a ≠ none) H v d :=
  r.to (fun a xs _ h => ⟨(by rw [h]; intro z; cases z), h⟩) fun a xs h => h
/-- a list is written that it does not hold -/
theorem Rp.upd {N : Addr → Prop} {H : Hp} {l : Addr} {xs : List V} {o : HO} {v : V} {d : Dt} (hl : H l = some (.lst xs)) (hN : ∀ a, N a → a ≠ l) (r : Rp N H v d) : Rp N (L2.upd H l o) v d :=
  r.to (fun a ys n h => ⟨n, by rw [upd_ne (hN a n)]; exact h⟩) fun a ys h => by
    rw [upd_ne (ne_of h hl (by intro z; cases z))]; exact h
theorem RpL.upd {N : Addr → Prop} {H : Hp} {l : Addr} {xs : List V} {o : HO} {v : List V} {d : List Dt} (hl : H l = some (.lst xs)) (hN : ∀ a, N a → a ≠ l) (r : RpL N H v d) : RpL N (L2.upd H l o) v d :=
  r.to (fun a ys n h => ⟨n, by rw [upd_ne (hN a n)]; exact h⟩) fun a ys h => by
    rw [upd_ne (ne_of h hl (by intro z; cases z))]; exact h

/-! lists of data -/
section
variable {N : Addr → Prop} {H : Hp}
theorem RpL.length : ∀ {vs : List V} {ds : List Dt}, RpL N H vs ds → vs.length = ds.length
  | _, _, .nil => rfl
  | _, _, .cons _ t => by rw [List.length_cons, List.length_cons, RpL.length t]
theorem RpL.get : ∀ {vs : List V} {ds : List Dt} {i : Nat} {d : Dt}, RpL N H vs ds → ds[i]? = some d → ∃ v, vs[i]? = some v ∧ Rp N H v d
  | _, _, _, _, .nil, h => by simp at h
  | _, _, 0, _, .cons r _, h => by simp at h; subst h; exact ⟨_, rfl, r⟩
  | _, _, i + 1, d, .cons _ t, h => by
    obtain ⟨v, h1, h2⟩ := RpL.get (i := i) t (by simpa using h)
    exact ⟨v, by simpa using h1, h2⟩
theorem RpL.getV : ∀ {vs : List V} {ds : List Dt} {i : Nat} {v : V}, RpL N H vs ds → vs[i]? = some v → ∃ d, ds[i]? = some d ∧ Rp N H v d
  | _, _, _, _, .nil, h => by simp at h
  | _, _, 0, _, .cons r _, h => by simp at h; subst h; exact ⟨_, rfl, r⟩
  | _, _, i + 1, d, .cons _ t, h => by
    obtain ⟨v, h1, h2⟩ := RpL.getV (i := i) t (by simpa using h)
    exact ⟨v, by simpa using h1, h2⟩
theorem RpL.append : ∀ {vs ws : List V} {ds es : List Dt}, RpL N H vs ds → RpL N H ws es → RpL N H (vs ++ ws) (ds ++ es)
  | _, _, _, _, .nil, s => s
  | _, _, _, _, .cons r t, s => .cons r (RpL.append t s)
theorem RpL.take : ∀ (n : Nat) {vs : List V} {ds : List Dt}, RpL N H vs ds → RpL N H (vs.take n) (ds.take n)
  | 0, _, _, _ => .nil
  | _ + 1, _, _, .nil => .nil
  | n + 1, _, _, .cons r t => .cons r (RpL.take n t)
theorem RpL.drop : ∀ (n : Nat) {vs : List V} {ds : List Dt}, RpL N H vs ds → RpL N H (vs.drop n) (ds.drop n)
  | 0, _, _, r => r
  | _ + 1, _, _, .nil => .nil
  | n + 1, _, _, .cons _ t => RpL.drop n t
theorem RpL.rev : ∀ {vs : List V} {ds : List Dt}, RpL N H vs ds → RpL N H vs.reverse ds.reverse
  | _, _, .nil => .nil
  | _, _, .cons r t => by
    rw [List.reverse_cons, List.reverse_cons]
    exact (RpL.rev t).append (.cons r .nil)
theorem RpL.set : ∀ (i : Nat) {vs : List V} {ds : List Dt} {v : V} {d : Dt}, Rp N H v d → RpL N H vs ds → RpL N H (vs.set i v) (ds.set i d)
  | _, _, _, _, _, _, .nil => .nil
  | 0, _, _, _, _, r, .cons _ t => .cons r t
  | i + 1, _, _, _, _, r, .cons q t => .cons q (RpL.set i r t)
theorem RpL.one {v : V} {d : Dt} (r : Rp N H v d) : RpL N H [v] [d] := .cons r .nil
theorem RpL.ints : ∀ (ns : List Int), RpL N H (ns.map V.int) (ns.map Dt.int)
  | [] => .nil
  | n :: r => .cons (.int n) (RpL.ints r)
theorem RpL.ofInts : ∀ {ns : List Int} {vs : List V}, RpL N H vs (ns.map Dt.int) → vs = ns.map V.int
  | [], _, .nil => rfl
  | n :: r, _, .cons h t => by
    cases h
    rw [RpL.ofInts t]
    rfl
theorem RpL.rep {v : V} {d : Dt} (r : Rp N H v d) : ∀ n, RpL N H (List.replicate n v) (List.replicate n d)
  | 0 => .nil
  | n + 1 => .cons r (RpL.rep r n)
end
theorem Rp.intI {N : Addr → Prop} {H : Hp} {v : V} {i : Int} (r : Rp N H v (.int i)) : v = .int i := by cases r; rfl
theorem Rp.blI {N : Addr → Prop} {H : Hp} {v : V} {b : Bool} (r : Rp N H v (.bl b)) : v = .bl b := by cases r; rfl
theorem Rp.strI {N : Addr → Prop} {H : Hp} {v : V} {x : Str} (r : Rp N H v (.str x)) : v = .str x := by cases r; rfl
theorem Rp.nonI {N : Addr → Prop} {H : Hp} {v : V} (r : Rp N H v .non) : v = .non := by cases r; rfl
theorem Rp.lstI {N : Addr → Prop} {H : Hp} {v : V} {ds : List Dt} (r : Rp N H v (.lst ds)) : ∃ a xs, v = .ref a ∧ N a ∧ H a = some (.lst xs) ∧ RpL N H xs ds := by
  cases r with
  | lst n h r => exact ⟨_, _, rfl, n, h, r⟩
theorem Rp.tupI {N : Addr → Prop} {H : Hp} {v : V} {ds : List Dt} (r : Rp N H v (.tup ds)) : ∃ a xs, v = .ref a ∧ H a = some (.tup xs) ∧ RpL N H xs ds := by
  cases r with
  | tup h r => exact ⟨_, _, rfl, h, r⟩
mutual
theorem Rp.dp {K : PySem.W.Frag} {N : Addr → Prop} {H : Hp} : ∀ {v : V} {d : Dt}, Rp N H v d → Dp K H v d.py
  | _, _, .non => .non
  | _, _, .bl b => .bl b
  | _, _, .int i => .int i
  | _, _, .str x => .str x
  | _, _, .lst _ h r => .lst (sq_of h) (RpL.dp r)
  | _, _, .tup h r => .tup (st_of h) (RpL.dp r)
theorem RpL.dp {K : PySem.W.Frag} {N : Addr → Prop} {H : Hp} : ∀ {vs : List V} {ds : List Dt}, RpL N H vs ds → DpAll K H vs (Dt.pys ds)
  | _, _, .nil => .nil
  | _, _, .cons r t => .cons (Rp.dp r) (RpL.dp t)
end

/-! ### a heap in two parts: what is data, and lists beside it that may grow -/
def less (H : Hp) (F : List Addr) : Hp := fun a => if a ∈ F then none else H a
structure Beside (Hb : Hp) (F : List Addr) (H : Hp) : Prop where
  ex : Ex Hb H
  at_ : ∀ a ∈ F, Hb a = none ∧ ∃ xs, H a = some (.lst xs)
section
variable {Hb Hb' H H' H1 H2 : Hp} {F : List Addr} {N : Addr → Prop} {v : V} {d : Dt} {vs : List V} {ds : List Dt}
theorem less_none {a : Addr} (h : a ∈ F) : less H F a = none := by unfold less; rw [if_pos h]
theorem less_some {a : Addr} (h : a ∉ F) : less H F a = H a := by unfold less; rw [if_neg h]
theorem less_nil : less H [] = H := by funext a; exact less_some (by simp)
theorem less_ex : Ex (less H F) H := fun a o h => by
  by_cases c : a ∈ F
  · rw [less_none c] at h; cases h
  · rw [less_some c] at h; exact h
theorem less_mono (e : Ex H H') : Ex (less H F) (less H' F) := fun a o h => by
  by_cases c : a ∈ F
  · rw [less_none c] at h; cases h
  · rw [less_some c] at h ⊢; exact e a o h
theorem less_sub {G : List Addr} (h : ∀ a ∈ G, a ∈ F) : Ex (less H F) (less H G) := fun a o e => by
  by_cases c : a ∈ F
  · rw [less_none c] at e; cases e
  · rw [less_some c] at e
    rw [less_some fun z => c (h a z)]; exact e
theorem Beside.refl (H : Hp) : Beside H [] H := ⟨Ex.refl H, fun a h => by simp at h⟩
theorem Beside.on (S : Beside Hb F H) (e : Ex H H1) : Beside Hb F H1 := ⟨S.ex.trans e, fun a h => ⟨(S.at_ a h).1, let ⟨xs, q⟩ := (S.at_ a h).2; ⟨xs, e a _ q⟩⟩⟩
theorem Beside.down (e : Ex Hb Hb') (S : Beside Hb' F H) : Beside Hb F H := ⟨e.trans S.ex, fun a h => ⟨fresh_back e (S.at_ a h).1, (S.at_ a h).2⟩⟩
theorem Beside.out (S : Beside Hb F H) {a : Addr} {o : HO} (h : Hb a = some o) : a ∉ F := fun z => by
  rw [(S.at_ a z).1] at h; cases h
theorem Beside.lessEx (S : Beside Hb F H) (e : Ex H H1) : Ex Hb (less H1 F) := fun a o h => by
  rw [less_some (S.out h)]
  exact e a o (S.ex a o h)
theorem Beside.sep (S : Beside Hb F H) : Beside (less H F) F H := ⟨less_ex, fun a h => ⟨less_none h, (S.at_ a h).2⟩⟩
theorem Beside.new (S : Beside Hb F H) {a : Addr} (h : H a = none) : a ∉ F := fun z => by
  obtain ⟨xs, q⟩ := (S.at_ a z).2
  rw [h] at q; cases q
theorem Beside.tup (S : Beside Hb F H) (e : Ex H H1) {a : Addr} {xs : List V} (h : H1 a = some (.tup xs)) : a ∉ F := fun z => by
  obtain ⟨ys, q⟩ := (S.at_ a z).2
  rw [e a _ q] at h; cases h
/-- data of the first part -/
theorem Beside.up (S : Beside Hb F H) (e : Ex H H1) (r : Rp N Hb v d) : Rp Any (less H1 F) v d := (r.mono (S.lessEx e)).any
theorem Beside.ups (S : Beside Hb F H) (e : Ex H H1) (r : RpL N Hb vs ds) : RpL Any (less H1 F) vs ds := (r.mono (S.lessEx e)).any
/-- data that are new -/
theorem Beside.fresh (S : Beside Hb F H) (e : Ex H H1) (r : Rp (Fresh H) H1 v d) : Rp Any (less H1 F) v d :=
  r.to (fun a xs n h => ⟨trivial, by rw [less_some (S.new n)]; exact h⟩) fun a xs h => by rw [less_some (S.tup e h)]; exact h
/-- a list beside is one more -/
theorem Beside.add {p : Addr} {xs : List V} (S : Beside Hb F H) (h : H p = none) : Beside Hb (p :: F) (upd H p (.lst xs)) :=
  ⟨S.ex.trans (Ex.new h), fun a ha => by
    rcases List.mem_cons.mp ha with e | ha
    · subst e; exact ⟨fresh_back S.ex h, xs, upd_same⟩
    · obtain ⟨h1, ys, h2⟩ := S.at_ a ha
      exact ⟨h1, ys, Ex.new h _ _ h2⟩⟩
end

/-! ### what evaluates to what, in a heap whose first part is Hb, whatever stands beside -/
def EvD (te : TE) (σ : L2.St) (Hb : Hp) (d : Dt) : Prop := ∀ F H, Beside Hb F H → ∀ Q : VK, (∀ v H', Ex H H' → Rp Any (less H' F) v d → Q v H') → te σ H Q
def EvDs (ta : TA) (σ : L2.St) (Hb : Hp) (ds : List Dt) : Prop := ∀ F H, Beside Hb F H → ∀ Q : List V → Hp → Prop, (∀ vs H', Ex H H' → RpL Any (less H' F) vs ds → Q vs H') → ta σ H Q
/-- a new list, its items data -/
def EvF (te : TE) (σ : L2.St) (Hb : Hp) (ds : List Dt) : Prop := ∀ F H, Beside Hb F H → ∀ Q : VK, (∀ p xs H', H p = none → Ex H H' → H' p = some (.lst xs) → RpL Any (less H' (p :: F)) xs ds → Q (.ref p) H') → te σ H Q
/-- a value without lists -/
def EvS (te : TE) (σ : L2.St) (H : Hp) (v : V) : Prop := Ev te σ H v
section
variable {σ : L2.St} {Hb Hb' H H' : Hp} {d : Dt} {ds : List Dt} {te ta tb : TE} {K : PySem.W.Frag}
theorem EvD.mono (e : Ex Hb Hb') (h : EvD te σ Hb d) : EvD te σ Hb' d := fun F H S Q q => h F H (S.down e) Q q
theorem EvDs.mono {ta : TA} (e : Ex Hb Hb') (h : EvDs ta σ Hb ds) : EvDs ta σ Hb' ds := fun F H S Q q => h F H (S.down e) Q q
theorem EvF.mono (e : Ex Hb Hb') (h : EvF te σ Hb ds) : EvF te σ Hb' ds := fun F H S Q q => h F H (S.down e) Q q
theorem EvF.dd (h : EvF te σ Hb ds) : EvD te σ Hb (.lst ds) := fun F H S Q q => h F H S Q fun p xs H' hp e hx r =>
  q _ H' e (.lst trivial (by rw [less_some (S.new hp)]; exact hx) (r.mono (less_sub fun a ha => List.mem_cons_of_mem _ ha)))
theorem EvD.int {i : Int} (h : EvD te σ Hb (.int i)) : Ev te σ Hb (.int i) := fun H1 e Q q => h [] H1 ⟨e, fun a h => by simp at h⟩ Q fun v H2 e2 r => by rw [r.intI]; exact q H2 e2
theorem EvD.bl {b : Bool} (h : EvD te σ Hb (.bl b)) : Ev te σ Hb (.bl b) := fun H1 e Q q => h [] H1 ⟨e, fun a h => by simp at h⟩ Q fun v H2 e2 r => by rw [r.blI]; exact q H2 e2
theorem EvD.str {b : Str} (h : EvD te σ Hb (.str b)) : Ev te σ Hb (.str b) := fun H1 e Q q => h [] H1 ⟨e, fun a h => by simp at h⟩ Q fun v H2 e2 r => by rw [r.strI]; exact q H2 e2
theorem edI {i : Int} (h : Ev te σ Hb (.int i)) : EvD te σ Hb (.int i) := fun F H S Q q => h H S.ex Q fun H2 e2 => q _ H2 e2 (.int i)
theorem edB {b : Bool} (h : Ev te σ Hb (.bl b)) : EvD te σ Hb (.bl b) := fun F H S Q q => h H S.ex Q fun H2 e2 => q _ H2 e2 (.bl b)
theorem edS {b : Str} (h : Ev te σ Hb (.str b)) : EvD te σ Hb (.str b) := fun F H S Q q => h H S.ex Q fun H2 e2 => q _ H2 e2 (.str b)
theorem edNon (h : Ev te σ Hb .non) : EvD te σ Hb .non := fun F H S Q q => h H S.ex Q fun H2 e2 => q _ H2 e2 .non
theorem edV {v : V} {N : Addr → Prop} (h : Ev te σ Hb v) (r : Rp N Hb v d) : EvD te σ Hb d := fun F H S Q q => h H S.ex Q fun H2 e2 => q v H2 e2 (S.up e2 r)
theorem ed_var {i : Nat} {v : V} {N : Addr → Prop} (h : σ[i]? = some (some v)) (r : Rp N Hb v d) : EvD (tVar i) σ Hb d := edV (ev_var h) r
theorem EvD.as {d' : Dt} (h : EvD te σ Hb d) (e : d = d') : EvD te σ Hb d' := e ▸ h

/-- one thing, then another -/
theorem EvD.thn {F : List Addr} (h : EvD te σ Hb d) (S : Beside Hb F H) {Q : VK} (k : ∀ v H', Ex H H' → Beside Hb F H' → Rp Any (less H' F) v d → Q v H') : te σ H Q :=
  h F H S Q fun v H' e r => k v H' e (S.on e) r
theorem ea_nil' : EvDs tNil σ Hb [] := fun F H _ _ q => q [] H (Ex.refl H) .nil
theorem ea_cons' {tr : TA} (h : EvD ta σ Hb d) (hr : EvDs tr σ Hb ds) : EvDs (tCons ta tr) σ Hb (d :: ds) := fun F H S _ q =>
  h.thn S fun v H2 e2 S2 r => hr F H2 S2 _ fun vs H3 e3 rs => q (v :: vs) H3 (e2.trans e3) (.cons (r.mono (less_mono e3)) rs)
/-- a new tuple, a new list -/
theorem ed_tup {ta : TA} (h : EvDs ta σ Hb ds) (hl : ds.length ≤ 100000) : EvD (tTup ta) σ Hb (.tup ds) := fun F H S Q q =>
  h F H S _ fun vs H2 e2 r => ⟨sz_of (by rw [r.length]; exact hl), fun p hp => q (.ref p) _ (e2.trans (Ex.new hp)) (.tup (by rw [less_some ((S.on e2).new hp)]; exact upd_same) (r.mono (less_mono (Ex.new hp))))⟩
theorem ef_mk {F : List Addr} {H1 H2 : Hp} {Q : VK} {xs : List V} (S : Beside Hb F H1) (e : Ex H1 H2) (r : RpL Any (less H2 F) xs ds) (q : ∀ p xs H', H1 p = none → Ex H1 H' → H' p = some (.lst xs) → RpL Any (less H' (p :: F)) xs ds → Q (.ref p) H') :
    ∀ p, H2 p = none → Q (.ref p) (upd H2 p (.lst xs)) := fun p hp => q p xs _ (fresh_back e hp) (e.trans (Ex.new hp)) upd_same (r.mono fun a o h => by
      have hF : a ∉ F := fun z => by rw [less_none z] at h; cases h
      rw [less_some hF] at h
      have hap : a ≠ p := ne_of_none h hp
      rw [less_some (by simp [hF, hap]), upd_ne hap]; exact h)
theorem ef_lst {ta : TA} (h : EvDs ta σ Hb ds) (hl : ds.length ≤ 100000) : EvF (tLst ta) σ Hb ds := fun F H S Q q =>
  h F H S _ fun vs H2 e2 r => ⟨sz_of (by rw [r.length]; exact hl), ef_mk S e2 r q⟩
end
end Nc

namespace Nc
open PySem PySem.Spec PyProof.Rows L2 Evl

/-! ### data that hold no truth values: equal as Python says, equal -/
mutual
def Dt.clean : Dt → Bool
  | .bl _ => false
  | .lst l => Dt.cleans l
  | .tup l => Dt.cleans l
  | _ => true
def Dt.cleans : List Dt → Bool
  | [] => true
  | d :: l => d.clean && Dt.cleans l
end
mutual
def Dt.dep : Dt → Nat
  | .lst l => Dt.deps l + 1
  | .tup l => Dt.deps l + 1
  | _ => 0
def Dt.deps : List Dt → Nat
  | [] => 0
  | d :: l => max d.dep (Dt.deps l)
end
mutual
theorem eqv_clean : ∀ (d e : Dt), d.clean = true → e.clean = true → (PyData.eqv d.py e.py = true ↔ d = e)
  | .non, e, _, h => by cases e <;> simp [Dt.py, PyData.eqv]
  | .bl b, e, h, _ => by simp [Dt.clean] at h
  | .int i, e, _, h => by cases e <;> simp [Dt.py, PyData.eqv, Dt.clean] at h ⊢
  | .str i, e, _, h => by cases e <;> simp [Dt.py, PyData.eqv]
  | .lst l, e, h1, h => by
    cases e with
    | lst m =>
      simp only [Dt.py, PyData.eqv, Dt.lst.injEq]
      exact eqvs_clean l m (by simpa [Dt.clean] using h1) (by simpa [Dt.clean] using h)
    | _ => simp [Dt.py, PyData.eqv]
  | .tup l, e, h1, h => by
    cases e with
    | tup m =>
      simp only [Dt.py, PyData.eqv, Dt.tup.injEq]
      exact eqvs_clean l m (by simpa [Dt.clean] using h1) (by simpa [Dt.clean] using h)
    | _ => simp [Dt.py, PyData.eqv]
theorem eqvs_clean : ∀ (d e : List Dt), Dt.cleans d = true → Dt.cleans e = true → (PyData.eqvAll (Dt.pys d) (Dt.pys e) = true ↔ d = e)
  | [], [], _, _ => by simp [Dt.pys, PyData.eqvAll]
  | [], _ :: _, _, _ => by simp [Dt.pys, PyData.eqvAll]
  | _ :: _, [], _, _ => by simp [Dt.pys, PyData.eqvAll]
  | x :: l, y :: m, h1, h2 => by
    simp only [Dt.cleans, Bool.and_eq_true] at h1 h2
    simp only [Dt.pys, PyData.eqvAll, Bool.and_eq_true, List.cons.injEq]
    rw [eqv_clean x y h1.1 h2.1, eqvs_clean l m h1.2 h2.2]
end
mutual
def Dt.can : Dt → Bool
  | .str x => PyData.strOk x
  | .lst l => Dt.cans l
  | .tup l => Dt.cans l
  | _ => true
def Dt.cans : List Dt → Bool
  | [] => true
  | d :: l => d.can && Dt.cans l
end
mutual
theorem py_can : ∀ d : Dt, d.can = true → d.py.canLay0 = true
  | .non, _ => by simp [Dt.py, PyData.canLay0]
  | .bl b, _ => by simp [Dt.py, PyData.canLay0]
  | .int i, _ => by simp [Dt.py, PyData.canLay0]
  | .str i, h => by simp only [Dt.py, PyData.canLay0]; simpa [Dt.can] using h
  | .lst l, h => by simp only [Dt.py, PyData.canLay0]; exact pys_can l (by simpa [Dt.can] using h)
  | .tup l, h => by simp only [Dt.py, PyData.canLay0]; exact pys_can l (by simpa [Dt.can] using h)
theorem pys_can : ∀ l : List Dt, Dt.cans l = true → PyData.canLayAll0 (Dt.pys l) = true
  | [], _ => by simp [Dt.pys, PyData.canLayAll0]
  | d :: l, h => by
    simp only [Dt.cans, Bool.and_eq_true] at h
    simp only [Dt.pys, PyData.canLayAll0, Bool.and_eq_true]
    exact ⟨py_can d h.1, pys_can l h.2⟩
end
mutual
theorem py_dep : ∀ d : Dt, d.py.depth = d.dep
  | .non => by simp [Dt.py, PyData.depth, Dt.dep]
  | .bl b => by simp [Dt.py, PyData.depth, Dt.dep]
  | .int i => by simp [Dt.py, PyData.depth, Dt.dep]
  | .str i => by simp [Dt.py, PyData.depth, Dt.dep]
  | .lst l => by simp [Dt.py, PyData.depth, Dt.dep, pys_dep l]
  | .tup l => by simp [Dt.py, PyData.depth, Dt.dep, pys_dep l]
theorem pys_dep : ∀ l : List Dt, PyData.depthAll (Dt.pys l) = Dt.deps l
  | [] => by simp [Dt.pys, PyData.depthAll, Dt.deps]
  | d :: l => by simp [Dt.pys, PyData.depthAll, Dt.deps, py_dep d, pys_dep l]
end
/-- data that may be compared -/
def Dt.fit (d : Dt) : Prop := d.can = true ∧ d.clean = true ∧ d.dep ≤ 64
theorem Dt.fit.shaped {d : Dt} (h : d.fit) : SeqAt.shaped d.py = true := by
  unfold SeqAt.shaped
  rw [Bool.and_eq_true, decide_eq_true_iff, py_dep]
  exact ⟨py_can d h.1, h.2.2⟩
theorem fit_int (i : Int) : (Dt.int i).fit := ⟨rfl, rfl, Nat.zero_le _⟩
theorem fit_lst {l : List Dt} {n : Nat} (hn : n < 64) (h : ∀ d ∈ l, d.can = true ∧ d.clean = true ∧ d.dep ≤ n) : (Dt.lst l).can = true ∧ (Dt.lst l).clean = true ∧ (Dt.lst l).dep ≤ n + 1 := by
  have key : ∀ l : List Dt, (∀ d ∈ l, d.can = true ∧ d.clean = true ∧ d.dep ≤ n) → Dt.cans l = true ∧ Dt.cleans l = true ∧ Dt.deps l ≤ n := by
    intro l
    induction l with
    | nil => intro _; exact ⟨rfl, rfl, Nat.zero_le _⟩
    | cons d l ih =>
      intro h
      obtain ⟨a, b, c⟩ := h d List.mem_cons_self
      obtain ⟨a', b', c'⟩ := ih fun e he => h e (List.mem_cons_of_mem _ he)
      simp only [Dt.cans, Dt.cleans, Dt.deps, Bool.and_eq_true]
      exact ⟨⟨a, a'⟩, ⟨b, b'⟩, Nat.max_le.mpr ⟨c, c'⟩⟩
  obtain ⟨a, b, c⟩ := key l h
  simp only [Dt.can, Dt.clean, Dt.dep]
  exact ⟨a, b, by omega⟩
theorem fit_tup {l : List Dt} {n : Nat} (hn : n < 64) (h : ∀ d ∈ l, d.can = true ∧ d.clean = true ∧ d.dep ≤ n) : (Dt.tup l).can = true ∧ (Dt.tup l).clean = true ∧ (Dt.tup l).dep ≤ n + 1 := by
  have := fit_lst hn h
  simp only [Dt.can, Dt.clean, Dt.dep] at this ⊢
  exact this
/-! ### the data of this program -/
def dInts (L : List Int) : Dt := .lst (L.map Dt.int)
def dNats (L : List Nat) : Dt := .lst (L.map fun x => Dt.int (x : Nat))
def dGrp (g : List Nat) : Dt := .tup (g.map fun x => Dt.int (x : Nat))
def dGrps (gs : List (List Nat)) : Dt := .lst (gs.map dGrp)
def dTie (n : Nat) (gs : List (List Nat)) : Dt := .tup [.int n, dGrps gs]
theorem fit_nats (L : List Nat) : (dNats L).fit := by
  obtain ⟨a, b, c⟩ := fit_lst (n := 0) (by decide) (l := L.map fun x => Dt.int (x : Nat)) fun d hd => by
    obtain ⟨x, _, rfl⟩ := List.mem_map.mp hd
    exact ⟨rfl, rfl, Nat.zero_le _⟩
  exact ⟨a, b, Nat.le_trans c (by decide)⟩
theorem fit_ints (L : List Int) : (dInts L).fit := by
  obtain ⟨a, b, c⟩ := fit_lst (n := 0) (by decide) (l := L.map Dt.int) fun d hd => by
    obtain ⟨x, _, rfl⟩ := List.mem_map.mp hd
    exact ⟨rfl, rfl, Nat.zero_le _⟩
  exact ⟨a, b, Nat.le_trans c (by decide)⟩
theorem fit_grp1 (g : List Nat) : (dGrp g).can = true ∧ (dGrp g).clean = true ∧ (dGrp g).dep ≤ 1 :=
  fit_tup (n := 0) (by decide) fun d hd => by
    obtain ⟨x, _, rfl⟩ := List.mem_map.mp hd
    exact ⟨rfl, rfl, Nat.zero_le _⟩
theorem fit_grp (g : List Nat) : (dGrp g).fit := ⟨(fit_grp1 g).1, (fit_grp1 g).2.1, Nat.le_trans (fit_grp1 g).2.2 (by decide)⟩
theorem fit_grps2 (gs : List (List Nat)) : (dGrps gs).can = true ∧ (dGrps gs).clean = true ∧ (dGrps gs).dep ≤ 2 :=
  fit_lst (n := 1) (by decide) fun d hd => by
    obtain ⟨x, _, rfl⟩ := List.mem_map.mp hd
    exact fit_grp1 x
theorem fit_grps (g : List (List Nat)) : (dGrps g).fit := ⟨(fit_grps2 g).1, (fit_grps2 g).2.1, Nat.le_trans (fit_grps2 g).2.2 (by decide)⟩
theorem fit_tie (n : Nat) (gs : List (List Nat)) : (dTie n gs).fit := by
  obtain ⟨a, b, c⟩ := fit_tup (n := 2) (by decide) (l := [.int n, dGrps gs]) fun d hd => by
    rcases List.mem_cons.mp hd with e | hd
    · subst e; exact ⟨rfl, rfl, Nat.zero_le _⟩
    · have e : d = dGrps gs := by simpa using hd
      subst e; exact fit_grps2 gs
  exact ⟨a, b, Nat.le_trans c (by decide)⟩
theorem natmap_inj : ∀ {a b : List Nat}, a.map (fun x => Dt.int (x : Nat)) = b.map (fun x => Dt.int (x : Nat)) → a = b
  | [], [], _ => rfl
  | [], _ :: _, h => by simp at h
  | _ :: _, [], h => by simp at h
  | x :: a, y :: b, h => by
    simp only [List.map_cons, List.cons.injEq, Dt.int.injEq] at h
    rw [natmap_inj h.2, Int.ofNat_inj.mp h.1]
theorem dNats_inj {a b : List Nat} : dNats a = dNats b ↔ a = b := ⟨fun h => natmap_inj (by unfold dNats at h; exact Dt.lst.inj h), fun h => by rw [h]⟩
theorem dGrp_inj {a b : List Nat} : dGrp a = dGrp b ↔ a = b := ⟨fun h => natmap_inj (by unfold dGrp at h; exact Dt.tup.inj h), fun h => by rw [h]⟩
theorem grpmap_inj : ∀ {a b : List (List Nat)}, a.map dGrp = b.map dGrp → a = b
  | [], [], _ => rfl
  | [], _ :: _, h => by simp at h
  | _ :: _, [], h => by simp at h
  | x :: a, y :: b, h => by
    simp only [List.map_cons, List.cons.injEq] at h
    rw [grpmap_inj h.2, dGrp_inj.mp h.1]
theorem dGrps_inj {a b : List (List Nat)} : dGrps a = dGrps b ↔ a = b := ⟨fun h => grpmap_inj (by unfold dGrps at h; exact Dt.lst.inj h), fun h => by rw [h]⟩
theorem dTie_inj {n m : Nat} {a b : List (List Nat)} : dTie n a = dTie m b ↔ n = m ∧ a = b := by
  constructor
  · intro h
    unfold dTie at h
    have h := Dt.tup.inj h
    simp only [List.cons.injEq, Dt.int.injEq, and_true] at h
    exact ⟨Int.ofNat_inj.mp h.1, dGrps_inj.mp h.2⟩
  · rintro ⟨rfl, rfl⟩; rfl

/-! ### operations -/
section
variable {σ : L2.St} {Hb H H' : Hp} {d e : Dt} {ds es : List Dt} {te ta tb tc : TE} {K : PySem.W.Frag}
theorem ed_int {i : Int} : EvD (tC (.int i)) σ Hb (.int i) := edI ev_c
theorem ed_bl {i : Bool} : EvD (tC (.bl i)) σ Hb (.bl i) := edB ev_c
theorem ed_str {i : Str} : EvD (tC (.str i)) σ Hb (.str i) := edS ev_c
theorem ed_non : EvD (tC .non) σ Hb .non := edNon ev_c
theorem ed_II {g : Int → Int → Int} {i j : Int} (ha : EvD ta σ Hb (.int i)) (hb : EvD tb σ Hb (.int j)) : EvD (tOp (rI0 fun i j => .int (g i j)) ta tb) σ Hb (.int (g i j)) := edI (ev_op ha.int hb.int rv_I0)
theorem ed_IB {g : Int → Int → Bool} {i j : Int} (ha : EvD ta σ Hb (.int i)) (hb : EvD tb σ Hb (.int j)) : EvD (tOp (rI0 fun i j => .bl (g i j)) ta tb) σ Hb (.bl (g i j)) := edB (ev_op ha.int hb.int rv_I0)
theorem ed_CI {C : Int → Int → Prop} {g : Int → Int → Int} {i j : Int} (ha : EvD ta σ Hb (.int i)) (hb : EvD tb σ Hb (.int j)) (hc : C i j) : EvD (tOp (rI C fun i j => .int (g i j)) ta tb) σ Hb (.int (g i j)) := edI (ev_op ha.int hb.int (rv_I hc))
theorem ed_neg {i : Int} (ha : EvD ta σ Hb (.int i)) : EvD (tUn (rU fun i => .int (-i)) ta) σ Hb (.int (-i)) := edI (ev_un ha.int ru_neg)
theorem ed_eqI {i j : Int} (ha : EvD ta σ Hb (.int i)) (hb : EvD tb σ Hb (.int j)) : EvD (tOp rEq ta tb) σ Hb (.bl (decide (i = j))) := by
  have h := edB (ev_op ha.int hb.int (rv_eq (H := Hb) (x := .int i) (y := .int j) rfl))
  have e : decide (V.int i = V.int j) = decide (i = j) := by simp
  rw [e] at h; exact h
theorem ed_neI {i j : Int} (ha : EvD ta σ Hb (.int i)) (hb : EvD tb σ Hb (.int j)) : EvD (tOp rNe ta tb) σ Hb (.bl (decide (i ≠ j))) := by
  have h := edB (ev_op ha.int hb.int (rv_ne (H := Hb) (x := .int i) (y := .int j) rfl))
  have e : (!decide (V.int i = V.int j)) = decide (i ≠ j) := by simp
  rw [e] at h; exact h
theorem ed_eqB {i j : Bool} (ha : EvD ta σ Hb (.bl i)) (hb : EvD tb σ Hb (.bl j)) : EvD (tOp rEq ta tb) σ Hb (.bl (decide (i = j))) := by
  have h := edB (ev_op ha.bl hb.bl (rv_eq (H := Hb) (x := .bl i) (y := .bl j) rfl))
  have e : decide (V.bl i = V.bl j) = decide (i = j) := by simp
  rw [e] at h; exact h
theorem ed_neB {i j : Bool} (ha : EvD ta σ Hb (.bl i)) (hb : EvD tb σ Hb (.bl j)) : EvD (tOp rNe ta tb) σ Hb (.bl (decide (i ≠ j))) := by
  have h := edB (ev_op ha.bl hb.bl (rv_ne (H := Hb) (x := .bl i) (y := .bl j) rfl))
  have e : (!decide (V.bl i = V.bl j)) = decide (i ≠ j) := by simp
  rw [e] at h; exact h
theorem ed_eqS {i j : Str} (ha : EvD ta σ Hb (.str i)) (hb : EvD tb σ Hb (.str j)) : EvD (tOp rEq ta tb) σ Hb (.bl (decide (i = j))) := by
  have h := edB (ev_op ha.str hb.str (rv_eq (H := Hb) (x := .str i) (y := .str j) rfl))
  have e : decide (V.str i = V.str j) = decide (i = j) := by simp
  rw [e] at h; exact h
theorem ed_neS {i j : Str} (ha : EvD ta σ Hb (.str i)) (hb : EvD tb σ Hb (.str j)) : EvD (tOp rNe ta tb) σ Hb (.bl (decide (i ≠ j))) := by
  have h := edB (ev_op ha.str hb.str (rv_ne (H := Hb) (x := .str i) (y := .str j) rfl))
  have e : (!decide (V.str i = V.str j)) = decide (i ≠ j) := by simp
  rw [e] at h; exact h
theorem ed_eqD {b : Bool} (ha : EvD ta σ Hb d) (hb : EvD tb σ Hb e) (fd : d.fit) (fe : e.fit) (h : b = true ↔ d = e) : EvD (tOp (rEqD K) ta tb) σ Hb (.bl b) := fun F H S Q q =>
  ha.thn S fun x H2 e2 S2 rx => hb.thn S2 fun y H3 e3 S3 ry => ⟨d.py, e.py, (rx.mono (less_ex.trans e3)).dp, (ry.mono less_ex).dp, fd.shaped, fe.shaped, by
    have k : PyData.eqv d.py e.py = b := by
      rw [Bool.eq_iff_iff, eqv_clean d e fd.2.1 fe.2.1, h]
    rw [k]
    exact q _ H3 (e2.trans e3) (.bl b)⟩
theorem ed_neD {b : Bool} (ha : EvD ta σ Hb d) (hb : EvD tb σ Hb e) (fd : d.fit) (fe : e.fit) (h : b = true ↔ d ≠ e) : EvD (tOp (rNeD K) ta tb) σ Hb (.bl b) := fun F H S Q q =>
  ha.thn S fun x H2 e2 S2 rx => hb.thn S2 fun y H3 e3 S3 ry => ⟨d.py, e.py, (rx.mono (less_ex.trans e3)).dp, (ry.mono less_ex).dp, fd.shaped, fe.shaped, by
    have k : (!PyData.eqv d.py e.py) = b := by
      rw [Bool.eq_iff_iff, Bool.not_eq_true', h, ← Bool.not_eq_true, eqv_clean d e fd.2.1 fe.2.1]
    rw [k]
    exact q _ H3 (e2.trans e3) (.bl b)⟩
/-- an item -/
theorem atI_get {α : Type} {xs : List α} {i : Int} {v : α} (h : atI xs i = some v) : ∃ j : Nat, ixN xs.length i = some j ∧ xs[j]? = some v := by
  unfold atI at h
  cases e : ixN xs.length i with
  | none => rw [e] at h; simp at h
  | some j => rw [e] at h; exact ⟨j, rfl, h⟩
theorem atI_rp {N : Addr → Prop} {xs : List V} {i : Int} (r : RpL N H xs ds) (h : atI ds i = some d) : ∃ v, atI xs i = some v ∧ Rp N H v d := by
  obtain ⟨j, h1, h2⟩ := atI_get h
  obtain ⟨v, h3, h4⟩ := r.get h2
  refine ⟨v, ?_, h4⟩
  unfold atI
  rw [r.length, h1]
  exact h3
theorem ed_ixL {i : Int} (ha : EvD ta σ Hb (.lst ds)) (hb : EvD tb σ Hb (.int i)) (h : atI ds i = some d) : EvD (tOp (rIxL K) ta tb) σ Hb d := fun F H S Q q =>
  ha.thn S fun x H2 e2 S2 rx => hb.thn S2 fun y H3 e3 S3 ry => by
    obtain ⟨a, xs, rfl, n, hx, rs⟩ := (rx.mono (less_mono e3)).lstI
    obtain ⟨v, h1, h2⟩ := atI_rp rs h
    rw [ry.intI]
    exact ⟨a, xs, i, v, rfl, rfl, sq_of (less_ex a _ hx), h1, q v H3 (e2.trans e3) h2⟩
theorem ed_ixT {i : Int} (ha : EvD ta σ Hb (.tup ds)) (hb : EvD tb σ Hb (.int i)) (h : atI ds i = some d) : EvD (tOp (rIxT K) ta tb) σ Hb d := fun F H S Q q =>
  ha.thn S fun x H2 e2 S2 rx => hb.thn S2 fun y H3 e3 S3 ry => by
    obtain ⟨a, xs, rfl, hx, rs⟩ := (rx.mono (less_mono e3)).tupI
    obtain ⟨v, h1, h2⟩ := atI_rp rs h
    rw [ry.intI]
    exact ⟨a, xs, i, v, rfl, rfl, st_of (less_ex a _ hx), h1, q v H3 (e2.trans e3) h2⟩
/-- len -/
theorem ed_lenL (ha : EvD ta σ Hb (.lst ds)) : EvD (tCB (rLenS K) (tCons ta tNil)) σ Hb (.int (ds.length : Int)) := fun F H S Q q =>
  ha.thn S fun x H2 e2 S2 rx => by
    obtain ⟨a, xs, rfl, n, hx, rs⟩ := rx.lstI
    refine ⟨a, xs, rfl, .inl (sq_of (less_ex a _ hx)), ?_⟩
    rw [rs.length]
    exact q _ H2 e2 (.int _)
theorem ed_lenT (ha : EvD ta σ Hb (.tup ds)) : EvD (tCB (rLenS K) (tCons ta tNil)) σ Hb (.int (ds.length : Int)) := fun F H S Q q =>
  ha.thn S fun x H2 e2 S2 rx => by
    obtain ⟨a, xs, rfl, hx, rs⟩ := rx.tupI
    refine ⟨a, xs, rfl, .inr (st_of (less_ex a _ hx)), ?_⟩
    rw [rs.length]
    exact q _ H2 e2 (.int _)
/-- slices -/
def cutD {α : Type} (xs : List α) (lo hi : Option Int) : List α := (xs.drop (HT.sIx xs.length 0 lo)).take (HT.sIx xs.length xs.length hi - HT.sIx xs.length 0 lo)
theorem RpL.cut {N : Addr → Prop} {xs : List V} (r : RpL N H xs ds) (lo hi : Option Int) : RpL N H (cutV xs lo hi) (cutD ds lo hi) := by
  unfold cutV cutD
  rw [r.length]
  exact (r.drop _).take _
theorem cutD_map {α β : Type} (f : α → β) (xs : List α) (lo hi : Option Int) : cutD (xs.map f) lo hi = (cutD xs lo hi).map f := by
  unfold cutD
  rw [List.length_map, List.map_take, List.map_drop]
theorem cutD_to {α : Type} (xs : List α) (n : Nat) : cutD xs none (some (n : Int)) = xs.take n := by
  unfold cutD
  rw [HT.sIx_none, show HT.sIx xs.length xs.length (some ((n : Nat) : Int)) = min n xs.length from HT.sIx_nat xs.length xs.length n]
  rw [List.drop_zero, Nat.sub_zero, List.take_eq_take_iff]
  omega
theorem cutD_from {α : Type} (xs : List α) (n : Nat) : cutD xs (some (n : Int)) none = xs.drop n := by
  unfold cutD
  rw [HT.sIx_none, show HT.sIx xs.length 0 (some ((n : Nat) : Int)) = min n xs.length from HT.sIx_nat xs.length 0 n]
  rcases Nat.lt_or_ge n xs.length with c | c
  · rw [Nat.min_eq_left (by omega), List.take_of_length_le (by simp)]
  · rw [Nat.min_eq_right c, List.drop_eq_nil_of_le (Nat.le_refl _), List.drop_eq_nil_of_le c]; simp
theorem eo_nil : EvO tNoPart σ H none := eo_none
theorem eo_d {i : Int} (h : EvD te σ Hb (.int i)) : EvO (tPart te) σ Hb (some i) := eo_some h.int
theorem ef_slL {tl th : TO} {lo hi : Option Int} (ha : EvD ta σ Hb (.lst ds)) (h1 : EvO tl σ Hb lo) (h2 : EvO th σ Hb hi) : EvF (tSl (rSlL K) ta tl th) σ Hb (cutD ds lo hi) := fun F H S Q q =>
  ha.thn S fun x H2 e2 S2 rx => h1 H2 S2.ex _ fun H3 e3 => h2 H3 (S2.ex.trans e3) _ fun H4 e4 => by
    obtain ⟨a, xs, rfl, n, hx, rs⟩ := (rx.mono (less_mono (e3.trans e4))).lstI
    exact ⟨a, xs, rfl, sq_of (less_ex a _ hx), ef_mk S ((e2.trans e3).trans e4) (rs.cut lo hi) q⟩
/-- list + list -/
theorem ef_cat (ha : EvD ta σ Hb (.lst ds)) (hb : EvD tb σ Hb (.lst es)) (hl : ds.length + es.length ≤ 100000) : EvF (tOp rCat ta tb) σ Hb (ds ++ es) := fun F H S Q q =>
  ha.thn S fun x H2 e2 S2 rx => hb.thn S2 fun y H3 e3 S3 ry => by
    obtain ⟨a, xs, rfl, n, hx, rs⟩ := (rx.mono (less_mono e3)).lstI
    obtain ⟨b, ys, rfl, m, hy, rt⟩ := ry.lstI
    exact ⟨a, b, xs, ys, rfl, rfl, less_ex a _ hx, less_ex b _ hy, sz_of (by rw [rs.length, rt.length]; exact hl), ef_mk S (e2.trans e3) (rs.append rt) q⟩
theorem flat_rep {α : Type} (v : α) : ∀ n, (List.replicate n [v]).flatten = List.replicate n v
  | 0 => rfl
  | n + 1 => by rw [List.replicate_succ, List.flatten_cons, flat_rep v n]; rfl
/-- list * int -/
theorem ef_rep {k : Int} {n : Nat} (ha : EvD ta σ Hb (.lst [d])) (hb : EvD tb σ Hb (.int k)) (hk : k = (n : Int)) (hn : n ≤ 100000) : EvF (tOp rRep ta tb) σ Hb (List.replicate n d) := fun F H S Q q =>
  ha.thn S fun x H2 e2 S2 rx => hb.thn S2 fun y H3 e3 S3 ry => by
    obtain ⟨a, xs, rfl, m, hx, rs⟩ := (rx.mono (less_mono e3)).lstI
    rw [ry.intI]
    cases rs with
    | cons r t =>
      rename_i v0 vs0
      cases t
      subst hk
      refine ⟨a, (n : Int), [v0], rfl, rfl, less_ex a _ hx, by omega, by omega, sz_of (by simp; omega), fun p hp => ?_⟩
      show Q (.ref p) (upd H3 p (.lst (List.replicate n [v0]).flatten))
      rw [flat_rep]
      exact ef_mk S (e2.trans e3) (RpL.rep r n) q p hp
/-- list(..), tuple(..) -/
theorem ef_list (ha : EvD ta σ Hb (.lst ds)) : EvF (tCB (rListS K) (tCons ta tNil)) σ Hb ds := fun F H S Q q =>
  ha.thn S fun x H2 e2 S2 rx => by
    obtain ⟨a, xs, rfl, n, hx, rs⟩ := rx.lstI
    exact ⟨a, xs, rfl, .inl (sq_of (less_ex a _ hx)), ef_mk S e2 rs q⟩
theorem ef_listT (ha : EvD ta σ Hb (.tup ds)) : EvF (tCB (rListS K) (tCons ta tNil)) σ Hb ds := fun F H S Q q =>
  ha.thn S fun x H2 e2 S2 rx => by
    obtain ⟨a, xs, rfl, hx, rs⟩ := rx.tupI
    exact ⟨a, xs, rfl, .inr (st_of (less_ex a _ hx)), ef_mk S e2 rs q⟩
def rTupleS (K : PySem.W.Frag) : List V → Hp → VK → Prop := fun xs H Q => ∃ p ys, xs = [.ref p] ∧ ((SqL K H p ys ∧ ∀ l, H l = none → Q (.ref l) (upd H l (.tup ys))) ∨ (SqT K H p ys ∧ Q (.ref p) H))
theorem ed_tuple (ha : EvD ta σ Hb (.lst ds)) : EvD (tCB (rTupleS K) (tCons ta tNil)) σ Hb (.tup ds) := fun F H S Q q =>
  ha.thn S fun x H2 e2 S2 rx => by
    obtain ⟨a, xs, rfl, n, hx, rs⟩ := rx.lstI
    exact ⟨a, xs, rfl, .inl ⟨sq_of (less_ex a _ hx), fun p hp => q (.ref p) _ (e2.trans (Ex.new hp)) (.tup (by rw [less_some (S2.new hp)]; exact upd_same) (rs.mono (less_mono (Ex.new hp))))⟩⟩
/-- x in a list of ints -/
theorem inV_ints (i : Int) : ∀ ns : List Int, inV (.int i) (ns.map V.int) = decide (i ∈ ns)
  | [] => by simp [inV]
  | n :: r => by
    have ih := inV_ints i r
    unfold inV at ih ⊢
    rw [List.map_cons, List.any_cons, ih]
    have e : eqV (.int n) (.int i) = decide (i = n) := by
      show (n == i) = decide (i = n)
      rw [Bool.eq_iff_iff, beq_iff_eq, decide_eq_true_iff]; exact eq_comm
    rw [e, Bool.eq_iff_iff]
    simp
theorem flat_ints (ns : List Int) : (ns.map V.int).all flatV = true := by
  rw [List.all_eq_true]; intro z hz; obtain ⟨k, _, rfl⟩ := List.mem_map.mp hz; rfl
theorem ed_inL {i : Int} {ns : List Int} (ha : EvD ta σ Hb (.int i)) (hb : EvD tb σ Hb (dInts ns)) : EvD (tOp (rIn K false) ta tb) σ Hb (.bl (decide (i ∈ ns))) := fun F H S Q q =>
  ha.thn S fun x H2 e2 S2 rx => hb.thn S2 fun y H3 e3 S3 ry => by
    obtain ⟨a, xs, rfl, n, hx, rs⟩ := Rp.lstI ry
    rw [rx.intI]
    have ex := rs.ofInts
    subst ex
    refine ⟨a, _, rfl, .inl (sq_of (less_ex a _ hx)), rfl, flat_ints ns, ?_⟩
    rw [if_neg Bool.false_ne_true, inV_ints]
    exact q _ H3 (e2.trans e3) (.bl _)
theorem ed_niL {i : Int} {ns : List Int} (ha : EvD ta σ Hb (.int i)) (hb : EvD tb σ Hb (dInts ns)) : EvD (tOp (rIn K true) ta tb) σ Hb (.bl (decide (i ∉ ns))) := fun F H S Q q =>
  ha.thn S fun x H2 e2 S2 rx => hb.thn S2 fun y H3 e3 S3 ry => by
    obtain ⟨a, xs, rfl, n, hx, rs⟩ := Rp.lstI ry
    rw [rx.intI]
    have ex := rs.ofInts
    subst ex
    refine ⟨a, _, rfl, .inl (sq_of (less_ex a _ hx)), rfl, flat_ints ns, ?_⟩
    rw [if_pos rfl, inV_ints]
    have e : (!decide (i ∈ ns)) = decide (i ∉ ns) := by simp
    rw [e]
    exact q _ H3 (e2.trans e3) (.bl _)
theorem ed_inT {i : Int} {ns : List Int} (ha : EvD ta σ Hb (.int i)) (hb : EvD tb σ Hb (.tup (ns.map Dt.int))) : EvD (tOp (rIn K false) ta tb) σ Hb (.bl (decide (i ∈ ns))) := fun F H S Q q =>
  ha.thn S fun x H2 e2 S2 rx => hb.thn S2 fun y H3 e3 S3 ry => by
    obtain ⟨a, xs, rfl, hx, rs⟩ := Rp.tupI ry
    rw [rx.intI]
    have ex := rs.ofInts
    subst ex
    refine ⟨a, _, rfl, .inr (st_of (less_ex a _ hx)), rfl, flat_ints ns, ?_⟩
    rw [if_neg Bool.false_ne_true, inV_ints]
    exact q _ H3 (e2.trans e3) (.bl _)
/-- isinstance(x, T), a built-in class -/
def Dt.ty : Dt → String
  | .non => "NoneType"
  | .bl _ => "bool"
  | .int _ => "int"
  | .str _ => "str"
  | .lst _ => "list"
  | .tup _ => "tuple"
theorem Rp.tyx {N : Addr → Prop} {v : V} (r : Rp N H v d) : TyX K H v (.type d.ty) := by
  cases r with
  | non => exact .base .non
  | bl b => exact .base (.bl b)
  | int b => exact .base (.int b)
  | str b => exact .base (.str b)
  | lst _ h _ => exact .base (.lst h)
  | tup h _ => exact .base (.tup h)
theorem ed_isi {T : String} {b : Bool} (ha : EvD ta σ Hb d) (hb : kitB d.ty T = some b) : EvD (tCB (rIsi K) (tCons ta (tCons (tC (.ty T)) tNil))) σ Hb (.bl b) := fun F H S Q q =>
  ha.thn S fun x H2 e2 S2 rx => ⟨x, .ty T, .type d.ty, .type T, b, rfl, .ty T, (rx.mono less_ex).tyx, kit_ty hb, q _ H2 e2 (.bl b)⟩
/-- and, or, not, if .. else as values -/
theorem ed_and {a b : Bool} (h1 : EvD ta σ Hb (.bl a)) (h2 : a = true → EvD tb σ Hb (.bl b)) : EvD (tAndV ta tb) σ Hb (.bl (a && b)) := edB (ev_andV h1.bl fun h => (h2 h).bl)
theorem ed_or {a b : Bool} (h1 : EvD ta σ Hb (.bl a)) (h2 : a = false → EvD tb σ Hb (.bl b)) : EvD (tOrV ta tb) σ Hb (.bl (a || b)) := edB (ev_orV h1.bl fun h => (h2 h).bl)
theorem ed_not {a : Bool} (h1 : EvD ta σ Hb (.bl a)) : EvD (tNotV ta) σ Hb (.bl (!a)) := edB (ev_notV h1.bl)
theorem ed_if {t : TT} {b : Bool} (h : EvT t σ Hb b) (h1 : b = true → EvD ta σ Hb d) (h2 : b = false → EvD tb σ Hb d) : EvD (tIf t ta tb) σ Hb d := fun F H S Q q => h H S.ex _ fun H2 e2 => by
  cases b with
  | true => exact h1 rfl F H2 (S.on e2) Q fun v H3 e3 r => q v H3 (e2.trans e3) r
  | false => exact h2 rfl F H2 (S.on e2) Q fun v H3 e3 r => q v H3 (e2.trans e3) r
theorem et_d {b : Bool} (h : EvD te σ Hb (.bl b)) : EvT (tTest te) σ Hb b := et_test h.bl
theorem et_dB {b : Bool} (h : EvD te σ Hb (.bl b)) : EvT (tB te) σ Hb b := et_B h.bl

/-! ### comprehensions -/
/-- what a turn keeps: the list at Dl beside -/
def Cd (Hb : Hp) (F : List Addr) (H1 : Hp) (Dl : Addr) (ds : List Dt) (H' : Hp) : Prop := H1 Dl = none ∧ Ex H1 (less H' [Dl]) ∧ ∃ xs, H' Dl = some (.lst xs) ∧ RpL Any (less H' (Dl :: F)) xs ds
theorem cd_turn {F : List Addr} {H1 : Hp} {Dl : Addr} {t : TT} {σ2 : L2.St} {b : Bool} {R : Hp → Prop} (p : Cd Hb F H1 Dl ds H') (S : Beside Hb F H1) (hz : ds.length < 50000) (ht : EvT t σ2 (less H' (Dl :: F)) b) (he : b = true → EvD te σ2 (less H' (Dl :: F)) e)
    (hr : ∀ H', Cd Hb F H1 Dl (if b = true then ds ++ [e] else ds) H' → R H') :
    t σ2 H' fun b H3 => if b = true then te σ2 H3 fun y H4 => ∃ acc, H4 Dl = some (.lst acc) ∧ acc.length < sizeLine ∧ R (upd H4 Dl (.lst (acc ++ [y]))) else R H3 := by
  obtain ⟨hD, eb, xs, hx, r⟩ := p
  have e1 : Ex H1 H' := eb.trans less_ex
  have S2 : Beside (less H' (Dl :: F)) (Dl :: F) H' := ⟨less_ex, fun a ha => ⟨less_none ha, by
    rcases List.mem_cons.mp ha with e | ha
    · subst e; exact ⟨xs, hx⟩
    · exact ((S.on e1).at_ a ha).2⟩⟩
  refine ht H' less_ex _ fun H3 e3 => ?_
  have c3 : Ex H1 (less H3 [Dl]) := eb.trans (less_mono e3)
  cases b with
  | false => exact hr _ ⟨hD, c3, xs, e3 _ _ hx, r.mono (less_mono e3)⟩
  | true =>
    refine (he rfl).thn (S2.on e3) fun y H4 e4 S4 ry => ⟨xs, e4 _ _ (e3 _ _ hx), sz_lt (by rw [r.length]; omega), hr _ ⟨hD, ?_, xs ++ [y], upd_same, ?_⟩⟩
    · refine (c3.trans (less_mono e4)).trans fun a o h => ?_
      by_cases c : a ∈ [Dl]
      · rw [less_none c] at h; cases h
      · rw [less_some c] at h ⊢
        rw [upd_ne (by simpa using c)]; exact h
    · have ex : Ex (less H4 (Dl :: F)) (less (upd H4 Dl (.lst (xs ++ [y]))) (Dl :: F)) := fun a o h => by
        by_cases c : a ∈ Dl :: F
        · rw [less_none c] at h; cases h
        · rw [less_some c] at h ⊢
          rw [upd_ne (fun z => c (by rw [z]; exact List.mem_cons_self))]; exact h
      exact ((r.mono (less_mono (e3.trans e4))).append (.one ry)).mono ex
def stepsD (n : Nat) (f : Nat → Bool) (g : Nat → Dt) : List Dt := ((List.range n).filter f).map g
theorem stepsD_next (n : Nat) (f : Nat → Bool) (g : Nat → Dt) : stepsD (n + 1) f g = if f n = true then stepsD n f g ++ [g n] else stepsD n f g := by
  unfold stepsD
  rw [List.range_succ, List.filter_append, List.map_append]
  by_cases h : f n = true
  · rw [if_pos h, List.filter_cons, if_pos h]; rfl
  · rw [if_neg h, List.filter_cons, if_neg h]; simp
theorem stepsD_len (n : Nat) (f : Nat → Bool) (g : Nat → Dt) : (stepsD n f g).length ≤ n := by
  unfold stepsD
  rw [List.length_map]
  have h := List.length_filter_le f (List.range n)
  rw [List.length_range] at h
  exact h
theorem cd_start {F : List Addr} {H1 : Hp} {Dl : Addr} (hD : H1 Dl = none) : Cd Hb F H1 Dl [] (upd H1 Dl (.lst [])) :=
  ⟨hD, fun a o h => by rw [less_some (by simpa using ne_of_none h hD), upd_ne (ne_of_none h hD)]; exact h, [], upd_same, .nil⟩
/-- over range(n) -/
theorem ef_lcR1 {t : TT} {ar : TA} {j : Nat} {vs : List Nat} {n : Nat} (f : Nat → Bool) (g : Nat → Dt) (h : EvDs ar σ Hb [.int (n : Int)]) (hn : n ≤ 40000) (hw : ∀ x, wipe ((wipe σ vs).set j (some x)) vs = wipe σ vs)
    (ht : ∀ (i : Nat) H1, Ex Hb H1 → i < n → EvT t ((wipe σ vs).set j (some (.int (i : Int)))) H1 (f i)) (he : ∀ (i : Nat) H1, Ex Hb H1 → i < n → f i = true → EvD te ((wipe σ vs).set j (some (.int (i : Int)))) H1 (g i)) :
    EvF (tLc (iRng1 ar) (gName j) t te vs) σ Hb (stepsD n f g) := fun F H S Q q => h F H S _ fun ws H1 e1 r => by
  cases r with
  | cons r r' =>
    cases r'
    cases r
    refine ⟨(n : Int), rfl, by omega, by omega, fun Dl hD => ?_⟩
    refine lc_range (lo := 0) (n := ((n : Int)).toNat) (fun i H' => Cd Hb F H1 Dl (stepsD i f g) H') (cd_start hD) (fun i H' hi p => ?_) (fun H' p => ?_)
    · have e0 : (0 : Int) + (i : Int) = (i : Int) := Int.zero_add _
      rw [e0]
      refine ⟨hw _, ?_⟩
      have S1 := S.on e1
      have eb : Ex Hb (less H' (Dl :: F)) := fun a o ha => by
        have h1 := p.2.1 a o (S1.ex a o ha)
        have ne : a ≠ Dl := ne_of_none (S1.ex a o ha) hD
        rw [less_some (by simp [ne, S1.out ha])]
        rw [less_some (by simpa using ne)] at h1
        exact h1
      refine cd_turn (R := Cd Hb F H1 Dl (stepsD (i + 1) f g)) p S1 (by have := stepsD_len i f g; omega) (ht i _ eb (by omega)) (fun hf => he i _ eb (by omega) hf) (fun H2 c => ?_)
      rw [stepsD_next]; exact c
    · obtain ⟨_, eb, xs, hx, r⟩ := p
      rw [Int.toNat_natCast] at r
      exact q Dl xs H' (fresh_back e1 hD) (e1.trans (eb.trans less_ex)) hx r
end
end Nc

namespace Nc
open PySem PySem.Spec PyProof.Rows L2 Evl

/-! ### data without lists -/
mutual
def Dt.flat : Dt → Bool
  | .lst _ => false
  | .tup l => Dt.flats l
  | _ => true
def Dt.flats : List Dt → Bool
  | [] => true
  | d :: l => d.flat && Dt.flats l
end
mutual
theorem Rp.flat {N N' : Addr → Prop} {H : Hp} : ∀ {v : V} {d : Dt}, d.flat = true → Rp N H v d → Rp N' H v d
  | _, _, _, .non => .non
  | _, _, _, .bl b => .bl b
  | _, _, _, .int b => .int b
  | _, _, _, .str b => .str b
  | _, _, h, .tup e r => .tup e (RpL.flat (by simpa [Dt.flat] using h) r)
  | _, _, h, .lst _ _ _ => by simp [Dt.flat] at h
theorem RpL.flat {N N' : Addr → Prop} {H : Hp} : ∀ {vs : List V} {ds : List Dt}, Dt.flats ds = true → RpL N H vs ds → RpL N' H vs ds
  | _, _, _, .nil => .nil
  | _, _, h, .cons r t => by
    simp only [Dt.flats, Bool.and_eq_true] at h
    exact .cons (Rp.flat h.1 r) (RpL.flat h.2 t)
end
theorem flats_all {l : List Dt} : Dt.flats l = true ↔ ∀ d ∈ l, d.flat = true := by
  induction l with
  | nil => simp [Dt.flats]
  | cons d l ih => simp only [Dt.flats, Bool.and_eq_true, ih, List.mem_cons, forall_eq_or_imp]
theorem flats_ints (L : List Int) : Dt.flats (L.map Dt.int) = true := flats_all.mpr fun d hd => by
  obtain ⟨x, _, rfl⟩ := List.mem_map.mp hd; rfl
theorem flats_nats (L : List Nat) : Dt.flats (L.map fun x => Dt.int (x : Nat)) = true := flats_all.mpr fun d hd => by
  obtain ⟨x, _, rfl⟩ := List.mem_map.mp hd; rfl
theorem flat_grp (g : List Nat) : (dGrp g).flat = true := by
  show Dt.flats _ = true
  exact flats_nats g
theorem flats_grps (gs : List (List Nat)) : Dt.flats (gs.map dGrp) = true := flats_all.mpr fun d hd => by
  obtain ⟨x, _, rfl⟩ := List.mem_map.mp hd; exact flat_grp x

/-! ### new things -/
def EvR (te : TE) (σ : L2.St) (Hb : Hp) (R : Dt → Prop) : Prop := ∀ F H, Beside Hb F H → ∀ Q : VK, (∀ e v H', R e → Ex H H' → Rp (Fresh H) H' v e → Q v H') → te σ H Q
def EvN (te : TE) (σ : L2.St) (Hb : Hp) (d : Dt) : Prop := ∀ F H, Beside Hb F H → ∀ Q : VK, (∀ v H', Ex H H' → Rp (Fresh H) H' v d → Q v H') → te σ H Q
def EvNs (ta : TA) (σ : L2.St) (Hb : Hp) (ds : List Dt) : Prop := ∀ F H, Beside Hb F H → ∀ Q : List V → Hp → Prop, (∀ vs H', Ex H H' → RpL (Fresh H) H' vs ds → Q vs H') → ta σ H Q
section
variable {σ : L2.St} {Hb Hb' H H' : Hp} {d e : Dt} {ds es : List Dt} {te ta tb tc : TE} {K : PySem.W.Frag} {F : List Addr} {R : Dt → Prop}
theorem EvN.mono (e : Ex Hb Hb') (h : EvN te σ Hb d) : EvN te σ Hb' d := fun F H S Q q => h F H (S.down e) Q q
theorem EvN.dd (h : EvN te σ Hb d) : EvD te σ Hb d := fun F H S Q q => h F H S Q fun v H' e r => q v H' e (S.fresh e r)
theorem EvD.nn (h : EvD te σ Hb d) (f : d.flat = true) : EvN te σ Hb d := fun F H S Q q => h F H S Q fun v H' e r => q v H' e ((r.mono less_ex).flat f)
theorem EvF.nn (h : EvF te σ Hb ds) (f : Dt.flats ds = true) : EvN te σ Hb (.lst ds) := fun F H S Q q => h F H S Q fun p xs H' hp e hx r => q _ H' e (.lst hp hx ((r.mono less_ex).flat f))
theorem en_nil : EvNs tNil σ Hb [] := fun F H S Q q => q [] H (Ex.refl H) .nil
theorem en_cons {tr : TA} (h : EvN ta σ Hb d) (hr : EvNs tr σ Hb ds) : EvNs (tCons ta tr) σ Hb (d :: ds) := fun F H S _ q =>
  h F H S _ fun v H2 e2 r => hr F H2 (S.on e2) _ fun vs H3 e3 rs => q (v :: vs) H3 (e2.trans e3) (.cons (r.mono e3) (rs.wk fun a n => fresh_back e2 n))
theorem en_tup {ta : TA} (h : EvNs ta σ Hb ds) (hl : ds.length ≤ 100000) : EvN (tTup ta) σ Hb (.tup ds) := fun F H S Q q =>
  h F H S _ fun vs H2 e2 r => ⟨sz_of (by rw [r.length]; exact hl), fun p hp => q (.ref p) _ (e2.trans (Ex.new hp)) (.tup upd_same (r.mono (Ex.new hp)))⟩
theorem en_lst {ta : TA} (h : EvNs ta σ Hb ds) (hl : ds.length ≤ 100000) : EvN (tLst ta) σ Hb (.lst ds) := fun F H S Q q =>
  h F H S _ fun vs H2 e2 r => ⟨sz_of (by rw [r.length]; exact hl), fun p hp => q (.ref p) _ (e2.trans (Ex.new hp)) (.lst (fresh_back e2 hp) upd_same (r.mono (Ex.new hp)))⟩

/-! ### promises of defs over data -/
def spD (n : Nat) (pre : List Dt → Prop) (f : List Dt → Dt) : Sp := fun vs H Q _ => vs.length = n ∧ ∃ ds, RpL Any H vs ds ∧ pre ds ∧ ∀ v H', Ex H H' → Rp (Fresh H) H' v (f ds) → Q v H'
def spR (n : Nat) (pre : List Dt → Prop) (R : List Dt → Dt → Prop) : Sp := fun vs H Q _ => vs.length = n ∧ ∃ ds, RpL Any H vs ds ∧ pre ds ∧ ∀ e v H', R ds e → Ex H H' → Rp (Fresh H) H' v e → Q v H'
theorem en_call {n : Nat} {pre : List Dt → Prop} {f : List Dt → Dt} {E : XK} {ta : TA} (h : EvDs ta σ Hb ds) (hp : pre ds) (hl : ds.length = n) : EvN (tCall (spD n pre f) [] E ta) σ Hb (f ds) := fun F H S Q q =>
  h F H S _ fun vs H1 e1 r => by
    show spD n pre f (vs ++ []) H1 Q E
    rw [List.append_nil]
    exact ⟨by rw [r.length]; exact hl, ds, r.mono less_ex, hp, fun v H' e2 rv => q v H' (e1.trans e2) (rv.wk fun a n => fresh_back e1 n)⟩
theorem er_call {n : Nat} {pre : List Dt → Prop} {R : List Dt → Dt → Prop} {E : XK} {ta : TA} (h : EvDs ta σ Hb ds) (hp : pre ds) (hl : ds.length = n) : EvR (tCall (spR n pre R) [] E ta) σ Hb (R ds) := fun F H S Q q =>
  h F H S _ fun vs H1 e1 r => by
    show spR n pre R (vs ++ []) H1 Q E
    rw [List.append_nil]
    exact ⟨by rw [r.length]; exact hl, ds, r.mono less_ex, hp, fun e v H' re e2 rv => q e v H' re (e1.trans e2) (rv.wk fun a n => fresh_back e1 n)⟩
theorem ed_call {n : Nat} {pre : List Dt → Prop} {f : List Dt → Dt} {E : XK} {ta : TA} (h : EvDs ta σ Hb ds) (hp : pre ds) (hl : ds.length = n) : EvD (tCall (spD n pre f) [] E ta) σ Hb (f ds) := (en_call h hp hl).dd

/-! ### statements -/
variable {D : Ends} {tz tu tw : TS} {t : TT}
theorem q_set {i : Nat} (S : Beside Hb F H) (h : EvD te σ Hb d) (k : ∀ v Hb' H', Ex Hb Hb' → Ex H H' → Beside Hb' F H' → Rp Any Hb' v d → tz D (σ.set i (some v)) H') : tSeq (tAsg te (gName i)) tz D σ H :=
  h F H S _ fun v H' e r => k v (less H' F) H' (S.lessEx e) e (S.on e).sep r
theorem q_setN {i : Nat} (S : Beside Hb F H) (h : EvN te σ Hb d) (k : ∀ v Hb' H', Ex Hb Hb' → Ex H H' → Beside Hb' F H' → Rp (Fresh H) Hb' v d → tz D (σ.set i (some v)) H') : tSeq (tAsg te (gName i)) tz D σ H :=
  h F H S _ fun v H' e r => k v (less H' F) H' (S.lessEx e) e (S.on e).sep (r.to (fun a xs n h => ⟨n, by rw [less_some (S.new n)]; exact h⟩) fun a xs h => by rw [less_some (S.tup e h)]; exact h)
theorem q_setR {i : Nat} (S : Beside Hb F H) (h : EvR te σ Hb R) (k : ∀ d v Hb' H', R d → Ex Hb Hb' → Ex H H' → Beside Hb' F H' → Rp (Fresh H) Hb' v d → tz D (σ.set i (some v)) H') : tSeq (tAsg te (gName i)) tz D σ H :=
  h F H S _ fun d v H' re e r => k d v (less H' F) H' re (S.lessEx e) e (S.on e).sep (r.to (fun a xs n h => ⟨n, by rw [less_some (S.new n)]; exact h⟩) fun a xs h => by rw [less_some (S.tup e h)]; exact h)
/-- a new list, beside from here on -/
theorem q_setF {i : Nat} (S : Beside Hb F H) (h : EvF te σ Hb ds) (k : ∀ p xs Hb' H', H p = none → Ex Hb Hb' → Ex H H' → Beside Hb' (p :: F) H' → H' p = some (.lst xs) → RpL Any Hb' xs ds → tz D (σ.set i (some (.ref p))) H') : tSeq (tAsg te (gName i)) tz D σ H :=
  h F H S _ fun p xs H' hp e hx r => k p xs (less H' (p :: F)) H' hp (fun a o ha => by
    rw [less_some]
    · exact e a o (S.ex a o ha)
    · intro z
      rcases List.mem_cons.mp z with z | z
      · subst z; rw [S.ex _ _ ha] at hp; cases hp
      · exact S.out ha z) e ⟨less_ex, fun a ha => ⟨less_none ha, by
    rcases List.mem_cons.mp ha with z | ha
    · subst z; exact ⟨xs, hx⟩
    · exact ((S.on e).at_ a ha).2⟩⟩ hx r
theorem q_ifD {b : Bool} (S : Beside Hb F H) (h : EvT t σ Hb b) (h1 : b = true → ∀ H', Ex H H' → Beside Hb F H' → tu { D with nx := tz D } σ H') (h2 : b = false → ∀ H', Ex H H' → Beside Hb F H' → tw { D with nx := tz D } σ H') : tSeq (tIfS t tu tw) tz D σ H :=
  h H S.ex _ fun H1 e => by
    cases b with
    | true => exact h1 rfl H1 e (S.on e)
    | false => exact h2 rfl H1 e (S.on e)
theorem s_ifD {b : Bool} (S : Beside Hb F H) (h : EvT t σ Hb b) (h1 : b = true → ∀ H', Ex H H' → Beside Hb F H' → tu D σ H') (h2 : b = false → ∀ H', Ex H H' → Beside Hb F H' → tw D σ H') : tIfS t tu tw D σ H :=
  h H S.ex _ fun H1 e => by
    cases b with
    | true => exact h1 rfl H1 e (S.on e)
    | false => exact h2 rfl H1 e (S.on e)
/-- an if without else, its test known to fail -/
theorem q_skip (S : Beside Hb F H) (h : EvT t σ Hb false) (k : ∀ H', Ex H H' → Beside Hb F H' → tz D σ H') : tSeq (tIfS t tu tNext) tz D σ H := q_ifD S h (fun z => nomatch z) fun _ H' e S' => k H' e S'
theorem s_retD (S : Beside Hb F H) (h : EvD te σ Hb d) (k : ∀ v H', Ex H H' → Rp Any (less H' F) v d → D.rt v H') : tRet te D σ H := h F H S _ fun v H' e r => k v H' e r
theorem s_retN (S : Beside Hb F H) (h : EvN te σ Hb d) (k : ∀ v H', Ex H H' → Rp (Fresh H) H' v d → D.rt v H') : tRet te D σ H := h F H S _ fun v H' e r => k v H' e r
/-- l.append(e) -/
theorem upd_less {l : Addr} {o : HO} (h : l ∈ F) : less (upd H l o) F = less H F := by
  funext a
  by_cases c : a ∈ F
  · rw [less_none c, less_none c]
  · rw [less_some c, less_some c, upd_ne (fun z => c (by rw [z]; exact h))]
theorem Beside.write {l : Addr} {xs : List V} (S : Beside Hb F H) (h : l ∈ F) : Beside Hb F (upd H l (.lst xs)) :=
  ⟨fun a o ha => by rw [upd_ne (fun z => S.out ha (by rw [z]; exact h))]; exact S.ex a o ha, fun a ha => ⟨(S.at_ a ha).1, by
    by_cases c : a = l
    · subst c; exact ⟨xs, upd_same⟩
    · rw [upd_ne c]; exact (S.at_ a ha).2⟩⟩
theorem s_appD {i : Nat} {l : Addr} {xs : List V} (S : Beside Hb F H) (hF : l ∈ F) (hl : H l = some (.lst xs)) (hv : σ[i]? = some (some (.ref l))) (h : EvD te σ Hb d) (hz : xs.length < 100000)
    (k : ∀ v Hb' H', Ex Hb Hb' → Beside Hb' F H' → (∀ a o, a ≠ l → H a = some o → H' a = some o) → H' l = some (.lst (xs ++ [v])) → Rp Any Hb' v d → D.nx σ H') : tDrop (tBM K "list" rAppend (tVar i) (tCons te tNil)) D σ H :=
  ⟨.ref l, hv, Or.inl ⟨rfl, xs, sq_of hl⟩, h F H S _ fun v H2 e2 r => ⟨l, xs, v, rfl, rfl, e2 l _ hl, sz_lt hz,
    k v (less H2 F) _ (S.lessEx e2) ((S.on e2).sep.write hF) (fun a o hne ha => by rw [upd_ne hne]; exact e2 a o ha) upd_same r⟩⟩
theorem q_appD {i : Nat} {l : Addr} {xs : List V} (S : Beside Hb F H) (hF : l ∈ F) (hl : H l = some (.lst xs)) (hv : σ[i]? = some (some (.ref l))) (h : EvD te σ Hb d) (hz : xs.length < 100000)
    (k : ∀ v Hb' H', Ex Hb Hb' → Beside Hb' F H' → (∀ a o, a ≠ l → H a = some o → H' a = some o) → H' l = some (.lst (xs ++ [v])) → Rp Any Hb' v d → tz D σ H') : tSeq (tDrop (tBM K "list" rAppend (tVar i) (tCons te tNil))) tz D σ H := s_appD (D := { D with nx := tz D }) S hF hl hv h hz k
/-- l[j] = e -/
theorem s_putD {i : Nat} {l : Addr} {xs : List V} {j : Nat} (S : Beside Hb F H) (hF : l ∈ F) (hl : H l = some (.lst xs)) (hv : σ[i]? = some (some (.ref l))) (h : EvD te σ Hb d) (hj : EvD tb σ Hb (.int (j : Int))) (hz : j < xs.length)
    (k : ∀ v Hb' H', Ex Hb Hb' → Beside Hb' F H' → (∀ a o, a ≠ l → H a = some o → H' a = some o) → H' l = some (.lst (xs.set j v)) → Rp Any Hb' v d → D.nx σ H') : tAsg te (gSub (tVar i) tb rSetL) D σ H :=
  h F H S _ fun v H1 e1 r => ⟨.ref l, hv, hj F H1 (S.on e1) _ fun y H2 e2 ry => by
    rw [ry.intI]
    refine ⟨l, xs, (j : Int), j, rfl, rfl, (e1.trans e2) l _ hl, ixN_nat hz, ?_⟩
    exact k v (less H2 F) _ (S.lessEx (e1.trans e2)) ((S.on (e1.trans e2)).sep.write hF) (fun a o hne ha => by rw [upd_ne hne]; exact (e1.trans e2) a o ha) upd_same (r.mono (less_mono e2))⟩
/-! loops -/
theorem s_forR {ar : TA} {j n : Nat} (S : Beside Hb F H) (h : EvDs ar σ Hb [.int (n : Int)]) (hn : n ≤ 100000) (Pv : Nat → L2.St → Hp → Prop) (h0 : ∀ H1, Ex H H1 → Pv 0 σ H1)
    (hs : ∀ (i : Nat) σ' H', i < n → Pv i σ' H' → tu { D with nx := Pv (i + 1), ct := Pv (i + 1), bk := D.nx } (σ'.set j (some (.int (i : Int)))) H') (hd : ∀ σ' H', Pv n σ' H' → D.nx σ' H') : tFor (iRng1 ar) (gName j) tu D σ H :=
  h F H S _ fun ws H1 e1 r => by
    cases r with
    | cons r r' =>
      cases r'
      cases r
      refine ⟨(n : Int), rfl, by omega, by omega, for_range (lo := 0) (n := ((n : Int)).toNat) Pv (h0 H1 e1) (fun i σ' H' hi p => ?_) (fun σ' H' p => hd σ' H' (by rw [Int.toNat_natCast] at p; exact p))⟩
      have e0 : (0 : Int) + (i : Int) = (i : Int) := Int.zero_add _
      show tu { D with nx := Pv (i + 1), ct := Pv (i + 1), bk := D.nx } (σ'.set j (some (.int ((0 : Int) + (i : Int))))) H'
      rw [e0]
      exact hs i σ' H' (by omega) p
theorem q_forR {ar : TA} {j n : Nat} (S : Beside Hb F H) (h : EvDs ar σ Hb [.int (n : Int)]) (hn : n ≤ 100000) (Pv : Nat → L2.St → Hp → Prop) (h0 : ∀ H1, Ex H H1 → Pv 0 σ H1)
    (hs : ∀ (i : Nat) σ' H', i < n → Pv i σ' H' → tu { D with nx := Pv (i + 1), ct := Pv (i + 1), bk := tz D } (σ'.set j (some (.int (i : Int)))) H') (hd : ∀ σ' H', Pv n σ' H' → tz D σ' H') : tSeq (tFor (iRng1 ar) (gName j) tu) tz D σ H :=
  s_forR (D := { D with nx := tz D }) S h hn Pv h0 hs hd
/-- over a list of data: Hb1 the first part with that list -/
theorem s_forL {tl : TE} {g : TG} (S : Beside Hb F H) (h : EvD tl σ Hb (.lst ds))
    (k : ∀ Hb1 H1, Ex Hb Hb1 → Ex H H1 → Beside Hb1 F H1 → ∃ Pv : Nat → L2.St → Hp → Prop, Pv 0 σ H1 ∧ (∀ i σ' H', Pv i σ' H' → Ex Hb1 H') ∧
      (∀ i d v σ' H', ds[i]? = some d → Rp Any Hb1 v d → Pv i σ' H' → g v σ' H' fun σ2 H2 => tu { D with nx := Pv (i + 1), ct := Pv (i + 1), bk := D.nx } σ2 H2) ∧ (∀ σ' H', Pv ds.length σ' H' → D.nx σ' H')) : tFor (iList K tl) g tu D σ H :=
  h F H S _ fun v H1 e1 r => by
    obtain ⟨a, xs, rfl, _, hx, rs⟩ := r.lstI
    obtain ⟨Pv, h0, hb, hs, hd⟩ := k (less H1 F) H1 (S.lessEx e1) e1 (S.on e1).sep
    refine ⟨a, rfl, ⟨xs, sq_of (less_ex a _ hx)⟩, for_list (xs := xs) Pv h0 (fun i σ' H' _ p => sq_of (hb i σ' H' p a _ hx)) (fun i x σ' H' hi p => ?_) (fun σ' H' p => hd σ' H' (by rw [rs.length] at p; exact p))⟩
    obtain ⟨d, h1, h2⟩ := rs.getV hi
    exact hs i d x σ' H' h1 h2 p
theorem q_forL {tl : TE} {g : TG} (S : Beside Hb F H) (h : EvD tl σ Hb (.lst ds))
    (k : ∀ Hb1 H1, Ex Hb Hb1 → Ex H H1 → Beside Hb1 F H1 → ∃ Pv : Nat → L2.St → Hp → Prop, Pv 0 σ H1 ∧ (∀ i σ' H', Pv i σ' H' → Ex Hb1 H') ∧
      (∀ i d v σ' H', ds[i]? = some d → Rp Any Hb1 v d → Pv i σ' H' → g v σ' H' fun σ2 H2 => tu { D with nx := Pv (i + 1), ct := Pv (i + 1), bk := tz D } σ2 H2) ∧ (∀ σ' H', Pv ds.length σ' H' → tz D σ' H')) : tSeq (tFor (iList K tl) g tu) tz D σ H :=
  s_forL (D := { D with nx := tz D }) S h k
theorem s_forT {tl : TE} {g : TG} (S : Beside Hb F H) (h : EvD tl σ Hb (.tup ds))
    (k : ∀ Hb1 H1, Ex Hb Hb1 → Ex H H1 → Beside Hb1 F H1 → ∃ Pv : Nat → L2.St → Hp → Prop, Pv 0 σ H1 ∧ (∀ i σ' H', Pv i σ' H' → Ex Hb1 H') ∧
      (∀ i d v σ' H', ds[i]? = some d → Rp Any Hb1 v d → Pv i σ' H' → g v σ' H' fun σ2 H2 => tu { D with nx := Pv (i + 1), ct := Pv (i + 1), bk := D.nx } σ2 H2) ∧ (∀ σ' H', Pv ds.length σ' H' → D.nx σ' H')) : tFor (iTup K tl) g tu D σ H :=
  h F H S _ fun v H1 e1 r => by
    obtain ⟨a, xs, rfl, hx, rs⟩ := r.tupI
    obtain ⟨Pv, h0, hb, hs, hd⟩ := k (less H1 F) H1 (S.lessEx e1) e1 (S.on e1).sep
    refine ⟨a, rfl, ⟨xs, st_of (less_ex a _ hx)⟩, for_tup (xs := xs) Pv h0 (fun i σ' H' _ p => st_of (hb i σ' H' p a _ hx)) (fun i x σ' H' hi p => ?_) (fun σ' H' p => hd σ' H' (by rw [rs.length] at p; exact p))⟩
    obtain ⟨d, h1, h2⟩ := rs.getV hi
    exact hs i d x σ' H' h1 h2 p
theorem q_forT {tl : TE} {g : TG} (S : Beside Hb F H) (h : EvD tl σ Hb (.tup ds))
    (k : ∀ Hb1 H1, Ex Hb Hb1 → Ex H H1 → Beside Hb1 F H1 → ∃ Pv : Nat → L2.St → Hp → Prop, Pv 0 σ H1 ∧ (∀ i σ' H', Pv i σ' H' → Ex Hb1 H') ∧
      (∀ i d v σ' H', ds[i]? = some d → Rp Any Hb1 v d → Pv i σ' H' → g v σ' H' fun σ2 H2 => tu { D with nx := Pv (i + 1), ct := Pv (i + 1), bk := tz D } σ2 H2) ∧ (∀ σ' H', Pv ds.length σ' H' → tz D σ' H')) : tSeq (tFor (iTup K tl) g tu) tz D σ H :=
  s_forT (D := { D with nx := tz D }) S h k
/-! comprehensions over lists and tuples -/
theorem cd_base {H1 : Hp} {Dl : Addr} {H' : Hp} (S1 : Beside Hb F H1) (p : Cd Hb F H1 Dl ds H') : Ex (less H1 F) (less H' (Dl :: F)) := fun a o ha => by
  have hF : a ∉ F := fun z => by rw [less_none z] at ha; cases ha
  rw [less_some hF] at ha
  have h1 := p.2.1 a o ha
  have ne : a ≠ Dl := ne_of_none ha p.1
  rw [less_some (by simp [ne, hF])]
  rw [less_some (by simpa using ne)] at h1
  exact h1
theorem ef_lcL {tl : TE} {j : Nat} {vs : List Nat} (f : Nat → Bool) (g : Nat → Dt) (h : EvD tl σ Hb (.lst ds)) (hz : ds.length ≤ 40000) (hw : ∀ x, wipe ((wipe σ vs).set j (some x)) vs = wipe σ vs)
    (ht : ∀ (i : Nat) (d : Dt) (v : V) H1, Ex Hb H1 → ds[i]? = some d → Rp Any H1 v d → EvT t ((wipe σ vs).set j (some v)) H1 (f i)) (he : ∀ (i : Nat) (d : Dt) (v : V) H1, Ex Hb H1 → ds[i]? = some d → Rp Any H1 v d → f i = true → EvD te ((wipe σ vs).set j (some v)) H1 (g i)) :
    EvF (tLc (iList K tl) (gName j) t te vs) σ Hb (stepsD ds.length f g) := fun F H S Q q => h F H S _ fun w H1 e1 r => by
  obtain ⟨a, xs, rfl, _, hx, rs⟩ := r.lstI
  have S1 := S.on e1
  refine ⟨a, rfl, ⟨xs, sq_of (less_ex a _ hx)⟩, fun Dl hD => ?_⟩
  refine lc_list (xs := xs) (fun i H' => Cd Hb F H1 Dl (stepsD i f g) H') (cd_start hD) (fun i H' _ p => sq_of (less_ex a _ (p.2.1 a _ (less_ex a _ hx)))) (fun i x H' hi p => ?_) (fun H' p => ?_)
  · have eb := cd_base S1 p
    have eh : Ex Hb (less H' (Dl :: F)) := (S.lessEx e1).trans eb
    obtain ⟨d, h1, h2⟩ := rs.getV hi
    have lt := (List.getElem?_eq_some_iff.mp h1).1
    refine ⟨hw _, cd_turn (R := Cd Hb F H1 Dl (stepsD (i + 1) f g)) p S1 (by have := stepsD_len i f g; omega) (ht i d x _ eh h1 (h2.mono eb)) (fun hf => he i d x _ eh h1 (h2.mono eb) hf) (fun H2 c => ?_)⟩
    rw [stepsD_next]; exact c
  · obtain ⟨_, eb, ys, hy, ry⟩ := p
    rw [rs.length] at ry
    exact q Dl ys H' (fresh_back e1 hD) (e1.trans (eb.trans less_ex)) hy ry
theorem ef_lcT {tl : TE} {j : Nat} {vs : List Nat} (f : Nat → Bool) (g : Nat → Dt) (h : EvD tl σ Hb (.tup ds)) (hz : ds.length ≤ 40000) (hw : ∀ x, wipe ((wipe σ vs).set j (some x)) vs = wipe σ vs)
    (ht : ∀ (i : Nat) (d : Dt) (v : V) H1, Ex Hb H1 → ds[i]? = some d → Rp Any H1 v d → EvT t ((wipe σ vs).set j (some v)) H1 (f i)) (he : ∀ (i : Nat) (d : Dt) (v : V) H1, Ex Hb H1 → ds[i]? = some d → Rp Any H1 v d → f i = true → EvD te ((wipe σ vs).set j (some v)) H1 (g i)) :
    EvF (tLc (iTup K tl) (gName j) t te vs) σ Hb (stepsD ds.length f g) := fun F H S Q q => h F H S _ fun w H1 e1 r => by
  obtain ⟨a, xs, rfl, hx, rs⟩ := r.tupI
  have S1 := S.on e1
  refine ⟨a, rfl, ⟨xs, st_of (less_ex a _ hx)⟩, fun Dl hD => ?_⟩
  refine lc_tup (xs := xs) (fun i H' => Cd Hb F H1 Dl (stepsD i f g) H') (cd_start hD) (fun i H' _ p => st_of (less_ex a _ (p.2.1 a _ (less_ex a _ hx)))) (fun i x H' hi p => ?_) (fun H' p => ?_)
  · have eb := cd_base S1 p
    have eh : Ex Hb (less H' (Dl :: F)) := (S.lessEx e1).trans eb
    obtain ⟨d, h1, h2⟩ := rs.getV hi
    have lt := (List.getElem?_eq_some_iff.mp h1).1
    refine ⟨hw _, cd_turn (R := Cd Hb F H1 Dl (stepsD (i + 1) f g)) p S1 (by have := stepsD_len i f g; omega) (ht i d x _ eh h1 (h2.mono eb)) (fun hf => he i d x _ eh h1 (h2.mono eb) hf) (fun H2 c => ?_)⟩
    rw [stepsD_next]; exact c
  · obtain ⟨_, eb, ys, hy, ry⟩ := p
    rw [rs.length] at ry
    exact q Dl ys H' (fresh_back e1 hD) (e1.trans (eb.trans less_ex)) hy ry
theorem stepsD_list {α : Type} {L : List α} {f : Nat → Bool} {g : Nat → Dt} (P : α → Bool) (G : α → Dt) (hf : ∀ i x, L[i]? = some x → f i = P x) (hg : ∀ i x, L[i]? = some x → f i = true → g i = G x) : stepsD L.length f g = (L.filter P).map G := by
  have key : ∀ n, n ≤ L.length → stepsD n f g = ((L.take n).filter P).map G := by
    intro n
    induction n with
    | zero => intro _; rfl
    | succ n ih =>
      intro hn
      have e := List.getElem?_eq_getElem (show n < L.length by omega)
      rw [stepsD_next, ih (by omega), List.take_add_one, e, hf n _ e]
      simp only [Option.toList, List.filter_append, List.map_append]
      by_cases c : P L[n] = true
      · rw [if_pos c, List.filter_cons, if_pos c, hg n _ e (by rw [hf n _ e]; exact c)]; rfl
      · rw [if_neg c, List.filter_cons, if_neg c]; simp
  have := key L.length (Nat.le_refl _)
  rw [List.take_length] at this
  exact this
/-- len of a written range etc. come as ints -/
theorem stepsD_range {n : Nat} {f : Nat → Bool} {g : Nat → Dt} {P : Nat → Bool} {G : Nat → Dt} (hf : ∀ i, i < n → f i = P i) (hg : ∀ i, i < n → f i = true → g i = G i) : stepsD n f g = ((List.range n).filter P).map G := by
  unfold stepsD
  have e : (List.range n).filter f = (List.range n).filter P := List.filter_congr fun i hi => hf i (List.mem_range.mp hi)
  rw [← e]
  exact List.map_congr_left fun i hi => hg i (List.mem_range.mp (List.mem_filter.mp hi).1) (List.mem_filter.mp hi).2
end

/-! ### defs that stand in the module -/
structure Callee (P : Program) (w : World) (K : PySem.W.Frag) (mg : Str → Option Value) (base : Heap) (CX : CXT) (k : Nat) (x : Str) (ps : List Str) (sp : Sp) : Prop where
  ex : ∃ f fd, FnOk P w K mg base CX k f fd ps sp ∧ mg x = some (.ref f) ∧ PySem.W.keepIn K (.ref f) = true ∧ Binds K fd ps []
theorem pe_fn {X : Cx} {CX : CXT} {k : Nat} {x : Str} {ps : List Str} {sp : Sp} {E : XK} {e : Expr} {es : List Expr} {t : TA} {p pos : Pos} (C : Callee X.prog X.w X.K X.mg X.base CX k x ps sp) (hr : Room k X.A) (hg : Gl X x) (hx : Passes CX X E)
    (ha : PA X (e :: es) t) (hdb : (x == ("__debug__" : Str)) = false := by decide) (he : starEach (e :: es) X.env = (false, eval e X.env) :: starEach es X.env := by rfl) (hpl : (backTo pos (starEach es X.env)).any (·.1) = false := by rfl) :
    PE X (.Call (.Name x p) (e :: es) [] pos) (tCall sp [] E t) := by
  obtain ⟨f, fd, F, hm, hk, hb⟩ := C.ex
  exact pe_call F hr hg hm hk hb .nil hx ha hdb he hpl
theorem FnOk.weak {P : Program} {w : World} {K : PySem.W.Frag} {mg : Str → Option Value} {base : Heap} {CX : CXT} {k : Nat} {f : Addr} {fd : FuncData} {ps : List Str} {sp sp' : Sp} (F : FnOk P w K mg base CX k f fd ps sp) (h : ∀ vs H Q E, sp' vs H Q E → sp vs H Q E) : FnOk P w K mg base CX k f fd ps sp' :=
  ⟨fun vs H Q E q => F.len vs H Q E (h vs H Q E q), fun A outer s H args us vs Q E hr e0 hb r q => F.run A outer s H args us vs Q E hr e0 hb r (h vs H Q E q)⟩
end Nc

namespace Nc
open PySem PySem.Spec PyProof.Rows L2 Evl
/-! ### operators by short names -/
abbrev rAddI : R2 := rI0 fun i j => .int (i + j)
abbrev rSubI : R2 := rI0 fun i j => .int (i - j)
abbrev rMulI : R2 := rI CMul fun i j => .int (i * j)
abbrev rDivI : R2 := rI CDiv fun i j => .int (i / j)
abbrev rModI : R2 := rI (fun _ j => 0 < j) fun i j => .int (i % j)
abbrev rPowI : R2 := rI CPow fun i j => .int (i ^ j.toNat)
abbrev rNegI : V → Hp → VK → Prop := rU fun i => .int (-i)
abbrev rLtI : R2 := rI0 fun i j => .bl (decide (i < j))
abbrev rLeI : R2 := rI0 fun i j => .bl (decide (i ≤ j))
abbrev rGtI : R2 := rI0 fun i j => .bl (decide (j < i))
abbrev rGeI : R2 := rI0 fun i j => .bl (decide (j ≤ i))
section
variable {X : Cx}
theorem op_addI : OpR X (binaryOp .Add) rAddI := op_add
theorem op_subI : OpR X (binaryOp .Sub) rSubI := op_sub
theorem op_mulI : OpR X (binaryOp .Mult) rMulI := op_mul
theorem op_divI : OpR X (binaryOp .FloorDiv) rDivI := op_fdiv
theorem op_modI : OpR X (binaryOp .Mod) rModI := op_mod
theorem op_powI : OpR X (binaryOp .Pow) rPowI := op_pow
theorem un_negI : UnR X (unaryOp .USub) rNegI := un_neg
theorem op_ltI : OpR X (compareOp .Lt) rLtI := op_lt
theorem op_leI : OpR X (compareOp .LtE) rLeI := op_le
theorem op_gtI : OpR X (compareOp .Gt) rGtI := op_gt
theorem op_geI : OpR X (compareOp .GtE) rGeI := op_ge
end
/-! ### built-in names are built-in still -/
structure Blt (mg : Str → Option Value) : Prop where
  len_ : mg "len" = none
  range_ : mg "range" = none
  tuple_ : mg "tuple" = none
  list_ : mg "list" = none
  isinstance_ : mg "isinstance" = none
  int_ : mg "int" = none
  bool_ : mg "bool" = none
  str_ : mg "str" = none
  enumerate_ : mg "enumerate" = none
  zip_ : mg "zip" = none
  sorted_ : mg "sorted" = none
  sum_ : mg "sum" = none
  min_ : mg "min" = none
  max_ : mg "max" = none
  all_ : mg "all" = none
  any_ : mg "any" = none
end Nc
namespace Nc
open PySem PySem.Spec PyProof.Rows L2 Evl
section
variable {σ : L2.St} {Hb : Hp} {ta : TE}
theorem rg_vals (n : Nat) {N : Addr → Prop} {H : Hp} : RpL N H (rgV 0 (n : Int)) ((List.range n).map fun i => Dt.int (i : Nat)) := by
  have e : rgV 0 (n : Int) = ((List.range n).map fun i => ((i : Nat) : Int)).map V.int := by
    unfold rgV
    rw [List.map_map, Int.sub_zero, Int.toNat_natCast]
    refine List.map_congr_left fun i _ => ?_
    show V.int (0 + (i : Int)) = V.int (i : Int)
    rw [Int.zero_add]
  have e2 : ((List.range n).map fun i => Dt.int (i : Nat)) = ((List.range n).map fun i => ((i : Nat) : Int)).map Dt.int := by rw [List.map_map]; rfl
  rw [e, e2]
  exact RpL.ints _
theorem ef_lstRg {n : Nat} (h : EvD ta σ Hb (.int (n : Int))) (hn : n ≤ 100000) : EvF (tLstRg (tRg1 ta)) σ Hb ((List.range n).map fun i => Dt.int (i : Nat)) := fun F H S Q q =>
  h F H S _ fun v H1 e1 r => by
    rw [r.intI]
    exact ⟨n, rfl, RgOk.of_le (by omega) (by omega) (by omega) (by omega), ef_mk S e1 (rg_vals n) q⟩
theorem ed_tupRg {n : Nat} (h : EvD ta σ Hb (.int (n : Int))) (hn : n ≤ 100000) : EvD (tTupRg (tRg1 ta)) σ Hb (.tup ((List.range n).map fun i => Dt.int (i : Nat))) := fun F H S Q q =>
  h F H S _ fun v H1 e1 r => by
    rw [r.intI]
    exact ⟨n, rfl, RgOk.of_le (by omega) (by omega) (by omega) (by omega), fun p hp => q (.ref p) _ (e1.trans (Ex.new hp)) (.tup (by rw [less_some ((S.on e1).new hp)]; exact upd_same) (rg_vals n))⟩
theorem ed_v {i : Nat} {v : V} {d : Dt} (h : σ[i]? = some (some v)) (r : Rp Any Hb v d) : EvD (tVar i) σ Hb d := ed_var h r
theorem ed_vi {i : Nat} {n : Int} (h : σ[i]? = some (some (.int n))) : EvD (tVar i) σ Hb (.int n) := ed_var (N := Any) h (.int n)
theorem ed_vb {i : Nat} {n : Bool} (h : σ[i]? = some (some (.bl n))) : EvD (tVar i) σ Hb (.bl n) := ed_var (N := Any) h (.bl n)
end
end Nc
namespace Nc
open PySem PySem.Spec PyProof.Rows L2 Evl
section
variable {N : Addr → Prop} {H : Hp} {vs : List V} {ds : List Dt}
theorem args1 (len : vs.length = 1) (r : RpL N H vs ds) : ∃ v d, vs = [v] ∧ ds = [d] ∧ Rp N H v d := by
  match vs, len, r with
  | [_], _, .cons r .nil => exact ⟨_, _, rfl, rfl, r⟩
theorem args2 (len : vs.length = 2) (r : RpL N H vs ds) : ∃ v d v2 d2, vs = [v, v2] ∧ ds = [d, d2] ∧ Rp N H v d ∧ Rp N H v2 d2 := by
  match vs, len, r with
  | [_, _], _, .cons r (.cons r2 .nil) => exact ⟨_, _, _, _, rfl, rfl, r, r2⟩
theorem args3 (len : vs.length = 3) (r : RpL N H vs ds) : ∃ v d v2 d2 v3 d3, vs = [v, v2, v3] ∧ ds = [d, d2, d3] ∧ Rp N H v d ∧ Rp N H v2 d2 ∧ Rp N H v3 d3 := by
  match vs, len, r with
  | [_, _, _], _, .cons r (.cons r2 (.cons r3 .nil)) => exact ⟨_, _, _, _, _, _, rfl, rfl, r, r2, r3⟩
end
/-- a whole number -/
def Dt.isI : Dt → Bool
  | .int _ => true
  | _ => false
def Dt.isB : Dt → Bool
  | .bl _ => true
  | _ => false
def Dt.isL : Dt → Bool
  | .lst _ => true
  | _ => false
def Dt.isT : Dt → Bool
  | .tup _ => true
  | _ => false
def Dt.isS : Dt → Bool
  | .str _ => true
  | _ => false
theorem kit_int : ∀ d : Dt, kitB d.ty "int" = some (d.isI || d.isB)
  | .non => (by decide +kernel : kitB "NoneType" "int" = some false)
  | .bl _ => (by decide +kernel : kitB "bool" "int" = some true)
  | .int _ => (by decide +kernel : kitB "int" "int" = some true)
  | .str _ => (by decide +kernel : kitB "str" "int" = some false)
  | .lst _ => (by decide +kernel : kitB "list" "int" = some false)
  | .tup _ => (by decide +kernel : kitB "tuple" "int" = some false)
theorem kit_bool : ∀ d : Dt, kitB d.ty "bool" = some (d.isB)
  | .non => (by decide +kernel : kitB "NoneType" "bool" = some false)
  | .bl _ => (by decide +kernel : kitB "bool" "bool" = some true)
  | .int _ => (by decide +kernel : kitB "int" "bool" = some false)
  | .str _ => (by decide +kernel : kitB "str" "bool" = some false)
  | .lst _ => (by decide +kernel : kitB "list" "bool" = some false)
  | .tup _ => (by decide +kernel : kitB "tuple" "bool" = some false)
theorem kit_list : ∀ d : Dt, kitB d.ty "list" = some (d.isL)
  | .non => (by decide +kernel : kitB "NoneType" "list" = some false)
  | .bl _ => (by decide +kernel : kitB "bool" "list" = some false)
  | .int _ => (by decide +kernel : kitB "int" "list" = some false)
  | .str _ => (by decide +kernel : kitB "str" "list" = some false)
  | .lst _ => (by decide +kernel : kitB "list" "list" = some true)
  | .tup _ => (by decide +kernel : kitB "tuple" "list" = some false)
theorem kit_tuple : ∀ d : Dt, kitB d.ty "tuple" = some (d.isT)
  | .non => (by decide +kernel : kitB "NoneType" "tuple" = some false)
  | .bl _ => (by decide +kernel : kitB "bool" "tuple" = some false)
  | .int _ => (by decide +kernel : kitB "int" "tuple" = some false)
  | .str _ => (by decide +kernel : kitB "str" "tuple" = some false)
  | .lst _ => (by decide +kernel : kitB "list" "tuple" = some false)
  | .tup _ => (by decide +kernel : kitB "tuple" "tuple" = some true)
theorem kit_str : ∀ d : Dt, kitB d.ty "str" = some (d.isS)
  | .non => (by decide +kernel : kitB "NoneType" "str" = some false)
  | .bl _ => (by decide +kernel : kitB "bool" "str" = some false)
  | .int _ => (by decide +kernel : kitB "int" "str" = some false)
  | .str _ => (by decide +kernel : kitB "str" "str" = some true)
  | .lst _ => (by decide +kernel : kitB "list" "str" = some false)
  | .tup _ => (by decide +kernel : kitB "tuple" "str" = some false)
theorem isI_of (d : Dt) : ((d.isI || d.isB) && !d.isB) = d.isI := by cases d <;> rfl
def sp_is_whole : Sp := spD 1 (fun _ => True) fun ds => .bl ((ds.headD .non).isI)
def sp_l_whole : Sp := sp_is_whole
def sp_l_cell_at (K : PySem.W.Frag) : Sp := fun vs H Q _ => ∃ (a : Addr) (ns : List Int) (k : Nat), vs = [.ref a, .int (k : Int)] ∧ SqL K H a (ns.map V.int) ∧ ∀ H', Ex H H' → Q (.int (ns.getD k 0)) H'
def countOf (c : Int) : Nat := if c % 3 = 1 then 1 + (c / 3 % 60).toNat else 1 + (c / 3 % 9).toNat
def dInt : Dt → Int
  | .int i => i
  | _ => 0
def sp_l_count : Sp := spD 1 (fun ds => ∃ c, ds = [.int c]) fun ds => .int (countOf (dInt (ds.headD .non)) : Nat)
def sp_l_truth : Sp := spD 2 (fun ds => ∃ a b, ds = [.bl a, .bl b]) fun ds => match ds with
  | [.bl a, .bl b] => .bl (decide (a = b))
  | _ => .non
theorem countOf_pos (c : Int) : 1 ≤ countOf c ∧ countOf c ≤ 60 := by
  unfold countOf
  split <;> omega
section
variable {σ : L2.St} {Hb : Hp} {K : PySem.W.Frag} {ta tb : TE}
theorem ed_cell {a : Addr} {ns : List Int} {k : Nat} {E : XK} {i : Nat} (hs : SqL K Hb a (ns.map V.int)) (hv : σ[i]? = some (some (.ref a))) : EvD (tCall (sp_l_cell_at K) [] E (tCons (tVar i) (tCons (tC (.int (k : Int))) tNil))) σ Hb (.int (ns.getD k 0)) := fun F H S Q q =>
  ⟨.ref a, hv, a, ns, k, rfl, ex_l S.ex hs, fun H' e => q _ H' e (.int _)⟩
end
end Nc

namespace Nc
open PySem PySem.Spec PyProof.Rows L2 Evl
theorem bt_int : bootBuiltins "int" = some (.type "int") := by decide +kernel
theorem bt_bool : bootBuiltins "bool" = some (.type "bool") := by decide +kernel
theorem bt_str : bootBuiltins "str" = some (.type "str") := by decide +kernel
theorem bt_list : bootBuiltins "list" = some (.type "list") := by decide +kernel
theorem bt_tuple : bootBuiltins "tuple" = some (.type "tuple") := by decide +kernel
section
variable {σ : L2.St} {Hb H : Hp} {F : List Addr} {D : Ends} {tz tu : TS} {t : TT}
theorem q_ifN {b : Bool} (S : Beside Hb F H) (h : EvT t σ Hb b) (h1 : b = true → ∀ H', Ex H H' → Beside Hb F H' → tu { D with nx := tz D } σ H') (h2 : b = false → ∀ H', Ex H H' → Beside Hb F H' → tz D σ H') : tSeq (tIfS t tu tNext) tz D σ H := q_ifD S h h1 h2
theorem s_ifN {b : Bool} (S : Beside Hb F H) (h : EvT t σ Hb b) (h1 : b = true → ∀ H', Ex H H' → Beside Hb F H' → tu D σ H') (h2 : b = false → ∀ H', Ex H H' → Beside Hb F H' → D.nx σ H') : tIfS t tu tNext D σ H := s_ifD S h h1 h2
end
end Nc
namespace Nc
open PySem PySem.Spec PyProof.Rows L2 Evl
section
variable {σ : L2.St} {Hb H : Hp} {F : List Addr} {D : Ends} {tz tu : TS} {t : TT} {te : TE}
theorem q_setI {i : Nat} {n : Int} (S : Beside Hb F H) (h : EvD te σ Hb (.int n)) (k : ∀ H', Ex H H' → Beside Hb F H' → tz D (σ.set i (some (.int n))) H') : tSeq (tAsg te (gName i)) tz D σ H :=
  h F H S _ fun v H' e r => by rw [r.intI]; exact k H' e (S.on e)
theorem q_setB {i : Nat} {n : Bool} (S : Beside Hb F H) (h : EvD te σ Hb (.bl n)) (k : ∀ H', Ex H H' → Beside Hb F H' → tz D (σ.set i (some (.bl n))) H') : tSeq (tAsg te (gName i)) tz D σ H :=
  h F H S _ fun v H' e r => by rw [r.blI]; exact k H' e (S.on e)
/-- if c: x = e (ints), told by the value behind it -/
theorem q_ifSetI {i : Nat} {n m : Int} {b : Bool} (S : Beside Hb F H) (h : EvT t σ Hb b) (h1 : b = true → EvD te σ Hb (.int n)) (h2 : b = false → σ.set i (some (.int m)) = σ) (k : ∀ H', Ex H H' → Beside Hb F H' → tz D (σ.set i (some (.int (if b = true then n else m)))) H') :
    tSeq (tIfS t (tAsg te (gName i)) tNext) tz D σ H := by
  refine q_ifN S h (fun hb H1 e1 S1 => ?_) fun hb H1 e1 S1 => ?_
  · refine h1 hb F H1 S1 _ fun v H2 e2 r => ?_
    rw [r.intI]
    have := k H2 (e1.trans e2) (S1.on e2)
    rw [if_pos hb] at this
    exact this
  · have := k H1 e1 S1
    rw [if_neg (by rw [hb]; exact Bool.false_ne_true), h2 hb] at this
    exact this
end
/-- what the law's labels are -/
def isLab (n : Nat) (e : Dt) : Prop := ∃ L : List Nat, L.length = n ∧ Lead L ∧ e = dNats L
def sp_l_labels : Sp := spR 3 (fun ds => ∃ (n : Nat) (c o : Int), ds = [.int n, .int c, .int o] ∧ 1 ≤ n ∧ n ≤ 60) fun ds e => isLab (dInt (ds.headD .non)).toNat e
end Nc
namespace Nc
open PySem PySem.Spec PyProof.Rows L2 Evl
def Dt.ints : Dt → List Int
  | .lst l => l.map dInt
  | _ => []
theorem ints_dInts (L : List Int) : (dInts L).ints = L := by
  show (L.map Dt.int).map dInt = L
  rw [List.map_map]
  exact List.map_id' L
/-- a list of labels, read as a labelling -/
def li (L : List Int) : Nat → Int := fun i => L.getD i 0
def gI (L : List Int) : List (List Nat) := groupsOf (li L) L.length
def ofN (L : List Nat) : List Int := L.map fun x => ((x : Nat) : Int)
theorem dNats_ofN (L : List Nat) : dNats L = dInts (ofN L) := by
  unfold dNats dInts ofN
  rw [List.map_map]; rfl
theorem ofN_length (L : List Nat) : (ofN L).length = L.length := by unfold ofN; rw [List.length_map]
theorem li_ofN (L : List Nat) (i : Nat) : li (ofN L) i = ((lb L i : Nat) : Int) := by
  unfold li lb ofN
  rw [List.getD_eq_getElem?_getD, List.getD_eq_getElem?_getD, List.getElem?_map]
  cases L[i]? <;> rfl
theorem gI_ofN (L : List Nat) : gI (ofN L) = groupsOf (lb L) L.length := by
  unfold gI
  rw [ofN_length]
  refine groups_congr fun i j _ _ => ?_
  rw [li_ofN, li_ofN]
  exact Int.ofNat_inj
theorem li_get {L : List Int} {i : Nat} (h : i < L.length) : L[i]? = some (li L i) := by
  unfold li
  rw [List.getD_eq_getElem?_getD, List.getElem?_eq_getElem h]; rfl
theorem atI_li {L : List Int} {i : Nat} (h : i < L.length) : atI (L.map Dt.int) ((i : Nat) : Int) = some (.int (li L i)) := by
  refine atI_nat ?_
  rw [List.getElem?_map, li_get h]; rfl
theorem firstB_li {L : List Int} {i : Nat} (h : i ≤ L.length) : firstB (li L) i = decide (li L i ∉ L.take i) := by
  rw [Bool.eq_iff_iff, firstB_iff, decide_eq_true_iff]
  constructor
  · intro q z
    rw [List.mem_take_iff_getElem] at z
    obtain ⟨j, hj, e⟩ := z
    refine q j (by omega) ?_
    unfold li at e ⊢
    rw [List.getD_eq_getElem?_getD, List.getElem?_eq_getElem (show j < L.length by omega)]
    exact e
  · intro q j hj e
    refine q ?_
    rw [← e, List.mem_take_iff_getElem]
    refine ⟨j, by omega, ?_⟩
    unfold li
    rw [List.getD_eq_getElem?_getD, List.getElem?_eq_getElem (show j < L.length by omega)]; rfl
/-- the groups by their first places below i -/
def gUp {α : Type} [DecidableEq α] (f : Nat → α) (n i : Nat) : List (List Nat) := ((List.range i).filter (firstB f)).map (grp f n)
theorem gUp_next {α : Type} [DecidableEq α] (f : Nat → α) (n i : Nat) : gUp f n (i + 1) = if firstB f i = true then gUp f n i ++ [grp f n i] else gUp f n i := by
  unfold gUp
  rw [List.range_succ, List.filter_append, List.map_append]
  by_cases h : firstB f i = true
  · rw [if_pos h, List.filter_cons, if_pos h]; rfl
  · rw [if_neg h, List.filter_cons, if_neg h]; simp
theorem gUp_len {α : Type} [DecidableEq α] (f : Nat → α) (n i : Nat) : (gUp f n i).length ≤ i := by
  unfold gUp
  rw [List.length_map]
  refine Nat.le_trans (List.length_filter_le _ _) ?_
  simp
def sp_l_groups : Sp := spD 1 (fun ds => ∃ L : List Int, ds = [dInts L] ∧ L.length ≤ 1000) fun ds => dGrps (gI (ds.headD .non).ints)
def sp_l_tie : Sp := spD 1 (fun ds => ∃ L : List Int, ds = [dInts L] ∧ L.length ≤ 1000) fun ds => dTie (ds.headD .non).ints.length (gI (ds.headD .non).ints)
/-- a tie's count and groups -/
def Dt.many : Dt → Nat
  | .tup [.int n, _] => n.toNat
  | _ => 0
def Dt.grpN : Dt → List Nat
  | .tup l => l.map fun d => (dInt d).toNat
  | _ => []
def Dt.grps : Dt → List (List Nat)
  | .tup [_, .lst l] => l.map Dt.grpN
  | _ => []
theorem grpN_dGrp (g : List Nat) : (dGrp g).grpN = g := by
  show (g.map fun x => Dt.int (x : Nat)).map (fun d => (dInt d).toNat) = g
  rw [List.map_map]
  exact List.map_id' g
theorem grps_dTie (n : Nat) (gs : List (List Nat)) : (dTie n gs).grps = gs := by
  show (gs.map dGrp).map Dt.grpN = gs
  rw [List.map_map]
  have e : (Dt.grpN ∘ dGrp) = id := funext grpN_dGrp
  rw [e]; exact List.map_id gs
theorem many_dTie (n : Nat) (gs : List (List Nat)) : (dTie n gs).many = n := rfl
def sp_l_is : Sp := spD 2 (fun ds => ∃ (m : Nat) (gs : List (List Nat)) (L : List Int), ds = [dTie m gs, dInts L] ∧ L.length ≤ 1000 ∧ gs.length ≤ 1000 ∧ ∀ g ∈ gs, g.length ≤ 1000) fun ds => match ds with
  | [t, l] => .bl (decide (t.many = l.ints.length ∧ t.grps = gI l.ints))
  | _ => .non
def sp_l_listed : Sp := spD 2 (fun ds => ∃ a b : List Int, ds = [dInts a, dInts b] ∧ a.length ≤ 1000) fun ds => match ds with
  | [a, b] => .bl (decide (a.ints = b.ints))
  | _ => .non
end Nc
namespace Nc
open PySem PySem.Spec PyProof.Rows L2 Evl
section
variable {σ : L2.St} {Hb H : Hp} {F : List Addr} {D : Ends} {tz tu : TS} {t : TT} {te : TE} {K : PySem.W.Frag} {d1 d2 : Dt}
theorem s_unp2 {i j : Nat} (S : Beside Hb F H) (h : EvD te σ Hb (.tup [d1, d2])) (k : ∀ v1 v2 Hb' H', Ex Hb Hb' → Ex H H' → Beside Hb' F H' → Rp Any Hb' v1 d1 → Rp Any Hb' v2 d2 → D.nx ((σ.set i (some v1)).set j (some v2)) H') : tAsg te (gTup K 2 (gCons (gName i) (gCons (gName j) gNil))) D σ H :=
  h F H S _ fun v H1 e1 r => by
    obtain ⟨a, xs, rfl, hx, rs⟩ := r.tupI
    match xs, rs, hx with
    | [_, _], .cons r1 (.cons r2 .nil), hx => exact ⟨a, _, rfl, st_of (less_ex a _ hx), rfl, _, _, rfl, _, _, rfl, rfl, k _ _ (less H1 F) H1 (S.lessEx e1) e1 (S.on e1).sep r1 r2⟩
theorem q_unp2 {i j : Nat} (S : Beside Hb F H) (h : EvD te σ Hb (.tup [d1, d2])) (k : ∀ v1 v2 Hb' H', Ex Hb Hb' → Ex H H' → Beside Hb' F H' → Rp Any Hb' v1 d1 → Rp Any Hb' v2 d2 → tz D ((σ.set i (some v1)).set j (some v2)) H') : tSeq (tAsg te (gTup K 2 (gCons (gName i) (gCons (gName j) gNil)))) tz D σ H := s_unp2 (D := { D with nx := tz D }) S h k
theorem et_yes : EvT tYes σ Hb true := fun H1 _ Q q => q H1 (Ex.refl H1)
theorem q_dropD {d : Dt} (S : Beside Hb F H) (h : EvD te σ Hb d) (k : ∀ H', Ex H H' → Beside Hb F H' → tz D σ H') : tSeq (tDrop te) tz D σ H := h F H S _ fun v H1 e1 _ => k H1 e1 (S.on e1)
end
/-! ### promises of nocross.ties where nothing is refused -/
def okCount (ds : List Dt) : Prop := ∃ n : Nat, ds = [.int n] ∧ 1 ≤ n ∧ n ≤ 60
def sp_check_count : Sp := spD 1 okCount fun _ => .non
def sp_finest : Sp := spD 1 okCount fun ds => dTie (dInt (ds.headD .non)).toNat ((List.range (dInt (ds.headD .non)).toNat).map fun i => [i])
def sp_coarsest : Sp := spD 1 okCount fun ds => dTie (dInt (ds.headD .non)).toNat [List.range (dInt (ds.headD .non)).toNat]
/-- the first group that has p -/
def findG (gs : List (List Nat)) (p : Nat) : List Nat := (gs.find? fun g => decide (p ∈ g)).getD []
def okGroupOf (t p : Dt) : Prop := ∃ (n : Nat) (gs : List (List Nat)) (k : Nat), t = dTie n gs ∧ p = .int k ∧ (∃ g ∈ gs, k ∈ g)
def sp_group_of : Sp := spD 2 (fun ds => ∃ t p, ds = [t, p] ∧ okGroupOf t p) fun ds => match ds with
  | [t, p] => dGrp (findG t.grps (dInt p).toNat)
  | _ => .non
def sp_tied : Sp := spD 3 (fun ds => ∃ t p r, ds = [t, p, r] ∧ okGroupOf t p ∧ okGroupOf t r) fun ds => match ds with
  | [t, p, r] => .bl (decide (findG t.grps (dInt p).toNat = findG t.grps (dInt r).toNat))
  | _ => .non
def okLeaders (n : Nat) (gs : List (List Nat)) : Prop := n ≤ 1000 ∧ ∀ g ∈ gs, g ≠ [] ∧ ∀ p ∈ g, p < n
def sp_leaders : Sp := spD 1 (fun ds => ∃ n gs, ds = [dTie n gs] ∧ okLeaders n gs) fun ds => dNats (leadersM (ds.headD .non).many (ds.headD .non).grps)
end Nc
namespace Nc
open PySem PySem.Spec PyProof.Rows L2 Evl
theorem beside_cut {H : Hp} {p : Addr} {xs : List V} (h : H p = some (.lst xs)) : Beside (less H [p]) [p] H := ⟨less_ex, fun a ha => by
  have : a = p := by simpa using ha
  subst this
  exact ⟨less_none (by simp), xs, h⟩⟩
theorem ex_cut {Hb H : Hp} {p : Addr} (e : Ex Hb H) (h : Hb p = none) : Ex Hb (less H [p]) := fun a o ha => by
  rw [less_some (by simpa using ne_of_none ha h)]
  exact e a o ha
/-! groups: facts for the laws -/
theorem findG_groups {α : Type} [DecidableEq α] {f : Nat → α} {n i : Nat} (h : i < n) : findG (groupsOf f n) i = grp f n i := by
  unfold findG
  cases hf : (groupsOf f n).find? (fun g => decide (i ∈ g)) with
  | none =>
    have := List.find?_eq_none.mp hf (grp f n i) (grp_mem h)
    exact absurd (decide_eq_true (mem_grp.mpr ⟨h, rfl⟩)) this
  | some g =>
    have h1 := List.mem_of_find?_eq_some hf
    have h2 := List.find?_some hf
    exact group_at h1 (of_decide_eq_true h2)
theorem grp_eq_iff {α : Type} [DecidableEq α] {f : Nat → α} {n i j : Nat} (hi : i < n) : grp f n i = grp f n j ↔ f i = f j := by
  constructor
  · intro h
    have : i ∈ grp f n j := by rw [← h]; exact mem_grp.mpr ⟨hi, rfl⟩
    exact (mem_grp.mp this).2
  · exact grp_congr
theorem group_size {α : Type} [DecidableEq α] {f : Nat → α} {n : Nat} {g : List Nat} (h : g ∈ groupsOf f n) : g.length ≤ n := by
  obtain ⟨i, _, _, rfl⟩ := mem_groups.mp h
  exact grp_length
theorem group_ne {α : Type} [DecidableEq α] {f : Nat → α} {n : Nat} {g : List Nat} (h : g ∈ groupsOf f n) : g ≠ [] ∧ ∀ p ∈ g, p < n := by
  obtain ⟨i, h1, _, rfl⟩ := mem_groups.mp h
  refine ⟨fun e => ?_, fun p hp => (mem_grp.mp hp).1⟩
  have : i ∈ grp f n i := mem_grp.mpr ⟨h1, rfl⟩
  rw [e] at this; simp at this
theorem gI_range (n : Nat) : gI (ofN (List.range n)) = (List.range n).map fun i => [i] := by
  rw [gI_ofN, List.length_range]
  have hl : ∀ i, i < n → lb (List.range n) i = i := fun i h => by
    unfold lb
    rw [List.getD_eq_getElem?_getD, List.getElem?_range h]; rfl
  have e : groupsOf (lb (List.range n)) n = groupsOf (fun i : Nat => i) n := groups_congr fun i j hi hj => by rw [hl i hi, hl j hj]
  rw [e]
  unfold groupsOf
  have e2 : (List.range n).filter (firstB fun i : Nat => i) = List.range n := List.filter_eq_self.mpr fun i _ => firstB_iff.mpr fun j hj => Nat.ne_of_lt hj
  rw [e2]
  refine List.map_congr_left fun i hi => ?_
  have hin := List.mem_range.mp hi
  unfold grp
  have hp : ((List.range n).filter fun j => decide (j = i)).Pairwise (· < ·) := List.Pairwise.filter _ List.pairwise_lt_range
  have hm : ∀ x, x ∈ ((List.range n).filter fun j => decide (j = i)) ↔ x = i := fun x => by
    simp only [List.mem_filter, List.mem_range, decide_eq_true_eq]
    constructor
    · exact fun h => h.2
    · rintro rfl; exact ⟨hin, rfl⟩
  generalize ((List.range n).filter fun j => decide (j = i)) = l at hp hm
  match l, hp, hm with
  | [], _, hm => exact absurd ((hm i).mpr rfl) (by simp)
  | [x], _, hm => rw [(hm x).mp (by simp)]
  | x :: y :: r, hp, hm =>
    have h1 := (hm x).mp (by simp)
    have h2 := (hm y).mp (by simp)
    have h3 := (List.pairwise_cons.mp hp).1 y (by simp)
    omega
theorem gI_zeros {n : Nat} (h : 1 ≤ n) : gI (ofN (List.replicate n 0)) = [List.range n] := by
  rw [gI_ofN, List.length_replicate]
  have hl : ∀ i, i < n → lb (List.replicate n 0) i = 0 := fun i h => by
    unfold lb
    rw [List.getD_eq_getElem?_getD, List.getElem?_replicate, if_pos h]; rfl
  have e : groupsOf (lb (List.replicate n 0)) n = groupsOf (fun _ : Nat => (0 : Nat)) n := groups_congr fun i j hi hj => by rw [hl i hi, hl j hj]
  rw [e]
  unfold groupsOf
  have hg : ∀ i, grp (fun _ : Nat => (0 : Nat)) n i = List.range n := fun i => by
    unfold grp
    exact List.filter_eq_self.mpr fun j _ => by simp
  have hf : (List.range n).filter (firstB fun _ : Nat => (0 : Nat)) = [0] := by
    obtain ⟨m, rfl⟩ : ∃ m, n = m + 1 := ⟨n - 1, by omega⟩
    rw [List.range_succ_eq_map, List.filter_cons, if_pos (firstB_iff.mpr fun j hj => absurd hj (Nat.not_lt_zero _))]
    rw [List.filter_eq_nil_iff.mpr]
    intro a ha
    obtain ⟨k, _, rfl⟩ := List.mem_map.mp ha
    intro hc
    exact firstB_iff.mp hc 0 (Nat.succ_pos k) rfl
  rw [hf, List.map_cons, List.map_nil, hg]
end Nc
namespace Nc
open PySem PySem.Spec PyProof.Rows L2 Evl
def topS (i : Nat) : Stmt := PySem.Challenge.pw_nocross_k01_leaders.main.body.getD i (.Pass ⟨0, 0, 0, 0⟩)
abbrev s_is_whole : Stmt := topS 6
theorem sc_is_whole : FnScope ["value"] ["value"] (defScope s_is_whole) := ⟨rfl, rfl, rfl, by decide +kernel, rfl, by decide +kernel, by decide +kernel⟩
abbrev s_check_count : Stmt := topS 7
theorem sc_check_count : FnScope ["many"] ["many"] (defScope s_check_count) := ⟨rfl, rfl, rfl, by decide +kernel, rfl, by decide +kernel, by decide +kernel⟩
abbrev s_finest : Stmt := topS 8
theorem sc_finest : FnScope ["many", "place"] ["many"] (defScope s_finest) := ⟨rfl, rfl, rfl, by decide +kernel, rfl, by decide +kernel, by decide +kernel⟩
abbrev s_coarsest : Stmt := topS 9
theorem sc_coarsest : FnScope ["many"] ["many"] (defScope s_coarsest) := ⟨rfl, rfl, rfl, by decide +kernel, rfl, by decide +kernel, by decide +kernel⟩
abbrev s_group_of : Stmt := topS 10
theorem sc_group_of : FnScope ["tie", "place", "group"] ["tie", "place"] (defScope s_group_of) := ⟨rfl, rfl, rfl, by decide +kernel, rfl, by decide +kernel, by decide +kernel⟩
abbrev s_tied : Stmt := topS 11
theorem sc_tied : FnScope ["tie", "one", "other", "group"] ["tie", "one", "other"] (defScope s_tied) := ⟨rfl, rfl, rfl, by decide +kernel, rfl, by decide +kernel, by decide +kernel⟩
abbrev s_leaders : Stmt := topS 12
theorem sc_leaders : FnScope ["tie", "many", "groups", "firsts", "group", "place"] ["tie"] (defScope s_leaders) := ⟨rfl, rfl, rfl, by decide +kernel, rfl, by decide +kernel, by decide +kernel⟩
abbrev s_l_cell_at : Stmt := topS 14
theorem sc_l_cell_at : FnScope ["_law_script", "_law_k"] ["_law_script", "_law_k"] (defScope s_l_cell_at) := ⟨rfl, rfl, rfl, by decide +kernel, rfl, by decide +kernel, by decide +kernel⟩
abbrev s_l_whole : Stmt := topS 15
theorem sc_l_whole : FnScope ["_law_found"] ["_law_found"] (defScope s_l_whole) := ⟨rfl, rfl, rfl, by decide +kernel, rfl, by decide +kernel, by decide +kernel⟩
abbrev s_l_count : Stmt := topS 16
theorem sc_l_count : FnScope ["_law_cell"] ["_law_cell"] (defScope s_l_count) := ⟨rfl, rfl, rfl, by decide +kernel, rfl, by decide +kernel, by decide +kernel⟩
abbrev s_l_labels : Stmt := topS 17
theorem sc_l_labels : FnScope ["_law_many", "_law_cell", "_law_other", "_law_stack", "_law_labels_here", "_law_place", "_law_mixed", "_law_kept", "_law_label"] ["_law_many", "_law_cell", "_law_other"] (defScope s_l_labels) := ⟨rfl, rfl, rfl, by decide +kernel, rfl, by decide +kernel, by decide +kernel⟩
abbrev s_l_groups : Stmt := topS 18
theorem sc_l_groups : FnScope ["_law_labels_here", "_law_found", "_law_first", "_law_group", "_law_place"] ["_law_labels_here"] (defScope s_l_groups) := ⟨rfl, rfl, rfl, by decide +kernel, rfl, by decide +kernel, by decide +kernel⟩
abbrev s_l_is : Stmt := topS 19
theorem sc_l_is : FnScope ["_law_found", "_law_labels_here", "_law_group", "_law_place"] ["_law_found", "_law_labels_here"] (defScope s_l_is) := ⟨rfl, rfl, rfl, by decide +kernel, rfl, by decide +kernel, by decide +kernel⟩
abbrev s_l_tie : Stmt := topS 20
theorem sc_l_tie : FnScope ["_law_labels_here"] ["_law_labels_here"] (defScope s_l_tie) := ⟨rfl, rfl, rfl, by decide +kernel, rfl, by decide +kernel, by decide +kernel⟩
abbrev s_l_listed : Stmt := topS 21
theorem sc_l_listed : FnScope ["_law_found", "_law_due", "_law_place"] ["_law_found", "_law_due"] (defScope s_l_listed) := ⟨rfl, rfl, rfl, by decide +kernel, rfl, by decide +kernel, by decide +kernel⟩
abbrev s_l_truth : Stmt := topS 22
theorem sc_l_truth : FnScope ["_law_found", "_law_due"] ["_law_found", "_law_due"] (defScope s_l_truth) := ⟨rfl, rfl, rfl, by decide +kernel, rfl, by decide +kernel, by decide +kernel⟩
abbrev s_law : Stmt := topS 23
theorem sc_law : FnScope ["_law_script", "_law_many", "_law_labels_here", "_law_tie_here", "_law_found", "_law_one", "_law_other", "_law_group", "_law_due", "_law_place"] ["_law_script"] (defScope s_law) := ⟨rfl, rfl, rfl, by decide +kernel, rfl, by decide +kernel, by decide +kernel⟩
end Nc
namespace Nc
open PySem PySem.Spec PyProof.Rows L2 Evl
section
variable {P : Program} {w : World} {K : PySem.W.Frag} {mg : Str → Option Value} {base : Heap} {f : Addr} {fd : FuncData}
theorem ok_is_whole (F : Fun K "is_whole" "is_whole" s_is_whole f fd) (B : Blt mg) : FnOk P w K mg base CX0 1 f fd ["value"] sp_is_whole := by
  refine F.ok sc_is_whole (fun vs H Q E h => h.1) (fun cdv A outer s H vs Q E hr h => ?_)
  obtain ⟨len, ds, r, pre, q⟩ := h
  obtain ⟨v, d, rfl, rfl, r1⟩ := args1 len r
  refine ⟨_, (pss_one (ps_ret (pe_and (pe_callB call_isi (by rfl) B.isinstance_ (by decide +kernel) (pa_cons (pv 0) (pa_cons (pe_bltn (v := .ty "int") (by rfl) B.int_ bt_int rfl) pa_nil))) (pe_one (pe_not (pe_callB call_isi (by rfl) B.isinstance_ (by decide +kernel) (pa_cons (pv 0) (pa_cons (pe_bltn (v := .ty "bool") (by rfl) B.bool_ bt_bool rfl) pa_nil)))))))), ?_⟩
  refine s_retN (Beside.refl H) (EvD.nn (ed_and (ed_isi (ed_v rfl r1) (kit_int d)) fun _ => ed_not (ed_isi (ed_v rfl r1) (kit_bool d))) rfl) fun v' H' e rv => q v' H' e ?_
  rw [isI_of] at rv
  exact rv
theorem ok_l_whole (F : Fun K "_law_whole" "_law_whole" s_l_whole f fd) (B : Blt mg) : FnOk P w K mg base CX0 1 f fd ["_law_found"] sp_l_whole := by
  refine F.ok sc_l_whole (fun vs H Q E h => h.1) (fun cdv A outer s H vs Q E hr h => ?_)
  obtain ⟨len, ds, r, pre, q⟩ := h
  obtain ⟨v, d, rfl, rfl, r1⟩ := args1 len r
  refine ⟨_, (pss_one (ps_ret (pe_and (pe_callB call_isi (by rfl) B.isinstance_ (by decide +kernel) (pa_cons (pv 0) (pa_cons (pe_bltn (v := .ty "int") (by rfl) B.int_ bt_int rfl) pa_nil))) (pe_one (pe_not (pe_callB call_isi (by rfl) B.isinstance_ (by decide +kernel) (pa_cons (pv 0) (pa_cons (pe_bltn (v := .ty "bool") (by rfl) B.bool_ bt_bool rfl) pa_nil)))))))), ?_⟩
  refine s_retN (Beside.refl H) (EvD.nn (ed_and (ed_isi (ed_v rfl r1) (kit_int d)) fun _ => ed_not (ed_isi (ed_v rfl r1) (kit_bool d))) rfl) fun v' H' e rv => q v' H' e ?_
  rw [isI_of] at rv
  exact rv
theorem ok_l_cell_at (F : Fun K "_law_cell_at" "_law_cell_at" s_l_cell_at f fd) (B : Blt mg) : FnOk P w K mg base CX0 1 f fd ["_law_script", "_law_k"] (sp_l_cell_at K) := by
  refine F.ok sc_l_cell_at (fun vs H Q E h => by obtain ⟨a, ns, k, rfl, _⟩ := h; rfl) (fun cdv A outer s H vs Q E hr h => ?_)
  obtain ⟨a, ns, k, rfl, hs, q⟩ := h
  refine ⟨_, (pss_cons (ps_if (pt_cmpR op_ltI (pv 1) (pe_callB call_len_seq (by rfl) B.len_ (by decide +kernel) (pa_cons (pv 0) pa_nil)) (by first | exact nomark _ | rfl))
        (pss_one (ps_ret (pe_ix ix_list (pv 0) (pv 1) (fun _ _ => rfl))))
        pss_nil)
      (pss_one (ps_ret pe_int))), ?_⟩
  have hl : Ev (tCB (rLenS K) (tCons (tVar 0) tNil)) (start ["_law_script", "_law_k"] [.ref a, .int (k : Int)]) H (.int ((ns.map V.int).length : Int)) := ev_len (ev_var rfl) hs
  refine q_ifN (Beside.refl H) (et_d (ed_IB (ed_vi rfl) (edI hl))) (fun hb H1 e1 S1 => ?_) fun hb H1 e1 S1 => ?_
  · have hk : k < ns.length := by
      have := of_decide_eq_true hb
      rw [List.length_map] at this
      omega
    refine s_retD S1 (edI (ev_op (z := .int (ns.getD k 0)) (ev_var rfl) (ev_var rfl) (rv_ixL hs (atI_nat (j := k) ?_)))) fun v H2 e2 r => ?_
    · rw [List.getElem?_map, List.getElem?_eq_getElem hk, List.getD_eq_getElem?_getD, List.getElem?_eq_getElem hk]; rfl
    · rw [r.intI]; exact q H2 (e1.trans e2)
  · have hk : ns.length ≤ k := by
      have := of_decide_eq_false hb
      rw [List.length_map] at this
      omega
    refine s_retD S1 ed_int fun v H2 e2 r => ?_
    rw [r.intI]
    have := q H2 (e1.trans e2)
    rw [List.getD_eq_getElem?_getD, List.getElem?_eq_none hk] at this
    exact this
theorem ok_l_count (F : Fun K "_law_count" "_law_count" s_l_count f fd) (B : Blt mg) : FnOk P w K mg base CX0 1 f fd ["_law_cell"] sp_l_count := by
  refine F.ok sc_l_count (fun vs H Q E h => h.1) (fun cdv A outer s H vs Q E hr h => ?_)
  obtain ⟨len, ds, r, ⟨c, hc⟩, q⟩ := h
  obtain ⟨v, d, rfl, rfl, r1⟩ := args1 len r
  obtain rfl : d = .int c := by simpa using hc
  obtain rfl := r1.intI
  refine ⟨_, (pss_cons (ps_if (pt_cmpR op_eq (pe_op op_modI (pv 0) pe_int) pe_int (by first | exact nomark _ | rfl))
        (pss_one (ps_ret (pe_op op_addI pe_int (pe_op op_modI (pe_op op_divI (pv 0) pe_int) pe_int))))
        pss_nil)
      (pss_one (ps_ret (pe_op op_addI pe_int (pe_op op_modI (pe_op op_divI (pv 0) pe_int) pe_int))))), ?_⟩
  refine q_ifN (Beside.refl H) (et_d (ed_eqI (ed_CI (ed_vi rfl) ed_int (by decide)) ed_int)) (fun hb H1 e1 S1 => ?_) fun hb H1 e1 S1 => ?_
  · have hk := of_decide_eq_true hb
    refine s_retN S1 (EvD.nn (ed_II ed_int (ed_CI (ed_CI (ed_vi rfl) ed_int ⟨by decide, by decide⟩) ed_int (by decide))) rfl) fun v H2 e2 r => q v H2 (e1.trans e2) ?_
    have e3 : (1 : Int) + c / 3 % 60 = ((countOf c : Nat) : Int) := by
      unfold countOf; rw [if_pos hk]; omega
    rw [e3] at r
    exact r.wk fun a n => fresh_back e1 n
  · have hk := of_decide_eq_false hb
    refine s_retN S1 (EvD.nn (ed_II ed_int (ed_CI (ed_CI (ed_vi rfl) ed_int ⟨by decide, by decide⟩) ed_int (by decide))) rfl) fun v H2 e2 r => q v H2 (e1.trans e2) ?_
    have e3 : (1 : Int) + c / 3 % 9 = ((countOf c : Nat) : Int) := by
      unfold countOf; rw [if_neg hk]; omega
    rw [e3] at r
    exact r.wk fun a n => fresh_back e1 n
theorem ok_l_truth (F : Fun K "_law_truth" "_law_truth" s_l_truth f fd) (B : Blt mg) : FnOk P w K mg base CX0 1 f fd ["_law_found", "_law_due"] sp_l_truth := by
  refine F.ok sc_l_truth (fun vs H Q E h => h.1) (fun cdv A outer s H vs Q E hr h => ?_)
  obtain ⟨len, ds, r, ⟨a, b, hc⟩, q⟩ := h
  obtain ⟨v, d, v2, d2, rfl, rfl, r1, r2⟩ := args2 len r
  obtain ⟨rfl, rfl⟩ : d = .bl a ∧ d2 = .bl b := by simpa using hc
  obtain rfl := r1.blI
  obtain rfl := r2.blI
  refine ⟨_, (pss_one (ps_ret (pe_and (pe_callB call_isi (by rfl) B.isinstance_ (by decide +kernel) (pa_cons (pv 0) (pa_cons (pe_bltn (v := .ty "bool") (by rfl) B.bool_ bt_bool rfl) pa_nil))) (pe_one (pe_cmpR op_eq (pv 0) (pv 1) (by first | exact nomark _ | rfl)))))), ?_⟩
  refine s_retN (Beside.refl H) (EvD.nn (ed_and (a := true) (ed_isi (ed_vb (n := a) rfl) (kit_bool _)) fun _ => ed_eqB (ed_vb rfl) (ed_vb rfl)) rfl) fun v H2 e2 r => q v H2 e2 ?_
  rw [Bool.true_and] at r
  exact r
end
end Nc

namespace Nc
open PySem PySem.Spec PyProof.Rows L2 Evl
section
variable {P : Program} {w : World} {K : PySem.W.Frag} {mg : Str → Option Value} {base : Heap} {f : Addr} {fd : FuncData}
theorem nats_ints (L : List Nat) : (L.map fun x => Dt.int (x : Nat)) = (L.map fun x => ((x : Nat) : Int)).map Dt.int := by rw [List.map_map]; rfl
theorem natV_ints (L : List Nat) : (L.map fun x => V.int (x : Nat)) = (L.map fun x => ((x : Nat) : Int)).map V.int := by rw [List.map_map]; rfl
theorem ok_l_labels (F : Fun K "_law_labels" "_law_labels" s_l_labels f fd) (B : Blt mg) : FnOk P w K mg base CX0 1 f fd ["_law_many", "_law_cell", "_law_other"] sp_l_labels := by
  refine F.ok sc_l_labels (fun vs H Q E h => h.1) (fun cdv A outer s H vs Q E hr h => ?_)
  obtain ⟨len, ds, r, ⟨n, c, o, hds, hn1, hn60⟩, q⟩ := h
  obtain ⟨v, d, v2, d2, v3, d3, rfl, rfl, r1, r2, r3⟩ := args3 len r
  obtain ⟨rfl, rfl, rfl⟩ : d = .int n ∧ d2 = .int c ∧ d3 = .int o := by simpa using hds
  obtain rfl := r1.intI
  obtain rfl := r2.intI
  obtain rfl := r3.intI
  refine ⟨_, (pss_cons (ps_set (i := 3) sc_l_labels.nd rfl (.inl rfl) (pe_lst pa_nil))
      (pss_cons (ps_set (i := 4) sc_l_labels.nd rfl (.inl rfl) (pe_lst pa_nil))
      (pss_cons (ps_for PassesOwn.never rfl (pi_range1 (by rfl) B.range_ (pa_cons (pv 0) pa_nil)) (pg_name (i := 5) sc_l_labels.nd rfl (.inl rfl))
        (pss_cons (ps_set (i := 6) sc_l_labels.nd rfl (.inl rfl) (pe_op op_modI (pe_op op_addI (pe_op op_addI (pv 1) (pe_op op_mulI pe_int (pv 5))) (pe_op op_mulI (pe_op op_mulI (pv 2) (pv 5)) (pv 5))) pe_int))
      (pss_cons (ps_set (i := 6) sc_l_labels.nd rfl (.inl rfl) (pe_op op_divI (pe_op op_modI (pe_op op_mulI (pe_op op_modI (pe_op op_mulI (pv 6) (pv 6)) pe_int) pe_int) pe_int) pe_int))
      (pss_cons (ps_set (i := 7) sc_l_labels.nd rfl (.inl rfl) (pe_op op_subI (pe_callB call_len_seq (by rfl) B.len_ (by decide +kernel) (pa_cons (pv 3) pa_nil)) (pe_op op_modI (pe_op op_divI (pv 6) pe_int) (pe_op op_addI (pe_callB call_len_seq (by rfl) B.len_ (by decide +kernel) (pa_cons (pv 3) pa_nil)) pe_int))))
      (pss_cons (ps_if (pt_cmpR op_gtI (pe_op op_modI (pe_op op_divI (pv 6) pe_int) pe_int) pe_int (by first | exact nomark _ | rfl))
        (pss_one (ps_set (i := 7) sc_l_labels.nd rfl (.inl rfl) (pe_callB call_len_seq (by rfl) B.len_ (by decide +kernel) (pa_cons (pv 3) pa_nil))))
        pss_nil)
      (pss_cons (ps_set (i := 8) sc_l_labels.nd rfl (.inl rfl) (pv 5))
      (pss_cons (ps_if (PW.pt (pw_and (pt_cmpR op_gtI (pv 7) pe_int (by first | exact nomark _ | rfl)) (pw_and1 (pt_cmpR op_geI (pe_op op_modI (pv 6) pe_int) (pe_ix ix_list (pe_lst (pa_cons pe_int (pa_cons pe_int (pa_cons pe_int (pa_cons pe_int pa_nil))))) (pe_op op_modI (pv 2) pe_int) (fun _ _ => rfl)) (by first | exact nomark _ | rfl)))))
        (pss_cons (ps_set (i := 8) sc_l_labels.nd rfl (.inl rfl) (pe_ix ix_list (pv 3) (pe_op op_subI (pv 7) pe_int) (fun _ _ => rfl)))
      (pss_one (ps_set (i := 3) sc_l_labels.nd rfl (.inl rfl) (pe_slice sl_list (pv 3) po_none (po_some (pv 7))))))
        (pss_one (ps_set (i := 3) sc_l_labels.nd rfl (.inl rfl) (pe_op op_cat (pv 3) (pe_lst (pa_cons (pv 5) pa_nil))))))
      (pss_one (ps_expr (pe_bm PySem.F.plainAttrs_list PySem.F.slot_list_append PySem.F.type_list_append mt_append (pv 4) (pa_cons (pv 8) pa_nil)))))))))))
      (pss_one (ps_ret (pv 4)))))), ?_⟩
  refine q_set (Beside.refl H) (EvF.dd (ef_lst ea_nil' (by simp))) fun vs Hb1 H1 eb1 e1 S1 rs => ?_
  refine q_setF S1 (ef_lst ea_nil' (by simp)) fun p xs Hb2 H2 hp eb2 e2 S2 hx rx => ?_
  have hx0 : xs = [] := by cases rx; rfl
  subst hx0
  refine q_forR S2 (ea_cons' (ed_vi rfl) ea_nil') (by omega) (fun i σ' H' => ∃ (sa : V) (L S : List Nat) (Hb : Hp) (y5 y6 y7 y8 : Option V), σ' = [some (.int n), some (.int c), some (.int o), some sa, some (.ref p), y5, y6, y7, y8] ∧ L.length = i ∧ Lead L ∧ Open L S ∧ Ex H Hb ∧ Beside Hb [p] H' ∧ H' p = some (.lst (L.map fun x => V.int (x : Nat))) ∧ Rp Any Hb sa (dNats S)) (fun H3 e3 => ?_) (fun i σ' H' hi hP => ?_) (fun σ' H' hP => ?_)
  · exact ⟨vs, [], [], Hb2, none, none, none, none, rfl, rfl, lead_nil, open_nil, eb1.trans eb2, S2.on e3, e3 _ _ hx, rs.mono eb2⟩
  · obtain ⟨sa, L, S, Hb, y5, y6, y7, y8, rfl, hL, hLd, hO, eb, SS, hpl, rsa⟩ := hP
    have hSl : S.length ≤ i := by
      have h1 : S.length ≤ L.length := by
        exact inc_le hO.inc hO.lt
      omega
    have hlen : (S.map fun x => Dt.int (x : Nat)).length = S.length := by rw [List.length_map]
    -- mixed
    refine q_setI SS (ed_CI (ed_II (ed_II (ed_vi rfl) (ed_CI ed_int (ed_vi rfl) (.inl ⟨by decide, by decide⟩))) (ed_CI (ed_CI (ed_vi rfl) (ed_vi rfl) (.inr ⟨by omega, by omega⟩)) (ed_vi rfl) (.inr ⟨by omega, by omega⟩))) ed_int (by decide)) fun H3 e3 S3 => ?_
    generalize hm1 : (c + 7919 * (i : Int) + o * (i : Int) * (i : Int)) % 2147483647 = m1
    have hm1a : 0 ≤ m1 ∧ m1 < 2147483647 := by omega
    refine q_setI S3 (ed_CI (ed_CI (ed_CI (ed_CI (ed_CI (ed_vi rfl) (ed_vi rfl) (.inl ⟨by omega, by omega⟩)) ed_int (by decide)) ed_int (.inr ⟨by decide, by decide⟩)) ed_int (by decide)) ed_int ⟨by decide, by decide⟩) fun H4 e4 S4 => ?_
    generalize hm2 : m1 * m1 % 2147483629 * 48271 % 2147483647 / 7 = m2
    have hm2a : 0 ≤ m2 := by omega
    -- kept
    refine q_setI S4 (ed_II (ed_lenL (ed_v rfl rsa)) (ed_CI (ed_CI (ed_vi rfl) ed_int ⟨by decide, by decide⟩) (ed_II (ed_lenL (ed_v rfl rsa)) ed_int) (by omega))) fun H5 e5 S5 => ?_
    rw [hlen]
    generalize hk1 : (S.length : Int) - m2 / 16 % ((S.length : Int) + 1) = k1
    have hk1a : 0 ≤ k1 ∧ k1 ≤ S.length := by
      have h1 := Int.emod_nonneg (m2 / 16) (show ((S.length : Int) + 1) ≠ 0 by omega)
      have h2 := Int.emod_lt_of_pos (m2 / 16) (show 0 < ((S.length : Int) + 1) by omega)
      omega
    refine q_ifSetI (m := k1) S5 (et_d (ed_IB (ed_CI (ed_CI (ed_vi rfl) ed_int ⟨by decide, by decide⟩) ed_int (by decide)) ed_int)) (fun _ => ed_lenL (ed_v rfl rsa)) (fun _ => rfl) fun H6 e6 S6 => ?_
    rw [hlen]
    generalize hk2 : (if decide (0 < m2 / 1024 % 3) = true then (S.length : Int) else k1) = k2
    have hk2a : 0 ≤ k2 ∧ k2 ≤ S.length := by
      rw [← hk2]; split <;> omega
    obtain ⟨k, rfl⟩ : ∃ k : Nat, k2 = (k : Int) := ⟨k2.toNat, by omega⟩
    -- label
    refine q_setI S6 (ed_vi rfl) fun H7 e7 S7 => ?_
    have e37 : Ex H' H7 := ((e3.trans e4).trans (e5.trans e6)).trans e7
    have hp7 := e37 _ _ hpl
    obtain ⟨z, hz⟩ : ∃ z : Int, atI ([.int 1, .int 5, .int 9, .int 15] : List Dt) (o % 4) = some (.int z) := by
      have h1 : o % 4 = 0 ∨ o % 4 = 1 ∨ o % 4 = 2 ∨ o % 4 = 3 := by omega
      rcases h1 with h | h | h | h <;> rw [h] <;> exact ⟨_, rfl⟩
    refine q_ifD S7 (et_and (et_d (ed_IB (ed_vi rfl) ed_int)) fun _ => et_d (ed_IB (ed_CI (ed_vi rfl) ed_int (by decide)) (ed_ixL (EvF.dd (ef_lst (ea_cons' ed_int (ea_cons' ed_int (ea_cons' ed_int (ea_cons' ed_int ea_nil')))) (by simp))) (ed_CI (ed_vi rfl) ed_int (by decide)) hz))) (fun hb H8 e8 S8 => ?_) fun hb H8 e8 S8 => ?_
    · have hk0 : 0 < k := by
        have := of_decide_eq_true (Bool.and_eq_true_iff.mp hb).1
        omega
      have hget : atI (S.map fun x => Dt.int (x : Nat)) ((k : Int) - 1) = some (.int (S.getD (k - 1) 0 : Nat)) := by
        rw [show (k : Int) - 1 = ((k - 1 : Nat) : Int) by omega]
        refine atI_nat ?_
        rw [List.getElem?_map, List.getD_eq_getElem?_getD, List.getElem?_eq_getElem (show k - 1 < S.length by omega)]; rfl
      refine q_setI S8 (ed_ixL (ed_v rfl rsa) (ed_II (ed_vi rfl) ed_int) hget) fun H9 e9 S9 => ?_
      refine EvF.dd (ef_slL (ed_v rfl rsa) eo_nil (eo_d (ed_vi rfl))) _ _ S9 _ fun v9 H10 e10 r10 => ?_
      have S10 := (S9.on e10).sep
      refine s_appD S10 (by simp) ((e8.trans (e9.trans e10)) _ _ hp7) rfl (ed_vi rfl) (by rw [List.length_map]; omega) fun v11 Hb11 H11 eb11 S11 _ hp11 r11 => ?_
      refine ⟨v9, L ++ [S.getD (k - 1) 0], S.take k, Hb11, _, _, _, _, rfl, by simp [hL], lead_step hLd hO (.inl ?_), open_old hk0 (by omega) hO, (eb.trans (S9.lessEx e10)).trans eb11, S11, ?_, ?_⟩
      · rw [List.getD_eq_getElem?_getD, List.getElem?_eq_getElem (show k - 1 < S.length by omega)]; exact List.getElem_mem _
      · rw [hp11, r11.intI, List.map_append]; rfl
      · have r12 := r10.mono eb11
        rw [cutD_to, ← List.map_take] at r12
        exact r12
    · refine EvF.dd (ef_cat (ed_v rfl rsa) (EvF.dd (ef_lst (ea_cons' (ed_vi rfl) ea_nil') (by simp))) (by simp; omega)) _ _ S8 _ fun v9 H10 e10 r10 => ?_
      have S10 := (S8.on e10).sep
      refine s_appD S10 (by simp) ((e8.trans e10) _ _ hp7) rfl (ed_vi rfl) (by rw [List.length_map]; omega) fun v11 Hb11 H11 eb11 S11 _ hp11 r11 => ?_
      refine ⟨v9, L ++ [L.length], S ++ [L.length], Hb11, _, _, _, _, rfl, by simp [hL], lead_step hLd hO (.inr rfl), open_new hO, (eb.trans (S8.lessEx e10)).trans eb11, S11, ?_, ?_⟩
      · rw [hp11, r11.intI, List.map_append, hL]; rfl
      · have r12 := r10.mono eb11
        rw [hL]
        have e0 : (S.map fun x => Dt.int (x : Nat)) ++ [Dt.int (i : Nat)] = (S ++ [i]).map fun x => Dt.int (x : Nat) := by rw [List.map_append]; rfl
        rw [e0] at r12
        exact r12
  · obtain ⟨sa, L, S, Hb, y5, y6, y7, y8, rfl, hL, hLd, hO, eb, SS, hpl, rsa⟩ := hP
    refine ⟨.ref p, rfl, q (dNats L) (.ref p) H' ⟨L, hL, hLd, rfl⟩ (eb.trans SS.ex) (.lst (fresh_back e1 hp) hpl ?_)⟩
    rw [nats_ints, natV_ints]
    exact RpL.ints _
end
end Nc

namespace Nc
open PySem PySem.Spec PyProof.Rows L2 Evl
section
variable {P : Program} {w : World} {K : PySem.W.Frag} {mg : Str → Option Value} {base : Heap} {f : Addr} {fd : FuncData}
theorem ok_l_groups (F : Fun K "_law_groups" "_law_groups" s_l_groups f fd) (B : Blt mg) : FnOk P w K mg base CX0 1 f fd ["_law_labels_here"] sp_l_groups := by
  refine F.ok sc_l_groups (fun vs H Q E h => h.1) (fun cdv A outer s H vs Q E hr h => ?_)
  obtain ⟨len, ds, r, ⟨L, hds, hL⟩, q⟩ := h
  obtain ⟨v, d, rfl, rfl, r1⟩ := args1 len r
  obtain rfl : d = dInts L := by simpa using hds
  have q' : ∀ (v : V) (H' : Hp), Ex H H' → Rp (Fresh H) H' v (dGrps (gI L)) → Q v H' := fun v H' e r => q v H' e (by
    show Rp (Fresh H) H' v (dGrps (gI (dInts L).ints))
    rw [ints_dInts]; exact r)
  have hlen : (L.map Dt.int).length = L.length := by rw [List.length_map]
  refine ⟨_, (pss_cons (ps_set (i := 1) sc_l_groups.nd rfl (.inl rfl) (pe_lst pa_nil))
      (pss_cons (ps_for PassesOwn.never rfl (pi_range1 (by rfl) B.range_ (pa_cons (pe_callB call_len_seq (by rfl) B.len_ (by decide +kernel) (pa_cons (pv 0) pa_nil)) pa_nil)) (pg_name (i := 2) sc_l_groups.nd rfl (.inr rfl))
        (pss_one (ps_if (pt_cmpR op_notIn_seq (pe_ix ix_list (pv 0) (pv 2) (fun _ _ => rfl)) (pe_slice sl_list (pv 0) po_none (po_some (pv 2))) (by first | exact nomark _ | rfl))
        (pss_cons (ps_setLc (i := 3) (own := [("_law_place", 4)]) (g := (gName 4)) (tt := (tTest (tOp rEq (tOp (rIxL K) (tVar 0) (tVar 4)) (tOp (rIxL K) (tVar 0) (tVar 2))))) (te := (tVar 4)) rfl sc_l_groups.nd rfl rfl (sw_true rfl rfl rfl (by decide +kernel)) (pi_range1 (by rfl) B.range_ (pa_cons (pe_callB call_len_seq (by rfl) B.len_ (by decide +kernel) (pa_cons (pv 0) pa_nil)) pa_nil)) (blkOk_by (N := ["_law_labels_here", "_law_found", "_law_first", "_law_group", "_law_place"]) (sc := defScope s_l_groups) (by decide +kernel)) (fun _ _ _ _ _ => (pg_name (i := 4) sc_l_groups.nd rfl (.inl rfl))) (fun _ _ _ _ _ => (pts_one (pt_cmpR op_eq (pe_ix ix_list (pv 0) (pv 4) (fun _ _ => rfl)) (pe_ix ix_list (pv 0) (pv 2) (fun _ _ => rfl)) (by first | exact nomark _ | rfl)))) (fun _ _ _ _ _ => (pv 4)))
      (pss_one (ps_expr (pe_bm PySem.F.plainAttrs_list PySem.F.slot_list_append PySem.F.type_list_append mt_append (pv 1) (pa_cons (pe_callTy call_tuple_of (by rfl) B.tuple_ (by decide +kernel) (pa_cons (pv 3) pa_nil)) pa_nil)))))
        pss_nil)))
      (pss_one (ps_ret (pv 1))))), ?_⟩
  refine q_setF (Beside.refl H) (ef_lst ea_nil' (by simp)) fun p xs Hb1 H1 hp eb1 e1 S1 hx rx => ?_
  have hx0 : xs = [] := by cases rx; rfl
  subst hx0
  have r2 := r1.mono eb1
  refine q_forR (n := L.length) S1 (by have := ea_cons' (ed_lenL (K := K) (ed_v (σ := [some v, some (.ref p), none, none, none]) (i := 0) rfl r2)) ea_nil'; rw [hlen] at this; exact this) (by omega)
    (fun i σ' H' => ∃ (xs : List V) (Hb : Hp) (y2 y3 y4 : Option V), σ' = [some v, some (.ref p), y2, y3, y4] ∧ Ex Hb1 Hb ∧ Beside Hb [p] H' ∧ H' p = some (.lst xs) ∧ RpL Any Hb xs ((gUp (li L) L.length i).map dGrp)) (fun H3 e3 => ?_) (fun i σ' H' hi hP => ?_) (fun σ' H' hP => ?_)
  · exact ⟨[], Hb1, none, none, none, rfl, Ex.refl _, S1.on e3, e3 _ _ hx, .nil⟩
  · obtain ⟨xs, Hb, y2, y3, y4, rfl, eb, SS, hpl, rx⟩ := hP
    have r3 := r2.mono eb
    refine s_ifN SS (et_d (ed_niL (ns := L.take i) (ed_ixL (ed_v rfl r3) (ed_vi rfl) (atI_li hi)) ((EvF.dd (ef_slL (ed_v rfl r3) eo_nil (eo_d (ed_vi rfl)))).as ?_))) (fun hb H4 e4 S4 => ?_) fun hb H4 e4 S4 => ?_
    · rw [cutD_to]; unfold dInts; rw [List.map_take]
    · have hf : firstB (li L) i = true := by rw [firstB_li (by omega)]; exact hb
      refine q_set S4 (EvF.dd (ef_lcR1 (n := L.length) (fun j => decide (li L j = li L i)) (fun j => .int (j : Int)) (by have := ea_cons' (ed_lenL (K := K) (ed_v (σ := [some v, some (.ref p), some (.int (i : Int)), y3, y4]) (i := 0) rfl r3)) ea_nil'; rw [hlen] at this; exact this) (by omega) (fun x => rfl)
        (fun j H5 e5 hj => et_d (ed_eqI (ed_ixL (ed_v rfl (r3.mono e5)) (ed_vi rfl) (atI_li hj)) (ed_ixL (ed_v rfl (r3.mono e5)) (ed_vi rfl) (atI_li hi)))) (fun j H5 e5 hj _ => ed_vi rfl))) fun v5 Hb5 H5 eb5 e5 S5 r5 => ?_
      refine s_appD S5 (by simp) ((e4.trans e5) _ _ hpl) rfl (ed_tuple (ed_v rfl r5)) (by rw [rx.length, List.length_map]; have := gUp_len (li L) L.length i; omega) fun v6 Hb6 H6 eb6 S6 _ hp6 r6 => ?_
      refine ⟨xs ++ [v6], Hb6, _, _, _, rfl, (eb.trans eb5).trans eb6, S6, hp6, ?_⟩
      rw [gUp_next, if_pos hf, List.map_append]
      exact (rx.mono (eb5.trans eb6)).append (.one r6)
    · have hf : ¬ firstB (li L) i = true := by rw [firstB_li (by omega)]; rw [hb]; exact Bool.false_ne_true
      refine ⟨xs, Hb, _, _, _, rfl, eb, S4, e4 _ _ hpl, ?_⟩
      rw [gUp_next, if_neg hf]
      exact rx
  · obtain ⟨xs, Hb, y2, y3, y4, rfl, eb, SS, hpl, rx⟩ := hP
    exact ⟨.ref p, rfl, q' (.ref p) H' ((eb1.trans eb).trans SS.ex) (.lst hp hpl ((rx.mono SS.ex).flat (flats_grps _)))⟩
theorem ok_l_tie (F : Fun K "_law_tie" "_law_tie" s_l_tie f fd) (B : Blt mg) (C_l_groups : Callee P w K mg base CX0 1 "_law_groups" ["_law_labels_here"] sp_l_groups) : FnOk P w K mg base CX0 2 f fd ["_law_labels_here"] sp_l_tie := by
  refine F.ok sc_l_tie (fun vs H Q E h => h.1) (fun cdv A outer s H vs Q E hr h => ?_)
  obtain ⟨len, ds, r, ⟨L, hds, hL⟩, q⟩ := h
  obtain ⟨v, d, rfl, rfl, r1⟩ := args1 len r
  obtain rfl : d = dInts L := by simpa using hds
  refine ⟨_, (pss_one (ps_ret (pe_tup (pa_cons (pe_callB call_len_seq (by rfl) B.len_ (by decide +kernel) (pa_cons (pv 0) pa_nil)) (pa_cons (pe_fn C_l_groups (hr.mono (by decide)) (by rfl) pass0 (pa_cons (pv 0) pa_nil)) pa_nil))))), ?_⟩
  refine s_retN (Beside.refl H) (en_tup (en_cons (EvD.nn (ed_lenL (ed_v rfl r1)) rfl) (en_cons (en_call (ea_cons' (ed_v rfl r1) ea_nil') ⟨L, rfl, hL⟩ rfl) en_nil)) (by simp)) fun v2 H2 e2 r2 => q v2 H2 e2 ?_
  show Rp (Fresh H) H2 v2 (dTie (dInts L).ints.length (gI (dInts L).ints))
  have e3 : Dt.tup [Dt.int ((L.map Dt.int).length : Int), dGrps (gI (dInts L).ints)] = dTie (dInts L).ints.length (gI (dInts L).ints) := by
    rw [ints_dInts, List.length_map]; rfl
  rw [← e3]
  exact r2
theorem ok_l_is (F : Fun K "_law_is" "_law_is" s_l_is f fd) (B : Blt mg) (C_l_groups : Callee P w K mg base CX0 1 "_law_groups" ["_law_labels_here"] sp_l_groups) (C_l_whole : Callee P w K mg base CX0 1 "_law_whole" ["_law_found"] sp_l_whole) : FnOk P w K mg base CX0 2 f fd ["_law_found", "_law_labels_here"] sp_l_is := by
  refine F.ok sc_l_is (fun vs H Q E h => h.1) (fun cdv A outer s H vs Q E hr h => ?_)
  obtain ⟨len, ds, r, ⟨m, gs, L, hds, hL, hgs, hg⟩, q⟩ := h
  obtain ⟨v, d, v2, d2, rfl, rfl, r1, r2⟩ := args2 len r
  obtain ⟨rfl, rfl⟩ : d = dTie m gs ∧ d2 = dInts L := by simpa using hds
  have q' : ∀ (v : V) (H' : Hp), Ex H H' → Rp (Fresh H) H' v (.bl (decide (m = L.length ∧ gs = gI L))) → Q v H' := fun v H' e r => q v H' e (by
    show Rp (Fresh H) H' v (.bl (decide ((dTie m gs).many = (dInts L).ints.length ∧ (dTie m gs).grps = gI (dInts L).ints)))
    rw [ints_dInts, many_dTie, grps_dTie]; exact r)
  have h0 : atI ([.int m, dGrps gs] : List Dt) 0 = some (.int (m : Int)) := rfl
  have h1 : atI ([.int m, dGrps gs] : List Dt) 1 = some (dGrps gs) := rfl
  refine ⟨_, (pss_cons (ps_if (PW.pt (pw_or (pt_not (pt_val (pe_callB call_isi (by rfl) B.isinstance_ (by decide +kernel) (pa_cons (pv 0) (pa_cons (pe_bltn (v := .ty "tuple") (by rfl) B.tuple_ bt_tuple rfl) pa_nil))))) (pw_or (pt_cmpR op_ne (pe_callB call_len_seq (by rfl) B.len_ (by decide +kernel) (pa_cons (pv 0) pa_nil)) pe_int (by first | exact nomark _ | rfl)) (pw_or (pt_not (pt_val (pe_fn C_l_whole (hr.mono (by decide)) (by rfl) pass0 (pa_cons (pe_ix ix_tup (pv 0) pe_int (fun _ _ => rfl)) pa_nil)))) (pw_or1 (pt_not (pt_val (pe_callB call_isi (by rfl) B.isinstance_ (by decide +kernel) (pa_cons (pe_ix ix_tup (pv 0) pe_int (fun _ _ => rfl)) (pa_cons (pe_bltn (v := .ty "list") (by rfl) B.list_ bt_list rfl) pa_nil))))))))))
        (pss_one (ps_ret pe_bl))
        pss_nil)
      (pss_cons (ps_for PassesOwn.never rfl (pi_list (pe_ix ix_tup (pv 0) pe_int (fun _ _ => rfl))) (pg_name (i := 2) sc_l_is.nd rfl (.inl rfl))
        (pss_one (ps_if (PW.pt (pw_or (pt_not (pt_val (pe_callB call_isi (by rfl) B.isinstance_ (by decide +kernel) (pa_cons (pv 2) (pa_cons (pe_bltn (v := .ty "tuple") (by rfl) B.tuple_ bt_tuple rfl) pa_nil))))) (pw_or1 (pt_cmpR (op_neD hr.units) (pe_lc (own := [("_law_place", 3)]) (g := (gName 3)) (tt := (tNot (tB (tCall sp_l_whole [] E0 (tCons (tVar 3) tNil))))) (te := (tVar 3)) rfl sc_l_is.nd (pi_tup (pv 2)) (blkOk_by (N := ["_law_found", "_law_labels_here", "_law_group", "_law_place"]) (sc := defScope s_l_is) (by decide +kernel)) (fun _ _ _ _ _ => (pg_name (i := 3) sc_l_is.nd rfl (.inl rfl))) (fun _ _ _ _ _ => (pts_one (pt_not (pt_val (pe_fn C_l_whole (hr.mono (by decide)) (by rfl) pass0 (pa_cons (pv 3) pa_nil)))))) (fun _ _ _ _ _ => (pv 3))) (pe_lst pa_nil) (by first | exact nomark _ | rfl)))))
        (pss_one (ps_ret pe_bl))
        pss_nil)))
      (pss_one (ps_ret (pe_and (pe_cmpR op_eq (pe_ix ix_tup (pv 0) pe_int (fun _ _ => rfl)) (pe_callB call_len_seq (by rfl) B.len_ (by decide +kernel) (pa_cons (pv 1) pa_nil)) (by first | exact nomark _ | rfl)) (pe_one (pe_cmpR (op_eqD hr.units) (pe_ix ix_tup (pv 0) pe_int (fun _ _ => rfl)) (pe_fn C_l_groups (hr.mono (by decide)) (by rfl) pass0 (pa_cons (pv 1) pa_nil)) (by first | exact nomark _ | rfl)))))))), ?_⟩
  refine q_ifN (Beside.refl H) (et_or (a := false) (et_not (a := true) (et_dB (ed_isi (ed_v rfl r1) (kit_tuple _)))) fun _ => et_or (a := false) (et_is (et_d (ed_neI (ed_lenT (ed_v rfl r1)) ed_int)) rfl) fun _ => et_or (a := false) (et_not (a := true) (et_dB (ed_call (ea_cons' (ed_ixT (ed_v rfl r1) ed_int h0) ea_nil') trivial rfl))) fun _ => et_not (a := true) (et_dB (ed_isi (ed_ixT (ed_v rfl r1) ed_int h1) (kit_list _)))) (fun hb => nomatch hb) fun hb H1 e1 S1 => ?_
  refine q_forL S1 (ed_ixT (ed_v rfl r1) ed_int h1) fun Hb1 H2 eb1 e2 S2 => ⟨fun i σ' H' => ∃ y2 y3, σ' = [some v, some v2, y2, y3] ∧ Ex Hb1 H', ⟨none, none, rfl, S2.ex⟩, fun i σ' H' hP => hP.choose_spec.choose_spec.2, fun i d x σ' H' hi rx hP => ?_, fun σ' H' hP => ?_⟩
  · obtain ⟨y2, y3, rfl, eb⟩ := hP
    obtain ⟨g, hgi, rfl⟩ : ∃ g, gs[i]? = some g ∧ d = dGrp g := by
      rw [List.getElem?_map] at hi
      cases hh : gs[i]? with
      | none => rw [hh] at hi; simp at hi
      | some g => rw [hh] at hi; exact ⟨g, rfl, (Option.some.inj hi).symm⟩
    have hgl := hg g (List.mem_of_getElem? hgi)
    have S3 : Beside Hb1 [] H' := ⟨eb, fun a h => by simp at h⟩
    have hst : stepsD (g.map fun x => Dt.int (x : Nat)).length (fun _ => false) (fun i => .non) = [] := by
      unfold stepsD
      rw [List.filter_eq_nil_iff.mpr (by simp)]; rfl
    refine s_ifN S3 (et_or (a := false) (et_not (a := true) (et_dB (ed_isi (ed_v rfl rx) (kit_tuple _)))) fun _ => et_d (ed_neD (d := .lst []) (e := .lst []) (b := false) ((EvF.dd (ef_lcT (ds := g.map fun x => Dt.int (x : Nat)) (fun _ => false) (fun i => .non) (ed_v rfl rx) (by rw [List.length_map]; omega) (fun x => rfl) (fun j d x H5 e5 hj rx5 => ?_) (fun j d x H5 e5 hj rx5 hf => nomatch hf))).as (by rw [hst])) (EvF.dd (ef_lst ea_nil' (by simp))) ⟨rfl, rfl, by decide⟩ ⟨rfl, rfl, by decide⟩ (by simp))) (fun hb => nomatch hb) fun hb H4 e4 S4 => ?_
    · refine et_not (a := true) ?_
      obtain ⟨z, rfl⟩ : ∃ z : Nat, d = .int (z : Int) := by
        rw [List.getElem?_map] at hj
        cases hh : g[j]? with
        | none => rw [hh] at hj; simp at hj
        | some z => rw [hh] at hj; exact ⟨z, (Option.some.inj hj).symm⟩
      exact et_dB (ed_call (ea_cons' (ed_v rfl rx5) ea_nil') trivial rfl)
    · exact ⟨_, _, rfl, eb.trans e4⟩
  · obtain ⟨y2, y3, rfl, eb⟩ := hP
    have eH : Ex H H' := eb1.trans eb
    refine s_retN (⟨eH, fun a h => by simp at h⟩ : Beside H [] H') (EvD.nn (ed_and (a := decide (m = L.length)) (b := decide (gs = gI L)) ((ed_eqI (ed_ixT (ed_v rfl r1) ed_int h0) (ed_lenL (ed_v rfl r2))).as ?_) fun _ => ed_eqD (ed_ixT (ed_v rfl r1) ed_int h1) ((ed_call (ea_cons' (ed_v rfl r2) ea_nil') ⟨L, rfl, hL⟩ rfl).as (d' := dGrps (gI L)) ?_) (fit_grps _) (fit_grps _) (by rw [decide_eq_true_iff, dGrps_inj])) rfl) fun v3 H3 e3 r3 => q' v3 H3 (eH.trans e3) ?_
    · rw [List.length_map]
      congr 1
      rw [decide_eq_decide]
      exact Int.ofNat_inj
    · show dGrps (gI (dInts L).ints) = _
      rw [ints_dInts]
    · rw [← Bool.decide_and] at r3
      exact r3.flat rfl
theorem ok_l_listed (F : Fun K "_law_listed" "_law_listed" s_l_listed f fd) (B : Blt mg) (C_l_whole : Callee P w K mg base CX0 1 "_law_whole" ["_law_found"] sp_l_whole) : FnOk P w K mg base CX0 2 f fd ["_law_found", "_law_due"] sp_l_listed := by
  refine F.ok sc_l_listed (fun vs H Q E h => h.1) (fun cdv A outer s H vs Q E hr h => ?_)
  obtain ⟨len, ds, r, ⟨a, b, hds, hL⟩, q⟩ := h
  obtain ⟨v, d, v2, d2, rfl, rfl, r1, r2⟩ := args2 len r
  obtain ⟨rfl, rfl⟩ : d = dInts a ∧ d2 = dInts b := by simpa using hds
  have hst : stepsD (a.map Dt.int).length (fun _ => false) (fun i => .non) = [] := by
    unfold stepsD
    rw [List.filter_eq_nil_iff.mpr (by simp)]; rfl
  refine ⟨_, (pss_cons (ps_if (PW.pt (pw_or (pt_not (pt_val (pe_callB call_isi (by rfl) B.isinstance_ (by decide +kernel) (pa_cons (pv 0) (pa_cons (pe_bltn (v := .ty "list") (by rfl) B.list_ bt_list rfl) pa_nil))))) (pw_or1 (pt_cmpR (op_neD hr.units) (pe_lc (own := [("_law_place", 2)]) (g := (gName 2)) (tt := (tNot (tB (tCall sp_l_whole [] E0 (tCons (tVar 2) tNil))))) (te := (tVar 2)) rfl sc_l_listed.nd (pi_list (pv 0)) (blkOk_by (N := ["_law_found", "_law_due", "_law_place"]) (sc := defScope s_l_listed) (by decide +kernel)) (fun _ _ _ _ _ => (pg_name (i := 2) sc_l_listed.nd rfl (.inl rfl))) (fun _ _ _ _ _ => (pts_one (pt_not (pt_val (pe_fn C_l_whole (hr.mono (by decide)) (by rfl) pass0 (pa_cons (pv 2) pa_nil)))))) (fun _ _ _ _ _ => (pv 2))) (pe_lst pa_nil) (by first | exact nomark _ | rfl)))))
        (pss_one (ps_ret pe_bl))
        pss_nil)
      (pss_one (ps_ret (pe_cmpR (op_eqD hr.units) (pv 0) (pv 1) (by first | exact nomark _ | rfl))))), ?_⟩
  refine q_ifN (Beside.refl H) (et_or (a := false) (et_not (a := true) (et_dB (ed_isi (ed_v rfl r1) (kit_list _)))) fun _ => et_d (ed_neD (d := .lst []) (e := .lst []) (b := false) ((EvF.dd (ef_lcL (ds := a.map Dt.int) (fun _ => false) (fun i => .non) (ed_v rfl r1) (by rw [List.length_map]; omega) (fun x => rfl) (fun j d x H5 e5 hj rx5 => ?_) (fun j d x H5 e5 hj rx5 hf => nomatch hf))).as (by rw [hst])) (EvF.dd (ef_lst ea_nil' (by simp))) ⟨rfl, rfl, by decide⟩ ⟨rfl, rfl, by decide⟩ (by simp))) (fun hb => nomatch hb) fun hb H4 e4 S4 => ?_
  · refine et_not (a := true) ?_
    obtain ⟨z, rfl⟩ : ∃ z : Int, d = .int z := by
      rw [List.getElem?_map] at hj
      cases hh : a[j]? with
      | none => rw [hh] at hj; simp at hj
      | some z => rw [hh] at hj; exact ⟨z, (Option.some.inj hj).symm⟩
    exact et_dB (ed_call (ea_cons' (ed_v rfl rx5) ea_nil') trivial rfl)
  · refine s_retN S4 (EvD.nn (ed_eqD (b := decide (a = b)) (ed_v rfl r1) (ed_v rfl r2) (fit_ints a) (fit_ints b) ?_) rfl) fun v3 H3 e3 r3 => q v3 H3 (e4.trans e3) ?_
    · rw [decide_eq_true_iff]
      constructor
      · intro h; rw [h]
      · intro h; rw [← ints_dInts a, ← ints_dInts b, h]
    · show Rp (Fresh H) H3 v3 (.bl (decide ((dInts a).ints = (dInts b).ints)))
      rw [ints_dInts, ints_dInts]; exact r3.flat rfl
end
end Nc

namespace Nc
open PySem PySem.Spec PyProof.Rows L2 Evl
section
variable {P : Program} {w : World} {K : PySem.W.Frag} {mg : Str → Option Value} {base : Heap} {f : Addr} {fd : FuncData}
theorem ok_check_count (F : Fun K "check_count" "check_count" s_check_count f fd) (B : Blt mg) {t : Tok} (g_MOST : mg "MOST" = some (.int 60 t)) (C_is_whole : Callee P w K mg base CX0 1 "is_whole" ["value"] sp_is_whole) : FnOk P w K mg base CX0 2 f fd ["many"] sp_check_count := by
  refine F.ok sc_check_count (fun vs H Q E h => h.1) (fun cdv A outer s H vs Q E hr h => ?_)
  obtain ⟨len, ds, r, ⟨n, hds, h1, h60⟩, q⟩ := h
  obtain ⟨v, d, rfl, rfl, r1⟩ := args1 len r
  obtain rfl : d = .int n := by simpa using hds
  obtain rfl := r1.intI
  refine ⟨_, (pss_one (ps_if (PW.pt (pw_or (pt_not (pt_val (pe_fn C_is_whole (hr.mono (by decide)) (by rfl) pass0 (pa_cons (pv 0) pa_nil)))) (pw_or (pt_cmpR op_ltI (pv 0) pe_int (by first | exact nomark _ | rfl)) (pw_or1 (pt_cmpR op_gtI (pv 0) (pe_glob (v := .int 60) (by rfl) g_MOST ⟨_, rfl⟩) (by first | exact nomark _ | rfl))))))
        (pss_one ps_never)
        pss_nil)), ?_⟩
  refine s_ifN (Beside.refl H) (et_or (a := false) (et_not (a := true) (et_dB (ed_call (ea_cons' (ed_vi rfl) ea_nil') trivial rfl))) fun _ => et_or (a := false) (et_is (et_d (ed_IB (ed_vi rfl) ed_int)) (decide_eq_false (by omega))) fun _ => et_is (b := false) (et_d (ed_IB (ed_vi rfl) ed_int)) (decide_eq_false (by omega))) (fun hb => nomatch hb) fun hb H4 e4 S4 => ?_
  exact q .non H4 e4 .non
theorem ok_finest (F : Fun K "finest" "finest" s_finest f fd) (B : Blt mg) (C_check_count : Callee P w K mg base CX0 2 "check_count" ["many"] sp_check_count) : FnOk P w K mg base CX0 3 f fd ["many"] sp_finest := by
  refine F.ok sc_finest (fun vs H Q E h => h.1) (fun cdv A outer s H vs Q E hr h => ?_)
  obtain ⟨len, ds, r, ⟨n, hds, h1, h60⟩, q⟩ := h
  obtain ⟨v, d, rfl, rfl, r1⟩ := args1 len r
  obtain rfl : d = .int n := by simpa using hds
  obtain rfl := r1.intI
  refine ⟨_, (pss_cons (ps_expr (pe_fn C_check_count (hr.mono (by decide)) (by rfl) pass0 (pa_cons (pv 0) pa_nil)))
      (pss_one (ps_ret (pe_tup (pa_cons (pv 0) (pa_cons (pe_lc (own := [("place", 1)]) (g := (gName 1)) (tt := tYes) (te := (tTup (tCons (tVar 1) tNil))) rfl sc_finest.nd (pi_range1 (by rfl) B.range_ (pa_cons (pv 0) pa_nil)) (blkOk_by (N := ["many", "place"]) (sc := defScope s_finest) (by decide +kernel)) (fun _ _ _ _ _ => (pg_name (i := 1) sc_finest.nd rfl (.inl rfl))) (fun _ _ _ _ _ => pts_nil) (fun _ _ _ _ _ => (pe_tup (pa_cons (pv 1) pa_nil)))) pa_nil)))))), ?_⟩
  refine q_dropD (Beside.refl H) (ed_call (ea_cons' (ed_vi rfl) ea_nil') ⟨n, rfl, h1, h60⟩ rfl) fun H1 e1 S1 => ?_
  have e3 : stepsD n (fun _ => true) (fun i => Dt.tup [.int (i : Nat)]) = ((List.range n).map fun i => [i]).map dGrp := by
    unfold stepsD
    rw [List.filter_eq_self.mpr (fun _ _ => rfl), List.map_map]; rfl
  refine s_retN S1 (en_tup (en_cons (EvD.nn (ed_vi rfl) rfl) (en_cons (EvF.nn (ef_lcR1 (n := n) (fun _ => true) (fun i => Dt.tup [.int (i : Nat)]) (ea_cons' (ed_vi rfl) ea_nil') (by omega) (fun x => rfl) (fun i H2 e2 hi => et_yes) (fun i H2 e2 hi _ => ed_tup (ea_cons' (ed_vi rfl) ea_nil') (by simp))) (by rw [e3]; exact flats_grps _)) en_nil)) (by simp)) fun v2 H2 e2 r2 => q v2 H2 (e1.trans e2) ?_
  rw [e3] at r2
  exact r2.wk fun a h => fresh_back e1 h
theorem ok_coarsest (F : Fun K "coarsest" "coarsest" s_coarsest f fd) (B : Blt mg) (C_check_count : Callee P w K mg base CX0 2 "check_count" ["many"] sp_check_count) : FnOk P w K mg base CX0 3 f fd ["many"] sp_coarsest := by
  refine F.ok sc_coarsest (fun vs H Q E h => h.1) (fun cdv A outer s H vs Q E hr h => ?_)
  obtain ⟨len, ds, r, ⟨n, hds, h1, h60⟩, q⟩ := h
  obtain ⟨v, d, rfl, rfl, r1⟩ := args1 len r
  obtain rfl : d = .int n := by simpa using hds
  obtain rfl := r1.intI
  refine ⟨_, (pss_cons (ps_expr (pe_fn C_check_count (hr.mono (by decide)) (by rfl) pass0 (pa_cons (pv 0) pa_nil)))
      (pss_one (ps_ret (pe_tup (pa_cons (pv 0) (pa_cons (pe_lst (pa_cons (pe_tupRg rfl (by rfl) B.tuple_ (prg_1 (by rfl) B.range_ (pv 0))) pa_nil)) pa_nil)))))), ?_⟩
  refine q_dropD (Beside.refl H) (ed_call (ea_cons' (ed_vi rfl) ea_nil') ⟨n, rfl, h1, h60⟩ rfl) fun H1 e1 S1 => ?_
  refine s_retN S1 (en_tup (en_cons (EvD.nn (ed_vi rfl) rfl) (en_cons (en_lst (en_cons (EvD.nn (ed_tupRg (ed_vi rfl) (by omega)) (flat_grp (List.range n))) en_nil) (by simp)) en_nil)) (by simp)) fun v2 H2 e2 r2 => q v2 H2 (e1.trans e2) ?_
  exact r2.wk fun a h => fresh_back e1 h
theorem ok_group_of (F : Fun K "group_of" "group_of" s_group_of f fd) (B : Blt mg) (C_is_whole : Callee P w K mg base CX0 1 "is_whole" ["value"] sp_is_whole) : FnOk P w K mg base CX0 2 f fd ["tie", "place"] sp_group_of := by
  refine F.ok sc_group_of (fun vs H Q E h => h.1) (fun cdv A outer s H vs Q E hr h => ?_)
  obtain ⟨len, ds, r, ⟨t, p, hds, n, gs, k, rfl, rfl, hk⟩, q⟩ := h
  obtain ⟨v, d, v2, d2, rfl, rfl, r1, r2⟩ := args2 len r
  obtain ⟨rfl, rfl⟩ : d = dTie n gs ∧ d2 = .int k := by simpa using hds
  obtain rfl := r2.intI
  have q' : ∀ (v : V) (H' : Hp), Ex H H' → Rp (Fresh H) H' v (dGrp (findG gs k)) → Q v H' := fun v H' e r => q v H' e (by
    show Rp (Fresh H) H' v (dGrp (findG (dTie n gs).grps k))
    rw [grps_dTie]; exact r)
  refine ⟨_, (pss_cons (ps_if (pt_val (pe_fn C_is_whole (hr.mono (by decide)) (by rfl) pass0 (pa_cons (pv 1) pa_nil)))
        (pss_one (ps_for PassesOwn.never rfl (pi_list (pe_ix ix_tup (pv 0) pe_int (fun _ _ => rfl))) (pg_name (i := 2) sc_group_of.nd rfl (.inl rfl))
        (pss_one (ps_if (pt_cmpR op_in_seq (pv 1) (pv 2) (by first | exact nomark _ | rfl))
        (pss_one (ps_ret (pv 2)))
        pss_nil))))
        pss_nil)
      (pss_one ps_never)), ?_⟩
  refine q_ifN (b := true) (Beside.refl H) (et_dB (ed_call (ea_cons' (ed_vi rfl) ea_nil') trivial rfl)) (fun hb H1 e1 S1 => ?_) fun hb => nomatch hb
  refine s_forL S1 (ed_ixT (ed_v rfl r1) ed_int (rfl : atI ([.int n, dGrps gs] : List Dt) 1 = some (dGrps gs))) fun Hb1 H2 eb1 e2 S2 => ⟨fun i σ' H' => ∃ y2, σ' = [some v, some (.int k), y2] ∧ Ex Hb1 H' ∧ ∀ g ∈ gs.take i, k ∉ g, ⟨none, rfl, S2.ex, by simp⟩, fun i σ' H' hP => hP.choose_spec.2.1, fun i d x σ' H' hi rx hP => ?_, fun σ' H' hP => ?_⟩
  · obtain ⟨y2, rfl, eb, hno⟩ := hP
    obtain ⟨g, hgi, rfl⟩ : ∃ g, gs[i]? = some g ∧ d = dGrp g := by
      rw [List.getElem?_map] at hi
      cases hh : gs[i]? with
      | none => rw [hh] at hi; simp at hi
      | some g => rw [hh] at hi; exact ⟨g, rfl, (Option.some.inj hi).symm⟩
    have S3 : Beside Hb1 [] H' := ⟨eb, fun a h => by simp at h⟩
    refine s_ifN S3 (et_d (ed_inT (ns := ofN g) (ed_vi rfl) ((ed_v rfl rx).as (by unfold dGrp ofN; rw [List.map_map]; rfl)))) (fun hb H4 e4 S4 => ?_) fun hb H4 e4 S4 => ?_
    · have hkg : k ∈ g := by
        have := of_decide_eq_true hb
        unfold ofN at this
        rw [List.mem_map] at this
        obtain ⟨x, hx, e⟩ := this
        rw [← Int.ofNat_inj.mp e]; exact hx
      refine s_retD S4 (ed_v rfl rx) fun v5 H5 e5 r5 => q' v5 H5 ((eb1.trans eb).trans (e4.trans e5)) ?_
      have e6 : findG gs k = g := by
        unfold findG
        have : gs.find? (fun g => decide (k ∈ g)) = some g := by
          rw [List.find?_eq_some_iff_append]
          refine ⟨decide_eq_true hkg, gs.take i, gs.drop (i + 1), ?_, fun a ha => ?_⟩
          · obtain ⟨hlt, e⟩ := List.getElem?_eq_some_iff.mp hgi
            rw [← e, ← List.drop_eq_getElem_cons hlt, List.take_append_drop]
          · simpa using hno a ha
        rw [this]; rfl
      rw [e6]
      exact (r5.mono less_ex).flat (flat_grp g)
    · have hkg : k ∉ g := by
        intro h
        refine of_decide_eq_false hb ?_
        unfold ofN
        exact List.mem_map.mpr ⟨k, h, rfl⟩
      refine ⟨_, rfl, eb.trans e4, fun g' hg' => ?_⟩
      rw [List.take_add_one, hgi] at hg'
      rcases List.mem_append.mp hg' with h | h
      · exact hno g' h
      · have : g' = g := by simpa using h
        rw [this]; exact hkg
  · obtain ⟨y2, rfl, eb, hno⟩ := hP
    obtain ⟨g, hg, hkg⟩ := hk
    rw [List.length_map, List.take_length] at hno
    exact (hno g hg hkg).elim
theorem ok_tied (F : Fun K "tied" "tied" s_tied f fd) (B : Blt mg) (C_group_of : Callee P w K mg base CX0 2 "group_of" ["tie", "place"] sp_group_of) : FnOk P w K mg base CX0 3 f fd ["tie", "one", "other"] sp_tied := by
  refine F.ok sc_tied (fun vs H Q E h => h.1) (fun cdv A outer s H vs Q E hr h => ?_)
  obtain ⟨len, ds, r, ⟨t, p, p2, hds, h1, h2⟩, q⟩ := h
  obtain ⟨v, d, v2, d2, v3, d3, rfl, rfl, r1, r2, r3⟩ := args3 len r
  obtain ⟨rfl, rfl, rfl⟩ : d = t ∧ d2 = p ∧ d3 = p2 := by simpa using hds
  refine ⟨_, (pss_cons (ps_set (i := 3) sc_tied.nd rfl (.inl rfl) (pe_fn C_group_of (hr.mono (by decide)) (by rfl) pass0 (pa_cons (pv 0) (pa_cons (pv 1) pa_nil))))
      (pss_one (ps_ret (pe_cmpR (op_eqD hr.units) (pv 3) (pe_fn C_group_of (hr.mono (by decide)) (by rfl) pass0 (pa_cons (pv 0) (pa_cons (pv 2) pa_nil))) (by first | exact nomark _ | rfl))))), ?_⟩
  refine q_set (Beside.refl H) (ed_call (ea_cons' (ed_v rfl r1) (ea_cons' (ed_v rfl r2) ea_nil')) ⟨d, d2, rfl, h1⟩ rfl) fun v4 Hb4 H4 eb4 e4 S4 r4 => ?_
  refine s_retN S4 (EvD.nn (ed_eqD (b := decide (findG d.grps (dInt d2).toNat = findG d.grps (dInt d3).toNat)) (ed_v rfl r4) (ed_call (ea_cons' (ed_v rfl (r1.mono eb4)) (ea_cons' (ed_v rfl (r3.mono eb4)) ea_nil')) ⟨d, d3, rfl, h2⟩ rfl) (fit_grp _) (fit_grp _) (by rw [decide_eq_true_iff, dGrp_inj])) rfl) fun v5 H5 e5 r5 => q v5 H5 (e4.trans e5) ?_
  exact r5.flat rfl
theorem ok_leaders (F : Fun K "leaders" "leaders" s_leaders f fd) (B : Blt mg) : FnOk P w K mg base CX0 1 f fd ["tie"] sp_leaders := by
  refine F.ok sc_leaders (fun vs H Q E h => h.1) (fun cdv A outer s H vs Q E hr h => ?_)
  obtain ⟨len, ds, r, ⟨n, gs, hds, hn, hg⟩, q⟩ := h
  obtain ⟨v, d, rfl, rfl, r1⟩ := args1 len r
  obtain rfl : d = dTie n gs := by simpa using hds
  have q' : ∀ (v : V) (H' : Hp), Ex H H' → Rp (Fresh H) H' v (dNats (leadersM n gs)) → Q v H' := fun v H' e r => q v H' e (by
    show Rp (Fresh H) H' v (dNats (leadersM (dTie n gs).many (dTie n gs).grps))
    rw [grps_dTie, many_dTie]; exact r)
  refine ⟨_, (pss_cons (ps_asg (pv 0) (pg_tup rfl (pgs_cons (pg_name (i := 1) sc_leaders.nd rfl (.inl rfl)) (pgs_cons (pg_name (i := 2) sc_leaders.nd rfl (.inl rfl)) pgs_nil))))
      (pss_cons (ps_set (i := 3) sc_leaders.nd rfl (.inl rfl) (pe_op op_rep (pe_lst (pa_cons pe_int pa_nil)) (pv 1)))
      (pss_cons (ps_for PassesOwn.never rfl (pi_list (pv 2)) (pg_name (i := 4) sc_leaders.nd rfl (.inl rfl))
        (pss_one (ps_for PassesOwn.never rfl (pi_tup (pv 4)) (pg_name (i := 5) sc_leaders.nd rfl (.inl rfl))
        (pss_one (ps_asg (pe_ix ix_tup (pv 4) pe_int (fun _ _ => rfl)) (pg_sub (pv 3) (pv 5) set_list))))))
      (pss_one (ps_ret (pv 3)))))), ?_⟩
  refine q_unp2 (Beside.refl H) (ed_v rfl r1) fun v1 v2 Hb1 H1 eb1 e1 S1 q1 q2 => ?_
  obtain rfl := q1.intI
  refine q_setF S1 (ef_rep (EvF.dd (ef_lst (ea_cons' ed_int ea_nil') (by simp))) (ed_vi rfl) rfl (by omega)) fun p xs Hb2 H2 hp eb2 e2 S2 hx rx => ?_
  have hxs : xs = (List.replicate n 0).map fun x => V.int ((x : Nat) : Int) := by
    have : List.replicate n (Dt.int 0) = (ofN (List.replicate n 0)).map Dt.int := by unfold ofN; rw [List.map_map, List.map_replicate]; rfl
    rw [this] at rx
    have := rx.ofInts
    rw [this]; unfold ofN; rw [List.map_map]; rfl
  subst hxs
  refine q_forL S2 (ed_v rfl (q2.mono eb2)) fun Hb3 H3 eb3 e3 S3 => ⟨fun i σ' H' => ∃ (Hb : Hp) (y4 y5 : Option V), σ' = [some v, some (.int n), some v2, some (.ref p), y4, y5] ∧ Ex Hb3 Hb ∧ Beside Hb [p] H' ∧ H' p = some (.lst (((gs.take i).foldl (fun a g => setAll a g (g.headD 0)) (List.replicate n 0)).map fun x => V.int ((x : Nat) : Int))), ⟨Hb3, none, none, rfl, Ex.refl _, S3, e3 _ _ hx⟩, fun i σ' H' hP => by obtain ⟨Hb, y4, y5, _, h1, h2, _⟩ := hP; exact h1.trans h2.ex, fun i d x σ' H' hi rx hP => ?_, fun σ' H' hP => ?_⟩
  · obtain ⟨Hb, y4, y5, rfl, eb, SS, hpl⟩ := hP
    obtain ⟨g, hgi, rfl⟩ : ∃ g, gs[i]? = some g ∧ d = dGrp g := by
      rw [List.getElem?_map] at hi
      cases hh : gs[i]? with
      | none => rw [hh] at hi; simp at hi
      | some g => rw [hh] at hi; exact ⟨g, rfl, (Option.some.inj hi).symm⟩
    obtain ⟨hg0, hgn⟩ := hg g (List.mem_of_getElem? hgi)
    obtain ⟨g0, gr, rfl⟩ : ∃ a r, g = a :: r := by
      cases g with
      | nil => exact absurd rfl hg0
      | cons a r => exact ⟨a, r, rfl⟩
    generalize hacc : (gs.take i).foldl (fun a g => setAll a g (g.headD 0)) (List.replicate n 0) = acc at hpl
    have hal : acc.length = n := by
      have := leadersM_length n (gs.take i)
      unfold leadersM at this
      rw [hacc] at this; exact this
    refine s_forT SS (ed_v rfl (rx.mono eb)) fun Hb4 H4 eb4 e4 S4 => ⟨fun j σ' H' => ∃ (Hb : Hp) (y5 : Option V), σ' = [some v, some (.int n), some v2, some (.ref p), some x, y5] ∧ Ex Hb4 Hb ∧ Beside Hb [p] H' ∧ H' p = some (.lst ((setAll acc ((g0 :: gr).take j) g0).map fun x => V.int ((x : Nat) : Int))), ⟨Hb4, y5, rfl, Ex.refl _, S4, e4 _ _ hpl⟩, fun i σ' H' hP => by obtain ⟨Hb, y5, _, h1, h2, _⟩ := hP; exact h1.trans h2.ex, fun j d2 x2 σ' H' hj rx2 hP => ?_, fun σ' H' hP => ?_⟩
    · obtain ⟨Hb5, y5, rfl, eb5, S5, hp5⟩ := hP
      obtain ⟨z, hz, rfl⟩ : ∃ z : Nat, (g0 :: gr)[j]? = some z ∧ d2 = .int (z : Int) := by
        rw [List.getElem?_map] at hj
        cases hh : (g0 :: gr)[j]? with
        | none => rw [hh] at hj; simp at hj
        | some z => rw [hh] at hj; exact ⟨z, rfl, (Option.some.inj hj).symm⟩
      obtain rfl := rx2.intI
      have hzn := hgn z (List.mem_of_getElem? hz)
      refine s_putD S5 (by simp) hp5 rfl (ed_ixT (ed_v rfl ((rx.mono eb).mono (eb4.trans eb5))) ed_int (show atI ((g0 :: gr).map fun x => Dt.int (x : Nat)) 0 = some (.int (g0 : Nat)) from atI_nat (j := 0) rfl)) (ed_vi rfl) (by rw [List.length_map, setAll_length, hal]; exact hzn) fun v6 Hb6 H6 eb6 S6 _ hp6 r6 => ?_
      refine ⟨Hb6, _, rfl, eb5.trans eb6, S6, ?_⟩
      rw [hp6, r6.intI]
      have e7 : (g0 :: gr).take (j + 1) = (g0 :: gr).take j ++ [z] := by rw [List.take_add_one, hz]; rfl
      rw [e7]
      unfold setAll
      rw [List.foldl_append, List.foldl_cons, List.foldl_nil, List.map_set]
    · obtain ⟨Hb5, y5, rfl, eb5, S5, hp5⟩ := hP
      refine ⟨Hb5, _, _, rfl, eb.trans (eb4.trans eb5), S5, ?_⟩
      rw [List.length_map, List.take_length] at hp5
      rw [hp5, List.take_add_one, hgi, List.foldl_append, hacc]
      rfl
  · obtain ⟨Hb, y4, y5, rfl, eb, SS, hpl⟩ := hP
    rw [List.length_map, List.take_length] at hpl
    refine ⟨.ref p, rfl, q' (.ref p) H' ((eb1.trans (eb2.trans (eb3.trans eb))).trans SS.ex) (.lst (fresh_back e1 hp) hpl ?_)⟩
    have h1 := nats_ints (leadersM n gs)
    have h2 := natV_ints (leadersM n gs)
    show RpL (Fresh H) H' ((leadersM n gs).map fun x => V.int (x : Nat)) ((leadersM n gs).map fun x => Dt.int (x : Nat))
    rw [h1, h2]
    exact RpL.ints _
end
end Nc

namespace Nc
open PySem PySem.Spec PyProof.Rows L2 Evl
def sp_law (K : PySem.W.Frag) : Sp := fun vs H Q _ => ∃ (a : Addr) (ns : List Int), vs = [.ref a] ∧ SqL K H a (ns.map V.int) ∧ ∀ H', Q (.bl true) H'
section
variable {P : Program} {w : World} {K : PySem.W.Frag} {mg : Str → Option Value} {base : Heap} {f : Addr} {fd : FuncData}
theorem ok_law (F : Fun K "law" "law" s_law f fd) (B : Blt mg) {t : Tok} (g_MOST : mg "MOST" = some (.int 60 t))
    (C_finest : Callee P w K mg base CX0 3 "finest" ["many"] sp_finest) (C_coarsest : Callee P w K mg base CX0 3 "coarsest" ["many"] sp_coarsest) (C_group_of : Callee P w K mg base CX0 2 "group_of" ["tie", "place"] sp_group_of) (C_tied : Callee P w K mg base CX0 3 "tied" ["tie", "one", "other"] sp_tied) (C_leaders : Callee P w K mg base CX0 1 "leaders" ["tie"] sp_leaders)
    (C_l_cell_at : Callee P w K mg base CX0 1 "_law_cell_at" ["_law_script", "_law_k"] (sp_l_cell_at K)) (C_l_whole : Callee P w K mg base CX0 1 "_law_whole" ["_law_found"] sp_l_whole) (C_l_count : Callee P w K mg base CX0 1 "_law_count" ["_law_cell"] sp_l_count) (C_l_labels : Callee P w K mg base CX0 1 "_law_labels" ["_law_many", "_law_cell", "_law_other"] sp_l_labels)
    (C_l_is : Callee P w K mg base CX0 2 "_law_is" ["_law_found", "_law_labels_here"] sp_l_is) (C_l_tie : Callee P w K mg base CX0 2 "_law_tie" ["_law_labels_here"] sp_l_tie) (C_l_listed : Callee P w K mg base CX0 2 "_law_listed" ["_law_found", "_law_due"] sp_l_listed) (C_l_truth : Callee P w K mg base CX0 1 "_law_truth" ["_law_found", "_law_due"] sp_l_truth) :
    FnOk P w K mg base CX0 4 f fd ["_law_script"] (sp_law K) := by
  refine F.ok sc_law (fun vs H Q E h => by obtain ⟨a, ns, rfl, _⟩ := h; rfl) (fun cdv A outer s H vs Q E hr h => ?_)
  obtain ⟨a, ns, rfl, hs, q⟩ := h
  refine ⟨_, (pss_cons (ps_set (i := 1) sc_law.nd rfl (.inl rfl) (pe_fn C_l_count (hr.mono (by decide)) (by rfl) pass0 (pa_cons (pe_fn C_l_cell_at (hr.mono (by decide)) (by rfl) pass0 (pa_cons (pv 0) (pa_cons pe_int pa_nil))) pa_nil)))
      (pss_cons (ps_set (i := 2) sc_law.nd rfl (.inr rfl) (pe_fn C_l_labels (hr.mono (by decide)) (by rfl) pass0 (pa_cons (pv 1) (pa_cons (pe_fn C_l_cell_at (hr.mono (by decide)) (by rfl) pass0 (pa_cons (pv 0) (pa_cons pe_int pa_nil))) (pa_cons (pe_fn C_l_cell_at (hr.mono (by decide)) (by rfl) pass0 (pa_cons (pv 0) (pa_cons pe_int pa_nil))) pa_nil)))))
      (pss_cons (ps_set (i := 3) sc_law.nd rfl (.inl rfl) (pe_fn C_l_tie (hr.mono (by decide)) (by rfl) pass0 (pa_cons (pv 2) pa_nil)))
      (pss_cons (ps_set (i := 4) sc_law.nd rfl (.inl rfl) (pe_fn C_leaders (hr.mono (by decide)) (by rfl) pass0 (pa_cons (pv 3) pa_nil)))
      (pss_cons (ps_if (pt_not (pt_val (pe_fn C_l_listed (hr.mono (by decide)) (by rfl) pass0 (pa_cons (pv 4) (pa_cons (pv 2) pa_nil)))))
        (pss_one (ps_ret pe_bl))
        pss_nil)
      (pss_cons (ps_set (i := 5) sc_law.nd rfl (.inr rfl) (pe_op op_modI (pe_fn C_l_cell_at (hr.mono (by decide)) (by rfl) pass0 (pa_cons (pv 0) (pa_cons pe_int pa_nil))) (pv 1)))
      (pss_cons (ps_set (i := 6) sc_law.nd rfl (.inl rfl) (pe_op op_modI (pe_fn C_l_cell_at (hr.mono (by decide)) (by rfl) pass0 (pa_cons (pv 0) (pa_cons pe_int pa_nil))) (pv 1)))
      (pss_cons (ps_set (i := 7) sc_law.nd rfl (.inl rfl) (pe_fn C_group_of (hr.mono (by decide)) (by rfl) pass0 (pa_cons (pv 3) (pa_cons (pv 5) pa_nil))))
      (pss_cons (ps_set (i := 8) sc_law.nd rfl (.inl rfl) (pe_callTy call_tuple_of (by rfl) B.tuple_ (by decide +kernel) (pa_cons (pe_lc (own := [("_law_place", 9)]) (g := (gName 9)) (tt := (tTest (tOp rEq (tOp (rIxL K) (tVar 2) (tVar 9)) (tOp (rIxL K) (tVar 2) (tVar 5))))) (te := (tVar 9)) rfl sc_law.nd (pi_range1 (by rfl) B.range_ (pa_cons (pv 1) pa_nil)) (blkOk_by (N := ["_law_script", "_law_many", "_law_labels_here", "_law_tie_here", "_law_found", "_law_one", "_law_other", "_law_group", "_law_due", "_law_place"]) (sc := defScope s_law) (by decide +kernel)) (fun _ _ _ _ _ => (pg_name (i := 9) sc_law.nd rfl (.inl rfl))) (fun _ _ _ _ _ => (pts_one (pt_cmpR op_eq (pe_ix ix_list (pv 2) (pv 9) (fun _ _ => rfl)) (pe_ix ix_list (pv 2) (pv 5) (fun _ _ => rfl)) (by first | exact nomark _ | rfl)))) (fun _ _ _ _ _ => (pv 9))) pa_nil)))
      (pss_cons (ps_if (PW.pt (pw_or (pt_not (pt_val (pe_callB call_isi (by rfl) B.isinstance_ (by decide +kernel) (pa_cons (pv 7) (pa_cons (pe_bltn (v := .ty "tuple") (by rfl) B.tuple_ bt_tuple rfl) pa_nil))))) (pw_or (pt_cmpR (op_neD hr.units) (pv 7) (pv 8) (by first | exact nomark _ | rfl)) (pw_or1 (pt_not (pt_val (pe_fn C_l_listed (hr.mono (by decide)) (by rfl) pass0 (pa_cons (pe_callTy call_list_of (by rfl) B.list_ (by decide +kernel) (pa_cons (pv 7) pa_nil)) (pa_cons (pe_callTy call_list_of (by rfl) B.list_ (by decide +kernel) (pa_cons (pv 8) pa_nil)) pa_nil)))))))))
        (pss_one (ps_ret pe_bl))
        pss_nil)
      (pss_cons (ps_if (pt_not (pt_val (pe_fn C_l_truth (hr.mono (by decide)) (by rfl) pass0 (pa_cons (pe_fn C_tied (hr.mono (by decide)) (by rfl) pass0 (pa_cons (pv 3) (pa_cons (pv 5) (pa_cons (pv 6) pa_nil)))) (pa_cons (pe_cmpR op_eq (pe_ix ix_list (pv 2) (pv 5) (fun _ _ => rfl)) (pe_ix ix_list (pv 2) (pv 6) (fun _ _ => rfl)) (by first | exact nomark _ | rfl)) pa_nil)))))
        (pss_one (ps_ret pe_bl))
        pss_nil)
      (pss_cons (ps_expr (pe_bm PySem.F.plainAttrs_list PySem.F.slot_list_append PySem.F.type_list_append mt_append (pv 4) (pa_cons pe_int pa_nil)))
      (pss_cons (ps_if (PW.pt (pw_or (pt_not (pt_val (pe_fn C_l_listed (hr.mono (by decide)) (by rfl) pass0 (pa_cons (pe_fn C_leaders (hr.mono (by decide)) (by rfl) pass0 (pa_cons (pv 3) pa_nil)) (pa_cons (pv 2) pa_nil))))) (pw_or1 (pt_cmpR (op_neD hr.units) (pv 3) (pe_fn C_l_tie (hr.mono (by decide)) (by rfl) pass0 (pa_cons (pv 2) pa_nil)) (by first | exact nomark _ | rfl)))))
        (pss_one (ps_ret pe_bl))
        pss_nil)
      (pss_cons (ps_if (PW.pt (pw_or (pt_not (pt_val (pe_fn C_l_is (hr.mono (by decide)) (by rfl) pass0 (pa_cons (pe_fn C_finest (hr.mono (by decide)) (by rfl) pass0 (pa_cons (pv 1) pa_nil)) (pa_cons (pe_listRg rfl (by rfl) B.list_ (prg_1 (by rfl) B.range_ (pv 1))) pa_nil))))) (pw_or1 (pt_not (pt_val (pe_fn C_l_is (hr.mono (by decide)) (by rfl) pass0 (pa_cons (pe_fn C_coarsest (hr.mono (by decide)) (by rfl) pass0 (pa_cons (pv 1) pa_nil)) (pa_cons (pe_op op_rep (pe_lst (pa_cons pe_int pa_nil)) (pv 1)) pa_nil))))))))
        (pss_one (ps_ret pe_bl))
        pss_nil)
      (pss_one (ps_ret (pe_and (pe_fn C_l_whole (hr.mono (by decide)) (by rfl) pass0 (pa_cons (pe_glob (v := .int 60) (by rfl) g_MOST ⟨_, rfl⟩) pa_nil)) (pe_one (pe_cmpR op_eq (pe_glob (v := .int 60) (by rfl) g_MOST ⟨_, rfl⟩) pe_int (by first | exact nomark _ | rfl)))))))))))))))))))), ?_⟩
  -- many, labels, tie
  refine q_setI (n := (countOf (ns.getD 0 0) : Nat)) (Beside.refl H) (ed_call (ea_cons' (ed_cell (k := 0) hs rfl) ea_nil') ⟨_, rfl⟩ rfl) fun H1 e1 S1 => ?_
  obtain ⟨hn1, hn60⟩ := countOf_pos (ns.getD 0 0)
  generalize countOf (ns.getD 0 0) = n at hn1 hn60
  refine q_setR S1 (er_call (ea_cons' (ed_vi rfl) (ea_cons' (ed_cell (k := 1) hs rfl) (ea_cons' (ed_cell (k := 2) hs rfl) ea_nil'))) ⟨n, _, _, rfl, hn1, hn60⟩ rfl) fun dL vL Hb2 H2 hdL eb2 e2 S2 rL => ?_
  obtain ⟨L, hLn, hLd, rfl⟩ : isLab n dL := hdL
  have rL := rL.any
  rw [dNats_ofN] at rL
  have hgs : gI (ofN L) = groupsOf (lb L) n := by rw [gI_ofN, hLn]
  refine q_set S2 ((ed_call (ea_cons' (ed_v rfl rL) ea_nil') ⟨_, rfl, by rw [ofN_length]; omega⟩ rfl).as (d' := dTie n (groupsOf (lb L) n)) (by
    show dTie (dInts (ofN L)).ints.length (gI (dInts (ofN L)).ints) = _
    rw [ints_dInts, ofN_length, hLn, hgs])) fun vT Hb3 H3 eb3 e3 S3 rT => ?_
  replace rL := rL.mono eb3
  have hokL : okLeaders n (groupsOf (lb L) n) := ⟨by omega, fun g hg => group_ne hg⟩
  have hLead : leadersM n (groupsOf (lb L) n) = L := by rw [← hLn]; exact leaders_lead hLd
  -- found
  refine q_setN S3 (en_call (ea_cons' (ed_v rfl rT) ea_nil') ⟨n, _, rfl, hokL⟩ rfl) fun vF Hb4 H4 eb4 e4 S4 rF => ?_
  have rF : Rp (Fresh H3) Hb4 vF (dInts (ofN L)) := by
    rw [← dNats_ofN]
    have := rF
    show Rp (Fresh H3) Hb4 vF (dNats L)
    have e : dNats (leadersM (dTie n (groupsOf (lb L) n)).many (dTie n (groupsOf (lb L) n)).grps) = dNats L := by rw [grps_dTie, many_dTie, hLead]
    rw [← e]; exact this
  have rL4 := rL.mono eb4
  have rT4 := rT.mono eb4
  refine q_ifN S4 (et_not (a := true) (et_dB ((ed_call (ea_cons' (ed_v rfl rF.any) (ea_cons' (ed_v rfl rL4) ea_nil')) ⟨_, _, rfl, by rw [ofN_length]; omega⟩ rfl).as (by
    show Dt.bl (decide ((dInts (ofN L)).ints = (dInts (ofN L)).ints)) = .bl true
    rw [decide_eq_true rfl])))) (fun hb => nomatch hb) fun hb H5 e5 S5 => ?_
  -- one, other
  have hs4 : SqL K Hb4 a (ns.map V.int) := ex_l ((eb2.trans eb3).trans eb4) hs
  refine q_setI S5 (ed_CI (ed_cell (k := 3) hs4 rfl) (ed_vi rfl) (by omega)) fun H6 e6 S6 => ?_
  refine q_setI S6 (ed_CI (ed_cell (k := 4) hs4 rfl) (ed_vi rfl) (by omega)) fun H7 e7 S7 => ?_
  obtain ⟨i1, hi1, hi1n⟩ : ∃ i1 : Nat, ns.getD 3 0 % (n : Int) = (i1 : Int) ∧ i1 < n := ⟨(ns.getD 3 0 % (n : Int)).toNat, by have := Int.emod_nonneg (ns.getD 3 0) (show (n : Int) ≠ 0 by omega); omega, by have := Int.emod_lt_of_pos (ns.getD 3 0) (show 0 < (n : Int) by omega); omega⟩
  obtain ⟨i2, hi2, hi2n⟩ : ∃ i2 : Nat, ns.getD 4 0 % (n : Int) = (i2 : Int) ∧ i2 < n := ⟨(ns.getD 4 0 % (n : Int)).toNat, by have := Int.emod_nonneg (ns.getD 4 0) (show (n : Int) ≠ 0 by omega); omega, by have := Int.emod_lt_of_pos (ns.getD 4 0) (show 0 < (n : Int) by omega); omega⟩
  rw [hi1, hi2]
  -- group
  have hok1 : okGroupOf (dTie n (groupsOf (lb L) n)) (.int i1) := ⟨n, _, i1, rfl, rfl, grp (lb L) n i1, grp_mem hi1n, mem_grp.mpr ⟨hi1n, rfl⟩⟩
  have hok2 : okGroupOf (dTie n (groupsOf (lb L) n)) (.int i2) := ⟨n, _, i2, rfl, rfl, grp (lb L) n i2, grp_mem hi2n, mem_grp.mpr ⟨hi2n, rfl⟩⟩
  refine q_set S7 ((ed_call (ea_cons' (ed_v rfl rT4) (ea_cons' (ed_vi rfl) ea_nil')) ⟨_, _, rfl, hok1⟩ rfl).as (d' := dGrp (grp (lb L) n i1)) (by
    show dGrp (findG (dTie n (groupsOf (lb L) n)).grps i1) = _
    rw [grps_dTie, findG_groups hi1n])) fun vG Hb8 H8 eb8 e8 S8 rG => ?_
  have rL8 := rL4.mono eb8
  have hLl : (ofN L).length = n := by rw [ofN_length, hLn]
  have hlab : ∀ j, j < n → atI ((ofN L).map Dt.int) ((j : Nat) : Int) = some (.int (lb L j : Nat)) := fun j hj => by
    rw [atI_li (by rw [hLl]; exact hj), li_ofN]
  -- due
  refine q_set S8 ((ed_tuple (EvF.dd (ef_lcR1 (n := n) (fun j => decide (lb L j = lb L i1)) (fun j => .int (j : Int)) (ea_cons' (ed_vi rfl) ea_nil') (by omega) (fun x => rfl)
    (fun j H5 e5 hj => et_is (et_d (ed_eqI (ed_ixL (ed_v rfl (rL8.mono e5)) (ed_vi rfl) (hlab j hj)) (ed_ixL (ed_v rfl (rL8.mono e5)) (ed_vi rfl) (hlab i1 hi1n)))) (by rw [decide_eq_decide]; exact Int.ofNat_inj)) (fun j H5 e5 hj _ => ed_vi rfl)))).as (d' := dGrp (grp (lb L) n i1)) rfl) fun vD Hb9 H9 eb9 e9 S9 rD => ?_
  have rG9 := rG.mono eb9
  have rL9 := rL8.mono eb9
  have rT9 := rT4.mono (eb8.trans eb9)
  have eGi : ∀ g : List Nat, Dt.lst (g.map fun x => Dt.int (x : Nat)) = dInts (ofN g) := fun g => dNats_ofN g
  refine q_ifN S9 (et_or (a := false) (et_not (a := true) (et_dB (ed_isi (ed_v rfl rG9) (kit_tuple _)))) fun _ => et_or (a := false) (et_d (ed_neD (b := false) (ed_v rfl rG9) (ed_v rfl rD) (fit_grp _) (fit_grp _) (by simp))) fun _ => et_not (a := true) (et_dB ((ed_call (ea_cons' ((EvF.dd (ef_listT (ed_v rfl rG9))).as (eGi _)) (ea_cons' ((EvF.dd (ef_listT (ed_v rfl rD))).as (eGi _)) ea_nil')) ⟨_, _, rfl, by rw [ofN_length]; have := grp_length (f := lb L) (n := n) (i := i1); omega⟩ rfl).as (by
    show Dt.bl (decide ((dInts (ofN (grp (lb L) n i1))).ints = (dInts (ofN (grp (lb L) n i1))).ints)) = .bl true
    rw [decide_eq_true rfl])))) (fun hb => nomatch hb) fun hb H10 e10 S10 => ?_
  refine q_ifN S10 (et_not (a := true) (et_dB ((ed_call (ea_cons' ((ed_call (ea_cons' (ed_v rfl rT9) (ea_cons' (ed_vi rfl) (ea_cons' (ed_vi rfl) ea_nil'))) ⟨_, _, _, rfl, hok1, hok2⟩ rfl).as (d' := .bl (decide (lb L i1 = lb L i2))) (by
    show Dt.bl (decide (findG (dTie n (groupsOf (lb L) n)).grps i1 = findG (dTie n (groupsOf (lb L) n)).grps i2)) = _
    rw [grps_dTie, findG_groups hi1n, findG_groups hi2n]
    congr 1
    rw [decide_eq_decide]
    exact grp_eq_iff hi1n)) (ea_cons' ((ed_eqI (ed_ixL (ed_v rfl rL9) (ed_vi rfl) (hlab i1 hi1n)) (ed_ixL (ed_v rfl rL9) (ed_vi rfl) (hlab i2 hi2n))).as (d' := .bl (decide (lb L i1 = lb L i2))) (by congr 1; rw [decide_eq_decide]; exact Int.ofNat_inj)) ea_nil')) ⟨_, _, rfl⟩ rfl).as (by
    show Dt.bl (decide (decide (lb L i1 = lb L i2) = decide (lb L i1 = lb L i2))) = .bl true
    rw [decide_eq_true rfl])))) (fun hb => nomatch hb) fun hb H11 e11 S11 => ?_
  -- found.append(1)
  obtain ⟨pF, xF, rfl, hpF, hxF, rxF⟩ := rF.lstI
  have hF11 : H11 pF = some (.lst xF) := (((((e5.trans e6).trans e7).trans e8).trans e9).trans (e10.trans e11)) pF _ (S4.ex pF _ hxF)
  have eAll : Ex H4 H11 := (((((e5.trans e6).trans e7).trans e8).trans e9).trans (e10.trans e11))
  have S12 := beside_cut hF11
  have hb3 : Hb3 pF = none := fresh_back S3.ex hpF
  have eb12 : Ex Hb3 (less H11 [pF]) := ex_cut ((eb4.trans S4.ex).trans eAll) hb3
  refine q_appD S12 (by simp) hF11 rfl ed_int (by
    have h1 := rxF.length
    rw [List.length_map, ofN_length] at h1
    omega) fun v13 Hb13 H13 eb13 S13 _ hp13 r13 => ?_
  have rL13 := rL.mono (eb12.trans eb13)
  have rT13 := rT.mono (eb12.trans eb13)
  refine q_ifN S13 (et_or (a := false) (et_not (a := true) (et_dB ((ed_call (ea_cons' ((ed_call (ea_cons' (ed_v rfl rT13) ea_nil') ⟨n, _, rfl, hokL⟩ rfl).as (d' := dInts (ofN L)) (by
    show dNats (leadersM (dTie n (groupsOf (lb L) n)).many (dTie n (groupsOf (lb L) n)).grps) = _
    rw [grps_dTie, many_dTie, hLead, dNats_ofN])) (ea_cons' (ed_v rfl rL13) ea_nil')) ⟨_, _, rfl, by rw [ofN_length]; omega⟩ rfl).as (by
    show Dt.bl (decide ((dInts (ofN L)).ints = (dInts (ofN L)).ints)) = .bl true
    rw [decide_eq_true rfl])))) fun _ => et_d (ed_neD (b := false) (ed_v rfl rT13) ((ed_call (ea_cons' (ed_v rfl rL13) ea_nil') ⟨_, rfl, by rw [ofN_length]; omega⟩ rfl).as (d' := dTie n (groupsOf (lb L) n)) (by
    show dTie (dInts (ofN L)).ints.length (gI (dInts (ofN L)).ints) = _
    rw [ints_dInts, ofN_length, hLn, hgs])) (fit_tie _ _) (fit_tie _ _) (by simp))) (fun hb => nomatch hb) fun hb H14 e14 S14 => ?_
  -- the finest, the coarsest
  have hcnt : okCount [.int (n : Int)] := ⟨n, rfl, hn1, hn60⟩
  refine q_ifN S14 (et_or (a := false) (et_not (a := true) (et_dB ((ed_call (ea_cons' (ed_call (ea_cons' (ed_vi rfl) ea_nil') hcnt rfl) (ea_cons' ((EvF.dd (ef_lstRg (ed_vi rfl) (by omega))).as (dNats_ofN (List.range n))) ea_nil')) ⟨n, _, _, rfl, by rw [ofN_length, List.length_range]; omega, by rw [List.length_map, List.length_range]; exact Nat.le_trans hn60 (by decide), fun g hg => by
      obtain ⟨x, _, rfl⟩ := List.mem_map.mp hg
      simp⟩ rfl).as (by
    show Dt.bl (decide ((dTie n ((List.range n).map fun i => [i])).many = (dInts (ofN (List.range n))).ints.length ∧ (dTie n ((List.range n).map fun i => [i])).grps = gI (dInts (ofN (List.range n))).ints)) = .bl true
    rw [ints_dInts, many_dTie, grps_dTie, gI_range, ofN_length, List.length_range]
    simp)))) fun _ => et_not (a := true) (et_dB ((ed_call (ea_cons' (ed_call (ea_cons' (ed_vi rfl) ea_nil') hcnt rfl) (ea_cons' ((EvF.dd (ef_rep (EvF.dd (ef_lst (ea_cons' ed_int ea_nil') (by simp))) (ed_vi rfl) rfl (by omega))).as (d' := dInts (ofN (List.replicate n 0))) (by
      unfold dInts ofN
      rw [List.map_map, List.map_replicate]; rfl)) ea_nil')) ⟨n, _, _, rfl, by rw [ofN_length, List.length_replicate]; omega, by simp, fun g hg => by
      have : g = List.range n := List.mem_singleton.mp hg
      rw [this, List.length_range]; exact Nat.le_trans hn60 (by decide)⟩ rfl).as (by
    show Dt.bl (decide ((dTie n [List.range n]).many = (dInts (ofN (List.replicate n 0))).ints.length ∧ (dTie n [List.range n]).grps = gI (dInts (ofN (List.replicate n 0))).ints)) = .bl true
    rw [ints_dInts, many_dTie, grps_dTie, gI_zeros hn1, ofN_length, List.length_replicate]
    simp)))) (fun hb => nomatch hb) fun hb H15 e15 S15 => ?_
  refine s_retD S15 (ed_and (a := true) (b := true) (ed_call (ea_cons' ed_int ea_nil') trivial rfl) fun _ => ed_eqI ed_int ed_int) fun v16 H16 e16 r16 => ?_
  rw [r16.blI]
  exact q H16
end
end Nc

namespace Nc
open PySem PySem.Spec PyProof.Rows L2 Evl
theorem all_mk {l : PySem.W.OpenLaw} {w : World} {K : PySem.W.Frag} {h : Heap} {mg : Str → Option Value} {fa : Addr} (X : K.In h) (G : h.Ns mainGlobals mg) (hfa : mg "law" = some (.ref fa))
    {f0 : Addr} {od0 an0 : Option Addr} {sl0 : Array (Option Value)} {oc0 kV0 dc0 pm0 cd0 ct0 : Value}
    {f1 : Addr} {od1 an1 : Option Addr} {sl1 : Array (Option Value)} {oc1 kV1 dc1 pm1 cd1 ct1 : Value}
    {f2 : Addr} {od2 an2 : Option Addr} {sl2 : Array (Option Value)} {oc2 kV2 dc2 pm2 cd2 ct2 : Value}
    {f3 : Addr} {od3 an3 : Option Addr} {sl3 : Array (Option Value)} {oc3 kV3 dc3 pm3 cd3 ct3 : Value}
    {f4 : Addr} {od4 an4 : Option Addr} {sl4 : Array (Option Value)} {oc4 kV4 dc4 pm4 cd4 ct4 : Value}
    {f5 : Addr} {od5 an5 : Option Addr} {sl5 : Array (Option Value)} {oc5 kV5 dc5 pm5 cd5 ct5 : Value}
    {f6 : Addr} {od6 an6 : Option Addr} {sl6 : Array (Option Value)} {oc6 kV6 dc6 pm6 cd6 ct6 : Value}
    {f7 : Addr} {od7 an7 : Option Addr} {sl7 : Array (Option Value)} {oc7 kV7 dc7 pm7 cd7 ct7 : Value}
    {f8 : Addr} {od8 an8 : Option Addr} {sl8 : Array (Option Value)} {oc8 kV8 dc8 pm8 cd8 ct8 : Value}
    {f9 : Addr} {od9 an9 : Option Addr} {sl9 : Array (Option Value)} {oc9 kV9 dc9 pm9 cd9 ct9 : Value}
    {f10 : Addr} {od10 an10 : Option Addr} {sl10 : Array (Option Value)} {oc10 kV10 dc10 pm10 cd10 ct10 : Value}
    {f11 : Addr} {od11 an11 : Option Addr} {sl11 : Array (Option Value)} {oc11 kV11 dc11 pm11 cd11 ct11 : Value}
    {f12 : Addr} {od12 an12 : Option Addr} {sl12 : Array (Option Value)} {oc12 kV12 dc12 pm12 cd12 ct12 : Value}
    {f13 : Addr} {od13 an13 : Option Addr} {sl13 : Array (Option Value)} {oc13 kV13 dc13 pm13 cd13 ct13 : Value}
    {f14 : Addr} {od14 an14 : Option Addr} {sl14 : Array (Option Value)} {oc14 kV14 dc14 pm14 cd14 ct14 : Value}
    {f15 : Addr} {od15 an15 : Option Addr} {sl15 : Array (Option Value)} {oc15 kV15 dc15 pm15 cd15 ct15 : Value}
    {f16 : Addr} {od16 an16 : Option Addr} {sl16 : Array (Option Value)} {oc16 kV16 dc16 pm16 cd16 ct16 : Value}
    {t_MOST : Tok}
    (a0 : PySem.W.nsIn K mainGlobals "is_whole" = some (some (.ref f0))) (l0 : K.lookup f0 = some ⟨oc0, od0, .func (PySem.W.fnOf "is_whole" "is_whole" (defArgs s_is_whole) (defBody s_is_whole) (defScope s_is_whole) .none kV0 dc0 pm0 an0 cd0 ct0), sl0⟩) (c0 : PySem.W.codeIn K cd0 "is_whole" = true) (k0 : PySem.W.keepIn K (.ref f0) = true)
    (a1 : PySem.W.nsIn K mainGlobals "check_count" = some (some (.ref f1))) (l1 : K.lookup f1 = some ⟨oc1, od1, .func (PySem.W.fnOf "check_count" "check_count" (defArgs s_check_count) (defBody s_check_count) (defScope s_check_count) .none kV1 dc1 pm1 an1 cd1 ct1), sl1⟩) (c1 : PySem.W.codeIn K cd1 "check_count" = true) (k1 : PySem.W.keepIn K (.ref f1) = true)
    (a2 : PySem.W.nsIn K mainGlobals "finest" = some (some (.ref f2))) (l2 : K.lookup f2 = some ⟨oc2, od2, .func (PySem.W.fnOf "finest" "finest" (defArgs s_finest) (defBody s_finest) (defScope s_finest) .none kV2 dc2 pm2 an2 cd2 ct2), sl2⟩) (c2 : PySem.W.codeIn K cd2 "finest" = true) (k2 : PySem.W.keepIn K (.ref f2) = true)
    (a3 : PySem.W.nsIn K mainGlobals "coarsest" = some (some (.ref f3))) (l3 : K.lookup f3 = some ⟨oc3, od3, .func (PySem.W.fnOf "coarsest" "coarsest" (defArgs s_coarsest) (defBody s_coarsest) (defScope s_coarsest) .none kV3 dc3 pm3 an3 cd3 ct3), sl3⟩) (c3 : PySem.W.codeIn K cd3 "coarsest" = true) (k3 : PySem.W.keepIn K (.ref f3) = true)
    (a4 : PySem.W.nsIn K mainGlobals "group_of" = some (some (.ref f4))) (l4 : K.lookup f4 = some ⟨oc4, od4, .func (PySem.W.fnOf "group_of" "group_of" (defArgs s_group_of) (defBody s_group_of) (defScope s_group_of) .none kV4 dc4 pm4 an4 cd4 ct4), sl4⟩) (c4 : PySem.W.codeIn K cd4 "group_of" = true) (k4 : PySem.W.keepIn K (.ref f4) = true)
    (a5 : PySem.W.nsIn K mainGlobals "tied" = some (some (.ref f5))) (l5 : K.lookup f5 = some ⟨oc5, od5, .func (PySem.W.fnOf "tied" "tied" (defArgs s_tied) (defBody s_tied) (defScope s_tied) .none kV5 dc5 pm5 an5 cd5 ct5), sl5⟩) (c5 : PySem.W.codeIn K cd5 "tied" = true) (k5 : PySem.W.keepIn K (.ref f5) = true)
    (a6 : PySem.W.nsIn K mainGlobals "leaders" = some (some (.ref f6))) (l6 : K.lookup f6 = some ⟨oc6, od6, .func (PySem.W.fnOf "leaders" "leaders" (defArgs s_leaders) (defBody s_leaders) (defScope s_leaders) .none kV6 dc6 pm6 an6 cd6 ct6), sl6⟩) (c6 : PySem.W.codeIn K cd6 "leaders" = true) (k6 : PySem.W.keepIn K (.ref f6) = true)
    (a7 : PySem.W.nsIn K mainGlobals "_law_cell_at" = some (some (.ref f7))) (l7 : K.lookup f7 = some ⟨oc7, od7, .func (PySem.W.fnOf "_law_cell_at" "_law_cell_at" (defArgs s_l_cell_at) (defBody s_l_cell_at) (defScope s_l_cell_at) .none kV7 dc7 pm7 an7 cd7 ct7), sl7⟩) (c7 : PySem.W.codeIn K cd7 "_law_cell_at" = true) (k7 : PySem.W.keepIn K (.ref f7) = true)
    (a8 : PySem.W.nsIn K mainGlobals "_law_whole" = some (some (.ref f8))) (l8 : K.lookup f8 = some ⟨oc8, od8, .func (PySem.W.fnOf "_law_whole" "_law_whole" (defArgs s_l_whole) (defBody s_l_whole) (defScope s_l_whole) .none kV8 dc8 pm8 an8 cd8 ct8), sl8⟩) (c8 : PySem.W.codeIn K cd8 "_law_whole" = true) (k8 : PySem.W.keepIn K (.ref f8) = true)
    (a9 : PySem.W.nsIn K mainGlobals "_law_count" = some (some (.ref f9))) (l9 : K.lookup f9 = some ⟨oc9, od9, .func (PySem.W.fnOf "_law_count" "_law_count" (defArgs s_l_count) (defBody s_l_count) (defScope s_l_count) .none kV9 dc9 pm9 an9 cd9 ct9), sl9⟩) (c9 : PySem.W.codeIn K cd9 "_law_count" = true) (k9 : PySem.W.keepIn K (.ref f9) = true)
    (a10 : PySem.W.nsIn K mainGlobals "_law_labels" = some (some (.ref f10))) (l10 : K.lookup f10 = some ⟨oc10, od10, .func (PySem.W.fnOf "_law_labels" "_law_labels" (defArgs s_l_labels) (defBody s_l_labels) (defScope s_l_labels) .none kV10 dc10 pm10 an10 cd10 ct10), sl10⟩) (c10 : PySem.W.codeIn K cd10 "_law_labels" = true) (k10 : PySem.W.keepIn K (.ref f10) = true)
    (a11 : PySem.W.nsIn K mainGlobals "_law_groups" = some (some (.ref f11))) (l11 : K.lookup f11 = some ⟨oc11, od11, .func (PySem.W.fnOf "_law_groups" "_law_groups" (defArgs s_l_groups) (defBody s_l_groups) (defScope s_l_groups) .none kV11 dc11 pm11 an11 cd11 ct11), sl11⟩) (c11 : PySem.W.codeIn K cd11 "_law_groups" = true) (k11 : PySem.W.keepIn K (.ref f11) = true)
    (a12 : PySem.W.nsIn K mainGlobals "_law_is" = some (some (.ref f12))) (l12 : K.lookup f12 = some ⟨oc12, od12, .func (PySem.W.fnOf "_law_is" "_law_is" (defArgs s_l_is) (defBody s_l_is) (defScope s_l_is) .none kV12 dc12 pm12 an12 cd12 ct12), sl12⟩) (c12 : PySem.W.codeIn K cd12 "_law_is" = true) (k12 : PySem.W.keepIn K (.ref f12) = true)
    (a13 : PySem.W.nsIn K mainGlobals "_law_tie" = some (some (.ref f13))) (l13 : K.lookup f13 = some ⟨oc13, od13, .func (PySem.W.fnOf "_law_tie" "_law_tie" (defArgs s_l_tie) (defBody s_l_tie) (defScope s_l_tie) .none kV13 dc13 pm13 an13 cd13 ct13), sl13⟩) (c13 : PySem.W.codeIn K cd13 "_law_tie" = true) (k13 : PySem.W.keepIn K (.ref f13) = true)
    (a14 : PySem.W.nsIn K mainGlobals "_law_listed" = some (some (.ref f14))) (l14 : K.lookup f14 = some ⟨oc14, od14, .func (PySem.W.fnOf "_law_listed" "_law_listed" (defArgs s_l_listed) (defBody s_l_listed) (defScope s_l_listed) .none kV14 dc14 pm14 an14 cd14 ct14), sl14⟩) (c14 : PySem.W.codeIn K cd14 "_law_listed" = true) (k14 : PySem.W.keepIn K (.ref f14) = true)
    (a15 : PySem.W.nsIn K mainGlobals "_law_truth" = some (some (.ref f15))) (l15 : K.lookup f15 = some ⟨oc15, od15, .func (PySem.W.fnOf "_law_truth" "_law_truth" (defArgs s_l_truth) (defBody s_l_truth) (defScope s_l_truth) .none kV15 dc15 pm15 an15 cd15 ct15), sl15⟩) (c15 : PySem.W.codeIn K cd15 "_law_truth" = true) (k15 : PySem.W.keepIn K (.ref f15) = true)
    (a16 : PySem.W.nsIn K mainGlobals "law" = some (some (.ref f16))) (l16 : K.lookup f16 = some ⟨oc16, od16, .func (PySem.W.fnOf "law" "law" (defArgs s_law) (defBody s_law) (defScope s_law) .none kV16 dc16 pm16 an16 cd16 ct16), sl16⟩) (c16 : PySem.W.codeIn K cd16 "law" = true) (k16 : PySem.W.keepIn K (.ref f16) = true)
    (a_MOST : PySem.W.nsIn K mainGlobals "MOST" = some (some (.int 60 t_MOST)))
    (z_len : PySem.W.nsIn K mainGlobals "len" = some none)
    (z_range : PySem.W.nsIn K mainGlobals "range" = some none)
    (z_tuple : PySem.W.nsIn K mainGlobals "tuple" = some none)
    (z_list : PySem.W.nsIn K mainGlobals "list" = some none)
    (z_isinstance : PySem.W.nsIn K mainGlobals "isinstance" = some none)
    (z_int : PySem.W.nsIn K mainGlobals "int" = some none)
    (z_bool : PySem.W.nsIn K mainGlobals "bool" = some none)
    (z_str : PySem.W.nsIn K mainGlobals "str" = some none)
    (z_enumerate : PySem.W.nsIn K mainGlobals "enumerate" = some none)
    (z_zip : PySem.W.nsIn K mainGlobals "zip" = some none)
    (z_sorted : PySem.W.nsIn K mainGlobals "sorted" = some none)
    (z_sum : PySem.W.nsIn K mainGlobals "sum" = some none)
    (z_min : PySem.W.nsIn K mainGlobals "min" = some none)
    (z_max : PySem.W.nsIn K mainGlobals "max" = some none)
    (z_all : PySem.W.nsIn K mainGlobals "all" = some none)
    (z_any : PySem.W.nsIn K mainGlobals "any" = some none) :
    ∃ fd : FuncData, (∀ (s : Shared) (v : Value), BindsTo s fd ⟨[v], []⟩ [("_law_script", v)]) ∧ ∀ base : Heap, K.In base → base.Ns mainGlobals mg → FnOk l.prog w K mg base CX0 4 fa fd ["_law_script"] (sp_law K) := by
  have e := hfa.symm.trans (PySem.W.mg_of X G a16)
  cases e
  have B : Blt mg := ⟨PySem.W.mg_none_of X G z_len, PySem.W.mg_none_of X G z_range, PySem.W.mg_none_of X G z_tuple, PySem.W.mg_none_of X G z_list, PySem.W.mg_none_of X G z_isinstance, PySem.W.mg_none_of X G z_int, PySem.W.mg_none_of X G z_bool, PySem.W.mg_none_of X G z_str, PySem.W.mg_none_of X G z_enumerate, PySem.W.mg_none_of X G z_zip, PySem.W.mg_none_of X G z_sorted, PySem.W.mg_none_of X G z_sum, PySem.W.mg_none_of X G z_min, PySem.W.mg_none_of X G z_max, PySem.W.mg_none_of X G z_all, PySem.W.mg_none_of X G z_any⟩
  have F0 := fun_mk (st := s_is_whole) l0 c0 k0
  have F1 := fun_mk (st := s_check_count) l1 c1 k1
  have F2 := fun_mk (st := s_finest) l2 c2 k2
  have F3 := fun_mk (st := s_coarsest) l3 c3 k3
  have F4 := fun_mk (st := s_group_of) l4 c4 k4
  have F5 := fun_mk (st := s_tied) l5 c5 k5
  have F6 := fun_mk (st := s_leaders) l6 c6 k6
  have F7 := fun_mk (st := s_l_cell_at) l7 c7 k7
  have F8 := fun_mk (st := s_l_whole) l8 c8 k8
  have F9 := fun_mk (st := s_l_count) l9 c9 k9
  have F10 := fun_mk (st := s_l_labels) l10 c10 k10
  have F11 := fun_mk (st := s_l_groups) l11 c11 k11
  have F12 := fun_mk (st := s_l_is) l12 c12 k12
  have F13 := fun_mk (st := s_l_tie) l13 c13 k13
  have F14 := fun_mk (st := s_l_listed) l14 c14 k14
  have F15 := fun_mk (st := s_l_truth) l15 c15 k15
  have F16 := fun_mk (st := s_law) l16 c16 k16
  refine ⟨PySem.W.fnOf "law" "law" (defArgs s_law) (defBody s_law) (defScope s_law) .none kV16 dc16 pm16 an16 cd16 ct16, fun s v => .of_eq rfl, fun base _ _ => ?_⟩
  have C_is_whole : Callee l.prog w K mg base CX0 1 "is_whole" ["value"] sp_is_whole := ⟨_, _, ok_is_whole F0 B , PySem.W.mg_of X G a0, k0, F0.binds (ps := ["value"]) fun _ _ _ _ _ _ us hl => match us, hl with | [_], _ => rfl⟩
  have C_check_count : Callee l.prog w K mg base CX0 2 "check_count" ["many"] sp_check_count := ⟨_, _, ok_check_count F1 B (g_MOST := (PySem.W.mg_of X G a_MOST)) (C_is_whole := C_is_whole), PySem.W.mg_of X G a1, k1, F1.binds (ps := ["many"]) fun _ _ _ _ _ _ us hl => match us, hl with | [_], _ => rfl⟩
  have C_finest : Callee l.prog w K mg base CX0 3 "finest" ["many"] sp_finest := ⟨_, _, ok_finest F2 B (C_check_count := C_check_count), PySem.W.mg_of X G a2, k2, F2.binds (ps := ["many"]) fun _ _ _ _ _ _ us hl => match us, hl with | [_], _ => rfl⟩
  have C_coarsest : Callee l.prog w K mg base CX0 3 "coarsest" ["many"] sp_coarsest := ⟨_, _, ok_coarsest F3 B (C_check_count := C_check_count), PySem.W.mg_of X G a3, k3, F3.binds (ps := ["many"]) fun _ _ _ _ _ _ us hl => match us, hl with | [_], _ => rfl⟩
  have C_group_of : Callee l.prog w K mg base CX0 2 "group_of" ["tie", "place"] sp_group_of := ⟨_, _, ok_group_of F4 B (C_is_whole := C_is_whole), PySem.W.mg_of X G a4, k4, F4.binds (ps := ["tie", "place"]) fun _ _ _ _ _ _ us hl => match us, hl with | [_, _], _ => rfl⟩
  have C_tied : Callee l.prog w K mg base CX0 3 "tied" ["tie", "one", "other"] sp_tied := ⟨_, _, ok_tied F5 B (C_group_of := C_group_of), PySem.W.mg_of X G a5, k5, F5.binds (ps := ["tie", "one", "other"]) fun _ _ _ _ _ _ us hl => match us, hl with | [_, _, _], _ => rfl⟩
  have C_leaders : Callee l.prog w K mg base CX0 1 "leaders" ["tie"] sp_leaders := ⟨_, _, ok_leaders F6 B , PySem.W.mg_of X G a6, k6, F6.binds (ps := ["tie"]) fun _ _ _ _ _ _ us hl => match us, hl with | [_], _ => rfl⟩
  have C_l_cell_at : Callee l.prog w K mg base CX0 1 "_law_cell_at" ["_law_script", "_law_k"] (sp_l_cell_at K) := ⟨_, _, ok_l_cell_at F7 B , PySem.W.mg_of X G a7, k7, F7.binds (ps := ["_law_script", "_law_k"]) fun _ _ _ _ _ _ us hl => match us, hl with | [_, _], _ => rfl⟩
  have C_l_whole : Callee l.prog w K mg base CX0 1 "_law_whole" ["_law_found"] sp_l_whole := ⟨_, _, ok_l_whole F8 B , PySem.W.mg_of X G a8, k8, F8.binds (ps := ["_law_found"]) fun _ _ _ _ _ _ us hl => match us, hl with | [_], _ => rfl⟩
  have C_l_count : Callee l.prog w K mg base CX0 1 "_law_count" ["_law_cell"] sp_l_count := ⟨_, _, ok_l_count F9 B , PySem.W.mg_of X G a9, k9, F9.binds (ps := ["_law_cell"]) fun _ _ _ _ _ _ us hl => match us, hl with | [_], _ => rfl⟩
  have C_l_labels : Callee l.prog w K mg base CX0 1 "_law_labels" ["_law_many", "_law_cell", "_law_other"] sp_l_labels := ⟨_, _, ok_l_labels F10 B , PySem.W.mg_of X G a10, k10, F10.binds (ps := ["_law_many", "_law_cell", "_law_other"]) fun _ _ _ _ _ _ us hl => match us, hl with | [_, _, _], _ => rfl⟩
  have C_l_groups : Callee l.prog w K mg base CX0 1 "_law_groups" ["_law_labels_here"] sp_l_groups := ⟨_, _, ok_l_groups F11 B , PySem.W.mg_of X G a11, k11, F11.binds (ps := ["_law_labels_here"]) fun _ _ _ _ _ _ us hl => match us, hl with | [_], _ => rfl⟩
  have C_l_is : Callee l.prog w K mg base CX0 2 "_law_is" ["_law_found", "_law_labels_here"] sp_l_is := ⟨_, _, ok_l_is F12 B (C_l_groups := C_l_groups) (C_l_whole := C_l_whole), PySem.W.mg_of X G a12, k12, F12.binds (ps := ["_law_found", "_law_labels_here"]) fun _ _ _ _ _ _ us hl => match us, hl with | [_, _], _ => rfl⟩
  have C_l_tie : Callee l.prog w K mg base CX0 2 "_law_tie" ["_law_labels_here"] sp_l_tie := ⟨_, _, ok_l_tie F13 B (C_l_groups := C_l_groups), PySem.W.mg_of X G a13, k13, F13.binds (ps := ["_law_labels_here"]) fun _ _ _ _ _ _ us hl => match us, hl with | [_], _ => rfl⟩
  have C_l_listed : Callee l.prog w K mg base CX0 2 "_law_listed" ["_law_found", "_law_due"] sp_l_listed := ⟨_, _, ok_l_listed F14 B (C_l_whole := C_l_whole), PySem.W.mg_of X G a14, k14, F14.binds (ps := ["_law_found", "_law_due"]) fun _ _ _ _ _ _ us hl => match us, hl with | [_, _], _ => rfl⟩
  have C_l_truth : Callee l.prog w K mg base CX0 1 "_law_truth" ["_law_found", "_law_due"] sp_l_truth := ⟨_, _, ok_l_truth F15 B , PySem.W.mg_of X G a15, k15, F15.binds (ps := ["_law_found", "_law_due"]) fun _ _ _ _ _ _ us hl => match us, hl with | [_, _], _ => rfl⟩
  exact ok_law F16 B (g_MOST := (PySem.W.mg_of X G a_MOST)) (C_finest := C_finest) (C_coarsest := C_coarsest) (C_group_of := C_group_of) (C_tied := C_tied) (C_leaders := C_leaders) (C_l_cell_at := C_l_cell_at) (C_l_whole := C_l_whole) (C_l_count := C_l_count) (C_l_labels := C_l_labels) (C_l_is := C_l_is) (C_l_tie := C_l_tie) (C_l_listed := C_l_listed) (C_l_truth := C_l_truth)
end Nc
open PySem PySem.W PyProof.Rows
set_option maxRecDepth 100000 in
set_option maxHeartbeats 0 in
theorem PySem.Challenge.cw_nocross_k01_leaders_holds : PySem.Challenge.rw_nocross_k01_leaders.Holds := by
  w_on; o_law; k_head; (case hw => w_witness2)
  k_fill
  refine L2.walk_of (l := PySem.Challenge.rw_nocross_k01_leaders) (n := 63) (k := 4) (x := "_law_script") (CX := fun w => L2.CX0) (sp := fun w => Nc.sp_law _) rfl (by decide) rfl ⟨rfl, by decide, by decide⟩ (fun w h Y => PySem.W.kIn_of Y) ?F (fun _ _ a ns hl _ hS => ⟨a, ns, rfl, hS, fun _ => rfl⟩) (fun _ _ _ _ _ h => h)
  case F =>
    intro w mg fa h KX G hmg
    refine' Nc.all_mk KX G hmg ?a0 ?l0 ?c0 ?k0 ?a1 ?l1 ?c1 ?k1 ?a2 ?l2 ?c2 ?k2 ?a3 ?l3 ?c3 ?k3 ?a4 ?l4 ?c4 ?k4 ?a5 ?l5 ?c5 ?k5 ?a6 ?l6 ?c6 ?k6 ?a7 ?l7 ?c7 ?k7 ?a8 ?l8 ?c8 ?k8 ?a9 ?l9 ?c9 ?k9 ?a10 ?l10 ?c10 ?k10 ?a11 ?l11 ?c11 ?k11 ?a12 ?l12 ?c12 ?k12 ?a13 ?l13 ?c13 ?k13 ?a14 ?l14 ?c14 ?k14 ?a15 ?l15 ?c15 ?k15 ?a16 ?l16 ?c16 ?k16 ?a_MOST ?z_len ?z_range ?z_tuple ?z_list ?z_isinstance ?z_int ?z_bool ?z_str ?z_enumerate ?z_zip ?z_sorted ?z_sum ?z_min ?z_max ?z_all ?z_any
    (case a0 => k_is); (case l0 => k_is); (case c0 => k_is); (case k0 => k_is); (case a1 => k_is); (case l1 => k_is); (case c1 => k_is); (case k1 => k_is); (case a2 => k_is); (case l2 => k_is); (case c2 => k_is); (case k2 => k_is); (case a3 => k_is); (case l3 => k_is); (case c3 => k_is); (case k3 => k_is); (case a4 => k_is); (case l4 => k_is); (case c4 => k_is); (case k4 => k_is); (case a5 => k_is); (case l5 => k_is); (case c5 => k_is); (case k5 => k_is); (case a6 => k_is); (case l6 => k_is); (case c6 => k_is); (case k6 => k_is); (case a7 => k_is); (case l7 => k_is); (case c7 => k_is); (case k7 => k_is); (case a8 => k_is); (case l8 => k_is); (case c8 => k_is); (case k8 => k_is); (case a9 => k_is); (case l9 => k_is); (case c9 => k_is); (case k9 => k_is); (case a10 => k_is); (case l10 => k_is); (case c10 => k_is); (case k10 => k_is); (case a11 => k_is); (case l11 => k_is); (case c11 => k_is); (case k11 => k_is); (case a12 => k_is); (case l12 => k_is); (case c12 => k_is); (case k12 => k_is); (case a13 => k_is); (case l13 => k_is); (case c13 => k_is); (case k13 => k_is); (case a14 => k_is); (case l14 => k_is); (case c14 => k_is); (case k14 => k_is); (case a15 => k_is); (case l15 => k_is); (case c15 => k_is); (case k15 => k_is); (case a16 => k_is); (case l16 => k_is); (case c16 => k_is); (case k16 => k_is); (case a_MOST => k_is); (case z_len => k_is); (case z_range => k_is); (case z_tuple => k_is); (case z_list => k_is); (case z_isinstance => k_is); (case z_int => k_is); (case z_bool => k_is); (case z_str => k_is); (case z_enumerate => k_is); (case z_zip => k_is); (case z_sorted => k_is); (case z_sum => k_is); (case z_min => k_is); (case z_max => k_is); (case z_all => k_is); (case z_any => k_is)
