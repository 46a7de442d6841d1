import PyProof.Rows.All
import Wide.All
import OpenK.AllK
import Wide.FinOn
import HandS.ForMost
import HandS.Evl
import HandS.IsInst
import HandS.Conv
import HandS.ForExc
import HandS.Small
import HandS.FStr
import HandS.Sort
import HandS.SortOrd
import HandS.SortRule
import HandS.SortInts
import HandS.DictComp
import HandS.Walk
import HandS.Iter
import KE.GoesEnum
import HandS.More
import HandS.TryOnly
import HandS.ExcIs
import HandS.TupAny
import HandS.Deep
import HandS.ExcBuiltin
import KE.DataFind
import PyProof.Conv_int_bool
import HandS.SetKeys
import HandS.Style
import PyProof.SumWalkG
import PyProof.ListOps
import HandS.ExcValue
import HandS.Gcd
import KE.KMathGC
import HandS.AnyAll
import HandS.EndTab
import KE.GoesZip
import KE.GoesMore
import KE.KDictZip
import HandS.Zip
import HandS.EndOwn
import HandS.List
import PyProof.GenCompD
import PyProof.SumAny
import PyProof.Rows.GenSrcRange
import KE.DatumOrd
import PySem.Challenge.RW_nocross_k14_whole_numbers
set_option autoImplicit false
set_option Elab.async false
set_option linter.all false
set_option maxRecDepth 100000
set_option maxHeartbeats 4000000
namespace Nc

/-! ### groups of a labelling -/
section
variable {α : Type} [DecidableEq α]
def firstB (f : Nat → α) (i : Nat) : Bool := (List.range i).all fun j => decide (f j ≠ f i)
def grp (f : Nat → α) (n i : Nat) : List Nat := (List.range n).filter fun j => decide (f j = f i)
def groupsOf (f : Nat → α) (n : Nat) : List (List Nat) := ((List.range n).filter (firstB f)).map (grp f n)

theorem firstB_iff {f : Nat → α} {i : Nat} : firstB f i = true ↔ ∀ j, j < i → f j ≠ f i := by
  unfold firstB
  simp [List.all_eq_true]
theorem mem_grp {f : Nat → α} {n i j : Nat} : j ∈ grp f n i ↔ j < n ∧ f j = f i := by
  unfold grp
  simp [List.mem_filter]
theorem grp_congr {f : Nat → α} {n i j : Nat} (h : f i = f j) : grp f n i = grp f n j := by
  unfold grp
  rw [h]
theorem first_ex (f : Nat → α) : ∀ i, ∃ j, j ≤ i ∧ f j = f i ∧ firstB f j = true := by
  intro i
  induction i using Nat.strongRecOn with
  | ind i ih =>
    by_cases h : firstB f i = true
    · exact ⟨i, Nat.le_refl _, rfl, h⟩
    · have : ∃ j, j < i ∧ f j = f i := by
        apply Classical.byContradiction
        intro hn
        apply h
        rw [firstB_iff]
        intro j hj e
        exact hn ⟨j, hj, e⟩
      obtain ⟨j, hj, e⟩ := this
      obtain ⟨k, h1, h2, h3⟩ := ih j hj
      exact ⟨k, by omega, h2.trans e, h3⟩
theorem mem_groups {f : Nat → α} {n : Nat} {g : List Nat} : g ∈ groupsOf f n ↔ ∃ i, i < n ∧ firstB f i = true ∧ g = grp f n i := by
  unfold groupsOf
  simp only [List.mem_map, List.mem_filter, List.mem_range]
  constructor
  · rintro ⟨i, ⟨h1, h2⟩, h3⟩
    exact ⟨i, h1, h2, h3.symm⟩
  · rintro ⟨i, h1, h2, h3⟩
    exact ⟨i, ⟨h1, h2⟩, h3.symm⟩
theorem grp_mem {f : Nat → α} {n i : Nat} (h : i < n) : grp f n i ∈ groupsOf f n := by
  obtain ⟨j, h1, h2, h3⟩ := first_ex f i
  exact mem_groups.mpr ⟨j, by omega, h3, (grp_congr h2).symm⟩
/-- the group that has i -/
theorem group_at {f : Nat → α} {n i : Nat} {g : List Nat} (hg : g ∈ groupsOf f n) (hi : i ∈ g) : g = grp f n i := by
  obtain ⟨j, h1, h2, rfl⟩ := mem_groups.mp hg
  exact grp_congr (mem_grp.mp hi).2.symm
theorem grp_length {f : Nat → α} {n i : Nat} : (grp f n i).length ≤ n := by
  unfold grp
  refine Nat.le_trans (List.length_filter_le _ _) ?_
  simp
theorem groups_length {f : Nat → α} {n : Nat} : (groupsOf f n).length ≤ n := by
  unfold groupsOf
  rw [List.length_map]
  refine Nat.le_trans (List.length_filter_le _ _) ?_
  simp
theorem grp_sorted {f : Nat → α} {n i : Nat} : (grp f n i).Pairwise (· < ·) := by
  unfold grp
  exact List.Pairwise.filter _ (List.pairwise_lt_range)
/-- the first of a group -/
theorem sorted_head {l : List Nat} {a : Nat} (hs : l.Pairwise (· < ·)) (ha : a ∈ l) (h : ∀ x ∈ l, a ≤ x) : l.head? = some a := by
  cases l with
  | nil => simp at ha
  | cons b r =>
    have h1 := h b (by simp)
    rcases List.mem_cons.mp ha with e | e
    · rw [e]; rfl
    · have h2 := (List.pairwise_cons.mp hs).1 a e
      omega
theorem grp_head {f : Nat → α} {n i : Nat} (hi : i < n) (hf : firstB f i = true) : (grp f n i).head? = some i := by
  refine sorted_head grp_sorted (mem_grp.mpr ⟨hi, rfl⟩) fun x hx => ?_
  have h1 := (mem_grp.mp hx).2
  have h2 := firstB_iff.mp hf
  rcases Nat.lt_or_ge x i with c | c
  · exact absurd h1 (h2 x c)
  · exact c
end
theorem firstB_congr {α β : Type} [DecidableEq α] [DecidableEq β] {f : Nat → α} {g : Nat → β} {n : Nat} (h : ∀ i j, i < n → j < n → (f i = f j ↔ g i = g j)) {i : Nat} (hi : i < n) : firstB f i = firstB g i := by
  rw [Bool.eq_iff_iff, firstB_iff, firstB_iff]
  constructor
  · intro q j hj e
    exact q j hj ((h j i (by omega) hi).mpr e)
  · intro q j hj e
    exact q j hj ((h j i (by omega) hi).mp e)
theorem grp_same {α β : Type} [DecidableEq α] [DecidableEq β] {f : Nat → α} {g : Nat → β} {n : Nat} (h : ∀ i j, i < n → j < n → (f i = f j ↔ g i = g j)) {i : Nat} (hi : i < n) : grp f n i = grp g n i := by
  unfold grp
  refine List.filter_congr fun j hj => ?_
  have hj' := List.mem_range.mp hj
  simp only [decide_eq_decide]
  exact h j i hj' hi
/-- groups hang on which places are alike -/
theorem groups_congr {α β : Type} [DecidableEq α] [DecidableEq β] {f : Nat → α} {g : Nat → β} {n : Nat} (h : ∀ i j, i < n → j < n → (f i = f j ↔ g i = g j)) : groupsOf f n = groupsOf g n := by
  unfold groupsOf
  have e : (List.range n).filter (firstB f) = (List.range n).filter (firstB g) :=
    List.filter_congr fun i hi => firstB_congr h (List.mem_range.mp hi)
  rw [e]
  refine List.map_congr_left fun i hi => ?_
  exact grp_same h (List.mem_range.mp (List.mem_filter.mp hi).1)

/-! ### a list of labels, read as a labelling -/
def lb (L : List Nat) : Nat → Nat := fun i => L.getD i 0

/-! ### leaders that nest -/
structure Lead (L : List Nat) : Prop where
  le : ∀ i, i < L.length → lb L i ≤ i
  fix : ∀ i, i < L.length → lb L (lb L i) = lb L i
  nest : ∀ i b, i < L.length → lb L i ≤ b → b ≤ i → lb L i ≤ lb L b
/-- the stack of open groups -/
structure Open (L S : List Nat) : Prop where
  lt : ∀ s ∈ S, s < L.length
  fix : ∀ s ∈ S, lb L s = s
  inc : S.Pairwise (· < ·)
  over : ∀ s ∈ S, ∀ b, b < L.length → s ≤ b → s ≤ lb L b
theorem lb_old {L : List Nat} {x i : Nat} (h : i < L.length) : lb (L ++ [x]) i = lb L i := by
  unfold lb
  rw [List.getD_eq_getElem?_getD, List.getD_eq_getElem?_getD, List.getElem?_append_left h]
theorem lb_new {L : List Nat} {x : Nat} : lb (L ++ [x]) L.length = x := by
  unfold lb
  rw [List.getD_eq_getElem?_getD, List.getElem?_append_right (Nat.le_refl _)]
  simp
theorem lead_nil : Lead [] := ⟨fun _ h => absurd h (Nat.not_lt_zero _), fun _ h => absurd h (Nat.not_lt_zero _), fun _ _ h => absurd h (Nat.not_lt_zero _)⟩
theorem open_nil : Open [] [] := ⟨fun s h => by simp at h, fun s h => by simp at h, .nil, fun s h => by simp at h⟩
theorem lead_step {L S : List Nat} {x : Nat} (h : Lead L) (o : Open L S) (hx : x ∈ S ∨ x = L.length) : Lead (L ++ [x]) := by
  have hxl : x ≤ L.length := by
    rcases hx with hx | hx
    · exact Nat.le_of_lt (o.lt x hx)
    · omega
  have hsplit : ∀ i, i < (L ++ [x]).length → i < L.length ∨ i = L.length := fun i hi => by
    rw [List.length_append] at hi
    simp at hi
    omega
  refine ⟨fun i hi => ?_, fun i hi => ?_, fun i b hi h1 h2 => ?_⟩
  · rcases hsplit i hi with c | c
    · rw [lb_old c]; exact h.le i c
    · rw [c, lb_new]; exact hxl
  · rcases hsplit i hi with c | c
    · have := h.le i c
      rw [lb_old c, lb_old (by omega)]; exact h.fix i c
    · rw [c, lb_new]
      rcases hx with hx | hx
      · rw [lb_old (o.lt x hx)]; exact o.fix x hx
      · rw [hx, lb_new]
  · rcases hsplit i hi with c | c
    · rw [lb_old c] at h1 ⊢
      rw [lb_old (by omega)]
      exact h.nest i b c h1 h2
    · rw [c, lb_new] at h1 ⊢
      rw [c] at h2
      rcases Nat.lt_or_ge b L.length with d | d
      · rw [lb_old d]
        rcases hx with hx | hx
        · exact o.over x hx b d h1
        · omega
      · have e : b = L.length := by omega
        rw [e, lb_new]; exact Nat.le_refl _
theorem open_new {L S : List Nat} (o : Open L S) : Open (L ++ [L.length]) (S ++ [L.length]) := by
  have hlen : (L ++ [L.length]).length = L.length + 1 := by simp
  refine ⟨fun s hs => ?_, fun s hs => ?_, ?_, fun s hs b hb hsb => ?_⟩
  · rw [hlen]
    rcases List.mem_append.mp hs with c | c
    · have := o.lt s c; omega
    · simp at c; omega
  · rcases List.mem_append.mp hs with c | c
    · rw [lb_old (o.lt s c)]; exact o.fix s c
    · simp at c; rw [c, lb_new]
  · rw [List.pairwise_append]
    refine ⟨o.inc, by simp, fun a ha b hb => ?_⟩
    simp at hb
    have := o.lt a ha
    omega
  · rw [hlen] at hb
    rcases Nat.lt_or_ge b L.length with d | d
    · rw [lb_old d]
      rcases List.mem_append.mp hs with c | c
      · exact o.over s c b d hsb
      · simp at c; omega
    · have e : b = L.length := by omega
      rw [e, lb_new]; omega
theorem open_old {L S : List Nat} {k : Nat} (hk : 0 < k) (hkl : k ≤ S.length) (o : Open L S) : Open (L ++ [S.getD (k - 1) 0]) (S.take k) := by
  have hlen : ∀ x, (L ++ [x]).length = L.length + 1 := fun x => by simp
  have hx : S.getD (k - 1) 0 ∈ S.take k := by
    rw [List.getD_eq_getElem?_getD, List.getElem?_eq_getElem (show k - 1 < S.length by omega)]
    simp only [Option.getD_some]
    rw [List.mem_take_iff_getElem]
    exact ⟨k - 1, by omega, rfl⟩
  have hsub : ∀ s, s ∈ S.take k → s ∈ S := fun s h => List.mem_of_mem_take h
  have hmax : ∀ s ∈ S.take k, s ≤ S.getD (k - 1) 0 := fun s hs => by
    rw [List.mem_take_iff_getElem] at hs
    obtain ⟨j, hj, rfl⟩ := hs
    rw [List.getD_eq_getElem?_getD, List.getElem?_eq_getElem (show k - 1 < S.length by omega)]
    simp only [Option.getD_some]
    rcases Nat.lt_or_ge j (k - 1) with c | c
    · exact Nat.le_of_lt (List.pairwise_iff_getElem.mp o.inc j (k - 1) (by omega) (by omega) c)
    · have e : j = k - 1 := by omega
      subst e
      exact Nat.le_refl _
  refine ⟨fun s hs => ?_, fun s hs => ?_, ?_, fun s hs b hb hsb => ?_⟩
  · rw [hlen]
    have := o.lt s (hsub s hs)
    omega
  · rw [lb_old (o.lt s (hsub s hs))]; exact o.fix s (hsub s hs)
  · exact List.Pairwise.sublist (List.take_sublist _ _) o.inc
  · rw [hlen] at hb
    rcases Nat.lt_or_ge b L.length with d | d
    · rw [lb_old d]; exact o.over s (hsub s hs) b d hsb
    · have e : b = L.length := by omega
      rw [e, lb_new]; exact hmax s hs
/-- no two groups cross -/
theorem Lead.apart {L : List Nat} (h : Lead L) {a b c d : Nat} (hab : a < b) (hbc : b < c) (hcd : c < d) (hd : d < L.length) (e1 : lb L a = lb L c) (e2 : lb L b = lb L d) : lb L a = lb L b := by
  have ha := h.le a (by omega)
  have hb := h.le b (by omega)
  have q1 := h.nest c b (by omega) (by omega) (by omega)
  have q2 := h.nest d c (by omega) (by omega) (by omega)
  omega
theorem Lead.first {L : List Nat} (h : Lead L) {i : Nat} (hi : i < L.length) : firstB (lb L) i = decide (lb L i = i) := by
  rw [Bool.eq_iff_iff, firstB_iff, decide_eq_true_iff]
  constructor
  · intro q
    have h1 := h.le i hi
    have h2 := h.fix i hi
    rcases Nat.lt_or_ge (lb L i) i with c | c
    · exact absurd h2 (q _ c)
    · omega
  · intro e j hj z
    have h1 := h.le j (by omega)
    omega
theorem Lead.head {L : List Nat} (h : Lead L) {i : Nat} (hi : i < L.length) : (grp (lb L) L.length i).head? = some (lb L i) := by
  have h1 := h.le i hi
  have h2 := h.fix i hi
  rw [grp_congr h2.symm]
  refine grp_head (by omega) ?_
  rw [h.first (by omega), decide_eq_true_iff]
  exact h2

/-! ### leaders told from groups -/
def setAll (a : List Nat) (g : List Nat) (h : Nat) : List Nat := g.foldl (fun a p => a.set p h) a
def leadersM (n : Nat) (gs : List (List Nat)) : List Nat := gs.foldl (fun a g => setAll a g (g.headD 0)) (List.replicate n 0)
theorem setAll_length : ∀ (g a : List Nat) (h : Nat), (setAll a g h).length = a.length
  | [], _, _ => rfl
  | p :: g, a, h => by
    show (setAll (a.set p h) g h).length = a.length
    rw [setAll_length g, List.length_set]
theorem setAll_out : ∀ (g a : List Nat) (h p : Nat), p ∉ g → (setAll a g h)[p]? = a[p]?
  | [], _, _, _, _ => rfl
  | q :: g, a, h, p, hp => by
    show (setAll (a.set q h) g h)[p]? = a[p]?
    simp only [List.mem_cons, not_or] at hp
    rw [setAll_out g _ h p hp.2, List.getElem?_set_ne (Ne.symm hp.1)]
theorem setAll_in : ∀ (g a : List Nat) (h p : Nat), p ∈ g → p < a.length → (setAll a g h)[p]? = some h
  | [], _, _, _, hp, _ => by simp at hp
  | q :: g, a, h, p, hp, hl => by
    show (setAll (a.set q h) g h)[p]? = some h
    by_cases c : p ∈ g
    · exact setAll_in g _ h p c (by rw [List.length_set]; exact hl)
    · rw [setAll_out g _ h p c]
      rcases List.mem_cons.mp hp with e | e
      · rw [e, List.getElem?_set_self (by rw [← e]; exact hl)]
      · exact absurd e c
theorem leadersM_length (n : Nat) (gs : List (List Nat)) : (leadersM n gs).length = n := by
  have key : ∀ (gs : List (List Nat)) (a : List Nat), (gs.foldl (fun a g => setAll a g (g.headD 0)) a).length = a.length := by
    intro gs
    induction gs with
    | nil => intro a; rfl
    | cons g r ih => intro a; rw [List.foldl_cons, ih, setAll_length]
  unfold leadersM
  rw [key, List.length_replicate]
theorem leaders_at {gs : List (List Nat)} {p h : Nat} : ∀ (a : List Nat), p < a.length → (∀ g ∈ gs, p ∈ g → g.headD 0 = h) → ((∃ g ∈ gs, p ∈ g) ∨ a[p]? = some h) → (gs.foldl (fun a g => setAll a g (g.headD 0)) a)[p]? = some h := by
  induction gs with
  | nil => intro a _ _ q; rcases q with ⟨g, hg, _⟩ | q; (· simp at hg); exact q
  | cons g r ih =>
    intro a hl hh q
    rw [List.foldl_cons]
    refine ih _ (by rw [setAll_length]; exact hl) (fun g' h1 h2 => hh g' (List.mem_cons_of_mem _ h1) h2) ?_
    by_cases c : p ∈ g
    · right
      rw [setAll_in g a _ p c hl, hh g List.mem_cons_self c]
    · rcases q with ⟨g', h1, h2⟩ | q
      · rcases List.mem_cons.mp h1 with e | e
        · rw [e] at h2; exact absurd h2 c
        · exact .inl ⟨g', e, h2⟩
      · right
        rw [setAll_out g a _ p c]; exact q
theorem leaders_lead {L : List Nat} (h : Lead L) : leadersM L.length (groupsOf (lb L) L.length) = L := by
  apply List.ext_getElem?
  intro p
  rcases Nat.lt_or_ge p L.length with c | c
  · have e : L[p]? = some (lb L p) := by
      unfold lb
      rw [List.getD_eq_getElem?_getD, List.getElem?_eq_getElem c]; rfl
    rw [e]
    refine leaders_at _ (by rw [List.length_replicate]; exact c) (fun g hg hp => ?_) (.inl ⟨grp (lb L) L.length p, grp_mem c, mem_grp.mpr ⟨c, rfl⟩⟩)
    rw [group_at hg hp]
    have := h.head c
    rw [List.headD_eq_head?_getD, this]; rfl
  · rw [List.getElem?_eq_none c, List.getElem?_eq_none (by rw [leadersM_length]; exact c)]
theorem inc_length {n : Nat} : ∀ (l : List Nat) (a : Nat), l.Pairwise (· < ·) → (∀ x ∈ l, a ≤ x ∧ x < n) → l ≠ [] → a + l.length ≤ n
  | [], _, _, _, h => absurd rfl h
  | [x], a, _, h, _ => by
    have := h x (by simp)
    show a + 1 ≤ n
    omega
  | x :: y :: r, a, hp, h, _ => by
    have h1 := h x (by simp)
    have hp' := List.pairwise_cons.mp hp
    have ih := inc_length (y :: r) (x + 1) hp'.2 (fun z hz => ⟨hp'.1 z hz, (h z (List.mem_cons_of_mem _ hz)).2⟩) (by simp)
    simp only [List.length_cons] at ih ⊢
    omega
theorem inc_le {n : Nat} {l : List Nat} (hp : l.Pairwise (· < ·)) (h : ∀ x ∈ l, x < n) : l.length ≤ n := by
  cases l with
  | nil => simp
  | cons x r =>
    have := inc_length (x :: r) 0 hp (fun z hz => ⟨Nat.zero_le _, h z hz⟩) (by simp)
    omega
end Nc

namespace Nc
open PySem PySem.Spec PyProof.Rows L2 Evl

/-! ### data -/
inductive Dt where
  | non | bl (b : Bool) | int (i : Int) | str (x : Str) | lst (l : List Dt) | tup (l : List Dt) | dic

mutual
def Dt.py : Dt → PyData
  | .non => .none
  | .bl b => .bool b
  | .int i => .int i
  | .str x => .str x
  | .lst l => .list (Dt.pys l)
  | .tup l => .tuple (Dt.pys l)
  | .dic => .dict []
def Dt.pys : List Dt → List PyData
  | [] => []
  | d :: l => d.py :: Dt.pys l
end

/-! v stands for d in H; the lists in it stand at places that N allows -/
mutual
inductive Rp (N : Addr → Prop) (H : Hp) : V → Dt → Prop
  | non : Rp N H .non .non
  | bl (b : Bool) : Rp N H (.bl b) (.bl b)
  | int (i : Int) : Rp N H (.int i) (.int i)
  | str (x : Str) : Rp N H (.str x) (.str x)
  | lst {a : Addr} {xs : List V} {ds : List Dt} : N a → H a = some (.lst xs) → RpL N H xs ds → Rp N H (.ref a) (.lst ds)
  | tup {a : Addr} {xs : List V} {ds : List Dt} : H a = some (.tup xs) → RpL N H xs ds → Rp N H (.ref a) (.tup ds)
  | dic {a : Addr} {kvs : List (Key × V)} : H a = some (.dK kvs) → Rp N H (.ref a) .dic
inductive RpL (N : Addr → Prop) (H : Hp) : List V → List Dt → Prop
  | nil : RpL N H [] []
  | cons {v : V} {vs : List V} {d : Dt} {ds : List Dt} : Rp N H v d → RpL N H vs ds → RpL N H (v :: vs) (d :: ds)
end
abbrev Any : Addr → Prop := fun _ => True
abbrev Noi : Addr → Prop := fun _ => False
/-- in H, or new ahead of H1 -/
def Nb (H H1 : Hp) : Addr → Prop := fun a => H a ≠ none ∨ H1 a = none
def Fresh (H : Hp) : Addr → Prop := fun a => H a = none

/-! the general step: another heap, another allowance -/
mutual
theorem Rp.to {N N' : Addr → Prop} {H H' : Hp} (hl : ∀ a xs, N a → H a = some (.lst xs) → N' a ∧ H' a = some (.lst xs)) (ht : ∀ a xs, H a = some (.tup xs) → H' a = some (.tup xs)) (hd : ∀ a kvs, H a = some (.dK kvs) → H' a = some (.dK kvs)) : ∀ {v : V} {d : Dt}, Rp N H v d → Rp N' H' v d
  | _, _, .non => .non
  | _, _, .bl b => .bl b
  | _, _, .int i => .int i
  | _, _, .str x => .str x
  | _, _, .lst n h r => .lst (hl _ _ n h).1 (hl _ _ n h).2 (RpL.to hl ht hd r)
  | _, _, .tup h r => .tup (ht _ _ h) (RpL.to hl ht hd r)
  | _, _, .dic h => .dic (hd _ _ h)
theorem RpL.to {N N' : Addr → Prop} {H H' : Hp} (hl : ∀ a xs, N a → H a = some (.lst xs) → N' a ∧ H' a = some (.lst xs)) (ht : ∀ a xs, H a = some (.tup xs) → H' a = some (.tup xs)) (hd : ∀ a kvs, H a = some (.dK kvs) → H' a = some (.dK kvs)) : ∀ {vs : List V} {ds : List Dt}, RpL N H vs ds → RpL N' H' vs ds
  | _, _, .nil => .nil
  | _, _, .cons r t => .cons (Rp.to hl ht hd r) (RpL.to hl ht hd t)
end
theorem Rp.mono {N : Addr → Prop} {H H' : Hp} {v : V} {d : Dt} (e : Ex H H') (r : Rp N H v d) : Rp N H' v d := r.to (fun a xs n h => ⟨n, e a _ h⟩) (fun a xs h => e a _ h) fun a k h => e a _ h
theorem RpL.mono {N : Addr → Prop} {H H' : Hp} {v : List V} {d : List Dt} (e : Ex H H') (r : RpL N H v d) : RpL N H' v d := r.to (fun a xs n h => ⟨n, e a _ h⟩) (fun a xs h => e a _ h) fun a k h => e a _ h
theorem Rp.wk {N N' : Addr → Prop} {H : Hp} {v : V} {d : Dt} (h : ∀ a, N a → N' a) (r : Rp N H v d) : Rp N' H v d := r.to (fun a xs n e => ⟨h a n, e⟩) (fun a xs e => e) fun a k e => e
theorem RpL.wk {N N' : Addr → Prop} {H : Hp} {v : List V} {d : List Dt} (h : ∀ a, N a → N' a) (r : RpL N H v d) : RpL N' H v d := r.to (fun a xs n e => ⟨h a n, e⟩) (fun a xs e => e) fun a k e => e
theorem Rp.any {N : Addr → Prop} {H : Hp} {v : V} {d : Dt} (r : Rp N H v d) : Rp Any H v d := r.wk fun _ _ => trivial
theorem RpL.any {N : Addr → Prop} {H : Hp} {v : List V} {d : List Dt} (r : RpL N H v d) : RpL Any H v d := r.wk fun _ _ => trivial
/-- what stands in H -/
theorem Rp.base {N : Addr → Prop} {H H1 H2 : Hp} {v : V} {d : Dt} (e : Ex H H2) (r : Rp N H v d) : Rp (Nb H H1) H2 v d :=
  r.to (fun a xs _ h => ⟨.inl (by rw [h]; intro z; cases z), e a _ h⟩) (fun a xs h => e a _ h) fun a k h => e a _ h
theorem Rp.at {N : Addr → Prop} {H : Hp} {v : V} {d : Dt} (r : Rp N H v d) : Rp (fun a => H a ≠ none) H v d :=
  r.to (fun a xs _ h => ⟨(by rw [h]; intro z; cases z), h⟩) (fun a xs h => h) fun a k h => h
/-- a list is written that it does not hold -/
theorem Rp.upd {N : Addr → Prop} {H : Hp} {l : Addr} {xs : List V} {o : HO} {v : V} {d : Dt} (hl : H l = some (.lst xs)) (hN : ∀ a, N a → a ≠ l) (r : Rp N H v d) : Rp N (L2.upd H l o) v d :=
  r.to (fun a ys n h => ⟨n, by rw [upd_ne (hN a n)]; exact h⟩) (fun a ys h => by
    rw [upd_ne (ne_of h hl (by intro z; cases z))]; exact h) fun a k h => by
    rw [upd_ne (ne_of h hl (by intro z; cases z))]; exact h
theorem RpL.upd {N : Addr → Prop} {H : Hp} {l : Addr} {xs : List V} {o : HO} {v : List V} {d : List Dt} (hl : H l = some (.lst xs)) (hN : ∀ a, N a → a ≠ l) (r : RpL N H v d) : RpL N (L2.upd H l o) v d :=
  r.to (fun a ys n h => ⟨n, by rw [upd_ne (hN a n)]; exact h⟩) (fun a ys h => by
    rw [upd_ne (ne_of h hl (by intro z; cases z))]; exact h) fun a k h => by
    rw [upd_ne (ne_of h hl (by intro z; cases z))]; exact h

/-! lists of data -/
section
variable {N : Addr → Prop} {H : Hp}
theorem RpL.length : ∀ {vs : List V} {ds : List Dt}, RpL N H vs ds → vs.length = ds.length
  | _, _, .nil => rfl
  | _, _, .cons _ t => by rw [List.length_cons, List.length_cons, RpL.length t]
theorem RpL.get : ∀ {vs : List V} {ds : List Dt} {i : Nat} {d : Dt}, RpL N H vs ds → ds[i]? = some d → ∃ v, vs[i]? = some v ∧ Rp N H v d
  | _, _, _, _, .nil, h => by simp at h
  | _, _, 0, _, .cons r _, h => by simp at h; subst h; exact ⟨_, rfl, r⟩
  | _, _, i + 1, d, .cons _ t, h => by
    obtain ⟨v, h1, h2⟩ := RpL.get (i := i) t (by simpa using h)
    exact ⟨v, by simpa using h1, h2⟩
theorem RpL.getV : ∀ {vs : List V} {ds : List Dt} {i : Nat} {v : V}, RpL N H vs ds → vs[i]? = some v → ∃ d, ds[i]? = some d ∧ Rp N H v d
  | _, _, _, _, .nil, h => by simp at h
  | _, _, 0, _, .cons r _, h => by simp at h; subst h; exact ⟨_, rfl, r⟩
  | _, _, i + 1, d, .cons _ t, h => by
    obtain ⟨v, h1, h2⟩ := RpL.getV (i := i) t (by simpa using h)
    exact ⟨v, by simpa using h1, h2⟩
theorem RpL.append : ∀ {vs ws : List V} {ds es : List Dt}, RpL N H vs ds → RpL N H ws es → RpL N H (vs ++ ws) (ds ++ es)
  | _, _, _, _, .nil, s => s
  | _, _, _, _, .cons r t, s => .cons r (RpL.append t s)
theorem RpL.take : ∀ (n : Nat) {vs : List V} {ds : List Dt}, RpL N H vs ds → RpL N H (vs.take n) (ds.take n)
  | 0, _, _, _ => .nil
  | _ + 1, _, _, .nil => .nil
  | n + 1, _, _, .cons r t => .cons r (RpL.take n t)
theorem RpL.drop : ∀ (n : Nat) {vs : List V} {ds : List Dt}, RpL N H vs ds → RpL N H (vs.drop n) (ds.drop n)
  | 0, _, _, r => r
  | _ + 1, _, _, .nil => .nil
  | n + 1, _, _, .cons _ t => RpL.drop n t
theorem RpL.rev : ∀ {vs : List V} {ds : List Dt}, RpL N H vs ds → RpL N H vs.reverse ds.reverse
  | _, _, .nil => .nil
  | _, _, .cons r t => by
    rw [List.reverse_cons, List.reverse_cons]
    exact (RpL.rev t).append (.cons r .nil)
theorem RpL.set : ∀ (i : Nat) {vs : List V} {ds : List Dt} {v : V} {d : Dt}, Rp N H v d → RpL N H vs ds → RpL N H (vs.set i v) (ds.set i d)
  | _, _, _, _, _, _, .nil => .nil
  | 0, _, _, _, _, r, .cons _ t => .cons r t
  | i + 1, _, _, _, _, r, .cons q t => .cons q (RpL.set i r t)
theorem RpL.one {v : V} {d : Dt} (r : Rp N H v d) : RpL N H [v] [d] := .cons r .nil
theorem RpL.ints : ∀ (ns : List Int), RpL N H (ns.map V.int) (ns.map Dt.int)
  | [] => .nil
  | n :: r => .cons (.int n) (RpL.ints r)
theorem RpL.ofInts : ∀ {ns : List Int} {vs : List V}, RpL N H vs (ns.map Dt.int) → vs = ns.map V.int
  | [], _, .nil => rfl
  | n :: r, _, .cons h t => by
    cases h
    rw [RpL.ofInts t]
    rfl
theorem RpL.rep {v : V} {d : Dt} (r : Rp N H v d) : ∀ n, RpL N H (List.replicate n v) (List.replicate n d)
  | 0 => .nil
  | n + 1 => .cons r (RpL.rep r n)
end
theorem Rp.intI {N : Addr → Prop} {H : Hp} {v : V} {i : Int} (r : Rp N H v (.int i)) : v = .int i := by cases r; rfl
theorem Rp.blI {N : Addr → Prop} {H : Hp} {v : V} {b : Bool} (r : Rp N H v (.bl b)) : v = .bl b := by cases r; rfl
theorem Rp.strI {N : Addr → Prop} {H : Hp} {v : V} {x : Str} (r : Rp N H v (.str x)) : v = .str x := by cases r; rfl
theorem Rp.nonI {N : Addr → Prop} {H : Hp} {v : V} (r : Rp N H v .non) : v = .non := by cases r; rfl
theorem Rp.lstI {N : Addr → Prop} {H : Hp} {v : V} {ds : List Dt} (r : Rp N H v (.lst ds)) : ∃ a xs, v = .ref a ∧ N a ∧ H a = some (.lst xs) ∧ RpL N H xs ds := by
  cases r with
  | lst n h r => exact ⟨_, _, rfl, n, h, r⟩
theorem Rp.tupI {N : Addr → Prop} {H : Hp} {v : V} {ds : List Dt} (r : Rp N H v (.tup ds)) : ∃ a xs, v = .ref a ∧ H a = some (.tup xs) ∧ RpL N H xs ds := by
  cases r with
  | tup h r => exact ⟨_, _, rfl, h, r⟩
mutual
/-- fit to be compared -/
def Dt.can : Dt → Bool
  | .str x => PyData.strOk x
  | .lst l => Dt.cans l
  | .tup l => Dt.cans l
  | .dic => false
  | _ => true
def Dt.cans : List Dt → Bool
  | [] => true
  | d :: l => d.can && Dt.cans l
end
mutual
theorem Rp.dp {K : PySem.W.Frag} {N : Addr → Prop} {H : Hp} : ∀ {v : V} {d : Dt}, d.can = true → Rp N H v d → Dp K H v d.py
  | _, _, _, .non => .non
  | _, _, _, .bl b => .bl b
  | _, _, _, .int i => .int i
  | _, _, _, .str x => .str x
  | _, _, c, .lst _ h r => .lst (sq_of h) (RpL.dp (by simpa [Dt.can] using c) r)
  | _, _, c, .tup h r => .tup (st_of h) (RpL.dp (by simpa [Dt.can] using c) r)
  | _, _, c, .dic _ => by simp [Dt.can] at c
theorem RpL.dp {K : PySem.W.Frag} {N : Addr → Prop} {H : Hp} : ∀ {vs : List V} {ds : List Dt}, Dt.cans ds = true → RpL N H vs ds → DpAll K H vs (Dt.pys ds)
  | _, _, _, .nil => .nil
  | _, _, c, .cons r t => by
    simp only [Dt.cans, Bool.and_eq_true] at c
    exact .cons (Rp.dp c.1 r) (RpL.dp c.2 t)
end

/-! ### a heap in two parts: what is data, and lists beside it that may grow -/
def less (H : Hp) (F : List Addr) : Hp := fun a => if a ∈ F then none else H a
structure Beside (Hb : Hp) (F : List Addr) (H : Hp) : Prop where
  ex : Ex Hb H
  at_ : ∀ a ∈ F, Hb a = none ∧ ∃ xs, H a = some (.lst xs)
section
variable {Hb Hb' H H' H1 H2 : Hp} {F : List Addr} {N : Addr → Prop} {v : V} {d : Dt} {vs : List V} {ds : List Dt}
theorem less_none {a : Addr} (h : a ∈ F) : less H F a = none := by unfold less; rw [if_pos h]
theorem less_some {a : Addr} (h : a ∉ F) : less H F a = H a := by unfold less; rw [if_neg h]
theorem less_nil : less H [] = H := by funext a; exact less_some (by simp)
theorem less_ex : Ex (less H F) H := fun a o h => by
  by_cases c : a ∈ F
  · rw [less_none c] at h; cases h
  · rw [less_some c] at h; exact h
theorem less_mono (e : Ex H H') : Ex (less H F) (less H' F) := fun a o h => by
  by_cases c : a ∈ F
  · rw [less_none c] at h; cases h
  · rw [less_some c] at h ⊢; exact e a o h
theorem less_sub {G : List Addr} (h : ∀ a ∈ G, a ∈ F) : Ex (less H F) (less H G) := fun a o e => by
  by_cases c : a ∈ F
  · rw [less_none c] at e; cases e
  · rw [less_some c] at e
    rw [less_some fun z => c (h a z)]; exact e
theorem Beside.refl (H : Hp) : Beside H [] H := ⟨Ex.refl H, fun a h => by simp at h⟩
theorem Beside.on (S : Beside Hb F H) (e : Ex H H1) : Beside Hb F H1 := ⟨S.ex.trans e, fun a h => ⟨(S.at_ a h).1, let ⟨xs, q⟩ := (S.at_ a h).2; ⟨xs, e a _ q⟩⟩⟩
theorem Beside.down (e : Ex Hb Hb') (S : Beside Hb' F H) : Beside Hb F H := ⟨e.trans S.ex, fun a h => ⟨fresh_back e (S.at_ a h).1, (S.at_ a h).2⟩⟩
theorem Beside.out (S : Beside Hb F H) {a : Addr} {o : HO} (h : Hb a = some o) : a ∉ F := fun z => by
  rw [(S.at_ a z).1] at h; cases h
theorem Beside.lessEx (S : Beside Hb F H) (e : Ex H H1) : Ex Hb (less H1 F) := fun a o h => by
  rw [less_some (S.out h)]
  exact e a o (S.ex a o h)
theorem Beside.sep (S : Beside Hb F H) : Beside (less H F) F H := ⟨less_ex, fun a h => ⟨less_none h, (S.at_ a h).2⟩⟩
theorem Beside.new (S : Beside Hb F H) {a : Addr} (h : H a = none) : a ∉ F := fun z => by
  obtain ⟨xs, q⟩ := (S.at_ a z).2
  rw [h] at q; cases q
theorem Beside.tup (S : Beside Hb F H) (e : Ex H H1) {a : Addr} {xs : List V} (h : H1 a = some (.tup xs)) : a ∉ F := fun z => by
  obtain ⟨ys, q⟩ := (S.at_ a z).2
  rw [e a _ q] at h; cases h
/-- data of the first part -/
theorem Beside.up (S : Beside Hb F H) (e : Ex H H1) (r : Rp N Hb v d) : Rp Any (less H1 F) v d := (r.mono (S.lessEx e)).any
theorem Beside.ups (S : Beside Hb F H) (e : Ex H H1) (r : RpL N Hb vs ds) : RpL Any (less H1 F) vs ds := (r.mono (S.lessEx e)).any
/-- data that are new -/
theorem Beside.dic (S : Beside Hb F H) (e : Ex H H1) {a : Addr} {xs : List (Key × V)} (h : H1 a = some (.dK xs)) : a ∉ F := fun z => by
  obtain ⟨ys, q⟩ := (S.at_ a z).2
  rw [e a _ q] at h; cases h
theorem Beside.fresh (S : Beside Hb F H) (e : Ex H H1) (r : Rp (Fresh H) H1 v d) : Rp Any (less H1 F) v d :=
  r.to (fun a xs n h => ⟨trivial, by rw [less_some (S.new n)]; exact h⟩) (fun a xs h => by rw [less_some (S.tup e h)]; exact h) fun a k h => by rw [less_some (S.dic e h)]; exact h
/-- a list beside is one more -/
theorem Beside.add {p : Addr} {xs : List V} (S : Beside Hb F H) (h : H p = none) : Beside Hb (p :: F) (upd H p (.lst xs)) :=
  ⟨S.ex.trans (Ex.new h), fun a ha => by
    rcases List.mem_cons.mp ha with e | ha
    · subst e; exact ⟨fresh_back S.ex h, xs, upd_same⟩
    · obtain ⟨h1, ys, h2⟩ := S.at_ a ha
      exact ⟨h1, ys, Ex.new h _ _ h2⟩⟩
end

/-! ### what evaluates to what, in a heap whose first part is Hb, whatever stands beside -/
def EvD (te : TE) (σ : L2.St) (Hb : Hp) (d : Dt) : Prop := ∀ F H, Beside Hb F H → ∀ Q : VK, (∀ v H', Ex H H' → Rp Any (less H' F) v d → Q v H') → te σ H Q
def EvDs (ta : TA) (σ : L2.St) (Hb : Hp) (ds : List Dt) : Prop := ∀ F H, Beside Hb F H → ∀ Q : List V → Hp → Prop, (∀ vs H', Ex H H' → RpL Any (less H' F) vs ds → Q vs H') → ta σ H Q
/-- a new list, its items data -/
def EvF (te : TE) (σ : L2.St) (Hb : Hp) (ds : List Dt) : Prop := ∀ F H, Beside Hb F H → ∀ Q : VK, (∀ p xs H', H p = none → Ex H H' → H' p = some (.lst xs) → RpL Any (less H' (p :: F)) xs ds → Q (.ref p) H') → te σ H Q
/-- a value without lists -/
def EvS (te : TE) (σ : L2.St) (H : Hp) (v : V) : Prop := Ev te σ H v
section
variable {σ : L2.St} {Hb Hb' H H' : Hp} {d : Dt} {ds : List Dt} {te ta tb : TE} {K : PySem.W.Frag}
theorem EvD.mono (e : Ex Hb Hb') (h : EvD te σ Hb d) : EvD te σ Hb' d := fun F H S Q q => h F H (S.down e) Q q
theorem EvDs.mono {ta : TA} (e : Ex Hb Hb') (h : EvDs ta σ Hb ds) : EvDs ta σ Hb' ds := fun F H S Q q => h F H (S.down e) Q q
theorem EvF.mono (e : Ex Hb Hb') (h : EvF te σ Hb ds) : EvF te σ Hb' ds := fun F H S Q q => h F H (S.down e) Q q
theorem EvF.dd (h : EvF te σ Hb ds) : EvD te σ Hb (.lst ds) := fun F H S Q q => h F H S Q fun p xs H' hp e hx r =>
  q _ H' e (.lst trivial (by rw [less_some (S.new hp)]; exact hx) (r.mono (less_sub fun a ha => List.mem_cons_of_mem _ ha)))
theorem EvD.int {i : Int} (h : EvD te σ Hb (.int i)) : Ev te σ Hb (.int i) := fun H1 e Q q => h [] H1 ⟨e, fun a h => by simp at h⟩ Q fun v H2 e2 r => by rw [r.intI]; exact q H2 e2
theorem EvD.bl {b : Bool} (h : EvD te σ Hb (.bl b)) : Ev te σ Hb (.bl b) := fun H1 e Q q => h [] H1 ⟨e, fun a h => by simp at h⟩ Q fun v H2 e2 r => by rw [r.blI]; exact q H2 e2
theorem EvD.str {b : Str} (h : EvD te σ Hb (.str b)) : Ev te σ Hb (.str b) := fun H1 e Q q => h [] H1 ⟨e, fun a h => by simp at h⟩ Q fun v H2 e2 r => by rw [r.strI]; exact q H2 e2
theorem edI {i : Int} (h : Ev te σ Hb (.int i)) : EvD te σ Hb (.int i) := fun F H S Q q => h H S.ex Q fun H2 e2 => q _ H2 e2 (.int i)
theorem edB {b : Bool} (h : Ev te σ Hb (.bl b)) : EvD te σ Hb (.bl b) := fun F H S Q q => h H S.ex Q fun H2 e2 => q _ H2 e2 (.bl b)
theorem edS {b : Str} (h : Ev te σ Hb (.str b)) : EvD te σ Hb (.str b) := fun F H S Q q => h H S.ex Q fun H2 e2 => q _ H2 e2 (.str b)
theorem edNon (h : Ev te σ Hb .non) : EvD te σ Hb .non := fun F H S Q q => h H S.ex Q fun H2 e2 => q _ H2 e2 .non
theorem edV {v : V} {N : Addr → Prop} (h : Ev te σ Hb v) (r : Rp N Hb v d) : EvD te σ Hb d := fun F H S Q q => h H S.ex Q fun H2 e2 => q v H2 e2 (S.up e2 r)
theorem ed_var {i : Nat} {v : V} {N : Addr → Prop} (h : σ[i]? = some (some v)) (r : Rp N Hb v d) : EvD (tVar i) σ Hb d := edV (ev_var h) r
theorem EvD.as {d' : Dt} (h : EvD te σ Hb d) (e : d = d') : EvD te σ Hb d' := e ▸ h

/-- one thing, then another -/
theorem EvD.thn {F : List Addr} (h : EvD te σ Hb d) (S : Beside Hb F H) {Q : VK} (k : ∀ v H', Ex H H' → Beside Hb F H' → Rp Any (less H' F) v d → Q v H') : te σ H Q :=
  h F H S Q fun v H' e r => k v H' e (S.on e) r
theorem ea_nil' : EvDs tNil σ Hb [] := fun F H _ _ q => q [] H (Ex.refl H) .nil
theorem ea_cons' {tr : TA} (h : EvD ta σ Hb d) (hr : EvDs tr σ Hb ds) : EvDs (tCons ta tr) σ Hb (d :: ds) := fun F H S _ q =>
  h.thn S fun v H2 e2 S2 r => hr F H2 S2 _ fun vs H3 e3 rs => q (v :: vs) H3 (e2.trans e3) (.cons (r.mono (less_mono e3)) rs)
/-- a new tuple, a new list -/
theorem ed_tup {ta : TA} (h : EvDs ta σ Hb ds) (hl : ds.length ≤ 100000) : EvD (tTup ta) σ Hb (.tup ds) := fun F H S Q q =>
  h F H S _ fun vs H2 e2 r => ⟨sz_of (by rw [r.length]; exact hl), fun p hp => q (.ref p) _ (e2.trans (Ex.new hp)) (.tup (by rw [less_some ((S.on e2).new hp)]; exact upd_same) (r.mono (less_mono (Ex.new hp))))⟩
theorem ef_mk {F : List Addr} {H1 H2 : Hp} {Q : VK} {xs : List V} (S : Beside Hb F H1) (e : Ex H1 H2) (r : RpL Any (less H2 F) xs ds) (q : ∀ p xs H', H1 p = none → Ex H1 H' → H' p = some (.lst xs) → RpL Any (less H' (p :: F)) xs ds → Q (.ref p) H') :
    ∀ p, H2 p = none → Q (.ref p) (upd H2 p (.lst xs)) := fun p hp => q p xs _ (fresh_back e hp) (e.trans (Ex.new hp)) upd_same (r.mono fun a o h => by
      have hF : a ∉ F := fun z => by rw [less_none z] at h; cases h
      rw [less_some hF] at h
      have hap : a ≠ p := ne_of_none h hp
      rw [less_some (by simp [hF, hap]), upd_ne hap]; exact h)
theorem ef_lst {ta : TA} (h : EvDs ta σ Hb ds) (hl : ds.length ≤ 100000) : EvF (tLst ta) σ Hb ds := fun F H S Q q =>
  h F H S _ fun vs H2 e2 r => ⟨sz_of (by rw [r.length]; exact hl), ef_mk S e2 r q⟩
end
end Nc

namespace Nc
open PySem PySem.Spec PyProof.Rows L2 Evl

/-! ### data that hold no truth values: equal as Python says, equal -/
mutual
def Dt.clean : Dt → Bool
  | .bl _ => false
  | .dic => false
  | .lst l => Dt.cleans l
  | .tup l => Dt.cleans l
  | _ => true
def Dt.cleans : List Dt → Bool
  | [] => true
  | d :: l => d.clean && Dt.cleans l
end
mutual
def Dt.dep : Dt → Nat
  | .lst l => Dt.deps l + 1
  | .tup l => Dt.deps l + 1
  | .dic => 1
  | _ => 0
def Dt.deps : List Dt → Nat
  | [] => 0
  | d :: l => max d.dep (Dt.deps l)
end
mutual
theorem eqv_clean : ∀ (d e : Dt), d.clean = true → e.clean = true → (PyData.eqv d.py e.py = true ↔ d = e)
  | .non, e, _, h => by cases e <;> simp [Dt.py, PyData.eqv]
  | .bl b, e, h, _ => by simp [Dt.clean] at h
  | .dic, e, h, _ => by simp [Dt.clean] at h
  | .int i, e, _, h => by cases e <;> simp [Dt.py, PyData.eqv, Dt.clean] at h ⊢
  | .str i, e, _, h => by cases e <;> simp [Dt.py, PyData.eqv]
  | .lst l, e, h1, h => by
    cases e with
    | lst m =>
      simp only [Dt.py, PyData.eqv, Dt.lst.injEq]
      exact eqvs_clean l m (by simpa [Dt.clean] using h1) (by simpa [Dt.clean] using h)
    | _ => simp [Dt.py, PyData.eqv]
  | .tup l, e, h1, h => by
    cases e with
    | tup m =>
      simp only [Dt.py, PyData.eqv, Dt.tup.injEq]
      exact eqvs_clean l m (by simpa [Dt.clean] using h1) (by simpa [Dt.clean] using h)
    | _ => simp [Dt.py, PyData.eqv]
theorem eqvs_clean : ∀ (d e : List Dt), Dt.cleans d = true → Dt.cleans e = true → (PyData.eqvAll (Dt.pys d) (Dt.pys e) = true ↔ d = e)
  | [], [], _, _ => by simp [Dt.pys, PyData.eqvAll]
  | [], _ :: _, _, _ => by simp [Dt.pys, PyData.eqvAll]
  | _ :: _, [], _, _ => by simp [Dt.pys, PyData.eqvAll]
  | x :: l, y :: m, h1, h2 => by
    simp only [Dt.cleans, Bool.and_eq_true] at h1 h2
    simp only [Dt.pys, PyData.eqvAll, Bool.and_eq_true, List.cons.injEq]
    rw [eqv_clean x y h1.1 h2.1, eqvs_clean l m h1.2 h2.2]
end
mutual
theorem py_can : ∀ d : Dt, d.can = true → d.py.canLay0 = true
  | .non, _ => by simp [Dt.py, PyData.canLay0]
  | .bl b, _ => by simp [Dt.py, PyData.canLay0]
  | .int i, _ => by simp [Dt.py, PyData.canLay0]
  | .str i, h => by simp only [Dt.py, PyData.canLay0]; simpa [Dt.can] using h
  | .lst l, h => by simp only [Dt.py, PyData.canLay0]; exact pys_can l (by simpa [Dt.can] using h)
  | .tup l, h => by simp only [Dt.py, PyData.canLay0]; exact pys_can l (by simpa [Dt.can] using h)
  | .dic, h => by simp [Dt.can] at h
theorem pys_can : ∀ l : List Dt, Dt.cans l = true → PyData.canLayAll0 (Dt.pys l) = true
  | [], _ => by simp [Dt.pys, PyData.canLayAll0]
  | d :: l, h => by
    simp only [Dt.cans, Bool.and_eq_true] at h
    simp only [Dt.pys, PyData.canLayAll0, Bool.and_eq_true]
    exact ⟨py_can d h.1, pys_can l h.2⟩
end
mutual
theorem py_dep : ∀ d : Dt, d.py.depth = d.dep
  | .non => by simp [Dt.py, PyData.depth, Dt.dep]
  | .bl b => by simp [Dt.py, PyData.depth, Dt.dep]
  | .int i => by simp [Dt.py, PyData.depth, Dt.dep]
  | .str i => by simp [Dt.py, PyData.depth, Dt.dep]
  | .lst l => by simp [Dt.py, PyData.depth, Dt.dep, pys_dep l]
  | .tup l => by simp [Dt.py, PyData.depth, Dt.dep, pys_dep l]
  | .dic => by simp [Dt.py, PyData.depth, PyData.depthKv, Dt.dep]
theorem pys_dep : ∀ l : List Dt, PyData.depthAll (Dt.pys l) = Dt.deps l
  | [] => by simp [Dt.pys, PyData.depthAll, Dt.deps]
  | d :: l => by simp [Dt.pys, PyData.depthAll, Dt.deps, py_dep d, pys_dep l]
end
/-- data that may be compared -/
def Dt.fit (d : Dt) : Prop := d.can = true ∧ d.clean = true ∧ d.dep ≤ 64
theorem Dt.fit.shaped {d : Dt} (h : d.fit) : SeqAt.shaped d.py = true := by
  unfold SeqAt.shaped
  rw [Bool.and_eq_true, decide_eq_true_iff, py_dep]
  exact ⟨py_can d h.1, h.2.2⟩
theorem fit_int (i : Int) : (Dt.int i).fit := ⟨rfl, rfl, Nat.zero_le _⟩
theorem fit_lst {l : List Dt} {n : Nat} (hn : n < 64) (h : ∀ d ∈ l, d.can = true ∧ d.clean = true ∧ d.dep ≤ n) : (Dt.lst l).can = true ∧ (Dt.lst l).clean = true ∧ (Dt.lst l).dep ≤ n + 1 := by
  have key : ∀ l : List Dt, (∀ d ∈ l, d.can = true ∧ d.clean = true ∧ d.dep ≤ n) → Dt.cans l = true ∧ Dt.cleans l = true ∧ Dt.deps l ≤ n := by
    intro l
    induction l with
    | nil => intro _; exact ⟨rfl, rfl, Nat.zero_le _⟩
    | cons d l ih =>
      intro h
      obtain ⟨a, b, c⟩ := h d List.mem_cons_self
      obtain ⟨a', b', c'⟩ := ih fun e he => h e (List.mem_cons_of_mem _ he)
      simp only [Dt.cans, Dt.cleans, Dt.deps, Bool.and_eq_true]
      exact ⟨⟨a, a'⟩, ⟨b, b'⟩, Nat.max_le.mpr ⟨c, c'⟩⟩
  obtain ⟨a, b, c⟩ := key l h
  simp only [Dt.can, Dt.clean, Dt.dep]
  exact ⟨a, b, by omega⟩
theorem fit_tup {l : List Dt} {n : Nat} (hn : n < 64) (h : ∀ d ∈ l, d.can = true ∧ d.clean = true ∧ d.dep ≤ n) : (Dt.tup l).can = true ∧ (Dt.tup l).clean = true ∧ (Dt.tup l).dep ≤ n + 1 := by
  have := fit_lst hn h
  simp only [Dt.can, Dt.clean, Dt.dep] at this ⊢
  exact this
/-! ### the data of this program -/
def dInts (L : List Int) : Dt := .lst (L.map Dt.int)
def dNats (L : List Nat) : Dt := .lst (L.map fun x => Dt.int (x : Nat))
def dGrp (g : List Nat) : Dt := .tup (g.map fun x => Dt.int (x : Nat))
def dGrps (gs : List (List Nat)) : Dt := .lst (gs.map dGrp)
def dTie (n : Nat) (gs : List (List Nat)) : Dt := .tup [.int n, dGrps gs]
theorem fit_nats (L : List Nat) : (dNats L).fit := by
  obtain ⟨a, b, c⟩ := fit_lst (n := 0) (by decide) (l := L.map fun x => Dt.int (x : Nat)) fun d hd => by
    obtain ⟨x, _, rfl⟩ := List.mem_map.mp hd
    exact ⟨rfl, rfl, Nat.zero_le _⟩
  exact ⟨a, b, Nat.le_trans c (by decide)⟩
theorem fit_ints (L : List Int) : (dInts L).fit := by
  obtain ⟨a, b, c⟩ := fit_lst (n := 0) (by decide) (l := L.map Dt.int) fun d hd => by
    obtain ⟨x, _, rfl⟩ := List.mem_map.mp hd
    exact ⟨rfl, rfl, Nat.zero_le _⟩
  exact ⟨a, b, Nat.le_trans c (by decide)⟩
theorem fit_grp1 (g : List Nat) : (dGrp g).can = true ∧ (dGrp g).clean = true ∧ (dGrp g).dep ≤ 1 :=
  fit_tup (n := 0) (by decide) fun d hd => by
    obtain ⟨x, _, rfl⟩ := List.mem_map.mp hd
    exact ⟨rfl, rfl, Nat.zero_le _⟩
theorem fit_grp (g : List Nat) : (dGrp g).fit := ⟨(fit_grp1 g).1, (fit_grp1 g).2.1, Nat.le_trans (fit_grp1 g).2.2 (by decide)⟩
theorem fit_grps2 (gs : List (List Nat)) : (dGrps gs).can = true ∧ (dGrps gs).clean = true ∧ (dGrps gs).dep ≤ 2 :=
  fit_lst (n := 1) (by decide) fun d hd => by
    obtain ⟨x, _, rfl⟩ := List.mem_map.mp hd
    exact fit_grp1 x
theorem fit_grps (g : List (List Nat)) : (dGrps g).fit := ⟨(fit_grps2 g).1, (fit_grps2 g).2.1, Nat.le_trans (fit_grps2 g).2.2 (by decide)⟩
theorem fit_tie (n : Nat) (gs : List (List Nat)) : (dTie n gs).fit := by
  obtain ⟨a, b, c⟩ := fit_tup (n := 2) (by decide) (l := [.int n, dGrps gs]) fun d hd => by
    rcases List.mem_cons.mp hd with e | hd
    · subst e; exact ⟨rfl, rfl, Nat.zero_le _⟩
    · have e : d = dGrps gs := by simpa using hd
      subst e; exact fit_grps2 gs
  exact ⟨a, b, Nat.le_trans c (by decide)⟩
theorem natmap_inj : ∀ {a b : List Nat}, a.map (fun x => Dt.int (x : Nat)) = b.map (fun x => Dt.int (x : Nat)) → a = b
  | [], [], _ => rfl
  | [], _ :: _, h => by simp at h
  | _ :: _, [], h => by simp at h
  | x :: a, y :: b, h => by
    simp only [List.map_cons, List.cons.injEq, Dt.int.injEq] at h
    rw [natmap_inj h.2, Int.ofNat_inj.mp h.1]
theorem dNats_inj {a b : List Nat} : dNats a = dNats b ↔ a = b := ⟨fun h => natmap_inj (by unfold dNats at h; exact Dt.lst.inj h), fun h => by rw [h]⟩
theorem dGrp_inj {a b : List Nat} : dGrp a = dGrp b ↔ a = b := ⟨fun h => natmap_inj (by unfold dGrp at h; exact Dt.tup.inj h), fun h => by rw [h]⟩
theorem grpmap_inj : ∀ {a b : List (List Nat)}, a.map dGrp = b.map dGrp → a = b
  | [], [], _ => rfl
  | [], _ :: _, h => by simp at h
  | _ :: _, [], h => by simp at h
  | x :: a, y :: b, h => by
    simp only [List.map_cons, List.cons.injEq] at h
    rw [grpmap_inj h.2, dGrp_inj.mp h.1]
theorem dGrps_inj {a b : List (List Nat)} : dGrps a = dGrps b ↔ a = b := ⟨fun h => grpmap_inj (by unfold dGrps at h; exact Dt.lst.inj h), fun h => by rw [h]⟩
theorem dTie_inj {n m : Nat} {a b : List (List Nat)} : dTie n a = dTie m b ↔ n = m ∧ a = b := by
  constructor
  · intro h
    unfold dTie at h
    have h := Dt.tup.inj h
    simp only [List.cons.injEq, Dt.int.injEq, and_true] at h
    exact ⟨Int.ofNat_inj.mp h.1, dGrps_inj.mp h.2⟩
  · rintro ⟨rfl, rfl⟩; rfl

/-! ### operations -/
section
variable {σ : L2.St} {Hb H H' : Hp} {d e : Dt} {ds es : List Dt} {te ta tb tc : TE} {K : PySem.W.Frag}
theorem ed_int {i : Int} : EvD (tC (.int i)) σ Hb (.int i) := edI ev_c
theorem ed_bl {i : Bool} : EvD (tC (.bl i)) σ Hb (.bl i) := edB ev_c
theorem ed_str {i : Str} : EvD (tC (.str i)) σ Hb (.str i) := edS ev_c
theorem ed_non : EvD (tC .non) σ Hb .non := edNon ev_c
theorem ed_II {g : Int → Int → Int} {i j : Int} (ha : EvD ta σ Hb (.int i)) (hb : EvD tb σ Hb (.int j)) : EvD (tOp (rI0 fun i j => .int (g i j)) ta tb) σ Hb (.int (g i j)) := edI (ev_op ha.int hb.int rv_I0)
theorem ed_IB {g : Int → Int → Bool} {i j : Int} (ha : EvD ta σ Hb (.int i)) (hb : EvD tb σ Hb (.int j)) : EvD (tOp (rI0 fun i j => .bl (g i j)) ta tb) σ Hb (.bl (g i j)) := edB (ev_op ha.int hb.int rv_I0)
theorem ed_CI {C : Int → Int → Prop} {g : Int → Int → Int} {i j : Int} (ha : EvD ta σ Hb (.int i)) (hb : EvD tb σ Hb (.int j)) (hc : C i j) : EvD (tOp (rI C fun i j => .int (g i j)) ta tb) σ Hb (.int (g i j)) := edI (ev_op ha.int hb.int (rv_I hc))
theorem ed_neg {i : Int} (ha : EvD ta σ Hb (.int i)) : EvD (tUn (rU fun i => .int (-i)) ta) σ Hb (.int (-i)) := edI (ev_un ha.int ru_neg)
theorem ed_eqI {i j : Int} (ha : EvD ta σ Hb (.int i)) (hb : EvD tb σ Hb (.int j)) : EvD (tOp rEq ta tb) σ Hb (.bl (decide (i = j))) := by
  have h := edB (ev_op ha.int hb.int (rv_eq (H := Hb) (x := .int i) (y := .int j) rfl))
  have e : decide (V.int i = V.int j) = decide (i = j) := by simp
  rw [e] at h; exact h
theorem ed_neI {i j : Int} (ha : EvD ta σ Hb (.int i)) (hb : EvD tb σ Hb (.int j)) : EvD (tOp rNe ta tb) σ Hb (.bl (decide (i ≠ j))) := by
  have h := edB (ev_op ha.int hb.int (rv_ne (H := Hb) (x := .int i) (y := .int j) rfl))
  have e : (!decide (V.int i = V.int j)) = decide (i ≠ j) := by simp
  rw [e] at h; exact h
theorem ed_eqB {i j : Bool} (ha : EvD ta σ Hb (.bl i)) (hb : EvD tb σ Hb (.bl j)) : EvD (tOp rEq ta tb) σ Hb (.bl (decide (i = j))) := by
  have h := edB (ev_op ha.bl hb.bl (rv_eq (H := Hb) (x := .bl i) (y := .bl j) rfl))
  have e : decide (V.bl i = V.bl j) = decide (i = j) := by simp
  rw [e] at h; exact h
theorem ed_neB {i j : Bool} (ha : EvD ta σ Hb (.bl i)) (hb : EvD tb σ Hb (.bl j)) : EvD (tOp rNe ta tb) σ Hb (.bl (decide (i ≠ j))) := by
  have h := edB (ev_op ha.bl hb.bl (rv_ne (H := Hb) (x := .bl i) (y := .bl j) rfl))
  have e : (!decide (V.bl i = V.bl j)) = decide (i ≠ j) := by simp
  rw [e] at h; exact h
theorem ed_eqS {i j : Str} (ha : EvD ta σ Hb (.str i)) (hb : EvD tb σ Hb (.str j)) : EvD (tOp rEq ta tb) σ Hb (.bl (decide (i = j))) := by
  have h := edB (ev_op ha.str hb.str (rv_eq (H := Hb) (x := .str i) (y := .str j) rfl))
  have e : decide (V.str i = V.str j) = decide (i = j) := by simp
  rw [e] at h; exact h
theorem ed_neS {i j : Str} (ha : EvD ta σ Hb (.str i)) (hb : EvD tb σ Hb (.str j)) : EvD (tOp rNe ta tb) σ Hb (.bl (decide (i ≠ j))) := by
  have h := edB (ev_op ha.str hb.str (rv_ne (H := Hb) (x := .str i) (y := .str j) rfl))
  have e : (!decide (V.str i = V.str j)) = decide (i ≠ j) := by simp
  rw [e] at h; exact h
theorem ed_eqD {b : Bool} (ha : EvD ta σ Hb d) (hb : EvD tb σ Hb e) (fd : d.fit) (fe : e.fit) (h : b = true ↔ d = e) : EvD (tOp (rEqD K) ta tb) σ Hb (.bl b) := fun F H S Q q =>
  ha.thn S fun x H2 e2 S2 rx => hb.thn S2 fun y H3 e3 S3 ry => ⟨d.py, e.py, (rx.mono (less_ex.trans e3)).dp fd.1, (ry.mono less_ex).dp fe.1, fd.shaped, fe.shaped, by
    have k : PyData.eqv d.py e.py = b := by
      rw [Bool.eq_iff_iff, eqv_clean d e fd.2.1 fe.2.1, h]
    rw [k]
    exact q _ H3 (e2.trans e3) (.bl b)⟩
theorem ed_neD {b : Bool} (ha : EvD ta σ Hb d) (hb : EvD tb σ Hb e) (fd : d.fit) (fe : e.fit) (h : b = true ↔ d ≠ e) : EvD (tOp (rNeD K) ta tb) σ Hb (.bl b) := fun F H S Q q =>
  ha.thn S fun x H2 e2 S2 rx => hb.thn S2 fun y H3 e3 S3 ry => ⟨d.py, e.py, (rx.mono (less_ex.trans e3)).dp fd.1, (ry.mono less_ex).dp fe.1, fd.shaped, fe.shaped, by
    have k : (!PyData.eqv d.py e.py) = b := by
      rw [Bool.eq_iff_iff, Bool.not_eq_true', h, ← Bool.not_eq_true, eqv_clean d e fd.2.1 fe.2.1]
    rw [k]
    exact q _ H3 (e2.trans e3) (.bl b)⟩
/-- an item -/
theorem atI_get {α : Type} {xs : List α} {i : Int} {v : α} (h : atI xs i = some v) : ∃ j : Nat, ixN xs.length i = some j ∧ xs[j]? = some v := by
  unfold atI at h
  cases e : ixN xs.length i with
  | none => rw [e] at h; simp at h
  | some j => rw [e] at h; exact ⟨j, rfl, h⟩
theorem atI_rp {N : Addr → Prop} {xs : List V} {i : Int} (r : RpL N H xs ds) (h : atI ds i = some d) : ∃ v, atI xs i = some v ∧ Rp N H v d := by
  obtain ⟨j, h1, h2⟩ := atI_get h
  obtain ⟨v, h3, h4⟩ := r.get h2
  refine ⟨v, ?_, h4⟩
  unfold atI
  rw [r.length, h1]
  exact h3
theorem ed_ixL {i : Int} (ha : EvD ta σ Hb (.lst ds)) (hb : EvD tb σ Hb (.int i)) (h : atI ds i = some d) : EvD (tOp (rIxL K) ta tb) σ Hb d := fun F H S Q q =>
  ha.thn S fun x H2 e2 S2 rx => hb.thn S2 fun y H3 e3 S3 ry => by
    obtain ⟨a, xs, rfl, n, hx, rs⟩ := (rx.mono (less_mono e3)).lstI
    obtain ⟨v, h1, h2⟩ := atI_rp rs h
    rw [ry.intI]
    exact ⟨a, xs, i, v, rfl, rfl, sq_of (less_ex a _ hx), h1, q v H3 (e2.trans e3) h2⟩
theorem ed_ixT {i : Int} (ha : EvD ta σ Hb (.tup ds)) (hb : EvD tb σ Hb (.int i)) (h : atI ds i = some d) : EvD (tOp (rIxT K) ta tb) σ Hb d := fun F H S Q q =>
  ha.thn S fun x H2 e2 S2 rx => hb.thn S2 fun y H3 e3 S3 ry => by
    obtain ⟨a, xs, rfl, hx, rs⟩ := (rx.mono (less_mono e3)).tupI
    obtain ⟨v, h1, h2⟩ := atI_rp rs h
    rw [ry.intI]
    exact ⟨a, xs, i, v, rfl, rfl, st_of (less_ex a _ hx), h1, q v H3 (e2.trans e3) h2⟩
/-- len -/
theorem ed_lenL (ha : EvD ta σ Hb (.lst ds)) : EvD (tCB (rLenS K) (tCons ta tNil)) σ Hb (.int (ds.length : Int)) := fun F H S Q q =>
  ha.thn S fun x H2 e2 S2 rx => by
    obtain ⟨a, xs, rfl, n, hx, rs⟩ := rx.lstI
    refine ⟨a, xs, rfl, .inl (sq_of (less_ex a _ hx)), ?_⟩
    rw [rs.length]
    exact q _ H2 e2 (.int _)
theorem ed_lenT (ha : EvD ta σ Hb (.tup ds)) : EvD (tCB (rLenS K) (tCons ta tNil)) σ Hb (.int (ds.length : Int)) := fun F H S Q q =>
  ha.thn S fun x H2 e2 S2 rx => by
    obtain ⟨a, xs, rfl, hx, rs⟩ := rx.tupI
    refine ⟨a, xs, rfl, .inr (st_of (less_ex a _ hx)), ?_⟩
    rw [rs.length]
    exact q _ H2 e2 (.int _)
/-- slices -/
def cutD {α : Type} (xs : List α) (lo hi : Option Int) : List α := (xs.drop (HT.sIx xs.length 0 lo)).take (HT.sIx xs.length xs.length hi - HT.sIx xs.length 0 lo)
theorem RpL.cut {N : Addr → Prop} {xs : List V} (r : RpL N H xs ds) (lo hi : Option Int) : RpL N H (cutV xs lo hi) (cutD ds lo hi) := by
  unfold cutV cutD
  rw [r.length]
  exact (r.drop _).take _
theorem cutD_map {α β : Type} (f : α → β) (xs : List α) (lo hi : Option Int) : cutD (xs.map f) lo hi = (cutD xs lo hi).map f := by
  unfold cutD
  rw [List.length_map, List.map_take, List.map_drop]
theorem cutD_to {α : Type} (xs : List α) (n : Nat) : cutD xs none (some (n : Int)) = xs.take n := by
  unfold cutD
  rw [HT.sIx_none, show HT.sIx xs.length xs.length (some ((n : Nat) : Int)) = min n xs.length from HT.sIx_nat xs.length xs.length n]
  rw [List.drop_zero, Nat.sub_zero, List.take_eq_take_iff]
  omega
theorem cutD_from {α : Type} (xs : List α) (n : Nat) : cutD xs (some (n : Int)) none = xs.drop n := by
  unfold cutD
  rw [HT.sIx_none, show HT.sIx xs.length 0 (some ((n : Nat) : Int)) = min n xs.length from HT.sIx_nat xs.length 0 n]
  rcases Nat.lt_or_ge n xs.length with c | c
  · rw [Nat.min_eq_left (by omega), List.take_of_length_le (by simp)]
  · rw [Nat.min_eq_right c, List.drop_eq_nil_of_le (Nat.le_refl _), List.drop_eq_nil_of_le c]; simp
theorem eo_nil : EvO tNoPart σ H none := eo_none
theorem eo_d {i : Int} (h : EvD te σ Hb (.int i)) : EvO (tPart te) σ Hb (some i) := eo_some h.int
theorem ef_slL {tl th : TO} {lo hi : Option Int} (ha : EvD ta σ Hb (.lst ds)) (h1 : EvO tl σ Hb lo) (h2 : EvO th σ Hb hi) : EvF (tSl (rSlL K) ta tl th) σ Hb (cutD ds lo hi) := fun F H S Q q =>
  ha.thn S fun x H2 e2 S2 rx => h1 H2 S2.ex _ fun H3 e3 => h2 H3 (S2.ex.trans e3) _ fun H4 e4 => by
    obtain ⟨a, xs, rfl, n, hx, rs⟩ := (rx.mono (less_mono (e3.trans e4))).lstI
    exact ⟨a, xs, rfl, sq_of (less_ex a _ hx), ef_mk S ((e2.trans e3).trans e4) (rs.cut lo hi) q⟩
/-- list + list -/
theorem ef_cat (ha : EvD ta σ Hb (.lst ds)) (hb : EvD tb σ Hb (.lst es)) (hl : ds.length + es.length ≤ 100000) : EvF (tOp rCat ta tb) σ Hb (ds ++ es) := fun F H S Q q =>
  ha.thn S fun x H2 e2 S2 rx => hb.thn S2 fun y H3 e3 S3 ry => by
    obtain ⟨a, xs, rfl, n, hx, rs⟩ := (rx.mono (less_mono e3)).lstI
    obtain ⟨b, ys, rfl, m, hy, rt⟩ := ry.lstI
    exact ⟨a, b, xs, ys, rfl, rfl, less_ex a _ hx, less_ex b _ hy, sz_of (by rw [rs.length, rt.length]; exact hl), ef_mk S (e2.trans e3) (rs.append rt) q⟩
theorem flat_rep {α : Type} (v : α) : ∀ n, (List.replicate n [v]).flatten = List.replicate n v
  | 0 => rfl
  | n + 1 => by rw [List.replicate_succ, List.flatten_cons, flat_rep v n]; rfl
/-- list * int -/
theorem ef_rep {k : Int} {n : Nat} (ha : EvD ta σ Hb (.lst [d])) (hb : EvD tb σ Hb (.int k)) (hk : k = (n : Int)) (hn : n ≤ 100000) : EvF (tOp rRep ta tb) σ Hb (List.replicate n d) := fun F H S Q q =>
  ha.thn S fun x H2 e2 S2 rx => hb.thn S2 fun y H3 e3 S3 ry => by
    obtain ⟨a, xs, rfl, m, hx, rs⟩ := (rx.mono (less_mono e3)).lstI
    rw [ry.intI]
    cases rs with
    | cons r t =>
      rename_i v0 vs0
      cases t
      subst hk
      refine ⟨a, (n : Int), [v0], rfl, rfl, less_ex a _ hx, by omega, by omega, sz_of (by simp; omega), fun p hp => ?_⟩
      show Q (.ref p) (upd H3 p (.lst (List.replicate n [v0]).flatten))
      rw [flat_rep]
      exact ef_mk S (e2.trans e3) (RpL.rep r n) q p hp
/-- list(..), tuple(..) -/
theorem ef_list (ha : EvD ta σ Hb (.lst ds)) : EvF (tCB (rListS K) (tCons ta tNil)) σ Hb ds := fun F H S Q q =>
  ha.thn S fun x H2 e2 S2 rx => by
    obtain ⟨a, xs, rfl, n, hx, rs⟩ := rx.lstI
    exact ⟨a, xs, rfl, .inl (sq_of (less_ex a _ hx)), ef_mk S e2 rs q⟩
theorem ef_listT (ha : EvD ta σ Hb (.tup ds)) : EvF (tCB (rListS K) (tCons ta tNil)) σ Hb ds := fun F H S Q q =>
  ha.thn S fun x H2 e2 S2 rx => by
    obtain ⟨a, xs, rfl, hx, rs⟩ := rx.tupI
    exact ⟨a, xs, rfl, .inr (st_of (less_ex a _ hx)), ef_mk S e2 rs q⟩
def rTupleS (K : PySem.W.Frag) : List V → Hp → VK → Prop := fun xs H Q => ∃ p ys, xs = [.ref p] ∧ ((SqL K H p ys ∧ ∀ l, H l = none → Q (.ref l) (upd H l (.tup ys))) ∨ (SqT K H p ys ∧ Q (.ref p) H))
theorem ed_tuple (ha : EvD ta σ Hb (.lst ds)) : EvD (tCB (rTupleS K) (tCons ta tNil)) σ Hb (.tup ds) := fun F H S Q q =>
  ha.thn S fun x H2 e2 S2 rx => by
    obtain ⟨a, xs, rfl, n, hx, rs⟩ := rx.lstI
    exact ⟨a, xs, rfl, .inl ⟨sq_of (less_ex a _ hx), fun p hp => q (.ref p) _ (e2.trans (Ex.new hp)) (.tup (by rw [less_some (S2.new hp)]; exact upd_same) (rs.mono (less_mono (Ex.new hp))))⟩⟩
/-- x in a list of ints -/
theorem inV_ints (i : Int) : ∀ ns : List Int, inV (.int i) (ns.map V.int) = decide (i ∈ ns)
  | [] => by simp [inV]
  | n :: r => by
    have ih := inV_ints i r
    unfold inV at ih ⊢
    rw [List.map_cons, List.any_cons, ih]
    have e : eqV (.int n) (.int i) = decide (i = n) := by
      show (n == i) = decide (i = n)
      rw [Bool.eq_iff_iff, beq_iff_eq, decide_eq_true_iff]; exact eq_comm
    rw [e, Bool.eq_iff_iff]
    simp
theorem flat_ints (ns : List Int) : (ns.map V.int).all flatV = true := by
  rw [List.all_eq_true]; intro z hz; obtain ⟨k, _, rfl⟩ := List.mem_map.mp hz; rfl
theorem ed_inL {i : Int} {ns : List Int} (ha : EvD ta σ Hb (.int i)) (hb : EvD tb σ Hb (dInts ns)) : EvD (tOp (rIn K false) ta tb) σ Hb (.bl (decide (i ∈ ns))) := fun F H S Q q =>
  ha.thn S fun x H2 e2 S2 rx => hb.thn S2 fun y H3 e3 S3 ry => by
    obtain ⟨a, xs, rfl, n, hx, rs⟩ := Rp.lstI ry
    rw [rx.intI]
    have ex := rs.ofInts
    subst ex
    refine ⟨a, _, rfl, .inl (sq_of (less_ex a _ hx)), rfl, flat_ints ns, ?_⟩
    rw [if_neg Bool.false_ne_true, inV_ints]
    exact q _ H3 (e2.trans e3) (.bl _)
theorem ed_niL {i : Int} {ns : List Int} (ha : EvD ta σ Hb (.int i)) (hb : EvD tb σ Hb (dInts ns)) : EvD (tOp (rIn K true) ta tb) σ Hb (.bl (decide (i ∉ ns))) := fun F H S Q q =>
  ha.thn S fun x H2 e2 S2 rx => hb.thn S2 fun y H3 e3 S3 ry => by
    obtain ⟨a, xs, rfl, n, hx, rs⟩ := Rp.lstI ry
    rw [rx.intI]
    have ex := rs.ofInts
    subst ex
    refine ⟨a, _, rfl, .inl (sq_of (less_ex a _ hx)), rfl, flat_ints ns, ?_⟩
    rw [if_pos rfl, inV_ints]
    have e : (!decide (i ∈ ns)) = decide (i ∉ ns) := by simp
    rw [e]
    exact q _ H3 (e2.trans e3) (.bl _)
theorem ed_inT {i : Int} {ns : List Int} (ha : EvD ta σ Hb (.int i)) (hb : EvD tb σ Hb (.tup (ns.map Dt.int))) : EvD (tOp (rIn K false) ta tb) σ Hb (.bl (decide (i ∈ ns))) := fun F H S Q q =>
  ha.thn S fun x H2 e2 S2 rx => hb.thn S2 fun y H3 e3 S3 ry => by
    obtain ⟨a, xs, rfl, hx, rs⟩ := Rp.tupI ry
    rw [rx.intI]
    have ex := rs.ofInts
    subst ex
    refine ⟨a, _, rfl, .inr (st_of (less_ex a _ hx)), rfl, flat_ints ns, ?_⟩
    rw [if_neg Bool.false_ne_true, inV_ints]
    exact q _ H3 (e2.trans e3) (.bl _)
/-- isinstance(x, T), a built-in class -/
def Dt.ty : Dt → String
  | .non => "NoneType"
  | .bl _ => "bool"
  | .int _ => "int"
  | .str _ => "str"
  | .lst _ => "list"
  | .tup _ => "tuple"
  | .dic => "dict"
theorem Rp.tyx {N : Addr → Prop} {v : V} (r : Rp N H v d) : TyX K H v (.type d.ty) := by
  cases r with
  | non => exact .base .non
  | bl b => exact .base (.bl b)
  | int b => exact .base (.int b)
  | str b => exact .base (.str b)
  | lst _ h _ => exact .base (.lst h)
  | tup h _ => exact .base (.tup h)
  | dic h => exact .base (.dK h)
theorem ed_isi {T : String} {b : Bool} (ha : EvD ta σ Hb d) (hb : kitB d.ty T = some b) : EvD (tCB (rIsi K) (tCons ta (tCons (tC (.ty T)) tNil))) σ Hb (.bl b) := fun F H S Q q =>
  ha.thn S fun x H2 e2 S2 rx => ⟨x, .ty T, .type d.ty, .type T, b, rfl, .ty T, (rx.mono less_ex).tyx, kit_ty hb, q _ H2 e2 (.bl b)⟩
/-- and, or, not, if .. else as values -/
theorem ed_and {a b : Bool} (h1 : EvD ta σ Hb (.bl a)) (h2 : a = true → EvD tb σ Hb (.bl b)) : EvD (tAndV ta tb) σ Hb (.bl (a && b)) := edB (ev_andV h1.bl fun h => (h2 h).bl)
theorem ed_or {a b : Bool} (h1 : EvD ta σ Hb (.bl a)) (h2 : a = false → EvD tb σ Hb (.bl b)) : EvD (tOrV ta tb) σ Hb (.bl (a || b)) := edB (ev_orV h1.bl fun h => (h2 h).bl)
theorem ed_not {a : Bool} (h1 : EvD ta σ Hb (.bl a)) : EvD (tNotV ta) σ Hb (.bl (!a)) := edB (ev_notV h1.bl)
theorem ed_if {t : TT} {b : Bool} (h : EvT t σ Hb b) (h1 : b = true → EvD ta σ Hb d) (h2 : b = false → EvD tb σ Hb d) : EvD (tIf t ta tb) σ Hb d := fun F H S Q q => h H S.ex _ fun H2 e2 => by
  cases b with
  | true => exact h1 rfl F H2 (S.on e2) Q fun v H3 e3 r => q v H3 (e2.trans e3) r
  | false => exact h2 rfl F H2 (S.on e2) Q fun v H3 e3 r => q v H3 (e2.trans e3) r
theorem et_d {b : Bool} (h : EvD te σ Hb (.bl b)) : EvT (tTest te) σ Hb b := et_test h.bl
theorem et_dB {b : Bool} (h : EvD te σ Hb (.bl b)) : EvT (tB te) σ Hb b := et_B h.bl

/-! ### comprehensions -/
/-- what a turn keeps: the list at Dl beside -/
def Cd (Hb : Hp) (F : List Addr) (H1 : Hp) (Dl : Addr) (ds : List Dt) (H' : Hp) : Prop := H1 Dl = none ∧ Ex H1 (less H' [Dl]) ∧ ∃ xs, H' Dl = some (.lst xs) ∧ RpL Any (less H' (Dl :: F)) xs ds
theorem cd_turn {F : List Addr} {H1 : Hp} {Dl : Addr} {t : TT} {σ2 : L2.St} {b : Bool} {R : Hp → Prop} (p : Cd Hb F H1 Dl ds H') (S : Beside Hb F H1) (hz : ds.length < 50000) (ht : EvT t σ2 (less H' (Dl :: F)) b) (he : b = true → EvD te σ2 (less H' (Dl :: F)) e)
    (hr : ∀ H', Cd Hb F H1 Dl (if b = true then ds ++ [e] else ds) H' → R H') :
    t σ2 H' fun b H3 => if b = true then te σ2 H3 fun y H4 => ∃ acc, H4 Dl = some (.lst acc) ∧ acc.length < sizeLine ∧ R (upd H4 Dl (.lst (acc ++ [y]))) else R H3 := by
  obtain ⟨hD, eb, xs, hx, r⟩ := p
  have e1 : Ex H1 H' := eb.trans less_ex
  have S2 : Beside (less H' (Dl :: F)) (Dl :: F) H' := ⟨less_ex, fun a ha => ⟨less_none ha, by
    rcases List.mem_cons.mp ha with e | ha
    · subst e; exact ⟨xs, hx⟩
    · exact ((S.on e1).at_ a ha).2⟩⟩
  refine ht H' less_ex _ fun H3 e3 => ?_
  have c3 : Ex H1 (less H3 [Dl]) := eb.trans (less_mono e3)
  cases b with
  | false => exact hr _ ⟨hD, c3, xs, e3 _ _ hx, r.mono (less_mono e3)⟩
  | true =>
    refine (he rfl).thn (S2.on e3) fun y H4 e4 S4 ry => ⟨xs, e4 _ _ (e3 _ _ hx), sz_lt (by rw [r.length]; omega), hr _ ⟨hD, ?_, xs ++ [y], upd_same, ?_⟩⟩
    · refine (c3.trans (less_mono e4)).trans fun a o h => ?_
      by_cases c : a ∈ [Dl]
      · rw [less_none c] at h; cases h
      · rw [less_some c] at h ⊢
        rw [upd_ne (by simpa using c)]; exact h
    · have ex : Ex (less H4 (Dl :: F)) (less (upd H4 Dl (.lst (xs ++ [y]))) (Dl :: F)) := fun a o h => by
        by_cases c : a ∈ Dl :: F
        · rw [less_none c] at h; cases h
        · rw [less_some c] at h ⊢
          rw [upd_ne (fun z => c (by rw [z]; exact List.mem_cons_self))]; exact h
      exact ((r.mono (less_mono (e3.trans e4))).append (.one ry)).mono ex
def stepsD (n : Nat) (f : Nat → Bool) (g : Nat → Dt) : List Dt := ((List.range n).filter f).map g
theorem stepsD_next (n : Nat) (f : Nat → Bool) (g : Nat → Dt) : stepsD (n + 1) f g = if f n = true then stepsD n f g ++ [g n] else stepsD n f g := by
  unfold stepsD
  rw [List.range_succ, List.filter_append, List.map_append]
  by_cases h : f n = true
  · rw [if_pos h, List.filter_cons, if_pos h]; rfl
  · rw [if_neg h, List.filter_cons, if_neg h]; simp
theorem stepsD_len (n : Nat) (f : Nat → Bool) (g : Nat → Dt) : (stepsD n f g).length ≤ n := by
  unfold stepsD
  rw [List.length_map]
  have h := List.length_filter_le f (List.range n)
  rw [List.length_range] at h
  exact h
theorem cd_start {F : List Addr} {H1 : Hp} {Dl : Addr} (hD : H1 Dl = none) : Cd Hb F H1 Dl [] (upd H1 Dl (.lst [])) :=
  ⟨hD, fun a o h => by rw [less_some (by simpa using ne_of_none h hD), upd_ne (ne_of_none h hD)]; exact h, [], upd_same, .nil⟩
/-- over range(n) -/
theorem ef_lcR1 {t : TT} {ar : TA} {j : Nat} {vs : List Nat} {n : Nat} (f : Nat → Bool) (g : Nat → Dt) (h : EvDs ar σ Hb [.int (n : Int)]) (hn : n ≤ 40000) (hw : ∀ x, wipe ((wipe σ vs).set j (some x)) vs = wipe σ vs)
    (ht : ∀ (i : Nat) H1, Ex Hb H1 → i < n → EvT t ((wipe σ vs).set j (some (.int (i : Int)))) H1 (f i)) (he : ∀ (i : Nat) H1, Ex Hb H1 → i < n → f i = true → EvD te ((wipe σ vs).set j (some (.int (i : Int)))) H1 (g i)) :
    EvF (tLc (iRng1 ar) (gName j) t te vs) σ Hb (stepsD n f g) := fun F H S Q q => h F H S _ fun ws H1 e1 r => by
  cases r with
  | cons r r' =>
    cases r'
    cases r
    refine ⟨(n : Int), rfl, by omega, by omega, fun Dl hD => ?_⟩
    refine lc_range (lo := 0) (n := ((n : Int)).toNat) (fun i H' => Cd Hb F H1 Dl (stepsD i f g) H') (cd_start hD) (fun i H' hi p => ?_) (fun H' p => ?_)
    · have e0 : (0 : Int) + (i : Int) = (i : Int) := Int.zero_add _
      rw [e0]
      refine ⟨hw _, ?_⟩
      have S1 := S.on e1
      have eb : Ex Hb (less H' (Dl :: F)) := fun a o ha => by
        have h1 := p.2.1 a o (S1.ex a o ha)
        have ne : a ≠ Dl := ne_of_none (S1.ex a o ha) hD
        rw [less_some (by simp [ne, S1.out ha])]
        rw [less_some (by simpa using ne)] at h1
        exact h1
      refine cd_turn (R := Cd Hb F H1 Dl (stepsD (i + 1) f g)) p S1 (by have := stepsD_len i f g; omega) (ht i _ eb (by omega)) (fun hf => he i _ eb (by omega) hf) (fun H2 c => ?_)
      rw [stepsD_next]; exact c
    · obtain ⟨_, eb, xs, hx, r⟩ := p
      rw [Int.toNat_natCast] at r
      exact q Dl xs H' (fresh_back e1 hD) (e1.trans (eb.trans less_ex)) hx r
end
end Nc

namespace Nc
open PySem PySem.Spec PyProof.Rows L2 Evl

/-! ### data without lists -/
mutual
def Dt.flat : Dt → Bool
  | .lst _ => false
  | .tup l => Dt.flats l
  | _ => true
def Dt.flats : List Dt → Bool
  | [] => true
  | d :: l => d.flat && Dt.flats l
end
mutual
theorem Rp.flat {N N' : Addr → Prop} {H : Hp} : ∀ {v : V} {d : Dt}, d.flat = true → Rp N H v d → Rp N' H v d
  | _, _, _, .non => .non
  | _, _, _, .bl b => .bl b
  | _, _, _, .int b => .int b
  | _, _, _, .str b => .str b
  | _, _, h, .tup e r => .tup e (RpL.flat (by simpa [Dt.flat] using h) r)
  | _, _, _, .dic e => .dic e
  | _, _, h, .lst _ _ _ => by simp [Dt.flat] at h
theorem RpL.flat {N N' : Addr → Prop} {H : Hp} : ∀ {vs : List V} {ds : List Dt}, Dt.flats ds = true → RpL N H vs ds → RpL N' H vs ds
  | _, _, _, .nil => .nil
  | _, _, h, .cons r t => by
    simp only [Dt.flats, Bool.and_eq_true] at h
    exact .cons (Rp.flat h.1 r) (RpL.flat h.2 t)
end
theorem flats_all {l : List Dt} : Dt.flats l = true ↔ ∀ d ∈ l, d.flat = true := by
  induction l with
  | nil => simp [Dt.flats]
  | cons d l ih => simp only [Dt.flats, Bool.and_eq_true, ih, List.mem_cons, forall_eq_or_imp]
theorem flats_ints (L : List Int) : Dt.flats (L.map Dt.int) = true := flats_all.mpr fun d hd => by
  obtain ⟨x, _, rfl⟩ := List.mem_map.mp hd; rfl
theorem flats_nats (L : List Nat) : Dt.flats (L.map fun x => Dt.int (x : Nat)) = true := flats_all.mpr fun d hd => by
  obtain ⟨x, _, rfl⟩ := List.mem_map.mp hd; rfl
theorem flat_grp (g : List Nat) : (dGrp g).flat = true := by
  show Dt.flats _ = true
  exact flats_nats g
theorem flats_grps (gs : List (List Nat)) : Dt.flats (gs.map dGrp) = true := flats_all.mpr fun d hd => by
  obtain ⟨x, _, rfl⟩ := List.mem_map.mp hd; exact flat_grp x

/-! ### new things -/
def EvR (te : TE) (σ : L2.St) (Hb : Hp) (R : Dt → Prop) : Prop := ∀ F H, Beside Hb F H → ∀ Q : VK, (∀ e v H', R e → Ex H H' → Rp (Fresh H) H' v e → Q v H') → te σ H Q
def EvN (te : TE) (σ : L2.St) (Hb : Hp) (d : Dt) : Prop := ∀ F H, Beside Hb F H → ∀ Q : VK, (∀ v H', Ex H H' → Rp (Fresh H) H' v d → Q v H') → te σ H Q
def EvNs (ta : TA) (σ : L2.St) (Hb : Hp) (ds : List Dt) : Prop := ∀ F H, Beside Hb F H → ∀ Q : List V → Hp → Prop, (∀ vs H', Ex H H' → RpL (Fresh H) H' vs ds → Q vs H') → ta σ H Q
section
variable {σ : L2.St} {Hb Hb' H H' : Hp} {d e : Dt} {ds es : List Dt} {te ta tb tc : TE} {K : PySem.W.Frag} {F : List Addr} {R : Dt → Prop}
theorem EvN.mono (e : Ex Hb Hb') (h : EvN te σ Hb d) : EvN te σ Hb' d := fun F H S Q q => h F H (S.down e) Q q
theorem EvN.dd (h : EvN te σ Hb d) : EvD te σ Hb d := fun F H S Q q => h F H S Q fun v H' e r => q v H' e (S.fresh e r)
theorem EvD.nn (h : EvD te σ Hb d) (f : d.flat = true) : EvN te σ Hb d := fun F H S Q q => h F H S Q fun v H' e r => q v H' e ((r.mono less_ex).flat f)
theorem EvF.nn (h : EvF te σ Hb ds) (f : Dt.flats ds = true) : EvN te σ Hb (.lst ds) := fun F H S Q q => h F H S Q fun p xs H' hp e hx r => q _ H' e (.lst hp hx ((r.mono less_ex).flat f))
theorem en_nil : EvNs tNil σ Hb [] := fun F H S Q q => q [] H (Ex.refl H) .nil
theorem en_cons {tr : TA} (h : EvN ta σ Hb d) (hr : EvNs tr σ Hb ds) : EvNs (tCons ta tr) σ Hb (d :: ds) := fun F H S _ q =>
  h F H S _ fun v H2 e2 r => hr F H2 (S.on e2) _ fun vs H3 e3 rs => q (v :: vs) H3 (e2.trans e3) (.cons (r.mono e3) (rs.wk fun a n => fresh_back e2 n))
theorem en_tup {ta : TA} (h : EvNs ta σ Hb ds) (hl : ds.length ≤ 100000) : EvN (tTup ta) σ Hb (.tup ds) := fun F H S Q q =>
  h F H S _ fun vs H2 e2 r => ⟨sz_of (by rw [r.length]; exact hl), fun p hp => q (.ref p) _ (e2.trans (Ex.new hp)) (.tup upd_same (r.mono (Ex.new hp)))⟩
theorem en_lst {ta : TA} (h : EvNs ta σ Hb ds) (hl : ds.length ≤ 100000) : EvN (tLst ta) σ Hb (.lst ds) := fun F H S Q q =>
  h F H S _ fun vs H2 e2 r => ⟨sz_of (by rw [r.length]; exact hl), fun p hp => q (.ref p) _ (e2.trans (Ex.new hp)) (.lst (fresh_back e2 hp) upd_same (r.mono (Ex.new hp)))⟩

/-! ### promises of defs over data -/
def spD (n : Nat) (pre : List Dt → Prop) (f : List Dt → Dt) : Sp := fun vs H Q _ => vs.length = n ∧ ∃ ds, RpL Any H vs ds ∧ pre ds ∧ ∀ v H', Ex H H' → Rp (Fresh H) H' v (f ds) → Q v H'
def spR (n : Nat) (pre : List Dt → Prop) (R : List Dt → Dt → Prop) : Sp := fun vs H Q _ => vs.length = n ∧ ∃ ds, RpL Any H vs ds ∧ pre ds ∧ ∀ e v H', R ds e → Ex H H' → Rp (Fresh H) H' v e → Q v H'
theorem en_call {n : Nat} {pre : List Dt → Prop} {f : List Dt → Dt} {E : XK} {ta : TA} (h : EvDs ta σ Hb ds) (hp : pre ds) (hl : ds.length = n) : EvN (tCall (spD n pre f) [] E ta) σ Hb (f ds) := fun F H S Q q =>
  h F H S _ fun vs H1 e1 r => by
    show spD n pre f (vs ++ []) H1 Q E
    rw [List.append_nil]
    exact ⟨by rw [r.length]; exact hl, ds, r.mono less_ex, hp, fun v H' e2 rv => q v H' (e1.trans e2) (rv.wk fun a n => fresh_back e1 n)⟩
theorem er_call {n : Nat} {pre : List Dt → Prop} {R : List Dt → Dt → Prop} {E : XK} {ta : TA} (h : EvDs ta σ Hb ds) (hp : pre ds) (hl : ds.length = n) : EvR (tCall (spR n pre R) [] E ta) σ Hb (R ds) := fun F H S Q q =>
  h F H S _ fun vs H1 e1 r => by
    show spR n pre R (vs ++ []) H1 Q E
    rw [List.append_nil]
    exact ⟨by rw [r.length]; exact hl, ds, r.mono less_ex, hp, fun e v H' re e2 rv => q e v H' re (e1.trans e2) (rv.wk fun a n => fresh_back e1 n)⟩
theorem ed_call {n : Nat} {pre : List Dt → Prop} {f : List Dt → Dt} {E : XK} {ta : TA} (h : EvDs ta σ Hb ds) (hp : pre ds) (hl : ds.length = n) : EvD (tCall (spD n pre f) [] E ta) σ Hb (f ds) := (en_call h hp hl).dd

/-! ### statements -/
variable {D : Ends} {tz tu tw : TS} {t : TT}
theorem q_set {i : Nat} (S : Beside Hb F H) (h : EvD te σ Hb d) (k : ∀ v Hb' H', Ex Hb Hb' → Ex H H' → Beside Hb' F H' → Rp Any Hb' v d → tz D (σ.set i (some v)) H') : tSeq (tAsg te (gName i)) tz D σ H :=
  h F H S _ fun v H' e r => k v (less H' F) H' (S.lessEx e) e (S.on e).sep r
theorem q_setN {i : Nat} (S : Beside Hb F H) (h : EvN te σ Hb d) (k : ∀ v Hb' H', Ex Hb Hb' → Ex H H' → Beside Hb' F H' → Rp (Fresh H) Hb' v d → tz D (σ.set i (some v)) H') : tSeq (tAsg te (gName i)) tz D σ H :=
  h F H S _ fun v H' e r => k v (less H' F) H' (S.lessEx e) e (S.on e).sep (r.to (fun a xs n h => ⟨n, by rw [less_some (S.new n)]; exact h⟩) (fun a xs h => by rw [less_some (S.tup e h)]; exact h) fun a k h => by rw [less_some (S.dic e h)]; exact h)
theorem q_setR {i : Nat} (S : Beside Hb F H) (h : EvR te σ Hb R) (k : ∀ d v Hb' H', R d → Ex Hb Hb' → Ex H H' → Beside Hb' F H' → Rp (Fresh H) Hb' v d → tz D (σ.set i (some v)) H') : tSeq (tAsg te (gName i)) tz D σ H :=
  h F H S _ fun d v H' re e r => k d v (less H' F) H' re (S.lessEx e) e (S.on e).sep (r.to (fun a xs n h => ⟨n, by rw [less_some (S.new n)]; exact h⟩) (fun a xs h => by rw [less_some (S.tup e h)]; exact h) fun a k h => by rw [less_some (S.dic e h)]; exact h)
/-- a new list, beside from here on -/
theorem q_setF {i : Nat} (S : Beside Hb F H) (h : EvF te σ Hb ds) (k : ∀ p xs Hb' H', H p = none → Ex Hb Hb' → Ex H H' → Beside Hb' (p :: F) H' → H' p = some (.lst xs) → RpL Any Hb' xs ds → tz D (σ.set i (some (.ref p))) H') : tSeq (tAsg te (gName i)) tz D σ H :=
  h F H S _ fun p xs H' hp e hx r => k p xs (less H' (p :: F)) H' hp (fun a o ha => by
    rw [less_some]
    · exact e a o (S.ex a o ha)
    · intro z
      rcases List.mem_cons.mp z with z | z
      · subst z; rw [S.ex _ _ ha] at hp; cases hp
      · exact S.out ha z) e ⟨less_ex, fun a ha => ⟨less_none ha, by
    rcases List.mem_cons.mp ha with z | ha
    · subst z; exact ⟨xs, hx⟩
    · exact ((S.on e).at_ a ha).2⟩⟩ hx r
theorem q_ifD {b : Bool} (S : Beside Hb F H) (h : EvT t σ Hb b) (h1 : b = true → ∀ H', Ex H H' → Beside Hb F H' → tu { D with nx := tz D } σ H') (h2 : b = false → ∀ H', Ex H H' → Beside Hb F H' → tw { D with nx := tz D } σ H') : tSeq (tIfS t tu tw) tz D σ H :=
  h H S.ex _ fun H1 e => by
    cases b with
    | true => exact h1 rfl H1 e (S.on e)
    | false => exact h2 rfl H1 e (S.on e)
theorem s_ifD {b : Bool} (S : Beside Hb F H) (h : EvT t σ Hb b) (h1 : b = true → ∀ H', Ex H H' → Beside Hb F H' → tu D σ H') (h2 : b = false → ∀ H', Ex H H' → Beside Hb F H' → tw D σ H') : tIfS t tu tw D σ H :=
  h H S.ex _ fun H1 e => by
    cases b with
    | true => exact h1 rfl H1 e (S.on e)
    | false => exact h2 rfl H1 e (S.on e)
/-- an if without else, its test known to fail -/
theorem q_skip (S : Beside Hb F H) (h : EvT t σ Hb false) (k : ∀ H', Ex H H' → Beside Hb F H' → tz D σ H') : tSeq (tIfS t tu tNext) tz D σ H := q_ifD S h (fun z => nomatch z) fun _ H' e S' => k H' e S'
theorem s_retD (S : Beside Hb F H) (h : EvD te σ Hb d) (k : ∀ v H', Ex H H' → Rp Any (less H' F) v d → D.rt v H') : tRet te D σ H := h F H S _ fun v H' e r => k v H' e r
theorem s_retN (S : Beside Hb F H) (h : EvN te σ Hb d) (k : ∀ v H', Ex H H' → Rp (Fresh H) H' v d → D.rt v H') : tRet te D σ H := h F H S _ fun v H' e r => k v H' e r
/-- l.append(e) -/
theorem upd_less {l : Addr} {o : HO} (h : l ∈ F) : less (upd H l o) F = less H F := by
  funext a
  by_cases c : a ∈ F
  · rw [less_none c, less_none c]
  · rw [less_some c, less_some c, upd_ne (fun z => c (by rw [z]; exact h))]
theorem Beside.write {l : Addr} {xs : List V} (S : Beside Hb F H) (h : l ∈ F) : Beside Hb F (upd H l (.lst xs)) :=
  ⟨fun a o ha => by rw [upd_ne (fun z => S.out ha (by rw [z]; exact h))]; exact S.ex a o ha, fun a ha => ⟨(S.at_ a ha).1, by
    by_cases c : a = l
    · subst c; exact ⟨xs, upd_same⟩
    · rw [upd_ne c]; exact (S.at_ a ha).2⟩⟩
theorem s_appD {i : Nat} {l : Addr} {xs : List V} (S : Beside Hb F H) (hF : l ∈ F) (hl : H l = some (.lst xs)) (hv : σ[i]? = some (some (.ref l))) (h : EvD te σ Hb d) (hz : xs.length < 100000)
    (k : ∀ v Hb' H', Ex Hb Hb' → Beside Hb' F H' → (∀ a o, a ≠ l → H a = some o → H' a = some o) → H' l = some (.lst (xs ++ [v])) → Rp Any Hb' v d → D.nx σ H') : tDrop (tBM K "list" rAppend (tVar i) (tCons te tNil)) D σ H :=
  ⟨.ref l, hv, Or.inl ⟨rfl, xs, sq_of hl⟩, h F H S _ fun v H2 e2 r => ⟨l, xs, v, rfl, rfl, e2 l _ hl, sz_lt hz,
    k v (less H2 F) _ (S.lessEx e2) ((S.on e2).sep.write hF) (fun a o hne ha => by rw [upd_ne hne]; exact e2 a o ha) upd_same r⟩⟩
theorem q_appD {i : Nat} {l : Addr} {xs : List V} (S : Beside Hb F H) (hF : l ∈ F) (hl : H l = some (.lst xs)) (hv : σ[i]? = some (some (.ref l))) (h : EvD te σ Hb d) (hz : xs.length < 100000)
    (k : ∀ v Hb' H', Ex Hb Hb' → Beside Hb' F H' → (∀ a o, a ≠ l → H a = some o → H' a = some o) → H' l = some (.lst (xs ++ [v])) → Rp Any Hb' v d → tz D σ H') : tSeq (tDrop (tBM K "list" rAppend (tVar i) (tCons te tNil))) tz D σ H := s_appD (D := { D with nx := tz D }) S hF hl hv h hz k
/-- l[j] = e -/
theorem s_putD {i : Nat} {l : Addr} {xs : List V} {j : Nat} (S : Beside Hb F H) (hF : l ∈ F) (hl : H l = some (.lst xs)) (hv : σ[i]? = some (some (.ref l))) (h : EvD te σ Hb d) (hj : EvD tb σ Hb (.int (j : Int))) (hz : j < xs.length)
    (k : ∀ v Hb' H', Ex Hb Hb' → Beside Hb' F H' → (∀ a o, a ≠ l → H a = some o → H' a = some o) → H' l = some (.lst (xs.set j v)) → Rp Any Hb' v d → D.nx σ H') : tAsg te (gSub (tVar i) tb rSetL) D σ H :=
  h F H S _ fun v H1 e1 r => ⟨.ref l, hv, hj F H1 (S.on e1) _ fun y H2 e2 ry => by
    rw [ry.intI]
    refine ⟨l, xs, (j : Int), j, rfl, rfl, (e1.trans e2) l _ hl, ixN_nat hz, ?_⟩
    exact k v (less H2 F) _ (S.lessEx (e1.trans e2)) ((S.on (e1.trans e2)).sep.write hF) (fun a o hne ha => by rw [upd_ne hne]; exact (e1.trans e2) a o ha) upd_same (r.mono (less_mono e2))⟩
/-! loops -/
theorem s_forR {ar : TA} {j n : Nat} (S : Beside Hb F H) (h : EvDs ar σ Hb [.int (n : Int)]) (hn : n ≤ 100000) (Pv : Nat → L2.St → Hp → Prop) (h0 : ∀ H1, Ex H H1 → Pv 0 σ H1)
    (hs : ∀ (i : Nat) σ' H', i < n → Pv i σ' H' → tu { D with nx := Pv (i + 1), ct := Pv (i + 1), bk := D.nx } (σ'.set j (some (.int (i : Int)))) H') (hd : ∀ σ' H', Pv n σ' H' → D.nx σ' H') : tFor (iRng1 ar) (gName j) tu D σ H :=
  h F H S _ fun ws H1 e1 r => by
    cases r with
    | cons r r' =>
      cases r'
      cases r
      refine ⟨(n : Int), rfl, by omega, by omega, for_range (lo := 0) (n := ((n : Int)).toNat) Pv (h0 H1 e1) (fun i σ' H' hi p => ?_) (fun σ' H' p => hd σ' H' (by rw [Int.toNat_natCast] at p; exact p))⟩
      have e0 : (0 : Int) + (i : Int) = (i : Int) := Int.zero_add _
      show tu { D with nx := Pv (i + 1), ct := Pv (i + 1), bk := D.nx } (σ'.set j (some (.int ((0 : Int) + (i : Int))))) H'
      rw [e0]
      exact hs i σ' H' (by omega) p
theorem q_forR {ar : TA} {j n : Nat} (S : Beside Hb F H) (h : EvDs ar σ Hb [.int (n : Int)]) (hn : n ≤ 100000) (Pv : Nat → L2.St → Hp → Prop) (h0 : ∀ H1, Ex H H1 → Pv 0 σ H1)
    (hs : ∀ (i : Nat) σ' H', i < n → Pv i σ' H' → tu { D with nx := Pv (i + 1), ct := Pv (i + 1), bk := tz D } (σ'.set j (some (.int (i : Int)))) H') (hd : ∀ σ' H', Pv n σ' H' → tz D σ' H') : tSeq (tFor (iRng1 ar) (gName j) tu) tz D σ H :=
  s_forR (D := { D with nx := tz D }) S h hn Pv h0 hs hd
/-- over a list of data: Hb1 the first part with that list -/
theorem s_forL {tl : TE} {g : TG} (S : Beside Hb F H) (h : EvD tl σ Hb (.lst ds))
    (k : ∀ Hb1 H1, Ex Hb Hb1 → Ex H H1 → Beside Hb1 F H1 → ∃ Pv : Nat → L2.St → Hp → Prop, Pv 0 σ H1 ∧ (∀ i σ' H', Pv i σ' H' → Ex Hb1 H') ∧
      (∀ i d v σ' H', ds[i]? = some d → Rp Any Hb1 v d → Pv i σ' H' → g v σ' H' fun σ2 H2 => tu { D with nx := Pv (i + 1), ct := Pv (i + 1), bk := D.nx } σ2 H2) ∧ (∀ σ' H', Pv ds.length σ' H' → D.nx σ' H')) : tFor (iList K tl) g tu D σ H :=
  h F H S _ fun v H1 e1 r => by
    obtain ⟨a, xs, rfl, _, hx, rs⟩ := r.lstI
    obtain ⟨Pv, h0, hb, hs, hd⟩ := k (less H1 F) H1 (S.lessEx e1) e1 (S.on e1).sep
    refine ⟨a, rfl, ⟨xs, sq_of (less_ex a _ hx)⟩, for_list (xs := xs) Pv h0 (fun i σ' H' _ p => sq_of (hb i σ' H' p a _ hx)) (fun i x σ' H' hi p => ?_) (fun σ' H' p => hd σ' H' (by rw [rs.length] at p; exact p))⟩
    obtain ⟨d, h1, h2⟩ := rs.getV hi
    exact hs i d x σ' H' h1 h2 p
theorem q_forL {tl : TE} {g : TG} (S : Beside Hb F H) (h : EvD tl σ Hb (.lst ds))
    (k : ∀ Hb1 H1, Ex Hb Hb1 → Ex H H1 → Beside Hb1 F H1 → ∃ Pv : Nat → L2.St → Hp → Prop, Pv 0 σ H1 ∧ (∀ i σ' H', Pv i σ' H' → Ex Hb1 H') ∧
      (∀ i d v σ' H', ds[i]? = some d → Rp Any Hb1 v d → Pv i σ' H' → g v σ' H' fun σ2 H2 => tu { D with nx := Pv (i + 1), ct := Pv (i + 1), bk := tz D } σ2 H2) ∧ (∀ σ' H', Pv ds.length σ' H' → tz D σ' H')) : tSeq (tFor (iList K tl) g tu) tz D σ H :=
  s_forL (D := { D with nx := tz D }) S h k
theorem s_forT {tl : TE} {g : TG} (S : Beside Hb F H) (h : EvD tl σ Hb (.tup ds))
    (k : ∀ Hb1 H1, Ex Hb Hb1 → Ex H H1 → Beside Hb1 F H1 → ∃ Pv : Nat → L2.St → Hp → Prop, Pv 0 σ H1 ∧ (∀ i σ' H', Pv i σ' H' → Ex Hb1 H') ∧
      (∀ i d v σ' H', ds[i]? = some d → Rp Any Hb1 v d → Pv i σ' H' → g v σ' H' fun σ2 H2 => tu { D with nx := Pv (i + 1), ct := Pv (i + 1), bk := D.nx } σ2 H2) ∧ (∀ σ' H', Pv ds.length σ' H' → D.nx σ' H')) : tFor (iTup K tl) g tu D σ H :=
  h F H S _ fun v H1 e1 r => by
    obtain ⟨a, xs, rfl, hx, rs⟩ := r.tupI
    obtain ⟨Pv, h0, hb, hs, hd⟩ := k (less H1 F) H1 (S.lessEx e1) e1 (S.on e1).sep
    refine ⟨a, rfl, ⟨xs, st_of (less_ex a _ hx)⟩, for_tup (xs := xs) Pv h0 (fun i σ' H' _ p => st_of (hb i σ' H' p a _ hx)) (fun i x σ' H' hi p => ?_) (fun σ' H' p => hd σ' H' (by rw [rs.length] at p; exact p))⟩
    obtain ⟨d, h1, h2⟩ := rs.getV hi
    exact hs i d x σ' H' h1 h2 p
theorem q_forT {tl : TE} {g : TG} (S : Beside Hb F H) (h : EvD tl σ Hb (.tup ds))
    (k : ∀ Hb1 H1, Ex Hb Hb1 → Ex H H1 → Beside Hb1 F H1 → ∃ Pv : Nat → L2.St → Hp → Prop, Pv 0 σ H1 ∧ (∀ i σ' H', Pv i σ' H' → Ex Hb1 H') ∧
      (∀ i d v σ' H', ds[i]? = some d → Rp Any Hb1 v d → Pv i σ' H' → g v σ' H' fun σ2 H2 => tu { D with nx := Pv (i + 1), ct := Pv (i + 1), bk := tz D } σ2 H2) ∧ (∀ σ' H', Pv ds.length σ' H' → tz D σ' H')) : tSeq (tFor (iTup K tl) g tu) tz D σ H :=
  s_forT (D := { D with nx := tz D }) S h k
/-! comprehensions over lists and tuples -/
theorem cd_base {H1 : Hp} {Dl : Addr} {H' : Hp} (S1 : Beside Hb F H1) (p : Cd Hb F H1 Dl ds H') : Ex (less H1 F) (less H' (Dl :: F)) := fun a o ha => by
  have hF : a ∉ F := fun z => by rw [less_none z] at ha; cases ha
  rw [less_some hF] at ha
  have h1 := p.2.1 a o ha
  have ne : a ≠ Dl := ne_of_none ha p.1
  rw [less_some (by simp [ne, hF])]
  rw [less_some (by simpa using ne)] at h1
  exact h1
theorem ef_lcL {tl : TE} {j : Nat} {vs : List Nat} (f : Nat → Bool) (g : Nat → Dt) (h : EvD tl σ Hb (.lst ds)) (hz : ds.length ≤ 40000) (hw : ∀ x, wipe ((wipe σ vs).set j (some x)) vs = wipe σ vs)
    (ht : ∀ (i : Nat) (d : Dt) (v : V) H1, Ex Hb H1 → ds[i]? = some d → Rp Any H1 v d → EvT t ((wipe σ vs).set j (some v)) H1 (f i)) (he : ∀ (i : Nat) (d : Dt) (v : V) H1, Ex Hb H1 → ds[i]? = some d → Rp Any H1 v d → f i = true → EvD te ((wipe σ vs).set j (some v)) H1 (g i)) :
    EvF (tLc (iList K tl) (gName j) t te vs) σ Hb (stepsD ds.length f g) := fun F H S Q q => h F H S _ fun w H1 e1 r => by
  obtain ⟨a, xs, rfl, _, hx, rs⟩ := r.lstI
  have S1 := S.on e1
  refine ⟨a, rfl, ⟨xs, sq_of (less_ex a _ hx)⟩, fun Dl hD => ?_⟩
  refine lc_list (xs := xs) (fun i H' => Cd Hb F H1 Dl (stepsD i f g) H') (cd_start hD) (fun i H' _ p => sq_of (less_ex a _ (p.2.1 a _ (less_ex a _ hx)))) (fun i x H' hi p => ?_) (fun H' p => ?_)
  · have eb := cd_base S1 p
    have eh : Ex Hb (less H' (Dl :: F)) := (S.lessEx e1).trans eb
    obtain ⟨d, h1, h2⟩ := rs.getV hi
    have lt := (List.getElem?_eq_some_iff.mp h1).1
    refine ⟨hw _, cd_turn (R := Cd Hb F H1 Dl (stepsD (i + 1) f g)) p S1 (by have := stepsD_len i f g; omega) (ht i d x _ eh h1 (h2.mono eb)) (fun hf => he i d x _ eh h1 (h2.mono eb) hf) (fun H2 c => ?_)⟩
    rw [stepsD_next]; exact c
  · obtain ⟨_, eb, ys, hy, ry⟩ := p
    rw [rs.length] at ry
    exact q Dl ys H' (fresh_back e1 hD) (e1.trans (eb.trans less_ex)) hy ry
theorem ef_lcT {tl : TE} {j : Nat} {vs : List Nat} (f : Nat → Bool) (g : Nat → Dt) (h : EvD tl σ Hb (.tup ds)) (hz : ds.length ≤ 40000) (hw : ∀ x, wipe ((wipe σ vs).set j (some x)) vs = wipe σ vs)
    (ht : ∀ (i : Nat) (d : Dt) (v : V) H1, Ex Hb H1 → ds[i]? = some d → Rp Any H1 v d → EvT t ((wipe σ vs).set j (some v)) H1 (f i)) (he : ∀ (i : Nat) (d : Dt) (v : V) H1, Ex Hb H1 → ds[i]? = some d → Rp Any H1 v d → f i = true → EvD te ((wipe σ vs).set j (some v)) H1 (g i)) :
    EvF (tLc (iTup K tl) (gName j) t te vs) σ Hb (stepsD ds.length f g) := fun F H S Q q => h F H S _ fun w H1 e1 r => by
  obtain ⟨a, xs, rfl, hx, rs⟩ := r.tupI
  have S1 := S.on e1
  refine ⟨a, rfl, ⟨xs, st_of (less_ex a _ hx)⟩, fun Dl hD => ?_⟩
  refine lc_tup (xs := xs) (fun i H' => Cd Hb F H1 Dl (stepsD i f g) H') (cd_start hD) (fun i H' _ p => st_of (less_ex a _ (p.2.1 a _ (less_ex a _ hx)))) (fun i x H' hi p => ?_) (fun H' p => ?_)
  · have eb := cd_base S1 p
    have eh : Ex Hb (less H' (Dl :: F)) := (S.lessEx e1).trans eb
    obtain ⟨d, h1, h2⟩ := rs.getV hi
    have lt := (List.getElem?_eq_some_iff.mp h1).1
    refine ⟨hw _, cd_turn (R := Cd Hb F H1 Dl (stepsD (i + 1) f g)) p S1 (by have := stepsD_len i f g; omega) (ht i d x _ eh h1 (h2.mono eb)) (fun hf => he i d x _ eh h1 (h2.mono eb) hf) (fun H2 c => ?_)⟩
    rw [stepsD_next]; exact c
  · obtain ⟨_, eb, ys, hy, ry⟩ := p
    rw [rs.length] at ry
    exact q Dl ys H' (fresh_back e1 hD) (e1.trans (eb.trans less_ex)) hy ry
theorem stepsD_list {α : Type} {L : List α} {f : Nat → Bool} {g : Nat → Dt} (P : α → Bool) (G : α → Dt) (hf : ∀ i x, L[i]? = some x → f i = P x) (hg : ∀ i x, L[i]? = some x → f i = true → g i = G x) : stepsD L.length f g = (L.filter P).map G := by
  have key : ∀ n, n ≤ L.length → stepsD n f g = ((L.take n).filter P).map G := by
    intro n
    induction n with
    | zero => intro _; rfl
    | succ n ih =>
      intro hn
      have e := List.getElem?_eq_getElem (show n < L.length by omega)
      rw [stepsD_next, ih (by omega), List.take_add_one, e, hf n _ e]
      simp only [Option.toList, List.filter_append, List.map_append]
      by_cases c : P L[n] = true
      · rw [if_pos c, List.filter_cons, if_pos c, hg n _ e (by rw [hf n _ e]; exact c)]; rfl
      · rw [if_neg c, List.filter_cons, if_neg c]; simp
  have := key L.length (Nat.le_refl _)
  rw [List.take_length] at this
  exact this
/-- len of a written range etc. come as ints -/
theorem stepsD_range {n : Nat} {f : Nat → Bool} {g : Nat → Dt} {P : Nat → Bool} {G : Nat → Dt} (hf : ∀ i, i < n → f i = P i) (hg : ∀ i, i < n → f i = true → g i = G i) : stepsD n f g = ((List.range n).filter P).map G := by
  unfold stepsD
  have e : (List.range n).filter f = (List.range n).filter P := List.filter_congr fun i hi => hf i (List.mem_range.mp hi)
  rw [← e]
  exact List.map_congr_left fun i hi => hg i (List.mem_range.mp (List.mem_filter.mp hi).1) (List.mem_filter.mp hi).2
end

/-! ### defs that stand in the module -/
structure Callee (P : Program) (w : World) (K : PySem.W.Frag) (mg : Str → Option Value) (base : Heap) (CX : CXT) (k : Nat) (x : Str) (ps : List Str) (sp : Sp) : Prop where
  ex : ∃ f fd, FnOk P w K mg base CX k f fd ps sp ∧ mg x = some (.ref f) ∧ PySem.W.keepIn K (.ref f) = true ∧ Binds K fd ps []
theorem pe_fn {X : Cx} {CX : CXT} {k : Nat} {x : Str} {ps : List Str} {sp : Sp} {E : XK} {e : Expr} {es : List Expr} {t : TA} {p pos : Pos} (C : Callee X.prog X.w X.K X.mg X.base CX k x ps sp) (hr : Room k X.A) (hg : Gl X x) (hx : Passes CX X E)
    (ha : PA X (e :: es) t) (hdb : (x == ("__debug__" : Str)) = false := by decide) (he : starEach (e :: es) X.env = (false, eval e X.env) :: starEach es X.env := by rfl) (hpl : (backTo pos (starEach es X.env)).any (·.1) = false := by rfl) :
    PE X (.Call (.Name x p) (e :: es) [] pos) (tCall sp [] E t) := by
  obtain ⟨f, fd, F, hm, hk, hb⟩ := C.ex
  exact pe_call F hr hg hm hk hb .nil hx ha hdb he hpl
theorem FnOk.weak {P : Program} {w : World} {K : PySem.W.Frag} {mg : Str → Option Value} {base : Heap} {CX : CXT} {k : Nat} {f : Addr} {fd : FuncData} {ps : List Str} {sp sp' : Sp} (F : FnOk P w K mg base CX k f fd ps sp) (h : ∀ vs H Q E, sp' vs H Q E → sp vs H Q E) : FnOk P w K mg base CX k f fd ps sp' :=
  ⟨fun vs H Q E q => F.len vs H Q E (h vs H Q E q), fun A outer s H args us vs Q E hr e0 hb r q => F.run A outer s H args us vs Q E hr e0 hb r (h vs H Q E q)⟩
end Nc

namespace Nc
open PySem PySem.Spec PyProof.Rows L2 Evl
/-! ### operators by short names -/
abbrev rAddI : R2 := rI0 fun i j => .int (i + j)
abbrev rSubI : R2 := rI0 fun i j => .int (i - j)
abbrev rMulI : R2 := rI CMul fun i j => .int (i * j)
abbrev rDivI : R2 := rI CDiv fun i j => .int (i / j)
abbrev rModI : R2 := rI (fun _ j => 0 < j) fun i j => .int (i % j)
abbrev rPowI : R2 := rI CPow fun i j => .int (i ^ j.toNat)
abbrev rNegI : V → Hp → VK → Prop := rU fun i => .int (-i)
abbrev rLtI : R2 := rI0 fun i j => .bl (decide (i < j))
abbrev rLeI : R2 := rI0 fun i j => .bl (decide (i ≤ j))
abbrev rGtI : R2 := rI0 fun i j => .bl (decide (j < i))
abbrev rGeI : R2 := rI0 fun i j => .bl (decide (j ≤ i))
section
variable {X : Cx}
theorem op_addI : OpR X (binaryOp .Add) rAddI := op_add
theorem op_subI : OpR X (binaryOp .Sub) rSubI := op_sub
theorem op_mulI : OpR X (binaryOp .Mult) rMulI := op_mul
theorem op_divI : OpR X (binaryOp .FloorDiv) rDivI := op_fdiv
theorem op_modI : OpR X (binaryOp .Mod) rModI := op_mod
theorem op_powI : OpR X (binaryOp .Pow) rPowI := op_pow
theorem un_negI : UnR X (unaryOp .USub) rNegI := un_neg
theorem op_ltI : OpR X (compareOp .Lt) rLtI := op_lt
theorem op_leI : OpR X (compareOp .LtE) rLeI := op_le
theorem op_gtI : OpR X (compareOp .Gt) rGtI := op_gt
theorem op_geI : OpR X (compareOp .GtE) rGeI := op_ge
end
/-! ### built-in names are built-in still -/
structure Blt (mg : Str → Option Value) : Prop where
  len_ : mg "len" = none
  range_ : mg "range" = none
  tuple_ : mg "tuple" = none
  list_ : mg "list" = none
  isinstance_ : mg "isinstance" = none
  int_ : mg "int" = none
  bool_ : mg "bool" = none
  str_ : mg "str" = none
  enumerate_ : mg "enumerate" = none
  zip_ : mg "zip" = none
  sorted_ : mg "sorted" = none
  sum_ : mg "sum" = none
  min_ : mg "min" = none
  max_ : mg "max" = none
  all_ : mg "all" = none
  any_ : mg "any" = none
end Nc
namespace Nc
open PySem PySem.Spec PyProof.Rows L2 Evl
section
variable {σ : L2.St} {Hb : Hp} {ta : TE}
theorem rg_vals (n : Nat) {N : Addr → Prop} {H : Hp} : RpL N H (rgV 0 (n : Int)) ((List.range n).map fun i => Dt.int (i : Nat)) := by
  have e : rgV 0 (n : Int) = ((List.range n).map fun i => ((i : Nat) : Int)).map V.int := by
    unfold rgV
    rw [List.map_map, Int.sub_zero, Int.toNat_natCast]
    refine List.map_congr_left fun i _ => ?_
    show V.int (0 + (i : Int)) = V.int (i : Int)
    rw [Int.zero_add]
  have e2 : ((List.range n).map fun i => Dt.int (i : Nat)) = ((List.range n).map fun i => ((i : Nat) : Int)).map Dt.int := by rw [List.map_map]; rfl
  rw [e, e2]
  exact RpL.ints _
theorem ef_lstRg {n : Nat} (h : EvD ta σ Hb (.int (n : Int))) (hn : n ≤ 100000) : EvF (tLstRg (tRg1 ta)) σ Hb ((List.range n).map fun i => Dt.int (i : Nat)) := fun F H S Q q =>
  h F H S _ fun v H1 e1 r => by
    rw [r.intI]
    exact ⟨n, rfl, RgOk.of_le (by omega) (by omega) (by omega) (by omega), ef_mk S e1 (rg_vals n) q⟩
theorem ed_tupRg {n : Nat} (h : EvD ta σ Hb (.int (n : Int))) (hn : n ≤ 100000) : EvD (tTupRg (tRg1 ta)) σ Hb (.tup ((List.range n).map fun i => Dt.int (i : Nat))) := fun F H S Q q =>
  h F H S _ fun v H1 e1 r => by
    rw [r.intI]
    exact ⟨n, rfl, RgOk.of_le (by omega) (by omega) (by omega) (by omega), fun p hp => q (.ref p) _ (e1.trans (Ex.new hp)) (.tup (by rw [less_some ((S.on e1).new hp)]; exact upd_same) (rg_vals n))⟩
theorem ed_v {i : Nat} {v : V} {d : Dt} (h : σ[i]? = some (some v)) (r : Rp Any Hb v d) : EvD (tVar i) σ Hb d := ed_var h r
theorem ed_vi {i : Nat} {n : Int} (h : σ[i]? = some (some (.int n))) : EvD (tVar i) σ Hb (.int n) := ed_var (N := Any) h (.int n)
theorem ed_vb {i : Nat} {n : Bool} (h : σ[i]? = some (some (.bl n))) : EvD (tVar i) σ Hb (.bl n) := ed_var (N := Any) h (.bl n)
end
end Nc
namespace Nc
open PySem PySem.Spec PyProof.Rows L2 Evl
section
variable {N : Addr → Prop} {H : Hp} {vs : List V} {ds : List Dt}
theorem args1 (len : vs.length = 1) (r : RpL N H vs ds) : ∃ v d, vs = [v] ∧ ds = [d] ∧ Rp N H v d := by
  match vs, len, r with
  | [_], _, .cons r .nil => exact ⟨_, _, rfl, rfl, r⟩
theorem args2 (len : vs.length = 2) (r : RpL N H vs ds) : ∃ v d v2 d2, vs = [v, v2] ∧ ds = [d, d2] ∧ Rp N H v d ∧ Rp N H v2 d2 := by
  match vs, len, r with
  | [_, _], _, .cons r (.cons r2 .nil) => exact ⟨_, _, _, _, rfl, rfl, r, r2⟩
theorem args3 (len : vs.length = 3) (r : RpL N H vs ds) : ∃ v d v2 d2 v3 d3, vs = [v, v2, v3] ∧ ds = [d, d2, d3] ∧ Rp N H v d ∧ Rp N H v2 d2 ∧ Rp N H v3 d3 := by
  match vs, len, r with
  | [_, _, _], _, .cons r (.cons r2 (.cons r3 .nil)) => exact ⟨_, _, _, _, _, _, rfl, rfl, r, r2, r3⟩
end
/-- a whole number -/
def Dt.isI : Dt → Bool
  | .int _ => true
  | _ => false
def Dt.isB : Dt → Bool
  | .bl _ => true
  | _ => false
def Dt.isL : Dt → Bool
  | .lst _ => true
  | _ => false
def Dt.isT : Dt → Bool
  | .tup _ => true
  | _ => false
def Dt.isS : Dt → Bool
  | .str _ => true
  | _ => false
theorem kit_int : ∀ d : Dt, kitB d.ty "int" = some (d.isI || d.isB)
  | .non => (by decide +kernel : kitB "NoneType" "int" = some false)
  | .bl _ => (by decide +kernel : kitB "bool" "int" = some true)
  | .int _ => (by decide +kernel : kitB "int" "int" = some true)
  | .str _ => (by decide +kernel : kitB "str" "int" = some false)
  | .lst _ => (by decide +kernel : kitB "list" "int" = some false)
  | .tup _ => (by decide +kernel : kitB "tuple" "int" = some false)
  | .dic => (by decide +kernel : kitB "dict" "int" = some false)
theorem kit_bool : ∀ d : Dt, kitB d.ty "bool" = some (d.isB)
  | .non => (by decide +kernel : kitB "NoneType" "bool" = some false)
  | .bl _ => (by decide +kernel : kitB "bool" "bool" = some true)
  | .int _ => (by decide +kernel : kitB "int" "bool" = some false)
  | .str _ => (by decide +kernel : kitB "str" "bool" = some false)
  | .lst _ => (by decide +kernel : kitB "list" "bool" = some false)
  | .tup _ => (by decide +kernel : kitB "tuple" "bool" = some false)
  | .dic => (by decide +kernel : kitB "dict" "bool" = some false)
theorem kit_list : ∀ d : Dt, kitB d.ty "list" = some (d.isL)
  | .non => (by decide +kernel : kitB "NoneType" "list" = some false)
  | .bl _ => (by decide +kernel : kitB "bool" "list" = some false)
  | .int _ => (by decide +kernel : kitB "int" "list" = some false)
  | .str _ => (by decide +kernel : kitB "str" "list" = some false)
  | .lst _ => (by decide +kernel : kitB "list" "list" = some true)
  | .tup _ => (by decide +kernel : kitB "tuple" "list" = some false)
  | .dic => (by decide +kernel : kitB "dict" "list" = some false)
theorem kit_tuple : ∀ d : Dt, kitB d.ty "tuple" = some (d.isT)
  | .non => (by decide +kernel : kitB "NoneType" "tuple" = some false)
  | .bl _ => (by decide +kernel : kitB "bool" "tuple" = some false)
  | .int _ => (by decide +kernel : kitB "int" "tuple" = some false)
  | .str _ => (by decide +kernel : kitB "str" "tuple" = some false)
  | .lst _ => (by decide +kernel : kitB "list" "tuple" = some false)
  | .tup _ => (by decide +kernel : kitB "tuple" "tuple" = some true)
  | .dic => (by decide +kernel : kitB "dict" "tuple" = some false)
theorem kit_str : ∀ d : Dt, kitB d.ty "str" = some (d.isS)
  | .non => (by decide +kernel : kitB "NoneType" "str" = some false)
  | .bl _ => (by decide +kernel : kitB "bool" "str" = some false)
  | .int _ => (by decide +kernel : kitB "int" "str" = some false)
  | .str _ => (by decide +kernel : kitB "str" "str" = some true)
  | .lst _ => (by decide +kernel : kitB "list" "str" = some false)
  | .tup _ => (by decide +kernel : kitB "tuple" "str" = some false)
  | .dic => (by decide +kernel : kitB "dict" "str" = some false)
theorem isI_of (d : Dt) : ((d.isI || d.isB) && !d.isB) = d.isI := by cases d <;> rfl
def sp_is_whole : Sp := spD 1 (fun _ => True) fun ds => .bl ((ds.headD .non).isI)
def sp_l_whole : Sp := sp_is_whole
def sp_l_cell_at (K : PySem.W.Frag) : Sp := fun vs H Q _ => ∃ (a : Addr) (ns : List Int) (k : Nat), vs = [.ref a, .int (k : Int)] ∧ SqL K H a (ns.map V.int) ∧ ∀ H', Ex H H' → Q (.int (ns.getD k 0)) H'
def countOf (c : Int) : Nat := if c % 3 = 1 then 1 + (c / 3 % 60).toNat else 1 + (c / 3 % 9).toNat
def dInt : Dt → Int
  | .int i => i
  | _ => 0
def sp_l_count : Sp := spD 1 (fun ds => ∃ c, ds = [.int c]) fun ds => .int (countOf (dInt (ds.headD .non)) : Nat)
def sp_l_truth : Sp := spD 2 (fun ds => ∃ a b, ds = [.bl a, .bl b]) fun ds => match ds with
  | [.bl a, .bl b] => .bl (decide (a = b))
  | _ => .non
theorem countOf_pos (c : Int) : 1 ≤ countOf c ∧ countOf c ≤ 60 := by
  unfold countOf
  split <;> omega
section
variable {σ : L2.St} {Hb : Hp} {K : PySem.W.Frag} {ta tb : TE}
theorem ed_cell {a : Addr} {ns : List Int} {k : Nat} {E : XK} {i : Nat} (hs : SqL K Hb a (ns.map V.int)) (hv : σ[i]? = some (some (.ref a))) : EvD (tCall (sp_l_cell_at K) [] E (tCons (tVar i) (tCons (tC (.int (k : Int))) tNil))) σ Hb (.int (ns.getD k 0)) := fun F H S Q q =>
  ⟨.ref a, hv, a, ns, k, rfl, ex_l S.ex hs, fun H' e => q _ H' e (.int _)⟩
end
end Nc

namespace Nc
open PySem PySem.Spec PyProof.Rows L2 Evl
theorem bt_int : bootBuiltins "int" = some (.type "int") := by decide +kernel
theorem bt_bool : bootBuiltins "bool" = some (.type "bool") := by decide +kernel
theorem bt_str : bootBuiltins "str" = some (.type "str") := by decide +kernel
theorem bt_list : bootBuiltins "list" = some (.type "list") := by decide +kernel
theorem bt_tuple : bootBuiltins "tuple" = some (.type "tuple") := by decide +kernel
section
variable {σ : L2.St} {Hb H : Hp} {F : List Addr} {D : Ends} {tz tu : TS} {t : TT}
theorem q_ifN {b : Bool} (S : Beside Hb F H) (h : EvT t σ Hb b) (h1 : b = true → ∀ H', Ex H H' → Beside Hb F H' → tu { D with nx := tz D } σ H') (h2 : b = false → ∀ H', Ex H H' → Beside Hb F H' → tz D σ H') : tSeq (tIfS t tu tNext) tz D σ H := q_ifD S h h1 h2
theorem s_ifN {b : Bool} (S : Beside Hb F H) (h : EvT t σ Hb b) (h1 : b = true → ∀ H', Ex H H' → Beside Hb F H' → tu D σ H') (h2 : b = false → ∀ H', Ex H H' → Beside Hb F H' → D.nx σ H') : tIfS t tu tNext D σ H := s_ifD S h h1 h2
end
end Nc
namespace Nc
open PySem PySem.Spec PyProof.Rows L2 Evl
section
variable {σ : L2.St} {Hb H : Hp} {F : List Addr} {D : Ends} {tz tu : TS} {t : TT} {te : TE}
theorem q_setI {i : Nat} {n : Int} (S : Beside Hb F H) (h : EvD te σ Hb (.int n)) (k : ∀ H', Ex H H' → Beside Hb F H' → tz D (σ.set i (some (.int n))) H') : tSeq (tAsg te (gName i)) tz D σ H :=
  h F H S _ fun v H' e r => by rw [r.intI]; exact k H' e (S.on e)
theorem q_setB {i : Nat} {n : Bool} (S : Beside Hb F H) (h : EvD te σ Hb (.bl n)) (k : ∀ H', Ex H H' → Beside Hb F H' → tz D (σ.set i (some (.bl n))) H') : tSeq (tAsg te (gName i)) tz D σ H :=
  h F H S _ fun v H' e r => by rw [r.blI]; exact k H' e (S.on e)
/-- if c: x = e (ints), told by the value behind it -/
theorem q_ifSetI {i : Nat} {n m : Int} {b : Bool} (S : Beside Hb F H) (h : EvT t σ Hb b) (h1 : b = true → EvD te σ Hb (.int n)) (h2 : b = false → σ.set i (some (.int m)) = σ) (k : ∀ H', Ex H H' → Beside Hb F H' → tz D (σ.set i (some (.int (if b = true then n else m)))) H') :
    tSeq (tIfS t (tAsg te (gName i)) tNext) tz D σ H := by
  refine q_ifN S h (fun hb H1 e1 S1 => ?_) fun hb H1 e1 S1 => ?_
  · refine h1 hb F H1 S1 _ fun v H2 e2 r => ?_
    rw [r.intI]
    have := k H2 (e1.trans e2) (S1.on e2)
    rw [if_pos hb] at this
    exact this
  · have := k H1 e1 S1
    rw [if_neg (by rw [hb]; exact Bool.false_ne_true), h2 hb] at this
    exact this
end
/-- what the law's labels are -/
def isLab (n : Nat) (e : Dt) : Prop := ∃ L : List Nat, L.length = n ∧ Lead L ∧ e = dNats L
def sp_l_labels : Sp := spR 3 (fun ds => ∃ (n : Nat) (c o : Int), ds = [.int n, .int c, .int o] ∧ 1 ≤ n ∧ n ≤ 60) fun ds e => isLab (dInt (ds.headD .non)).toNat e
end Nc
namespace Nc
open PySem PySem.Spec PyProof.Rows L2 Evl
def Dt.ints : Dt → List Int
  | .lst l => l.map dInt
  | _ => []
theorem ints_dInts (L : List Int) : (dInts L).ints = L := by
  show (L.map Dt.int).map dInt = L
  rw [List.map_map]
  exact List.map_id' L
/-- a list of labels, read as a labelling -/
def li (L : List Int) : Nat → Int := fun i => L.getD i 0
def gI (L : List Int) : List (List Nat) := groupsOf (li L) L.length
def ofN (L : List Nat) : List Int := L.map fun x => ((x : Nat) : Int)
theorem dNats_ofN (L : List Nat) : dNats L = dInts (ofN L) := by
  unfold dNats dInts ofN
  rw [List.map_map]; rfl
theorem ofN_length (L : List Nat) : (ofN L).length = L.length := by unfold ofN; rw [List.length_map]
theorem li_ofN (L : List Nat) (i : Nat) : li (ofN L) i = ((lb L i : Nat) : Int) := by
  unfold li lb ofN
  rw [List.getD_eq_getElem?_getD, List.getD_eq_getElem?_getD, List.getElem?_map]
  cases L[i]? <;> rfl
theorem gI_ofN (L : List Nat) : gI (ofN L) = groupsOf (lb L) L.length := by
  unfold gI
  rw [ofN_length]
  refine groups_congr fun i j _ _ => ?_
  rw [li_ofN, li_ofN]
  exact Int.ofNat_inj
theorem li_get {L : List Int} {i : Nat} (h : i < L.length) : L[i]? = some (li L i) := by
  unfold li
  rw [List.getD_eq_getElem?_getD, List.getElem?_eq_getElem h]; rfl
theorem atI_li {L : List Int} {i : Nat} (h : i < L.length) : atI (L.map Dt.int) ((i : Nat) : Int) = some (.int (li L i)) := by
  refine atI_nat ?_
  rw [List.getElem?_map, li_get h]; rfl
theorem firstB_li {L : List Int} {i : Nat} (h : i ≤ L.length) : firstB (li L) i = decide (li L i ∉ L.take i) := by
  rw [Bool.eq_iff_iff, firstB_iff, decide_eq_true_iff]
  constructor
  · intro q z
    rw [List.mem_take_iff_getElem] at z
    obtain ⟨j, hj, e⟩ := z
    refine q j (by omega) ?_
    unfold li at e ⊢
    rw [List.getD_eq_getElem?_getD, List.getElem?_eq_getElem (show j < L.length by omega)]
    exact e
  · intro q j hj e
    refine q ?_
    rw [← e, List.mem_take_iff_getElem]
    refine ⟨j, by omega, ?_⟩
    unfold li
    rw [List.getD_eq_getElem?_getD, List.getElem?_eq_getElem (show j < L.length by omega)]; rfl
/-- the groups by their first places below i -/
def gUp {α : Type} [DecidableEq α] (f : Nat → α) (n i : Nat) : List (List Nat) := ((List.range i).filter (firstB f)).map (grp f n)
theorem gUp_next {α : Type} [DecidableEq α] (f : Nat → α) (n i : Nat) : gUp f n (i + 1) = if firstB f i = true then gUp f n i ++ [grp f n i] else gUp f n i := by
  unfold gUp
  rw [List.range_succ, List.filter_append, List.map_append]
  by_cases h : firstB f i = true
  · rw [if_pos h, List.filter_cons, if_pos h]; rfl
  · rw [if_neg h, List.filter_cons, if_neg h]; simp
theorem gUp_len {α : Type} [DecidableEq α] (f : Nat → α) (n i : Nat) : (gUp f n i).length ≤ i := by
  unfold gUp
  rw [List.length_map]
  refine Nat.le_trans (List.length_filter_le _ _) ?_
  simp
def sp_l_groups : Sp := spD 1 (fun ds => ∃ L : List Int, ds = [dInts L] ∧ L.length ≤ 1000) fun ds => dGrps (gI (ds.headD .non).ints)
def sp_l_tie : Sp := spD 1 (fun ds => ∃ L : List Int, ds = [dInts L] ∧ L.length ≤ 1000) fun ds => dTie (ds.headD .non).ints.length (gI (ds.headD .non).ints)
/-- a tie's count and groups -/
def Dt.many : Dt → Nat
  | .tup [.int n, _] => n.toNat
  | _ => 0
def Dt.grpN : Dt → List Nat
  | .tup l => l.map fun d => (dInt d).toNat
  | _ => []
def Dt.grps : Dt → List (List Nat)
  | .tup [_, .lst l] => l.map Dt.grpN
  | _ => []
theorem grpN_dGrp (g : List Nat) : (dGrp g).grpN = g := by
  show (g.map fun x => Dt.int (x : Nat)).map (fun d => (dInt d).toNat) = g
  rw [List.map_map]
  exact List.map_id' g
theorem grps_dTie (n : Nat) (gs : List (List Nat)) : (dTie n gs).grps = gs := by
  show (gs.map dGrp).map Dt.grpN = gs
  rw [List.map_map]
  have e : (Dt.grpN ∘ dGrp) = id := funext grpN_dGrp
  rw [e]; exact List.map_id gs
theorem many_dTie (n : Nat) (gs : List (List Nat)) : (dTie n gs).many = n := rfl
def sp_l_is : Sp := spD 2 (fun ds => ∃ (m : Nat) (gs : List (List Nat)) (L : List Int), ds = [dTie m gs, dInts L] ∧ L.length ≤ 1000 ∧ gs.length ≤ 1000 ∧ ∀ g ∈ gs, g.length ≤ 1000) fun ds => match ds with
  | [t, l] => .bl (decide (t.many = l.ints.length ∧ t.grps = gI l.ints))
  | _ => .non
def sp_l_listed : Sp := spD 2 (fun ds => ∃ a b : List Int, ds = [dInts a, dInts b] ∧ a.length ≤ 1000) fun ds => match ds with
  | [a, b] => .bl (decide (a.ints = b.ints))
  | _ => .non
end Nc
namespace Nc
open PySem PySem.Spec PyProof.Rows L2 Evl
section
variable {σ : L2.St} {Hb H : Hp} {F : List Addr} {D : Ends} {tz tu : TS} {t : TT} {te : TE} {K : PySem.W.Frag} {d1 d2 : Dt}
theorem s_unp2 {i j : Nat} (S : Beside Hb F H) (h : EvD te σ Hb (.tup [d1, d2])) (k : ∀ v1 v2 Hb' H', Ex Hb Hb' → Ex H H' → Beside Hb' F H' → Rp Any Hb' v1 d1 → Rp Any Hb' v2 d2 → D.nx ((σ.set i (some v1)).set j (some v2)) H') : tAsg te (gTup K 2 (gCons (gName i) (gCons (gName j) gNil))) D σ H :=
  h F H S _ fun v H1 e1 r => by
    obtain ⟨a, xs, rfl, hx, rs⟩ := r.tupI
    match xs, rs, hx with
    | [_, _], .cons r1 (.cons r2 .nil), hx => exact ⟨a, _, rfl, st_of (less_ex a _ hx), rfl, _, _, rfl, _, _, rfl, rfl, k _ _ (less H1 F) H1 (S.lessEx e1) e1 (S.on e1).sep r1 r2⟩
theorem q_unp2 {i j : Nat} (S : Beside Hb F H) (h : EvD te σ Hb (.tup [d1, d2])) (k : ∀ v1 v2 Hb' H', Ex Hb Hb' → Ex H H' → Beside Hb' F H' → Rp Any Hb' v1 d1 → Rp Any Hb' v2 d2 → tz D ((σ.set i (some v1)).set j (some v2)) H') : tSeq (tAsg te (gTup K 2 (gCons (gName i) (gCons (gName j) gNil)))) tz D σ H := s_unp2 (D := { D with nx := tz D }) S h k
theorem et_yes : EvT tYes σ Hb true := fun H1 _ Q q => q H1 (Ex.refl H1)
theorem q_dropD {d : Dt} (S : Beside Hb F H) (h : EvD te σ Hb d) (k : ∀ H', Ex H H' → Beside Hb F H' → tz D σ H') : tSeq (tDrop te) tz D σ H := h F H S _ fun v H1 e1 _ => k H1 e1 (S.on e1)
end
/-! ### promises of nocross.ties where nothing is refused -/
def okCount (ds : List Dt) : Prop := ∃ n : Nat, ds = [.int n] ∧ 1 ≤ n ∧ n ≤ 60
def sp_check_count : Sp := spD 1 okCount fun _ => .non
def sp_finest : Sp := spD 1 okCount fun ds => dTie (dInt (ds.headD .non)).toNat ((List.range (dInt (ds.headD .non)).toNat).map fun i => [i])
def sp_coarsest : Sp := spD 1 okCount fun ds => dTie (dInt (ds.headD .non)).toNat [List.range (dInt (ds.headD .non)).toNat]
/-- the first group that has p -/
def findG (gs : List (List Nat)) (p : Nat) : List Nat := (gs.find? fun g => decide (p ∈ g)).getD []
def okGroupOf (t p : Dt) : Prop := ∃ (n : Nat) (gs : List (List Nat)) (k : Nat), t = dTie n gs ∧ p = .int k ∧ (∃ g ∈ gs, k ∈ g)
def sp_group_of : Sp := spD 2 (fun ds => ∃ t p, ds = [t, p] ∧ okGroupOf t p) fun ds => match ds with
  | [t, p] => dGrp (findG t.grps (dInt p).toNat)
  | _ => .non
def sp_tied : Sp := spD 3 (fun ds => ∃ t p r, ds = [t, p, r] ∧ okGroupOf t p ∧ okGroupOf t r) fun ds => match ds with
  | [t, p, r] => .bl (decide (findG t.grps (dInt p).toNat = findG t.grps (dInt r).toNat))
  | _ => .non
def okLeaders (n : Nat) (gs : List (List Nat)) : Prop := n ≤ 1000 ∧ ∀ g ∈ gs, g ≠ [] ∧ ∀ p ∈ g, p < n
def sp_leaders : Sp := spD 1 (fun ds => ∃ n gs, ds = [dTie n gs] ∧ okLeaders n gs) fun ds => dNats (leadersM (ds.headD .non).many (ds.headD .non).grps)
end Nc
namespace Nc
open PySem PySem.Spec PyProof.Rows L2 Evl
theorem beside_cut {H : Hp} {p : Addr} {xs : List V} (h : H p = some (.lst xs)) : Beside (less H [p]) [p] H := ⟨less_ex, fun a ha => by
  have : a = p := by simpa using ha
  subst this
  exact ⟨less_none (by simp), xs, h⟩⟩
theorem ex_cut {Hb H : Hp} {p : Addr} (e : Ex Hb H) (h : Hb p = none) : Ex Hb (less H [p]) := fun a o ha => by
  rw [less_some (by simpa using ne_of_none ha h)]
  exact e a o ha
/-! groups: facts for the laws -/
theorem findG_groups {α : Type} [DecidableEq α] {f : Nat → α} {n i : Nat} (h : i < n) : findG (groupsOf f n) i = grp f n i := by
  unfold findG
  cases hf : (groupsOf f n).find? (fun g => decide (i ∈ g)) with
  | none =>
    have := List.find?_eq_none.mp hf (grp f n i) (grp_mem h)
    exact absurd (decide_eq_true (mem_grp.mpr ⟨h, rfl⟩)) this
  | some g =>
    have h1 := List.mem_of_find?_eq_some hf
    have h2 := List.find?_some hf
    exact group_at h1 (of_decide_eq_true h2)
theorem grp_eq_iff {α : Type} [DecidableEq α] {f : Nat → α} {n i j : Nat} (hi : i < n) : grp f n i = grp f n j ↔ f i = f j := by
  constructor
  · intro h
    have : i ∈ grp f n j := by rw [← h]; exact mem_grp.mpr ⟨hi, rfl⟩
    exact (mem_grp.mp this).2
  · exact grp_congr
theorem group_size {α : Type} [DecidableEq α] {f : Nat → α} {n : Nat} {g : List Nat} (h : g ∈ groupsOf f n) : g.length ≤ n := by
  obtain ⟨i, _, _, rfl⟩ := mem_groups.mp h
  exact grp_length
theorem group_ne {α : Type} [DecidableEq α] {f : Nat → α} {n : Nat} {g : List Nat} (h : g ∈ groupsOf f n) : g ≠ [] ∧ ∀ p ∈ g, p < n := by
  obtain ⟨i, h1, _, rfl⟩ := mem_groups.mp h
  refine ⟨fun e => ?_, fun p hp => (mem_grp.mp hp).1⟩
  have : i ∈ grp f n i := mem_grp.mpr ⟨h1, rfl⟩
  rw [e] at this; simp at this
theorem gI_range (n : Nat) : gI (ofN (List.range n)) = (List.range n).map fun i => [i] := by
  rw [gI_ofN, List.length_range]
  have hl : ∀ i, i < n → lb (List.range n) i = i := fun i h => by
    unfold lb
    rw [List.getD_eq_getElem?_getD, List.getElem?_range h]; rfl
  have e : groupsOf (lb (List.range n)) n = groupsOf (fun i : Nat => i) n := groups_congr fun i j hi hj => by rw [hl i hi, hl j hj]
  rw [e]
  unfold groupsOf
  have e2 : (List.range n).filter (firstB fun i : Nat => i) = List.range n := List.filter_eq_self.mpr fun i _ => firstB_iff.mpr fun j hj => Nat.ne_of_lt hj
  rw [e2]
  refine List.map_congr_left fun i hi => ?_
  have hin := List.mem_range.mp hi
  unfold grp
  have hp : ((List.range n).filter fun j => decide (j = i)).Pairwise (· < ·) := List.Pairwise.filter _ List.pairwise_lt_range
  have hm : ∀ x, x ∈ ((List.range n).filter fun j => decide (j = i)) ↔ x = i := fun x => by
    simp only [List.mem_filter, List.mem_range, decide_eq_true_eq]
    constructor
    · exact fun h => h.2
    · rintro rfl; exact ⟨hin, rfl⟩
  generalize ((List.range n).filter fun j => decide (j = i)) = l at hp hm
  match l, hp, hm with
  | [], _, hm => exact absurd ((hm i).mpr rfl) (by simp)
  | [x], _, hm => rw [(hm x).mp (by simp)]
  | x :: y :: r, hp, hm =>
    have h1 := (hm x).mp (by simp)
    have h2 := (hm y).mp (by simp)
    have h3 := (List.pairwise_cons.mp hp).1 y (by simp)
    omega
theorem gI_zeros {n : Nat} (h : 1 ≤ n) : gI (ofN (List.replicate n 0)) = [List.range n] := by
  rw [gI_ofN, List.length_replicate]
  have hl : ∀ i, i < n → lb (List.replicate n 0) i = 0 := fun i h => by
    unfold lb
    rw [List.getD_eq_getElem?_getD, List.getElem?_replicate, if_pos h]; rfl
  have e : groupsOf (lb (List.replicate n 0)) n = groupsOf (fun _ : Nat => (0 : Nat)) n := groups_congr fun i j hi hj => by rw [hl i hi, hl j hj]
  rw [e]
  unfold groupsOf
  have hg : ∀ i, grp (fun _ : Nat => (0 : Nat)) n i = List.range n := fun i => by
    unfold grp
    exact List.filter_eq_self.mpr fun j _ => by simp
  have hf : (List.range n).filter (firstB fun _ : Nat => (0 : Nat)) = [0] := by
    obtain ⟨m, rfl⟩ : ∃ m, n = m + 1 := ⟨n - 1, by omega⟩
    rw [List.range_succ_eq_map, List.filter_cons, if_pos (firstB_iff.mpr fun j hj => absurd hj (Nat.not_lt_zero _))]
    rw [List.filter_eq_nil_iff.mpr]
    intro a ha
    obtain ⟨k, _, rfl⟩ := List.mem_map.mp ha
    intro hc
    exact firstB_iff.mp hc 0 (Nat.succ_pos k) rfl
  rw [hf, List.map_cons, List.map_nil, hg]
end Nc

/-! ### refusals: own exception classes over ValueError, raised with a text -/
namespace Nc
open PySem PySem.Spec PyProof.Rows L2 Evl
structure ExcT (K : PySem.W.Frag) (mg : Str → Option Value) (x : Str) (C : Addr) : Prop where
  g : mg x = some (.ref C)
  kp : PySem.W.keepIn K (.ref C) = true
  ex : PySem.W.excIn K C [.type "ValueError", .type "Exception", .type "BaseException", .type "object"] "ValueError.__new__" = true
  s1 : PySem.W.subIn K (.ref C) (.type "BaseException") = some true
  s2 : PySem.W.typeIn K (.ref C) = some (.type "type")
/-- what leaves the def is wished as E says -/
abbrev TakesE (X : Cx) (E : XK) : Prop := Takes X fun cls d _ H => E cls d H
section
variable {X : Cx} {x m : Str} {C : Addr} {E : XK} {j : Nat} {p p2 pos pos2 : Pos}
theorem ps_rz (T : ExcT X.K X.mg x C) (tk : TakesE X E) (hg : Gl X x) (hc : X.calm = true) (hdb : (x == ("__debug__" : Str)) = false := by decide) :
    PS X (.Raise (some (.Call (.Name x p) [.Constant (.str m) j p2] [] pos)) none pos2) (fun _ _ H => E (.ref C) none H) :=
  ps_raise hc tk (pmk_own PySem.F.excBase_ValueError T.ex T.g T.kp (raises_own T.s1 T.s2) hg hdb)
theorem ps_rzF {e : Expr} {te : TE} (T : ExcT X.K X.mg x C) (tk : TakesE X E) (hg : Gl X x) (hc : X.calm = true) (he : PE X e te) (hdb : (x == ("__debug__" : Str)) = false := by decide)
    (hse : starEach [e] X.env = (false, eval e X.env) :: starEach [] X.env := by rfl) :
    PS X (.Raise (some (.Call (.Name x p) [e] [] pos)) none pos2) (fun _ σ H => tCons te tNil σ H fun vs H1 => vs.length ≤ sizeLine ∧ E (.ref C) none H1) :=
  ps_raise hc tk (pmk_ownA PySem.F.excBase_ValueError T.ex T.g T.kp (raises_own T.s1 T.s2) hg (pa_cons he pa_nil hse) hdb hse rfl)
end
/-! what leaves a callee leaves its caller alike -/
theorem passE {X : Cx} {E : XK} (tk : TakesE X E) : Passes (L2.CX X.prog X.w) X E := passes_call tk fun _ _ _ _ h => h

/-! ### an f-string of a text and an int -/
theorem ed_fs {σ : L2.St} {Hb : Hp} {s1 : Str} {i : Int} {te : TE} (h : EvD te σ Hb (.int i)) (hi : i.natAbs.log2 < 1920) (h1 : (Str.empty ++ s1).length ≤ sizeLine) (h2 : (Str.empty ++ s1 ++ (toString i : Str)).length ≤ sizeLine) :
    EvD (fun σ H Q => tJs [tC (.str s1), tFmt te] Str.empty σ H fun out H1 => Q (.str out) H1) σ Hb (.str (Str.empty ++ s1 ++ (toString i : Str))) := fun F H S Q q =>
  ⟨s1, rfl, h1, h F H S _ fun v H' e r => by
    rw [r.intI]
    exact .inr ⟨i, rfl, hi, _, rfl, h2, q _ H' e (.str _)⟩⟩
end Nc

/-! ### sorted lists, crossings -/
namespace Nc
/-- two sorted arrangements of the same things are one -/
theorem sorted_one {α : Type} {r : α → α → Prop} (anti : ∀ x y, r x y → r y x → x = y) : ∀ {l m : List α}, l.Perm m → l.Pairwise r → m.Pairwise r → l = m
  | [], m, h, _, _ => (List.Perm.nil_eq h)
  | x :: l, [], h, _, _ => absurd h.length_eq (by simp)
  | x :: l, y :: m, h, hl, hm => by
    have hl' := List.pairwise_cons.mp hl
    have hm' := List.pairwise_cons.mp hm
    have e : x = y := by
      rcases List.mem_cons.mp (h.mem_iff.mp (List.mem_cons_self (a := x) (l := l))) with a | a
      · exact a
      · rcases List.mem_cons.mp (h.mem_iff.mpr (List.mem_cons_self (a := y) (l := m))) with b | b
        · exact b.symm
        · exact anti x y (hl'.1 y b) (hm'.1 x a)
    subst e
    rw [sorted_one anti h.cons_inv hl'.2 hm'.2]
/-- put in its place -/
def insB {α : Type} (le : α → α → Bool) (x : α) : List α → List α
  | [] => [x]
  | y :: r => if le x y = true then x :: y :: r else y :: insB le x r
def isort {α : Type} (le : α → α → Bool) : List α → List α
  | [] => []
  | x :: r => insB le x (isort le r)
section
variable {α : Type} {le : α → α → Bool}
theorem insB_perm (x : α) : ∀ l : List α, (insB le x l).Perm (x :: l)
  | [] => List.Perm.refl _
  | y :: r => by
    unfold insB
    by_cases h : le x y = true
    · rw [if_pos h]
    · rw [if_neg h]
      exact ((insB_perm x r).cons y).trans (List.Perm.swap x y r)
theorem isort_perm : ∀ l : List α, (isort le l).Perm l
  | [] => List.Perm.refl _
  | x :: r => (insB_perm x _).trans ((isort_perm r).cons x)
theorem insB_sorted (tot : ∀ x y, le x y = false → le y x = true) (tr : ∀ x y z, le x y = true → le y z = true → le x z = true) (x : α) : ∀ l : List α, l.Pairwise (fun a b => le a b = true) → (insB le x l).Pairwise (fun a b => le a b = true)
  | [], _ => List.pairwise_singleton _ _
  | y :: r, h => by
    have h' := List.pairwise_cons.mp h
    unfold insB
    by_cases c : le x y = true
    · rw [if_pos c]
      refine List.pairwise_cons.mpr ⟨fun z hz => ?_, h⟩
      rcases List.mem_cons.mp hz with e | hz
      · rw [e]; exact c
      · exact tr x y z c (h'.1 z hz)
    · rw [if_neg c]
      refine List.pairwise_cons.mpr ⟨fun z hz => ?_, insB_sorted tot tr x r h'.2⟩
      rcases List.mem_cons.mp ((insB_perm x r).mem_iff.mp hz) with e | hz
      · rw [e]; exact tot x y (by simpa using c)
      · exact h'.1 z hz
theorem isort_sorted (tot : ∀ x y, le x y = false → le y x = true) (tr : ∀ x y z, le x y = true → le y z = true → le x z = true) : ∀ l : List α, (isort le l).Pairwise (fun a b => le a b = true)
  | [] => List.Pairwise.nil
  | x :: r => insB_sorted tot tr x _ (isort_sorted tot tr r)
end
/-- numbers in their order -/
def srt (l : List Nat) : List Nat := isort (fun a b => decide (a ≤ b)) l
theorem srt_perm (l : List Nat) : (srt l).Perm l := isort_perm l
theorem srt_sorted (l : List Nat) : (srt l).Pairwise (· ≤ ·) := by
  have h := isort_sorted (le := fun a b : Nat => decide (a ≤ b)) (fun x y h => by simp at h ⊢; omega) (fun x y z h1 h2 => by simp at h1 h2 ⊢; omega) l
  exact h.imp fun h => of_decide_eq_true h
theorem srt_uniq {l m : List Nat} (h : m.Perm l) (hs : m.Pairwise (· ≤ ·)) : m = srt l :=
  sorted_one (r := (· ≤ ·)) (fun _ _ h1 h2 => Nat.le_antisymm h1 h2) (h.trans (srt_perm l).symm) hs (srt_sorted l)
theorem srt_mem {l : List Nat} {x : Nat} : x ∈ srt l ↔ x ∈ l := (srt_perm l).mem_iff
theorem srt_length (l : List Nat) : (srt l).length = l.length := (srt_perm l).length_eq
theorem srt_lt {l : List Nat} (h : l.Nodup) : (srt l).Pairwise (· < ·) := by
  have h1 := srt_sorted l
  have h2 : (srt l).Nodup := (srt_perm l).nodup_iff.mpr h
  exact (h1.and h2).imp fun h => Nat.lt_of_le_of_ne h.1 h.2
theorem srt_self {l : List Nat} (h : l.Pairwise (· < ·)) : srt l = l := (srt_uniq (List.Perm.refl l) (h.imp Nat.le_of_lt)).symm

/-! ### crossings, as the program looks for them -/
def firstAbove (g : List Nat) (p : Nat) : Option Nat := g.find? fun x => decide (p < x)
def xFrom (ga gb : List Nat) (a b : Nat) : Option (Nat × Nat × Nat × Nat) :=
  if ga = gb then none else match firstAbove ga b with
    | none => none
    | some c => match firstAbove gb c with
      | none => none
      | some d => some (a, b, c, d)
def homeOf (gs : List (List Nat)) (p : Nat) : List Nat := (gs.find? fun g => decide (p ∈ g)).getD []
def leastX (gs : List (List Nat)) : List Nat → Option (Nat × Nat × Nat × Nat)
  | [] => none
  | a :: r => (r.findSome? fun b => xFrom (homeOf gs a) (homeOf gs b) a b).or (leastX gs r)
theorem firstAbove_some {g : List Nat} {p x : Nat} (hs : g.Pairwise (· < ·)) (h : firstAbove g p = some x) : x ∈ g ∧ p < x ∧ ∀ y ∈ g, p < y → x ≤ y := by
  unfold firstAbove at h
  obtain ⟨h1, as, bs, h2, h3⟩ := List.find?_eq_some_iff_append.mp h
  refine ⟨by rw [h2]; simp, of_decide_eq_true h1, fun y hy hp => ?_⟩
  rw [h2] at hy hs
  rcases List.mem_append.mp hy with c | c
  · have := h3 y c
    simp at this; omega
  · rcases List.mem_cons.mp c with c | c
    · omega
    · have := (List.pairwise_cons.mp (List.pairwise_append.mp hs).2.1).1 y c
      omega
theorem firstAbove_none {g : List Nat} {p : Nat} (h : firstAbove g p = none) : ∀ y ∈ g, ¬ p < y := fun y hy hp => by
  have := List.find?_eq_none.mp h y hy
  exact this (decide_eq_true hp)
/-- what is found crosses -/
theorem xFrom_some {ga gb : List Nat} {a b : Nat} {x : Nat × Nat × Nat × Nat} (sa : ga.Pairwise (· < ·)) (sb : gb.Pairwise (· < ·)) (h : xFrom ga gb a b = some x) : ∃ c d, x = (a, b, c, d) ∧ ga ≠ gb ∧ c ∈ ga ∧ d ∈ gb ∧ b < c ∧ c < d ∧ (∀ c' ∈ ga, b < c' → c ≤ c') ∧ (∀ d' ∈ gb, c < d' → d ≤ d') := by
  unfold xFrom at h
  by_cases e : ga = gb
  · rw [if_pos e] at h; cases h
  · rw [if_neg e] at h
    cases h1 : firstAbove ga b with
    | none => rw [h1] at h; cases h
    | some c =>
      rw [h1] at h
      dsimp only at h
      cases h2 : firstAbove gb c with
      | none => rw [h2] at h; cases h
      | some d =>
        rw [h2] at h
        obtain ⟨a1, a2, a3⟩ := firstAbove_some sa h1
        obtain ⟨b1, b2, b3⟩ := firstAbove_some sb h2
        exact ⟨c, d, (Option.some.inj h).symm, e, a1, b1, a2, b2, a3, b3⟩
theorem xFrom_none {ga gb : List Nat} {a b : Nat} (sa : ga.Pairwise (· < ·)) (h : xFrom ga gb a b = none) : ga = gb ∨ ∀ c ∈ ga, ∀ d ∈ gb, b < c → ¬ c < d := by
  unfold xFrom at h
  by_cases e : ga = gb
  · exact .inl e
  · right
    rw [if_neg e] at h
    intro c hc d hd hbc hcd
    cases h1 : firstAbove ga b with
    | none => exact firstAbove_none h1 c hc hbc
    | some c0 =>
      rw [h1] at h
      dsimp only at h
      obtain ⟨a1, a2, a3⟩ := firstAbove_some sa h1
      have := a3 c hc hbc
      cases h2 : firstAbove gb c0 with
      | none => exact firstAbove_none h2 d hd (by omega)
      | some d0 => rw [h2] at h; cases h
/-- what the search over places in their order comes to -/
theorem leastX_none {gs : List (List Nat)} : ∀ {l : List Nat}, leastX gs l = none ↔ l.Pairwise (fun a b => xFrom (homeOf gs a) (homeOf gs b) a b = none)
  | [] => by simp [leastX]
  | a :: r => by
    unfold leastX
    rw [Option.or_eq_none_iff, List.findSome?_eq_none_iff, leastX_none, List.pairwise_cons]
theorem leastX_some {gs : List (List Nat)} {x : Nat × Nat × Nat × Nat} : ∀ {l : List Nat}, leastX gs l = some x → ∃ as a bs b cs, l = as ++ a :: (bs ++ b :: cs) ∧ xFrom (homeOf gs a) (homeOf gs b) a b = some x ∧ (∀ b' ∈ bs, xFrom (homeOf gs a) (homeOf gs b') a b' = none) ∧ (∀ a' ∈ as, ∀ b', l.Pairwise (· < ·) → b' ∈ l → a' < b' → xFrom (homeOf gs a') (homeOf gs b') a' b' = none)
  | [], h => by simp [leastX] at h
  | a :: r, h => by
    unfold leastX at h
    cases hf : r.findSome? fun b => xFrom (homeOf gs a) (homeOf gs b) a b with
    | some y =>
      rw [hf] at h
      have e : y = x := by simpa using h
      subst e
      obtain ⟨bs, b, cs, h1, h2, h3⟩ := List.findSome?_eq_some_iff.mp hf
      exact ⟨[], a, bs, b, cs, by rw [h1]; rfl, h2, h3, fun a' ha' => by simp at ha'⟩
    | none =>
      rw [hf] at h
      have h' : leastX gs r = some x := by simpa using h
      obtain ⟨as, a2, bs, b, cs, h1, h2, h3, h4⟩ := leastX_some h'
      refine ⟨a :: as, a2, bs, b, cs, by rw [h1]; rfl, h2, h3, fun a' ha' b' hp hb' lt => ?_⟩
      have hp' := List.pairwise_cons.mp hp
      have hbr : a' = a ∨ a' ∈ as := List.mem_cons.mp ha'
      rcases hbr with e | ha''
      · subst e
        rcases List.mem_cons.mp hb' with e | hb'
        · omega
        · exact List.findSome?_eq_none_iff.mp hf b' hb'
      · rcases List.mem_cons.mp hb' with e | hb'
        · have := hp'.1 a' (by rw [h1]; exact List.mem_append_left _ ha'')
          omega
        · exact h4 a' ha'' b' hp'.2 hb' lt
end Nc

/-! ### sorted: of tuples of ints, and of a list of such tuples -/
namespace Nc
open PySem PyProof.Rows Srt SrtO
section
variable {prog : Program} {w : World} {A : Around} {E : Value → Shared → Prop} {s : Shared}
/-- where the items of a sequence are laid ahead of a sort -/
def laidOut (g : Heap) (us : List Value) : Heap := (g.push (seqObj "list" #[] 0)).update g.objs.size (Obj.mapSeq (· ++ us.toArray))
/-- the items of a tuple, taken one by one -/
theorem gather_tup {l : Addr} {us : List Value} {R : List Value → Shared → Prop} (hl : s.heap.IsTuple l us.toArray) (hz : us.length ≤ sizeLine) (h : R us { s with heap := laidOut s.heap us }) :
    wpAny (model prog w) A (collect (.ref l)) R E s := by
  obtain ⟨ob, hob, hcl, k, hdt⟩ := id hl
  have there : (s.heap.push (seqObj "list" #[] 0)).get? l = some ob := Heap.get?_push_of_some _ hob
  have fresh : (s.heap.push (seqObj "list" #[] 0)).get? s.heap.objs.size = some (seqObj "list" #[] 0) := Heap.get?_push_size _ rfl
  unfold collect
  refine wpAny_bind (wpAny_runValue (codeAny_builtin entry_proto_collect' (show wpAny _ _ (do again (.builtin "list.__iadd__" ⟨[← newList [], .ref l], []⟩)) _ _ s from
    wpAny_bind (wpAny_newList (wpAny_pure ⟨Code.quiet_builtin _ (by decide +kernel), codeAny_builtin entry_list_iadd' (?go : wpAny _ _ (Builtin.List.listExtendWith (.ref s.heap.objs.size) (.ref l) (.ref s.heap.objs.size)) _ _ { s with heap := s.heap.push (seqObj "list" #[] 0) })⟩)))))
  unfold Builtin.List.listExtendWith
  refine wpAny_bind (wpAny_typeOf (T := "tuple") ⟨ob, there, hcl⟩ ?_)
  rw [if_pos (by first | decide | simp)]
  refine wpAny_bind (listItems_at there hdt (wpAny_bind (listItems_at fresh rfl ?_)))
  rw [if_neg (by simp)]
  refine wpAny_bind (listUpdate_at fresh rfl (wpAny_pure ?_) (Nat.zero_le _) (by simp only [Array.size_append, List.size_toArray, List.size_toArray, List.length_nil]; omega))
  have e : ((#[] : Array Value) ++ us.toArray).toList = us := by simp
  refine wpAny_bind (wpAny_load (get?_update_seq fresh _) (?out : wpAny _ _ (pure ((#[] : Array Value) ++ us.toArray).toList) R E _))
  rw [e]
  exact wpAny_pure h
/-- sorted of a tuple: as of a list of the same items -/
theorem sorted_tup {l : Addr} {us : List Value} {lv : Value → Value → Bool} {R : Value → Shared → Prop} (O : Swo lv) (hl : s.heap.IsTuple l us.toArray) (hz : us.length ≤ sizeLine)
    (hS : 2 ≤ us.length → ∀ (g : Heap) (a : Addr), g.get? a = some (seqObj "list" us.toArray 0) → (∀ b o, s.heap.get? b = some o → b ≠ a ∧ g.get? b = some o) → SortableO prog w A.in1.in1 { s with heap := g } a us lv)
    (h : ∀ out : List Value, Srtd lv out → Stb lv out us → R (.ref (s.heap.objs.size + 1)) { s with heap := sortedAll s.heap us out.toArray }) :
    wpAny (model prog w) A (call (.builtin "sorted") [.ref l]) R E s := by
  have size1 : (laidOut s.heap us).objs.size = s.heap.objs.size + 1 := by
    unfold laidOut
    rw [Heap.size_update, size_push']
  have at1 : ((laidOut s.heap us).push (seqObj "list" us.toArray 0)).get? (s.heap.objs.size + 1) = some (seqObj "list" us.toArray 0) := by
    rw [← size1]; exact Heap.get?_push_size _ rfl
  have old : ∀ b o, s.heap.get? b = some o → b ≠ s.heap.objs.size + 1 ∧ ((laidOut s.heap us).push (seqObj "list" us.toArray 0)).get? b = some o := fun b o q => by
    have lt : b < s.heap.objs.size := Heap.lt_size q
    refine ⟨Nat.ne_of_lt (Nat.lt_succ_of_lt lt), Heap.get?_push_of_some _ ?_⟩
    unfold laidOut
    rw [Heap.get?_update_ne _ _ _ _ (Nat.ne_of_lt lt)]
    exact Heap.get?_push_of_some _ q
  refine Calls.call_function_entry kind_sorted plain_sorted entry_sorted (args_sorted1 _) ?_
  unfold Builtin.«sorted»
  refine wpAny_bind (m := checkCount "sorted" 1 1 _) (wpAny_pure (wpAny_bind (gather_tup hl hz (wpAny_bind (wpAny_newList ?_ hz)))))
  show wpAny _ _ _ _ _ { s with heap := (laidOut s.heap us).push (seqObj "list" us.toArray 0) }
  rw [size1]
  exact wpAny_bind (wpAny_holding (wpAny_call_entry slot_list_sort ⟨_, at1, rfl⟩ entry_list_sort (list_sort_ord O at1 hz (fun h2 => hS h2 _ _ at1 old) fun out h1 h2 => ⟨_, rfl, wpAny_pure ⟨_, rfl, h out h1 h2⟩⟩) (args_list_sort _)))

/-! tuples of ints, by the order of their items -/
def TupOf (g : Heap) (v : Value) (ns : List Int) : Prop := ∃ (a : Addr) (o : Obj) (xs : Array Value) (k : Nat), v = .ref a ∧ g.get? a = some o ∧ o.cls = .type "tuple" ∧ o.data = .seq xs k ∧ IntsAre xs.toList ns
theorem TupOf.keeps {g g' : Heap} {v : Value} {ns : List Int} (t : TupOf g v ns) (k : ∀ b o, g.get? b = some o → o.cls = .type "tuple" → g'.get? b = some o) : TupOf g' v ns := by
  obtain ⟨a, o, xs, n, e, h1, h2, h3, h4⟩ := t
  exact ⟨a, o, xs, n, e, k _ _ h1 h2, h2, h3, h4⟩
theorem lex_irr : ∀ ns : List Int, HT.lexLt ns ns = false
  | [] => rfl
  | x :: r => by rw [HT.lexLt_cons, if_pos rfl]; exact lex_irr r
theorem lex_asym : ∀ a b : List Int, HT.lexLt a b = true → HT.lexLt b a = false
  | [], [], _ => rfl
  | [], _ :: _, _ => rfl
  | _ :: _, [], h => by rw [HT.lexLt_cons_nil] at h; cases h
  | x :: a, y :: b, h => by
    rw [HT.lexLt_cons] at h ⊢
    by_cases e : x = y
    · subst e
      rw [if_pos rfl] at h ⊢
      exact lex_asym a b h
    · rw [if_neg e] at h
      rw [if_neg (Ne.symm e)]
      have := of_decide_eq_true h
      exact decide_eq_false (by omega)
theorem lex_tr : ∀ a b c : List Int, HT.lexLt b a = false → HT.lexLt c b = false → HT.lexLt c a = false
  | [], b, [], _, _ => rfl
  | [], b, _ :: _, _, _ => rfl
  | _ :: _, [], _, h, _ => by rw [HT.lexLt_nil_cons] at h; cases h
  | _ :: _, _ :: _, [], _, h => by rw [HT.lexLt_nil_cons] at h; cases h
  | x :: a, y :: b, z :: c, h1, h2 => by
    rw [HT.lexLt_cons] at h1 h2 ⊢
    by_cases e1 : y = x
    · subst e1
      rw [if_pos rfl] at h1
      by_cases e2 : z = y
      · subst e2
        rw [if_pos rfl] at h2 ⊢
        exact lex_tr a b c h1 h2
      · rw [if_neg e2] at h2 ⊢
        exact h2
    · rw [if_neg e1] at h1
      have q1 := of_decide_eq_false h1
      by_cases e2 : z = y
      · subst e2
        rw [if_neg e1]
        exact h1
      · rw [if_neg e2] at h2
        have q2 := of_decide_eq_false h2
        have e3 : z ≠ x := by omega
        rw [if_neg e3]
        exact decide_eq_false (by omega)
theorem swo_lexT (k : Value → List Int) : Swo fun v u => HT.lexLt (k v) (k u) := ⟨fun x y => lex_asym _ _, fun x y z => lex_tr _ _ _⟩
/-- behind the first items -/
theorem lex_rest {R : Bool → Shared → Prop} : ∀ (vs us : List Value) (ns ms : List Int) (fin : Bool) (i : Nat), IntsAre vs ns → IntsAre us ms → (fin = decide (ns.length < ms.length)) → 1 ≤ i → R (HT.lexLt ns ms) s → PySem.W.KatLex prog w A true fin R (vs.zip us) i s
  | [], [], _, _, fin, i, .nil, .nil, hf, _, h => by rw [hf]; exact h
  | [], _ :: _, _, _, fin, i, .nil, .cons m u t, hf, _, h => by
    have e : fin = true := by rw [hf]; exact decide_eq_true (by simp)
    rw [e]; exact h
  | _ :: _, [], _, _, fin, i, .cons n t r, .nil, hf, _, h => by
    have e : fin = false := by rw [hf]; exact decide_eq_false (by simp)
    rw [e]; exact h
  | _ :: vs, _ :: us, _, _, fin, i, .cons n t r, .cons m u q, hf, hi, h => by
    rw [HT.lexLt_cons] at h
    refine PySem.W.kat_cons (SeqAt.EqAt.int_int n t m u prog w _ _ (PySem.W.kat_go (fun e => ?_) (fun e => ?_)))
    · have e' : n = m := by simpa using e
      rw [if_pos e'] at h
      exact PySem.W.kat_yes (lex_rest vs us _ _ fin (i + 1) r q (by rw [hf]; simp) (by omega) h)
    · have e' : ¬ n = m := by simpa using e
      rw [if_neg e'] at h
      have e2 : (true && i == 0) = false := by
        have : ¬ i = 0 := by omega
        simp [this]
      refine PySem.W.kat_no ?_
      rw [e2]
      exact PySem.W.kat_one _ _ (PyProof.Rows.lt_int h)
theorem tups_cmp {vs : List Value} {k : Value → List Int} (hp : ∀ v ∈ vs, TupOf s.heap v (k v) ∧ k v ≠ []) : Cmp prog w A s (tuples' true) (fun p => p.1 ∈ vs) (lt2 fun v u => HT.lexLt (k v) (k u)) := by
  intro p q hm hm'
  obtain ⟨⟨a, o, xs, n, e, h1, h2, h3, h4⟩, ne⟩ := hp _ hm
  obtain ⟨⟨a', o', xs', n', e', h1', h2', h3', h4'⟩, ne'⟩ := hp _ hm'
  show wpAny (model prog w) A (keyLt' (tuples' true) p.1 q.1) (fun r s' => s' = s ∧ r = HT.lexLt (k p.1) (k q.1)) (fun _ _ => False) s
  generalize k p.1 = ns at h4 ne ⊢
  generalize k q.1 = ms at h4' ne' ⊢
  rw [e, e']
  have l1 : xs.size = ns.length := by rw [← h4.length, Array.length_toList]
  have l2 : xs'.size = ms.length := by rw [← h4'.length, Array.length_toList]
  refine PySem.W.kat_lt h1 h3 h1' h3' ?_
  rw [l1, l2]
  generalize xs.toList = vs1 at h4 ⊢
  generalize xs'.toList = vs2 at h4' ⊢
  cases h4 with
  | nil => exact absurd rfl ne
  | cons x t r =>
    cases h4' with
    | nil => exact absurd rfl ne'
    | cons y u z =>
      rw [HT.lexLt_cons]
      refine PySem.W.kat_cons (SeqAt.EqAt.int_int x t y u prog w _ _ (PySem.W.kat_go (fun e => ?_) (fun e => ?_)))
      · have e' : x = y := by simpa using e
        rw [if_pos e']
        exact PySem.W.kat_yes (lex_rest _ _ _ _ _ 1 r z (by simp) (Nat.le_refl _) ⟨rfl, rfl⟩)
      · have e' : ¬ x = y := by simpa using e
        rw [if_neg e']
        exact PySem.W.kat_no (oneLt_int ⟨rfl, rfl⟩)
theorem tups_firsts {g : Heap} {k : Value → List Int} : ∀ {vs : List Value}, (∀ v ∈ vs, TupOf g v (k v) ∧ k v ≠ []) → ∃ fs : List Value, PySem.W.KatTups g vs fs ∧ fs.length = vs.length ∧ ∀ f ∈ fs, ∃ x t, f = Value.int x t
  | [], _ => ⟨[], PySem.W.KatTups.nil, rfl, fun _ hm => by simp at hm⟩
  | v :: vs, hp => by
    obtain ⟨fs, h1, h2, h3⟩ := tups_firsts (vs := vs) fun v' hm => hp v' (List.mem_cons_of_mem _ hm)
    obtain ⟨⟨a, o, xs, n, e, ho, hc, hd, hi⟩, ne⟩ := hp v List.mem_cons_self
    generalize k v = ns at hi ne
    obtain ⟨ys⟩ := xs
    have hi : IntsAre ys ns := hi
    cases hi with
    | nil => exact absurd rfl ne
    | cons x t r =>
      subst e
      refine ⟨.int x t :: fs, PySem.W.KatTups.cons ho hc hd rfl h1, by simp [h2], fun f hm => ?_⟩
      rcases List.mem_cons.mp hm with z | hm
      · exact ⟨x, t, z⟩
      · exact h3 f hm
theorem tups_sortable {a : Addr} {vs : List Value} {k : Value → List Int} (h0 : 0 < vs.length) (hp : ∀ v ∈ vs, TupOf s.heap v (k v) ∧ k v ≠ []) (ha : ∀ o, s.heap.get? a = some o → o.cls ≠ .type "tuple") : SortableO prog w A s a vs fun v u => HT.lexLt (k v) (k u) := by
  intro g keep
  have hp' : ∀ v ∈ vs, TupOf g v (k v) ∧ k v ≠ [] := fun v hm => ⟨(hp v hm).1.keeps fun b o e c => keep b o (fun z => by subst z; exact ha o e c) e, (hp v hm).2⟩
  obtain ⟨fs, h1, h2, h3⟩ := tups_firsts hp'
  refine ⟨tuples' true, fun R E hr => PySem.W.kat_kind (T := .type "int") h1 (by omega) (fun f hm => ?_) (by rfl) ?_, tups_cmp hp'⟩
  · obtain ⟨x, t, rfl⟩ := h3 f hm
    exact PySem.W.Looks.now
  · have e : (Value.type "int" != Value.type "tuple") = true := by first | decide +kernel | rfl | decide
    rw [e]; exact hr
end
end Nc

namespace Nc
open PySem PySem.Spec PyProof.Rows L2
/-- sorted(t), a tuple of ints -/
def rSortedTI (K : PySem.W.Frag) : List V → Hp → VK → Prop := fun vs H Q => ∃ (a : Addr) (ns : List Int), vs = [V.ref a] ∧ (SqL K H a (ns.map V.int) ∨ SqT K H a (ns.map V.int)) ∧
  ∀ (ms : List Int) (p : Addr), ms.Perm ns → ms.Pairwise (· ≤ ·) → H p = none → Q (.ref p) (upd H p (.lst (ms.map V.int)))
/-- sorted(xs), a list of tuples of ints, none of them empty -/
def rSortedTs (K : PySem.W.Frag) : List V → Hp → VK → Prop := fun vs H Q => ∃ (a : Addr) (xs : List V) (k : V → List Int), vs = [V.ref a] ∧ SqL K H a xs ∧ (∀ x ∈ xs, ∃ t, x = V.ref t ∧ H t = some (.tup ((k x).map V.int)) ∧ k x ≠ []) ∧
  ∀ ys p, ys.Pairwise (fun x y => HT.lexLt (k y) (k x) = false) → ys.Perm xs → H p = none → Q (.ref p) (upd H p (.lst ys))
section
variable {X : Cx}
theorem call_sortedTI : CallR X (.builtin "sorted") (rSortedTI X.K) := by
  intro pins s σ H vs us Q I r h
  obtain ⟨a, ns, rfl, hs, q⟩ := h
  rcases hs with hs | hs
  · exact cr_sortedI pins s σ H _ us Q I r ⟨a, ns, rfl, hs, q⟩
  · obtain ⟨its, rv, ht, hz⟩ := I.tuple hs
    rw [Vals.ref1 r]
    have hi := rv.ints
    refine sorted_tup SrtO.swo_int ht (by rw [← rv.length]; exact hz) (fun h2 g a' _ _ => SrtO.ints_sortable hi h2) fun out h1 h2 => ?_
    obtain ⟨k1, k2, k3⟩ := SrtO.ints_out hi h1 h2
    obtain ⟨ep, he⟩ := PyProof.Rows.sortedAll_at s.heap its out.toArray
    have hlen : ((out.map SrtO.iv).map V.int).length ≤ sizeLine := by
      rw [List.length_map] at hz ⊢
      rw [k2.length_eq]; exact hz
    exact ⟨.ref _, upd H (s.heap.objs.size + 1) (.lst ((out.map SrtO.iv).map V.int)), I.laid (t' := s.toks) (fun _ _ => PyProof.Rows.sortedAll_old) (Nat.le_succ _) ⟨hlen, out, ep, vals_of_ints k1, he⟩, rfl, q _ _ k2 k3 (I.hok.fresh (Nat.le_succ _))⟩
theorem call_sortedTs : CallR X (.builtin "sorted") (rSortedTs X.K) := by
  intro pins s σ H vs us Q I r h
  obtain ⟨a, xs, k, rfl, hs, hx, q⟩ := h
  obtain ⟨its, rv, hl, hz⟩ := I.list hs
  rw [Vals.ref1 r]
  obtain ⟨e1, e2⟩ := refs_back rv fun x m => let ⟨t, e, _⟩ := hx x m; ⟨t, e⟩
  have hp : ∀ v ∈ its, TupOf s.heap v (k (backV v)) ∧ k (backV v) ≠ [] := fun v hv => by
    obtain ⟨t, rfl⟩ := e2 v hv
    have hm : V.ref t ∈ xs := by rw [e1]; exact List.mem_map.mpr ⟨_, hv, rfl⟩
    obtain ⟨t', e, ht, ne⟩ := hx _ hm
    cases e
    obtain ⟨_, its2, r2, o, ho, hc, n, hd⟩ := I.hok _ _ ht
    exact ⟨⟨t, o, its2.toArray, n, rfl, ho, hc, hd, r2.ints⟩, ne⟩
  refine SrtO.sorted_ord (swo_lexT fun u => k (backV u)) hl.isList (by rw [← rv.length]; exact hz) (fun h2 g a' ha kk => ?_) fun out h1 h2 => ?_
  · refine tups_sortable (by omega) (fun v hm => ⟨(hp v hm).1.keeps fun b o e _ => (kk b o e).2, (hp v hm).2⟩) fun o e => ?_
    have e' : some o = some (PyProof.Rows.seqObj "list" its.toArray 0) := e.symm.trans ha
    cases e'
    intro c
    exact absurd (Value.type.inj c) (by decide)
  · have h3 : ∀ u ∈ out, ∃ a, u = Value.ref a := fun u hu => e2 u (h2.perm.mem_iff.mp hu)
    obtain ⟨ep, he⟩ := PyProof.Rows.sortedAll_at s.heap its out.toArray
    have hperm : (out.map backV).Perm xs := by rw [e1]; exact h2.perm.map backV
    have hsrt : (out.map backV).Pairwise (fun x y => HT.lexLt (k y) (k x) = false) := List.pairwise_map.mpr h1
    exact ⟨.ref _, upd H (s.heap.objs.size + 1) (.lst (out.map backV)), I.laid (t' := s.toks) (fun _ _ => PyProof.Rows.sortedAll_old) (Nat.le_succ _) ⟨by rw [hperm.length_eq]; exact hz, out, ep, vals_back h3, he⟩, rfl, q _ _ hsrt hperm (I.hok.fresh (Nat.le_succ _))⟩
end
end Nc

/-! ### a dict comprehension of two clauses, neither of them with a test -/
namespace Nc
open PySem PySem.Spec PyProof.Rows L2
abbrev dc2 (kx vx t0 i0 t1 i1 : Expr) (scope : Scope) (pos : Pos) : Expr := .DictComp kx vx [⟨t0, i0, [], 0⟩, ⟨t1, i1, [], 0⟩] scope pos
theorem dturn_out (kx vx t0 i0 t1 i1 : Expr) (scope : Scope) (pos : Pos) (it : Value) (D : Addr) (env : Env) :
    compTurn (dc2 kx vx t0 i0 t1 i1 scope pos) 0 it (.ref D) env = (do
      standAt i0.pos
      match ← pyNext it with
      | none => pure (.done .next)
      | some v =>
        letOwnedTupleGo t0 it v
        assign t0 env v
        let mut ok := true
        for c in ([] : List Expr) do
          if ok then ok ← isTrue c env (eval c env)
        if ok then
          let x ← eval i1 env
          standAt i1.pos
          let x ← foldedSetIterable i1 env x
          let _ ← runOwn (.compStart (dc2 kx vx t0 i0 t1 i1 scope pos) 1 (← holding [x] (pyIter x)) (.ref D) env) env
        again (.compLoop (dc2 kx vx t0 i0 t1 i1 scope pos) 0 it (.ref D) env)) := by rfl
theorem dturn_in (kx vx t0 i0 t1 i1 : Expr) (scope : Scope) (pos : Pos) (it : Value) (D : Addr) (env : Env) :
    compTurn (dc2 kx vx t0 i0 t1 i1 scope pos) 1 it (.ref D) env = (do
      standAt i1.pos
      match ← pyNext it with
      | none => pure (.done .next)
      | some v =>
        letOwnedTupleGo t1 it v
        assign t1 env v
        let mut ok := true
        for c in ([] : List Expr) do
          if ok then ok ← isTrue c env (eval c env)
        if ok then
          (do
            let kv ← eval kx env
            let vv ← holding [kv] (eval vx env)
            standAt { kx.pos with endLine := vx.pos.endLine, endCol := vx.pos.endCol }
            holding [kv, vv] (dictSet D kv vv))
        again (.compLoop (dc2 kx vx t0 i0 t1 i1 scope pos) 1 it (.ref D) env)) := by rfl
section
variable {prog : Program} {w : World} {A : Around} {R : Result → Shared → Prop} {s : Shared} {kx vx t0 i0 t1 i1 : Expr} {scope : Scope} {pos : Pos} {it : Value} {D : Addr} {env : Env}
/-- what an exception in the block is noted as -/
abbrev Nby (prog : Program) (w : World) (A : Around) (env : Env) (R : Result → Shared → Prop) : Value → Shared → Prop := notedBy (model prog w) A env fun e s' => R (.error e) s'
theorem dloop_out (hs : ∀ x, foldedSetIterable i1 env x = pure x) (I : Nat → Shared → Prop)
    (turn : ∀ n s, I n s → wpAny (model prog w) A (pyNext it) (fun r s1 => match r with
      | none => R (.ok .next) s1
      | some v => wpAny (model prog w) A (letOwnedTupleGo t0 it v) (fun _ s2 => wpAny (model prog w) A (assign t0 env v) (fun _ s3 =>
          wpAny (model prog w) A (eval i1 env) (fun x s4 => wpAny (model prog w) A (pyIter x) (fun j s5 =>
            codeAny (model prog w) A (.compStart (dc2 kx vx t0 i0 t1 i1 scope pos) 1 j (.ref D) env) (fun r s' => match r with
              | .ok _ => ∃ m, m < n ∧ I m s'
              | .error _ => False) s5) (Nby prog w A env R) s4) (Nby prog w A env R) s3) (Nby prog w A env R) s2) (Nby prog w A env R) s1) (Nby prog w A env R) s)
    (n : Nat) (h : I n s) : codeAny (model prog w) A (.compLoop (dc2 kx vx t0 i0 t1 i1 scope pos) 0 it (.ref D) env) R s := by
  refine codeAny_loop rfl I (fun n s hI => ?_) n h
  show wpAny _ A ((compTurn (dc2 kx vx t0 i0 t1 i1 scope pos) 0 it (.ref D) env).onRaise (fun x => do noteFrame x env; theTreesLotGoes x)) _ _ s
  refine wpAny_noted ?_
  rw [dturn_out]
  refine wpAny_bind (wpAny_standAt (wpAny_bind (wpAny_mono (turn n s hI) (fun r s1 h1 => ?_) fun _ _ z => z)))
  cases r with
  | none => exact wpAny_pure h1
  | some v =>
    refine wpAny_bind (wpAny_mono h1 (fun _ s2 h2 => wpAny_bind (wpAny_mono h2 (fun _ s3 h3 => ?_) fun _ _ z => z)) fun _ _ z => z)
    refine wpAny_bind (wpAny_tests_nil (wpAny_bind (wpAny_mono h3 (fun x s4 h4 => ?_) fun _ _ z => z)))
    refine wpAny_bind (wpAny_standAt (wpAny_bind (wpAny_of_eq (hs x) (wpAny_bind (wpAny_holding (wpAny_mono h4 (fun j s5 h5 => wpAny_bind (wpAny_runOwn ?_)) fun _ _ z => z))))))
    rw [Around.mark_none]
    refine codeAny_mono h5 fun r s' hr => ?_
    cases r with
    | error e => exact hr.elim
    | ok f =>
      first
        | exact wpAny_pure ⟨rfl, hr⟩
        | exact wpAny_bind (wpAny_pure (wpAny_pure ⟨rfl, hr⟩))
theorem dloop_in (I : Nat → Shared → Prop)
    (turn : ∀ n s, I n s → wpAny (model prog w) A (pyNext it) (fun r s1 => match r with
      | none => R (.ok .next) s1
      | some v => wpAny (model prog w) A (letOwnedTupleGo t1 it v) (fun _ s2 => wpAny (model prog w) A (assign t1 env v) (fun _ s3 =>
          wpAny (model prog w) A (eval kx env) (fun k s4 => wpAny (model prog w) A (eval vx env) (fun y s5 =>
            wpAny (model prog w) A (dictSet D k y) (fun _ s6 => ∃ m, m < n ∧ I m s6) (Nby prog w A env R) s5) (Nby prog w A env R) s4) (Nby prog w A env R) s3) (Nby prog w A env R) s2) (Nby prog w A env R) s1) (Nby prog w A env R) s)
    (n : Nat) (h : I n s) : codeAny (model prog w) A (.compLoop (dc2 kx vx t0 i0 t1 i1 scope pos) 1 it (.ref D) env) R s := by
  refine codeAny_loop rfl I (fun n s hI => ?_) n h
  show wpAny _ A ((compTurn (dc2 kx vx t0 i0 t1 i1 scope pos) 1 it (.ref D) env).onRaise (fun x => do noteFrame x env; theTreesLotGoes x)) _ _ s
  refine wpAny_noted ?_
  rw [dturn_in]
  refine wpAny_bind (wpAny_standAt (wpAny_bind (wpAny_mono (turn n s hI) (fun r s1 h1 => ?_) fun _ _ z => z)))
  cases r with
  | none => exact wpAny_pure h1
  | some v =>
    refine wpAny_bind (wpAny_mono h1 (fun _ s2 h2 => wpAny_bind (wpAny_mono h2 (fun _ s3 h3 => ?_) fun _ _ z => z)) fun _ _ z => z)
    refine wpAny_bind (wpAny_tests_nil (wpAny_bind (wpAny_bind (wpAny_mono h3 (fun k s4 h4 => ?_) fun _ _ z => z))))
    refine wpAny_bind (wpAny_holding (wpAny_mono h4 (fun y s5 h5 => wpAny_bind (wpAny_standAt (wpAny_holding (wpAny_mono h5 (fun _ s6 h6 => wpAny_pure ⟨rfl, h6⟩) fun _ _ z => z)))) fun _ _ z => z))
/-- the second clause starts -/
theorem dstart_in (h0 : codeAny (model prog w) A (.compLoop (dc2 kx vx t0 i0 t1 i1 scope pos) 1 it (.ref D) env) R s)
    (h : wpAny (model prog w) A (pyIter it) (fun j s' => codeAny (model prog w) A (.compLoop (dc2 kx vx t0 i0 t1 i1 scope pos) 1 j (.ref D) env) R s') (Nby prog w A env R) s) :
    codeAny (model prog w) A (.compStart (dc2 kx vx t0 i0 t1 i1 scope pos) 1 it (.ref D) env) R s := by
  refine codeAny_of_tree ?_
  show wpAny _ _ ((compStart (dc2 kx vx t0 i0 t1 i1 scope pos) 1 it (.ref D) env).onRaise (fun x => do noteFrame x env; standAt theWindowsPlace)) _ _ s
  refine wpAny_notedAt ?_
  unfold compStart
  refine wpAny_bind (wpAny_askSetting (wpAny_ite ?_))
  split
  · first
      | exact wpAny_bind (wpAny_pure (wpAny_pure (And.intro rfl h0)))
      | exact wpAny_pure (And.intro rfl h0)
  · refine wpAny_bind (wpAny_rule ?_)
    show wpAny _ _ (standAt i1.pos >>= _) _ _ s
    exact wpAny_bind (wpAny_standAt (wpAny_bind (wpAny_mono h (fun j s' h' => wpAny_pure (And.intro rfl h')) fun _ _ z => z)))
end
end Nc
namespace Nc
open PySem PySem.Spec PyProof.Rows L2
section
variable {X : Cx}
/-- {k: v for tg in iter for tg1 in iter1}: D the new dict; the inner loop leads from a turn to Nx -/
def tDc2 (wi : TI) (g : TG) (wi1 : TI) (g1 : TG) (tk tv : TE) (vs vs1 : List Nat) : TE := fun σ H Q => wi σ H fun J H1 => ∀ D, H1 D = none → ∃ W : Nat → Nat → Hp → Prop, (∃ m, W 0 m (upd H1 D (.dK []))) ∧ ∀ i m H, W i m H →
  (J.stop i H ∧ Q (.ref D) H) ∨ (J.go i H ∧ ∃ Nx : Hp → Prop, (∀ H', Nx H' → ∃ m', m' < m ∧ W (i + 1) m' H') ∧ ∀ x H', J.yld i H x H' → g x (wipe σ vs) H' fun σ2 H2 => wipe σ2 vs = wipe σ vs ∧ wi1 σ2 H2 fun J1 H4 =>
    ∃ W1 : Nat → Nat → Hp → Prop, (∃ m, W1 0 m H4) ∧ ∀ j k H, W1 j k H →
      (J1.stop j H ∧ Nx H) ∨ (J1.go j H ∧ ∃ Nx1 : Hp → Prop, (∀ H', Nx1 H' → ∃ k', k' < k ∧ W1 (j + 1) k' H') ∧ ∀ x H', J1.yld j H x H' → g1 x (wipe σ2 vs1) H' fun σ3 H5 => wipe σ3 vs1 = wipe σ2 vs1 ∧
        tk σ3 H5 fun y H6 => tv σ3 H6 fun z H7 => ∃ kvs key, y = kV key ∧ H7 D = some (.dK kvs) ∧ kvs.length < sizeLine ∧ Nx1 (upd H7 D (.dK (putK kvs key z)))))
/-- the block of a comprehension, as it runs -/
abbrev BlkAll (X : Cx) (scope : Scope) (φ : Cx → Prop) : Prop := ∀ (s : Shared) (H : Hp) (C : Addr) (cl : List (Str × Addr)) (fp : List Addr), φ (X.blk s H scope (compEnvC scope cl C X.env) fp)
theorem dc2_core {pins : List (Addr × Obj)} {s : Shared} {σ : L2.St} {H : Hp} {Q : VK} {kx vx tg iter tg1 iter1 : Expr} {scope : Scope} {own : List (Str × Nat)} {vs1 : List Nat} {pos pos' : Pos} {wi wi1 : TI} {g g1 : TG} {tk tv : TE} {use : Option (Value → Sem Unit)} {Qf : Value → Shared → Prop}
    (hc : X.calm = true) (hN : X.N.Nodup) (I : Inv X pins σ H s) (hi : PI X tg iter wi) (ok : BlkOk X.N X.env.scope scope own) (hv : ∀ i ∈ vs1, i ∈ own.map (·.2))
    (hg : BlkAll X scope fun Y => PG Y tg g) (hi1 : BlkAll X scope fun Y => PI Y tg1 iter1 wi1) (hg1 : BlkAll X scope fun Y => PG Y tg1 g1) (hk : BlkAll X scope fun Y => PE Y kx tk) (he : BlkAll X scope fun Y => PE Y vx tv)
    (hs : ∀ x, foldedSetIterable iter X.env x = pure x) (hs1 : ∀ env x, foldedSetIterable iter1 env x = pure x) (h : tDc2 wi g wi1 g1 tk tv (own.map (·.2)) vs1 σ H Q)
    (back : ∀ D C s' m H', Inv X pins σ H' s' → Q (.ref D) H' → s'.heap.Ns C m → FpOk X pins H' C → compPost (model X.prog X.w) X.A X.xe use Qf (.ref D) C (.ok .next) s') :
    wpAny (model X.prog X.w) X.A (comprehension (dc2 kx vx tg iter tg1 iter1 scope pos) scope X.env pos' newDict false (eval iter X.env) use) Qf X.xe s := by
  have free : ∀ y ∈ scope.names, y.2 = .free → ∃ c, X.env.cells.lookup y.1 = some c := fun y hy e => (ok.free y hy e).elim (fun k => I.ok.has _ (.inl k)) fun k => I.ok.has _ (.inr k)
  refine wpAny_comprehension_free (use := use) rfl hs (closure_ok free) ok.kind (fun y hy e => by rw [ok.uniq y hy, e]) (thn (hi.run pins s σ H _ I h) fun xv s1 hx => thn hx fun itv s2 got => ?_)
  obtain ⟨it, fp, tn, J, H2, e, I2, T, st2, f2, q⟩ := got
  subst e
  refine wpAny_newObj_type (newEnv_comp ?_)
  generalize hD : s2.heap.objs.size = D
  have hDn : H2 D = none := I2.hok.fresh (Nat.le_of_eq hD)
  obtain ⟨W, ⟨m0, w0⟩, turn⟩ := q D hDn
  -- the dict is laid
  generalize hs3 : ({ s2 with heap := s2.heap.push { cls := .type "dict", data := .dict #[] } } : Shared) = s3
  have h3 : s3.heap = s2.heap.push { cls := .type "dict", data := .dict #[] } := by rw [← hs3]
  have I3 : Inv X pins σ (upd H2 D (.dK [])) s3 := by
    rw [← hs3]
    refine I2.laid (t' := s2.toks) (fun b o e => Heap.get?_push_of_some _ e) (Nat.le_of_eq hD) ?_
    rw [← hD]; exact dk_empty s2.heap I2.big
  have f3 : ∀ b ∈ fp, FpOk X pins (upd H2 D (.dK [])) b ∧ b < s3.heap.objs.size := fun b hb => by
    obtain ⟨o, e, _⟩ := T.obj _ _ st2 b hb
    have lt := Heap.lt_size e
    refine ⟨⟨?_, (f2 b hb).2⟩, by rw [h3, Heap.size_push]; exact Nat.lt_succ_of_lt lt⟩
    rw [upd_ne (by rw [← hD]; exact Nat.ne_of_lt lt)]; exact (f2 b hb).1
  have st3 : tn 0 s3.heap := T.keep _ _ _ st2 fun b _ o e => by rw [h3]; exact Heap.get?_push_of_some _ e
  have I4 := block_start I3 ok hN f3
  show codeAny _ _ (.compStart (dc2 kx vx tg iter tg1 iter1 scope pos) 0 (.ref it) (.ref D) (compEnvC scope (cellsFrom (s3.heap.objs.size + 1) scope.names (cloFrom X.env.cells scope.names [])) s3.heap.objs.size X.env)) (compPost (model X.prog X.w) X.A X.xe use Qf (.ref D) s3.heap.objs.size) { s3 with heap := pushCells (s3.heap.push { cls := .type "dict", data := .dict #[] }) scope.names }
  generalize hcl : cellsFrom (s3.heap.objs.size + 1) scope.names (cloFrom X.env.cells scope.names []) = cl at I4 ⊢
  have pg := hg s3 (upd H2 D (.dK [])) s3.heap.objs.size cl fp
  have pk := hk s3 (upd H2 D (.dK [])) s3.heap.objs.size cl fp
  have pe := he s3 (upd H2 D (.dK [])) s3.heap.objs.size cl fp
  have pi1 := hi1 s3 (upd H2 D (.dK [])) s3.heap.objs.size cl fp
  have pg1 := hg1 s3 (upd H2 D (.dK [])) s3.heap.objs.size cl fp
  have nfp : ∀ b ∈ fp, (upd H2 D (.dK [])) b = none := fun b hb => (f3 b hb).1.1
  generalize hce : compEnvC scope cl s3.heap.objs.size X.env = ce at I4 pg pk pe pi1 pg1 ⊢
  have cL : ce.locals = s3.heap.objs.size := by subst hce; rfl
  generalize hH3 : upd H2 D (.dK []) = H3 at I3 I4 pg pk pe pi1 pg1 w0 nfp f3
  generalize hs4 : ({ s3 with heap := pushCells (s3.heap.push { cls := .type "dict", data := .dict #[] }) scope.names } : Shared) = s4 at I4 ⊢
  have st4 : tn 0 s4.heap := T.keep _ _ _ st3 fun b _ o e => by rw [← hs4]; exact pushCells_keeps _ _ _ _ (Heap.get?_push_of_some _ e)
  generalize hws : wipe σ (own.map (·.2)) = ws at I4 turn
  -- the first clause's iterator stays ours
  have stat : ∀ {σ' : L2.St} {H' : Hp} {s' : Shared}, Inv (X.blk s3 H3 scope ce fp) [] σ' H' s' → (∀ b ∈ fp, H' b = none) → ∀ b ∈ fp, FpOk (X.blk s3 H3 scope ce fp) [] H' b := fun {σ' H' s'} I' hn b hb =>
    ⟨hn b hb, (I'.ok.exf b hb).1, I'.ok.exfs b hb, .inl hb, fun x c e => (I'.ok.exf b hb).2 x c e, fun p hp => absurd (show p ∈ ([] : List (Addr × Obj)) ++ [] from hp) (by simp)⟩
  have loop : codeAny (model X.prog X.w) X.A (.compLoop (dc2 kx vx tg iter tg1 iter1 scope pos) 0 (.ref it) (.ref D) ce) (compPost (model X.prog X.w) X.A X.xe use Qf (.ref D) s3.heap.objs.size) s4 := by
    refine dloop_out (hs1 ce) (fun n s' => ∃ i H', Inv (X.blk s3 H3 scope ce fp) [] ws H' s' ∧ tn i s'.heap ∧ (∀ b ∈ fp, H' b = none) ∧ W i n H') ?_ m0 ⟨0, H3, I4, st4, nfp, w0⟩
    rintro n s5 ⟨i, H5, I5, st5, n5, w5⟩
    rcases turn i n H5 w5 with ⟨stop, qq⟩ | ⟨go, Nx, hNx, step⟩
    · refine thnF (T.done (X.blk s3 H3 scope ce fp) rfl rfl rfl hc i [] s5 _ H5 (fun _ _ => False) I5 (stat I5 n5) st5 stop) fun r s6 ⟨hr, I6⟩ => ?_
      subst hr
      have I7 : Inv X pins σ H5 s6 := I3.call' (ch := fp) I6.os I6.base I6.hok I6.bare fun b hb => let ⟨_, a1, _, a3, a4, a5⟩ := (f3 b hb).1; ⟨a3, a1, a4, a5⟩
      have nC : H5 s3.heap.objs.size = none := by rw [← cL]; exact I6.free
      obtain ⟨m, hn, _⟩ := I6.loc
      have hn : s6.heap.Ns ce.locals m := hn
      rw [cL] at hn
      exact back D s3.heap.objs.size s6 m H5 I7 qq hn (I3.fpOk (Nat.le_refl _) nC)
    · refine thnF (T.item (X.blk s3 H3 scope ce fp) rfl rfl rfl hc i [] s5 _ H5 (fun _ _ => False) I5 (stat I5 n5) st5 go) fun r s6 ⟨u, hr, h6⟩ => ?_
      subst hr
      refine thnF h6 fun _ s7 ⟨x, H7, I7, r7, y7, st7, n7⟩ => ?_
      refine thnF (pg.run _ s7 _ H7 x u _ (I7.pinned (stat I7 n7) (T.obj _ _ st7)) r7 (step x H7 y7)) fun _ s8 ⟨σ8, H8, I8, hw8, q8⟩ => ?_
      -- at a turn's end
      have fin : ∀ {σ9 : L2.St} {s' : Shared} {H' : Hp}, Inv (X.blk s3 H3 scope ce fp) ([] ++ pinsAt fp s7.heap) σ9 H' s' → ws.length = σ9.length → (∀ (j : Nat) v, ws[j]? = some (some v) → σ9[j]? = some (some v)) → Nx H' →
          ∃ m, m < n ∧ ∃ i H', Inv (X.blk s3 H3 scope ce fp) [] ws H' s' ∧ tn i s'.heap ∧ (∀ b ∈ fp, H' b = none) ∧ W i m H' := fun {σ9 s' H'} I' hl hkn nx => by
        obtain ⟨m', hm, w'⟩ := hNx H' nx
        have pin' : ∀ b ∈ fp, ∀ o, s7.heap.get? b = some o → s'.heap.get? b = some o ∧ H' b = none := fun b hb o e =>
          let z := I'.pin (b, o) (List.mem_append_right _ (List.mem_append_right _ (mem_pinsAt hb e)))
          ⟨z.1, z.2.1⟩
        exact ⟨m', hm, i + 1, H', (I'.unpinned (pins := [])).weak hl hkn, T.keep _ _ _ st7 fun b hb o e => (pin' b hb o e).1, fun b hb => let ⟨o, e, _⟩ := T.obj _ _ st7 b hb; (pin' b hb o e).2, w'⟩
      have hl8 : ws.length = σ8.length := by rw [← hw8, wipe_length]
      have hk9 : ∀ (j : Nat) v, ws[j]? = some (some v) → (wipe σ8 vs1)[j]? = some (some v) := fun j v e => by
        rw [← hw8] at e
        obtain ⟨e1, e2⟩ := wipe_some e
        rw [wipe_out fun z => e2 (hv j z)]; exact e1
      refine thnF (pi1.run _ s8 σ8 H8 _ I8 q8) fun xv s10 hx => thnF hx fun itv s11 got => ?_
      obtain ⟨it1, fp1, tn1, J1, H11, e1, I11, T1, st11, f11, W1, ⟨m1, w1⟩, turn1⟩ := got
      subst e1
      have stat1 : ∀ {H' : Hp}, (∀ b ∈ fp1, H' b = none) → ∀ b ∈ fp1, FpOk (X.blk s3 H3 scope ce fp) ([] ++ pinsAt fp s7.heap) H' b := fun hn b hb => ⟨hn b hb, (f11 b hb).2⟩
      have inner : codeAny (model X.prog X.w) X.A (.compLoop (dc2 kx vx tg iter tg1 iter1 scope pos) 1 (.ref it1) (.ref D) ce)
          (fun r s' => match r with
            | .ok _ => ∃ m, m < n ∧ ∃ i H', Inv (X.blk s3 H3 scope ce fp) [] ws H' s' ∧ tn i s'.heap ∧ (∀ b ∈ fp, H' b = none) ∧ W i m H'
            | .error _ => False) s11 := by
        refine dloop_in (fun k s' => ∃ j H', Inv (X.blk s3 H3 scope ce fp) ([] ++ pinsAt fp s7.heap) (wipe σ8 vs1) H' s' ∧ tn1 j s'.heap ∧ (∀ b ∈ fp1, H' b = none) ∧ W1 j k H') ?_ m1 ⟨0, H11, I11.weak (wipe_length _ _) (fun j v e => (wipe_some e).1), st11, fun b hb => (f11 b hb).1, w1⟩
        rintro k s12 ⟨j, H12, I12, st12, n12, w12⟩
        rcases turn1 j k H12 w12 with ⟨stop1, nx1⟩ | ⟨go1, Nx1, hNx1, step1⟩
        · refine thnF (T1.done (X.blk s3 H3 scope ce fp) rfl rfl rfl hc j _ s12 (wipe σ8 vs1) H12 (fun _ _ => False) I12 (stat1 n12) st12 stop1) fun r s13 ⟨hr, I13⟩ => ?_
          subst hr
          exact fin I13 (hl8.trans (wipe_length σ8 vs1).symm) hk9 nx1
        · refine thnF (T1.item (X.blk s3 H3 scope ce fp) rfl rfl rfl hc j _ s12 (wipe σ8 vs1) H12 (fun _ _ => False) I12 (stat1 n12) st12 go1) fun r s13 ⟨u1, hr, h13⟩ => ?_
          subst hr
          refine thnF h13 fun _ s14 ⟨x1, H14, I14, r14, y14, st14, n14⟩ => ?_
          refine thnF (pg1.run _ s14 (wipe σ8 vs1) H14 x1 u1 _ (I14.pinned (stat1 n14) (T1.obj _ _ st14)) r14 (step1 x1 H14 y14)) fun _ s15 ⟨σ15, H15, I15, hw15, q15⟩ => ?_
          refine thnF (pk.run _ s15 σ15 H15 _ I15 q15) fun zk s16 ⟨yk, H16, I16, r16, q16⟩ => ?_
          refine thnF (pe.run _ s16 σ15 H16 _ I16 q16) fun zv s17 ⟨yv, H17, I17, r17, kvs, key, ek, hD17, hz17, nx⟩ => ?_
          subst ek
          refine d_dictSet (X := X.blk s3 H3 scope ce fp) I17 hD17 hz17 r16 r17 fun s18 I18 => ?_
          obtain ⟨m', hm, w'⟩ := hNx1 _ nx
          have pin' : ∀ b ∈ fp1, ∀ o, s14.heap.get? b = some o → s18.heap.get? b = some o ∧ (upd H17 D (.dK (putK kvs key yv))) b = none := fun b hb o e =>
            let z := I18.pin (b, o) (List.mem_append_right _ (List.mem_append_right _ (mem_pinsAt hb e)))
            ⟨z.1, z.2.1⟩
          exact ⟨m', hm, j + 1, _, I18.unpinned.weak (by rw [← hw15, wipe_length]) (fun j v e => by rw [← hw15] at e; exact (wipe_some e).1), T1.keep _ _ _ st14 fun b hb o e => (pin' b hb o e).1, fun b hb => let ⟨o, e, _⟩ := T1.obj _ _ st14 b hb; (pin' b hb o e).2, w'⟩
      exact dstart_in inner (T1.self X.A 0 _ _ _ st11 inner)
  exact codeAny_compStart_dict loop (T.self X.A 0 _ _ _ st4 loop)
theorem pe_dc2 {kx vx tg iter tg1 iter1 : Expr} {scope : Scope} {own : List (Str × Nat)} {vs1 : List Nat} {pos : Pos} {wi wi1 : TI} {g g1 : TG} {tk tv : TE} (hc : X.calm = true) (hN : X.N.Nodup) (hi : PI X tg iter wi) (ok : BlkOk X.N X.env.scope scope own) (hv : ∀ i ∈ vs1, i ∈ own.map (·.2))
    (hg : BlkAll X scope fun Y => PG Y tg g) (hi1 : BlkAll X scope fun Y => PI Y tg1 iter1 wi1) (hg1 : BlkAll X scope fun Y => PG Y tg1 g1) (hk : BlkAll X scope fun Y => PE Y kx tk) (he : BlkAll X scope fun Y => PE Y vx tv)
    (hs : ∀ x, foldedSetIterable iter X.env x = pure x := by intro _; rfl) (hs1 : ∀ env x, foldedSetIterable iter1 env x = pure x := by intro _ _; rfl) :
    PE X (dc2 kx vx tg iter tg1 iter1 scope pos) (tDc2 wi g wi1 g1 tk tv (own.map (·.2)) vs1) := by
  refine ⟨fun pins s σ H Q I h => ?_⟩
  rw [arm_eval_DictComp]
  refine dc2_core hc hN I hi ok hv hg hi1 hg1 hk he hs hs1 h fun D C s' m H' I' q hn f => ⟨m, hn, fun h'' sb => ?_⟩
  obtain ⟨f0, f1, f2, f3, f4, f5⟩ := f
  exact ⟨.ref D, H', I'.turned (t' := s'.toks) (fun b o hb e => (sb.2 b hb).trans e) f0 f1 f3 f4 f5, rfl, q⟩
end
end Nc

/-! ### further rules over data -/
namespace Nc
open PySem PySem.Spec PyProof.Rows L2 Evl
/-! a for over what is a list or a tuple -/
def iSeq (K : PySem.W.Frag) (tl : TE) : TI := fun σ H R => tl σ H fun x H1 => ∃ a, x = .ref a ∧ ((∃ xs, SqL K H1 a xs ∧ R (Itl K a) H1) ∨ ∃ xs, SqT K H1 a xs ∧ R (Itt K a) H1)
theorem pi_seq {X : Cx} {tg l : Expr} {tl : TE} (hl : PE X l tl) : PI X tg l (iSeq X.K tl) := by
  refine ⟨fun pins s σ H R I h => thn (hl.run pins s σ H _ I h) fun v s1 ⟨x, H1, I1, r1, a, e, q⟩ => ?_⟩
  subst e
  cases r1
  have mine : ∀ b ∈ [s1.heap.objs.size], FpOk X pins H1 b := fun b hb => by
    obtain rfl : b = s1.heap.objs.size := by simpa using hb
    exact I1.fpOk (Nat.le_refl _) (I1.hok.fresh (Nat.le_refl _))
  rcases q with ⟨xs, hq, q⟩ | ⟨xs, hq, q⟩
  · obtain ⟨its, rv, pl, hz⟩ := I1.list hq
    exact wpAny_pyIter_list pl.isList ⟨_, [s1.heap.objs.size], _, _, H1, rfl, I1.kept (t' := s1.toks) fun b o e => Heap.get?_push_of_some _ e, turn_list a _, ⟨_, Heap.get?_push_size _ rfl, rfl, rfl⟩, mine, q⟩
  · obtain ⟨its, rv, pt, hz⟩ := I1.tuple hq
    exact wpAny_pyIter_tuple (show s1.heap.IsTuple a its.toArray from pt) ⟨_, [s1.heap.objs.size], _, _, H1, rfl, I1.kept (t' := s1.toks) fun b o e => Heap.get?_push_of_some _ e, turn_tuple a _, ⟨_, Heap.get?_push_size _ rfl, rfl, rfl⟩, mine, q⟩
/-- a list or a tuple of these -/
def Dt.seqOf (d : Dt) (ds : List Dt) : Prop := d = .lst ds ∨ d = .tup ds
section
variable {σ : L2.St} {Hb H : Hp} {F : List Addr} {d e : Dt} {ds es : List Dt} {te ta tb tl : TE} {K : PySem.W.Frag} {D : Ends} {tz tu : TS} {g : TG} {t : TT}
theorem s_forS (S : Beside Hb F H) (h : EvD tl σ Hb d) (hd : d.seqOf ds)
    (k : ∀ Hb1 H1, Ex Hb Hb1 → Ex H H1 → Beside Hb1 F H1 → ∃ Pv : Nat → L2.St → Hp → Prop, Pv 0 σ H1 ∧ (∀ i σ' H', Pv i σ' H' → Ex Hb1 H') ∧
      (∀ i d v σ' H', ds[i]? = some d → Rp Any Hb1 v d → Pv i σ' H' → g v σ' H' fun σ2 H2 => tu { D with nx := Pv (i + 1), ct := Pv (i + 1), bk := D.nx } σ2 H2) ∧ (∀ σ' H', Pv ds.length σ' H' → D.nx σ' H')) : tFor (iSeq K tl) g tu D σ H :=
  h F H S _ fun v H1 e1 r => by
    obtain ⟨Pv, h0, hb, hs, hd'⟩ := k (less H1 F) H1 (S.lessEx e1) e1 (S.on e1).sep
    rcases hd with rfl | rfl
    · obtain ⟨a, xs, rfl, _, hx, rs⟩ := r.lstI
      refine ⟨a, rfl, .inl ⟨xs, sq_of (less_ex a _ hx), for_list (xs := xs) Pv h0 (fun i σ' H' _ p => sq_of (hb i σ' H' p a _ hx)) (fun i x σ' H' hi p => ?_) (fun σ' H' p => hd' σ' H' (by rw [rs.length] at p; exact p))⟩⟩
      obtain ⟨d, h1, h2⟩ := rs.getV hi
      exact hs i d x σ' H' h1 h2 p
    · obtain ⟨a, xs, rfl, hx, rs⟩ := r.tupI
      refine ⟨a, rfl, .inr ⟨xs, st_of (less_ex a _ hx), for_tup (xs := xs) Pv h0 (fun i σ' H' _ p => st_of (hb i σ' H' p a _ hx)) (fun i x σ' H' hi p => ?_) (fun σ' H' p => hd' σ' H' (by rw [rs.length] at p; exact p))⟩⟩
      obtain ⟨d, h1, h2⟩ := rs.getV hi
      exact hs i d x σ' H' h1 h2 p
theorem q_forS (S : Beside Hb F H) (h : EvD tl σ Hb d) (hd : d.seqOf ds)
    (k : ∀ Hb1 H1, Ex Hb Hb1 → Ex H H1 → Beside Hb1 F H1 → ∃ Pv : Nat → L2.St → Hp → Prop, Pv 0 σ H1 ∧ (∀ i σ' H', Pv i σ' H' → Ex Hb1 H') ∧
      (∀ i d v σ' H', ds[i]? = some d → Rp Any Hb1 v d → Pv i σ' H' → g v σ' H' fun σ2 H2 => tu { D with nx := Pv (i + 1), ct := Pv (i + 1), bk := tz D } σ2 H2) ∧ (∀ σ' H', Pv ds.length σ' H' → tz D σ' H')) : tSeq (tFor (iSeq K tl) g tu) tz D σ H := s_forS (D := { D with nx := tz D }) S h hd k
theorem ed_lenS (ha : EvD ta σ Hb d) (hd : d.seqOf ds) : EvD (tCB (rLenS K) (tCons ta tNil)) σ Hb (.int (ds.length : Int)) := by
  rcases hd with rfl | rfl
  · exact ed_lenL ha
  · exact ed_lenT ha
/-- isinstance(x, (list, tuple)) -/
theorem kit_lt (d : Dt) : PySem.W.kitAny K (.type d.ty) [.type "list", .type "tuple"] = some (d.isL || d.isT) := by
  refine PySem.W.kitAny.eq_def .. ▸ ?_
  cases h : d.isL with
  | true =>
    have h1 := kit_ty (K := K) (kit_list d)
    rw [h] at h1
    exact kitAny_cons h1 (fun z => nomatch z) (fun _ => rfl)
  | false =>
    have h1 := kit_ty (K := K) (kit_list d)
    rw [h] at h1
    refine kitAny_cons h1 (fun _ => ?_) (fun z => nomatch z)
    have h2 := kit_ty (K := K) (kit_tuple d)
    cases h3 : d.isT with
    | true => rw [h3] at h2; exact kitAny_cons h2 (fun z => nomatch z) (fun _ => rfl)
    | false => rw [h3] at h2; exact kitAny_cons h2 (fun _ => kitAny_nil) (fun z => nomatch z)
theorem ed_isiLT (ha : EvD ta σ Hb d) : EvD (tCB (rIsiT K) (tCons ta (tCons (tTup (tCons (tC (.ty "list")) (tCons (tC (.ty "tuple")) tNil))) tNil))) σ Hb (.bl (d.isL || d.isT)) := fun F H S Q q =>
  ha.thn S fun x H2 e2 S2 rx => ⟨by decide, fun p hp => ⟨x, p, [.ty "list", .ty "tuple"], .type d.ty, [.type "list", .type "tuple"], _, rfl, upd_same, .cons (.ty _) (.cons (.ty _) .nil), (rx.mono (less_ex.trans (Ex.new hp))).tyx, kit_lt d, q _ _ (e2.trans (Ex.new hp)) (.bl _)⟩⟩
/-! is None -/
def Dt.isN : Dt → Bool
  | .non => true
  | _ => false
theorem Rp.isN {N : Addr → Prop} {v : V} (r : Rp N H v d) : decide (v = .non) = d.isN := by
  cases r <;> simp [Dt.isN]
def rIsN : R2 := fun x y H Q => y = .non ∧ Q (.bl (decide (x = .non))) H
def rNotN : R2 := fun x y H Q => y = .non ∧ Q (.bl (!decide (x = .non))) H
theorem op_isN1 {X : Cx} : OpR X (compareOp .Is) rIsN := op_isN
theorem op_notN1 {X : Cx} : OpR X (compareOp .IsNot) rNotN := op_notN
theorem ed_isN (ha : EvD ta σ Hb d) : EvD (tOp rIsN ta (tC .non)) σ Hb (.bl d.isN) := fun F H S Q q =>
  ha.thn S fun x H2 e2 S2 rx => ⟨rfl, by rw [rx.isN]; exact q _ H2 e2 (.bl _)⟩
theorem ed_notN (ha : EvD ta σ Hb d) : EvD (tOp rNotN ta (tC .non)) σ Hb (.bl (!d.isN)) := fun F H S Q q =>
  ha.thn S fun x H2 e2 S2 rx => ⟨rfl, by rw [rx.isN]; exact q _ H2 e2 (.bl _)⟩
/-! sorted -/
theorem nats_perm {ms : List Int} {l : List Nat} (h : ms.Perm (ofN l)) (hs : ms.Pairwise (· ≤ ·)) : ms = ofN (srt l) := by
  have h1 : (ofN (srt l)).Perm (ofN l) := (srt_perm l).map _
  have h2 : (ofN (srt l)).Pairwise (· ≤ ·) := by
    unfold ofN
    rw [List.pairwise_map]
    exact (srt_sorted l).imp fun h => Int.ofNat_le.mpr h
  exact sorted_one (r := (· ≤ ·)) (fun x y h1 h2 => Int.le_antisymm h1 h2) (h.trans h1.symm) hs h2
theorem natsD (l : List Nat) : (l.map fun x => Dt.int (x : Nat)) = (ofN l).map Dt.int := by unfold ofN; rw [List.map_map]; rfl
theorem ef_sortS {l : List Nat} (ha : EvD ta σ Hb d) (hd : d.seqOf (l.map fun x => Dt.int (x : Nat))) : EvF (tCB (rSortedTI K) (tCons ta tNil)) σ Hb ((srt l).map fun x => Dt.int (x : Nat)) := fun F H S Q q =>
  ha.thn S fun x H2 e2 S2 rx => by
    rw [natsD] at hd
    rcases hd with rfl | rfl
    · obtain ⟨a, xs, rfl, _, hx, rs⟩ := rx.lstI
      have ex := rs.ofInts
      subst ex
      refine ⟨a, ofN l, rfl, .inl (sq_of (less_ex a _ hx)), fun ms p h1 h2 hp => ?_⟩
      have em := nats_perm h1 h2
      subst em
      refine ef_mk S e2 ?_ q p hp
      rw [natsD]
      exact RpL.ints _
    · obtain ⟨a, xs, rfl, hx, rs⟩ := rx.tupI
      have ex := rs.ofInts
      subst ex
      refine ⟨a, ofN l, rfl, .inr (st_of (less_ex a _ hx)), fun ms p h1 h2 hp => ?_⟩
      have em := nats_perm h1 h2
      subst em
      refine ef_mk S e2 ?_ q p hp
      rw [natsD]
      exact RpL.ints _
/-- groups in their order -/
def leG (x y : List Nat) : Bool := !HT.lexLt (ofN y) (ofN x)
theorem ofN_inj {a b : List Nat} (h : ofN a = ofN b) : a = b := by
  have := congrArg (List.map Int.toNat) h
  unfold ofN at this
  rw [List.map_map, List.map_map] at this
  have e : (Int.toNat ∘ fun x : Nat => ((x : Nat) : Int)) = id := funext fun x => Int.toNat_natCast x
  rw [e, List.map_id, List.map_id] at this
  exact this
theorem lex_anti : ∀ a b : List Int, HT.lexLt a b = false → HT.lexLt b a = false → a = b
  | [], [], _, _ => rfl
  | [], _ :: _, h, _ => by rw [HT.lexLt_nil_cons] at h; cases h
  | _ :: _, [], _, h => by rw [HT.lexLt_nil_cons] at h; cases h
  | x :: a, y :: b, h1, h2 => by
    rw [HT.lexLt_cons] at h1 h2
    by_cases e : x = y
    · subst e
      rw [if_pos rfl] at h1 h2
      rw [lex_anti a b h1 h2]
    · rw [if_neg e] at h1
      rw [if_neg (Ne.symm e)] at h2
      have q1 := of_decide_eq_false h1
      have q2 := of_decide_eq_false h2
      omega
def sortG (gs : List (List Nat)) : List (List Nat) := isort leG gs
theorem sortG_perm (gs : List (List Nat)) : (sortG gs).Perm gs := isort_perm gs
theorem sortG_uniq {gs hs : List (List Nat)} (h : hs.Perm gs) (hp : hs.Pairwise (fun x y => HT.lexLt (ofN y) (ofN x) = false)) : hs = sortG gs := by
  have h2 : (sortG gs).Pairwise (fun x y => HT.lexLt (ofN y) (ofN x) = false) := by
    have := isort_sorted (le := leG) (fun x y h => by unfold leG at h ⊢; simp at h ⊢; exact lex_asym _ _ h) (fun x y z h1 h2 => by unfold leG at h1 h2 ⊢; simp at h1 h2 ⊢; exact lex_tr _ _ _ h1 h2) gs
    exact this.imp fun h => by unfold leG at h; simpa using h
  exact sorted_one (r := fun x y => HT.lexLt (ofN y) (ofN x) = false) (fun x y h1 h2 => ofN_inj (lex_anti _ _ h2 h1)) (h.trans (sortG_perm gs).symm) hp h2
/-- what group a value stands for -/
def vGrp (H : Hp) (v : V) : List Int := match v with
  | .ref a => match H a with
    | some (.tup xs) => xs.map fun x => match x with | .int i => i | _ => 0
    | _ => []
  | _ => []
theorem vGrp_of {N : Addr → Prop} {v : V} {g : List Nat} (r : Rp N H v (dGrp g)) : vGrp H v = ofN g ∧ ∃ t, v = .ref t ∧ H t = some (.tup ((ofN g).map V.int)) := by
  have r' : Rp N H v (.tup ((ofN g).map Dt.int)) := by rw [← natsD]; exact r
  obtain ⟨a, xs, rfl, hx, rs⟩ := r'.tupI
  have ex := rs.ofInts
  subst ex
  refine ⟨?_, a, rfl, hx⟩
  unfold vGrp
  dsimp only
  rw [hx]
  show List.map _ (List.map V.int (ofN g)) = _
  rw [List.map_map]
  exact List.map_id' _
theorem grps_of : ∀ {vs : List V} {gs : List (List Nat)}, RpL Any H vs (gs.map dGrp) → vs.map (vGrp H) = gs.map ofN
  | [], [], _ => rfl
  | _ :: _, [], r => by cases r
  | [], _ :: _, r => by cases r
  | v :: vs, g :: gs, .cons r t => by rw [List.map_cons, List.map_cons, (vGrp_of r).1, grps_of t]
theorem RpL.back : ∀ {vs : List V}, (∀ v ∈ vs, ∃ g : List Nat, Rp Any H v (dGrp g)) → RpL Any H vs ((vs.map fun v => (vGrp H v).map Int.toNat).map dGrp)
  | [], _ => .nil
  | v :: vs, h => by
    obtain ⟨g, r⟩ := h v List.mem_cons_self
    refine .cons ?_ (RpL.back fun u hu => h u (List.mem_cons_of_mem _ hu))
    have e : (vGrp H v).map Int.toNat = g := by
      rw [(vGrp_of r).1]
      unfold ofN
      rw [List.map_map]
      have e : (Int.toNat ∘ fun x : Nat => ((x : Nat) : Int)) = id := funext fun x => Int.toNat_natCast x
      rw [e, List.map_id]
    show Rp Any H v (dGrp ((vGrp H v).map Int.toNat))
    rw [e]; exact r
theorem ef_sortG {gs : List (List Nat)} (ha : EvD ta σ Hb (dGrps gs)) (hne : ∀ g ∈ gs, g ≠ []) : EvF (tCB (rSortedTs K) (tCons ta tNil)) σ Hb ((sortG gs).map dGrp) := fun F H S Q q =>
  ha.thn S fun x H2 e2 S2 rx => by
    obtain ⟨a, xs, rfl, _, hx, rs⟩ := Rp.lstI rx
    have rs2 : RpL Any H2 xs (gs.map dGrp) := rs.mono less_ex
    have each : ∀ v ∈ xs, ∃ g ∈ gs, Rp Any (less H2 F) v (dGrp g) := fun v hv => by
      obtain ⟨i, hi, e⟩ := List.mem_iff_getElem.mp hv
      obtain ⟨d, h1, h2⟩ := rs.getV (i := i) (v := v) (by rw [List.getElem?_eq_getElem hi, e])
      rw [List.getElem?_map] at h1
      cases hh : gs[i]? with
      | none => rw [hh] at h1; simp at h1
      | some g =>
        rw [hh] at h1
        have : dGrp g = d := Option.some.inj h1
        exact ⟨g, List.mem_of_getElem? hh, by rw [this]; exact h2⟩
    refine ⟨a, xs, vGrp H2, rfl, sq_of (less_ex a _ hx), fun v hv => ?_, fun ys p hs hperm hp => ?_⟩
    · obtain ⟨g, hg, r⟩ := each v hv
      obtain ⟨h1, t, h2, h3⟩ := vGrp_of (r.mono less_ex)
      refine ⟨t, h2, by rw [h1]; exact h3, ?_⟩
      rw [h1]
      intro z
      refine hne g hg (ofN_inj (b := []) ?_)
      rw [z]; rfl
    · have hy : RpL Any (less H2 F) ys ((ys.map fun v => (vGrp (less H2 F) v).map Int.toNat).map dGrp) := RpL.back fun v hv => by
        obtain ⟨g, _, r⟩ := each v (hperm.mem_iff.mp hv)
        exact ⟨g, r⟩
      have hvg : ∀ v ∈ xs, vGrp (less H2 F) v = vGrp H2 v := fun v hv => by
        obtain ⟨g, _, r⟩ := each v hv
        rw [(vGrp_of r).1, (vGrp_of (r.mono less_ex)).1]
      have hxs : xs.map (fun v => (vGrp (less H2 F) v).map Int.toNat) = gs := by
        have h1 := grps_of rs
        have : xs.map (fun v => (vGrp (less H2 F) v).map Int.toNat) = (xs.map (vGrp (less H2 F))).map (List.map Int.toNat) := by rw [List.map_map]; rfl
        rw [this, h1, List.map_map]
        have e : (List.map Int.toNat ∘ ofN) = id := funext fun g => by
          show (ofN g).map Int.toNat = g
          unfold ofN
          rw [List.map_map]
          have e : (Int.toNat ∘ fun x : Nat => ((x : Nat) : Int)) = id := funext fun x => Int.toNat_natCast x
          rw [e, List.map_id]
        rw [e, List.map_id]
      have he : ys.map (fun v => (vGrp (less H2 F) v).map Int.toNat) = sortG gs := by
        refine sortG_uniq ?_ ?_
        · rw [← hxs]; exact hperm.map _
        · rw [List.pairwise_map]
          refine hs.imp_of_mem fun {v u} hv hu h => ?_
          obtain ⟨g1, _, r1⟩ := each v (hperm.mem_iff.mp hv)
          obtain ⟨g2, _, r2⟩ := each u (hperm.mem_iff.mp hu)
          have a1 := (vGrp_of (r1.mono less_ex)).1
          have a2 := (vGrp_of (r2.mono less_ex)).1
          rw [a1, a2] at h
          rw [hvg v (hperm.mem_iff.mp hv), hvg u (hperm.mem_iff.mp hu), a1, a2]
          have e : ∀ g : List Nat, ofN ((ofN g).map Int.toNat) = ofN g := fun g => by
            have : (ofN g).map Int.toNat = g := by
              unfold ofN
              rw [List.map_map]
              have e : (Int.toNat ∘ fun x : Nat => ((x : Nat) : Int)) = id := funext fun x => Int.toNat_natCast x
              rw [e, List.map_id]
            rw [this]
          rw [e, e]; exact h
      rw [he] at hy
      exact ef_mk S e2 hy q p hp
/-! enumerate -/
theorem s_forE {ar : TA} {j1 j2 : Nat} (S : Beside Hb F H) (h : EvDs ar σ Hb [.lst ds])
    (k : ∀ Hb1 H1, Ex Hb Hb1 → Ex H H1 → Beside Hb1 F H1 → ∃ Pv : Nat → L2.St → Hp → Prop, Pv 0 σ H1 ∧ (∀ i σ' H', Pv i σ' H' → Ex Hb1 H') ∧
      (∀ i d v σ' H', ds[i]? = some d → Rp Any Hb1 v d → Pv i σ' H' → ∀ H2, Ex H' H2 → tu { D with nx := Pv (i + 1), ct := Pv (i + 1), bk := D.nx } ((σ'.set j1 (some (.int (i : Int)))).set j2 (some v)) H2) ∧ (∀ σ' H', Pv ds.length σ' H' → D.nx σ' H')) : tFor (iEnum K ar) (gTup K 2 (gCons (gName j1) (gCons (gName j2) gNil))) tu D σ H :=
  h F H S _ fun ws H1 e1 r => by
    cases r with
    | cons r r' =>
      cases r'
      obtain ⟨a, xs, rfl, _, hx, rs⟩ := r.lstI
      obtain ⟨Pv, h0, hb, hs, hd⟩ := k (less H1 F) H1 (S.lessEx e1) e1 (S.on e1).sep
      refine ⟨a, xs, rfl, sq_of (less_ex a _ hx), for_it walk_enum Pv h0 (fun i σ' H' _ p => sq_of (hb i σ' H' p a _ hx)) (fun i y σ' H' H2 hi p hy => ?_) (fun σ' H' p => hd σ' H' (by rw [rs.length] at p; exact p))⟩
      obtain ⟨T, x1, x2, rfl, nT, rfl, f1, f2⟩ := hy
      obtain ⟨d, h1, h2⟩ := rs.getV f2
      have ex1 : x1 = .int (i : Nat) := (Option.some.inj f1).symm
      subst ex1
      exact ⟨T, _, rfl, st_of upd_same, rfl, _, _, rfl, _, _, rfl, rfl, hs i d x2 σ' H' h1 h2 p _ (Ex.new nT)⟩
theorem q_forE {ar : TA} {j1 j2 : Nat} (S : Beside Hb F H) (h : EvDs ar σ Hb [.lst ds])
    (k : ∀ Hb1 H1, Ex Hb Hb1 → Ex H H1 → Beside Hb1 F H1 → ∃ Pv : Nat → L2.St → Hp → Prop, Pv 0 σ H1 ∧ (∀ i σ' H', Pv i σ' H' → Ex Hb1 H') ∧
      (∀ i d v σ' H', ds[i]? = some d → Rp Any Hb1 v d → Pv i σ' H' → ∀ H2, Ex H' H2 → tu { D with nx := Pv (i + 1), ct := Pv (i + 1), bk := tz D } ((σ'.set j1 (some (.int (i : Int)))).set j2 (some v)) H2) ∧ (∀ σ' H', Pv ds.length σ' H' → tz D σ' H')) : tSeq (tFor (iEnum K ar) (gTup K 2 (gCons (gName j1) (gCons (gName j2) gNil))) tu) tz D σ H := s_forE (D := { D with nx := tz D }) S h k
/-! a dict with ints as keys -/
theorem ed_dget {p : Addr} {kvs : List (Key × V)} {i : Int} {v : V} {N : Addr → Prop} (hd : Ev ta σ Hb (.ref p)) (hp : Hb p = some (.dK kvs)) (hi : EvD tb σ Hb (.int i)) (hv : valV kvs (.inl i) = some v) (r : Rp N Hb v d) : EvD (tDGet ta tb) σ Hb d := fun F H S Q q =>
  hd H S.ex _ fun H1 e1 => hi F H1 (S.on e1) _ fun y H2 e2 ry => by
    rw [ry.intI]
    refine ⟨p, v, rfl, ?_, q v H2 (e1.trans e2) (S.up (e1.trans e2) r)⟩
    rw [← hv]
    exact DGet.k (k := .inl i) ((e1.trans e2) _ _ (S.ex _ _ hp))
theorem et_dnotin {p : Addr} {kvs : List (Key × V)} {i : Int} (hd : Ev ta σ Hb (.ref p)) (hp : Hb p = some (.dK kvs)) (hi : EvD tb σ Hb (.int i)) : EvD (tDNotIn tb ta) σ Hb (.bl (!(valV kvs (.inl i)).isSome)) := fun F H S Q q =>
  hi F H S _ fun y H1 e1 ry => hd H1 (S.on e1).ex _ fun H2 e2 => by
    rw [ry.intI]
    exact ⟨p, _, rfl, DGet.k (k := .inl i) ((e1.trans e2) _ _ (S.ex _ _ hp)), q _ H2 (e1.trans e2) (.bl _)⟩
def rSortedDI : List V → Hp → VK → Prop := fun xs H Q => ∃ (a : Addr) (kvs : List (Key × V)) (ks : List Int), xs = [.ref a] ∧ Rd H a (.dK kvs) ∧ kvs.map (·.1) = ks.map Sum.inl ∧ ks.length < 64 ∧
    ∀ (ys : List Int) (p : Addr), ys.Perm ks → ys.Pairwise (· ≤ ·) → H p = none → Q (.ref p) (upd H p (.lst (ys.map V.int)))
theorem call_sortedDI1 {X : Cx} (hc : X.calm = true) : CallR X (.builtin "sorted") rSortedDI := call_sortedDI hc
theorem ef_sortDI {p : Addr} {kvs : List (Key × V)} {l : List Nat} (hd : Ev ta σ Hb (.ref p)) (hp : Hb p = some (.dK kvs)) (hk : kvs.map (·.1) = (ofN l).map Sum.inl) (hl : l.length < 64) : EvF (tCB rSortedDI (tCons ta tNil)) σ Hb ((srt l).map fun x => Dt.int (x : Nat)) := fun F H S Q q =>
  hd H S.ex _ fun H1 e1 => by
    refine ⟨p, kvs, ofN l, rfl, .inl (e1 _ _ (S.ex _ _ hp)), hk, by rw [ofN_length]; exact hl, fun ys p' h1 h2 hp' => ?_⟩
    have em := nats_perm h1 h2
    subst em
    refine ef_mk S e1 ?_ q p' hp'
    rw [natsD]
    exact RpL.ints _
end
end Nc

/-! ### promises of defs that refuse, and what nocross.ties makes of groups -/
namespace Nc
open PySem PySem.Spec PyProof.Rows L2 Evl
/-- where the class of that name stands -/
def clO (mg : Str → Option Value) (x : Str) : Addr := match mg x with
  | some (.ref a) => a
  | _ => 0
def spE (mg : Str → Option Value) (n : Nat) (pre : List Dt → Prop) (f : List Dt → Except Str Dt) : Sp := fun vs H Q E => vs.length = n ∧ ∃ ds, RpL Any H vs ds ∧ pre ds ∧
  (∀ d, f ds = .ok d → ∀ v H', Ex H H' → Rp (Fresh H) H' v d → Q v H') ∧ (∀ x, f ds = .error x → ∀ H', Ex H H' → E (.ref (clO mg x)) none H')
/-- told, or refused -/
def EvX (mg : Str → Option Value) (te : TE) (σ : L2.St) (Hb : Hp) (r : Except Str Dt) (E : XK) : Prop := ∀ F H, Beside Hb F H → ∀ Q : VK,
  (∀ d, r = .ok d → ∀ v H', Ex H H' → Rp (Fresh H) H' v d → Q v H') → (∀ x, r = .error x → ∀ H', Ex H H' → E (.ref (clO mg x)) none H') → te σ H Q
section
variable {mg : Str → Option Value} {σ : L2.St} {Hb H : Hp} {F : List Addr} {d : Dt} {ds : List Dt} {te ta tb tl : TE} {K : PySem.W.Frag} {D : Ends} {tz tu : TS} {E : XK} {r : Except Str Dt}
theorem ex_call {n : Nat} {pre : List Dt → Prop} {f : List Dt → Except Str Dt} {ta : TA} (h : EvDs ta σ Hb ds) (hp : pre ds) (hl : ds.length = n) : EvX mg (tCall (spE mg n pre f) [] E ta) σ Hb (f ds) E := fun F H S Q q qe =>
  h F H S _ fun vs H1 e1 r => by
    show spE mg n pre f (vs ++ []) H1 Q E
    rw [List.append_nil]
    exact ⟨by rw [r.length]; exact hl, ds, r.mono less_ex, hp, fun d hd v H' e2 rv => q d hd v H' (e1.trans e2) (rv.wk fun a n => fresh_back e1 n), fun x hx H' e2 => qe x hx H' (e1.trans e2)⟩
theorem EvX.en (h : EvX mg te σ Hb (.ok d) E) : EvN te σ Hb d := fun F H S Q q => h F H S Q (fun e he v H' e1 rv => by cases he; exact q v H' e1 rv) fun x hx => nomatch hx
theorem q_dropX (S : Beside Hb F H) (h : EvX mg te σ Hb r E) (k : ∀ d, r = .ok d → ∀ H', Ex H H' → Beside Hb F H' → tz D σ H') (ke : ∀ x, r = .error x → ∀ H', Ex H H' → E (.ref (clO mg x)) none H') : tSeq (tDrop te) tz D σ H :=
  h F H S _ (fun d hd v H' e _ => k d hd H' e (S.on e)) ke
theorem q_setX {i : Nat} (S : Beside Hb F H) (h : EvX mg te σ Hb r E) (k : ∀ d, r = .ok d → ∀ v Hb' H', Ex Hb Hb' → Ex H H' → Beside Hb' F H' → Rp (Fresh H) Hb' v d → tz D (σ.set i (some v)) H') (ke : ∀ x, r = .error x → ∀ H', Ex H H' → E (.ref (clO mg x)) none H') : tSeq (tAsg te (gName i)) tz D σ H :=
  h F H S _ (fun d hd v H' e r => k d hd v (less H' F) H' (S.lessEx e) e (S.on e).sep (r.to (fun a xs n h => ⟨n, by rw [less_some (S.new n)]; exact h⟩) (fun a xs h => by rw [less_some (S.tup e h)]; exact h) fun a k h => by rw [less_some (S.dic e h)]; exact h)) ke
theorem s_retX (S : Beside Hb F H) (h : EvX mg te σ Hb r E) (k : ∀ d, r = .ok d → ∀ v H', Ex H H' → Rp (Fresh H) H' v d → D.rt v H') (ke : ∀ x, r = .error x → ∀ H', Ex H H' → E (.ref (clO mg x)) none H') : tRet te D σ H := h F H S _ k ke
end
/-! what is handed in -/
def cntOk : Dt → Option Nat
  | .int i => if 1 ≤ i ∧ i ≤ 60 then some i.toNat else none
  | _ => none
def plOk (n : Nat) : Dt → Option Nat
  | .int i => if 0 ≤ i ∧ i < (n : Int) then some i.toNat else none
  | _ => none
def plsOk (n : Nat) : List Dt → Option (List Nat)
  | [] => some []
  | d :: l => match plOk n d, plsOk n l with
    | some a, some r => some (a :: r)
    | _, _ => none
def Dt.elems : Dt → Option (List Dt)
  | .lst l => some l
  | .tup l => some l
  | _ => none
def rowOk (n : Nat) (d : Dt) : Option (List Nat) := match d.elems with
  | some (x :: l) => plsOk n (x :: l)
  | _ => none
def scan (n : Nat) : List Nat → List Dt → Except Str (List (List Nat))
  | _, [] => .ok []
  | u, d :: ds => match rowOk n d with
    | none => .error "BadGroup"
    | some g => if (u ++ g).Nodup then (match scan n (u ++ g) ds with
        | .ok r => .ok (srt g :: r)
        | .error e => .error e)
      else .error "Twice"
def chk (c : Dt) (gs : List Dt) : Except Str (List (List Nat)) := match cntOk c with
  | none => .error "BadCount"
  | some n => scan n [] gs
def okD (r : Except Str (List (List Nat))) : Except Str Dt := match r with
  | .ok g => .ok (dGrps g)
  | .error e => .error e
theorem plsOk_len {n : Nat} : ∀ {ds : List Dt} {g : List Nat}, plsOk n ds = some g → g.length = ds.length
  | [], g, h => by cases h; rfl
  | d :: ds, g, h => by
    unfold plsOk at h
    split at h
    · rename_i a r h1 h2
      cases h
      rw [List.length_cons, List.length_cons, plsOk_len h2]
    · cases h
theorem plsOk_get {n : Nat} : ∀ {ds : List Dt} {g : List Nat}, plsOk n ds = some g → ds = g.map (fun x => Dt.int (x : Nat)) ∧ ∀ x ∈ g, x < n
  | [], g, h => by cases h; exact ⟨rfl, by simp⟩
  | d :: ds, g, h => by
    unfold plsOk at h
    split at h
    · rename_i a r h1 h2
      cases h
      obtain ⟨i1, i2⟩ := plsOk_get h2
      have : d = .int (a : Nat) ∧ a < n := by
        unfold plOk at h1
        split at h1
        · rename_i i
          split at h1
          · rename_i hi
            cases h1
            exact ⟨by rw [Int.toNat_of_nonneg hi.1], by omega⟩
          · cases h1
        · cases h1
      refine ⟨by rw [List.map_cons, ← i1, this.1], fun x hx => ?_⟩
      rcases List.mem_cons.mp hx with rfl | hx
      · exact this.2
      · exact i2 x hx
    · cases h
theorem plsOk_of {n : Nat} : ∀ {g : List Nat}, (∀ x ∈ g, x < n) → plsOk n (g.map fun x => Dt.int (x : Nat)) = some g
  | [], _ => rfl
  | a :: g, h => by
    have h1 : plOk n (.int (a : Nat)) = some a := by
      unfold plOk
      have := h a (by simp)
      show (if 0 ≤ ((a : Nat) : Int) ∧ ((a : Nat) : Int) < (n : Int) then some ((a : Nat) : Int).toNat else none) = some a
      rw [if_pos ⟨by omega, by omega⟩]; rfl
    rw [List.map_cons]
    unfold plsOk
    rw [h1, plsOk_of fun x hx => h x (List.mem_cons_of_mem _ hx)]
theorem plsOk_none {n : Nat} : ∀ {ds : List Dt}, plsOk n ds = none → ∃ (i : Nat) (d : Dt), ds[i]? = some d ∧ plOk n d = none ∧ ∀ (j : Nat) e, j < i → ds[j]? = some e → (plOk n e).isSome = true
  | [], h => by cases h
  | d :: ds, h => by
    cases hd : plOk n d with
    | none => exact ⟨0, d, rfl, hd, fun j e hj => absurd hj (Nat.not_lt_zero _)⟩
    | some a =>
      have h2 : plsOk n ds = none := by
        unfold plsOk at h
        rw [hd] at h
        cases h2 : plsOk n ds with
        | none => rfl
        | some r => rw [h2] at h; cases h
      obtain ⟨i, e, h3, h4, h5⟩ := plsOk_none h2
      refine ⟨i + 1, e, h3, h4, fun j e' hj he => ?_⟩
      cases j with
      | zero => cases he; rw [hd]; rfl
      | succ j => exact h5 j e' (by omega) he
theorem plsOk_some {n : Nat} : ∀ {ds : List Dt} {g : List Nat}, plsOk n ds = some g → ∀ d ∈ ds, (plOk n d).isSome = true
  | [], g, h, d, hd => by cases hd
  | d :: ds, g, h, e, he => by
    unfold plsOk at h
    split at h
    · rename_i a r h1 h2
      rcases List.mem_cons.mp he with rfl | he
      · rw [h1]; rfl
      · exact plsOk_some h2 e he
    · cases h
def cntX (d : Dt) : Except Str Dt := match cntOk d with
  | some _ => .ok .non
  | none => .error "BadCount"
theorem cntX_none {d : Dt} (h : cntOk d = none) : cntX d = .error "BadCount" := by unfold cntX; rw [h]
theorem cntX_some {d : Dt} {n : Nat} (h : cntOk d = some n) : cntX d = .ok .non := by unfold cntX; rw [h]
def grpX (n : Nat) (d : Dt) : Except Str Dt := match rowOk n d with
  | some _ => .ok .non
  | none => .error "BadGroup"
theorem grpX_none {n : Nat} {d : Dt} (h : rowOk n d = none) : grpX n d = .error "BadGroup" := by unfold grpX; rw [h]
theorem grpX_some {n : Nat} {d : Dt} {g : List Nat} (h : rowOk n d = some g) : grpX n d = .ok .non := by unfold grpX; rw [h]
def Dt.rows : Dt → List Dt
  | .lst l => l
  | _ => []
def sp_check_countE (mg : Str → Option Value) : Sp := spE mg 1 (fun ds => ∃ c, ds = [c]) fun ds => cntX (ds.headD .non)
def sp__check_group (mg : Str → Option Value) : Sp := spE mg 2 (fun ds => ∃ (n : Nat) (d : Dt), ds = [.int n, d] ∧ n ≤ 60) fun ds => grpX (dInt (ds.headD .non)).toNat (ds.getD 1 .non)
def sp__checked (mg : Str → Option Value) : Sp := spE mg 2 (fun ds => ∃ (c : Dt) (gs : List Dt), ds = [c, .lst gs] ∧ gs.length ≤ 1000) fun ds => okD (chk (ds.headD .non) (ds.getD 1 .non).rows)
theorem rowOk_elems {n : Nat} {d : Dt} {g : List Nat} (h : rowOk n d = some g) : ∃ l, d.elems = some l ∧ l ≠ [] ∧ plsOk n l = some g := by
  unfold rowOk at h
  split at h
  · rename_i x l e
    exact ⟨_, e, by simp, h⟩
  · cases h
theorem seq_elems {d : Dt} {l : List Dt} : d.seqOf l ↔ d.elems = some l := by
  constructor
  · rintro (rfl | rfl) <;> rfl
  · intro h
    cases d <;> first | (cases h; exact .inl rfl) | (cases h; exact .inr rfl) | cases h
theorem elems_isLT {d : Dt} : d.elems.isSome = (d.isL || d.isT) := by cases d <;> rfl
def usedD (u : List Nat) (n : Nat) : List Dt := (List.range n).map fun i => Dt.bl (decide (i ∈ u))
def usedV (u : List Nat) (n : Nat) : List V := (List.range n).map fun i => V.bl (decide (i ∈ u))
theorem used_rp {N : Addr → Prop} {H : Hp} (u : List Nat) (n : Nat) : RpL N H (usedV u n) (usedD u n) := by
  unfold usedV usedD
  generalize List.range n = l
  induction l with
  | nil => exact .nil
  | cons a l ih => exact .cons (.bl _) ih
theorem used_set {u : List Nat} {n z : Nat} (h : z < n) : (usedV u n).set z (.bl true) = usedV (u ++ [z]) n := by
  unfold usedV
  refine List.ext_getElem? fun i => ?_
  rw [List.getElem?_set, List.getElem?_map, List.getElem?_map]
  by_cases c : z = i
  · subst c
    rw [if_pos rfl, List.length_map, List.length_range, if_pos h, List.getElem?_range h]
    simp
  · rw [if_neg c]
    by_cases hi : i < n
    · rw [List.getElem?_range hi]
      have : (i ∈ u ++ [z]) ↔ i ∈ u := by simp [Ne.symm c]
      show some (V.bl (decide (i ∈ u))) = some (V.bl (decide (i ∈ u ++ [z])))
      rw [decide_eq_decide.mpr this]
    · rw [List.getElem?_eq_none (by simpa using hi)]
      rfl
theorem used_len (u : List Nat) (n : Nat) : (usedV u n).length = n := by unfold usedV; rw [List.length_map, List.length_range]
theorem used_at {u : List Nat} {n z : Nat} (h : z < n) : atI (usedD u n) ((z : Nat) : Int) = some (.bl (decide (z ∈ u))) := by
  refine atI_nat ?_
  unfold usedD
  rw [List.getElem?_map, List.getElem?_range h]; rfl
theorem used_nil (n : Nat) : usedV [] n = List.replicate n (V.bl false) := by
  unfold usedV
  refine List.ext_getElem? fun i => ?_
  rw [List.getElem?_map, List.getElem?_replicate]
  by_cases hi : i < n
  · rw [if_pos hi, List.getElem?_range hi]; rfl
  · rw [if_neg hi, List.getElem?_eq_none (by simpa using hi)]; rfl
theorem scan_bad {n : Nat} {u : List Nat} {d : Dt} {ds : List Dt} (h : rowOk n d = none) : scan n u (d :: ds) = .error "BadGroup" := by
  unfold scan
  rw [h]
theorem scan_twice {n : Nat} {u g : List Nat} {d : Dt} {ds : List Dt} (h : rowOk n d = some g) (hn : ¬ (u ++ g).Nodup) : scan n u (d :: ds) = .error "Twice" := by
  unfold scan
  rw [h]
  exact if_neg hn
def pre (r : List (List Nat)) (s : Except Str (List (List Nat))) : Except Str (List (List Nat)) := match s with
  | .ok x => .ok (r ++ x)
  | .error e => .error e
theorem scan_go {n : Nat} {u g : List Nat} {d : Dt} {ds : List Dt} (h : rowOk n d = some g) (hn : (u ++ g).Nodup) : scan n u (d :: ds) = pre [srt g] (scan n (u ++ g) ds) := by
  conv => lhs; unfold scan
  rw [h]
  refine (if_pos hn).trans ?_
  cases scan n (u ++ g) ds <;> rfl
theorem pre_pre (a b : List (List Nat)) (s : Except Str (List (List Nat))) : pre a (pre b s) = pre (a ++ b) s := by
  cases s with
  | ok x => show Except.ok _ = Except.ok _; rw [List.append_assoc]
  | error e => rfl
end Nc

/-! ### homes, crossings, what is made -/
namespace Nc
open PySem PySem.Spec PyProof.Rows L2 Evl
def kvG (g : List Nat) (x : V) : List (Key × V) := g.map fun k => (.inl ((k : Nat) : Int), x)
def kvsOf : List (List Nat) → List V → List (Key × V)
  | g :: gs, x :: xs => kvG g x ++ kvsOf gs xs
  | _, _ => []
theorem kvsOf_next : ∀ {gs : List (List Nat)} {xs : List V} {i : Nat} {g : List Nat} {x : V}, gs[i]? = some g → xs[i]? = some x → kvsOf (gs.take (i + 1)) (xs.take (i + 1)) = kvsOf (gs.take i) (xs.take i) ++ kvG g x
  | [], _, _, _, _, h, _ => by simp at h
  | _ :: _, [], _, _, _, _, h => by simp at h
  | g :: gs, x :: xs, 0, g', x', h1, h2 => by
    cases h1; cases h2
    simp [kvsOf]
  | g :: gs, x :: xs, i + 1, g', x', h1, h2 => by
    rw [List.take_succ_cons, List.take_succ_cons, List.take_succ_cons, List.take_succ_cons]
    show kvG g x ++ kvsOf _ _ = (kvG g x ++ kvsOf _ _) ++ _
    rw [kvsOf_next (gs := gs) (xs := xs) (i := i) h1 h2, List.append_assoc]
theorem kvsOf_keys : ∀ {gs : List (List Nat)} {xs : List V}, gs.length = xs.length → (kvsOf gs xs).map (·.1) = (ofN gs.flatten).map Sum.inl
  | [], [], _ => rfl
  | [], _ :: _, h => by simp at h
  | _ :: _, [], h => by simp at h
  | g :: gs, x :: xs, h => by
    show (kvG g x ++ kvsOf gs xs).map (·.1) = _
    rw [List.map_append, kvsOf_keys (by simpa using h), List.flatten_cons]
    unfold kvG ofN
    simp only [List.map_map, List.map_append]
    rfl
theorem valV_mem {kvs : List (Key × V)} {k : Key} : (valV kvs k).isSome = true ↔ k ∈ kvs.map (·.1) := by
  unfold valV
  rw [Option.isSome_map, List.find?_isSome]
  simp only [decide_eq_true_eq, List.mem_map]
theorem valV_app {a b : List (Key × V)} {k : Key} (h : k ∉ a.map (·.1)) : valV (a ++ b) k = valV b k := by
  unfold valV
  rw [List.find?_append]
  have : a.find? (fun kv => decide (kv.1 = k)) = none := by
    rw [List.find?_eq_none]
    intro x hx e
    exact h (List.mem_map.mpr ⟨x, hx, of_decide_eq_true e⟩)
  rw [this]; rfl
theorem valV_front {a b : List (Key × V)} {k : Key} {v : V} (h : valV a k = some v) : valV (a ++ b) k = some v := by
  unfold valV at h ⊢
  rw [List.find?_append]
  cases hf : a.find? (fun kv => decide (kv.1 = k)) with
  | none => rw [hf] at h; cases h
  | some x => rw [hf] at h; exact h
theorem valV_kvG {g : List Nat} {x : V} {k : Nat} (h : k ∈ g) : valV (kvG g x) (.inl ((k : Nat) : Int)) = some x := by
  unfold valV kvG
  rw [List.find?_map, Option.map_map]
  cases hf : g.find? ((fun kv : Key × V => decide (kv.1 = .inl ((k : Nat) : Int))) ∘ fun k => (Sum.inl ((k : Nat) : Int), x)) with
  | none =>
    have := List.find?_eq_none.mp hf k h
    simp at this
  | some y => rfl
theorem kvsOf_val : ∀ {gs : List (List Nat)} {xs : List V} {i k : Nat} {g : List Nat} {x : V}, gs.flatten.Nodup → gs[i]? = some g → xs[i]? = some x → k ∈ g → valV (kvsOf gs xs) (.inl ((k : Nat) : Int)) = some x
  | [], _, _, _, _, _, _, h, _, _ => by simp at h
  | _ :: _, [], _, _, _, _, _, _, h, _ => by simp at h
  | g :: gs, x :: xs, 0, k, g', x', _, h1, h2, hk => by
    cases h1; cases h2
    exact valV_front (valV_kvG hk)
  | g :: gs, x :: xs, i + 1, k, g', x', hd, h1, h2, hk => by
    rw [List.flatten_cons, List.nodup_append] at hd
    show valV (kvG g x ++ kvsOf gs xs) _ = _
    rw [valV_app, kvsOf_val hd.2.1 h1 h2 hk]
    intro z
    unfold kvG at z
    rw [List.map_map, List.mem_map] at z
    obtain ⟨y, hy, e⟩ := z
    have : y = k := by
      have := Sum.inl.inj e
      exact Int.ofNat_inj.mp this
    subst this
    exact hd.2.2 y hy y (List.mem_flatten.mpr ⟨g', List.mem_of_getElem? h1, hk⟩) rfl
theorem putK_new {kvs : List (Key × V)} {k : Key} {v : V} (h : k ∉ kvs.map (·.1)) : putK kvs k v = kvs ++ [(k, v)] := by
  unfold putK
  rw [if_neg]
  intro z
  rw [List.any_eq_true] at z
  obtain ⟨x, hx, e⟩ := z
  exact h (List.mem_map.mpr ⟨x, hx, of_decide_eq_true e⟩)
theorem homeOf_mem {gs : List (List Nat)} {k : Nat} (h : k ∈ gs.flatten) : ∃ i : Nat, gs[i]? = some (homeOf gs k) ∧ k ∈ homeOf gs k := by
  unfold homeOf
  cases hf : gs.find? (fun g => decide (k ∈ g)) with
  | none =>
    obtain ⟨g, hg, hk⟩ := List.mem_flatten.mp h
    exact absurd (decide_eq_true hk) (List.find?_eq_none.mp hf g hg)
  | some g =>
    obtain ⟨i, hi, e⟩ := List.mem_iff_getElem.mp (List.mem_of_find?_eq_some hf)
    exact ⟨i, by rw [List.getElem?_eq_getElem hi, e]; rfl, by
      have := List.find?_some hf
      exact of_decide_eq_true this⟩
def sp__homes : Sp := fun vs H Q _ => vs.length = 1 ∧ ∃ (a : Addr) (xs : List V) (gs : List (List Nat)), vs = [.ref a] ∧ H a = some (.lst xs) ∧ RpL Any H xs (gs.map dGrp) ∧ gs.flatten.Nodup ∧ gs.flatten.length < 64 ∧
  ∀ p H', Ex H H' → H p = none → H' p = some (.dK (kvsOf gs xs)) → Q (.ref p) H'
def xD : Option (Nat × Nat × Nat × Nat) → Dt
  | none => .non
  | some (a, b, c, d) => .tup [.int (a : Nat), .int (b : Nat), .int (c : Nat), .int (d : Nat)]
def oD : Option Nat → Dt
  | none => .non
  | some a => .int (a : Nat)
theorem xD_flat (o : Option (Nat × Nat × Nat × Nat)) : (xD o).flat = true := by
  cases o <;> rfl
theorem oD_flat (o : Option Nat) : (oD o).flat = true := by
  cases o <;> rfl
def sp__first_above : Sp := spD 2 (fun ds => ∃ (g : List Nat) (p : Nat), ds = [dGrp g, .int p]) fun ds => oD (firstAbove (ds.headD .non).grpN (dInt (ds.getD 1 .non)).toNat)
def sp__crossing_from : Sp := fun vs H Q _ => vs.length = 3 ∧ ∃ (p : Addr) (xs : List V) (gs : List (List Nat)) (a b : Nat), vs = [.ref p, .int a, .int b] ∧ H p = some (.dK (kvsOf gs xs)) ∧ RpL Any H xs (gs.map dGrp) ∧ gs.flatten.Nodup ∧ a ∈ gs.flatten ∧ b ∈ gs.flatten ∧
  ∀ v H', Ex H H' → Rp (Fresh H) H' v (xD (xFrom (homeOf gs a) (homeOf gs b) a b)) → Q v H'
def sp__least_crossing : Sp := spD 1 (fun ds => ∃ gs : List (List Nat), ds = [dGrps gs] ∧ gs.flatten.Nodup ∧ gs.flatten.length < 64) fun ds => xD (leastX ((ds.headD .non).rows.map Dt.grpN) (srt ((ds.headD .non).rows.map Dt.grpN).flatten))
theorem rows_grps (gs : List (List Nat)) : (dGrps gs).rows.map Dt.grpN = gs := by
  show (gs.map dGrp).map Dt.grpN = gs
  rw [List.map_map]
  have e : (Dt.grpN ∘ dGrp) = id := funext grpN_dGrp
  rw [e, List.map_id]
section
variable {σ : L2.St} {Hb H : Hp} {F : List Addr} {D : Ends} {tz : TS} {te : TE} {E : XK} {gs : List (List Nat)}
theorem q_homes {i : Nat} (S : Beside Hb F H) (h : EvD te σ Hb (dGrps gs)) (hn : gs.flatten.Nodup) (hl : gs.flatten.length < 64) (k : ∀ p xs Hb' H', Ex Hb Hb' → Ex H H' → Beside Hb' F H' → RpL Any Hb' xs (gs.map dGrp) → Hb' p = some (.dK (kvsOf gs xs)) → tz D (σ.set i (some (.ref p))) H') :
    tSeq (tAsg (tCall sp__homes [] E (tCons te tNil)) (gName i)) tz D σ H := by
  show tCons te tNil σ H fun vs H1 => sp__homes (vs ++ []) H1 (fun v H2 => tz D (σ.set i (some v)) H2) E
  refine ea_cons' h ea_nil' F H S _ fun vs H1 e1 r => ?_
  obtain ⟨v, d, rfl, hd0, r0⟩ : ∃ v d, vs = [v] ∧ d = dGrps gs ∧ Rp Any (less H1 F) v d := by
    cases r with
    | cons a b => cases b; exact ⟨_, _, rfl, rfl, a⟩
  subst hd0
  obtain ⟨a, xs, rfl, _, hx, rs⟩ := Rp.lstI r0
  show sp__homes ([.ref a] ++ []) H1 _ E
  rw [List.append_nil]
  refine ⟨rfl, a, xs, gs, rfl, less_ex a _ hx, rs.mono less_ex, hn, hl, fun p H' e2 hp hd => ?_⟩
  have S1 := S.on e1
  have e3 : Ex (less H1 F) (less H' F) := S1.sep.lessEx e2
  refine k p xs (less H' F) H' (S.lessEx (e1.trans e2)) (e1.trans e2) (S.on (e1.trans e2)).sep (rs.mono e3) ?_
  rw [less_some ((S.on e1).dic e2 hd)]
  exact hd
end
/-! what is handed in, taken together -/
theorem scan_ok {n : Nat} : ∀ {ds : List Dt} {u : List Nat} {rs : List (List Nat)}, scan n u ds = .ok rs → u.Nodup → (u ++ rs.flatten).Nodup ∧ (∀ x ∈ rs.flatten, x < n) ∧ (∀ g ∈ rs, g ≠ [] ∧ g.Pairwise (· < ·)) ∧ rs.length = ds.length
  | [], u, rs, h, hu => by
    cases h
    exact ⟨by simpa using hu, by simp, by simp, rfl⟩
  | d :: ds, u, rs, h, hu => by
    unfold scan at h
    split at h
    · cases h
    · rename_i g hg
      split at h
      · rename_i hnd
        split at h
        · rename_i r hr
          cases h
          obtain ⟨l, h1, h2, h3⟩ := rowOk_elems hg
          obtain ⟨h4, h5⟩ := plsOk_get h3
          obtain ⟨i1, i2, i3, i4⟩ := scan_ok hr hnd
          have pm : (u ++ (srt g :: r).flatten).Perm ((u ++ g) ++ r.flatten) := by
            rw [List.flatten_cons, List.append_assoc]
            exact ((srt_perm g).append_right _).append_left _
          refine ⟨pm.nodup_iff.mpr i1, fun x hx => ?_, fun g' hg' => ?_, by rw [List.length_cons, List.length_cons, i4]⟩
          · rw [List.flatten_cons, List.mem_append] at hx
            rcases hx with hx | hx
            · exact h5 x (srt_mem.mp hx)
            · exact i2 x hx
          · rcases List.mem_cons.mp hg' with rfl | hg'
            · refine ⟨fun z => ?_, srt_lt (List.nodup_append.mp hnd).2.1⟩
              have := srt_length g
              rw [z] at this
              have h6 := plsOk_len h3
              rw [← this] at h6
              exact h2 (List.length_eq_zero_iff.mp h6.symm)
            · exact i3 g' hg'
        · cases h
      · cases h
def aloneG (n : Nat) (rs : List (List Nat)) : List (List Nat) := ((List.range n).filter fun i => decide (i ∉ rs.flatten)).map fun i => [i]
def madeX (c : Dt) (gs : List Dt) : Except Str Dt := match chk c gs with
  | .error e => .error e
  | .ok rs => if (leastX rs (srt rs.flatten)).isSome = true then .error "Crossed" else .ok (dTie (dInt c).toNat (sortG (rs ++ aloneG (dInt c).toNat rs)))
def crossX (c : Dt) (gs : List Dt) : Except Str Dt := match chk c gs with
  | .error e => .error e
  | .ok rs => .ok (xD (leastX rs (srt rs.flatten)))
theorem madeX_err {c : Dt} {gs : List Dt} {e : Str} (h : chk c gs = .error e) : madeX c gs = .error e := by unfold madeX; rw [h]
theorem crossX_err {c : Dt} {gs : List Dt} {e : Str} (h : chk c gs = .error e) : crossX c gs = .error e := by unfold crossX; rw [h]
theorem crossX_ok {c : Dt} {gs : List Dt} {rs : List (List Nat)} (h : chk c gs = .ok rs) : crossX c gs = .ok (xD (leastX rs (srt rs.flatten))) := by unfold crossX; rw [h]
theorem madeX_ok {c : Dt} {gs : List Dt} {rs : List (List Nat)} (h : chk c gs = .ok rs) : madeX c gs = if (leastX rs (srt rs.flatten)).isSome = true then .error "Crossed" else .ok (dTie (dInt c).toNat (sortG (rs ++ aloneG (dInt c).toNat rs))) := by unfold madeX; rw [h]
def okGiven (ds : List Dt) : Prop := ∃ (c : Dt) (gs : List Dt), ds = [c, .lst gs] ∧ gs.length ≤ 1000
def sp_made (mg : Str → Option Value) : Sp := spE mg 2 okGiven fun ds => madeX (ds.headD .non) (ds.getD 1 .non).rows
def sp_crossing (mg : Str → Option Value) : Sp := spE mg 2 okGiven fun ds => crossX (ds.headD .non) (ds.getD 1 .non).rows
theorem chk_ok {c : Dt} {gs : List Dt} {rs : List (List Nat)} (h : chk c gs = .ok rs) : ∃ n : Nat, c = .int n ∧ 1 ≤ n ∧ n ≤ 60 ∧ rs.flatten.Nodup ∧ rs.flatten.length < 64 ∧ (∀ x ∈ rs.flatten, x < n) ∧ (∀ g ∈ rs, g ≠ [] ∧ g.Pairwise (· < ·)) ∧ rs.length = gs.length := by
  unfold chk at h
  split at h
  · cases h
  · rename_i n hc
    obtain ⟨rfl, h1, h2⟩ : c = .int (n : Nat) ∧ 1 ≤ n ∧ n ≤ 60 := by
      unfold cntOk at hc
      split at hc
      · split at hc
        · rename_i i hi
          cases hc
          exact ⟨by rw [Int.toNat_of_nonneg (by omega)], by omega, by omega⟩
        · cases hc
      · cases hc
    obtain ⟨i1, i2, i3, i4⟩ := scan_ok h List.nodup_nil
    rw [List.nil_append] at i1
    refine ⟨n, rfl, h1, h2, i1, ?_, i2, i3, i4⟩
    have := List.Nodup.length_le_of_subset i1 (l₂ := List.range n) fun a ha => List.mem_range.mpr (i2 a ha)
    rw [List.length_range] at this
    omega
end Nc

/-! ### groups of a tie, handed in in any order, and what is made of them -/
namespace Nc
open PySem PySem.Spec PyProof.Rows L2 Evl
/-- a row as it is handed in: a tuple or a list -/
def rowD (p : Bool × List Nat) : Dt := if p.1 = true then .tup (p.2.map fun x => Dt.int (x : Nat)) else .lst (p.2.map fun x => Dt.int (x : Nat))
theorem rowD_seq (p : Bool × List Nat) : (rowD p).seqOf (p.2.map fun x => Dt.int (x : Nat)) := by
  unfold rowD
  split
  · exact .inr rfl
  · exact .inl rfl
theorem rowOk_row {n : Nat} {p : Bool × List Nat} (h0 : p.2 ≠ []) (h : ∀ x ∈ p.2, x < n) : rowOk n (rowD p) = some p.2 := by
  unfold rowOk
  rw [seq_elems.mp (rowD_seq p)]
  have := plsOk_of h
  cases hp : p.2 with
  | nil => exact absurd hp h0
  | cons a r => rw [hp] at this; exact this
theorem scan_rows {n : Nat} : ∀ {ps : List (Bool × List Nat)} {u : List Nat}, (∀ p ∈ ps, p.2 ≠ [] ∧ ∀ x ∈ p.2, x < n) → (u ++ (ps.map (·.2)).flatten).Nodup → scan n u (ps.map rowD) = .ok (ps.map fun p => srt p.2)
  | [], _, _, _ => rfl
  | p :: ps, u, h, hn => by
    rw [List.map_cons, List.flatten_cons, ← List.append_assoc] at hn
    rw [List.map_cons, scan_go (rowOk_row (h p (by simp)).1 (h p (by simp)).2) (List.nodup_append.mp hn).1, scan_rows (fun q hq => h q (List.mem_cons_of_mem _ hq)) hn]
    rfl
theorem flat_srt (ps : List (Bool × List Nat)) : (ps.map fun p => srt p.2).flatten.Perm (ps.map (·.2)).flatten := by
  induction ps with
  | nil => exact List.Perm.refl _
  | cons p ps ih =>
    rw [List.map_cons, List.map_cons, List.flatten_cons, List.flatten_cons]
    exact (srt_perm p.2).append ih
theorem groups_nodup {α : Type} [DecidableEq α] {f : Nat → α} {n : Nat} : (groupsOf f n).Pairwise fun g h => ∃ i j, i < j ∧ g.head? = some i ∧ h.head? = some j := by
  unfold groupsOf
  rw [List.pairwise_map]
  have hp : ((List.range n).filter (firstB f)).Pairwise (· < ·) := List.Pairwise.filter _ List.pairwise_lt_range
  refine hp.imp_of_mem fun {i j} hi hj h => ?_
  rw [List.mem_filter, List.mem_range] at hi hj
  exact ⟨i, j, h, grp_head hi.1 hi.2, grp_head hj.1 hj.2⟩
theorem groups_lex {α : Type} [DecidableEq α] {f : Nat → α} {n : Nat} : (groupsOf f n).Pairwise fun x y => HT.lexLt (ofN y) (ofN x) = false := by
  refine groups_nodup.imp fun {g h} q => ?_
  obtain ⟨i, j, hij, hg, hh⟩ := q
  cases g with
  | nil => simp at hg
  | cons a g =>
    cases h with
    | nil => simp at hh
    | cons b h =>
      obtain rfl : a = i := by simpa using hg
      obtain rfl : b = j := by simpa using hh
      show HT.lexLt (((b : Nat) : Int) :: ofN h) (((a : Nat) : Int) :: ofN g) = false
      rw [HT.lexLt_cons, if_neg (by omega)]
      exact decide_eq_false (by omega)
theorem groups_nd {α : Type} [DecidableEq α] {f : Nat → α} {n : Nat} : (groupsOf f n).Nodup := by
  refine groups_nodup.imp fun {g h} q => ?_
  obtain ⟨i, j, hij, hg, hh⟩ := q
  rintro rfl
  rw [hg] at hh
  have := Option.some.inj hh
  omega
theorem home_grp {α : Type} [DecidableEq α] {f : Nat → α} {n : Nat} {hs : List (List Nat)} (hsub : ∀ g ∈ hs, g ∈ groupsOf f n) {a : Nat} (ha : a ∈ hs.flatten) : homeOf hs a = grp f n a := by
  obtain ⟨i, h1, h2⟩ := homeOf_mem ha
  exact group_at (hsub _ (List.mem_of_getElem? h1)) h2
theorem no_cross {L : List Nat} {n : Nat} (hL : Lead L) (hn : L.length = n) {hs : List (List Nat)} (hsub : ∀ g ∈ hs, g ∈ groupsOf (lb L) n) (hnd : hs.flatten.Nodup) : leastX hs (srt hs.flatten) = none := by
  rw [leastX_none]
  refine (srt_lt hnd).imp_of_mem fun {a b} ha hb hab => ?_
  rw [srt_mem] at ha hb
  rw [home_grp hsub ha, home_grp hsub hb]
  cases hx : xFrom (grp (lb L) n a) (grp (lb L) n b) a b with
  | none => rfl
  | some x =>
    obtain ⟨c, d, _, hne, hc, hd, hbc, hcd, _⟩ := xFrom_some grp_sorted grp_sorted hx
    rw [mem_grp] at hc hd
    exact absurd (grp_congr (n := n) (hL.apart hab hbc hcd (by rw [hn]; exact hd.1) hc.2.symm hd.2.symm)) hne
theorem sort_back {α : Type} [DecidableEq α] {f : Nat → α} {n : Nat} {hs : List (List Nat)} {keep : List Nat → Bool} (hp : hs.Perm ((groupsOf f n).filter keep)) (hk : ∀ g ∈ groupsOf f n, keep g = false → g.length ≤ 1) : sortG (hs ++ aloneG n hs) = groupsOf f n := by
  have hmem : ∀ g, g ∈ hs ↔ g ∈ groupsOf f n ∧ keep g = true := fun g => by rw [hp.mem_iff, List.mem_filter]
  have hhs : hs.Nodup := hp.nodup_iff.mpr (List.Pairwise.filter _ groups_nd)
  have hone : ∀ i, i < n → keep (grp f n i) = false → grp f n i = [i] := fun i hi h => by
    have h1 := hk _ (grp_mem hi) h
    have h2 : i ∈ grp f n i := mem_grp.mpr ⟨hi, rfl⟩
    generalize grp f n i = g at h1 h2
    match g, h1, h2 with
    | [x], _, h2 => rw [List.mem_singleton.mp h2]
  refine (sortG_uniq ?_ groups_lex).symm
  rw [List.perm_ext_iff_of_nodup groups_nd]
  · intro g
    rw [List.mem_append, hmem]
    constructor
    · intro hg
      cases hkg : keep g with
      | true => exact .inl ⟨hg, rfl⟩
      | false =>
        refine .inr ?_
        obtain ⟨i, hi, hfi, rfl⟩ := mem_groups.mp hg
        rw [hone i hi hkg]
        unfold aloneG
        refine List.mem_map.mpr ⟨i, List.mem_filter.mpr ⟨List.mem_range.mpr hi, decide_eq_true fun z => ?_⟩, rfl⟩
        obtain ⟨g', hg', hig⟩ := List.mem_flatten.mp z
        have := group_at ((hmem g').mp hg').1 hig
        rw [← this, ((hmem g').mp hg').2] at hkg
        cases hkg
    · rintro (h | h)
      · exact h.1
      · unfold aloneG at h
        obtain ⟨i, hi, rfl⟩ := List.mem_map.mp h
        rw [List.mem_filter, List.mem_range] at hi
        cases hkg : keep (grp f n i) with
        | true => exact absurd (List.mem_flatten.mpr ⟨_, (hmem _).mpr ⟨grp_mem hi.1, hkg⟩, mem_grp.mpr ⟨hi.1, rfl⟩⟩) (of_decide_eq_true hi.2)
        | false =>
          rw [← hone i hi.1 hkg]
          exact grp_mem hi.1
  · rw [List.nodup_append]
    refine ⟨hhs, ?_, fun a ha b hb => ?_⟩
    · unfold aloneG
      refine List.pairwise_map.mpr ?_
      refine (List.Pairwise.filter _ List.nodup_range).imp fun {a b} h z => h ?_
      simpa using z
    · rintro rfl
      unfold aloneG at hb
      obtain ⟨i, hi, rfl⟩ := List.mem_map.mp hb
      rw [List.mem_filter] at hi
      exact of_decide_eq_true hi.2 (List.mem_flatten.mpr ⟨_, ha, by simp⟩)
/-- a tie's groups, in any order -/
structure Handed (L : List Nat) (n : Nat) (ps : List (Bool × List Nat)) : Prop where
  ex : ∃ keep : List Nat → Bool, (ps.map fun p => srt p.2).Perm ((groupsOf (lb L) n).filter keep) ∧ ∀ g ∈ groupsOf (lb L) n, keep g = false → g.length ≤ 1
theorem made_back {L : List Nat} {n : Nat} {ps : List (Bool × List Nat)} (hL : Lead L) (hn : L.length = n) (h1 : 1 ≤ n) (h60 : n ≤ 60) (hh : Handed L n ps) : madeX (.int (n : Nat)) (ps.map rowD) = .ok (dTie n (groupsOf (lb L) n)) := by
  obtain ⟨keep, hp, hk⟩ := hh.ex
  have hsub : ∀ g ∈ ps.map (fun p => srt p.2), g ∈ groupsOf (lb L) n := fun g hg => (List.mem_filter.mp (hp.mem_iff.mp hg)).1
  have hfl : (ps.map fun p => srt p.2).flatten.Nodup := by
    have h1 : ((groupsOf (lb L) n).filter keep).flatten.Nodup := by
      unfold List.Nodup
      rw [List.pairwise_flatten]
      refine ⟨fun g hg => ?_, ?_⟩
      · obtain ⟨i, _, _, rfl⟩ := mem_groups.mp (List.mem_filter.mp hg).1
        exact grp_sorted.imp fun h => Nat.ne_of_lt h
      · refine (List.Pairwise.filter keep groups_nd).imp_of_mem fun {g h} hg hh2 hne x hx y hy => ?_
        rintro rfl
        exact hne ((group_at (List.mem_filter.mp hg).1 hx).trans (group_at (List.mem_filter.mp hh2).1 hy).symm)
    exact (List.Perm.flatten hp).nodup_iff.mpr h1
  have hps : ∀ p ∈ ps, p.2 ≠ [] ∧ ∀ x ∈ p.2, x < n := fun p hpp => by
    have hg := group_ne (hsub (srt p.2) (List.mem_map.mpr ⟨p, hpp, rfl⟩))
    refine ⟨fun z => hg.1 (by rw [z]; rfl), fun x hx => hg.2 x (srt_mem.mpr hx)⟩
  have hchk : chk (.int (n : Nat)) (ps.map rowD) = .ok (ps.map fun p => srt p.2) := by
    have hc : cntOk (.int (n : Nat)) = some n := by
      show (if 1 ≤ ((n : Nat) : Int) ∧ ((n : Nat) : Int) ≤ 60 then some ((n : Nat) : Int).toNat else none) = some n
      rw [if_pos ⟨by omega, by omega⟩]; rfl
    unfold chk
    rw [hc]
    exact scan_rows hps (by rw [List.nil_append]; exact (flat_srt ps).nodup_iff.mp hfl)
  rw [madeX_ok hchk, no_cross hL hn hsub hfl]
  show Except.ok (dTie n (sortG (ps.map (fun p => srt p.2) ++ aloneG n (ps.map fun p => srt p.2)))) = _
  rw [sort_back hp hk]
end Nc

/-! ### enumerate of a tuple -/
namespace PySem
open Sem (wp)
theorem nc_meets_enum1 {v : Value} {o : Obj} {Hs : Heap → Prop} (B : Begins v o Hs) :
    Meets (Builtin.«enumerate.__new__» ⟨[.type "enumerate", v], []⟩) (fun _ R s => Hs s.heap ∧
      R (.ok (.ret (.ref (s.heap.push o).objs.size))) { s with heap := (s.heap.push o).push { cls := .type "enumerate", data := .fields #[.none, .bool false, .ref s.heap.objs.size, rawInt 0, .none, .none] } }) :=
  .of_wp fun prog w A R s h => by
    obtain ⟨hp, g, d, tk, os⟩ := s; obtain ⟨h1, h⟩ := h
    have isub := sub_enumerate
    have begin1 : ∀ {A' : Around} {E : Value → Shared → Prop} {Q : Value → Shared → Prop}, Q (.ref hp.objs.size) ⟨hp.push o, g, d, tk, os⟩ → wpAny (model prog w) A' (pyIter v) Q E ⟨hp, g, d, tk, os⟩ := fun q => B.iter prog w _ _ ⟨hp, g, d, tk, os⟩ _ h1 q
    wp_walk using begin1
    refine wpAny_stack_any fun st => wpAny_pure ?_
    split
    · rename_i c _ _ _ _ _
      cases (c == Value.type "enumerate")
      · wp_walk using begin1
        exact ⟨_, rfl, h⟩
      · wp_walk using begin1
        exact ⟨_, rfl, h⟩
    · wp_walk using begin1
      exact ⟨_, rfl, h⟩
section
variable {prog : Program} {w : World} {A : Around} {E : Value → Shared → Prop} {s : Shared}
theorem nc_call_enum1 {v : Value} {o : Obj} {Hs : Heap → Prop} {Q : Value → Shared → Prop} (B : Begins v o Hs) (h1 : Hs s.heap)
    (h : ∀ h', IsEnum h' (s.heap.objs.size + 1) s.heap.objs.size 0 .none → h'.get? s.heap.objs.size = some o → h'.objs.size = s.heap.objs.size + 2 →
      (∀ b o, s.heap.get? b = some o → h'.get? b = some o) → Q (.ref (s.heap.objs.size + 1)) { s with heap := h' }) : wpAny (model prog w) A (call (.type "enumerate") [v]) Q E s := by
  refine callType_new F.called_enumerate (by decide) (F.typeCall_enumerate_1 _) (F.newCall_enumerate_1 _) (fun obj => F.args_object_init_2 obj _) F.entry_enumerate_new (nc_meets_enum1 B) ⟨h1, ?_⟩
  have size1 : (s.heap.push o).objs.size = s.heap.objs.size + 1 := Heap.size_push ..
  show _ ∧ _
  rw [size1]
  have stands := Heap.get?_push_size (s.heap.push o) (o := { cls := .type "enumerate", data := .fields #[.none, .bool false, .ref s.heap.objs.size, rawInt 0, .none, .none] }) rfl
  rw [size1] at stands
  exact ⟨⟨_, stands, rfl⟩, h _ stands (Heap.get?_push_of_some _ (Heap.get?_push_size _ B.free)) (by rw [Heap.size_push, size1]) fun b o x => Heap.get?_push_of_some _ (Heap.get?_push_of_some _ x)⟩
end
end PySem
namespace Nc
open PySem PySem.Spec PyProof.Rows L2
/-- a tuple's items, each in a new pair -/
def IteT (K : PySem.W.Frag) (a : Addr) : It :=
  ⟨fun i H => ∃ (xs : List V) (x : V), SqT K H a xs ∧ xs[i]? = some x, fun i H v H' => ∃ T x, v = .ref T ∧ H T = none ∧ H' = upd H T (.tup [.int (i : Nat), x]) ∧ ∀ xs, SqT K H a xs → xs[i]? = some x, fun i H => ∃ xs : List V, SqT K H a xs ∧ xs.length ≤ i⟩
theorem turn_enumT {P : Program} {w : World} {K : PySem.W.Frag} {elts : List Expr} {kk : Nat} {tpos : Pos} (a e it : Addr) :
    Turn P w K (.Tuple elts kk tpos) (IteT K a) [e, it] e (fun i h => (∃ old, IsEnum h e it ((i : Nat) : Int) old) ∧ h.IsTupleIter it a i ∧ e ≠ it ∧ a ≠ it ∧ a ≠ e) where
  mem := by simp
  obj := fun i h st b hb => by
    obtain ⟨⟨old, he⟩, ⟨o, ho, hc, hd⟩, _⟩ := st
    rcases (show b = e ∨ b = it by simpa using hb) with z | z
    · rw [z]; exact ⟨_, he, fun v q => nomatch q⟩
    · rw [z]; exact ⟨o, ho, fun v q => by rw [hd] at q; cases q⟩
  keep := fun i h h' st k => by
    obtain ⟨⟨old, he⟩, hi, hne, ha, ha2⟩ := st
    exact ⟨⟨old, k e (by simp) _ he⟩, hi.at fun o q => k it (by simp) o q, hne, ha, ha2⟩
  item := by
    intro X hP hw hK hc i pins s σ H E I hf st hg
    subst hP hw hK
    obtain ⟨⟨old, he⟩, hit, hne, ha, ha2⟩ := st
    obtain ⟨xs, x, hq, hx⟩ := hg
    obtain ⟨its, rv, p, hz⟩ := I.tuple hq
    obtain ⟨u, hu, ru⟩ := rv.get hx
    have htup : s.heap.IsTuple a its.toArray := p
    have hlt : i < its.toArray.size := by
      rw [List.size_toArray]
      exact (List.getElem?_eq_some_iff.mp hu).1
    have hel : e < s.heap.objs.size := Heap.lt_size he
    have hil : it < s.heap.objs.size := by obtain ⟨_, q, _⟩ := hit; exact Heap.lt_size q
    have hh : X.A.handled = none := I.ok.hd hc
    refine wpAny_pyNext_enum_itemD (Draws.tuple (A := X.A.in1) hh it a ha its.toArray) he ⟨hit, htup⟩ hlt hne (by simp [hne, Ne.symm ha2]) fun y h' tk hy ho hst' hT hsz hk => ?_
    have hyu : y = u := by
      have h2 : its.toArray[i]? = some u := by simpa using hu
      rw [h2] at hy
      exact (Option.some.inj hy).symm
    subst hyu
    refine ⟨_, rfl, wpAny_letOwnedTupleGo_enum (s := { s with heap := h', toks := tk + 1 }) ho fun h'' he' sb => ?_⟩
    have hT2 : h''.get? s.heap.objs.size = some { cls := .type "tuple", data := .seq #[.int i tk, y] } := (sb.2 _ (Nat.ne_of_gt hel)).trans hT
    have new : ObjOk X.prog X.w (upd H s.heap.objs.size (.tup [.int (i : Nat), x])) h'' s.heap.objs.size (.tup [.int (i : Nat), x]) :=
      ⟨by show 2 ≤ sizeLine; decide, [.int i tk, y], .cons ⟨_, rfl⟩ (.cons ru .nil), ⟨_, hT2, rfl, _, rfl⟩⟩
    have I1 : Inv X pins σ (upd H s.heap.objs.size (.tup [.int (i : Nat), x])) { s with heap := h'', toks := tk + 1 } :=
      I.turnedNew (ch := [e, it]) (fun b ob hb q => (sb.2 b (fun z => hb (by simp [z]))).trans (hk b ob (fun z => hb (by simp [z])) (fun z => hb (by simp [z])) q)) hf (Nat.le_refl _) new
    refine ⟨.ref s.heap.objs.size, _, I1, rfl, ⟨_, x, rfl, I.hok.fresh (Nat.le_refl _), rfl, fun ys hy => by rw [I.tuple_inj hy hq]; exact hx⟩, ⟨⟨y, ?_⟩, hst'.1.at fun o q => (sb.2 it (Ne.symm hne)).trans q, hne, ha, ha2⟩, fun b hb => ?_⟩
    · have next : ((i + 1 : Nat) : Int) = (i : Int) + 1 := by omega
      rw [next]; exact he'
    · have below : b < s.heap.objs.size := by
        rcases (show b = e ∨ b = it by simpa using hb) with z | z
        · rw [z]; exact hel
        · rw [z]; exact hil
      rw [upd_ne (Nat.ne_of_lt below)]
      exact (hf b hb).1
  done := by
    intro X hP hw hK hc i pins s σ H E I hf st hg
    subst hP hw hK
    obtain ⟨⟨old, he⟩, hit, hne, ha, ha2⟩ := st
    obtain ⟨xs, hq, hx⟩ := hg
    obtain ⟨its, rv, p, hz⟩ := I.tuple hq
    have htup : s.heap.IsTuple a its.toArray := p
    obtain ⟨f0, f1, f2, f3, f4, f5⟩ := hf it (by simp)
    have hl := rv.length
    have hh : X.A.in1.handled = none := I.ok.hd hc
    have out : its.toArray[i]? = none := by
      rw [List.getElem?_toArray, List.getElem?_eq_none]
      omega
    have D : Draws X.prog X.w X.A.in1 it [it, a] i (fun _ _ => True) (fun j h => j = i ∧ h.IsTupleIter it a i ∧ h.IsTuple a its.toArray) :=
      { live := fun _ _ st => let ⟨o, ho, _⟩ := st.2.1; ⟨o, ho⟩
        frame := fun _ _ _ st hk => ⟨st.1, st.2.1.at fun o e => hk it (by simp) o e, st.2.2.at fun o e => hk a (by simp) o e⟩
        item := fun j s Q E hj st _ => absurd st.1 (Nat.ne_of_lt hj)
        done := fun s Q E st hE => wpAny_nextOf_tuple_end hh st.2.1 st.2.2 out hE }
    exact wpAny_pyNext_enum_endD D he ⟨rfl, hit, htup⟩ fun h' eb => ⟨rfl, I.turned (t' := s.toks) (fun b o hb q => eb b o hb q) f0 f1 f3 f4 f5⟩
  self := fun A i s Q E st h => let ⟨⟨_, he⟩, _⟩ := st; wpAny_pyIter_enum he h
def iEnumT (K : PySem.W.Frag) (ta : TA) : TI := fun σ H R => ta σ H fun vs H1 => ∃ a xs, vs = [.ref a] ∧ SqT K H1 a xs ∧ R (IteT K a) H1
theorem pi_enumT {X : Cx} {e : Expr} {ta : TA} {p pos tpos : Pos} {elts : List Expr} {kk : Nat} (hg : Gl X "enumerate") (hm : X.mg "enumerate" = none) (ha : PA X [e] ta) (hs : starEach [e] X.env = [(false, eval e X.env)] := by rfl) :
    PI X (.Tuple elts kk tpos) (.Call (.Name "enumerate" p) [e] [] pos) (iEnumT X.K ta) := by
  refine ⟨fun pins s σ H R I h => ?_⟩
  refine Call_ (ld_blt I hg hm boot_enumerate (PyProof.Rows.callWith_type1 (thn (ha.run pos pins s σ H _ I h) fun us s1 ⟨vs, H1, I1, r1, q1⟩ => ?_) hs rfl))
  obtain ⟨a, xs, ex, hq, q⟩ := q1
  subst ex
  cases r1 with
  | cons r rr =>
    cases rr
    cases r
    obtain ⟨its, rv, p', hz⟩ := I1.tuple hq
    have htup : s1.heap.IsTuple a its.toArray := p'
    have hal : a < s1.heap.objs.size := by obtain ⟨_, q, _⟩ := id htup; exact Heap.lt_size q
    refine nc_call_enum1 (begins_tuple a its.toArray) htup fun h' he hit hsz hk => wpAny_pyIter_enum he ?_
    have I2 : Inv X pins σ H1 { s1 with heap := h' } := I1.kept (t' := s1.toks) hk
    refine ⟨s1.heap.objs.size + 1, [s1.heap.objs.size + 1, s1.heap.objs.size], _, _, H1, rfl, I2, turn_enumT a (s1.heap.objs.size + 1) s1.heap.objs.size, ⟨⟨.none, he⟩, ⟨_, hit, rfl, rfl⟩, Nat.succ_ne_self _, Nat.ne_of_lt hal, Nat.ne_of_lt (Nat.lt_succ_of_lt hal)⟩, fun b hb => ?_, q⟩
    have above : s1.heap.objs.size ≤ b := by
      rcases (show b = s1.heap.objs.size + 1 ∨ b = s1.heap.objs.size by simpa using hb) with z | z
      · rw [z]; exact Nat.le_add_right _ _
      · rw [z]; exact Nat.le_refl _
    exact I1.fpOk above (I1.hok.fresh above)
theorem walk_enumT {K : PySem.W.Frag} {a : Addr} {xs : List V} : Walk (IteT K a) xs.length (fun H => SqT K H a xs) (YPair (fun i => some (.int (i : Nat))) (fun i => xs[i]?)) :=
  ⟨fun i _ hi q => ⟨xs, xs[i], q, List.getElem?_eq_getElem hi⟩, fun _ q => ⟨xs, q, Nat.le_refl _⟩, fun i H v H' _ q y => by
    obtain ⟨T, x, h1, h2, h3, h4⟩ := y
    exact ⟨T, .int (i : Nat), x, h1, h2, h3, rfl, h4 xs q⟩⟩
end Nc

/-! ### more rules: enumerate of a tuple, insert, reverse, clear -/
namespace Nc
open PySem PySem.Spec PyProof.Rows L2 Evl
def insAt (l : List V) (j : Nat) (v : V) : List V := l.take j ++ [v] ++ l.drop j
def rInsert : V → List V → Hp → VK → Prop := fun x vs H Q => ∃ (l : Addr) (xs : List V) (i : Int) (y : V), x = .ref l ∧ vs = [.int i, y] ∧ H l = some (.lst xs) ∧ xs.length < sizeLine ∧ 0 ≤ i ∧ i < 2 ^ 63 ∧ Q .non (upd H l (.lst (insAt xs i.toNat y)))
theorem mt_insert1 {X : Cx} : MtR X "list.insert" rInsert := mt_insert
section
variable {σ : L2.St} {Hb H : Hp} {F : List Addr} {d e : Dt} {ds es : List Dt} {te ta tb tl : TE} {K : PySem.W.Frag} {D : Ends} {tz tu : TS} {g : TG}
theorem s_forET {ar : TA} {j1 j2 : Nat} (S : Beside Hb F H) (h : EvDs ar σ Hb [.tup ds])
    (k : ∀ Hb1 H1, Ex Hb Hb1 → Ex H H1 → Beside Hb1 F H1 → ∃ Pv : Nat → L2.St → Hp → Prop, Pv 0 σ H1 ∧ (∀ i σ' H', Pv i σ' H' → Ex Hb1 H') ∧
      (∀ i d v σ' H', ds[i]? = some d → Rp Any Hb1 v d → Pv i σ' H' → ∀ H2, Ex H' H2 → tu { D with nx := Pv (i + 1), ct := Pv (i + 1), bk := D.nx } ((σ'.set j1 (some (.int (i : Int)))).set j2 (some v)) H2) ∧ (∀ σ' H', Pv ds.length σ' H' → D.nx σ' H')) : tFor (iEnumT K ar) (gTup K 2 (gCons (gName j1) (gCons (gName j2) gNil))) tu D σ H :=
  h F H S _ fun ws H1 e1 r => by
    cases r with
    | cons r r' =>
      cases r'
      obtain ⟨a, xs, rfl, hx, rs⟩ := r.tupI
      obtain ⟨Pv, h0, hb, hs, hd⟩ := k (less H1 F) H1 (S.lessEx e1) e1 (S.on e1).sep
      refine ⟨a, xs, rfl, st_of (less_ex a _ hx), for_it walk_enumT Pv h0 (fun i σ' H' _ p => st_of (hb i σ' H' p a _ hx)) (fun i y σ' H' H2 hi p hy => ?_) (fun σ' H' p => hd σ' H' (by rw [rs.length] at p; exact p))⟩
      obtain ⟨T, x1, x2, rfl, nT, rfl, f1, f2⟩ := hy
      obtain ⟨d, h1, h2⟩ := rs.getV f2
      have ex1 : x1 = .int (i : Nat) := (Option.some.inj f1).symm
      subst ex1
      exact ⟨T, _, rfl, st_of upd_same, rfl, _, _, rfl, _, _, rfl, rfl, hs i d x2 σ' H' h1 h2 p _ (Ex.new nT)⟩
theorem q_forET {ar : TA} {j1 j2 : Nat} (S : Beside Hb F H) (h : EvDs ar σ Hb [.tup ds])
    (k : ∀ Hb1 H1, Ex Hb Hb1 → Ex H H1 → Beside Hb1 F H1 → ∃ Pv : Nat → L2.St → Hp → Prop, Pv 0 σ H1 ∧ (∀ i σ' H', Pv i σ' H' → Ex Hb1 H') ∧
      (∀ i d v σ' H', ds[i]? = some d → Rp Any Hb1 v d → Pv i σ' H' → ∀ H2, Ex H' H2 → tu { D with nx := Pv (i + 1), ct := Pv (i + 1), bk := tz D } ((σ'.set j1 (some (.int (i : Int)))).set j2 (some v)) H2) ∧ (∀ σ' H', Pv ds.length σ' H' → tz D σ' H')) : tSeq (tFor (iEnumT K ar) (gTup K 2 (gCons (gName j1) (gCons (gName j2) gNil))) tu) tz D σ H := s_forET (D := { D with nx := tz D }) S h k
/-- l.insert(j, e) -/
theorem s_insD {i : Nat} {l : Addr} {xs : List V} {j : Int} (S : Beside Hb F H) (hF : l ∈ F) (hl : H l = some (.lst xs)) (hv : σ[i]? = some (some (.ref l))) (hj : EvD tb σ Hb (.int j)) (h : EvD te σ Hb d) (hz : xs.length < 100000) (j0 : 0 ≤ j) (j1 : j < 2 ^ 63)
    (k : ∀ v Hb' H', Ex Hb Hb' → Beside Hb' F H' → (∀ a o, a ≠ l → H a = some o → H' a = some o) → H' l = some (.lst (insAt xs j.toNat v)) → Rp Any Hb' v d → D.nx σ H') : tDrop (tBM K "list" rInsert (tVar i) (tCons tb (tCons te tNil))) D σ H :=
  ⟨.ref l, hv, Or.inl ⟨rfl, xs, sq_of hl⟩, hj F H S _ fun y H1 e1 ry => h F H1 (S.on e1) _ fun v H2 e2 r => by
    rw [ry.intI]
    exact ⟨l, xs, j, v, rfl, rfl, (e1.trans e2) l _ hl, sz_lt hz, j0, j1, k v (less H2 F) _ (S.lessEx (e1.trans e2)) ((S.on (e1.trans e2)).sep.write hF) (fun a o hne ha => by rw [upd_ne hne]; exact (e1.trans e2) a o ha) upd_same r⟩⟩
/-- l.reverse() -/
theorem s_revD {i : Nat} {l : Addr} {xs : List V} (S : Beside Hb F H) (hF : l ∈ F) (hl : H l = some (.lst xs)) (hv : σ[i]? = some (some (.ref l)))
    (k : ∀ H', Beside Hb F H' → (∀ a o, a ≠ l → H a = some o → H' a = some o) → H' l = some (.lst xs.reverse) → D.nx σ H') : tDrop (tBM0 K "list" rReverse (tVar i)) D σ H :=
  ⟨.ref l, hv, Or.inl ⟨rfl, xs, sq_of hl⟩, l, xs, rfl, rfl, hl, k _ (S.write hF) (fun a o hne ha => by rw [upd_ne hne]; exact ha) upd_same⟩
theorem s_clrD {i : Nat} {l : Addr} {xs : List V} (S : Beside Hb F H) (hF : l ∈ F) (hl : H l = some (.lst xs)) (hv : σ[i]? = some (some (.ref l)))
    (k : ∀ H', Beside Hb F H' → (∀ a o, a ≠ l → H a = some o → H' a = some o) → H' l = some (.lst []) → D.nx σ H') : tDrop (tBM0 K "list" rClear (tVar i)) D σ H :=
  ⟨.ref l, hv, Or.inl ⟨rfl, xs, sq_of hl⟩, l, xs, rfl, rfl, hl, k _ (S.write hF) (fun a o hne ha => by rw [upd_ne hne]; exact ha) upd_same⟩
theorem q_clrD {i : Nat} {l : Addr} {xs : List V} (S : Beside Hb F H) (hF : l ∈ F) (hl : H l = some (.lst xs)) (hv : σ[i]? = some (some (.ref l)))
    (k : ∀ H', Beside Hb F H' → (∀ a o, a ≠ l → H a = some o → H' a = some o) → H' l = some (.lst []) → tz D σ H') : tSeq (tDrop (tBM0 K "list" rClear (tVar i))) tz D σ H := s_clrD (D := { D with nx := tz D }) S hF hl hv k
/-- if c: x = e, both ways the same data -/
theorem q_ifSetD {t : TT} {i : Nat} {b : Bool} {v0 : V} {N : Addr → Prop} (S : Beside Hb F H) (h : EvT t σ Hb b) (h1 : b = true → EvD te σ Hb d ∧ d.flat = true) (h2 : b = false → Rp N Hb v0 d) (h3 : σ.set i (some v0) = σ) (k : ∀ v Hb' H', Ex Hb Hb' → Ex H H' → Beside Hb' F H' → Rp N Hb' v d → tz D (σ.set i (some v)) H') :
    tSeq (tIfS t (tAsg te (gName i)) tNext) tz D σ H := by
  refine q_ifN S h (fun hb H1 e1 S1 => ?_) fun hb H1 e1 S1 => ?_
  · exact (h1 hb).1 F H1 S1 _ fun v H2 e2 r => k v (less H2 F) H2 (S1.lessEx e2) (e1.trans e2) (S1.on e2).sep (r.flat (h1 hb).2)
  · have := k v0 Hb H1 (Ex.refl _) e1 S1 (h2 hb)
    rw [h3] at this
    exact this
/-- l.append(x), x a name -/
theorem s_appV {i j : Nat} {l : Addr} {xs : List V} {v : V} (S : Beside Hb F H) (hF : l ∈ F) (hl : H l = some (.lst xs)) (hv : σ[i]? = some (some (.ref l))) (hw : σ[j]? = some (some v)) (hz : xs.length < 100000)
    (k : ∀ H', Beside Hb F H' → (∀ a o, a ≠ l → H a = some o → H' a = some o) → H' l = some (.lst (xs ++ [v])) → D.nx σ H') : tDrop (tBM K "list" rAppend (tVar i) (tCons (tVar j) tNil)) D σ H :=
  ⟨.ref l, hv, Or.inl ⟨rfl, xs, sq_of hl⟩, v, hw, l, xs, v, rfl, rfl, hl, sz_lt hz, k _ (S.write hF) (fun a o hne ha => by rw [upd_ne hne]; exact ha) upd_same⟩
theorem cut_slice {i : Nat} {l : Addr} {xs : List V} {tl th : TO} {lo hi : Option Int} (hv : σ[i]? = some (some (.ref l))) (hl : Hb l = some (.lst xs)) (h1 : EvO tl σ Hb lo) (h2 : EvO th σ Hb hi) (H1 : Hp) (e1 : Ex Hb H1) (Q : VK) (q : ∀ p H2, H1 p = none → Ex H1 H2 → H2 p = some (.lst (cutD xs lo hi)) → Q (.ref p) H2) : tSl (rSlL K) (tVar i) tl th σ H1 Q :=
  ⟨.ref l, hv, h1 H1 e1 _ fun H2 e2 => h2 H2 (e1.trans e2) _ fun H3 e3 => ⟨l, xs, rfl, sq_of ((e1.trans (e2.trans e3)) _ _ hl), fun p hp => q p _ (fresh_back (e2.trans e3) hp) ((e2.trans e3).trans (Ex.new hp)) upd_same⟩⟩
/-- x = x[t:] + x[:t] -/
theorem q_rot {i t : Nat} {l : Addr} {xs : List V} {ti : TE} (hv : σ[i]? = some (some (.ref l))) (hl : H l = some (.lst xs)) (ht : EvD ti σ H (.int (t : Nat))) (hz : xs.length ≤ 1000) (k : ∀ p H', H p = none → Ex H H' → H' p = some (.lst (xs.drop t ++ xs.take t)) → tz D (σ.set i (some (.ref p))) H') :
    tSeq (tAsg (tOp rCat (tSl (rSlL K) (tVar i) (tPart ti) tNoPart) (tSl (rSlL K) (tVar i) tNoPart (tPart ti))) (gName i)) tz D σ H :=
  cut_slice hv hl (eo_d ht) eo_nil H (Ex.refl _) _ fun p1 H1 hp1 e1 h1 => cut_slice hv hl eo_nil (eo_d ht) H1 e1 _ fun p2 H2 hp2 e2 h2 => by
    rw [cutD_from] at h1
    rw [cutD_to] at h2
    refine ⟨p1, p2, xs.drop t, xs.take t, rfl, rfl, e2 _ _ h1, h2, sz_of ?_, fun p hp => k p _ (fresh_back (e1.trans e2) hp) ((e1.trans e2).trans (Ex.new hp)) upd_same⟩
    rw [List.length_drop, List.length_take]
    omega
end
/-! what k02 and k03 hand in -/
def insN (l : List Nat) (j x : Nat) : List Nat := l.take j ++ [x] ++ l.drop j
theorem insN_perm (l : List Nat) (j x : Nat) : (insN l j x).Perm (l ++ [x]) := by
  unfold insN
  have h1 : (l.take j ++ [x] ++ l.drop j).Perm (l.take j ++ l.drop j ++ [x]) := by
    rw [List.append_assoc, List.append_assoc]
    exact List.Perm.append_left _ List.perm_append_comm
  rwa [List.take_append_drop] at h1
theorem insN_map (l : List Nat) (j x : Nat) : (insN l j x).map (fun x => V.int ((x : Nat) : Int)) = insAt (l.map fun x => V.int ((x : Nat) : Int)) j (.int ((x : Nat) : Int)) := by
  unfold insN insAt
  rw [List.map_append, List.map_append, List.map_take, List.map_drop]; rfl
def mixN (c : Int) (k : Nat) : Int := ((c + 104729 * (k : Int)) % 2147483647) * ((c + 104729 * (k : Int)) % 2147483647) % 2147483629 * 69621 % 2147483647
theorem mixN_bound (c : Int) (k : Nat) : 0 ≤ mixN c k ∧ mixN c k < 2147483647 := by
  unfold mixN; omega
def putAt (m : Int) (k : Nat) : Int := (m / 4 + (k : Int) * (k : Int) * (1 + m / 64 % 5)) % ((k : Int) + 1)
def rowUp (m : Int) (g : List Nat) : Nat → List Nat
  | 0 => []
  | i + 1 => match g[i]? with
    | some x => insN (rowUp m g i) (putAt m i).toNat x
    | none => rowUp m g i
theorem rowUp_next {m : Int} {g : List Nat} {i x : Nat} (h : g[i]? = some x) : rowUp m g (i + 1) = insN (rowUp m g i) (putAt m i).toNat x := by
  show (match g[i]? with | some x => insN (rowUp m g i) (putAt m i).toNat x | none => rowUp m g i) = _
  rw [h]
theorem rowUp_perm {m : Int} {g : List Nat} : ∀ i, i ≤ g.length → (rowUp m g i).Perm (g.take i)
  | 0, _ => by rw [List.take_zero]; exact List.Perm.refl _
  | i + 1, h => by
    have e := List.getElem?_eq_getElem (show i < g.length by omega)
    rw [rowUp_next e, List.take_add_one, e]
    exact (insN_perm _ _ _).trans ((rowUp_perm i (by omega)).append_right _)
def pairOf (m : Int) (g : List Nat) : Bool × List Nat := (decide (m % 2 = 1), rowUp m g g.length)
theorem pairOf_perm (m : Int) (g : List Nat) : (pairOf m g).2.Perm g := by
  have := rowUp_perm (m := m) (g := g) g.length (Nat.le_refl _)
  rwa [List.take_length] at this
theorem srt_pair {m : Int} {g : List Nat} (h : g.Pairwise (· < ·)) : srt (pairOf m g).2 = g := (srt_uniq (pairOf_perm m g).symm (h.imp Nat.le_of_lt)).symm
def keepIt (m : Int) (g : List Nat) : Bool := decide (1 < (g.length : Int)) || decide (m / 2 % 2 = 1)
def handUp (c : Int) (gs : List (List Nat)) : Nat → List (Bool × List Nat)
  | 0 => []
  | i + 1 => match gs[i]? with
    | some g => if keepIt (mixN c i) g = true then handUp c gs i ++ [pairOf (mixN c i) g] else handUp c gs i
    | none => handUp c gs i
theorem handUp_next {c : Int} {gs : List (List Nat)} {i : Nat} {g : List Nat} (h : gs[i]? = some g) : handUp c gs (i + 1) = if keepIt (mixN c i) g = true then handUp c gs i ++ [pairOf (mixN c i) g] else handUp c gs i := by
  show (match gs[i]? with | some g => if keepIt (mixN c i) g = true then handUp c gs i ++ [pairOf (mixN c i) g] else handUp c gs i | none => handUp c gs i) = _
  rw [h]
theorem handUp_len {c : Int} {gs : List (List Nat)} : ∀ i, (handUp c gs i).length ≤ i
  | 0 => Nat.le_refl _
  | i + 1 => by
    have := handUp_len (c := c) (gs := gs) i
    unfold handUp
    split
    · split
      · rw [List.length_append]; simp; omega
      · omega
    · omega
def turnTo (c : Int) (n : Nat) : Nat := (c / 2 % ((n : Int) + 1)).toNat
def handT (c : Int) (gs : List (List Nat)) : List (Bool × List Nat) := (handUp c gs gs.length).drop (turnTo c (handUp c gs gs.length).length) ++ (handUp c gs gs.length).take (turnTo c (handUp c gs gs.length).length)
def handF (c : Int) (gs : List (List Nat)) : List (Bool × List Nat) := if c % 2 = 1 then (handT c gs).reverse else handT c gs
theorem handF_perm (c : Int) (gs : List (List Nat)) : (handF c gs).Perm (handUp c gs gs.length) := by
  have h1 : (handT c gs).Perm (handUp c gs gs.length) := by
    unfold handT
    refine List.perm_append_comm.trans ?_
    rw [List.take_append_drop]
  unfold handF
  split
  · exact (List.reverse_perm _).trans h1
  · exact h1
theorem handUp_sub {c : Int} {gs : List (List Nat)} (hs : ∀ g ∈ gs, g.Pairwise (· < ·)) : ∀ i, i ≤ gs.length → ((handUp c gs i).map fun p => srt p.2).Sublist (gs.take i) ∧ ∀ g ∈ gs.take i, g ∉ ((handUp c gs i).map fun p => srt p.2) → g.length ≤ 1
  | 0, _ => ⟨by rw [List.take_zero]; exact List.Sublist.refl _, fun g hg => by simp at hg⟩
  | i + 1, h => by
    obtain ⟨i1, i2⟩ := handUp_sub (c := c) hs i (by omega)
    have e := List.getElem?_eq_getElem (show i < gs.length by omega)
    have hg := hs _ (List.getElem_mem (show i < gs.length by omega))
    generalize gs[i] = g at e hg
    rw [handUp_next e, List.take_add_one, e]
    by_cases hk : keepIt (mixN c i) g = true
    · rw [if_pos hk, List.map_append, List.map_cons, List.map_nil, srt_pair hg]
      refine ⟨List.Sublist.append i1 (List.Sublist.refl _), fun x hx hn => ?_⟩
      rcases List.mem_append.mp hx with h1 | h1
      · exact i2 x h1 fun z => hn (List.mem_append.mpr (.inl z))
      · exact absurd (List.mem_append.mpr (.inr h1)) hn
    · rw [if_neg hk]
      refine ⟨i1.trans (List.sublist_append_left _ _), fun x hx hn => ?_⟩
      rcases List.mem_append.mp hx with h1 | h1
      · exact i2 x h1 hn
      · have : x = g := by simpa using h1
        subst this
        unfold keepIt at hk
        rw [Bool.or_eq_true, not_or] at hk
        have := of_decide_eq_false (Bool.eq_false_iff.mpr hk.1)
        omega
theorem handF_handed {L : List Nat} {n : Nat} (c : Int) : Handed L n (handF c (groupsOf (lb L) n)) := by
  have hs : ∀ g ∈ groupsOf (lb L) n, g.Pairwise (· < ·) := fun g hg => by
    obtain ⟨i, _, _, rfl⟩ := mem_groups.mp hg
    exact grp_sorted
  obtain ⟨h1, h2⟩ := handUp_sub (c := c) hs (groupsOf (lb L) n).length (Nat.le_refl _)
  rw [List.take_length] at h1 h2
  have hp : ((handF c (groupsOf (lb L) n)).map fun p => srt p.2).Perm ((handUp c (groupsOf (lb L) n) (groupsOf (lb L) n).length).map fun p => srt p.2) := (handF_perm c _).map _
  generalize (handUp c (groupsOf (lb L) n) (groupsOf (lb L) n).length).map (fun p => srt p.2) = hs at h1 h2 hp
  refine ⟨fun g => decide (g ∈ hs), hp.trans ?_, fun g hg hk => h2 g hg (of_decide_eq_false hk)⟩
  rw [List.perm_ext_iff_of_nodup (h1.nodup groups_nd) (List.Pairwise.filter _ groups_nd)]
  intro g
  rw [List.mem_filter, decide_eq_true_iff]
  exact ⟨fun h => ⟨h1.subset h, h⟩, fun h => h.2⟩
def sp_l_handed : Sp := spD 2 (fun ds => ∃ (L : List Nat) (c : Int), ds = [dNats L, .int c] ∧ L.length ≤ 100) fun ds => .lst ((handF (dInt (ds.getD 1 .non)) (gI (ds.headD .non).ints)).map rowD)
theorem fit_rows (ps : List (Bool × List Nat)) : (Dt.lst (ps.map rowD)).fit := by
  obtain ⟨a, b, c⟩ := fit_lst (n := 1) (by decide) (l := ps.map rowD) fun d hd => by
    obtain ⟨x, _, rfl⟩ := List.mem_map.mp hd
    unfold rowD
    split
    · exact fit_grp1 x.2
    · have := fit_grp1 x.2
      exact fit_lst (n := 0) (by decide) fun d hd => by
        obtain ⟨y, _, rfl⟩ := List.mem_map.mp hd
        exact ⟨rfl, rfl, Nat.zero_le _⟩
  exact ⟨a, b, Nat.le_trans c (by decide)⟩
theorem ex_cuts {Hb H : Hp} {F : List Addr} (e : Ex Hb H) (h : ∀ a ∈ F, Hb a = none) : Ex Hb (less H F) := fun a o ha => by
  rw [less_some fun z => by rw [h a z] at ha; cases ha]
  exact e a o ha
theorem beside_cuts {H : Hp} {F : List Addr} (h : ∀ a ∈ F, ∃ xs, H a = some (.lst xs)) : Beside (less H F) F H := ⟨less_ex, fun a ha => ⟨less_none ha, h a ha⟩⟩
/-- what has other lists than these stays -/
theorem rp_cuts {N : Addr → Prop} {Hb H : Hp} {F : List Addr} {v : V} {d : Dt} (r : Rp N Hb v d) (e : Ex Hb H) (h : ∀ a ∈ F, ∃ xs, H a = some (.lst xs)) (n : ∀ a ∈ F, ¬ N a) : Rp N (less H F) v d :=
  r.to (fun a xs na ha => ⟨na, by rw [less_some fun z => n a z na]; exact e a _ ha⟩) (fun a xs ha => by
    rw [less_some]
    · exact e a _ ha
    · intro z
      obtain ⟨ys, hy⟩ := h a z
      rw [e a _ ha] at hy
      cases hy) (fun a kvs ha => by
    rw [less_some]
    · exact e a _ ha
    · intro z
      obtain ⟨ys, hy⟩ := h a z
      rw [e a _ ha] at hy
      cases hy)
/-- where the lists among these values stand -/
def listAt (H : Hp) (x : V) : Option Addr := match x with
  | .ref b => (match H b with
    | some (.lst _) => some b
    | _ => none)
  | _ => none
theorem listAt_some {H : Hp} {x : V} {b : Addr} (h : listAt H x = some b) : x = .ref b ∧ ∃ xs, H b = some (.lst xs) := by
  unfold listAt at h
  split at h
  · split at h
    · rename_i xs e
      cases h
      exact ⟨rfl, xs, e⟩
    · cases h
  · cases h
theorem listAt_of {H : Hp} {b : Addr} {xs : List V} (h : H b = some (.lst xs)) : listAt H (.ref b) = some b := by
  unfold listAt
  dsimp only
  rw [h]
end Nc

/-! ### places with the name of their group: the least crossing by trying all -/
namespace Nc
open PySem PySem.Spec PyProof.Rows L2 Evl
abbrev Rw := Nat × Nat
def dRows (rs : List Rw) : Dt := .lst (rs.map fun r => .tup [.int (r.1 : Nat), .int (r.2 : Nat)])
/-- the places of one name -/
def plOf (rs : List Rw) (k : Nat) : List Nat := (rs.filter fun r => decide (r.2 = k)).map (·.1)
def triR (a b : Rw) : List Rw → Option (Nat × Nat × Nat × Nat)
  | [] => none
  | c :: r => if c.2 = a.2 ∧ b.2 ≠ a.2 then (match plOf r b.2 with
      | d :: _ => some (a.1, b.1, c.1, d)
      | [] => triR a b r) else triR a b r
def pairR (a : Rw) : List Rw → Option (Nat × Nat × Nat × Nat)
  | [] => none
  | b :: r => (triR a b r).or (pairR a r)
def leastR : List Rw → Option (Nat × Nat × Nat × Nat)
  | [] => none
  | a :: r => (pairR a r).or (leastR r)
theorem triR_same {a b : Rw} (h : b.2 = a.2) : ∀ r, triR a b r = none
  | [] => rfl
  | c :: r => by
    unfold triR
    rw [if_neg fun z => z.2 h]
    exact triR_same h r
theorem plOf_cons (c : Rw) (r : List Rw) (k : Nat) : plOf (c :: r) k = if c.2 = k then c.1 :: plOf r k else plOf r k := by
  unfold plOf
  rw [List.filter_cons]
  by_cases h : c.2 = k
  · rw [if_pos h, if_pos (decide_eq_true h)]; rfl
  · rw [if_neg h, if_neg (by rw [decide_eq_true_iff]; exact h)]
theorem plOf_app (p q : List Rw) (k : Nat) : plOf (p ++ q) k = plOf p k ++ plOf q k := by
  unfold plOf
  rw [List.filter_append, List.map_append]
theorem plOf_mem {rs : List Rw} {k x : Nat} : x ∈ plOf rs k ↔ (x, k) ∈ rs := by
  unfold plOf
  rw [List.mem_map]
  constructor
  · rintro ⟨r, h, rfl⟩
    rw [List.mem_filter, decide_eq_true_iff] at h
    obtain ⟨h1, h2⟩ := h
    subst h2
    exact h1
  · intro h
    exact ⟨(x, k), List.mem_filter.mpr ⟨h, decide_eq_true rfl⟩, rfl⟩
theorem triR_far {a b : Rw} : ∀ r, plOf r b.2 = [] → triR a b r = none
  | [], _ => rfl
  | c :: r, h => by
    have h2 : plOf r b.2 = [] := by
      rw [plOf_cons] at h
      split at h
      · cases h
      · exact h
    unfold triR
    split
    · rw [h2]
      exact triR_far r h2
    · exact triR_far r h2
def incR (rs : List Rw) : Prop := rs.Pairwise fun a b => a.1 < b.1
/-- the first one above x, where what stands ahead is not above it, and what is behind is -/
theorem fa_split {p q : List Rw} {k x : Nat} (hp : ∀ r ∈ p, ¬ x < r.1) (hq : ∀ r ∈ q, x < r.1) : firstAbove (plOf (p ++ q) k) x = (plOf q k).head? := by
  unfold firstAbove
  rw [plOf_app, List.find?_append]
  have h1 : (plOf p k).find? (fun y => decide (x < y)) = none := by
    rw [List.find?_eq_none]
    intro y hy z
    exact hp _ (plOf_mem.mp hy) (of_decide_eq_true z)
  rw [h1]
  show (plOf q k).find? _ = _
  cases h : plOf q k with
  | nil => rfl
  | cons y r =>
    have : (y, k) ∈ q := plOf_mem.mp (by rw [h]; simp)
    rw [List.find?_cons, decide_eq_true (hq _ this)]; rfl
theorem inc_split {p q : List Rw} {b : Rw} (h : incR (p ++ b :: q)) : (∀ r ∈ p ++ [b], ¬ b.1 < r.1) ∧ (∀ r ∈ q, b.1 < r.1) := by
  unfold incR at h
  rw [List.pairwise_append] at h
  obtain ⟨h1, h2, h3⟩ := h
  refine ⟨fun r hr => ?_, (List.pairwise_cons.mp h2).1⟩
  rcases List.mem_append.mp hr with hr | hr
  · have := h3 r hr b (by simp)
    omega
  · have : r = b := by simpa using hr
    rw [this]; omega
theorem inc_one {rs : List Rw} (h : incR rs) {x k l : Nat} (h1 : (x, k) ∈ rs) (h2 : (x, l) ∈ rs) : k = l := by
  unfold incR at h
  induction rs with
  | nil => cases h1
  | cons r rs ih =>
    rw [List.pairwise_cons] at h
    rcases List.mem_cons.mp h1 with e1 | h1
    · rcases List.mem_cons.mp h2 with e2 | h2
      · rw [← e1] at e2; exact (Prod.mk.inj e2).2.symm
      · have := h.1 _ h2
        rw [← e1] at this; exact absurd this (Nat.lt_irrefl _)
    · rcases List.mem_cons.mp h2 with e2 | h2
      · have := h.1 _ h1
        rw [← e2] at this; exact absurd this (Nat.lt_irrefl _)
      · exact ih h.2 h1 h2
theorem tri_is {full : List Rw} (hi : incR full) {a b : Rw} (hne : b.2 ≠ a.2) : ∀ (q r : List Rw), full = q ++ r → (match (plOf r a.2).head? with
    | none => none
    | some c => match firstAbove (plOf full b.2) c with
      | none => none
      | some d => some (a.1, b.1, c, d)) = triR a b r
  | q, [], _ => rfl
  | q, c :: r, h => by
    rw [plOf_cons]
    by_cases hc : c.2 = a.2
    · have hs := inc_split (show incR (q ++ c :: r) by rw [← h]; exact hi)
      have e : full = (q ++ [c]) ++ r := by rw [h, List.append_assoc]; rfl
      rw [if_pos hc]
      show (match firstAbove (plOf full b.2) c.1 with | none => none | some d => some (a.1, b.1, c.1, d)) = _
      rw [e, fa_split hs.1 hs.2]
      unfold triR
      rw [if_pos ⟨hc, hne⟩]
      cases hf : plOf r b.2 with
      | nil => exact (triR_far r hf).symm
      | cons d l => rfl
    · rw [if_neg hc]
      have := tri_is hi hne (q ++ [c]) r (by rw [h, List.append_assoc]; rfl)
      rw [this]
      conv => rhs; unfold triR
      rw [if_neg fun z => hc z.1]
theorem xFrom_is {full : List Rw} (hi : incR full) {a b : Rw} (ha : a ∈ full) {q r : List Rw} (h : full = q ++ b :: r) : xFrom (plOf full a.2) (plOf full b.2) a.1 b.1 = triR a b r := by
  have hb : b ∈ full := by rw [h]; simp
  by_cases hne : b.2 = a.2
  · rw [triR_same hne]
    unfold xFrom
    rw [if_pos (by rw [hne])]
  · have hne2 : plOf full a.2 ≠ plOf full b.2 := fun z => by
      have h1 : a.1 ∈ plOf full a.2 := plOf_mem.mpr ha
      rw [z, plOf_mem] at h1
      exact hne (inc_one hi h1 ha)
    have hs := inc_split (show incR (q ++ b :: r) by rw [← h]; exact hi)
    have e : full = (q ++ [b]) ++ r := by rw [h, List.append_assoc]; rfl
    rw [← tri_is hi hne (q ++ [b]) r e]
    unfold xFrom
    rw [if_neg hne2]
    have : firstAbove (plOf full a.2) b.1 = (plOf r a.2).head? := by
      conv => lhs; rw [e]
      exact fa_split hs.1 hs.2
    generalize (plOf r a.2).head? = o at this
    subst this
    generalize firstAbove (plOf full a.2) b.1 = o
    cases o with
    | none => rfl
    | some c => first
      | rfl
      | (show (match firstAbove (plOf full b.2) c with | none => _ | some d => _) = _
         cases firstAbove (plOf full b.2) c <;> rfl)
      | (dsimp only; cases firstAbove (plOf full b.2) c <;> rfl)
theorem least_is {full : List Rw} {hs : List (List Nat)} (hi : incR full) (hh : ∀ r ∈ full, homeOf hs r.1 = plOf full r.2) : leastX hs (full.map (·.1)) = leastR full := by
  have key : ∀ (r q : List Rw), full = q ++ r → leastX hs (r.map (·.1)) = leastR r := by
    intro r
    induction r with
    | nil => intro _ _; rfl
    | cons a r ih =>
      intro q h
      have ha : a ∈ full := by rw [h]; simp
      show ((r.map (·.1)).findSome? fun b => xFrom (homeOf hs a.1) (homeOf hs b) a.1 b).or (leastX hs (r.map (·.1))) = (pairR a r).or (leastR r)
      rw [ih (q ++ [a]) (by rw [h, List.append_assoc]; rfl)]
      have inner : ∀ (s p : List Rw), full = p ++ s → ((s.map (·.1)).findSome? fun b => xFrom (homeOf hs a.1) (homeOf hs b) a.1 b) = pairR a s := by
        intro s
        induction s with
        | nil => intro _ _; rfl
        | cons b s ihs =>
          intro p hp
          have hb : b ∈ full := by rw [hp]; simp
          rw [List.map_cons, List.findSome?_cons, ihs (p ++ [b]) (by rw [hp, List.append_assoc]; rfl), hh a ha, hh b hb, xFrom_is hi ha hp]
          show _ = (triR a b s).or (pairR a s)
          cases triR a b s <;> rfl
      rw [inner r (q ++ [a]) (by rw [h, List.append_assoc]; rfl)]
  exact key full [] rfl
/-! what is handed in: the places of each name, in any order -/
def handU (c : Int) (rs : List Rw) : Nat → List (Bool × List Nat)
  | 0 => []
  | i + 1 => if plOf rs i = [] then handU c rs i else handU c rs i ++ [pairOf (mixN c i) (plOf rs i)]
theorem handU_next {c : Int} {rs : List Rw} {i : Nat} : handU c rs (i + 1) = if plOf rs i = [] then handU c rs i else handU c rs i ++ [pairOf (mixN c i) (plOf rs i)] := rfl
theorem plOf_inc {rs : List Rw} (h : incR rs) (k : Nat) : (plOf rs k).Pairwise (· < ·) := by
  unfold plOf
  rw [List.pairwise_map]
  exact List.Pairwise.filter _ h
theorem handU_len {c : Int} {rs : List Rw} : ∀ i, (handU c rs i).length ≤ i
  | 0 => Nat.le_refl _
  | i + 1 => by
    have := handU_len (c := c) (rs := rs) i
    rw [handU_next]
    split
    · omega
    · rw [List.length_append]; simp; omega
theorem handU_mem {c : Int} {rs : List Rw} (hi : incR rs) : ∀ {i : Nat} {g : List Nat}, g ∈ (handU c rs i).map (fun p => srt p.2) ↔ ∃ k, k < i ∧ plOf rs k ≠ [] ∧ g = plOf rs k
  | 0, g => by
    constructor
    · intro h; cases h
    · rintro ⟨k, h, _⟩; exact absurd h (Nat.not_lt_zero _)
  | i + 1, g => by
    rw [handU_next]
    by_cases he : plOf rs i = []
    · rw [if_pos he, handU_mem hi]
      constructor
      · rintro ⟨k, h1, h2⟩; exact ⟨k, by omega, h2⟩
      · rintro ⟨k, h1, h2, h3⟩
        refine ⟨k, ?_, h2, h3⟩
        rcases Nat.lt_succ_iff_lt_or_eq.mp h1 with h | h
        · exact h
        · subst h; exact absurd he h2
    · rw [if_neg he, List.map_append, List.mem_append, handU_mem hi, List.map_cons, List.map_nil, srt_pair (plOf_inc hi i), List.mem_singleton]
      constructor
      · rintro (⟨k, h1, h2⟩ | h)
        · exact ⟨k, by omega, h2⟩
        · exact ⟨i, by omega, he, h⟩
      · rintro ⟨k, h1, h2, h3⟩
        rcases Nat.lt_succ_iff_lt_or_eq.mp h1 with h | h
        · exact .inl ⟨k, h, h2, h3⟩
        · subst h; exact .inr h3
theorem handU_flat {c : Int} {rs : List Rw} (hi : incR rs) : ∀ i, (((handU c rs i).map fun p => srt p.2).flatten).Perm ((rs.filter fun r => decide (r.2 < i)).map (·.1))
  | 0 => by
    have : rs.filter (fun r => decide (r.2 < 0)) = [] := List.filter_eq_nil_iff.mpr fun a _ => by simp
    rw [this]
    exact List.Perm.refl _
  | i + 1 => by
    have h1 : ((rs.filter fun r => decide (r.2 < i + 1)).map (·.1)).Perm ((rs.filter fun r => decide (r.2 < i)).map (·.1) ++ plOf rs i) := by
      unfold plOf
      rw [← List.map_append]
      refine List.Perm.map _ ?_
      clear hi
      induction rs with
      | nil => exact List.Perm.refl _
      | cons r rs ih =>
        rw [List.filter_cons, List.filter_cons, List.filter_cons]
        by_cases c1 : r.2 < i
        · rw [if_pos (decide_eq_true (show r.2 < i + 1 by omega)), if_pos (decide_eq_true c1), if_neg (by rw [decide_eq_true_iff]; omega)]
          exact ih.cons r
        · by_cases c2 : r.2 = i
          · rw [if_pos (decide_eq_true (show r.2 < i + 1 by omega)), if_neg (by rw [decide_eq_true_iff]; exact c1), if_pos (decide_eq_true c2)]
            exact (ih.cons r).trans List.perm_middle.symm
          · rw [if_neg (by rw [decide_eq_true_iff]; omega), if_neg (by rw [decide_eq_true_iff]; exact c1), if_neg (by rw [decide_eq_true_iff]; exact c2)]
            exact ih
    refine List.Perm.trans ?_ h1.symm
    rw [handU_next]
    by_cases he : plOf rs i = []
    · rw [if_pos he, he, List.append_nil]
      exact handU_flat hi i
    · rw [if_neg he, List.map_append, List.flatten_append]
      refine (handU_flat hi i).append ?_
      rw [List.map_cons, List.map_nil, srt_pair (plOf_inc hi i)]
      simp
/-- what these are told -/
theorem handed_told {c : Int} {rs : List Rw} {n sh : Nat} {ps : List (Bool × List Nat)} (hi : incR rs) (hn : ∀ r ∈ rs, r.1 < n ∧ r.2 < sh) (h1 : 1 ≤ n) (h60 : n ≤ 60) (hp : ps.Perm (handU c rs sh)) :
    crossX (.int (n : Nat)) (ps.map rowD) = .ok (xD (leastR rs)) ∧ (if (leastR rs).isSome = true then madeX (.int (n : Nat)) (ps.map rowD) = .error "Crossed" else ∃ d, madeX (.int (n : Nat)) (ps.map rowD) = .ok d) := by
  have hpm : (ps.map fun p => srt p.2).Perm ((handU c rs sh).map fun p => srt p.2) := hp.map _
  have hmem : ∀ g, g ∈ ps.map (fun p => srt p.2) ↔ ∃ k, k < sh ∧ plOf rs k ≠ [] ∧ g = plOf rs k := fun g => by rw [hpm.mem_iff, handU_mem hi]
  have hall : rs.filter (fun r => decide (r.2 < sh)) = rs := List.filter_eq_self.mpr fun r hr => decide_eq_true (hn r hr).2
  have hflat : (ps.map fun p => srt p.2).flatten.Perm (rs.map (·.1)) := by
    have := (List.Perm.flatten hpm).trans (handU_flat (c := c) hi sh)
    rwa [hall] at this
  have hincp : (rs.map (·.1)).Pairwise (· < ·) := List.pairwise_map.mpr hi
  have hnd : (ps.map fun p => srt p.2).flatten.Nodup := hflat.nodup_iff.mpr (hincp.imp Nat.ne_of_lt)
  have hsrt : srt (ps.map fun p => srt p.2).flatten = rs.map (·.1) := (srt_uniq hflat.symm (hincp.imp Nat.le_of_lt)).symm
  have hps : ∀ p ∈ ps, p.2 ≠ [] ∧ ∀ x ∈ p.2, x < n := fun p hpp => by
    obtain ⟨k, _, hk, e⟩ := (hmem (srt p.2)).mp (List.mem_map.mpr ⟨p, hpp, rfl⟩)
    refine ⟨fun z => hk (by rw [← e, z]; rfl), fun x hx => ?_⟩
    have : x ∈ plOf rs k := by rw [← e]; exact srt_mem.mpr hx
    exact (hn _ (plOf_mem.mp this)).1
  have hchk : chk (.int (n : Nat)) (ps.map rowD) = .ok (ps.map fun p => srt p.2) := by
    have hc : cntOk (.int (n : Nat)) = some n := by
      show (if 1 ≤ ((n : Nat) : Int) ∧ ((n : Nat) : Int) ≤ 60 then some ((n : Nat) : Int).toNat else none) = some n
      rw [if_pos ⟨by omega, by omega⟩]; rfl
    unfold chk
    rw [hc]
    exact scan_rows hps (by rw [List.nil_append]; exact (flat_srt ps).nodup_iff.mp hnd)
  have hhome : ∀ r ∈ rs, homeOf (ps.map fun p => srt p.2) r.1 = plOf rs r.2 := fun r hr => by
    have hf : r.1 ∈ (ps.map fun p => srt p.2).flatten := hflat.mem_iff.mpr (List.mem_map.mpr ⟨r, hr, rfl⟩)
    obtain ⟨i, h2, h3⟩ := homeOf_mem hf
    obtain ⟨k, _, _, e⟩ := (hmem _).mp (List.mem_of_getElem? h2)
    rw [e] at h3
    rw [e, inc_one hi (plOf_mem.mp h3) (show (r.1, r.2) ∈ rs from hr)]
  have hleast : leastX (ps.map fun p => srt p.2) (srt (ps.map fun p => srt p.2).flatten) = leastR rs := by rw [hsrt, least_is hi hhome]
  refine ⟨by rw [crossX_ok hchk, hleast], ?_⟩
  rw [madeX_ok hchk, hleast]
  cases leastR rs with
  | none => exact ⟨_, rfl⟩
  | some x => rfl
end Nc

/-! ### rules for k04 -/
namespace Nc
open PySem PySem.Spec PyProof.Rows L2 Evl
theorem passW {X : Cx} {W : WX} (tk : Takes X W) : Passes (L2.CX X.prog X.w) X (fun cls d H => ∀ σ, W cls d σ H) := passes_call tk fun _ _ σ _ h => h σ
theorem pe_fnS {X : Cx} {CX : CXT} {k : Nat} {x : Str} {ps : List Str} {sp : Sp} {E : L2.St → XK} {e : Expr} {es : List Expr} {t : TA} {p pos : Pos} (C : Callee X.prog X.w X.K X.mg X.base CX k x ps sp) (hr : Room k X.A) (hg : Gl X x) (hx : ∀ σ, PassesAt CX X σ (E σ))
    (ha : PA X (e :: es) t) (hdb : (x == ("__debug__" : Str)) = false := by decide) (he : starEach (e :: es) X.env = (false, eval e X.env) :: starEach es X.env := by rfl) (hpl : (backTo pos (starEach es X.env)).any (·.1) = false := by rfl) :
    PE X (.Call (.Name x p) (e :: es) [] pos) (tCallS sp E t) := by
  obtain ⟨f, fd, F, hm, hk, hb⟩ := C.ex
  exact pe_callS F hr hg hm hk hb hx ha hdb he hpl
theorem ex_callS {mg : Str → Option Value} {σ : L2.St} {Hb : Hp} {ds : List Dt} {n : Nat} {pre : List Dt → Prop} {f : List Dt → Except Str Dt} {E : L2.St → XK} {ta : TA} (h : EvDs ta σ Hb ds) (hp : pre ds) (hl : ds.length = n) : EvX mg (tCallS (spE mg n pre f) E ta) σ Hb (f ds) (E σ) := fun F H S Q q qe =>
  h F H S _ fun vs H1 e1 r => ⟨by rw [r.length]; exact hl, ds, r.mono less_ex, hp, fun d hd v H' e2 rv => q d hd v H' (e1.trans e2) (rv.wk fun a n => fresh_back e1 n), fun x hx H' e2 => qe x hx H' (e1.trans e2)⟩
def rSlS (K : PySem.W.Frag) : V → Option Int → Option Int → Hp → VK → Prop := fun x lo hi H Q => rSlL K x lo hi H Q ∨ rSlA K x lo hi H Q
theorem sl_seq {X : Cx} : SlR X (rSlS X.K) := SlR.or sl_list sl_tupA
theorem cutD_all {α : Type} (xs : List α) : cutD xs none none = xs := by
  unfold cutD
  rw [HT.sIx_none, HT.sIx_none]
  simp
section
variable {σ : L2.St} {Hb H : Hp} {F : List Addr} {d e : Dt} {ds es : List Dt} {te ta tb tl : TE} {K : PySem.W.Frag} {D : Ends} {tz tu : TS} {g : TG}
/-- a whole slice of a list or a tuple -/
theorem ed_all (ha : EvD ta σ Hb d) (hd : d.seqOf ds) : EvD (tSl (rSlS K) ta tNoPart tNoPart) σ Hb d := fun F H S Q q => by
  rcases hd with rfl | rfl
  · have h := EvF.dd (ef_slL (K := K) ha eo_nil eo_nil)
    rw [cutD_all] at h
    refine ha.thn S fun x H2 e2 S2 rx => eo_nil H2 S2.ex _ fun H3 e3 => eo_nil H3 (S2.ex.trans e3) _ fun H4 e4 => .inl ?_
    obtain ⟨a, xs, rfl, n, hx, rs⟩ := (rx.mono (less_mono (e3.trans e4))).lstI
    refine ⟨a, xs, rfl, sq_of (less_ex a _ hx), ef_mk S ((e2.trans e3).trans e4) (rs.cut none none) fun p ys H' hp e hy ry => q _ H' e ?_⟩
    rw [cutD_all] at ry
    exact .lst trivial (by rw [less_some (S.new hp)]; exact hy) (ry.mono (less_sub fun a ha => List.mem_cons_of_mem _ ha))
  · refine ha.thn S fun x H2 e2 S2 rx => eo_nil H2 S2.ex _ fun H3 e3 => eo_nil H3 (S2.ex.trans e3) _ fun H4 e4 => .inr ?_
    have rx4 := rx.mono (less_mono (e3.trans e4) (F := F))
    obtain ⟨a, xs, rfl, hx, rs⟩ := rx4.tupI
    exact ⟨a, xs, rfl, st_of (less_ex a _ hx), fun _ => q _ H4 ((e2.trans e3).trans e4) rx4, fun z => absurd ⟨HT.sIx_none .., HT.sIx_none ..⟩ z⟩
theorem ed_cellI {a : Addr} {ns : List Int} {k : Nat} {E : XK} {i : Nat} (hs : SqL K Hb a (ns.map V.int)) (hv : σ[i]? = some (some (.ref a))) (ht : EvD te σ Hb (.int (k : Nat))) : EvD (tCall (sp_l_cell_at K) [] E (tCons (tVar i) (tCons te tNil))) σ Hb (.int (ns.getD k 0)) := fun F H S Q q =>
  ⟨.ref a, hv, ht F H S _ fun y H1 e1 ry => by
    rw [ry.intI]
    exact ⟨a, ns, k, rfl, ex_l (S.ex.trans e1) hs, fun H' e => q _ H' (e1.trans e) (.int _)⟩⟩
/-- for x in range(lo, hi) -/
theorem s_forR2 {ar : TA} {j lo hi : Nat} (S : Beside Hb F H) (h : EvDs ar σ Hb [.int (lo : Int), .int (hi : Int)]) (hn : lo ≤ 100000 ∧ hi ≤ 100000) (Pv : Nat → L2.St → Hp → Prop) (h0 : ∀ H1, Ex H H1 → Pv 0 σ H1)
    (hs : ∀ (i : Nat) σ' H', i < hi - lo → Pv i σ' H' → tu { D with nx := Pv (i + 1), ct := Pv (i + 1), bk := D.nx } (σ'.set j (some (.int ((lo + i : Nat) : Int)))) H') (hd : ∀ σ' H', Pv (hi - lo) σ' H' → D.nx σ' H') : tFor (iRng2 ar) (gName j) tu D σ H :=
  h F H S _ fun ws H1 e1 r => by
    cases r with
    | cons r r' =>
      cases r' with
      | cons r2 r' =>
        cases r'
        cases r
        cases r2
        have en : ((hi : Int) - (lo : Int)).toNat = hi - lo := by omega
        refine ⟨(lo : Int), (hi : Int), rfl, ⟨by omega, by omega, by omega, by omega⟩, for_range (lo := (lo : Int)) (n := ((hi : Int) - (lo : Int)).toNat) Pv (h0 H1 e1) (fun i σ' H' hi p => ?_) (fun σ' H' p => hd σ' H' (by rw [en] at p; exact p))⟩
        have e0 : (lo : Int) + (i : Int) = ((lo + i : Nat) : Int) := by omega
        show tu { D with nx := Pv (i + 1), ct := Pv (i + 1), bk := D.nx } (σ'.set j (some (.int ((lo : Int) + (i : Int))))) H'
        rw [e0]
        exact hs i σ' H' (by omega) p
end
/-! promises of k04's helpers -/
def sp_l_drawn (K : PySem.W.Frag) : Sp := fun vs H Q _ => vs.length = 2 ∧ ∃ (a : Addr) (ns : List Int) (n : Nat), vs = [.ref a, .int n] ∧ SqL K H a (ns.map V.int) ∧ 1 ≤ n ∧ n ≤ 60 ∧
  ∀ (ps : List Nat) v H', ps.Pairwise (· < ·) → (∀ x ∈ ps, x < n) → Ex H H' → Rp (Fresh H) H' v (dNats ps) → Q v H'
def isRows (ps : List Nat) (sh : Nat) (e : Dt) : Prop := ∃ rs : List Rw, e = dRows rs ∧ rs.map (·.1) = ps ∧ ∀ r ∈ rs, r.2 < sh
def Dt.nats (d : Dt) : List Nat := d.ints.map Int.toNat
theorem nats_dNats (ps : List Nat) : (dNats ps).nats = ps := by
  unfold Dt.nats
  rw [dNats_ofN, ints_dInts]
  unfold ofN
  rw [List.map_map]
  exact List.map_id' ps
def sp_l_rows : Sp := spR 3 (fun ds => ∃ (ps : List Nat) (c : Int) (sh : Nat), ds = [dNats ps, .int c, .int sh] ∧ 1 ≤ sh ∧ ps.length ≤ 100) fun ds e => isRows (ds.headD .non).nats (dInt (ds.getD 2 .non)).toNat e
def rwD : Dt → Rw
  | .tup [.int a, .int b] => (a.toNat, b.toNat)
  | _ => (0, 0)
theorem rw_rows (rs : List Rw) : (dRows rs).rows.map rwD = rs := by
  show (rs.map fun r => Dt.tup [.int (r.1 : Nat), .int (r.2 : Nat)]).map rwD = rs
  rw [List.map_map]
  exact List.map_id' rs
def sp_l_handed4 : Sp := spD 3 (fun ds => ∃ (rs : List Rw) (sh : Nat) (c : Int), ds = [dRows rs, .int sh, .int c] ∧ rs.length ≤ 100 ∧ sh ≤ 100) fun ds => .lst ((handU (dInt (ds.getD 2 .non)) ((ds.headD .non).rows.map rwD) (dInt (ds.getD 1 .non)).toNat).map rowD)
def sp_l_least : Sp := spD 1 (fun ds => ∃ rs : List Rw, ds = [dRows rs] ∧ rs.length ≤ 100) fun ds => xD (leastR ((ds.headD .non).rows.map rwD))
def errX : Except Str Dt → Bool
  | .ok _ => false
  | .error _ => true
def sp_l_refused : Sp := spD 2 (fun ds => ∃ (c : Dt) (gs : List Dt), ds = [c, .lst gs] ∧ gs.length ≤ 1000 ∧ ((∃ d, madeX c gs = .ok d) ∨ madeX c gs = .error "Crossed")) fun ds => .bl (errX (madeX (ds.headD .non) (ds.getD 1 .non).rows))
end Nc

/-! ### isinstance of the exception that a clause holds: one class, or a tuple of them -/
namespace Nc
open PySem PySem.Spec PyProof.Rows L2 Evl
def rIsX (K : PySem.W.Frag) (cls : Value) (d : Option Addr) (a : Addr) : List V → Hp → VK → Prop := fun xs H Q => ∃ D : Addr, cls = .ref D ∧ d = none ∧ ExcC K D ∧
  ((∃ (c : V) (cv : Value) (b : Bool), xs = [.ref a, c] ∧ ClsV c cv ∧ PySem.W.kitOne K (.ref D) cv = some b ∧ Q (.bl b) H) ∨
   (∃ (tp : Addr) (cs : List V) (us : List Value) (b : Bool), xs = [.ref a, .ref tp] ∧ H tp = some (.tup cs) ∧ Paired ClsV cs us ∧ PySem.W.kitAny K (.ref D) us = some b ∧ Q (.bl b) H))
theorem call_isX {X : Cx} {a : Addr} {cls : Value} {d : Option Addr} {oe : Obj} {pn : List (Addr × Obj)} (hz : Zc cls d oe) (hf : ∃ vs, oe.data = .fields vs) : CallR (X.suite a ((a, oe) :: pn)) (.builtin "isinstance") (rIsX X.K cls d a) := by
  intro pins s σ H xs us Q I r h
  obtain ⟨D, rfl, rfl, C, h⟩ := h
  obtain ⟨hget, _⟩ := I.pin (a, oe) (List.mem_append.mpr (.inl List.mem_cons_self))
  have J : PySem.W.InstAt s.heap a oe D none := by
    obtain ⟨vs, hv⟩ := hf
    obtain ⟨oc, od, oda, osl⟩ := oe
    obtain ⟨h1, h2⟩ := hz
    dsimp only at h1 h2 hv
    subst h1 h2 hv
    exact ⟨hget, rfl, rfl, trivial⟩
  rcases h with ⟨c, cv, b, rfl, k, e, q⟩ | ⟨tp, cs, ws, b, rfl, hT, k, e, q⟩
  · obtain ⟨u1, u2, rfl, r1, r2⟩ := vals2 r
    cases (show u1 = Value.ref a from r1)
    have e2 := k.eq r2
    subst e2
    exact PySem.W.kia_one (PySem.W.handS_kitx_exc C.hg C.hk C.hs C.hd C.ha C.hn C.ht C.hm) I.kIn J e (fun z => nomatch z) fun tk => ⟨.bl b, H, I.tok tk, rfl, q⟩
  · obtain ⟨u1, u2, rfl, r1, r2⟩ := vals2 r
    cases (show u1 = Value.ref a from r1)
    cases (show u2 = Value.ref tp from r2)
    obtain ⟨_, its, rv, o, h1, h2, n, h3⟩ := (show ObjOk X.prog X.w H s.heap tp (.tup cs) from I.hok tp _ hT)
    have e3 := ClsV.all k rv
    subst e3
    obtain ⟨oc, od, dt, sl⟩ := o
    simp only at h2 h3
    subst h2 h3
    exact PySem.W.kia_tup (PySem.W.handS_kitx_exc C.hg C.hk C.hs C.hd C.ha C.hn C.ht C.hm) I.kIn J h1 e (fun z => nomatch z) fun tk => ⟨.bl b, H, I.tok tk, rfl, q⟩
end Nc

/-! ### k03: two groups cross, looked at by the arcs of the one -/
namespace Nc
open PySem PySem.Spec PyProof.Rows L2 Evl
def cntB (one : List Nat) (x : Nat) : Nat := (one.filter fun y => decide (y < x)).length
def crossP (one other : List Nat) : Prop := ∃ x ∈ other, ∃ y ∈ other, cntB one x % one.length ≠ cntB one y % one.length
theorem cntB_le (one : List Nat) (x : Nat) : cntB one x ≤ one.length := List.length_filter_le _ _
theorem cntB_perm {a b : List Nat} (h : a.Perm b) (x : Nat) : cntB a x = cntB b x := (h.filter _).length_eq
theorem cntB_mono {one : List Nat} {x y : Nat} (h : x ≤ y) : cntB one x ≤ cntB one y := by
  unfold cntB
  induction one with
  | nil => exact Nat.le_refl _
  | cons a r ih =>
    rw [List.filter_cons, List.filter_cons]
    by_cases c : a < x
    · rw [if_pos (decide_eq_true c), if_pos (decide_eq_true (show a < y by omega))]
      exact Nat.succ_le_succ ih
    · rw [if_neg (by rw [decide_eq_true_iff]; exact c)]
      split
      · exact Nat.le_succ_of_le ih
      · exact ih
/-- one of them stands between -/
theorem cntB_lt {one : List Nat} {x y c : Nat} (hc : c ∈ one) (h1 : x ≤ c) (h2 : c < y) : cntB one x < cntB one y := by
  unfold cntB
  induction one with
  | nil => cases hc
  | cons a r ih =>
    rw [List.filter_cons, List.filter_cons]
    rcases List.mem_cons.mp hc with e | hc
    · subst e
      rw [if_neg (by rw [decide_eq_true_iff]; omega), if_pos (decide_eq_true h2)]
      exact Nat.lt_succ_of_le (cntB_mono (one := r) (by omega))
    · have := ih hc
      by_cases d : a < x
      · rw [if_pos (decide_eq_true d), if_pos (decide_eq_true (show a < y by omega))]
        exact Nat.succ_lt_succ this
      · rw [if_neg (by rw [decide_eq_true_iff]; exact d)]
        split
        · exact Nat.lt_succ_of_lt this
        · exact this
theorem cntB_between {one : List Nat} {x y : Nat} (h : cntB one x < cntB one y) : ∃ c ∈ one, x ≤ c ∧ c < y := by
  unfold cntB at h
  induction one with
  | nil => exact absurd h (Nat.lt_irrefl _)
  | cons a r ih =>
    rw [List.filter_cons, List.filter_cons] at h
    by_cases d : a < x
    · by_cases e : a < y
      · rw [if_pos (decide_eq_true d), if_pos (decide_eq_true e)] at h
        obtain ⟨c, h1, h2⟩ := ih (Nat.lt_of_succ_lt_succ h)
        exact ⟨c, List.mem_cons_of_mem _ h1, h2⟩
      · rw [if_pos (decide_eq_true d), if_neg (by rw [decide_eq_true_iff]; exact e)] at h
        obtain ⟨c, h1, h2⟩ := ih (Nat.lt_of_succ_lt h)
        exact ⟨c, List.mem_cons_of_mem _ h1, h2⟩
    · by_cases e : a < y
      · exact ⟨a, by simp, by omega, e⟩
      · rw [if_neg (by rw [decide_eq_true_iff]; exact d), if_neg (by rw [decide_eq_true_iff]; exact e)] at h
        obtain ⟨c, h1, h2⟩ := ih h
        exact ⟨c, List.mem_cons_of_mem _ h1, h2⟩
theorem cntB_pos {one : List Nat} {x a : Nat} (ha : a ∈ one) (h : a < x) : 0 < cntB one x := by
  unfold cntB
  exact List.length_pos_of_mem (List.mem_filter.mpr ⟨ha, decide_eq_true h⟩)
theorem cntB_some {one : List Nat} {x : Nat} (h : 0 < cntB one x) : ∃ a ∈ one, a < x := by
  unfold cntB at h
  obtain ⟨a, ha⟩ := List.exists_mem_of_length_pos h
  exact ⟨a, (List.mem_filter.mp ha).1, of_decide_eq_true (List.mem_filter.mp ha).2⟩
theorem cntB_more {one : List Nat} {y : Nat} (h : cntB one y < one.length) : ∃ e ∈ one, y ≤ e := by
  refine Classical.byContradiction fun z => ?_
  have : one.filter (fun a => decide (a < y)) = one := List.filter_eq_self.mpr fun a ha => decide_eq_true (Classical.byContradiction fun q => z ⟨a, ha, by omega⟩)
  unfold cntB at h
  rw [this] at h
  exact Nat.lt_irrefl _ h
theorem cntB_out {one : List Nat} {x c : Nat} (hc : c ∈ one) (h : x ≤ c) : cntB one x < one.length := by
  have h1 := cntB_lt (one := one) hc h (Nat.lt_succ_self c)
  exact Nat.lt_of_lt_of_le h1 (cntB_le _ _)
/-- four places that cross -/
theorem cross_four {one other : List Nat} (hd : ∀ x ∈ one, x ∉ other) : crossP one other ↔ (∃ a ∈ one, ∃ b ∈ other, ∃ c ∈ one, ∃ d ∈ other, a < b ∧ b < c ∧ c < d) ∨ (∃ a ∈ other, ∃ b ∈ one, ∃ c ∈ other, ∃ d ∈ one, a < b ∧ b < c ∧ c < d) := by
  have apart : ∀ x ∈ one, ∀ y ∈ other, x ≠ y := fun x hx y hy e => hd x hx (by rw [e]; exact hy)
  constructor
  · have half : ∀ x ∈ other, ∀ y ∈ other, x ≤ y → cntB one x % one.length ≠ cntB one y % one.length → (∃ a ∈ one, ∃ b ∈ other, ∃ c ∈ one, ∃ d ∈ other, a < b ∧ b < c ∧ c < d) ∨ (∃ a ∈ other, ∃ b ∈ one, ∃ c ∈ other, ∃ d ∈ one, a < b ∧ b < c ∧ c < d) := by
      intro x hx y hy hxy hne
      have hlt : cntB one x < cntB one y := by
        have := cntB_mono (one := one) hxy
        rcases Nat.lt_or_eq_of_le this with h | h
        · exact h
        · rw [h] at hne; exact absurd rfl hne
      obtain ⟨c, hc, h1, h2⟩ := cntB_between hlt
      have h1' : x < c := Nat.lt_of_le_of_ne h1 (Ne.symm (apart c hc x hx))
      by_cases h0 : 0 < cntB one x
      · obtain ⟨a, ha, hax⟩ := cntB_some h0
        exact .inl ⟨a, ha, x, hx, c, hc, y, hy, hax, h1', h2⟩
      · have hy1 : cntB one y < one.length := by
          rcases Nat.lt_or_eq_of_le (cntB_le one y) with h | h
          · exact h
          · rw [h, Nat.mod_self, show cntB one x = 0 by omega, Nat.zero_mod] at hne
            exact absurd rfl hne
        obtain ⟨e, he, hye⟩ := cntB_more hy1
        exact .inr ⟨x, hx, c, hc, y, hy, e, he, h1', h2, Nat.lt_of_le_of_ne hye (Ne.symm (apart e he y hy))⟩
    rintro ⟨x, hx, y, hy, hne⟩
    rcases Nat.le_total x y with h | h
    · exact half x hx y hy h hne
    · exact half y hy x hx h (Ne.symm hne)
  · rintro (⟨a, ha, b, hb, c, hc, d, hdd, h1, h2, h3⟩ | ⟨a, ha, b, hb, c, hc, d, hdd, h1, h2, h3⟩)
    · refine ⟨b, hb, d, hdd, ?_⟩
      have p1 := cntB_pos ha h1
      have p2 := cntB_lt hc (Nat.le_of_lt h2) h3
      have p3 := cntB_le one d
      rw [Nat.mod_eq_of_lt (show cntB one b < one.length by omega)]
      rcases Nat.lt_or_eq_of_le p3 with h | h
      · rw [Nat.mod_eq_of_lt h]; omega
      · rw [h, Nat.mod_self]; omega
    · refine ⟨a, ha, c, hc, ?_⟩
      have p2 := cntB_lt hb (Nat.le_of_lt h1) h2
      have p3 := cntB_out hdd (Nat.le_of_lt h3)
      rw [Nat.mod_eq_of_lt p3, Nat.mod_eq_of_lt (show cntB one a < one.length by omega)]
      omega
theorem home_of {gs : List (List Nat)} (hnd : gs.flatten.Nodup) {g : List Nat} (hg : g ∈ gs) {k : Nat} (hk : k ∈ g) : homeOf gs k = g := by
  obtain ⟨i, h1, h2⟩ := homeOf_mem (List.mem_flatten.mpr ⟨g, hg, hk⟩)
  have hp : gs.Pairwise fun a b => ∀ x ∈ a, ∀ y ∈ b, x ≠ y := by
    have := hnd
    unfold List.Nodup at this
    rw [List.pairwise_flatten] at this
    exact this.2
  obtain ⟨j, hj, e⟩ := List.mem_iff_getElem.mp hg
  have hi := (List.getElem?_eq_some_iff.mp h1)
  obtain ⟨hil, hie⟩ := hi
  rcases Nat.lt_trichotomy i j with h | h | h
  · have := List.pairwise_iff_getElem.mp hp i j hil hj h k (by rw [hie]; exact h2) k (by rw [e]; exact hk)
    exact absurd rfl this
  · subst h
    rw [← hie, e]
  · have := List.pairwise_iff_getElem.mp hp j i hj hil h k (by rw [e]; exact hk) k (by rw [hie]; exact h2)
    exact absurd rfl this
/-- the least crossing is there just where two groups cross -/
theorem least_some {gs : List (List Nat)} (hnd : gs.flatten.Nodup) (hs : ∀ g ∈ gs, g.Pairwise (· < ·)) : (leastX gs (srt gs.flatten)).isSome = true ↔ ∃ one ∈ gs, ∃ other ∈ gs, other ≠ one ∧ crossP one other := by
  have disj : ∀ g ∈ gs, ∀ h ∈ gs, h ≠ g → ∀ x ∈ g, x ∉ h := fun g hg h hh hne x hx hx2 => hne ((home_of hnd hh hx2).symm.trans (home_of hnd hg hx))
  constructor
  · intro h
    obtain ⟨x, hx⟩ := Option.isSome_iff_exists.mp h
    obtain ⟨as, a, bs, b, cs, hsp, hxf, _, _⟩ := leastX_some hx
    have ha : a ∈ gs.flatten := srt_mem.mp (by rw [hsp]; simp)
    have hb : b ∈ gs.flatten := srt_mem.mp (by rw [hsp]; simp)
    obtain ⟨i, hi, hai⟩ := homeOf_mem ha
    obtain ⟨j, hj, hbj⟩ := homeOf_mem hb
    have hab : a < b := by
      have := srt_lt hnd
      rw [hsp, List.pairwise_append] at this
      exact (List.pairwise_cons.mp this.2.1).1 b (by simp)
    have hga := List.mem_of_getElem? hi
    have hgb := List.mem_of_getElem? hj
    obtain ⟨c, d, _, hne, hc, hd, hbc, hcd, _⟩ := xFrom_some (hs _ hga) (hs _ hgb) hxf
    exact ⟨_, hga, _, hgb, Ne.symm hne, (cross_four (disj _ hga _ hgb (Ne.symm hne))).mpr (.inl ⟨a, hai, b, hbj, c, hc, d, hd, hab, hbc, hcd⟩)⟩
  · rintro ⟨one, h1, other, h2, hne, hc⟩
    have four : ∀ g ∈ gs, ∀ h ∈ gs, h ≠ g → (∃ a ∈ g, ∃ b ∈ h, ∃ c ∈ g, ∃ d ∈ h, a < b ∧ b < c ∧ c < d) → (leastX gs (srt gs.flatten)).isSome = true := by
      rintro g hg h hh hne ⟨a, ha, b, hb, c, hc, d, hd, q1, q2, q3⟩
      cases hl : leastX gs (srt gs.flatten) with
      | some x => rfl
      | none =>
        rw [leastX_none] at hl
        have hma : a ∈ srt gs.flatten := srt_mem.mpr (List.mem_flatten.mpr ⟨g, hg, ha⟩)
        have hmb : b ∈ srt gs.flatten := srt_mem.mpr (List.mem_flatten.mpr ⟨h, hh, hb⟩)
        obtain ⟨i, hi, ei⟩ := List.mem_iff_getElem.mp hma
        obtain ⟨j, hj, ej⟩ := List.mem_iff_getElem.mp hmb
        have hij : i < j := by
          rcases Nat.lt_trichotomy i j with h | h | h
          · exact h
          · subst h; rw [ei] at ej; omega
          · have := List.pairwise_iff_getElem.mp (srt_lt hnd) j i hj hi h
            omega
        have hx := List.pairwise_iff_getElem.mp hl i j hi hj hij
        rw [ei, ej, home_of hnd hg ha, home_of hnd hh hb] at hx
        rcases xFrom_none (hs _ hg) hx with e | e
        · exact absurd e.symm hne
        · exact absurd q3 (e c hc d hd q2)
    rcases (cross_four (disj _ h1 _ h2 hne)).mp hc with h | h
    · exact four one h1 other h2 hne h
    · exact four other h2 one h1 (Ne.symm hne) h
theorem crossP_perm {a a' b b' : List Nat} (h : a.Perm a') (k : b.Perm b') : crossP a b ↔ crossP a' b' := by
  unfold crossP
  constructor
  · rintro ⟨x, hx, y, hy, q⟩
    exact ⟨x, k.mem_iff.mp hx, y, k.mem_iff.mp hy, by rw [← cntB_perm h, ← cntB_perm h, ← h.length_eq]; exact q⟩
  · rintro ⟨x, hx, y, hy, q⟩
    exact ⟨x, k.mem_iff.mpr hx, y, k.mem_iff.mpr hy, by rw [cntB_perm h, cntB_perm h, h.length_eq]; exact q⟩
end Nc

/-! ### int of a truth, count and index in a list of truths -/
namespace Nc
open PySem PySem.Spec PyProof.Rows L2 Evl
def rIntB : List V → Hp → VK → Prop := fun xs H Q => ∃ b : Bool, xs = [.bl b] ∧ Q (.int (if b then 1 else 0)) H
theorem call_intB {X : Cx} : CallR X (.type "int") rIntB := by
  intro pins s σ H xs us Q I r h
  obtain ⟨b, rfl, q⟩ := h
  obtain ⟨u, rfl, r1⟩ := vals1 r
  cases (show u = Value.bool b from r1)
  exact call_int_bool ⟨.int _, H, I.tok _, ⟨_, rfl⟩, q⟩
def rCountD (K : PySem.W.Frag) : V → List V → Hp → VK → Prop := fun x xs H Q => ∃ (a : Addr) (y : V) (d : PyData) (ds : List PyData), x = V.ref a ∧ xs = [y] ∧ Dp K H (V.ref a) (.list ds) ∧ Dp K H y d ∧
  d.depth = 0 ∧ PyData.plainAll ds = true ∧ d.plain = true ∧ Q (.int ((ds.countP fun y => PyData.eqv y d : Nat) : Int)) H
theorem mt_countD {X : Cx} (hu : X.A.units + 64 < cLine) : MtR X "list.count" (rCountD X.K) := by
  intro pins s σ H x xs v us Q I rx rxs h
  obtain ⟨a, y, d, ds, rfl, rfl, hl, hy, sd, hp, hd, q⟩ := h
  cases rx
  cases rxs with
  | cons ry rt =>
    rename_i uy ut
    cases rt
    obtain ⟨bs, r1⟩ := Dp.reads I d y uy hy ry
    have hroom : X.A.units + 1 + min (PyData.depthAll ds) d.depth < cLine := by rw [sd, Nat.min_zero]; omega
    cases hl with
    | lst hs ha =>
      obtain ⟨its, rv, p, hlen⟩ := I.list hs
      obtain ⟨as, h4⟩ := Dp.readsAll I ds _ its ha rv
      exact SeqAt.count_list_data p.isList (show ReadsAll s.heap its.toArray.toList ds as from h4) r1 hp hd hroom ⟨.int _, H, I.tok _, ⟨_, rfl⟩, q⟩
end Nc

/-! ### places of like marks, gathered in a dict -/
namespace Nc
open PySem PySem.Spec PyProof.Rows L2 Evl
section
variable {α : Type} [DecidableEq α] {f : Nat → α}
theorem grp_next (i j : Nat) : grp f (i + 1) j = if f i = f j then grp f i j ++ [i] else grp f i j := by
  unfold grp
  rw [List.range_succ, List.filter_append, List.filter_cons]
  by_cases h : f i = f j
  · rw [if_pos (decide_eq_true h), if_pos h]; rfl
  · rw [if_neg (by rw [decide_eq_true_iff]; exact h), if_neg h]; simp
def firsts (f : Nat → α) (i : Nat) : List Nat := (List.range i).filter (firstB f)
theorem firsts_next (i : Nat) : firsts f (i + 1) = if firstB f i = true then firsts f i ++ [i] else firsts f i := by
  unfold firsts
  rw [List.range_succ, List.filter_append, List.filter_cons]
  by_cases h : firstB f i = true
  · rw [if_pos h, if_pos h]; rfl
  · rw [if_neg h, if_neg h]; simp
theorem mem_firsts {i j : Nat} : j ∈ firsts f i ↔ j < i ∧ firstB f j = true := by
  unfold firsts
  rw [List.mem_filter, List.mem_range]
theorem firsts_len (i : Nat) : (firsts f i).length ≤ i := by
  unfold firsts
  refine Nat.le_trans (List.length_filter_le _ _) ?_
  simp
theorem groups_firsts (n : Nat) : groupsOf f n = (firsts f n).map (grp f n) := rfl
theorem firsts_eq {j k : Nat} (hj : firstB f j = true) (hk : firstB f k = true) (e : f j = f k) : j = k := by
  rw [firstB_iff] at hj hk
  rcases Nat.lt_trichotomy j k with h | h | h
  · exact absurd e (hk j h)
  · exact h
  · exact absurd e.symm (hj k h)
end
structure Gth {α : Type} [DecidableEq α] (κ : α → Key) (f : Nat → α) (H0 : Hp) (d : Addr) (i : Nat) (pa : Nat → Addr) (H : Hp) : Prop where
  dict : H d = some (.dK ((firsts f i).map fun j => (κ (f j), V.ref (pa j))))
  lists : ∀ j, j < i → firstB f j = true → H (pa j) = some (.lst ((grp f i j).map fun x => V.int (x : Nat))) ∧ H0 (pa j) = none ∧ pa j ≠ d
  inj : ∀ j k, j < i → k < i → firstB f j = true → firstB f k = true → pa j = pa k → j = k
  ex : Ex H0 H
  fresh : H0 d = none
section
variable {α : Type} [DecidableEq α] {κ : α → Key} {f : Nat → α} {H0 H : Hp} {d : Addr} {i n : Nat} {pa : Nat → Addr} {σ : L2.St} {K : PySem.W.Frag}
theorem valV_gth {pa : Nat → Addr} {k : Key} : ∀ (l : List Nat) {v : V}, valV (l.map fun j => (κ (f j), V.ref (pa j))) k = some v → ∃ j ∈ l, κ (f j) = k ∧ v = .ref (pa j)
  | [], v, h => by cases h
  | j :: l, v, h => by
    rw [List.map_cons] at h
    by_cases e : κ (f j) = k
    · rw [valV_pos (by exact e)] at h
      exact ⟨j, by simp, e, (Option.some.inj h).symm⟩
    · rw [valV_neg (by exact e)] at h
      obtain ⟨j', h1, h2⟩ := valV_gth l h
      exact ⟨j', List.mem_cons_of_mem _ h1, h2⟩
theorem valV_gthN {pa : Nat → Addr} {k : Key} : ∀ (l : List Nat), valV (l.map fun j => (κ (f j), V.ref (pa j))) k = none → ∀ j ∈ l, κ (f j) ≠ k
  | [], _, j, hj => by cases hj
  | j :: l, h, j', hj => by
    rw [List.map_cons] at h
    by_cases e : κ (f j) = k
    · rw [valV_pos (by exact e)] at h
      cases h
    · rw [valV_neg (by exact e)] at h
      rcases List.mem_cons.mp hj with rfl | hj
      · exact e
      · exact valV_gthN l h j' hj
theorem gth_start (h : H0 d = none) {H : Hp} (e : Ex (upd H0 d (.dK [])) H) : Gth κ f H0 d 0 (fun _ => 0) H :=
  ⟨e _ _ upd_same, fun j hj => absurd hj (Nat.not_lt_zero _), fun j k hj => absurd hj (Nat.not_lt_zero _), (Ex.new h).trans e, h⟩
theorem Gth.on (G : Gth κ f H0 d i pa H) {H' : Hp} (e : Ex H H') : Gth κ f H0 d i pa H' :=
  ⟨e _ _ G.dict, fun j h1 h2 => ⟨e _ _ (G.lists j h1 h2).1, (G.lists j h1 h2).2⟩, G.inj, G.ex.trans e, G.fresh⟩
theorem gth_step (hκ : ∀ a b, κ a = κ b → a = b) (G : Gth κ f H0 d i pa H) (hi : i < 50000) {i1 i2 i3 : Nat} (h1 : σ[i1]? = some (some (.ref d))) (h2 : σ[i2]? = some (some (.int (i : Int)))) (h3 : σ[i3]? = some (some (kV (κ (f i))))) {Q : VK}
    (q : ∀ pa' H', Gth κ f H0 d (i + 1) pa' H' → Q .non H') : tBM K "list" rAppend (tDSetd (tVar i1) (tVar i3) (tLst tNil)) (tCons (tVar i2) tNil) σ H Q := by
  refine ⟨.ref d, h1, d, rfl, .inl ⟨_, .inl G.dict⟩, kV (κ (f i)), h3, by decide, fun p hp => ⟨(firsts f i).map fun j => (κ (f j), V.ref (pa j)), κ (f i), by rw [upd_ne (ne_of_none G.dict hp)]; exact G.dict, rfl, sz_lt (by rw [List.length_map]; have := firsts_len (f := f) i; omega), fun v hv => ?_, fun hn => ?_⟩⟩
  · obtain ⟨j, hj, hk, rfl⟩ := valV_gth _ hv
    have hfj := hκ _ _ hk
    obtain ⟨hji, hjf⟩ := mem_firsts.mp hj
    have hif : ¬ firstB f i = true := fun h => firstB_iff.mp h j hji hfj
    have hL := (G.lists j hji hjf).1
    have hL2 : upd H p (.lst []) (pa j) = some (.lst ((grp f i j).map fun x => V.int (x : Nat))) := by rw [upd_ne (ne_of_none hL hp)]; exact hL
    refine ⟨.inl ⟨rfl, _, sq_of hL2⟩, .int (i : Int), h2, pa j, _, .int (i : Int), rfl, rfl, hL2, sz_lt (by rw [List.length_map]; have := grp_length (f := f) (n := i) (i := j); omega), q pa _ ⟨?_, fun k hk1 hk2 => ?_, fun k l hk hl hk2 hl2 e => ?_, ?_, G.fresh⟩⟩
    · rw [firsts_next, if_neg hif, upd_ne (fun e => (G.lists j hji hjf).2.2 e.symm), upd_ne (ne_of_none G.dict hp)]
      exact G.dict
    · have hki : k < i := by
        rcases Nat.lt_succ_iff_lt_or_eq.mp hk1 with h | h
        · exact h
        · subst h; exact absurd hk2 hif
      obtain ⟨g1, g2, g3⟩ := G.lists k hki hk2
      refine ⟨?_, g2, g3⟩
      by_cases e : k = j
      · subst e
        rw [upd_same, grp_next, if_pos hfj.symm, List.map_append]; rfl
      · rw [upd_ne (fun z => e (G.inj k j hki hji hk2 hjf z)), upd_ne (ne_of_none g1 hp), grp_next, if_neg fun z => e (firsts_eq hk2 hjf (z.symm.trans hfj.symm))]
        exact g1
    · have lt : ∀ k, k < i + 1 → firstB f k = true → k < i := fun k h h' => by
        rcases Nat.lt_succ_iff_lt_or_eq.mp h with h | h
        · exact h
        · subst h; exact absurd h' hif
      exact G.inj k l (lt k hk hk2) (lt l hl hl2) hk2 hl2 e
    · exact ((G.ex.trans (Ex.new hp)).mut (G.lists j hji hjf).2.1)
  · have hno : ∀ j, j < i → f j ≠ f i := fun j hj e => by
      obtain ⟨k, hk1, hk2, hk3⟩ := first_ex f j
      exact valV_gthN _ hn k (mem_firsts.mpr ⟨by omega, hk3⟩) (by rw [hk2, e])
    have hif : firstB f i = true := firstB_iff.mpr hno
    have hpd : p ≠ d := (ne_of_none G.dict hp).symm
    have hput : putK ((firsts f i).map fun j => (κ (f j), V.ref (pa j))) (κ (f i)) (.ref p) = ((firsts f i).map fun j => (κ (f j), V.ref (pa j))) ++ [(κ (f i), .ref p)] := by
      unfold putK
      rw [if_neg]
      intro h
      obtain ⟨x, hx, e⟩ := List.any_eq_true.mp h
      obtain ⟨j, hj, rfl⟩ := List.mem_map.mp hx
      exact valV_gthN _ hn j hj (of_decide_eq_true e)
    rw [hput]
    have hL2 : upd (upd H p (.lst [])) d (.dK (((firsts f i).map fun j => (κ (f j), V.ref (pa j))) ++ [(κ (f i), .ref p)])) p = some (.lst []) := by rw [upd_ne hpd]; exact upd_same
    have H0p : H0 p = none := fresh_back G.ex hp
    refine ⟨.inl ⟨rfl, _, sq_of hL2⟩, .int (i : Int), h2, p, [], .int (i : Int), rfl, rfl, hL2, by decide, q (fun j => if j = i then p else pa j) _ ⟨?_, fun k hk1 hk2 => ?_, fun k l hk hl hk2 hl2 e => ?_, ?_, G.fresh⟩⟩
    · rw [upd_ne (Ne.symm hpd), upd_same, firsts_next, if_pos hif, List.map_append, List.map_cons, List.map_nil, if_pos rfl]
      congr 3
      refine List.map_congr_left fun j hj => ?_
      rw [if_neg (Nat.ne_of_lt (mem_firsts.mp hj).1)]
    · rcases Nat.lt_succ_iff_lt_or_eq.mp hk1 with h | h
      · obtain ⟨g1, g2, g3⟩ := G.lists k h hk2
        show upd _ p _ (if k = i then p else pa k) = _ ∧ H0 (if k = i then p else pa k) = none ∧ (if k = i then p else pa k) ≠ d
        rw [if_neg (Nat.ne_of_lt h)]
        refine ⟨?_, g2, g3⟩
        rw [upd_ne (ne_of_none g1 hp), upd_ne g3, upd_ne (ne_of_none g1 hp), grp_next, if_neg fun z => hno k h z.symm]
        exact g1
      · subst h
        show upd _ p _ (if k = k then p else pa k) = _ ∧ H0 (if k = k then p else pa k) = none ∧ (if k = k then p else pa k) ≠ d
        rw [if_pos rfl]
        refine ⟨?_, H0p, hpd⟩
        have e0 : grp f k k = [] := by
          unfold grp
          rw [List.filter_eq_nil_iff]
          intro a ha
          rw [decide_eq_true_iff]
          exact hno a (List.mem_range.mp ha)
        rw [upd_same, grp_next, if_pos rfl, e0]; rfl
    · have ne : ∀ k, k < i → firstB f k = true → p ≠ pa k := fun k h h' => (ne_of_none (G.lists k h h').1 hp).symm
      have e : (if k = i then p else pa k) = (if l = i then p else pa l) := e
      by_cases c1 : k = i
      · by_cases c2 : l = i
        · omega
        · rw [if_pos c1, if_neg c2] at e
          exact absurd e (ne l (by omega) hl2)
      · by_cases c2 : l = i
        · rw [if_neg c1, if_pos c2] at e
          exact absurd e.symm (ne k (by omega) hk2)
        · rw [if_neg c1, if_neg c2] at e
          exact G.inj k l (by omega) (by omega) hk2 hl2 e
    · exact ((G.ex.trans (Ex.new hp)).mut G.fresh).mut H0p
theorem yes_in {σ : L2.St} {H : Hp} {A B : Hp → Prop} (h : A H) : tYes σ H fun b H3 => if b = true then A H3 else B H3 := h
/-- the groups told -/
theorem gth_end (G : Gth κ f H0 d n pa H) (hn : n < 50000) {i1 j : Nat} {vs : List Nat} (h1 : σ[i1]? = some (some (.ref d))) (hw : ∀ x, wipe ((wipe σ vs).set j (some x)) vs = wipe σ vs) (hj : ∀ x, ((wipe σ vs).set j (some x))[j]? = some (some x)) {Q : VK}
    (q : ∀ D H', Ex H0 H' → Rp (Fresh H0) H' (.ref D) (dGrps (groupsOf f n)) → Q (.ref D) H') : tLockE (tLc (iVals (tVar i1)) (gName j) tYes (tCB (rTupleS K) (tCons (tVar j) tNil)) vs) σ H Q := by
  generalize hkv : ((firsts f n).map fun j => (κ (f j), V.ref (pa j))) = kvs
  have hd : H d = some (.dK kvs) := by rw [← hkv]; exact G.dict
  refine ⟨d, .dK kvs, hd, trivial, fun od => ⟨.ref d, h1, d, od, kvs, rfl, upd_same, fun D hD => ?_⟩⟩
  have hDd : D ≠ d := fun e => by rw [e, upd_same] at hD; cases hD
  have hD0 : H D = none := by rw [upd_ne hDd] at hD; exact hD
  have hlen : kvs.length = (firsts f n).length := by rw [← hkv, List.length_map]
  refine lc_it walk_values (fun i H' => H' d = some (.frz od (.dK kvs)) ∧ Ex H0 H' ∧ (∀ j, j < n → firstB f j = true → H' (pa j) = some (.lst ((grp f n j).map fun x => V.int (x : Nat)))) ∧ ∃ ts, H' D = some (.lst ts) ∧ RpL Noi H' ts (((groupsOf f n).take i).map dGrp)) ?_ (fun i H' _ p => p.1) (fun i x H1 H2 hi p y => ?_) (fun H' p => ?_)
  · refine ⟨by rw [upd_ne (Ne.symm hDd), upd_same], ?_, fun j hj1 hj2 => ?_, [], upd_same, by rw [List.take_zero]; exact .nil⟩
    · exact (G.ex.mut G.fresh).mut (fresh_back G.ex hD0)
    · obtain ⟨g1, _, g3⟩ := G.lists j hj1 hj2
      rw [upd_ne (ne_of_none g1 hD0), upd_ne g3]; exact g1
  · obtain ⟨p1, p2, p3, ts, p4, p5⟩ := p
    obtain ⟨rfl, k, hk⟩ := y
    obtain ⟨m, hm, hx⟩ : ∃ m, (firsts f n)[i]? = some m ∧ x = .ref (pa m) := by
      rw [← hkv, List.getElem?_map] at hk
      cases hh : (firsts f n)[i]? with
      | none => rw [hh] at hk; cases hk
      | some m =>
        rw [hh] at hk
        exact ⟨m, rfl, (Prod.mk.inj (Option.some.inj hk)).2.symm⟩
    subst hx
    obtain ⟨hmn, hmf⟩ := mem_firsts.mp (List.mem_of_getElem? hm)
    have hpm := p3 m hmn hmf
    refine ⟨hw _, ?_⟩
    refine yes_in ?_
    refine ⟨.ref (pa m), hj _, pa m, _, rfl, .inl ⟨sq_of hpm, fun t ht => ⟨ts, by rw [upd_ne (ne_of_none p4 ht)]; exact p4, sz_lt ?_, ?_⟩⟩⟩
    · have := p5.length
      rw [List.length_map, List.length_take] at this
      have h2 := firsts_len (f := f) n
      omega
    · have htD : t ≠ D := (ne_of_none p4 ht).symm
      have e12 : Ex H2 (upd H2 t (.tup ((grp f n m).map fun x => V.int (x : Nat)))) := Ex.new ht
      refine ⟨by rw [upd_ne (Ne.symm hDd)]; exact e12 _ _ p1, (p2.trans e12).mut (fresh_back G.ex hD0), fun j hj1 hj2 => ?_, ts ++ [.ref t], upd_same, ?_⟩
      · have g1 := p3 j hj1 hj2
        have hne : pa j ≠ D := fun e => by
          have := (G.lists j hj1 hj2).1
          rw [e, hD0] at this; cases this
        rw [upd_ne hne]; exact e12 _ _ g1
      · have hg : (groupsOf f n)[i]? = some (grp f n m) := by rw [groups_firsts, List.getElem?_map, hm]; rfl
        rw [List.take_add_one, hg, List.map_append]
        refine RpL.upd (xs := ts) (e12 _ _ p4) (fun a ha => ha.elim) ((p5.mono e12).append (.one (.tup upd_same ?_)))
        have e1 : ((grp f n m).map fun x => Dt.int (x : Nat)) = ((grp f n m).map fun x => ((x : Nat) : Int)).map Dt.int := by rw [List.map_map]; rfl
        have e2 : ((grp f n m).map fun x => V.int (x : Nat)) = ((grp f n m).map fun x => ((x : Nat) : Int)).map V.int := by rw [List.map_map]; rfl
        rw [e1, e2]
        exact RpL.ints _
  · obtain ⟨p1, p2, p3, ts, p4, p5⟩ := p
    refine ⟨p1, q D _ (p2.mut G.fresh) ?_⟩
    have hgl : (groupsOf f n).take kvs.length = groupsOf f n := by
      rw [hlen, groups_firsts, List.take_of_length_le (by rw [List.length_map]; exact Nat.le_refl _)]
    rw [hgl] at p5
    refine .lst (fresh_back G.ex hD0) (by rw [upd_ne hDd]; exact p4) ?_
    refine p5.to (fun a xs hN _ => hN.elim) (fun a xs ha => ?_) (fun a k ha => ?_)
    · rw [upd_ne (ne_of ha p1 (fun z => by cases z))]; exact ha
    · rw [upd_ne (ne_of ha p1 (fun z => by cases z))]; exact ha
end
def sp_gathered : Sp := sp_l_tie
/-- return (an int, something) -/
theorem s_retTup2 {σ : L2.St} {H : Hp} {D : Ends} {te1 te2 : TE} {i : Int} (h1 : Ev te1 σ H (.int i)) (k : ∀ H1, Ex H H1 → te2 σ H1 fun v2 H2 => [V.int i, v2].length ≤ sizeLine ∧ ∀ p, H2 p = none → D.rt (.ref p) (upd H2 p (.tup [.int i, v2]))) : tRet (tTup (tCons te1 (tCons te2 tNil))) D σ H :=
  h1 H (Ex.refl H) _ fun H1 e1 => k H1 e1
/-- enumerate(x), x a name of a list of data that stand in Hb -/
theorem s_forEV {σ : L2.St} {Hb H : Hp} {D : Ends} {tu : TS} {K : PySem.W.Frag} {v : V} {ds : List Dt} {N : Addr → Prop} {i0 j1 j2 : Nat} (hv : σ[i0]? = some (some v)) (r : Rp N Hb v (.lst ds)) (e : Ex Hb H) (Pv : Nat → L2.St → Hp → Prop) (h0 : Pv 0 σ H) (hb : ∀ i σ' H', Pv i σ' H' → Ex Hb H')
    (hs : ∀ i d v σ' H', ds[i]? = some d → Rp N Hb v d → Pv i σ' H' → ∀ H2, Ex H' H2 → tu { D with nx := Pv (i + 1), ct := Pv (i + 1), bk := D.nx } ((σ'.set j1 (some (.int (i : Int)))).set j2 (some v)) H2) (hd : ∀ σ' H', Pv ds.length σ' H' → D.nx σ' H') :
    tFor (iEnum K (tCons (tVar i0) tNil)) (gTup K 2 (gCons (gName j1) (gCons (gName j2) gNil))) tu D σ H := by
  obtain ⟨a, xs, rfl, _, hx, rs⟩ := r.lstI
  refine ⟨.ref a, hv, a, xs, rfl, sq_of (e a _ hx), for_it walk_enum Pv h0 (fun i σ' H' _ p => sq_of (hb i σ' H' p a _ hx)) (fun i y σ' H' H2 hi p hy => ?_) (fun σ' H' p => hd σ' H' (by rw [rs.length] at p; exact p))⟩
  obtain ⟨T, x1, x2, rfl, nT, rfl, f1, f2⟩ := hy
  obtain ⟨d, h1, h2⟩ := rs.getV f2
  have ex1 : x1 = .int (i : Nat) := (Option.some.inj f1).symm
  subst ex1
  exact ⟨T, _, rfl, st_of upd_same, rfl, _, _, rfl, _, _, rfl, rfl, hs i d x2 σ' H' h1 h2 p _ (Ex.new nT)⟩
theorem q_forEV {σ : L2.St} {Hb H : Hp} {D : Ends} {tz tu : TS} {K : PySem.W.Frag} {v : V} {ds : List Dt} {N : Addr → Prop} {i0 j1 j2 : Nat} (hv : σ[i0]? = some (some v)) (r : Rp N Hb v (.lst ds)) (e : Ex Hb H) (Pv : Nat → L2.St → Hp → Prop) (h0 : Pv 0 σ H) (hb : ∀ i σ' H', Pv i σ' H' → Ex Hb H')
    (hs : ∀ i d v σ' H', ds[i]? = some d → Rp N Hb v d → Pv i σ' H' → ∀ H2, Ex H' H2 → tu { D with nx := Pv (i + 1), ct := Pv (i + 1), bk := tz D } ((σ'.set j1 (some (.int (i : Int)))).set j2 (some v)) H2) (hd : ∀ σ' H', Pv ds.length σ' H' → tz D σ' H') :
    tSeq (tFor (iEnum K (tCons (tVar i0) tNil)) (gTup K 2 (gCons (gName j1) (gCons (gName j2) gNil))) tu) tz D σ H := s_forEV (D := { D with nx := tz D }) hv r e Pv h0 hb hs hd
end Nc

/-! ### what a suite says of the exception that it holds -/
namespace Nc
open PySem PySem.Spec PyProof.Rows L2 Evl
section
variable {K : PySem.W.Frag} {σ : L2.St} {Hb H : Hp} {i : Nat} {a D : Addr} {cls : Value} {d : Option Addr}
theorem ed_isx {C : Addr} {b : Bool} (hv : σ[i]? = some (some (.ref a))) (h1 : cls = .ref D) (h2 : d = none) (h3 : ExcC K D) (h : PySem.W.kitOne K (.ref D) (.ref C) = some b) : EvD (tCB (rIsX K cls d a) (tCons (tVar i) (tCons (tC (.ref C)) tNil))) σ Hb (.bl b) := fun F H S Q q =>
  ⟨.ref a, hv, D, h1, h2, h3, .inl ⟨.ref C, .ref C, b, rfl, .own C, h, q _ H (Ex.refl H) (.bl b)⟩⟩
theorem ed_isxT {n : String} {b : Bool} (hv : σ[i]? = some (some (.ref a))) (h1 : cls = .ref D) (h2 : d = none) (h3 : ExcC K D) (h : PySem.W.kitOne K (.ref D) (.type n) = some b) : EvD (tCB (rIsX K cls d a) (tCons (tVar i) (tCons (tC (.ty n)) tNil))) σ Hb (.bl b) := fun F H S Q q =>
  ⟨.ref a, hv, D, h1, h2, h3, .inl ⟨.ty n, .type n, b, rfl, .ty n, h, q _ H (Ex.refl H) (.bl b)⟩⟩
theorem ed_isx5 {c1 c2 c3 c4 c5 : Addr} {b : Bool} (hv : σ[i]? = some (some (.ref a))) (h1 : cls = .ref D) (h2 : d = none) (h3 : ExcC K D) (h : PySem.W.kitAny K (.ref D) [.ref c1, .ref c2, .ref c3, .ref c4, .ref c5] = some b) :
    EvD (tCB (rIsX K cls d a) (tCons (tVar i) (tCons (tTup (tCons (tC (.ref c1)) (tCons (tC (.ref c2)) (tCons (tC (.ref c3)) (tCons (tC (.ref c4)) (tCons (tC (.ref c5)) tNil)))))) tNil))) σ Hb (.bl b) := fun F H S Q q =>
  ⟨.ref a, hv, sz_of (by simp), fun p hp => ⟨D, h1, h2, h3, .inr ⟨p, [.ref c1, .ref c2, .ref c3, .ref c4, .ref c5], _, b, rfl, upd_same, .cons (.own _) (.cons (.own _) (.cons (.own _) (.cons (.own _) (.cons (.own _) .nil)))), h, q _ _ (Ex.new hp) (.bl b)⟩⟩⟩
theorem ed_isx8 {c1 c2 c3 c4 c5 c6 c7 c8 : Addr} {b : Bool} (hv : σ[i]? = some (some (.ref a))) (h1 : cls = .ref D) (h2 : d = none) (h3 : ExcC K D) (h : PySem.W.kitAny K (.ref D) [.ref c1, .ref c2, .ref c3, .ref c4, .ref c5, .ref c6, .ref c7, .ref c8] = some b) :
    EvD (tCB (rIsX K cls d a) (tCons (tVar i) (tCons (tTup (tCons (tC (.ref c1)) (tCons (tC (.ref c2)) (tCons (tC (.ref c3)) (tCons (tC (.ref c4)) (tCons (tC (.ref c5)) (tCons (tC (.ref c6)) (tCons (tC (.ref c7)) (tCons (tC (.ref c8)) tNil))))))))) tNil))) σ Hb (.bl b) := fun F H S Q q =>
  ⟨.ref a, hv, sz_of (by simp), fun p hp => ⟨D, h1, h2, h3, .inr ⟨p, [.ref c1, .ref c2, .ref c3, .ref c4, .ref c5, .ref c6, .ref c7, .ref c8], _, b, rfl, upd_same, .cons (.own _) (.cons (.own _) (.cons (.own _) (.cons (.own _) (.cons (.own _) (.cons (.own _) (.cons (.own _) (.cons (.own _) .nil))))))), h, q _ _ (Ex.new hp) (.bl b)⟩⟩⟩
theorem kno {t c : Value} {cs : List Value} {r : Bool} (h : PySem.W.kitOne K t c = some false) (hr : PySem.W.kitAny K t cs = some r) : PySem.W.kitAny K t (c :: cs) = some r := kitAny_cons h (fun _ => hr) (fun z => nomatch z)
theorem kno0 {t : Value} : PySem.W.kitAny K t [] = some false := rfl
theorem seq_in {t tz : TS} {D : Ends} {σ : L2.St} {H : Hp} (h : t { D with nx := tz D } σ H) : tSeq t tz D σ H := h
/-- if isinstance(e, eight): return False; return isinstance(e, X) and isinstance(e, ValueError) -/
theorem suite8 {c1 c2 c3 c4 c5 c6 c7 c8 C : Addr} {De : Ends} (hv : σ[i]? = some (some (.ref a))) (h1 : cls = .ref D) (h2 : d = none) (h3 : ExcC K D) (h : PySem.W.kitAny K (.ref D) [.ref c1, .ref c2, .ref c3, .ref c4, .ref c5, .ref c6, .ref c7, .ref c8] = some false)
    (hx : PySem.W.kitOne K (.ref D) (.ref C) = some true) (hve : PySem.W.kitOne K (.ref D) (.type "ValueError") = some true) (k : ∀ H', Ex H H' → De.rt (.bl true) H') :
    tSeq (tIfS (tB (tCB (rIsX K cls d a) (tCons (tVar i) (tCons (tTup (tCons (tC (.ref c1)) (tCons (tC (.ref c2)) (tCons (tC (.ref c3)) (tCons (tC (.ref c4)) (tCons (tC (.ref c5)) (tCons (tC (.ref c6)) (tCons (tC (.ref c7)) (tCons (tC (.ref c8)) tNil))))))))) tNil)))) (tRet (tC (.bl false))) tNext)
      (tRet (tAndV (tCB (rIsX K cls d a) (tCons (tVar i) (tCons (tC (.ref C)) tNil))) (tCB (rIsX K cls d a) (tCons (tVar i) (tCons (tC (.ty "ValueError")) tNil))))) De σ H := by
  refine q_ifN (b := false) (Beside.refl H) (et_dB (ed_isx8 hv h1 h2 h3 h)) (fun z => nomatch z) fun _ H1 e1 S1 => ?_
  refine s_retD S1 (ed_and (a := true) (b := true) (ed_isx hv h1 h2 h3 hx) fun _ => ed_isxT hv h1 h2 h3 hve) fun v H2 e2 r => ?_
  rw [r.blI]
  exact k H2 (e1.trans e2)
/-- the suite is reached -/
theorem was_in {mg : Str → Option Value} {c : Value} {ts : Addr → Value → Option Addr → TS} {Wout : WX} {De : Ends} {cls : Value} {d : Option Addr} (hm : PySem.W.exmOne K cls c = some true) (k : ∀ a, H a = none → ts a cls d { nx := fun σ' H' => De.nx (σ'.set i none) H', rt := De.rt, bk := fun σ' H' => De.bk (σ'.set i none) H', ct := fun σ' H' => De.ct (σ'.set i none) H' } (σ.set i (some (.ref a))) H) : WE (wAs K c i ts Wout De) σ cls d H :=
  ⟨true, hm, fun _ a ha => k a ha, fun z => nomatch z⟩
end
/-- a call of a def that refuses, its value left -/
theorem drop_callS {mg : Str → Option Value} {σ : L2.St} {Hb H : Hp} {F : List Addr} {De : Ends} {ds : List Dt} {n : Nat} {pre : List Dt → Prop} {f : List Dt → Except Str Dt} {E : L2.St → XK} {ta : TA} (S : Beside Hb F H) (h : EvDs ta σ Hb ds) (hp : pre ds) (hl : ds.length = n)
    (k : ∀ d, f ds = .ok d → ∀ H', Ex H H' → Beside Hb F H' → De.nx σ H') (ke : ∀ x, f ds = .error x → ∀ H', Ex H H' → E σ (.ref (clO mg x)) none H') : tDrop (tCallS (spE mg n pre f) E ta) De σ H :=
  ex_callS (mg := mg) h hp hl F H S _ (fun d hd v H' e _ => k d hd H' e (S.on e)) ke
end Nc
namespace Nc
open PySem PySem.Spec PyProof.Rows L2 Evl
theorem kit_self {K : PySem.W.Frag} {a : Addr} : PySem.W.kitOne K (.ref a) (.ref a) = some true := by
  unfold PySem.W.kitOne
  rw [if_pos (beq_self_eq_true _)]
theorem kit_own {K : PySem.W.Frag} {D C : Addr} {b : Bool} (hne : (Value.ref D == Value.ref C) = false) (hdct : PySem.W.hasDictIn K C = true) (ht : PySem.W.typeIn K (.ref C) = some (.type "type")) (hs : PySem.W.subIn K (.ref D) (.ref C) = some b) : PySem.W.kitOne K (.ref D) (.ref C) = some b := by
  obtain ⟨cd, hc, _⟩ := PySem.W.any_some hdct
  have e2 : ((PySem.W.clsIn K C).isSome && PySem.W.typeIn K (.ref C) == some (.type "type")) = true := by rw [hc, ht] <;> rfl
  unfold PySem.W.kitOne
  rw [if_neg (by rw [hne]; exact Bool.false_ne_true)]
  show (if ((PySem.W.clsIn K C).isSome && PySem.W.typeIn K (.ref C) == some (.type "type")) = true then PySem.W.subIn K (.ref D) (.ref C) else none) = some b
  rw [if_pos e2]
  exact hs
theorem kit_ve {K : PySem.W.Frag} {D : Addr} (hs : PySem.W.subIn K (.ref D) (.type "ValueError") = some true) : PySem.W.kitOne K (.ref D) (.type "ValueError") = some true := by
  unfold PySem.W.kitOne
  rw [if_neg (by intro z; cases z)]
  show (if PySem.W.kitMeta "ValueError" = true then PySem.W.subIn K (.ref D) (.type "ValueError") else none) = some true
  rw [if_pos (by decide +kernel)]
  exact hs
end Nc

/-! ### ties turned and mirrored -/
namespace Nc
open PySem PySem.Spec PyProof.Rows L2 Evl
/-- the labels, each by steps further on -/
def rotF (L : List Nat) (n : Nat) (b : Int) : Nat → Nat := fun p => lb L ((((p : Nat) : Int) - b) % (n : Int)).toNat
def turnX (t b : Dt) : Except Str Dt := if b.isI = true then .ok (dTie t.many (groupsOf (rotF (leadersM t.many t.grps) t.many (dInt b)) t.many)) else .error "NoPlace"
def okTie (t : Dt) : Prop := ∃ n gs, t = dTie n gs ∧ okLeaders n gs ∧ 1 ≤ n
def sp_turned (mg : Str → Option Value) : Sp := spE mg 2 (fun ds => ∃ t b, ds = [t, b] ∧ okTie t) fun ds => turnX (ds.headD .non) (ds.getD 1 .non)
def sp_mirrored : Sp := spD 1 (fun ds => ∃ t, ds = [t] ∧ okTie t) fun ds => dTie (ds.headD .non).many (groupsOf (fun p => lb (leadersM (ds.headD .non).many (ds.headD .non).grps) ((ds.headD .non).many - 1 - p)) (ds.headD .non).many)
/-- a list made longer, what it says compared -/
def sp_l_own (K : PySem.W.Frag) : Sp := fun vs H Q _ => vs.length = 2 ∧ ∃ (a l : Addr) (vn vL : V) (xs : List V) (n : Dt) (gs : List (List Nat)) (L : List Int), vs = [.ref a, vL] ∧ H a = some (.tup [vn, .ref l]) ∧ H l = some (.lst xs) ∧ RpL (fun b => b ≠ l) H xs (gs.map dGrp) ∧ Rp (fun b => b ≠ l) H vL (dInts L) ∧ L.length ≤ 1000 ∧ gs.length ≤ 1000 ∧
  ∀ H', (∀ b o, b ≠ l → H b = some o → H' b = some o) → (∃ ys, H' l = some (.lst ys)) → Q (.bl (decide (gs = gI L))) H'
theorem fit_gs1 {l : List Dt} (h : ∀ d ∈ l, d.can = true ∧ d.clean = true ∧ d.dep ≤ 1) : (Dt.lst l).fit := by
  obtain ⟨a, b, c⟩ := fit_lst (n := 1) (by decide) h
  exact ⟨a, b, Nat.le_trans c (by decide)⟩
theorem ofI_rot {n : Nat} {b : Int} {p : Nat} (hp : p < n) : ∃ q : Nat, (((p : Nat) : Int) - b) % (n : Int) = (q : Int) ∧ q < n :=
  ⟨((((p : Nat) : Int) - b) % (n : Int)).toNat, by have := Int.emod_nonneg (((p : Nat) : Int) - b) (show (n : Int) ≠ 0 by omega); omega, by have := Int.emod_lt_of_pos (((p : Nat) : Int) - b) (show 0 < (n : Int) by omega); omega⟩
end Nc
namespace Nc
open PySem PySem.Spec PyProof.Rows L2 Evl
section
variable {σ : L2.St} {Hb H : Hp} {F : List Addr} {D : Ends} {te : TE} {tz tu tw : TS} {K : PySem.W.Frag} {n : Nat} {gs : List (List Nat)} {t u : TT}
/-- a tie that is new, its list beside -/
theorem q_setTie {i : Nat} (S : Beside Hb F H) (h : EvN te σ Hb (dTie n gs)) (k : ∀ a l xs Hb' H', H l = none → Ex Hb Hb' → Ex H H' → Beside Hb' (l :: F) H' → Hb' a = some (.tup [.int n, .ref l]) → H' l = some (.lst xs) → RpL Noi Hb' xs (gs.map dGrp) → tz D (σ.set i (some (.ref a))) H') : tSeq (tAsg te (gName i)) tz D σ H :=
  h F H S _ fun v H' e r => by
    obtain ⟨a, xs0, rfl, ha, rs⟩ := r.tupI
    match xs0, rs, ha with
    | [v1, v2], .cons r1 (.cons r2 .nil), ha =>
      cases r1.intI
      obtain ⟨l, xs, rfl, hl, hx, rx⟩ := Rp.lstI r2
      have hlF : l ∉ F := S.new hl
      have hS : Beside (less H' (l :: F)) (l :: F) H' := ⟨less_ex, fun b hb => ⟨less_none hb, by
        rcases List.mem_cons.mp hb with z | hb
        · subst z; exact ⟨xs, hx⟩
        · exact ((S.on e).at_ b hb).2⟩⟩
      have up : ∀ b o, H b = some o → b ∉ F → less H' (l :: F) b = some o := fun b o hb hF => by
        rw [less_some fun z => ?_]
        · exact e b o hb
        · rcases List.mem_cons.mp z with z | z
          · subst z; rw [show H b = none from hl] at hb; cases hb
          · exact hF z
      have notl : ∀ b ys, H' b = some (.tup ys) → b ∉ l :: F := fun b ys hb z => by
        obtain ⟨zs, hz⟩ := (hS.at_ b z).2
        rw [hb] at hz; cases hz
      refine k a l xs (less H' (l :: F)) H' hl (fun b o hb => up b o (S.ex b o hb) (S.out hb)) e hS ?_ hx ?_
      · rw [less_some (notl a _ ha)]; exact ha
      · exact (rx.flat (N' := Noi) (flats_grps gs)).to (fun b ys hN _ => hN.elim) (fun b ys hb => by rw [less_some (notl b _ hb)]; exact hb) fun b kvs hb => by
          rw [less_some fun z => ?_]
          · exact hb
          · obtain ⟨zs, hz⟩ := (hS.at_ b z).2
            rw [hb] at hz; cases hz
/-- a list beside becomes data -/
theorem Beside.rest {l : Addr} (S : Beside Hb (l :: F) H) : Beside (less H F) F H ∧ Ex Hb (less H F) :=
  ⟨⟨less_ex, fun a ha => ⟨less_none ha, (S.at_ a (List.mem_cons_of_mem _ ha)).2⟩⟩, fun a o ha => by
    rw [less_some fun z => S.out ha (List.mem_cons_of_mem _ z)]
    exact S.ex a o ha⟩
theorem or_step {Q : Bool → Hp → Prop} (S : Beside Hb F H) (h : EvT t σ Hb false) (k : ∀ H', Ex H H' → u σ H' Q) : tOr t u σ H Q :=
  h H S.ex _ fun H' e => k H' e
theorem and_step {Q : Bool → Hp → Prop} (S : Beside Hb F H) (h : EvT t σ Hb true) (k : ∀ H', Ex H H' → u σ H' Q) : tAnd t u σ H Q :=
  h H S.ex _ fun H' e => k H' e
theorem q_ifCont {c : TT} (R : Hp → Prop) (h : ∀ Q : Bool → Hp → Prop, (∀ H1, R H1 → Q false H1) → c σ H Q) (k : ∀ H1, R H1 → tz D σ H1) : tSeq (tIfS c tu tNext) tz D σ H := h _ fun H1 r => k H1 r
/-- not own(x, y) -/
theorem own_step {Q : Bool → Hp → Prop} {E : XK} {i j : Nat} {a l : Addr} {xs : List V} {vL : V} {L : List Int} (hv : σ[i]? = some (some (.ref a))) (hv2 : σ[j]? = some (some vL)) (ha : H a = some (.tup [.int n, .ref l])) (hl : H l = some (.lst xs)) (rx : RpL Noi H xs (gs.map dGrp)) (rL : Rp (fun b => b ≠ l) H vL (dInts L)) (h1 : L.length ≤ 1000) (h2 : gs.length ≤ 1000) (he : gs = gI L)
    (k : ∀ H', (∀ b o, b ≠ l → H b = some o → H' b = some o) → (∃ ys, H' l = some (.lst ys)) → Q false H') : tNot (tB (tCall (sp_l_own K) [] E (tCons (tVar i) (tCons (tVar j) tNil)))) σ H Q :=
  ⟨.ref a, hv, vL, hv2, ⟨rfl, a, l, .int n, vL, xs, .int n, gs, L, rfl, ha, hl, rx.wk fun b hb => hb.elim, rL, h1, h2, fun H' e ys => ⟨_, rfl, by rw [decide_eq_true he]; exact k H' e ys⟩⟩⟩
end
end Nc
namespace Nc
open PySem PySem.Spec PyProof.Rows L2 Evl
/-- places moved by steps round the ring differ -/
theorem moved_ne {n p q : Nat} {b : Int} (hp : p < n) (hq : q < n) (hne : p ≠ q) : (((p : Nat) : Int) + b) % (n : Int) ≠ (((q : Nat) : Int) + b) % (n : Int) := by
  intro e
  have h := Int.emod_emod_of_dvd
  have h1 : ((((p : Nat) : Int) + b) - (((q : Nat) : Int) + b)) % (n : Int) = 0 := Int.emod_eq_emod_iff_emod_sub_eq_zero.mp e
  have h2 : (((p : Nat) : Int) + b) - (((q : Nat) : Int) + b) = (p : Int) - (q : Int) := by omega
  rw [h2] at h1
  obtain ⟨k, hk⟩ := Int.dvd_of_emod_eq_zero h1
  have hn : (0 : Int) < n := by omega
  rcases Int.lt_trichotomy k 0 with h | h | h
  · have : (n : Int) * k ≤ (n : Int) * (-1) := Int.mul_le_mul_of_nonneg_left (by omega) (by omega)
    omega
  · rw [h] at hk; omega
  · have : (n : Int) * 1 ≤ (n : Int) * k := Int.mul_le_mul_of_nonneg_left (by omega) (by omega)
    omega
theorem back_at {n q : Nat} {b : Int} (hq : q < n) : ((((((q : Nat) : Int) - b) % (n : Int)).toNat : Nat) + b) % (n : Int) = (q : Int) := by
  have h1 := Int.emod_nonneg (((q : Nat) : Int) - b) (show (n : Int) ≠ 0 by omega)
  rw [Int.toNat_of_nonneg h1, Int.emod_add_emod]
  rw [show ((q : Nat) : Int) - b + b = (q : Int) by omega]
  exact Int.emod_eq_of_lt (by omega) (by omega)
end Nc
namespace Nc
open PySem PySem.Spec PyProof.Rows L2 Evl
theorem fun_or_own {σ : L2.St} {H : Hp} {K : PySem.W.Frag} {n : Nat} {gs : List (List Nat)} {u : TT} {Q : Bool → Hp → Prop} {E : XK} {i j : Nat} {a l : Addr} {xs : List V} {vL : V} {L : List Int} (hv : σ[i]? = some (some (.ref a))) (hv2 : σ[j]? = some (some vL)) (ha : H a = some (.tup [.int n, .ref l])) (hl : H l = some (.lst xs)) (rx : RpL Noi H xs (gs.map dGrp)) (rL : Rp (fun b => b ≠ l) H vL (dInts L)) (h1 : L.length ≤ 1000) (h2 : gs.length ≤ 1000) (he : gs = gI L)
    (k : ∀ H', (∀ b o, b ≠ l → H b = some o → H' b = some o) → (∃ ys, H' l = some (.lst ys)) → u σ H' Q) : tOr (tNot (tB (tCall (sp_l_own K) [] E (tCons (tVar i) (tCons (tVar j) tNil))))) u σ H Q :=
  own_step (K := K) (Q := fun c H1 => if c = true then Q true H1 else u σ H1 Q) hv hv2 ha hl rx rL h1 h2 he fun H' s ys => k H' s ys
end Nc

/-! ### sum of a list of lists, from an empty one -/
namespace PySem
open Sem (wp)
def catFrom (ct : Nat → Array Value) : Nat → Nat → Array Value
  | 0, _ => #[]
  | k + 1, i => ct i ++ catFrom ct k (i + 1)
theorem no_size (h : Heap) : h.get? h.objs.size = none := by
  cases e : h.get? h.objs.size with
  | none => rfl
  | some o => exact absurd (Heap.lt_size e) (Nat.lt_irrefl _)
section
variable {prog : Program} {w : World} {A : Around} {R : Result → Shared → Prop} {I : Addr} {fp wr : List Addr} {n : Nat} {P : Nat → Value → Prop} {St : Nat → Heap → Prop}
theorem codeAny_sum_lists (W : Walks prog w A.in1 I fp wr n P St) (ad : Nat → Addr) (ct : Nat → Array Value) (hval : ∀ i v, P i v → v = .ref (ad i)) (S : Addr) (hSf : S ∉ fp) (hfpE : ∀ i h, St i h → ∀ b ∈ fp, ∃ o, h.get? b = some o) :
    ∀ (k i : Nat) (s : Shared) (T : Addr) (acc : Array Value) (nT c : Nat), n - i = k → i ≤ n → St i s.heap → s.heap.get? S = some { cls := .type "list", dict := none, data := .seq #[.ref T] c, slots := #[] } →
    IsL s.heap T acc nT → T ∉ wr → T ≠ S → (∀ j, j < n → ad j ∉ wr ∧ ad j ≠ S ∧ ∃ m, IsL s.heap (ad j) (ct j) m) → (acc ++ catFrom ct k i).size ≤ sizeLine →
    (∀ h' tk T' m, (∀ b o, b ∉ wr → b ≠ S → s.heap.get? b = some o → h'.get? b = some o) → ((i = n ∧ T' = T) ∨ s.heap.get? T' = none) → IsL h' T' (acc ++ catFrom ct k i) m → R (.ok (.ret (.ref T'))) { s with heap := h', toks := tk }) →
    codeAny (model prog w) A (.builtin "sum.loop" ⟨[.ref I, .ref S, rawInt 2, rawInt 0], []⟩) R s := by
  have hSw : S ∉ wr := fun h => hSf (W.sub _ h)
  intro k
  induction k with
  | zero =>
    intro i s T acc nT c hk hi hst hS hT hTw hTS had hsz hR
    have hin : i = n := by omega
    subst hin
    refine codeAny_builtin F.entry_sum_loop ?_
    rw [Around.under_plainId F.plain_sum_loop _]
    show wpAny _ A.in1 (seqItems? (.ref S) >>= _) _ _ s
    refine wpAny_bind (wpAny_seqItems hS rfl ?_)
    show wpAny _ A.in1 (tryCatch (pyNext (.ref I)) _ >>= _) _ _ s
    refine wpAny_bind (wpAny_tryCatch (W.done s _ _ hst fun h' tk hk' => ?_))
    refine wpAny_pure (hR h' tk T nT (fun b o hbw _ e => hk' b o hbw e) (.inl ⟨rfl, rfl⟩) ?_)
    have e : acc ++ catFrom ct 0 i = acc := by show acc ++ #[] = acc; simp
    rw [e]
    exact hk' T _ hTw hT
  | succ k ih =>
    intro i s T acc nT c hk hi hst hS hT hTw hTS had hsz hR
    have hlt : i < n := by omega
    have ecat : acc ++ catFrom ct (k + 1) i = (acc ++ ct i) ++ catFrom ct k (i + 1) := by show acc ++ (ct i ++ catFrom ct k (i + 1)) = _; rw [Array.append_assoc]
    refine codeAny_builtin F.entry_sum_loop ?_
    rw [Around.under_plainId F.plain_sum_loop _]
    show wpAny _ A.in1 (seqItems? (.ref S) >>= _) _ _ s
    refine wpAny_bind (wpAny_seqItems hS rfl ?_)
    show wpAny _ A.in1 (tryCatch (pyNext (.ref I)) _ >>= _) _ _ s
    refine wpAny_bind (wpAny_tryCatch (W.item i s _ _ hlt hst fun v h' tk hP hst' hk' => ?_))
    obtain rfl := hval i v hP
    have hS' := hk' S _ hSw hS
    have hT' : IsL h' T acc nT := hk' T _ hTw hT
    obtain ⟨hiw, hiS, mi, hLi⟩ := had i hlt
    have hLi' : IsL h' (ad i) (ct i) mi := hk' (ad i) _ hiw hLi
    have hfit : acc.size + (ct i).size ≤ sizeLine := by
      rw [ecat, Array.size_append, Array.size_append] at hsz
      omega
    show wpAny _ A.in1 ((holding [Value.ref (ad i)] (binaryOp .Add (.ref T) (.ref (ad i)))).attempt >>= _) _ _ _
    refine wpAny_bind (wpAny_attempt (wpAny_holding (PySem.P.add_list hT' hLi' ?_ hfit)))
    have hSz : S < h'.objs.size := Heap.lt_size hS'
    have push : ∀ b o, h'.get? b = some o → (h'.push { cls := .type "list", data := .seq (acc ++ ct i) }).get? b = some o := fun b o e => Heap.get?_push_of_some _ e
    have hSp := push _ _ hS'
    show wpAny _ A.in1 (updateSeq S (fun _ => #[.ref h'.objs.size]) >>= _) _ _ _
    refine wpAny_bind ?_
    refine wpAny_updateSeq hSp rfl ?_
    have hS2 := Heap.get?_update_self (Obj.mapSeq fun _ => #[Value.ref h'.objs.size]) hSp rfl
    refine wpAny_bind (wpAny_letGo ?_)
    refine wpAny_bind ?_
    have oth : ∀ b o, b ≠ S → h'.get? b = some o → (((h'.push { cls := .type "list", data := .seq (acc ++ ct i) }).update S (Obj.mapSeq fun _ => #[Value.ref h'.objs.size])).update S (Obj.mapSeq fun _ => #[Value.ref h'.objs.size])).get? b = some o := fun b o hb e => (Heap.get?_update_other _ _ (Ne.symm hb)).trans ((Heap.get?_update_other _ _ (Ne.symm hb)).trans (push b o e))
    have newT : (((h'.push { cls := .type "list", data := .seq (acc ++ ct i) }).update S (Obj.mapSeq fun _ => #[Value.ref h'.objs.size])).update S (Obj.mapSeq fun _ => #[Value.ref h'.objs.size])).get? h'.objs.size = some { cls := .type "list", dict := none, data := .seq (acc ++ ct i) 0, slots := #[] } := (Heap.get?_update_other _ _ (Nat.ne_of_lt hSz)).trans ((Heap.get?_update_other _ _ (Nat.ne_of_lt hSz)).trans (Heap.get?_push_size _ rfl))
    have fpl : ∀ b ∈ fp, b < h'.objs.size := fun b hb => by
      obtain ⟨o, e⟩ := hfpE _ _ hst' b hb
      exact Heap.lt_size e
    refine wpAny_updateSeq hS2 rfl (wpAny_pure ⟨plainId_quiet F.plain_sum_loop _, ih (i + 1) _ h'.objs.size (acc ++ ct i) 0 _ (by omega) hlt (W.frame _ _ _ hst' fun b hb o e => oth b o (fun h => hSf (by rw [← h]; exact hb)) e) (Heap.get?_update_self _ hS2 rfl) newT (fun hm => Nat.lt_irrefl _ (fpl _ (W.sub _ hm))) (Nat.ne_of_gt hSz) (fun j hj => ?_) (by rw [← ecat]; exact hsz) fun h'' tk'' T'' m'' hk'' hfr hL'' => ?_⟩)
    · obtain ⟨g1, g2, m, g3⟩ := had j hj
      exact ⟨g1, g2, m, oth _ _ g2 (hk' _ _ g1 g3)⟩
    · refine hR h'' tk'' T'' m'' (fun b o hbw hbS e => hk'' b o hbw hbS (oth b o hbS (hk' b o hbw e))) (.inr ?_) (by rw [ecat]; exact hL'')
      have key : ∀ b, h'.get? b = none → b ∉ wr → s.heap.get? b = none := fun b hb hbw => by
        cases e : s.heap.get? b with
        | none => rfl
        | some o => rw [hk' b o hbw e] at hb; cases hb
      rcases hfr with ⟨_, rfl⟩ | hfr
      · exact key _ (no_size h') fun hm => Nat.lt_irrefl _ (fpl _ (W.sub _ hm))
      · have hTS2 : T'' ≠ S := fun z => by
          rw [z, Heap.get?_update_self _ hS2 rfl] at hfr; cases hfr
        have h1 : h'.get? T'' = none := by
          cases e : h'.get? T'' with
          | none => rfl
          | some o => rw [oth _ _ hTS2 e] at hfr; cases hfr
        refine key _ h1 fun hm => ?_
        obtain ⟨o, e⟩ := hfpE _ _ hst' _ (W.sub _ hm)
        rw [h1] at e; cases e
end
theorem F.args_sum2 (a b : Value) : argsOk "sum" ⟨[a, b], []⟩ := by unfold argsOk; kernel_rfl
theorem sub_list_str' : isSubtype (.type "list") (.type "str") = pure false := by rw [isSubtype_type]; kernel_rfl
theorem sub_list_bytes' : isSubtype (.type "list") (.type "bytes") = pure false := by rw [isSubtype_type]; kernel_rfl
theorem sub_list_bytearray' : isSubtype (.type "list") (.type "bytearray") = pure false := by rw [isSubtype_type]; kernel_rfl
section
variable {prog : Program} {w : World} {A : Around} {E : Value → Shared → Prop} {s : Shared}
theorem call_sum_lists {l T : Addr} {items : Array Value} {nT : Nat} {Q : Value → Shared → Prop} (hh : A.handled = none) (hl : s.heap.IsList l items) (hT : IsL s.heap T #[] nT) (ad : Nat → Addr) (ct : Nat → Array Value) (hval : ∀ (i : Nat) (v : Value), items[i]? = some v → v = Value.ref (ad i))
    (had : ∀ j, j < items.size → ∃ m, IsL s.heap (ad j) (ct j) m) (hn : 0 < items.size) (hsz : (catFrom ct items.size 0).size ≤ sizeLine)
    (h : ∀ h' tk T' m, (∀ b o, s.heap.get? b = some o → h'.get? b = some o) → s.heap.get? T' = none → IsL h' T' (catFrom ct items.size 0) m → Q (.ref T') { s with heap := h', toks := tk }) :
    wpAny (model prog w) A (call (.builtin "sum") [.ref l, .ref T]) Q E s := by
  refine call_function_tree F.kind_sum F.plain_sum F.entry_sum (F.args_sum2 _ _) ?_
  unfold Builtin.«sum»
  simp only [List.length_cons, List.length_nil]
  rw [if_neg (by decide)]
  refine wpAny_bind (wpAny_of_eq (show Builtin.Builtins.bindParams "sum" ["start"] 0 ⟨[.ref T], []⟩ = pure [some (.ref T)] from rfl) ?_)
  have hlt : l < s.heap.objs.size := by obtain ⟨_, e, _⟩ := hl; exact Heap.lt_size e
  refine wpAny_bind (wpAny_pyIter_list hl ?_)
  generalize hH : s.heap.push { cls := .type "list_iterator", data := .fields #[.ref l, .int 0 0] } = h1
  have push : ∀ b o, s.heap.get? b = some o → h1.get? b = some o := fun b o e => by rw [← hH]; exact Heap.get?_push_of_some _ e
  have hIt : h1.IsListIter s.heap.objs.size l 0 := by rw [← hH]; exact ⟨_, Heap.get?_push_size _ rfl, rfl, rfl⟩
  have hl1 : h1.IsList l items := by rw [← hH]; exact hl.push _
  have hT1 : IsL h1 T #[] nT := push _ _ hT
  refine wpAny_bind (wpAny_pure ?_)
  simp only [List.forIn_cons, List.forIn_nil]
  have ty : ∀ tk, Shared.TypeIs { s with heap := h1, toks := tk } (.ref T) "list" := fun _ => ⟨_, hT1, rfl⟩
  refine wpAny_bind (wpAny_bind (wpAny_bind (wpAny_isInstance (T := "list") (b := false) (ty _) sub_list_str' ?_)))
  simp only [Bool.false_eq_true, if_false]
  refine wpAny_pure (wpAny_bind (wpAny_bind (wpAny_isInstance (T := "list") (b := false) (ty _) sub_list_bytes' ?_)))
  simp only [Bool.false_eq_true, if_false]
  refine wpAny_pure (wpAny_bind (wpAny_bind (wpAny_isInstance (T := "list") (b := false) (ty _) sub_list_bytearray' ?_)))
  simp only [Bool.false_eq_true, if_false]
  refine wpAny_pure (wpAny_pure ?_)
  refine wpAny_bind (wpAny_newObj_type ?_)
  have old : ∀ b o, s.heap.get? b = some o → b ≠ s.heap.objs.size := fun b o e => Nat.ne_of_lt (Heap.lt_size e)
  have hI1 : s.heap.objs.size < h1.objs.size := by obtain ⟨_, e, _⟩ := hIt; exact Heap.lt_size e
  have hl1s : l < h1.objs.size := by obtain ⟨_, e, _⟩ := hl1; exact Heap.lt_size e
  refine wpAny_pure ⟨plainId_quiet F.plain_sum_loop _, codeAny_sum_lists (Walks.list (A := A.in1) hh s.heap.objs.size l (Nat.ne_of_lt hlt) items) ad ct hval h1.objs.size ?_ ?_ items.size 0 _ T #[] nT 0 rfl (Nat.zero_le _) ?_ (Heap.get?_push_size _ rfl) (Heap.get?_push_of_some _ hT1) ?_ (Nat.ne_of_lt (Heap.lt_size hT1)) (fun j hj => ?_) ?_ fun h' tk T' m hk hfr hL => ?_⟩
  · intro hm
    rcases List.mem_cons.mp hm with e | e
    · exact Nat.lt_irrefl _ (show h1.objs.size < h1.objs.size from Eq.mpr (congrArg (· < h1.objs.size) e) hI1)
    · exact Nat.lt_irrefl _ (show h1.objs.size < h1.objs.size from Eq.mpr (congrArg (· < h1.objs.size) (List.mem_singleton.mp e)) hl1s)
  · rintro i hp ⟨⟨o1, e1, _⟩, ⟨o2, e2, _⟩⟩ b hb
    simp at hb
    rcases hb with rfl | rfl
    · exact ⟨_, e1⟩
    · exact ⟨_, e2⟩
  · exact ⟨hIt.at fun o e => Heap.get?_push_of_some _ e, hl1.push _⟩
  · simp; exact old _ _ hT
  · obtain ⟨m, e⟩ := had j hj
    exact ⟨by simp; exact old _ _ e, Nat.ne_of_lt (Heap.lt_size (push _ _ e)), m, Heap.get?_push_of_some _ (push _ _ e)⟩
  · simpa using hsz
  · have e0 : (#[] : Array Value) ++ catFrom ct items.size 0 = catFrom ct items.size 0 := by simp
    rw [e0] at hL
    refine h h' tk T' m (fun b o e => hk b o (by simp; exact old _ _ e) (Nat.ne_of_lt (Heap.lt_size (push _ _ e))) (Heap.get?_push_of_some _ (push _ _ e))) ?_ hL
    rcases hfr with ⟨z, _⟩ | hfr
    · omega
    · cases e : s.heap.get? T' with
      | none => rfl
      | some o => rw [Heap.get?_push_of_some _ (push _ _ e)] at hfr; cases hfr
end
end PySem

namespace Nc
open PySem PySem.Spec PyProof.Rows L2 Evl
/-- sum(a list of lists, []) -/
def rSumL (K : PySem.W.Frag) : List V → Hp → VK → Prop := fun vs H Q => ∃ (a b : Addr) (cs : List Addr) (xss : List (List V)), vs = [.ref a, .ref b] ∧ SqL K H a (cs.map V.ref) ∧ H b = some (.lst []) ∧ cs.length = xss.length ∧ (∀ (i : Nat) (c : Addr), cs[i]? = some c → ∃ xs, xss[i]? = some xs ∧ H c = some (.lst xs)) ∧ 0 < cs.length ∧ xss.flatten.length ≤ sizeLine ∧
  ∀ p, H p = none → Q (.ref p) (upd H p (.lst xss.flatten))
theorem objOk_there {P : Program} {w : World} {H : Hp} {h : Heap} {a : Addr} {o : HO} (x : ObjOk P w H h a o) : ∃ ob, h.get? a = some ob := by
  cases o with
  | lst xs => obtain ⟨_, _, _, _, e⟩ := x; exact ⟨_, e⟩
  | tup xs => obtain ⟨_, _, _, o, e, _⟩ := x; exact ⟨_, e⟩
  | dK kvs => obtain ⟨_, _, _, _, o, _, _, e, _⟩ := x; exact ⟨_, e⟩
  | dT kvs => obtain ⟨_, _, _, _, o, _, _, e, _⟩ := x; exact ⟨_, e⟩
  | set S n => obtain ⟨o, _, _, _, e, _⟩ := x; exact ⟨_, e⟩
  | ins C dx fs => obtain ⟨_, _, _, e, _⟩ := x; exact ⟨_, e⟩
  | own y => exact x
  | xd fs => obtain ⟨_, ⟨_, _, _, e, _⟩, _⟩ := x; exact ⟨_, e⟩
  | rng lo hi => obtain ⟨_, _, _, e⟩ := x; exact ⟨_, e⟩
  | frz ob u => obtain ⟨e, _⟩ := x; exact ⟨_, e⟩
  | tbl ps => exact ⟨_, (show h.get? a = some _ from x)⟩
  | met f y => exact ⟨_, (show h.get? a = some _ from x)⟩
  | ext φ => obtain ⟨_, e, _⟩ := x; exact e
theorem vals_cat {ct : Nat → Array Value} : ∀ (xss : List (List V)) (i : Nat), (∀ j xs, xss[j]? = some xs → Vals xs (ct (i + j)).toList) → Vals xss.flatten (catFrom ct xss.length i).toList
  | [], i, _ => .nil
  | xs :: r, i, h => by
    have h0 := h 0 xs rfl
    rw [List.flatten_cons]
    show Vals _ (ct i ++ catFrom ct r.length (i + 1)).toList
    rw [Array.toList_append]
    refine Vals.append h0 (vals_cat r (i + 1) fun j ys hj => ?_)
    have := h (j + 1) ys hj
    rwa [show i + (j + 1) = i + 1 + j by omega] at this
theorem cr_sumL {X : Cx} (hc : X.calm = true) : CallR X (.builtin "sum") (rSumL X.K) := by
  intro pins s σ H vs us Q I r h
  obtain ⟨a, b, cs, xss, rfl, hs, hb, hlen, hcs, hpos, hsz, q⟩ := h
  obtain ⟨u1, u2, rfl, r1, r2⟩ := vals2 r
  cases (show u1 = Value.ref a from r1)
  cases (show u2 = Value.ref b from r2)
  obtain ⟨its, rv, hl, _⟩ := I.list hs
  obtain ⟨zb, ib, nb, rb, hbl, eb⟩ := I.lstM hb
  have hib : ib = [] := by cases rb; rfl
  subst hib
  have hsize : its.length = cs.length := by rw [← rv.length, List.length_map]
  have hits : ∀ (i : Nat) (v : Value), its.toArray[i]? = some v → ∃ c, cs[i]? = some c ∧ v = Value.ref c := fun i v hv => by
    have hv' : its[i]? = some v := by simpa using hv
    have hi : i < cs.length := by rw [← hsize]; exact (List.getElem?_eq_some_iff.mp hv').1
    refine ⟨cs[i], List.getElem?_eq_getElem hi, ?_⟩
    obtain ⟨u, hu, hr⟩ := rv.get (i := i) (x := V.ref cs[i]) (by rw [List.getElem?_map, List.getElem?_eq_getElem hi]; rfl)
    rw [hv'] at hu
    cases hu
    exact hr
  have hobj : ∀ i, ∃ l : List Value, i < cs.length → ∃ (xs : List V) (m : Nat), xss[i]? = some xs ∧ Vals xs l ∧ IsL s.heap (cs.getD i 0) l.toArray m := fun i => by
    by_cases hi : i < cs.length
    · obtain ⟨xs, hxs, hH⟩ := hcs i cs[i] (List.getElem?_eq_getElem hi)
      obtain ⟨z, l, m, rl, _, e⟩ := I.lstM hH
      refine ⟨l, fun _ => ⟨xs, m, hxs, rl, ?_⟩⟩
      rw [List.getD_eq_getElem?_getD, List.getElem?_eq_getElem hi]
      exact e
    · exact ⟨[], fun h => absurd h hi⟩
  obtain ⟨fl, hfl⟩ := Classical.axiomOfChoice hobj
  have hval : Vals xss.flatten (catFrom (fun i => (fl i).toArray) its.toArray.size 0).toList := by
    rw [show its.toArray.size = xss.length by rw [List.size_toArray, hsize, hlen]]
    refine vals_cat xss 0 fun j xs hj => ?_
    rw [Nat.zero_add]
    have hj' : j < cs.length := by rw [hlen]; exact (List.getElem?_eq_some_iff.mp hj).1
    obtain ⟨xs', m, h1, h2, _⟩ := hfl j hj'
    rw [hj] at h1
    cases h1
    exact h2
  have hsz2 : (catFrom (fun i => (fl i).toArray) its.toArray.size 0).size ≤ sizeLine := by
    have h := hval.length
    rw [← Array.length_toList, ← h]; exact hsz
  refine call_sum_lists (I.ok.hd hc) hl.isList (nT := nb) (by simpa using eb) (fun i => cs.getD i 0) (fun i => (fl i).toArray) (fun i v hv => ?_) (fun j hj => ?_) (by simpa [hsize] using hpos) ?_ fun h' tk T' m hk hfr hL => ?_
  · obtain ⟨c, hc', rfl⟩ := hits i v hv
    show Value.ref c = Value.ref (cs.getD i 0)
    rw [List.getD_eq_getElem?_getD, hc']; rfl
  · have hj' : j < cs.length := by rw [← hsize]; simpa using hj
    obtain ⟨xs, m, _, _, h3⟩ := hfl j hj'
    exact ⟨m, h3⟩
  · exact hsz2
  · have hp : H T' = none := by
      cases e : H T' with
      | none => rfl
      | some o =>
        obtain ⟨ob, e2⟩ := objOk_there (I.hok _ _ e)
        rw [hfr] at e2; cases e2
    exact ⟨.ref T', _, I.laidN (o := .lst xss.flatten) (t' := tk) hk hfr hp ⟨hsz, _, m, hval, hL⟩, rfl, q T' hp⟩
end Nc

/-! ### gaps between places, tied where no group has places in both parts -/
namespace Nc
/-- a is the last place of its group -/
def lastB (L : List Nat) (k : Nat) : Bool := (List.range L.length).all fun j => decide (lb L j = lb L k → j ≤ k)
theorem lastB_iff {L : List Nat} {k : Nat} : lastB L k = true ↔ ∀ j, j < L.length → lb L j = lb L k → j ≤ k := by
  unfold lastB
  simp only [List.all_eq_true, List.mem_range, decide_eq_true_eq]
/-- the least gap that is tied to a gap: within n steps down -/
def btF (L : List Nat) : Nat → Nat → Nat
  | 0, k => k
  | m + 1, k => if lastB L k = true ∧ 0 < lb L k then btF L m (lb L k - 1) else k
def bt (L : List Nat) (k : Nat) : Nat := btF L k k
theorem btF_more {L : List Nat} (h : Lead L) : ∀ (m k : Nat), k < L.length → k ≤ m → btF L m k = btF L k k := by
  have key : ∀ (k : Nat), k < L.length → ∀ m m', k ≤ m → k ≤ m' → btF L m k = btF L m' k := by
    intro k
    induction k using Nat.strongRecOn with
    | ind k ih =>
      intro hk m m' hm hm'
      by_cases c : lastB L k = true ∧ 0 < lb L k
      · have hle := h.le k hk
        cases m with
        | zero => omega
        | succ m =>
          cases m' with
          | zero => omega
          | succ m' =>
            unfold btF
            rw [if_pos c, if_pos c]
            exact ih (lb L k - 1) (by omega) (by omega) m m' (by omega) (by omega)
      · have one : ∀ m, btF L m k = k := fun m => by
          cases m with
          | zero => rfl
          | succ m => unfold btF; rw [if_neg c]
        rw [one, one]
  exact fun m k hk hm => key k hk m k hm (Nat.le_refl _)
theorem bt_step {L : List Nat} (h : Lead L) {k : Nat} (hk : k < L.length) (c : lastB L k = true ∧ 0 < lb L k) : bt L k = bt L (lb L k - 1) := by
  have hle := h.le k hk
  unfold bt
  cases k with
  | zero => omega
  | succ k =>
    conv => lhs; unfold btF
    rw [if_pos c]
    exact btF_more h k _ (by omega) (by omega)
theorem bt_stop {L : List Nat} {k : Nat} (c : ¬ (lastB L k = true ∧ 0 < lb L k)) : bt L k = k := by
  unfold bt
  cases k with
  | zero => rfl
  | succ k => unfold btF; rw [if_neg c]
/-- no group has places in both parts -/
def Whl (f : Nat → Nat) (n j k : Nat) : Prop := ∀ p q, p < n → q < n → f p = f q → j < p → p ≤ k → j < q ∧ q ≤ k
theorem Whl.add {f : Nat → Nat} {n r m k : Nat} (h1 : Whl f n r m) (h2 : Whl f n m k) (hrm : r ≤ m) (hmk : m ≤ k) : Whl f n r k := fun p q hp hq e h3 h4 => by
  rcases Nat.lt_or_ge m p with c | c
  · have := h2 p q hp hq e c h4; omega
  · have := h1 p q hp hq e h3 c; omega
theorem Whl.sub {f : Nat → Nat} {n r j k : Nat} (h1 : Whl f n r j) (h2 : Whl f n r k) (hrj : r ≤ j) : Whl f n j k := fun p q hp hq e h3 h4 => by
  have h5 := h2 p q hp hq e (by omega) h4
  refine ⟨?_, h5.2⟩
  rcases Nat.lt_or_ge j q with c | c
  · exact c
  · have := h1 q p hq hp e.symm h5.1 c; omega
theorem Whl.subR {f : Nat → Nat} {n j m k : Nat} (h1 : Whl f n j k) (h2 : Whl f n m k) (hmk : m ≤ k) : Whl f n j m := fun p q hp hq e h3 h4 => by
  have h5 := h1 p q hp hq e h3 (by omega)
  refine ⟨h5.1, ?_⟩
  rcases Nat.lt_or_ge m q with c | c
  · have := h2 q p hq hp e.symm c h5.2; omega
  · exact c
theorem Whl.refl {f : Nat → Nat} {n k : Nat} : Whl f n k k := fun p q _ _ _ h1 h2 => by omega
theorem whl_group {L : List Nat} (h : Lead L) {k : Nat} (hk : k < L.length) (hl : lastB L k = true) (h0 : 0 < lb L k) : Whl (lb L) L.length (lb L k - 1) k := fun p q hp hq e h3 h4 => by
  have n1 := h.nest k p hk (by omega) h4
  have n2 := h.le q hq
  refine ⟨by omega, ?_⟩
  rcases Nat.lt_or_ge k q with c | c
  · exfalso
    by_cases e2 : lb L q = lb L k
    · have := lastB_iff.mp hl q hq e2; omega
    · have h5 := h.le p hp
      have := h.nest q k hq (by omega) (by omega)
      omega
  · exact c
theorem bt_le {L : List Nat} (h : Lead L) {k : Nat} (hk : k < L.length) : bt L k ≤ k ∧ Whl (lb L) L.length (bt L k) k := by
  induction k using Nat.strongRecOn with
  | ind k ih =>
    by_cases c : lastB L k = true ∧ 0 < lb L k
    · have hle := h.le k hk
      obtain ⟨i1, i2⟩ := ih (lb L k - 1) (by omega) (by omega)
      rw [bt_step h hk c]
      exact ⟨by omega, i2.add (whl_group h hk c.1 c.2) i1 (by omega)⟩
    · rw [bt_stop c]
      exact ⟨Nat.le_refl _, Whl.refl⟩
theorem bt_of_whl {L : List Nat} (h : Lead L) {j k : Nat} (hjk : j ≤ k) (hk : k < L.length) (hw : Whl (lb L) L.length j k) : bt L k = bt L j := by
  induction k using Nat.strongRecOn with
  | ind k ih =>
    rcases Nat.lt_or_eq_of_le hjk with hlt | rfl
    · have hla : lastB L k = true := lastB_iff.mpr fun q hq e => (hw k q hk hq e.symm hlt (Nat.le_refl _)).2
      have hle := h.le k hk
      have hfirst := (hw k (lb L k) hk (by omega) (h.fix k hk).symm hlt (Nat.le_refl _)).1
      have h0 : 0 < lb L k := by omega
      rw [bt_step h hk ⟨hla, h0⟩]
      exact ih (lb L k - 1) (by omega) (by omega) (by omega) (hw.subR (whl_group h hk hla h0) (by omega))
    · rfl
theorem bt_iff {L : List Nat} (h : Lead L) {j k : Nat} (hjk : j ≤ k) (hk : k < L.length) : bt L j = bt L k ↔ Whl (lb L) L.length j k := by
  constructor
  · intro e
    obtain ⟨i1, i2⟩ := bt_le h (show j < L.length by omega)
    obtain ⟨i3, i4⟩ := bt_le h hk
    rw [e] at i1 i2
    exact i2.sub i4 i1
  · exact fun hw => (bt_of_whl h hjk hk hw).symm
theorem bt_idem {L : List Nat} (h : Lead L) {k : Nat} (hk : k < L.length) : bt L (bt L k) = bt L k := by
  obtain ⟨i1, i2⟩ := bt_le h hk
  exact (bt_of_whl h i1 hk i2).symm
/-! marks, as the program sets them -/
def btStep (m : List Nat) (g : List Nat) : List Nat := if 0 < g.headD 0 then m.set (g.getLastD 0) (lb m (g.headD 0 - 1)) else m
def btList (n : Nat) (gs : List (List Nat)) : List Nat := gs.foldl btStep (List.range n)
theorem btStep_len (m g : List Nat) : (btStep m g).length = m.length := by
  unfold btStep
  split
  · rw [List.length_set]
  · rfl
theorem lb_range {n i : Nat} (h : i < n) : lb (List.range n) i = i := by
  unfold lb
  rw [List.getD_eq_getElem?_getD, List.getElem?_range h]; rfl
theorem lb_set {m : List Nat} {i j x : Nat} (hi : i < m.length) : lb (m.set i x) j = if j = i then x else lb m j := by
  unfold lb
  rw [List.getD_eq_getElem?_getD, List.getD_eq_getElem?_getD]
  by_cases h : j = i
  · subst h
    rw [if_pos rfl, List.getElem?_set_self hi]; rfl
  · rw [if_neg h, List.getElem?_set_ne (Ne.symm h)]
theorem lastD_mem : ∀ {g : List Nat}, g ≠ [] → g.getLastD 0 ∈ g
  | [], h => absurd rfl h
  | [a], _ => by show a ∈ [a]; simp
  | a :: b :: r, _ => by
    show (b :: r).getLastD 0 ∈ a :: b :: r
    exact List.mem_cons_of_mem _ (lastD_mem (by simp))
theorem sorted_last {g : List Nat} (hs : g.Pairwise (· < ·)) : ∀ x ∈ g, x ≤ g.getLastD 0 := by
  induction g with
  | nil => intro x hx; cases hx
  | cons a r ih =>
    intro x hx
    cases r with
    | nil =>
      have : x = a := by simpa using hx
      subst this; exact Nat.le_refl _
    | cons b r =>
      have hc := List.pairwise_cons.mp hs
      have e : (a :: b :: r).getLastD 0 = (b :: r).getLastD 0 := rfl
      rw [e]
      have i := ih hc.2
      rcases List.mem_cons.mp hx with rfl | hx
      · have := hc.1 b (by simp)
        have := i b (by simp)
        omega
      · exact i x hx

theorem grp_last {L : List Nat} {k : Nat} (hk : k < L.length) : (grp (lb L) L.length k).getLastD 0 = k ↔ lastB L k = true := by
  have hm : k ∈ grp (lb L) L.length k := mem_grp.mpr ⟨hk, rfl⟩
  constructor
  · intro e
    refine lastB_iff.mpr fun j hj e2 => ?_
    have := sorted_last grp_sorted j (mem_grp.mpr ⟨hj, e2⟩)
    omega
  · intro e
    have h1 := lastD_mem (g := grp (lb L) L.length k) (fun z => by rw [z] at hm; cases hm)
    obtain ⟨h2, h3⟩ := mem_grp.mp h1
    have := lastB_iff.mp e _ h2 h3
    have := sorted_last grp_sorted k hm
    omega
def gUpB (L : List Nat) (i : Nat) : List (List Nat) := ((List.range i).filter (firstB (lb L))).map (grp (lb L) L.length)
theorem gUpB_next (L : List Nat) (i : Nat) : gUpB L (i + 1) = if firstB (lb L) i = true then gUpB L i ++ [grp (lb L) L.length i] else gUpB L i := by
  unfold gUpB
  rw [List.range_succ, List.filter_append, List.map_append]
  by_cases h : firstB (lb L) i = true
  · rw [if_pos h, List.filter_cons, if_pos h]; rfl
  · rw [if_neg h, List.filter_cons, if_neg h]; simp
theorem btList_up {L : List Nat} (h : Lead L) : ∀ i, i ≤ L.length → ((gUpB L i).foldl btStep (List.range L.length)).length = L.length ∧ ∀ k, k < L.length → lb ((gUpB L i).foldl btStep (List.range L.length)) k = if lb L k < i then bt L k else k := by
  intro i
  induction i with
  | zero =>
    intro _
    refine ⟨by simp [gUpB], fun k hk => ?_⟩
    rw [if_neg (Nat.not_lt_zero _)]
    exact lb_range hk
  | succ i ih =>
    intro hi
    obtain ⟨i1, i2⟩ := ih (by omega)
    rw [gUpB_next]
    by_cases hf : firstB (lb L) i = true
    · have hfi : lb L i = i := by
        have := h.first (show i < L.length by omega)
        rw [hf] at this
        exact of_decide_eq_true this.symm
      have hhead : (grp (lb L) L.length i).headD 0 = i := by
        rw [List.headD_eq_head?_getD, grp_head (by omega) hf]; rfl
      rw [if_pos hf, List.foldl_append, List.foldl_cons, List.foldl_nil]
      generalize (gUpB L i).foldl btStep (List.range L.length) = m at i1 i2
      refine ⟨by rw [btStep_len]; exact i1, fun k hk => ?_⟩
      unfold btStep
      rw [hhead]
      have hmem : (grp (lb L) L.length i).getLastD 0 ∈ grp (lb L) L.length i := lastD_mem fun z => by
        have : i ∈ grp (lb L) L.length i := mem_grp.mpr ⟨by omega, rfl⟩
        rw [z] at this; cases this
      obtain ⟨hl1, hl2⟩ := mem_grp.mp hmem
      by_cases hi0 : 0 < i
      · rw [if_pos hi0, lb_set (by rw [i1]; exact hl1)]
        by_cases hkl : k = (grp (lb L) L.length i).getLastD 0
        · have hki : lb L k = i := by rw [hkl, hl2, hfi]
          have hlast : lastB L k = true := by
            rw [← grp_last hk, grp_congr (n := L.length) (show lb L k = lb L i by rw [hki, hfi])]
            exact hkl.symm
          rw [if_pos hkl, if_pos (by omega), i2 (i - 1) (by omega), bt_step h hk ⟨hlast, by omega⟩, hki]
          have := h.le (i - 1) (by omega)
          rw [if_pos (by omega)]
        · rw [if_neg hkl, i2 k hk]
          by_cases c : lb L k < i
          · rw [if_pos c, if_pos (by omega)]
          · rw [if_neg c]
            by_cases c2 : lb L k < i + 1
            · rw [if_pos c2]
              refine (bt_stop fun z => hkl ?_).symm
              have hki : lb L k = i := by omega
              rw [← grp_congr (n := L.length) (show lb L k = lb L i by rw [hki, hfi])]
              exact ((grp_last hk).mpr z.1).symm
            · rw [if_neg c2]
      · rw [if_neg hi0, i2 k hk]
        have e0 : i = 0 := by omega
        subst e0
        rw [if_neg (Nat.not_lt_zero _)]
        by_cases c2 : lb L k < 0 + 1
        · rw [if_pos c2]
          exact (bt_stop fun z => by omega).symm
        · rw [if_neg c2]
    · rw [if_neg hf]
      refine ⟨i1, fun k hk => ?_⟩
      rw [i2 k hk]
      have hne : lb L k ≠ i := fun e => hf (by
        rw [h.first (show i < L.length by omega), decide_eq_true_iff]
        rw [← e]
        exact h.fix k hk)
      by_cases c : lb L k < i
      · rw [if_pos c, if_pos (by omega)]
      · rw [if_neg c, if_neg (by omega)]
theorem btList_is {L : List Nat} (h : Lead L) : (btList L.length (groupsOf (lb L) L.length)).length = L.length ∧ ∀ k, k < L.length → lb (btList L.length (groupsOf (lb L) L.length)) k = bt L k := by
  obtain ⟨h1, h2⟩ := btList_up h L.length (Nat.le_refl _)
  refine ⟨h1, fun k hk => ?_⟩
  have := h2 k hk
  have hle := h.le k hk
  rw [if_pos (by omega)] at this
  exact this
end Nc

/-! ### rules: chains of comparisons, a list written by what it holds, sums of lists -/
namespace Nc
open PySem PySem.Spec PyProof.Rows L2 Evl
section
variable {σ : L2.St} {Hb H : Hp} {F : List Addr} {d e : Dt} {ds es : List Dt} {te ta tb tc tl : TE} {K : PySem.W.Frag} {D : Ends} {tz tu : TS} {g : TG} {t : TT}
/-- a < b < c, whole numbers -/
theorem ed_chain {g1 g2 : Int → Int → Bool} {i j k : Int} (ha : EvD ta σ Hb (.int i)) (hb : EvD tb σ Hb (.int j)) (hc : EvD tc σ Hb (.int k)) : EvD (tChain (rI0 fun i j => .bl (g1 i j)) (rI0 fun i j => .bl (g2 i j)) ta tb tc) σ Hb (.bl (g1 i j && g2 j k)) := edB fun H1 e1 Q q =>
  ha.int H1 e1 _ fun H2 e2 => hb.int H2 (e1.trans e2) _ fun H3 e3 => ⟨i, j, rfl, rfl, g1 i j, rfl, by
    cases h : g1 i j with
    | true =>
      rw [if_pos rfl]
      refine hc.int H3 (e1.trans (e2.trans e3)) _ fun H4 e4 => ⟨j, k, rfl, rfl, ?_⟩
      have := q H4 (e2.trans (e3.trans e4))
      rw [h, Bool.true_and] at this
      exact this
    | false =>
      rw [if_neg Bool.false_ne_true]
      have := q H3 (e2.trans e3)
      rw [h, Bool.false_and] at this
      exact this⟩
/-- l[j] = e, l a list beside, e and j read while l stands -/
theorem s_putV {i : Nat} {l : Addr} {xs : List V} {j : Nat} {v : V} (S : Beside Hb F H) (hF : l ∈ F) (hl : H l = some (.lst xs)) (hv : σ[i]? = some (some (.ref l))) (h : Ev te σ H v) (hj : Ev tb σ H (.int (j : Int))) (hz : j < xs.length)
    (k : ∀ H', Beside Hb F H' → (∀ a o, a ≠ l → H a = some o → H' a = some o) → H' l = some (.lst (xs.set j v)) → D.nx σ H') : tAsg te (gSub (tVar i) tb rSetL) D σ H :=
  h H (Ex.refl H) _ fun H1 e1 => ⟨.ref l, hv, hj H1 e1 _ fun H2 e2 => ⟨l, xs, (j : Int), j, rfl, rfl, (e1.trans e2) l _ hl, ixN_nat hz,
    k _ ((S.on (e1.trans e2)).write hF) (fun a o hne ha => by rw [upd_ne hne]; exact (e1.trans e2) a o ha) upd_same⟩⟩
/-- an item of a list that stands in the heap -/
theorem ev_at {i : Nat} {l : Addr} {xs : List V} {j : Nat} {v : V} (hl : H l = some (.lst xs)) (hv : σ[i]? = some (some (.ref l))) (hj : Ev tb σ H (.int (j : Int))) (hx : xs[j]? = some v) : Ev (tOp (rIxL K) (tVar i) tb) σ H v := fun H1 e1 Q q =>
  ⟨.ref l, hv, hj H1 e1 _ fun H2 e2 => ⟨l, xs, (j : Int), v, rfl, rfl, sq_of ((e1.trans e2) l _ hl), atI_nat hx, q H2 e2⟩⟩
/-- sum of a list of lists, [] -/
theorem ef_sumL {dss : List (List Dt)} (ha : EvD ta σ Hb (.lst (dss.map Dt.lst))) (h0 : dss ≠ []) (hz : dss.flatten.length ≤ 100000) : EvF (tCB (rSumL K) (tCons ta (tCons (tLst tNil) tNil))) σ Hb dss.flatten := fun F H S Q q =>
  ha.thn S fun x H2 e2 S2 rx => by
    obtain ⟨a, xs, rfl, _, hx, rs⟩ := rx.lstI
    refine ⟨by decide, fun p hp => ?_⟩
    have ep : Ex H2 (upd H2 p (.lst [])) := Ex.new hp
    -- the addresses of the items
    have key : ∀ (xs : List V) (dss : List (List Dt)), RpL Any (less H2 F) xs (dss.map Dt.lst) → ∃ (cs : List Addr) (xss : List (List V)), xs = cs.map V.ref ∧ cs.length = xss.length ∧ (∀ (i : Nat) (c : Addr), cs[i]? = some c → ∃ ys, xss[i]? = some ys ∧ H2 c = some (.lst ys)) ∧ RpL Any (less H2 F) xss.flatten dss.flatten ∧ cs.length = dss.length := by
      intro xs
      induction xs with
      | nil =>
        intro dss r
        cases dss with
        | nil => exact ⟨[], [], rfl, rfl, fun i c h => by simp at h, .nil, rfl⟩
        | cons ds dss => cases r
      | cons x xs ih =>
        intro dss r
        cases dss with
        | nil => cases r
        | cons ds dss =>
          cases r with
          | cons r1 r2 =>
            obtain ⟨cs, xss, rfl, h2, h3, h4, h5⟩ := ih dss r2
            obtain ⟨c, ys, rfl, _, hc, ry⟩ := Rp.lstI r1
            refine ⟨c :: cs, ys :: xss, rfl, by simp [h2], fun i c' hi => ?_, ?_, by simp [h5]⟩
            · cases i with
              | zero => cases hi; exact ⟨ys, rfl, less_ex _ _ hc⟩
              | succ i => exact h3 i c' (by simpa using hi)
            · rw [List.flatten_cons, List.flatten_cons]
              exact ry.append h4
    obtain ⟨cs, xss, rfl, h2, h3, h4, h5⟩ := key xs dss rs
    refine ⟨a, p, cs, xss, rfl, sq_of (ep _ _ (less_ex _ _ hx)), upd_same, h2, fun i c hi => ?_, ?_, sz_of (by rw [h4.length]; exact hz), ef_mk S (e2.trans ep) (h4.mono ?_) q⟩
    · obtain ⟨ys, g1, g2⟩ := h3 i c hi
      exact ⟨ys, g1, ep _ _ g2⟩
    · rw [h5]
      exact List.length_pos_iff.mpr h0
    · exact less_mono ep
theorem atI_neg1 {α : Type} {xs : List α} {v : α} (h : xs.getLast? = some v) : atI xs (-1) = some v := by
  obtain ⟨ys, rfl⟩ := List.getLast?_eq_some_iff.mp h
  exact atI_last ys v
end
theorem last_get : ∀ {g : List Nat}, g ≠ [] → g.getLast? = some (g.getLastD 0)
  | [], h => absurd rfl h
  | [a], _ => rfl
  | a :: b :: r, _ => by
    show (a :: b :: r).getLast? = some ((b :: r).getLastD 0)
    rw [List.getLast?_cons_cons]
    exact last_get (by simp)
def sp_between : Sp := spD 1 (fun ds => ∃ t, ds = [t] ∧ okTie t) fun ds => dTie (ds.headD .non).many (groupsOf (lb (btList (ds.headD .non).many (ds.headD .non).grps)) (ds.headD .non).many)
/-! numbers of groups, place by place -/
def setAllI (a : List Int) (g : List Nat) (h : Int) : List Int := g.foldl (fun a p => a.set p h) a
theorem setAllI_length : ∀ (g : List Nat) (a : List Int) (h : Int), (setAllI a g h).length = a.length
  | [], _, _ => rfl
  | p :: g, a, h => by
    show (setAllI (a.set p h) g h).length = a.length
    rw [setAllI_length g, List.length_set]
theorem setAllI_out : ∀ (g : List Nat) (a : List Int) (h : Int) (p : Nat), p ∉ g → (setAllI a g h)[p]? = a[p]?
  | [], _, _, _, _ => rfl
  | q :: g, a, h, p, hp => by
    show (setAllI (a.set q h) g h)[p]? = a[p]?
    simp only [List.mem_cons, not_or] at hp
    rw [setAllI_out g _ h p hp.2, List.getElem?_set_ne (Ne.symm hp.1)]
theorem setAllI_in : ∀ (g : List Nat) (a : List Int) (h : Int) (p : Nat), p ∈ g → p < a.length → (setAllI a g h)[p]? = some h
  | [], _, _, _, hp, _ => by simp at hp
  | q :: g, a, h, p, hp, hl => by
    show (setAllI (a.set q h) g h)[p]? = some h
    by_cases c : p ∈ g
    · exact setAllI_in g _ h p c (by rw [List.length_set]; exact hl)
    · rw [setAllI_out g _ h p c]
      rcases List.mem_cons.mp hp with e | e
      · rw [e, List.getElem?_set_self (by rw [← e]; exact hl)]
      · exact absurd e c
theorem nodup_at {α : Type} {l : List α} (h : l.Nodup) {i j : Nat} {x : α} (hi : l[i]? = some x) (hj : l[j]? = some x) : i = j := by
  obtain ⟨h1, e1⟩ := List.getElem?_eq_some_iff.mp hi
  obtain ⟨h2, e2⟩ := List.getElem?_eq_some_iff.mp hj
  rcases Nat.lt_trichotomy i j with c | c | c
  · exact absurd (e1.trans e2.symm) (List.pairwise_iff_getElem.mp h i j h1 h2 c)
  · exact c
  · exact absurd (e2.trans e1.symm) (List.pairwise_iff_getElem.mp h j i h2 h1 c)
def flatUp (n : Nat) (gs : List (List Nat)) : Nat → List Int
  | 0 => List.replicate n (-1)
  | i + 1 => setAllI (flatUp n gs i) (gs.getD i []) (i : Int)
def flatI (n : Nat) (gs : List (List Nat)) : List Int := flatUp n gs gs.length
theorem flatUp_length (n : Nat) (gs : List (List Nat)) : ∀ i, (flatUp n gs i).length = n
  | 0 => by show (List.replicate n (-1 : Int)).length = n; simp
  | i + 1 => by show (setAllI _ _ _).length = n; rw [setAllI_length]; exact flatUp_length n gs i
theorem flat_num {α : Type} [DecidableEq α] {f : Nat → α} {n : Nat} : ∀ i, i ≤ (groupsOf f n).length → ∀ p, p < n → ∀ (j : Nat) (g : List Nat), j < i → (groupsOf f n)[j]? = some g → p ∈ g → (flatUp n (groupsOf f n) i)[p]? = some (j : Int) := by
  intro i
  induction i with
  | zero => intro _ p _ j g hj; exact absurd hj (Nat.not_lt_zero _)
  | succ i ih =>
    intro hi p hp j g hj hg hpg
    have hgi : (groupsOf f n)[i]? = some ((groupsOf f n).getD i []) := by
      rw [List.getD_eq_getElem?_getD, List.getElem?_eq_getElem (show i < (groupsOf f n).length by omega)]; rfl
    show (setAllI (flatUp n (groupsOf f n) i) ((groupsOf f n).getD i []) (i : Int))[p]? = _
    by_cases hji : j = i
    · subst hji
      rw [hgi] at hg
      have e : (groupsOf f n).getD j [] = g := Option.some.inj hg
      rw [e]
      exact setAllI_in g _ _ p hpg (by rw [flatUp_length]; exact hp)
    · have hno : p ∉ (groupsOf f n).getD i [] := fun z => by
        have h1 := group_at (List.mem_of_getElem? hgi) z
        have h2 := group_at (List.mem_of_getElem? hg) hpg
        rw [h1] at hgi
        rw [h2] at hg
        exact hji (nodup_at groups_nd hg hgi)
      rw [setAllI_out _ _ _ p hno]
      exact ih (by omega) p hp j g (by omega) hg hpg
/-- the numbers of the groups tie the same places -/
theorem flat_alike {α : Type} [DecidableEq α] {f : Nat → α} {n i j : Nat} (hi : i < n) (hj : j < n) : li (flatI n (groupsOf f n)) i = li (flatI n (groupsOf f n)) j ↔ f i = f j := by
  have at_ : ∀ p, p < n → ∃ (k : Nat), (groupsOf f n)[k]? = some (grp f n p) ∧ li (flatI n (groupsOf f n)) p = (k : Int) := fun p hp => by
    obtain ⟨k, hk⟩ := List.mem_iff_getElem?.mp (grp_mem (f := f) hp)
    refine ⟨k, hk, ?_⟩
    have := flat_num (f := f) (n := n) (groupsOf f n).length (Nat.le_refl _) p hp k _ (List.getElem?_eq_some_iff.mp hk).1 hk (mem_grp.mpr ⟨hp, rfl⟩)
    unfold li flatI
    rw [List.getD_eq_getElem?_getD, this]; rfl
  obtain ⟨k1, h1, e1⟩ := at_ i hi
  obtain ⟨k2, h2, e2⟩ := at_ j hj
  rw [e1, e2, Int.ofNat_inj]
  constructor
  · rintro rfl
    rw [h1] at h2
    exact (grp_eq_iff hi).mp (Option.some.inj h2)
  · intro e
    rw [grp_congr (n := n) e] at h1
    exact nodup_at groups_nd h1 h2
theorem gI_flat {α : Type} [DecidableEq α] {f : Nat → α} {n : Nat} : gI (flatI n (groupsOf f n)) = groupsOf f n := by
  unfold gI
  rw [show (flatI n (groupsOf f n)).length = n from flatUp_length _ _ _]
  exact groups_congr fun i j hi hj => flat_alike hi hj
/-- a tie that is handed in, its groups of some labels -/
def sp_l_flat : Sp := spD 1 (fun ds => ∃ (n : Nat) (gs : List (List Nat)), ds = [dTie n gs] ∧ n ≤ 1000 ∧ gs.length ≤ 1000 ∧ ∀ g ∈ gs, ∀ p ∈ g, p < n) fun ds => dInts (flatI (ds.headD .non).many (ds.headD .non).grps)
/-! places within -/
def within (g : List Nat) (lo hi : Nat) : Nat := (g.filter fun p => decide (lo < p) && decide (p ≤ hi)).length
def partB (gs : List (List Nat)) (lo hi : Nat) : Bool := gs.any fun g => decide (0 < within g lo hi) && decide (within g lo hi < g.length)
theorem within_le (g : List Nat) (lo hi : Nat) : within g lo hi ≤ g.length := List.length_filter_le _ _
theorem partB_iff {f : Nat → Nat} {n lo hi : Nat} : partB ((groupsOf f n).filter fun g => decide (1 < g.length)) lo hi = false ↔ Whl f n lo hi := by
  unfold partB
  rw [List.any_eq_false]
  constructor
  · intro h p q hp hq e h1 h2
    have hg := grp_mem (f := f) (n := n) hp
    have hpg : p ∈ grp f n p := mem_grp.mpr ⟨hp, rfl⟩
    have hqg : q ∈ grp f n p := mem_grp.mpr ⟨hq, e.symm⟩
    by_cases hpq : p = q
    · subst hpq; exact ⟨h1, h2⟩
    have hlen : 1 < (grp f n p).length := by
      rcases Nat.lt_or_ge 1 (grp f n p).length with c | c
      · exact c
      · exfalso
        generalize grp f n p = g at c hpg hqg
        match g, c, hpg, hqg with
        | [x], _, hpg, hqg =>
          have h1 : p = x := by simpa using hpg
          have h2 : q = x := by simpa using hqg
          exact hpq (h1.trans h2.symm)
    have := h _ (List.mem_filter.mpr ⟨hg, decide_eq_true hlen⟩)
    rw [Bool.and_eq_true, decide_eq_true_iff, decide_eq_true_iff] at this
    have hpos : 0 < within (grp f n p) lo hi := by
      unfold within
      refine List.length_pos_iff.mpr fun z => ?_
      have : p ∈ (grp f n p).filter fun p => decide (lo < p) && decide (p ≤ hi) := List.mem_filter.mpr ⟨hpg, by simp [h1, h2]⟩
      rw [z] at this; cases this
    have hall : within (grp f n p) lo hi = (grp f n p).length := by
      have := within_le (grp f n p) lo hi
      omega
    unfold within at hall
    have := List.length_filter_eq_length_iff.mp hall q hqg
    simpa using this
  · intro hw g hg z
    rw [List.mem_filter] at hg
    rw [Bool.and_eq_true, decide_eq_true_iff, decide_eq_true_iff] at z
    obtain ⟨i, hi1, _, rfl⟩ := mem_groups.mp hg.1
    obtain ⟨p, hp⟩ := List.exists_mem_of_length_pos z.1
    rw [List.mem_filter] at hp
    have hpc : lo < p ∧ p ≤ hi := by simpa using hp.2
    have hpm := mem_grp.mp hp.1
    have : within (grp f n i) lo hi = (grp f n i).length := by
      unfold within
      rw [List.length_filter_eq_length_iff]
      intro q hq
      have hqm := mem_grp.mp hq
      have := hw p q hpm.1 hqm.1 (hpm.2.trans hqm.2.symm) hpc.1 hpc.2
      simp [this]
    omega
def sp_l_parted : Sp := spD 3 (fun ds => ∃ (gs : List (List Nat)) (lo hi : Nat), ds = [dGrps gs, .int lo, .int hi] ∧ gs.length ≤ 1000 ∧ ∀ g ∈ gs, g.length ≤ 1000) fun ds => match ds with
  | [.lst gs, .int lo, .int hi] => .bl (partB (gs.map Dt.grpN) lo.toNat hi.toNat)
  | _ => .non
def isSome_ (hi : Nat) (e : Dt) : Prop := ∃ ls : List Nat, e = dNats ls ∧ (∀ x ∈ ls, x < hi) ∧ ls.length ≤ hi
def sp_l_some : Sp := spR 2 (fun ds => ∃ hi n : Nat, ds = [.int hi, .int n] ∧ hi ≤ 60 ∧ n ≤ 60) fun ds e => isSome_ (dInt (ds.headD .non)).toNat e
/-- gaps that are tied as they are to be -/
def sp_l_good : Sp := spD 3 (fun ds => ∃ (n : Nat) (f h : Nat → Nat), ds = [dTie n (groupsOf f n), .int n, dGrps (groupsOf h n)] ∧ 1 ≤ n ∧ n ≤ 60 ∧ ∀ lo hi, lo < hi → hi < n → (f lo = f hi ↔ Whl h n lo hi)) fun _ => .bl true
end Nc
namespace Nc
open PySem PySem.Spec PyProof.Rows L2 Evl
section
variable {σ : L2.St} {Hb H : Hp} {F : List Addr} {K : PySem.W.Frag} {D : Ends} {tz tu : TS} {g : TG} {tl tb : TE} {n : Nat} {gs : List (List Nat)}
/-- a for over a new list of which something is known -/
theorem s_forRel {R : Dt → Prop} (S : Beside Hb F H) (h : EvR tl σ Hb R) (hR : ∀ e, R e → ∃ ds, e = .lst ds)
    (k : ∀ ds Hb1 H1, R (.lst ds) → Ex Hb Hb1 → Ex H H1 → Beside Hb1 F H1 → ∃ Pv : Nat → L2.St → Hp → Prop, Pv 0 σ H1 ∧ (∀ i σ' H', Pv i σ' H' → Ex Hb1 H') ∧
      (∀ i d v σ' H', ds[i]? = some d → Rp Any Hb1 v d → Pv i σ' H' → g v σ' H' fun σ2 H2 => tu { D with nx := Pv (i + 1), ct := Pv (i + 1), bk := D.nx } σ2 H2) ∧ (∀ σ' H', Pv ds.length σ' H' → D.nx σ' H')) : tFor (iList K tl) g tu D σ H :=
  h F H S _ fun e v H1 re e1 r => by
    obtain ⟨ds, rfl⟩ := hR e re
    have r2 : Rp Any (less H1 F) v (.lst ds) := S.fresh e1 r
    obtain ⟨a, xs, rfl, _, hx, rs⟩ := r2.lstI
    obtain ⟨Pv, h0, hb, hs, hd⟩ := k ds (less H1 F) H1 re (S.lessEx e1) e1 (S.on e1).sep
    refine ⟨a, rfl, ⟨xs, sq_of (less_ex a _ hx)⟩, for_list (xs := xs) Pv h0 (fun i σ' H' _ p => sq_of (hb i σ' H' p a _ hx)) (fun i x σ' H' hi p => ?_) (fun σ' H' p => hd σ' H' (by rw [rs.length] at p; exact p))⟩
    obtain ⟨d, h1, h2⟩ := rs.getV hi
    exact hs i d x σ' H' h1 h2 p
/-- own(x, y) and .. -/
theorem and_own {Q : VK} {E : XK} {i j : Nat} {a l : Addr} {xs : List V} {vL : V} {L : List Int} (hv : σ[i]? = some (some (.ref a))) (hv2 : σ[j]? = some (some vL)) (ha : H a = some (.tup [.int n, .ref l])) (hl : H l = some (.lst xs)) (rx : RpL Noi H xs (gs.map dGrp)) (rL : Rp (fun b => b ≠ l) H vL (dInts L)) (h1 : L.length ≤ 1000) (h2 : gs.length ≤ 1000) (he : gs = gI L)
    (k : ∀ H', (∀ b o, b ≠ l → H b = some o → H' b = some o) → (∃ ys, H' l = some (.lst ys)) → tb σ H' Q) : tAndV (tCall (sp_l_own K) [] E (tCons (tVar i) (tCons (tVar j) tNil))) tb σ H Q :=
  ⟨.ref a, hv, vL, hv2, ⟨rfl, a, l, .int n, vL, xs, .int n, gs, L, rfl, ha, hl, rx.wk fun b hb => hb.elim, rL, h1, h2, fun H' e ys => ⟨_, rfl, by rw [decide_eq_true he]; exact k H' e ys⟩⟩⟩
end
end Nc

/-! ### numbers of ties -/
namespace Nc
open PySem PySem.Spec PyProof.Rows L2 Evl
def rComb : List V → Hp → VK → Prop := fun vs H Q => ∃ a b : Int, vs = [.int a, .int b] ∧ 0 ≤ a ∧ 0 ≤ b ∧ a ≤ 1000 ∧ Q (.int (PySem.W.mcComb a b)) H
theorem cr_comb {X : Cx} : CallR X (.builtin "math.comb") rComb := by
  intro pins s σ H vs us Q I r h
  obtain ⟨a, b, rfl, h1, h2, h3, q⟩ := h
  obtain ⟨t, u, rfl⟩ := Vals.int2 r
  exact PySem.W.mc_comb h1 h2 (by omega) (.inr (by omega)) fun _ => ⟨.int _, H, I.tok _, ⟨_, rfl⟩, q⟩
/-- the ways to go on by l places behind a pile of d groups -/
def endI (l d : Nat) : Int := ((d : Int) + 1) * PySem.W.mcComb (2 * (l : Int) + d) l / ((l : Int) + d + 1)
def catI (n : Nat) : Int := endI n 0
def rowI (n g : Nat) : Int := PySem.W.mcComb n g * PySem.W.mcComb n ((g : Int) - 1) / n
def byI (n : Nat) (g : Int) : Int := if g < 1 ∨ g > n then 0 else rowI n g.toNat
section
variable {σ : L2.St} {Hb H : Hp} {F : List Addr} {te ta tb : TE} {K : PySem.W.Frag} {ds : List Dt}
theorem ed_comb {a b : Int} (ha : EvD ta σ Hb (.int a)) (hb : EvD tb σ Hb (.int b)) (h1 : 0 ≤ a) (h2 : 0 ≤ b) (h3 : a ≤ 1000) : EvD (tCB rComb (tCons ta (tCons tb tNil))) σ Hb (.int (PySem.W.mcComb a b)) := fun F H S Q q =>
  ha.thn S fun x H2 e2 S2 rx => hb.thn S2 fun y H3 e3 S3 ry => by
    rw [rx.intI, ry.intI]
    exact ⟨a, b, rfl, h1, h2, h3, q _ H3 (e2.trans e3) (.int _)⟩
theorem ed_sum {L : List Int} (ha : EvD ta σ Hb (dInts L)) : EvD (tCB (rSum K) (tCons ta tNil)) σ Hb (.int L.sum) := fun F H S Q q =>
  ha.thn S fun x H2 e2 S2 rx => by
    obtain ⟨a, xs, rfl, _, hx, rs⟩ := Rp.lstI rx
    have ex := rs.ofInts
    subst ex
    exact ⟨a, L, rfl, sq_of (less_ex a _ hx), q _ H2 e2 (.int _)⟩
theorem ef_revL (ha : EvD ta σ Hb (.lst ds)) : EvF (tRevL K ta) σ Hb ds.reverse := fun F H S Q q =>
  ha.thn S fun x H2 e2 S2 rx => by
    obtain ⟨a, xs, rfl, _, hx, rs⟩ := rx.lstI
    exact ⟨a, xs, rfl, sq_of (less_ex a _ hx), fun p hp => ef_mk S e2 rs.rev q p hp⟩
/-- over range(lo, hi) -/
theorem ef_lcR2 {t : TT} {ar : TA} {j : Nat} {vs : List Nat} {lo n : Nat} (f : Nat → Bool) (g : Nat → Dt) (h : EvDs ar σ Hb [.int (lo : Int), .int ((lo + n : Nat) : Int)]) (hn : n ≤ 40000) (hlo : lo ≤ 40000) (hw : ∀ x, wipe ((wipe σ vs).set j (some x)) vs = wipe σ vs)
    (ht : ∀ (i : Nat) H1, Ex Hb H1 → i < n → EvT t ((wipe σ vs).set j (some (.int ((lo + i : Nat) : Int)))) H1 (f i)) (he : ∀ (i : Nat) H1, Ex Hb H1 → i < n → f i = true → EvD te ((wipe σ vs).set j (some (.int ((lo + i : Nat) : Int)))) H1 (g i)) :
    EvF (tLc (iRng2 ar) (gName j) t te vs) σ Hb (stepsD n f g) := fun F H S Q q => h F H S _ fun ws H1 e1 r => by
  cases r with
  | cons r r' =>
    cases r' with
    | cons r2 r' =>
      cases r'
      cases r
      cases r2
      have en : (((lo + n : Nat) : Int) - (lo : Int)).toNat = n := by omega
      refine ⟨(lo : Int), ((lo + n : Nat) : Int), rfl, ⟨by omega, by omega, by omega, by omega⟩, fun Dl hD => ?_⟩
      refine lc_range (lo := (lo : Int)) (n := (((lo + n : Nat) : Int) - (lo : Int)).toNat) (fun i H' => Cd Hb F H1 Dl (stepsD i f g) H') (cd_start hD) (fun i H' hi p => ?_) (fun H' p => ?_)
      · have e0 : (lo : Int) + (i : Int) = ((lo + i : Nat) : Int) := by omega
        rw [e0]
        refine ⟨hw _, ?_⟩
        have S1 := S.on e1
        have eb : Ex Hb (less H' (Dl :: F)) := fun a o ha => by
          have h1 := p.2.1 a o (S1.ex a o ha)
          have ne : a ≠ Dl := ne_of_none (S1.ex a o ha) hD
          rw [less_some (by simp [ne, S1.out ha])]
          rw [less_some (by simpa using ne)] at h1
          exact h1
        refine cd_turn (R := Cd Hb F H1 Dl (stepsD (i + 1) f g)) p S1 (by have := stepsD_len i f g; omega) (ht i _ eb (by omega)) (fun hf => he i _ eb (by omega) hf) (fun H2 c => ?_)
        rw [stepsD_next]; exact c
      · obtain ⟨_, eb, xs, hx, r⟩ := p
        rw [en] at r
        exact q Dl xs H' (fresh_back e1 hD) (e1.trans (eb.trans less_ex)) hx r
end
/-! promises -/
def sp__endings : Sp := spD 2 (fun ds => ∃ l d : Nat, ds = [.int l, .int d] ∧ l ≤ 200 ∧ d ≤ 200) fun ds => .int (endI (dInt (ds.headD .non)).toNat (dInt (ds.getD 1 .non)).toNat)
def cntdX (c : Dt) : Except Str Dt := match cntOk c with
  | some n => .ok (.int (catI n))
  | none => .error "BadCount"
def byX (c g : Dt) : Except Str Dt := match cntOk c with
  | some n => if g.isI = true then .ok (.int (byI n (dInt g))) else .error "BadCount"
  | none => .error "BadCount"
def sp_counted (mg : Str → Option Value) : Sp := spE mg 1 (fun ds => ∃ c, ds = [c]) fun ds => cntdX (ds.headD .non)
def sp_counted_by (mg : Str → Option Value) : Sp := spE mg 2 (fun ds => ∃ c g, ds = [c, g]) fun ds => byX (ds.headD .non) (ds.getD 1 .non)
theorem cntOk_int {n : Nat} (h1 : 1 ≤ n) (h2 : n ≤ 60) : cntOk (.int (n : Nat)) = some n := by
  show (if 1 ≤ ((n : Nat) : Int) ∧ ((n : Nat) : Int) ≤ 60 then some ((n : Nat) : Int).toNat else none) = some n
  rw [if_pos ⟨by omega, by omega⟩]; rfl
theorem cntOk_some {d : Dt} {n : Nat} (hc : cntOk d = some n) : d = .int (n : Nat) ∧ 1 ≤ n ∧ n ≤ 60 := by
  unfold cntOk at hc
  split at hc
  · split at hc
    · rename_i i hi
      cases hc
      exact ⟨by rw [Int.toNat_of_nonneg (by omega)], by omega, by omega⟩
    · cases hc
  · cases hc
end Nc
namespace Nc
open PySem PySem.Spec PyProof.Rows L2 Evl
theorem q_forR2 {σ : L2.St} {Hb H : Hp} {F : List Addr} {D : Ends} {tz tu : TS} {ar : TA} {j lo hi : Nat} (S : Beside Hb F H) (h : EvDs ar σ Hb [.int (lo : Int), .int (hi : Int)]) (hn : lo ≤ 100000 ∧ hi ≤ 100000) (Pv : Nat → L2.St → Hp → Prop) (h0 : ∀ H1, Ex H H1 → Pv 0 σ H1)
    (hs : ∀ (i : Nat) σ' H', i < hi - lo → Pv i σ' H' → tu { D with nx := Pv (i + 1), ct := Pv (i + 1), bk := tz D } (σ'.set j (some (.int ((lo + i : Nat) : Int)))) H') (hd : ∀ σ' H', Pv (hi - lo) σ' H' → tz D σ' H') : tSeq (tFor (iRng2 ar) (gName j) tu) tz D σ H := s_forR2 (D := { D with nx := tz D }) S h hn Pv h0 hs hd
end Nc

/-! ### what is so of the numbers up to 60 -/
namespace Nc
open PySem PySem.Spec PyProof.Rows L2 Evl
theorem cat_rec : ∀ c : Fin 60, ((List.range (c.val + 1)).map fun k => catI k * catI (c.val - k)).sum = catI (c.val + 1) ∧ ∀ k : Fin (c.val + 1), catI k < 2 ^ 64 ∨ catI (c.val - k.val) < 2 ^ 64 := by decide +kernel
theorem cat_pos : ∀ c : Fin 61, 0 ≤ catI c.val := by decide +kernel
theorem row_facts : ∀ n : Fin 60, (∀ g : Fin (n.val + 1), 1 ≤ rowI (n.val + 1) (g.val + 1) ∧ rowI (n.val + 1) (g.val + 1) = rowI (n.val + 1) (n.val + 1 - g.val)) ∧ ((List.range (n.val + 1)).map fun g => rowI (n.val + 1) (g + 1)).sum = catI (n.val + 1) ∧ rowI (n.val + 1) 1 = 1 ∧ (n.val = 0 ∨ rowI (n.val + 1) 2 = ((n.val : Int) + 1) * (n.val : Int) / 2) ∧
    ∀ g : Fin n.val, rowI (n.val + 1) (g.val + 2) * ((g.val : Int) + 2) * ((g.val : Int) + 1) = rowI (n.val + 1) (g.val + 1) * ((n.val : Int) + 1 - ((g.val : Int) + 2) + 1) * ((n.val : Int) + 1 - ((g.val : Int) + 2) + 2) := by decide +kernel
theorem comb_small : ∀ n : Fin 61, ∀ g : Fin 61, 0 ≤ PySem.W.mcComb n.val g.val ∧ PySem.W.mcComb n.val g.val < 2 ^ 64 := by decide +kernel
end Nc

namespace Nc
open PySem PySem.Spec PyProof.Rows L2 Evl
/-! ### a def's table of code objects, whatever it holds: known in H all along -/
def Tbl (P : Addr) (h : Heap) : Prop := ∃ ps : Array Value, h.get? P = some { cls := .none, data := .fields ps } ∧ TriplesOk ps.toList
def tblO (P : Addr) : HO := .ext (Tbl P)
theorem tbl_ok {prog : Program} {w : World} {H : Hp} {h : Heap} {P : Addr} (t : Tbl P h) : ObjOk prog w H h P (tblO P) :=
  ⟨t, ⟨_, t.choose_spec.1⟩, fun _ _ ⟨ps, e, q⟩ k => ⟨ps, k _ e, q⟩⟩
section
variable {X : Cx} {pins : List (Addr × Obj)} {σ : L2.St} {H : Hp} {s s' : Shared} {P c : Addr}
theorem tbl_of (I : Inv X pins σ H s) (hP : H P = some (tblO P)) : Tbl P s.heap := (I.hok P _ hP).1
/-- nothing but the table has changed -/
theorem inv_grown (I : Inv X pins σ H s) (hP : H P = some (tblO P)) (ho : s'.os = s.os) (k : ∀ b o, b ≠ P → s.heap.get? b = some o → s'.heap.get? b = some o) (t : Tbl P s'.heap) (hg : AllBare s'.gens) : Inv X pins σ H s' := by
  have ne : ∀ b, H b = none → b ≠ P := fun b n z => by rw [z, hP] at n; cases n
  refine I.call' (ch := []) ho ?_ (fun b u e => ?_) hg (by simp)
  · constructor
    · exact fun b o e n _ _ => k b o (ne b n) e
    · exact fun b o e n _ _ => ⟨o.slots, k b o (ne b n) e⟩
    · exact fun b o _ n _ => n
    · intro b o e _
      by_cases z : b = P
      · subst z; exact ⟨_, t.choose_spec.1⟩
      · exact ⟨o, k b o z e⟩
    · exact fun _ _ e => e
    · exact fun _ _ _ e => e
    · exact fun b ps e => ⟨#[], by rw [e]; simp⟩
  · by_cases z : b = P
    · subst z
      rw [hP] at e
      cases e
      exact tbl_ok t
    · refine (I.hok b u e).stay (fun d v hd q => k d v (fun y => ?_) q) (fun _ q => q) fun _ _ q => q
      subst y
      rcases hd with y | y
      · exact z y.symm
      · rw [hP] at y; cases y
/-- what the walked thing is: an iterator is pushed, which goes over vs -/
structure Iter1 (prog : Program) (w : World) (v : Value) (h : Heap) (vs : List Value) : Prop where
  ex : ∃ (o : Obj) (ax : Addr) (St : Nat → Heap → Prop), ax < h.objs.size ∧ (∀ ps : Array Value, h.get? ax ≠ some { cls := .none, data := .fields ps }) ∧
    (∀ (A : Around) (Q : Value → Shared → Prop) (E : Value → Shared → Prop) (s : Shared), s.heap = h → Q (.ref h.objs.size) { s with heap := h.push o } → wpAny (model prog w) A (pyIter v) Q E s) ∧
    (∀ A : Around, A.handled = none → Walks prog w A h.objs.size [h.objs.size, ax] [h.objs.size] vs.length (fun i x => vs[i]? = some x) St) ∧ St 0 (h.push o)
theorem iter_list {prog : Program} {w : World} {h : Heap} {a : Addr} {vs : List Value} (hl : h.IsList a vs.toArray) : Iter1 prog w (.ref a) h vs := by
  have lt : a < h.objs.size := by obtain ⟨_, e, _⟩ := hl; exact Heap.lt_size e
  refine ⟨{ cls := .type "list_iterator", data := .fields #[.ref a, .int 0 0] }, a, fun i h' => h'.IsListIter h.objs.size a i ∧ h'.IsList a vs.toArray, lt, fun ps z => ?_, fun A Q E s e q => ?_, fun A hA => ?_, ⟨⟨_, Heap.get?_push_size _ rfl, rfl, rfl⟩, hl.push _⟩⟩
  · obtain ⟨o, e, c, _⟩ := hl
    rw [z] at e; cases e; cases c
  · subst e
    exact wpAny_pyIter_list hl q
  · have W := Walks.list (prog := prog) (w := w) hA h.objs.size a (Nat.ne_of_lt lt) vs.toArray
    rw [List.size_toArray] at W
    simpa using W
theorem iter_tup {prog : Program} {w : World} {h : Heap} {a : Addr} {vs : List Value} (hl : h.IsTuple a vs.toArray) : Iter1 prog w (.ref a) h vs := by
  have lt : a < h.objs.size := by obtain ⟨_, e, _⟩ := hl; exact Heap.lt_size e
  refine ⟨{ cls := .type "tuple_iterator", data := .fields #[.ref a, .int 0 0] }, a, fun i h' => h'.IsTupleIter h.objs.size a i ∧ h'.IsTuple a vs.toArray, lt, fun ps z => ?_, fun A Q E s e q => ?_, fun A hA => ?_, ⟨⟨_, Heap.get?_push_size _ rfl, rfl, rfl⟩, hl.push _⟩⟩
  · obtain ⟨o, e, c, _⟩ := hl
    rw [z] at e; cases e; cases c
  · subst e
    exact wpAny_pyIter_tuple hl q
  · have W := Walks.tuple (prog := prog) (w := w) hA h.objs.size a (Nat.ne_of_lt lt) vs.toArray
    rw [List.size_toArray] at W
    simpa using W

/-- a generator's code object is found, or made: the table may have grown -/
theorem code_seen {A : Around} {E : Value → Shared → Prop} {gpos : Pos} {q : Str} {scope : Scope} {Q : Value → Shared → Prop} (TB : LamX.TabB X.base X.mg c P) (hcode : X.env.code = .ref c) (kb : ∀ b o, X.base.get? b = some o → s.heap.get? b = some o) (t : Tbl P s.heap)
    (h : ∀ (code : Value) (h' : Heap) (tk : Nat), (∀ b o, b ≠ P → s.heap.get? b = some o → h'.get? b = some o) → s.heap.objs.size ≤ h'.objs.size → Tbl P h' → Q code { s with heap := h', toks := tk }) :
    wpAny (model X.prog X.w) A (genexprCode X.env gpos q scope) Q E s := by
  obtain ⟨ps, hP, tr⟩ := t
  have cd := TB.code.keeps kb
  cases hf : codeAmong gpos ps.toList with
  | some cv => exact wpAny_genexprCode_hit hcode (cd.code hP tr) hf (h cv s.heap s.toks (fun _ _ _ e => e) (Nat.le_refl _) ⟨ps, hP, tr⟩)
  | none =>
    refine wpAny_genexprCodeX hcode (cd.code hP tr) (cd.tab hP) hf fun c' h' tk hx hge hlt hco _ htab _ => h _ h' tk hx (Nat.le_trans hge (Nat.le_of_lt hlt)) ⟨_, htab.2, ?_⟩
    obtain ⟨_, _, _, _, _, _, _, _, _, _, _, _, _, _, _, _, _, _, _, tr', _⟩ := hco
    exact tr'
theorem names_seen {A : Around} {E : Value → Shared → Prop} {Q : Addr → Shared → Prop} (TB : LamX.TabB X.base X.mg c P) (hg : X.env.globals = mainGlobals) (hn : X.base.Ns mainGlobals X.mg) (kb : ∀ b o, b ≠ P → X.base.get? b = some o → s.heap.get? b = some o) (h : Q builtinsNs s) :
    wpAny (model X.prog X.w) A (builtinsFor X.env.globals X.env.builtins) Q E s := by
  obtain ⟨bm, ob, e1, e2, e3, e4, e5, e6, e7, e8⟩ := TB.bm
  refine wpAny_builtinsFor (m := X.mg) ?_ e1 e2 (kb _ _ e4 e5) e6 e7 e8 h
  rw [hg]
  exact hn.at' fun o e => kb _ o TB.gP e
theorem no_eq {a b : Nat} (h : a = b) (l : a < b) : False := Nat.lt_irrefl _ (h ▸ l)
theorem eq_lt {a b n : Nat} (h : a = b) (l : b < n) : a < n := h ▸ l
/-- the generator g is made; n elements will come, the j-th as F says; when it is walked, what is known is as it was -/
def ReadyG (X : Cx) (pins : List (Addr × Obj)) (σ : L2.St) (H : Hp) (n : Nat) (F : Nat → Value → Prop) (g : Addr) (s : Shared) : Prop :=
  ∃ (fp wr : List Addr) (G : Array GenState → Array GenState → Prop) (P' : Nat → Value → Prop) (St : Nat → Shared → Prop), WalksS X.prog X.w X.A.in1 g fp wr G n P' St ∧ (∀ j y, P' j y → j < n ∧ F j y) ∧ St 0 s ∧ (∀ b ∈ fp, b < s.heap.objs.size) ∧
    ∀ s', Moved wr G s s' → Inv X pins σ H s'
/-- the element, told by the item: it may look at all that stood -/
def Elt1 (X : Cx) (scope : Scope) (x : Str) (elt : Expr) (P : Addr) (h : Heap) (vs : List Value) (F : Nat → Value → Prop) : Prop :=
  ∀ (cenv : Env) (A : Around) (E : Value → Shared → Prop) (i : Nat) (v : Value) (s : Shared) (m : Str → Option Value), cenv.scope = scope → cenv.cells = cloFrom X.env.cells scope.names [] → A.handled = none → (∀ b o, b ≠ P → h.get? b = some o → s.heap.get? b = some o) →
    s.heap.Ns cenv.locals m → vs[i]? = some v → m x = some v → wpAny (model X.prog X.w) A (eval elt cenv) (fun y s' => F i y ∧ Keeps s s') E s
theorem keeps_self (s : Shared) : Keeps s s := ⟨s.heap, s.toks, rfl, fun _ _ e => e⟩
theorem passing_all (n : Nat) : passing (fun _ => true) n 0 = List.range n := by
  unfold passing
  simp
theorem gen_made {elt iter : Expr} {x : Str} {px gpos : Pos} {scope : Scope} {k : Nat} {Q : Value → Shared → Prop} (hr : Room k X.A) (TB : LamX.TabB X.base X.mg c P) (hcode : X.env.code = .ref c) (S : GxR.GenS X.env scope x) (hs : ∀ v, genFold iter X.env v = pure v)
    (h : wpAny (model X.prog X.w) X.A (eval iter X.env) (fun v s1 => ∃ H1 vs F, Inv X pins σ H1 s1 ∧ H1 P = some (tblO P) ∧ Iter1 X.prog X.w v s1.heap vs ∧ Elt1 X scope x elt P s1.heap vs F ∧ ∀ g s5, ReadyG X pins σ H1 vs.length F g s5 → Q (.ref g) s5) X.xe s) :
    wpAny (model X.prog X.w) X.A (eval (.GeneratorExp elt [⟨.Name x px, iter, [], 0⟩] scope gpos) X.env) Q X.xe s := by
  refine wpAny_GeneratorExp_walksQ hr.hd S.co (closure_ok S.free) S.cell S.dot S.loc S.kind (by have := hr.dp; omega) (wpAny_mono h (fun v s1 hv => ?_) fun _ _ e => e) hs
  obtain ⟨H1, vs, F, I, hP, ⟨o, ax, St, lax, nax, hit, W, st0⟩, hel, hQ⟩ := hv
  refine hit X.A _ X.xe s1 rfl ⟨I.nolimit.push o, ?_⟩
  have ex0 : ∀ b u, s1.heap.get? b = some u → (s1.heap.push o).get? b = some u := fun b u e => Heap.get?_push_of_some _ e
  have t1 := tbl_of I hP
  have lP : P < s1.heap.objs.size := by obtain ⟨ps, e, _⟩ := t1; exact Heap.lt_size e
  have sz : (s1.heap.push o).objs.size = s1.heap.objs.size + 1 := Heap.size_push ..
  refine code_seen (s := { s1 with heap := s1.heap.push o }) TB hcode (fun b u e => ex0 b u (I.bk b u e)) (by obtain ⟨ps, e, q⟩ := t1; exact ⟨ps, ex0 _ _ e, q⟩) fun code h3 tk3 k3 z3 t3 => ?_
  have k13 : ∀ b u, b ≠ P → s1.heap.get? b = some u → h3.get? b = some u := fun b u n e => k3 b u n (ex0 b u e)
  have z13 : s1.heap.objs.size < h3.objs.size := by
    have : (s1.heap.push o).objs.size ≤ h3.objs.size := z3
    omega
  refine names_seen TB I.ok.glob I.mod.glob (fun b u n e => k13 b u n (I.bk b u e)) ?_
  have lS : cStatics < s1.heap.objs.size := by
    obtain ⟨_, q, _⟩ := I.nolimit
    exact q.lt
  have nSP : cStatics ≠ P := fun e => by
    obtain ⟨_, ⟨o', es, ep, e1, e2, _⟩, _⟩ := I.nolimit
    obtain ⟨ps, e3, _⟩ := t1
    rw [e, e3] at e1
    cases e1; cases e2
  have lim3 : h3.NoLimit := by
    obtain ⟨mc, q, r⟩ := I.nolimit
    exact ⟨mc, q.at' fun o e => k13 _ o nSP e, r⟩
  have nP : ∀ b ∈ [s1.heap.objs.size, ax], b ≠ P := fun b hb e => by
    rcases List.mem_cons.mp hb with z | z
    · exact no_eq (e.symm.trans z) lP
    · have : b = ax := by simpa using z
      obtain ⟨ps, e3, _⟩ := t1
      rw [← e, this] at e3
      exact nax ps e3
  refine ⟨s1.heap.objs.size, [s1.heap.objs.size, ax], [s1.heap.objs.size], vs.length, fun i y => vs[i]? = some y, St, fun _ => true, F, rfl, W, ?_, ?_, lim3, ?_, fun href hh => ?_, fun g h5 tk5 gs hb hg z5 k5 W5 at5 => ?_⟩
  · exact (W X.A hr.hd).frame _ _ _ st0 fun b hb u e => k3 b u (nP b hb) e
  · intro b hb
    show b < h3.objs.size
    rcases List.mem_cons.mp hb with z | z
    · exact eq_lt z z13
    · have : b = ax := by simpa using z
      exact eq_lt this (Nat.lt_trans lax z13)
  · intro z
    have : cStatics = s1.heap.objs.size := by simpa using z
    exact no_eq this lS
  · have seen : ∀ s2 : Shared, (∀ b ∈ List.range h3.objs.size, b ∉ [s1.heap.objs.size] → ∀ u, href.get? b = some u → s2.heap.get? b = some u) → ∀ b u, b ≠ P → s1.heap.get? b = some u → s2.heap.get? b = some u := fun s2 q b u n e => by
      have l := Heap.lt_size e
      exact q b (List.mem_range.mpr (Nat.lt_trans l z13)) (fun z => no_eq (show b = s1.heap.objs.size by simpa using z) l) u (hh b u (k13 b u n e))
    refine ⟨fun A E i v s2 m2 hA hv hn hm hk => ?_, fun A E i v s2 m2 hA hv _ hn hm hk => ?_⟩
    · rw [List.forIn_nil]
      exact wpAny_pure ⟨rfl, keeps_self _⟩
    · exact hel _ A E i v s2 m2 rfl rfl hA (seen s2 hk) hn hv hm
  · rw [passing_all] at W5
    rw [List.length_range] at W5
    refine hQ g _ ⟨_, _, _, _, _, W5.in4_1, fun j y hj => ?_, at5, fun b hb => ?_, fun s' mv => ?_⟩
    · obtain ⟨i, e, f⟩ := hj
      obtain ⟨l, e⟩ := List.getElem?_eq_some_iff.mp e
      rw [List.getElem_range] at e
      subst e
      exact ⟨by simpa using l, f⟩
    · show b < h5.objs.size
      have l1 : h3.objs.size < g := hg
      have l5 : g < h5.objs.size := by
        rw [z5]; exact Nat.lt_succ_self g
      rcases List.mem_cons.mp hb with e | hb
      · exact eq_lt e l5
      · rcases List.mem_cons.mp hb with e | hb
        · exact eq_lt e (Nat.lt_trans l1 l5)
        · have l2 : b < h3.objs.size := List.mem_range.mp hb
          exact Nat.lt_trans l2 (Nat.lt_trans l1 l5)
    · have kk : ∀ b u, b ≠ P → h3.get? b = some u → b < s1.heap.objs.size → s'.heap.get? b = some u := fun b u n e l => mv.heap b u (by
        intro hb
        rcases List.mem_cons.mp hb with z | z
        · exact no_eq z (Nat.lt_trans l z13)
        · exact no_eq (show b = s1.heap.objs.size by simpa using z) l) (k5 b u e)
      refine inv_grown I hP (by rw [mv.os]) (fun b u n e => kk b u n (k13 b u n e) (Heap.lt_size e)) ?_ (AllBare.movedS (I.bare.push hb) mv)
      obtain ⟨ps, e, q⟩ := t3
      exact ⟨ps, mv.heap P _ (by
        intro hb
        rcases List.mem_cons.mp hb with z | z
        · exact no_eq z (Nat.lt_trans lP z13)
        · exact no_eq (show P = s1.heap.objs.size by simpa using z) lP) (k5 P _ e), q⟩
/-! pairs -/
/-- a list of pairs, as it stands -/
def Iter2 (h : Heap) (v : Value) (vs : List (Value × Value)) : Prop := ∃ (ax : Addr) (ts : List Addr), v = .ref ax ∧ h.IsList ax (ts.map Value.ref).toArray ∧ ts.length = vs.length ∧ ∀ (j : Nat) (t : Addr) (q : Value × Value), ts[j]? = some t → vs[j]? = some q → h.IsTuple t #[q.1, q.2]
def Elt2 (X : Cx) (scope : Scope) (x y : Str) (elt : Expr) (P : Addr) (h : Heap) (vs : List (Value × Value)) (F : Nat → Value → Prop) : Prop :=
  ∀ (cenv : Env) (A : Around) (E : Value → Shared → Prop) (i : Nat) (q : Value × Value) (s : Shared) (m : Str → Option Value), cenv.scope = scope → cenv.cells = cloFrom X.env.cells scope.names [] → A.handled = none → (∀ b o, b ≠ P → h.get? b = some o → s.heap.get? b = some o) →
    s.heap.Ns cenv.locals m → vs[i]? = some q → m x = some q.1 → m y = some q.2 → wpAny (model X.prog X.w) A (eval elt cenv) (fun y s' => F i y ∧ Keeps s s') E s
theorem gen_pairs {elt iter : Expr} {x y : Str} {p1 p2 p3 gpos : Pos} {kt : Nat} {scope : Scope} {k : Nat} {Q : Value → Shared → Prop} (hr : Room k X.A) (TB : LamX.TabB X.base X.mg c P) (hcode : X.env.code = .ref c) (S : GxR.GenS X.env scope x) (hy : scope.names.lookup y = some .local) (hxy : x ≠ y) (hs : ∀ v, genFold iter X.env v = pure v)
    (h : wpAny (model X.prog X.w) X.A (eval iter X.env) (fun v s1 => ∃ H1 vs F, Inv X pins σ H1 s1 ∧ H1 P = some (tblO P) ∧ Iter2 s1.heap v vs ∧ Elt2 X scope x y elt P s1.heap vs F ∧ ∀ g s5, ReadyG X pins σ H1 vs.length F g s5 → Q (.ref g) s5) X.xe s) :
    wpAny (model X.prog X.w) X.A (eval (.GeneratorExp elt [⟨.Tuple [.Name x p1, .Name y p2] kt p3, iter, [], 0⟩] scope gpos) X.env) Q X.xe s := by
  refine wpAny_GeneratorExp_walksQT hr.hd S.co (closure_ok S.free) S.cell S.dot S.loc hy hxy S.kind (by have := hr.dp; omega) (wpAny_mono h (fun v s1 hv => ?_) fun _ _ e => e) hs
  obtain ⟨H1, vs, F, I, hP, ⟨ax, ts, rfl, hl, hts, htq⟩, hel, hQ⟩ := hv
  have lax : ax < s1.heap.objs.size := by obtain ⟨_, e, _⟩ := hl; exact Heap.lt_size e
  have ltq : ∀ (j : Nat) (t : Addr), ts[j]? = some t → ∃ q, vs[j]? = some q ∧ s1.heap.IsTuple t #[q.1, q.2] := fun j t e => by
    have l := (List.getElem?_eq_some_iff.mp e).1
    exact ⟨vs[j]'(by omega), List.getElem?_eq_getElem _, htq j t _ e (List.getElem?_eq_getElem _)⟩
  refine wpAny_pyIter_list hl ⟨I.nolimit.push _, ?_⟩
  generalize eo : ({ cls := .type "list_iterator", data := .fields #[.ref ax, .int 0 0] } : Obj) = o
  have ex0 : ∀ b u, s1.heap.get? b = some u → (s1.heap.push o).get? b = some u := fun b u e => Heap.get?_push_of_some _ e
  have t1 := tbl_of I hP
  have lP : P < s1.heap.objs.size := by obtain ⟨ps, e, _⟩ := t1; exact Heap.lt_size e
  have sz : (s1.heap.push o).objs.size = s1.heap.objs.size + 1 := Heap.size_push ..
  refine code_seen (s := { s1 with heap := s1.heap.push o }) TB hcode (fun b u e => ex0 b u (I.bk b u e)) (by obtain ⟨ps, e, q⟩ := t1; exact ⟨ps, ex0 _ _ e, q⟩) fun code h3 tk3 k3 z3 t3 => ?_
  have k13 : ∀ b u, b ≠ P → s1.heap.get? b = some u → h3.get? b = some u := fun b u n e => k3 b u n (ex0 b u e)
  have z13 : s1.heap.objs.size < h3.objs.size := by
    have : (s1.heap.push o).objs.size ≤ h3.objs.size := z3
    omega
  refine names_seen TB I.ok.glob I.mod.glob (fun b u n e => k13 b u n (I.bk b u e)) ?_
  have lS : cStatics < s1.heap.objs.size := by
    obtain ⟨_, q, _⟩ := I.nolimit
    exact q.lt
  have nSP : cStatics ≠ P := fun e => by
    obtain ⟨_, ⟨o', es, ep, e1, e2, _⟩, _⟩ := I.nolimit
    obtain ⟨ps, e3, _⟩ := t1
    rw [e, e3] at e1
    cases e1; cases e2
  have lim3 : h3.NoLimit := by
    obtain ⟨mc, q, r⟩ := I.nolimit
    exact ⟨mc, q.at' fun o e => k13 _ o nSP e, r⟩
  have naxP : ax ≠ P := fun e => by
    obtain ⟨ps, e3, _⟩ := t1
    obtain ⟨o, e4, c4, _⟩ := hl
    rw [e, e3] at e4; cases e4; cases c4
  have nT : ∀ (j : Nat) (t : Addr), ts[j]? = some t → t ≠ P ∧ t < s1.heap.objs.size := fun j t e => by
    obtain ⟨q, _, o', e4, c4, _⟩ := ltq j t e
    refine ⟨fun z => ?_, Heap.lt_size e4⟩
    obtain ⟨ps, e3, _⟩ := t1
    rw [z, e3] at e4; cases e4; cases c4
  have aT : ∀ j, j < (ts.map Value.ref).toArray.size → ts[j]? = some (ts.getD j 0) := fun j hj => by
    have l : j < ts.length := by simpa using hj
    rw [List.getD_eq_getElem?_getD, List.getElem?_eq_getElem l]; rfl
  have zT : (ts.map Value.ref).toArray.size = vs.length := by simp [hts]
  have aV : ∀ j, j < (ts.map Value.ref).toArray.size → vs[j]? = some (vs.getD j (.none, .none)) := fun j hj => by
    rw [zT] at hj
    rw [List.getD_eq_getElem?_getD, List.getElem?_eq_getElem hj]; rfl
  have W : ∀ A : Around, A.handled = none → WalksU X.prog X.w A s1.heap.objs.size (s1.heap.objs.size :: ax :: (List.range (ts.map Value.ref).toArray.size).map fun j => ts.getD j 0) [s1.heap.objs.size] (ts.map Value.ref).toArray.size
      (fun j v => j < (ts.map Value.ref).toArray.size ∧ v = #[(vs.getD j (.none, .none)).1, (vs.getD j (.none, .none)).2]) _ _ := fun A hA =>
    (WalksU.listOfTuples hA s1.heap.objs.size ax (Nat.ne_of_lt lax) (ts.map Value.ref).toArray (fun j => ts.getD j 0) (fun j => #[(vs.getD j (.none, .none)).1, (vs.getD j (.none, .none)).2]) (fun j hj => by
      rw [List.getElem?_toArray, List.getElem?_map, aT j hj]; rfl) fun j hj => Nat.ne_of_lt (nT j _ (aT j hj)).2).bound
  have inFp : ∀ b ∈ s1.heap.objs.size :: ax :: (List.range (ts.map Value.ref).toArray.size).map (fun j => ts.getD j 0), b ≠ P ∧ b ≤ s1.heap.objs.size := fun b hb => by
    rcases List.mem_cons.mp hb with z | hb
    · rw [z]; exact ⟨fun e => no_eq e.symm lP, Nat.le_refl _⟩
    · rcases List.mem_cons.mp hb with z | hb
      · rw [z]; exact ⟨naxP, Nat.le_of_lt lax⟩
      · obtain ⟨j, hj, e⟩ := List.mem_map.mp hb
        have := nT j _ (aT j (List.mem_range.mp hj))
        rw [← e]
        exact ⟨this.1, Nat.le_of_lt this.2⟩
  refine ⟨s1.heap.objs.size, _, [s1.heap.objs.size], _, _, _, _, fun _ => true, F, rfl, W, fun i vals e => ⟨_, _, e.2⟩, ?_, fun b hb => ?_, lim3, ?_, fun href hh => ?_, fun g h5 tk5 gs hb hg z5 k5 W5 at5 => ?_⟩
  · refine ⟨⟨o, k3 _ _ (fun e => no_eq e.symm lP) (Heap.get?_push_size _ (by rw [← eo]; rfl)), by rw [← eo], by rw [← eo]; rfl⟩, ?_, fun j hj => ?_⟩
    · obtain ⟨o', e4, r4⟩ := hl
      exact ⟨o', k13 _ _ naxP e4, r4⟩
    · obtain ⟨q, e5, o', e4, r4⟩ := ltq j _ (aT j hj)
      rw [aV j hj] at e5
      cases e5
      exact ⟨o', k13 _ _ (nT j _ (aT j hj)).1 e4, r4⟩
  · exact Nat.lt_of_le_of_lt (inFp b hb).2 z13
  · intro z
    have : cStatics = s1.heap.objs.size := by simpa using z
    exact no_eq this lS
  · have seen : ∀ s2 : Shared, (∀ b ∈ List.range h3.objs.size, b ∉ [s1.heap.objs.size] → ∀ u, href.get? b = some u → s2.heap.get? b = some u) → ∀ b u, b ≠ P → s1.heap.get? b = some u → s2.heap.get? b = some u := fun s2 q b u n e => by
      have l := Heap.lt_size e
      exact q b (List.mem_range.mpr (Nat.lt_trans l z13)) (fun z => no_eq (show b = s1.heap.objs.size by simpa using z) l) u (hh b u (k13 b u n e))
    refine ⟨fun A E i va vb s2 m2 hA hv hn hm hm2 hk => ?_, fun A E i va vb s2 m2 hA hv _ hn hm hm2 hk => ?_⟩
    · rw [List.forIn_nil]
      exact wpAny_pure ⟨rfl, keeps_self _⟩
    · obtain ⟨l, e⟩ := hv
      have e1 : va = (vs.getD i (.none, .none)).1 ∧ vb = (vs.getD i (.none, .none)).2 := by simpa using e
      refine hel _ A E i (vs.getD i (.none, .none)) s2 m2 rfl rfl hA (seen s2 hk) hn (aV i l) ?_ ?_
      · rw [hm, e1.1]
      · rw [hm2, e1.2]
  · rw [passing_all] at W5
    rw [List.length_range, zT] at W5
    rw [zT] at at5
    refine hQ g _ ⟨_, _, _, _, _, W5.in4_1, fun j y hj => ?_, at5, fun b hb => ?_, fun s' mv => ?_⟩
    · obtain ⟨i, e, f⟩ := hj
      obtain ⟨l, e⟩ := List.getElem?_eq_some_iff.mp e
      rw [List.getElem_range] at e
      subst e
      exact ⟨by simpa using l, f⟩
    · show b < h5.objs.size
      have l1 : h3.objs.size < g := hg
      have l5 : g < h5.objs.size := by
        rw [z5]; exact Nat.lt_succ_self g
      rcases List.mem_cons.mp hb with e | hb
      · exact eq_lt e l5
      · rcases List.mem_cons.mp hb with e | hb
        · exact eq_lt e (Nat.lt_trans l1 l5)
        · have l2 : b < h3.objs.size := List.mem_range.mp hb
          exact Nat.lt_trans l2 (Nat.lt_trans l1 l5)
    · have kk : ∀ b u, b ≠ P → h3.get? b = some u → b < s1.heap.objs.size → s'.heap.get? b = some u := fun b u n e l => mv.heap b u (by
        intro hb
        rcases List.mem_cons.mp hb with z | z
        · exact no_eq z (Nat.lt_trans l z13)
        · exact no_eq (show b = s1.heap.objs.size by simpa using z) l) (k5 b u e)
      refine inv_grown I hP (by rw [mv.os]) (fun b u n e => kk b u n (k13 b u n e) (Heap.lt_size e)) ?_ (AllBare.movedS (I.bare.push hb) mv)
      obtain ⟨ps, e, q⟩ := t3
      exact ⟨ps, mv.heap P _ (by
        intro hb
        rcases List.mem_cons.mp hb with z | z
        · exact no_eq z (Nat.lt_trans lP z13)
        · exact no_eq (show P = s1.heap.objs.size by simpa using z) lP) (k5 P _ e), q⟩
/-! ### all(test for x in xs) -/
/-- what the element is, by the item (r), over all that stood but the table -/
def EltO (X : Cx) (scope : Scope) (x : Str) (elt : Expr) (P : Addr) (r : L2.St → Hp → V → Bool → Prop) : Prop :=
  ∀ (pins : List (Addr × Obj)) (σ : L2.St) (H : Hp) (s : Shared) (a : V) (v : Value) (b : Bool), Inv X pins σ H s → H P = some (tblO P) → RelV a v → r σ H a b →
    ∀ (cenv : Env) (A : Around) (E : Value → Shared → Prop) (s2 : Shared) (m : Str → Option Value), cenv.scope = scope → cenv.cells = cloFrom X.env.cells scope.names [] → A.handled = none → (∀ b o, b ≠ P → s.heap.get? b = some o → s2.heap.get? b = some o) →
      s2.heap.Ns cenv.locals m → m x = some v → wpAny (model X.prog X.w) A (eval elt cenv) (fun y s' => y = .bool b ∧ Keeps s2 s') E s2
def EltP2 (X : Cx) (scope : Scope) (x y : Str) (elt : Expr) (P : Addr) (r : L2.St → Hp → V → V → Bool → Prop) : Prop :=
  ∀ (pins : List (Addr × Obj)) (σ : L2.St) (H : Hp) (s : Shared) (a a2 : V) (v v2 : Value) (b : Bool), Inv X pins σ H s → H P = some (tblO P) → RelV a v → RelV a2 v2 → r σ H a a2 b →
    ∀ (cenv : Env) (A : Around) (E : Value → Shared → Prop) (s2 : Shared) (m : Str → Option Value), cenv.scope = scope → cenv.cells = cloFrom X.env.cells scope.names [] → A.handled = none → (∀ b o, b ≠ P → s.heap.get? b = some o → s2.heap.get? b = some o) →
      s2.heap.Ns cenv.locals m → m x = some v → m y = some v2 → wpAny (model X.prog X.w) A (eval elt cenv) (fun y s' => y = .bool b ∧ Keeps s2 s') E s2
def tAll1 (K : PySem.W.Frag) (P : Addr) (r : L2.St → Hp → V → Bool → Prop) (te : TE) : TE := fun σ H Q => te σ H fun v H1 =>
  ∃ (p : Addr) (xs : List V) (pb : List Bool), v = .ref p ∧ (SqL K H1 p xs ∨ SqT K H1 p xs) ∧ H1 P = some (tblO P) ∧ pb.length = xs.length ∧ (∀ (i : Nat) a b, xs[i]? = some a → pb[i]? = some b → r σ H1 a b) ∧ Q (.bl (pb.all id)) H1
def tAll2 (K : PySem.W.Frag) (P : Addr) (r : L2.St → Hp → V → V → Bool → Prop) (te : TE) : TE := fun σ H Q => te σ H fun v H1 =>
  ∃ (p : Addr) (ts : List Addr) (xs : List (V × V)) (pb : List Bool), v = .ref p ∧ SqL K H1 p (ts.map V.ref) ∧ H1 P = some (tblO P) ∧ ts.length = xs.length ∧ (∀ (i : Nat) t a, ts[i]? = some t → xs[i]? = some a → SqT K H1 t [a.1, a.2]) ∧
    pb.length = xs.length ∧ (∀ (i : Nat) a b, xs[i]? = some a → pb[i]? = some b → r σ H1 a.1 a.2 b) ∧ Q (.bl (pb.all id)) H1
theorem range_all (pb : List Bool) : (List.range pb.length).all (fun i => pb.getD i false) = pb.all id := by
  rw [Bool.eq_iff_iff, List.all_eq_true, List.all_eq_true]
  constructor
  · intro h b hb
    obtain ⟨i, hi, e⟩ := List.getElem_of_mem hb
    have := h i (List.mem_range.mpr hi)
    rw [List.getD_eq_getElem?_getD, List.getElem?_eq_getElem hi] at this
    rw [← e]; exact this
  · intro h i hi
    have hi := List.mem_range.mp hi
    rw [List.getD_eq_getElem?_getD, List.getElem?_eq_getElem hi]
    exact h _ (List.getElem_mem hi)
theorem all_ready {n : Nat} {pb : List Bool} {g : Addr} {s5 : Shared} {Q : Value → Shared → Prop} (hn : pb.length = n) (R : ReadyG X pins σ H n (fun i y => ∃ b, pb[i]? = some b ∧ y = .bool b) g s5) (q : ∀ s', Inv X pins σ H s' → Q (.bool (pb.all id)) s') :
    wpAny (model X.prog X.w) X.A (call (.builtin "all") [.ref g]) Q X.xe s5 := by
  obtain ⟨fp, wr, G, P', St, W, hF, hst, hfp, hI⟩ := R
  refine call_all_walkS (W.self 0 _ _ _ hst ⟨g, fp, wr, G, n, P', St, fun i => pb.getD i false, rfl, W, hst, fun i v s Q E hv hq => ?_, fun s' mv => ?_⟩)
  · obtain ⟨_, b, e, rfl⟩ := hF i v hv
    have e2 : pb.getD i false = b := by rw [List.getD_eq_getElem?_getD, e]; rfl
    exact wpAny_truthy_bool (e2 ▸ hq)
  · have e := range_all pb
    rw [hn] at e
    rw [e]
    exact q s' (hI s' mv)
theorem istup {h : Heap} {a : Addr} {its : Array Value} (t : IsTup h a its) : h.IsTuple a its := t
theorem boot_all : bootBuiltins "all" = some (.builtin "all") := by decide +kernel
theorem pe_all1 {elt iter : Expr} {x : Str} {px p pos gpos : Pos} {scope : Scope} {k : Nat} {te : TE} {r : L2.St → Hp → V → Bool → Prop} (hr : Room k X.A) (hg : Gl X "all") (hm : X.mg "all" = none) (TB : LamX.TabB X.base X.mg c P) (hcode : X.env.code = .ref c) (S : GxR.GenS X.env scope x)
    (hi : PE X iter te) (hel : EltO X scope x elt P r) (hs : ∀ v, genFold iter X.env v = pure v := by intro v; rfl) (he : starEach [.GeneratorExp elt [⟨.Name x px, iter, [], 0⟩] scope gpos] X.env = (false, eval (.GeneratorExp elt [⟨.Name x px, iter, [], 0⟩] scope gpos) X.env) :: starEach [] X.env := by rfl) :
    PE X (.Call (.Name "all" p) [.GeneratorExp elt [⟨.Name x px, iter, [], 0⟩] scope gpos] [] pos) (tAll1 X.K P r te) := by
  constructor
  intro pins s σ H Q I h
  refine wpAny_Call_Name_kw (ld_blt I hg hm boot_all (PyProof.Rows.callWith_builtin1 ?_ he (by rfl)))
  rw [he]
  show wpAny _ _ (spliced ((false, _) :: backTo pos (starEach [] X.env))) _ _ s
  refine Calls.spliced_cons (gen_made (pins := pins) (σ := σ) hr TB hcode S hs (thn (hi.run pins s σ H _ I h) fun v s1 hv => ?_))
  obtain ⟨x', H1, I1, r1, a, xs, pb, rfl, hx, hP, hl, hpb, q⟩ := hv
  cases r1
  have key : ∀ vs, Vals xs vs → Elt1 X scope x elt P s1.heap vs fun i y => ∃ b, pb[i]? = some b ∧ y = .bool b := fun vs rv cenv A E i v s2 m h1 h2 h3 h4 h5 h6 h7 => by
    have li := (List.getElem?_eq_some_iff.mp h6).1
    rw [← rv.length] at li
    have e1 := List.getElem?_eq_getElem (l := xs) (i := i) li
    obtain ⟨u, e2, r2⟩ := rv.get e1
    rw [h6] at e2; cases e2
    have e3 := List.getElem?_eq_getElem (l := pb) (i := i) (by omega)
    exact wpAny_mono (hel pins σ H1 s1 _ v _ I1 hP r2 (hpb i _ _ e1 e3) cenv A E s2 m h1 h2 h3 h4 h5 h7) (fun y s' z => ⟨⟨_, e3, z.1⟩, z.2⟩) fun _ _ e => e
  rcases hx with hx | hx
  · obtain ⟨its, rv, ⟨o, n, e, e2, _, e3⟩, _⟩ := I1.list hx
    refine ⟨H1, its, _, I1, hP, iter_list ⟨o, e, e2, n, e3⟩, key its rv, fun g s5 R => Calls.spliced_nil (all_ready (by rw [hl, rv.length]) R fun s' J => ⟨.bl _, H1, J, rfl, q⟩)⟩
  · obtain ⟨its, rv, t, _⟩ := I1.tuple hx
    exact ⟨H1, its, _, I1, hP, iter_tup (istup t), key its rv, fun g s5 R => Calls.spliced_nil (all_ready (by rw [hl, rv.length]) R fun s' J => ⟨.bl _, H1, J, rfl, q⟩)⟩
theorem pe_all2 {elt iter : Expr} {x y : Str} {p1 p2 p3 p pos gpos : Pos} {kt : Nat} {scope : Scope} {k : Nat} {te : TE} {r : L2.St → Hp → V → V → Bool → Prop} (hr : Room k X.A) (hg : Gl X "all") (hm : X.mg "all" = none) (TB : LamX.TabB X.base X.mg c P) (hcode : X.env.code = .ref c) (S : GxR.GenS X.env scope x)
    (hi : PE X iter te) (hel : EltP2 X scope x y elt P r) (hy : scope.names.lookup y = some .local := by rfl) (hxy : x ≠ y := by decide) (hs : ∀ v, genFold iter X.env v = pure v := by intro v; rfl)
    (he : starEach [.GeneratorExp elt [⟨.Tuple [.Name x p1, .Name y p2] kt p3, iter, [], 0⟩] scope gpos] X.env = (false, eval (.GeneratorExp elt [⟨.Tuple [.Name x p1, .Name y p2] kt p3, iter, [], 0⟩] scope gpos) X.env) :: starEach [] X.env := by rfl) :
    PE X (.Call (.Name "all" p) [.GeneratorExp elt [⟨.Tuple [.Name x p1, .Name y p2] kt p3, iter, [], 0⟩] scope gpos] [] pos) (tAll2 X.K P r te) := by
  constructor
  intro pins s σ H Q I h
  refine wpAny_Call_Name_kw (ld_blt I hg hm boot_all (PyProof.Rows.callWith_builtin1 ?_ he (by rfl)))
  rw [he]
  show wpAny _ _ (spliced ((false, _) :: backTo pos (starEach [] X.env))) _ _ s
  refine Calls.spliced_cons (gen_pairs (pins := pins) (σ := σ) hr TB hcode S hy hxy hs (thn (hi.run pins s σ H _ I h) fun v s1 hv => ?_))
  obtain ⟨x', H1, I1, r1, a, ts, xs, pb, rfl, hx, hP, hts, ht, hl, hpb, q⟩ := hv
  cases r1
  obtain ⟨its, rv, ⟨o, n, e, e2, _, e3⟩, _⟩ := I1.list hx
  have eits : its = ts.map Value.ref := by
    have := rv.length
    rw [List.length_map] at this
    refine List.ext_getElem? fun j => ?_
    by_cases hj : j < ts.length
    · obtain ⟨u, e4, r4⟩ := rv.get (i := j) (x := .ref ts[j]) (by rw [List.getElem?_map, List.getElem?_eq_getElem hj]; rfl)
      rw [e4, List.getElem?_map, List.getElem?_eq_getElem hj]
      cases r4; rfl
    · rw [List.getElem?_eq_none (by omega), List.getElem?_eq_none (by rw [List.length_map]; omega)]
  subst eits
  have two : ∀ (i : Nat) (t : Addr), ts[i]? = some t → ∃ q : Value × Value, s1.heap.IsTuple t #[q.1, q.2] ∧ ∀ a : V × V, xs[i]? = some a → RelV a.1 q.1 ∧ RelV a.2 q.2 := fun i t e => by
    have li := (List.getElem?_eq_some_iff.mp e).1
    obtain ⟨us, ru, tu, _⟩ := I1.tuple (ht i t _ e (List.getElem?_eq_getElem (show i < xs.length by omega)))
    cases ru with
    | cons h1 ru =>
      cases ru with
      | cons h2 ru =>
        cases ru
        rename_i u1 u2
        refine ⟨(u1, u2), tu, fun a ha => ?_⟩
        rw [List.getElem?_eq_getElem (show i < xs.length by omega)] at ha
        cases ha
        exact ⟨h1, h2⟩
  have all : ∀ i : Nat, ∃ q : Value × Value, ∀ t : Addr, ts[i]? = some t → s1.heap.IsTuple t #[q.1, q.2] ∧ ∀ a : V × V, xs[i]? = some a → RelV a.1 q.1 ∧ RelV a.2 q.2 := fun i => by
    cases hi : ts[i]? with
    | none => exact ⟨(.none, .none), fun t e => by cases e⟩
    | some t =>
      obtain ⟨q, h1, h2⟩ := two i t hi
      exact ⟨q, fun t' e => by cases e; exact ⟨h1, h2⟩⟩
  obtain ⟨qf, qs⟩ : ∃ qf : Nat → Value × Value, ∀ (i : Nat) (t : Addr), ts[i]? = some t → s1.heap.IsTuple t #[(qf i).1, (qf i).2] ∧ ∀ a : V × V, xs[i]? = some a → RelV a.1 (qf i).1 ∧ RelV a.2 (qf i).2 := ⟨fun i => (all i).choose, fun i => (all i).choose_spec⟩
  have hv : ∀ (i : Nat) (q : Value × Value), ((List.range xs.length).map qf)[i]? = some q → i < xs.length ∧ q = qf i := fun i q e => by
    rw [List.getElem?_map] at e
    by_cases c : i < xs.length
    · rw [List.getElem?_range c] at e
      cases e; exact ⟨c, rfl⟩
    · rw [List.getElem?_eq_none (by simpa using c)] at e; cases e
  refine ⟨H1, (List.range xs.length).map qf, _, I1, hP, ⟨a, ts, rfl, ⟨o, e, e2, n, e3⟩, by simp [hts], fun j t q e4 e5 => ?_⟩, ?_, fun g s5 R => Calls.spliced_nil (all_ready (pb := pb) (by simp [hl]) R fun s' J => ⟨.bl _, H1, J, rfl, q⟩)⟩
  · obtain ⟨_, rfl⟩ := hv j q e5
    exact (qs j t e4).1
  · intro cenv A E i q s2 m h1 h2 h3 h4 h5 h6 h7 h8
    obtain ⟨li, rfl⟩ := hv i q h6
    have e1 := List.getElem?_eq_getElem (l := xs) (i := i) li
    have e3 := List.getElem?_eq_getElem (l := pb) (i := i) (by omega)
    have e4 := List.getElem?_eq_getElem (l := ts) (i := i) (by omega)
    obtain ⟨r3, r4⟩ := (qs i _ e4).2 _ e1
    exact wpAny_mono (hel pins σ H1 s1 _ _ _ _ _ I1 hP r3 r4 (hpb i _ _ e1 e3) cenv A E s2 m h1 h2 h3 h4 h5 h7 h8) (fun y s' z => ⟨⟨_, e3, z.1⟩, z.2⟩) fun _ _ e => e
/-! ### elements -/
theorem cell_ne {h : Heap} {v : Option Value} (t : Tbl P h) (hc : h.IsCell c v) : c ≠ P := fun e => by
  obtain ⟨ps, e1, _⟩ := t
  obtain ⟨o, e2, e3⟩ := hc
  rw [e, e1] at e2
  cases e2; cases e3
theorem list_ne {h : Heap} {a : Addr} {its : Array Value} (t : Tbl P h) (hl : PlainL h a its) : a ≠ P := fun e => by
  obtain ⟨ps, e1, _⟩ := t
  obtain ⟨o, n, e2, e3, _⟩ := hl
  rw [e, e1] at e2
  cases e2; cases e3
/-- a captured name within the generator -/
theorem free_at (I : Inv X pins σ H s) (hP : H P = some (tblO P)) {i : Nat} {x : Str} {v : V} {scope : Scope} (hN : X.N[i]? = some x) (hs : σ[i]? = some (some v)) (hk : X.env.scope.names.lookup x = some .cell) (hf : scope.names.lookup x = some .free) (hq : (cloFrom X.env.cells scope.names []).lookup x = X.env.cells.lookup x)
    (hkind : scope.kind = .function) : ∃ u, RelV v u ∧ ∀ (cenv : Env) (A : Around) (E : Value → Shared → Prop) (Q : Value → Shared → Prop) (s2 : Shared) (p : Pos), cenv.scope = scope → cenv.cells = cloFrom X.env.cells scope.names [] → (∀ b o, b ≠ P → s.heap.get? b = some o → s2.heap.get? b = some o) →
      (x == ("__debug__" : Str)) = false → (x == ("__classdict__" : Str)) = false → Q u s2 → wpAny (model X.prog X.w) A (eval (.Name x p) cenv) Q E s2 := by
  obtain ⟨m, hm, look⟩ := I.loc
  obtain ⟨u, r, z⟩ := look i x v hN hs (.inr (.inl hk))
  refine ⟨u, r, fun cenv A E Q s2 p h1 h2 h3 hd hcd q => ?_⟩
  rcases z with ⟨z, _⟩ | ⟨_, c, e, hc⟩
  · rw [show X.env.kindOf x = some .cell from hk] at z; cases z
  · refine wpAny_Name (wpAny_loadName_free (c := c) (v := u) (by rw [h1]; exact hkind) (show cenv.scope.names.lookup x = some .free by rw [h1]; exact hf) (by rw [h2, hq]; exact e) ?_ q hcd) hd
    have n := cell_ne (tbl_of I hP) hc
    obtain ⟨o, e1, e2⟩ := hc
    exact ⟨o, h3 c o n e1, e2⟩
theorem local_at {cenv : Env} {scope : Scope} {A : Around} {E : Value → Shared → Prop} {Q : Value → Shared → Prop} {s2 : Shared} {p : Pos} {x : Str} {v : Value} {m : Str → Option Value} {prog : Program} {w : World} (h1 : cenv.scope = scope) (hkind : scope.kind = .function) (hl : scope.names.lookup x = some .local) (hn : s2.heap.Ns cenv.locals m)
    (hm : m x = some v) (hd : (x == ("__debug__" : Str)) = false) (q : Q v s2) : wpAny (model prog w) A (eval (.Name x p) cenv) Q E s2 :=
  wpAny_Name (wpAny_loadName_local (by rw [h1]; exact hkind) (show cenv.scope.names.lookup x = some .local by rw [h1]; exact hl) hn hm q) hd
/-- low < place < high -/
def rMid (il ih : Nat) : L2.St → Hp → V → Bool → Prop := fun σ _ a b => ∃ l p h : Int, σ[il]? = some (some (.int l)) ∧ σ[ih]? = some (some (.int h)) ∧ a = .int p ∧ b = (decide (l < p) && decide (p < h))
theorem el_mid {scope : Scope} {xl xp xh : Str} {il ih : Nat} {p1 p2 p3 p4 : Pos} (S : GxR.GenS X.env scope xp) (hl : X.N[il]? = some xl := by rfl) (hh : X.N[ih]? = some xh := by rfl) (kl : X.env.scope.names.lookup xl = some .cell := by rfl) (kh : X.env.scope.names.lookup xh = some .cell := by rfl)
    (fl : scope.names.lookup xl = some .free := by rfl) (fh : scope.names.lookup xh = some .free := by rfl) (ql : (cloFrom X.env.cells scope.names []).lookup xl = X.env.cells.lookup xl := by rfl) (qh : (cloFrom X.env.cells scope.names []).lookup xh = X.env.cells.lookup xh := by rfl)
    (dl : (xl == ("__debug__" : Str)) = false := by decide) (dp : (xp == ("__debug__" : Str)) = false := by decide) (dh : (xh == ("__debug__" : Str)) = false := by decide) (cl : (xl == ("__classdict__" : Str)) = false := by decide) (ch : (xh == ("__classdict__" : Str)) = false := by decide)
    (hm : lastMarks [.Lt, .Lt] [Expr.Name xp p2, .Name xh p3] = false := by with_unfolding_all rfl) :
    EltO X scope xp (.Compare (.Name xl p1) [.Lt, .Lt] [.Name xp p2, .Name xh p3] p4) P (rMid il ih) := by
  intro pins σ H s a v b I hP ra hr cenv A E s2 m h1 h2 _ h3 hn hmx
  obtain ⟨l, p, h, e1, e2, rfl, rfl⟩ := hr
  obtain ⟨u1, ⟨t1, rfl⟩, g1⟩ := free_at I hP hl e1 kl fl ql S.kind
  obtain ⟨u2, ⟨t2, rfl⟩, g2⟩ := free_at I hP hh e2 kh fh qh S.kind
  obtain ⟨t, rfl⟩ := ra
  refine Compare_chain (g1 cenv A E _ s2 p1 h1 h2 h3 dl cl ?_) hm
  refine chain_link (local_at h1 S.kind S.loc hn hmx dp (lt_int (wpAny_truthy_bool ?_)))
  by_cases c : l < p
  · rw [decide_eq_true c, if_pos rfl, Bool.true_and]
    exact chain_last (g2 cenv A E _ s2 p3 h1 h2 h3 dh ch (lt_int ⟨rfl, keeps_self _⟩))
  · rw [decide_eq_false c, if_neg Bool.false_ne_true, Bool.false_and]
    exact ⟨rfl, keeps_self _⟩
/-- place < low or place > high -/
def rOut (il ih : Nat) : L2.St → Hp → V → Bool → Prop := fun σ _ a b => ∃ l p h : Int, σ[il]? = some (some (.int l)) ∧ σ[ih]? = some (some (.int h)) ∧ a = .int p ∧ b = (decide (p < l) || decide (h < p))
theorem el_out {scope : Scope} {xl xp xh : Str} {il ih : Nat} {p1 p2 p3 p4 p5 p6 p7 : Pos} (S : GxR.GenS X.env scope xp) (hl : X.N[il]? = some xl := by rfl) (hh : X.N[ih]? = some xh := by rfl) (kl : X.env.scope.names.lookup xl = some .cell := by rfl) (kh : X.env.scope.names.lookup xh = some .cell := by rfl)
    (fl : scope.names.lookup xl = some .free := by rfl) (fh : scope.names.lookup xh = some .free := by rfl) (ql : (cloFrom X.env.cells scope.names []).lookup xl = X.env.cells.lookup xl := by rfl) (qh : (cloFrom X.env.cells scope.names []).lookup xh = X.env.cells.lookup xh := by rfl)
    (dl : (xl == ("__debug__" : Str)) = false := by decide) (dp : (xp == ("__debug__" : Str)) = false := by decide) (dh : (xh == ("__debug__" : Str)) = false := by decide) (cl : (xl == ("__classdict__" : Str)) = false := by decide) (ch : (xh == ("__classdict__" : Str)) = false := by decide) :
    EltO X scope xp (.BoolOp .Or [.Compare (.Name xp p1) [.Lt] [.Name xl p2] p3, .Compare (.Name xp p4) [.Gt] [.Name xh p5] p6] p7) P (rOut il ih) := by
  intro pins σ H s a v b I hP ra hr cenv A E s2 m h1 h2 _ h3 hn hmx
  obtain ⟨l, p, h, e1, e2, rfl, rfl⟩ := hr
  obtain ⟨u1, ⟨t1, rfl⟩, g1⟩ := free_at I hP hl e1 kl fl ql S.kind
  obtain ⟨u2, ⟨t2, rfl⟩, g2⟩ := free_at I hP hh e2 kh fh qh S.kind
  obtain ⟨t, rfl⟩ := ra
  refine BoolOp_or (wpAny_Compare1 (local_at h1 S.kind S.loc hn hmx dp (g1 cenv A E _ s2 p2 h1 h2 h3 dl cl (lt_int (wpAny_truthy_bool ?_)))) (nomark _))
  by_cases c : p < l
  · rw [decide_eq_true c, if_pos rfl, Bool.true_or]
    exact ⟨rfl, keeps_self _⟩
  · rw [decide_eq_false c, if_neg Bool.false_ne_true, Bool.false_or]
    exact BoolOp_one (wpAny_Compare1 (local_at h1 S.kind S.loc hn hmx dp (g2 cenv A E _ s2 p5 h1 h2 h3 dh ch (gt_int ⟨rfl, keeps_self _⟩))) (nomark _))
/-- firsts[low] == firsts[high] -/
def rSame (K : PySem.W.Frag) (i : Nat) : L2.St → Hp → V → V → Bool → Prop := fun σ H a a2 b => ∃ (q : Addr) (fs : List V) (l h : Nat) (x y : Int), σ[i]? = some (some (.ref q)) ∧ SqL K H q fs ∧ a = .int (l : Nat) ∧ a2 = .int (h : Nat) ∧ fs[l]? = some (.int x) ∧ fs[h]? = some (.int y) ∧ b = (x == y)
theorem el_same {scope : Scope} {xf xl xh : Str} {i : Nat} {p1 p2 p3 p4 p5 p6 p7 : Pos} (S : GxR.GenS X.env scope xl) (sh : scope.names.lookup xh = some .local := by rfl) (hf : X.N[i]? = some xf := by rfl) (kf : X.env.scope.names.lookup xf = some .cell := by rfl)
    (ff : scope.names.lookup xf = some .free := by rfl) (qf : (cloFrom X.env.cells scope.names []).lookup xf = X.env.cells.lookup xf := by rfl)
    (df : (xf == ("__debug__" : Str)) = false := by decide) (dl : (xl == ("__debug__" : Str)) = false := by decide) (dh : (xh == ("__debug__" : Str)) = false := by decide) (cf : (xf == ("__classdict__" : Str)) = false := by decide) :
    EltP2 X scope xl xh (.Compare (.Subscript (.Name xf p1) (.Name xl p2) p3) [.Eq] [.Subscript (.Name xf p4) (.Name xh p5) p6] p7) P (rSame X.K i) := by
  intro pins σ H s a a2 v v2 b I hP ra ra2 hr cenv A E s2 m h1 h2 _ h3 hn hmx hmy
  obtain ⟨q, fs, l, h, x, y, e1, e2, rfl, rfl, e3, e4, rfl⟩ := hr
  obtain ⟨u1, r1, g1⟩ := free_at I hP hf e1 kf ff qf S.kind
  cases r1
  obtain ⟨t, rfl⟩ := ra
  obtain ⟨t2, rfl⟩ := ra2
  obtain ⟨its, rv, pl, hz⟩ := I.list e2
  have hn' := line63
  have pl2 : PlainL s2.heap q its.toArray := by
    have n := list_ne (tbl_of I hP) pl
    obtain ⟨o, k, e5, e6⟩ := pl
    exact ⟨o, k, h3 q o n e5, e6⟩
  have at_ : ∀ (j : Nat) (z : Int), fs[j]? = some (.int z) → ∃ t, its[j]? = some (.int z t) := fun j z e => by
    obtain ⟨u, e5, t, rfl⟩ := rv.get e
    exact ⟨t, e5⟩
  obtain ⟨t3, e5⟩ := at_ l x e3
  obtain ⟨t4, e6⟩ := at_ h y e4
  have l1 := (List.getElem?_eq_some_iff.mp e5).1
  have l2 := (List.getElem?_eq_some_iff.mp e6).1
  have hz2 := rv.length
  refine wpAny_Compare1 (Subscript_ (g1 cenv A E _ s2 p1 h1 h2 h3 df cf (local_at h1 S.kind S.loc hn hmx dl ?_))) (nomark _)
  refine item_listR pl2.isList (by omega) (by omega) (by simpa using e5) ?_ rfl
  refine Subscript_ (g1 cenv A E _ s2 p4 h1 h2 h3 df cf (local_at h1 S.kind sh hn hmy dh ?_))
  exact item_listR pl2.isList (by omega) (by omega) (by simpa using e6) (eq_int ⟨rfl, keeps_self _⟩) rfl
end
end Nc

/-! ### zip whose pairs are kept: for pair in zip(a, b) -/
namespace Nc
open PySem
open Sem (wp)
/-- a zip; own: what it knows of the pair that it gave out -/
def zo (own : Value) (f : Bool) (TI TO : Addr) : Obj := { cls := .type "zip", dict := none, data := .fields #[own, .bool f, .bool false, .ref TI, .ref TO], slots := #[] }
section
variable {prog : Program} {w : World} {A : Around} {z TI TO i1 i2 : Addr} {fp1 fp2 : List Addr} {n1 n2 i : Nat} {P1 P2 : Nat → Value → Prop} {St1 St2 : Nat → Heap → Prop} {s : Shared} {own : Value} {f : Bool}
/-- the pair is free: a new one is made, the old one's place used again -/
def Loose (prog : Program) (w : World) (z : Addr) (s : Shared) : Prop := ∀ (A : Around) (Q : Bool → Shared → Prop) (E : Value → Shared → Prop), Q true s → wpAny (model prog w) A (Builtin.SmallTypes.ownedTupleIsFree (.ref z)) Q E s
theorem loose_none (hz : s.heap.get? z = some (zo .none f TI TO)) : Loose prog w z s := fun A Q E q => by
  unfold Builtin.SmallTypes.ownedTupleIsFree
  exact wpAny_bind (wpAny_field hz rfl (i := 0) rfl (wpAny_pure q))
theorem alive_or {a : Addr} {Q : Option Obj → Shared → Prop} {E : Value → Shared → Prop} (q : Q (s.heap.get? a) s) : wpAny (model prog w) A (loadIfAlive a) Q E s := fun _ _ _ => q
theorem loose_gone {T : Addr} (hz : s.heap.get? z = some (zo (rawInt T) f TI TO)) (hT : s.heap.get? T = none) : Loose prog w z s := fun A Q E q => by
  unfold Builtin.SmallTypes.ownedTupleIsFree
  refine wpAny_bind (wpAny_field hz rfl (i := 0) (x := rawInt T) rfl ?_)
  show wpAny _ _ (loadIfAlive (Int.toNat (T : Int)) >>= _) _ _ _
  rw [Int.toNat_natCast]
  refine wpAny_bind (alive_or ?_)
  rw [hT]
  exact wpAny_pure q
/-- a turn with a loose pair -/
theorem zip_loose {Q : Fin → Shared → Prop} {E : Value → Shared → Prop} (S : ZipSep2 z TI TO i1 i2 fp1 fp2) (D1 : Draws prog w A i1 fp1 n1 P1 St1) (D2 : Draws prog w A i2 fp2 n2 P2 St2) (hz : s.heap.get? z = some (zo own f TI TO)) (hl : Loose prog w z s) (hI : IsTupOf2 s.heap TI (.ref i1) (.ref i2))
    (hO : ∃ a b, IsTupOf2 s.heap TO a b) (s1 : St1 i s.heap) (s2 : St2 i s.heap) (l1 : i ≤ n1) (l2 : i ≤ n2)
    (hQ : i < n1 → i < n2 → ∀ (x1 x2 : Value) (h' : Heap) (tk : Nat), P1 i x1 → P2 i x2 → h'.get? z = some (zo (rawInt s.heap.objs.size) false TI TO) → (∃ a b, IsTupOf2 h' TO a b) → St1 (i + 1) h' → St2 (i + 1) h' → IsTupOf2 h' s.heap.objs.size x1 x2 →
      (∀ c o, c ≠ z → c ≠ TO → c ≠ i1 → c ≠ i2 → s.heap.get? c = some o → h'.get? c = some o) → Q (.done (.ret (.ref s.heap.objs.size))) { s with heap := h', toks := tk })
    (hE : (i = n1 ∨ i = n2) → ∀ (h' : Heap) (tk : Nat) (e : Addr), (∀ c o, c ≠ z → c ≠ TO → c ≠ i1 → c ≠ i2 → s.heap.get? c = some o → h'.get? c = some o) → (∃ o, h'.get? e = some o ∧ o.cls = .type "StopIteration") → E (.ref e) { s with heap := h', toks := tk }) :
    wpAny (model prog w) A (Builtin.«zip.__next__» ⟨[.ref z], []⟩) Q E s := by
  obtain ⟨h0, gs, dr, t0, os⟩ := s
  obtain ⟨a, b, hO⟩ := hO
  show wpAny _ _ (field (.ref z) 2 >>= _) _ _ _
  refine wpAny_bind (wpAny_field (i := 2) hz rfl (x := .bool false) rfl ?_)
  show wpAny _ _ (field (.ref z) 3 >>= _) _ _ _
  refine wpAny_bind (wpAny_field (i := 3) hz rfl (x := .ref TI) rfl (wpAny_bind (wpAny_seqItems hI rfl ?_)))
  show wpAny _ _ (Builtin.SmallTypes.ownedTupleIsFree (.ref z) >>= _) _ _ _
  refine wpAny_bind (hl _ _ _ ?_)
  rw [if_pos rfl]
  refine wpAny_bind (wpAny_rule (wpAny_bind (wpAny_field (i := 4) hz rfl (x := .ref TO) rfl (wpAny_bind (wpAny_setField_rec (k := 0) (x := .ellipsis) hz (by simp) fun ha za ea => ?_)))))
  have za : ha.get? z = some (zo .ellipsis f TI TO) := za
  have ea : Heap.SameBut z h0 ha := ea
  refine wpAny_bind ?_
  simp only [List.zipIdx_cons, List.zipIdx_nil, List.forIn_cons, List.forIn_nil]
  refine wpAny_bind (wpAny_bind (wpAny_onRaise ?_))
  show wpAny _ _ (Builtin.SmallTypes.nextOf (.ref i1) >>= _) _ _ ⟨ha, gs, dr, t0, os⟩
  -- an iterator has ended: the zip is loose
  have over : ∀ {it : Addr} {hb : Heap} {tk : Nat} {e : Addr} {hc : Heap}, it ≠ z → hb.get? z = some (zo .ellipsis f TI TO) → Heap.ExtBut it hb hc → (∃ o, hc.get? e = some o ∧ o.cls = .type "StopIteration") → (it = i1 ∨ it = i2) → (i = n1 ∨ i = n2) →
      (∀ c o, c ≠ z → c ≠ TO → c ≠ i1 → c ≠ i2 → h0.get? c = some o → hb.get? c = some o) → wpAny (model prog w) A (setField (.ref z) 0 .none) (fun _ s'' => E (.ref e) s'') E ⟨hc, gs, dr, tk, os⟩ := by
    intro it hb tk e hc n zb ec he hit hi kb
    obtain ⟨oe, ge, ce⟩ := he
    have zc : hc.get? z = some (zo .ellipsis f TI TO) := ec z _ n.symm zb
    have nez : e ≠ z := fun q => by
      rw [q, zc] at ge
      cases ge
      have ce : Value.type "zip" = Value.type "StopIteration" := ce
      exact absurd (Value.type.inj ce) (by decide)
    refine wpAny_setField_rec zc (by simp [zo]) fun hd zd ed => hE hi hd tk e (fun c o c1 c2 c3 c4 g => ed.extBut c o c1 (ec c o (by rcases hit with q | q <;> rw [q] <;> assumption) (kb c o c1 c2 c3 c4 g))) ⟨oe, ed.extBut e oe nez ge, ce⟩
  rcases Nat.lt_or_ge i n1 with c1 | c1
  · refine wpAny_bind (D1.item i _ _ _ c1 (D1.over s1 ea S.zf1) fun x1 hb tb p1 q1 eb => wpAny_pure ?_)
    have eb : Heap.SameBut i1 ha hb := eb
    have Ob : IsTupOf2 hb TO a b := eb.extBut TO _ S.Ti1 (ea.extBut TO _ S.TOz hO)
    refine wpAny_bind (wpAny_seqItems (s := ⟨hb, gs, dr, tb, os⟩) Ob rfl (wpAny_bind (updateSeq_IsTupOf2 (s := ⟨hb, gs, dr, tb, os⟩) Ob fun hc Oc ec => wpAny_bind (wpAny_letGo (wpAny_pure ?_)))))
    have Oc : IsTupOf2 hc TO x1 b := Oc
    have ec : Heap.SameBut TO hb hc := ec
    refine wpAny_bind (wpAny_bind (wpAny_onRaise ?_))
    show wpAny _ _ (Builtin.SmallTypes.nextOf (.ref i2) >>= _) _ _ ⟨hc, gs, dr, tb, os⟩
    have q2 : St2 i hc := D2.over (D2.over (D2.over s2 ea S.zf2) eb S.sep1_2) ec S.Tf2
    have zc : hc.get? z = some (zo .ellipsis f TI TO) := ec.extBut z _ S.TOz.symm (eb.extBut z _ S.zi1 za)
    have kc : ∀ c o, c ≠ z → c ≠ TO → c ≠ i1 → c ≠ i2 → h0.get? c = some o → hc.get? c = some o := fun c o n1 n2 n3 n4 g => ec.extBut c o n2 (eb.extBut c o n3 (ea.extBut c o n1 g))
    rcases Nat.lt_or_ge i n2 with c2 | c2
    · refine wpAny_bind (D2.item i _ _ _ c2 q2 fun x2 hd td p2 r2 ed => wpAny_pure ?_)
      have ed : Heap.SameBut i2 hc hd := ed
      have Od : IsTupOf2 hd TO x1 b := ed.extBut TO _ S.Ti2 Oc
      refine wpAny_bind (wpAny_seqItems (s := ⟨hd, gs, dr, td, os⟩) Od rfl (wpAny_bind (updateSeq_IsTupOf2 (s := ⟨hd, gs, dr, td, os⟩) Od fun he Oe ee => wpAny_bind (wpAny_letGo (wpAny_pure (wpAny_pure ?_))))))
      have Oe : IsTupOf2 he TO x1 x2 := Oe
      have ee : Heap.SameBut TO hd he := ee
      refine wpAny_bind (wpAny_seqItems (s := ⟨he, gs, dr, td, os⟩) Oe rfl (wpAny_bind (wpAny_newTuple ?_)))
      have size : he.objs.size = h0.objs.size := by rw [ee.1, ed.1, ec.1, eb.1, ea.1]
      have ze : he.get? z = some (zo .ellipsis f TI TO) := ee.extBut z _ S.TOz.symm (ed.extBut z _ S.zi2 zc)
      have lz : z < he.objs.size := Heap.lt_size ze
      have ke : ∀ c o, c ≠ z → c ≠ TO → c ≠ i1 → c ≠ i2 → h0.get? c = some o → he.get? c = some o := fun c o n1 n2 n3 n4 g => ee.extBut c o n2 (ed.extBut c o n4 (kc c o n1 n2 n3 n4 g))
      have r1 : St1 (i + 1) he := D1.over (D1.over (D1.over q1 ec S.Tf1) ed S.sep2_1) ee S.Tf1
      have r2 : St2 (i + 1) he := D2.over r2 ee S.Tf2
      show wpAny _ _ (Builtin.SmallTypes.ownedTupleHandOut (.ref z) (.ref he.objs.size) >>= _) _ _ ⟨he.push { cls := .type "tuple", data := .seq #[x1, x2] }, gs, dr, td, os⟩
      refine wpAny_bind ?_
      unfold Builtin.SmallTypes.ownedTupleHandOut
      have zp : (he.push { cls := .type "tuple", data := .seq #[x1, x2] }).get? z = some (zo .ellipsis f TI TO) := Heap.get?_push_of_some _ ze
      refine wpAny_bind (wpAny_setField_rec zp (by simp [zo]) fun hg zg eg => ?_)
      have zg : hg.get? z = some (zo (rawInt he.objs.size) f TI TO) := zg
      refine wpAny_setField_rec zg (by simp [zo]) fun hh zh eh => ?_
      have zh : hh.get? z = some (zo (rawInt he.objs.size) false TI TO) := zh
      have up : ∀ c o, c ≠ z → (he.push { cls := .type "tuple", data := .seq #[x1, x2] }).get? c = some o → hh.get? c = some o := fun c o n g => eh.extBut c o n (eg.extBut c o n g)
      have up2 : ∀ c o, c ≠ z → he.get? c = some o → hh.get? c = some o := fun c o n g => up c o n (Heap.get?_push_of_some _ g)
      have new : IsTupOf2 hh he.objs.size x1 x2 := up _ _ (Nat.ne_of_gt lz) (Heap.get?_push_size _ rfl)
      refine wpAny_pure ?_
      rw [size] at zh new ⊢
      exact hQ c1 c2 x1 x2 hh td p1 p2 zh ⟨x1, x2, up2 TO _ S.TOz Oe⟩ (D1.frame _ _ _ r1 fun c hc o g => up2 c o (fun q => S.zf1 (q ▸ hc)) g) (D2.frame _ _ _ r2 fun c hc o g => up2 c o (fun q => S.zf2 (q ▸ hc)) g) new fun c o n1 n2 n3 n4 g => up2 c o n1 (ke c o n1 n2 n3 n4 g)
    · have c2 : i = n2 := Nat.le_antisymm l2 c2
      exact wpAny_bind (D2.done ⟨hc, gs, dr, tb, os⟩ _ _ (c2 ▸ q2) fun hd e ed he => over (it := i2) S.zi2.symm zc ed he (.inr rfl) (.inr c2) kc)
  · have c1 : i = n1 := Nat.le_antisymm l1 c1
    exact wpAny_bind (D1.done ⟨ha, gs, dr, t0, os⟩ _ _ (c1 ▸ D1.over s1 ea S.zf1) fun hd e ed he => over (it := i1) S.zi1.symm za ed he (.inl rfl) (.inl c1) fun c o n1 _ _ _ g => ea.extBut c o n1 g)
/-- a turn while the pair that it gave out is still held -/
theorem zip_out {T : Addr} {oT : Obj} {Q : Fin → Shared → Prop} {E : Value → Shared → Prop} (S : ZipSep2 z TI TO i1 i2 fp1 fp2) (D1 : Draws prog w A i1 fp1 n1 P1 St1) (D2 : Draws prog w A i2 fp2 n2 P2 St2) (hz : s.heap.get? z = some (zo (rawInt T) f TI TO)) (hT : s.heap.get? T = some oT) (hI : IsTupOf2 s.heap TI (.ref i1) (.ref i2))
    (s1 : St1 i s.heap) (s2 : St2 i s.heap) (l1 : i ≤ n1) (l2 : i ≤ n2)
    (hQ : i < n1 → i < n2 → ∀ (x1 x2 : Value) (h' : Heap) (tk : Nat), P1 i x1 → P2 i x2 → h'.get? z = some (zo (rawInt T) true TI TO) → St1 (i + 1) h' → St2 (i + 1) h' → IsTupOf2 h' s.heap.objs.size x1 x2 →
      (∀ c o, c ≠ z → c ≠ i1 → c ≠ i2 → s.heap.get? c = some o → h'.get? c = some o) → Q (.done (.ret (.ref s.heap.objs.size))) { s with heap := h', toks := tk })
    (hE : (i = n1 ∨ i = n2) → ∀ (h' : Heap) (tk : Nat) (e : Addr), (∀ c o, c ≠ z → c ≠ i1 → c ≠ i2 → s.heap.get? c = some o → h'.get? c = some o) → (∃ o, h'.get? e = some o ∧ o.cls = .type "StopIteration") → E (.ref e) { s with heap := h', toks := tk }) :
    wpAny (model prog w) A (Builtin.«zip.__next__» ⟨[.ref z], []⟩) Q E s := by
  obtain ⟨h0, gs, dr, t0, os⟩ := s
  show wpAny _ _ (field (.ref z) 2 >>= _) _ _ _
  refine wpAny_bind (wpAny_field (i := 2) hz rfl (x := .bool false) rfl ?_)
  show wpAny _ _ (field (.ref z) 3 >>= _) _ _ _
  refine wpAny_bind (wpAny_field (i := 3) hz rfl (x := .ref TI) rfl (wpAny_bind (wpAny_seqItems hI rfl ?_)))
  show wpAny _ _ (Builtin.SmallTypes.ownedTupleIsFree (.ref z) >>= _) _ _ _
  refine wpAny_bind (wpAny_tupleHeld_zip (TI := TI) (TO := TO) (T := T) (f := f) hz hT fun ha za ea => ?_)
  have za : ha.get? z = some (zo (rawInt T) true TI TO) := za
  have ea : Heap.SameBut z h0 ha := ea
  rw [if_neg Bool.false_ne_true]
  refine wpAny_bind ?_
  rw [← Array.forIn_toList]
  simp only [List.forIn_cons, List.forIn_nil]
  refine wpAny_bind (wpAny_bind (wpAny_holding ?_))
  show wpAny _ _ (Builtin.SmallTypes.nextOf (.ref i1) >>= _) _ _ ⟨ha, gs, dr, t0, os⟩
  rcases Nat.lt_or_ge i n1 with c1 | c1
  · refine wpAny_bind (D1.item i _ _ _ c1 (D1.over s1 ea S.zf1) fun x1 hb tb p1 q1 eb => wpAny_pure (wpAny_pure ?_))
    have eb : Heap.SameBut i1 ha hb := eb
    refine wpAny_bind (wpAny_bind (wpAny_holding ?_))
    show wpAny _ _ (Builtin.SmallTypes.nextOf (.ref i2) >>= _) _ _ ⟨hb, gs, dr, tb, os⟩
    have q2 : St2 i hb := D2.over (D2.over s2 ea S.zf2) eb S.sep1_2
    have zb : hb.get? z = some (zo (rawInt T) true TI TO) := eb.extBut z _ S.zi1 za
    rcases Nat.lt_or_ge i n2 with c2 | c2
    · refine wpAny_bind (D2.item i _ _ _ c2 q2 fun x2 hd td p2 r2 ed => wpAny_pure (wpAny_pure (wpAny_pure ?_)))
      have ed : Heap.SameBut i2 hb hd := ed
      show wpAny _ _ (newTuple [x1, x2] >>= _) _ _ ⟨hd, gs, dr, td, os⟩
      refine wpAny_bind (wpAny_newTuple (wpAny_pure ?_))
      have size : hd.objs.size = h0.objs.size := by rw [ed.1, eb.1, ea.1]
      have zd : hd.get? z = some (zo (rawInt T) true TI TO) := ed.extBut z _ S.zi2 zb
      have r1 : St1 (i + 1) hd := D1.over q1 ed S.sep2_1
      have up : ∀ c o, hd.get? c = some o → (hd.push { cls := .type "tuple", data := .seq #[x1, x2] }).get? c = some o := fun c o g => Heap.get?_push_of_some _ g
      have new : IsTupOf2 (hd.push { cls := .type "tuple", data := .seq #[x1, x2] }) hd.objs.size x1 x2 := Heap.get?_push_size _ rfl
      show Q (.done (.ret (.ref hd.objs.size))) _
      rw [size] at new ⊢
      exact hQ c1 c2 x1 x2 _ td p1 p2 (up _ _ zd) (D1.frame _ _ _ r1 fun c _ o g => up c o g) (D2.frame _ _ _ r2 fun c _ o g => up c o g) new fun c o m1 m2 m3 g => up c o (ed.extBut c o m3 (eb.extBut c o m2 (ea.extBut c o m1 g)))
    · have c2 : i = n2 := Nat.le_antisymm l2 c2
      exact wpAny_bind (D2.done ⟨hb, gs, dr, tb, os⟩ _ _ (c2 ▸ q2) fun hd e ed he => hE (.inr c2) hd tb e (fun c o m1 m2 m3 g => ed c o m3 (eb.extBut c o m2 (ea.extBut c o m1 g))) he)
  · have c1 : i = n1 := Nat.le_antisymm l1 c1
    exact wpAny_bind (D1.done ⟨ha, gs, dr, t0, os⟩ _ _ (c1 ▸ D1.over s1 ea S.zf1) fun hd e ed he => hE (.inl c1) hd t0 e (fun c o m1 m2 m3 g => ed c o m2 (ea.extBut c o m1 g)) he)
/-- a zip wherever its last pair is -/
def Zip (z TI TO i1 i2 : Addr) (h : Heap) : Prop := (∃ (own : Value) (f : Bool), (own = .none ∨ ∃ T : Addr, own = rawInt T) ∧ h.get? z = some (zo own f TI TO)) ∧ IsTupOf2 h TI (.ref i1) (.ref i2) ∧ ∃ a b, IsTupOf2 h TO a b
theorem zip_any {Q : Fin → Shared → Prop} {E : Value → Shared → Prop} (S : ZipSep2 z TI TO i1 i2 fp1 fp2) (D1 : Draws prog w A i1 fp1 n1 P1 St1) (D2 : Draws prog w A i2 fp2 n2 P2 St2) (hz : Zip z TI TO i1 i2 s.heap) (s1 : St1 i s.heap) (s2 : St2 i s.heap) (l1 : i ≤ n1) (l2 : i ≤ n2)
    (hQ : i < n1 → i < n2 → ∀ (x1 x2 : Value) (h' : Heap) (tk : Nat), P1 i x1 → P2 i x2 → Zip z TI TO i1 i2 h' → St1 (i + 1) h' → St2 (i + 1) h' → IsTupOf2 h' s.heap.objs.size x1 x2 →
      (∀ c o, c ≠ z → c ≠ TO → c ≠ i1 → c ≠ i2 → s.heap.get? c = some o → h'.get? c = some o) → Q (.done (.ret (.ref s.heap.objs.size))) { s with heap := h', toks := tk })
    (hE : (i = n1 ∨ i = n2) → ∀ (h' : Heap) (tk : Nat) (e : Addr), (∀ c o, c ≠ z → c ≠ TO → c ≠ i1 → c ≠ i2 → s.heap.get? c = some o → h'.get? c = some o) → (∃ o, h'.get? e = some o ∧ o.cls = .type "StopIteration") → E (.ref e) { s with heap := h', toks := tk }) :
    wpAny (model prog w) A (Builtin.«zip.__next__» ⟨[.ref z], []⟩) Q E s := by
  obtain ⟨⟨own, f, ho, hz⟩, hI, hO⟩ := hz
  have free : Loose prog w z s → wpAny (model prog w) A (Builtin.«zip.__next__» ⟨[.ref z], []⟩) Q E s := fun hl =>
    zip_loose S D1 D2 hz hl hI hO s1 s2 l1 l2 (fun c1 c2 x1 x2 h' tk p1 p2 z' O' r1 r2 t k => hQ c1 c2 x1 x2 h' tk p1 p2 ⟨⟨_, _, .inr ⟨_, rfl⟩, z'⟩, k TI _ S.TIz S.TITO S.TIi1 S.TIi2 hI, O'⟩ r1 r2 t k) hE
  rcases ho with rfl | ⟨T, rfl⟩
  · exact free (loose_none hz)
  · cases hT : s.heap.get? T with
    | none => exact free (loose_gone hz hT)
    | some oT =>
      obtain ⟨a, b, hO⟩ := hO
      exact zip_out S D1 D2 hz hT hI s1 s2 l1 l2 (fun c1 c2 x1 x2 h' tk p1 p2 z' r1 r2 t k => hQ c1 c2 x1 x2 h' tk p1 p2 ⟨⟨_, _, .inr ⟨_, rfl⟩, z'⟩, k TI _ S.TIz S.TIi1 S.TIi2 hI, a, b, k TO _ S.TOz (fun q => S.Ti1 (by rw [q])) (fun q => S.Ti2 (by rw [q])) hO⟩ r1 r2 t fun c o m1 _ m3 m4 g => k c o m1 m3 m4 g)
        fun c h' tk e k he => hE c h' tk e (fun c o m1 _ m3 m4 g => k c o m1 m3 m4 g) he
theorem next_zip {Q : Option Value → Shared → Prop} {E : Value → Shared → Prop} (S : ZipSep2 z TI TO i1 i2 fp1 fp2) (D1 : Draws prog w A.in1 i1 fp1 n1 P1 St1) (D2 : Draws prog w A.in1 i2 fp2 n2 P2 St2) (hz : Zip z TI TO i1 i2 s.heap) (s1 : St1 i s.heap) (s2 : St2 i s.heap) (l1 : i ≤ n1) (l2 : i ≤ n2)
    (hQ : i < n1 → i < n2 → ∀ (x1 x2 : Value) (h' : Heap) (tk : Nat), P1 i x1 → P2 i x2 → Zip z TI TO i1 i2 h' → St1 (i + 1) h' → St2 (i + 1) h' → IsTupOf2 h' s.heap.objs.size x1 x2 →
      (∀ c o, c ≠ z → c ≠ TO → c ≠ i1 → c ≠ i2 → s.heap.get? c = some o → h'.get? c = some o) → Q (some (.ref s.heap.objs.size)) { s with heap := h', toks := tk })
    (hE : (i = n1 ∨ i = n2) → ∀ (h' : Heap) (tk : Nat), (∀ c o, c ≠ z → c ≠ TO → c ≠ i1 → c ≠ i2 → s.heap.get? c = some o → h'.get? c = some o) → Q none { s with heap := h', toks := tk }) :
    wpAny (model prog w) A (pyNext (.ref z)) Q E s := by
  have ty : s.TypeIs (.ref z) "zip" := by
    obtain ⟨⟨own, f, _, g⟩, _⟩ := hz
    exact ⟨_, g, rfl⟩
  unfold pyNext
  refine wpAny_bind (wpAny_attempt (wpAny_callSpecial?_slot (name := Str.ofString "__next__") ty F.slot_zip_next (wpAny_call_entry F.slot_zip_next ty F.entry_zip_next ?_ (F.args_zip_next_1 _))))
  refine zip_any S D1 D2 hz s1 s2 l1 l2 (fun c1 c2 x1 x2 h' tk p1 p2 z' r1 r2 t k => ⟨_, rfl, wpAny_pure (hQ c1 c2 x1 x2 h' tk p1 p2 z' r1 r2 t k)⟩) fun c h' tk e k he => ?_
  obtain ⟨o, g, hc⟩ := he
  exact wpAny_bind (wpAny_isInstance (T := "StopIteration") (b := true) ⟨o, g, hc⟩ isSubtype_stop (wpAny_pure (hE c h' tk k)))
end
end Nc
namespace Nc
open PySem PySem.Spec PyProof.Rows L2
/-- two tuples, the items in new pairs that may be kept -/
def ItzN (K : PySem.W.Frag) (a b : Addr) : It :=
  ⟨fun i H => ∃ (xs ys : List V) (x y : V), SqT K H a xs ∧ SqT K H b ys ∧ xs[i]? = some x ∧ ys[i]? = some y,
   fun i H v H' => ∃ T x y, v = .ref T ∧ H T = none ∧ H' = upd H T (.tup [x, y]) ∧ (∀ xs, SqT K H a xs → xs[i]? = some x) ∧ ∀ ys, SqT K H b ys → ys[i]? = some y,
   fun i H => ∃ xs ys : List V, SqT K H a xs ∧ SqT K H b ys ∧ i ≤ xs.length ∧ i ≤ ys.length ∧ (i = xs.length ∨ i = ys.length)⟩
theorem turn_zipN {P : Program} {w : World} {K : PySem.W.Frag} {x : Str} {px : Pos} {a b z TI TO i1 i2 : Addr} (S : ZipSep2 z TI TO i1 i2 [i1, a] [i2, b]) (n1 : a ≠ i1) (n2 : b ≠ i2) :
    Turn P w K (.Name x px) (ItzN K a b) [z, TI, TO, i1, i2] z (fun i h => Zip z TI TO i1 i2 h ∧ h.IsTupleIter i1 a i ∧ h.IsTupleIter i2 b i) where
  mem := List.mem_cons_self ..
  obj := fun i h st c hc => by
    obtain ⟨⟨⟨own, f, _, g⟩, g2, a1, a2, g3⟩, ⟨o1, e1, _, d1⟩, ⟨o2, e2, _, d2⟩⟩ := st
    have hc : c = z ∨ c = TI ∨ c = TO ∨ c = i1 ∨ c = i2 := by simpa using hc
    rcases hc with q | q | q | q | q <;> rw [q]
    · exact ⟨_, g, fun v q => by cases q⟩
    · exact ⟨_, g2, fun v q => by cases q⟩
    · exact ⟨_, g3, fun v q => by cases q⟩
    · exact ⟨o1, e1, fun v q => by rw [d1] at q; cases q⟩
    · exact ⟨o2, e2, fun v q => by rw [d2] at q; cases q⟩
  keep := fun i h h' st k => by
    obtain ⟨⟨⟨own, f, ho, g⟩, g2, a1, a2, g3⟩, h1, h2⟩ := st
    exact ⟨⟨⟨own, f, ho, k z (by simp) _ g⟩, k TI (by simp) _ g2, a1, a2, k TO (by simp) _ g3⟩, h1.at fun o q => k i1 (by simp) o q, h2.at fun o q => k i2 (by simp) o q⟩
  item := by
    intro X hP hw hK hc i pins s σ H E I hf st hg
    subst hP hw hK
    obtain ⟨hz, h1, h2⟩ := st
    obtain ⟨xs, ys, x, y, qx, qy, ex, ey⟩ := hg
    obtain ⟨us, rx, px, _⟩ := I.tuple qx
    obtain ⟨ws, ry, py, _⟩ := I.tuple qy
    obtain ⟨u, eu, ru⟩ := rx.get ex
    obtain ⟨v, ev, rv⟩ := ry.get ey
    have lu : i < us.toArray.size := by rw [List.size_toArray]; exact (List.getElem?_eq_some_iff.mp eu).1
    have lv : i < ws.toArray.size := by rw [List.size_toArray]; exact (List.getElem?_eq_some_iff.mp ev).1
    have hh := I.ok.hd hc
    refine next_zip S (Draws.tuple (A := X.A.in1) hh i1 a n1 us.toArray) (Draws.tuple (A := X.A.in1) hh i2 b n2 ws.toArray) hz ⟨h1, px⟩ ⟨h2, py⟩ (Nat.le_of_lt lu) (Nat.le_of_lt lv) (fun _ _ x1 x2 h' tk p1 p2 z' r1 r2 t k => ?_) fun c => absurd c (by omega)
    have e1 : x1 = u := by
      have q : us.toArray[i]? = some u := by simpa using eu
      rw [q] at p1; exact (Option.some.inj p1).symm
    have e2 : x2 = v := by
      have q : ws.toArray[i]? = some v := by simpa using ev
      rw [q] at p2; exact (Option.some.inj p2).symm
    subst e1 e2
    refine ⟨_, rfl, ?_⟩
    show wpAny _ _ (pure ()) _ _ _
    have new : ObjOk X.prog X.w (upd H s.heap.objs.size (.tup [x, y])) h' s.heap.objs.size (.tup [x, y]) := ⟨by show 2 ≤ sizeLine; decide, [x1, x2], .cons ru (.cons rv .nil), ⟨_, t, rfl, _, rfl⟩⟩
    have I1 : Inv X pins σ (upd H s.heap.objs.size (.tup [x, y])) { s with heap := h', toks := tk } :=
      I.turnedNew (ch := [z, TI, TO, i1, i2]) (fun c o hb g => k c o (fun q => hb (by simp [q])) (fun q => hb (by simp [q])) (fun q => hb (by simp [q])) (fun q => hb (by simp [q])) g) hf (Nat.le_refl _) new
    refine wpAny_pure ⟨.ref s.heap.objs.size, _, I1, rfl, ⟨_, x, y, rfl, I.hok.fresh (Nat.le_refl _), rfl, fun l q => by rw [I.tuple_inj q qx]; exact ex, fun l q => by rw [I.tuple_inj q qy]; exact ey⟩, ⟨z', r1.1, r2.1⟩, fun c hcm => ?_⟩
    have there : ∃ o, s.heap.get? c = some o := by
      obtain ⟨⟨⟨own, f, _, g⟩, g2, a1, a2, g3⟩, ⟨o1, e1, _⟩, ⟨o2, e2, _⟩⟩ := And.intro hz (And.intro h1 h2)
      have hc : c = z ∨ c = TI ∨ c = TO ∨ c = i1 ∨ c = i2 := by simpa using hcm
      rcases hc with q | q | q | q | q <;> rw [q]
      · exact ⟨_, g⟩
      · exact ⟨_, g2⟩
      · exact ⟨_, g3⟩
      · exact ⟨_, e1⟩
      · exact ⟨_, e2⟩
    obtain ⟨o, g⟩ := there
    rw [upd_ne (Nat.ne_of_lt (Heap.lt_size g))]
    exact (hf c hcm).1
  done := by
    intro X hP hw hK hc i pins s σ H E I hf st hg
    subst hP hw hK
    obtain ⟨hz, h1, h2⟩ := st
    obtain ⟨xs, ys, qx, qy, l1, l2, he⟩ := hg
    obtain ⟨us, rx, px, _⟩ := I.tuple qx
    obtain ⟨ws, ry, py, _⟩ := I.tuple qy
    have z1 := rx.length
    have z2 := ry.length
    have zu : us.toArray.size = us.length := List.size_toArray ..
    have zw : ws.toArray.size = ws.length := List.size_toArray ..
    have hh := I.ok.hd hc
    refine next_zip S (Draws.tuple (A := X.A.in1) hh i1 a n1 us.toArray) (Draws.tuple (A := X.A.in1) hh i2 b n2 ws.toArray) hz ⟨h1, px⟩ ⟨h2, py⟩ (by omega) (by omega) (fun c1 c2 => absurd he (by omega)) fun _ h' tk k => ⟨rfl, ?_⟩
    exact I.turnedL (ch := [z, TI, TO, i1, i2]) (fun c o hb g => k c o (fun q => hb (by simp [q])) (fun q => hb (by simp [q])) (fun q => hb (by simp [q])) (fun q => hb (by simp [q])) g) hf
  self := fun A i s Q E st h => by
    obtain ⟨⟨⟨own, f, _, g⟩, _⟩, _⟩ := st
    have ty : s.TypeIs (.ref z) "zip" := ⟨_, g, rfl⟩
    have run : wpAny (model P w) A.in1 (ret (.ref z)) (fun fin s' => ∃ v, fin = .done (.ret v) ∧ ∃ T r, s'.TypeIs v T ∧ typeLookup (.type T) "__next__" = pure (some r) ∧ Q v s') E s := wpAny_pure ⟨_, rfl, "zip", _, ty, F.slot_zip_next.lookup, h⟩
    exact wpAny_pyIter_slot ty F.slot_zip_iter (wpAny_call_entry F.slot_zip_iter ty F.entry_zip_iter run (F.args_zip_iter_1 _))
def iZipN (K : PySem.W.Frag) (ta : TA) : TI := fun σ H R => ta σ H fun vs H1 => ∃ a b xs ys, vs = [.ref a, .ref b] ∧ SqT K H1 a xs ∧ SqT K H1 b ys ∧ R (ItzN K a b) H1
theorem pi_zipN {X : Cx} {e e2 : Expr} {ta : TA} {p pos px : Pos} {x : Str} (hg : Gl X "zip") (hm : X.mg "zip" = none) (ha : PA X [e, e2] ta)
    (hs : starEach [e, e2] X.env = (false, eval e X.env) :: starEach [e2] X.env := by rfl) (hpl : (backTo pos (starEach [e2] X.env)).any (·.1) = false := by rfl) :
    PI X (.Name x px) (.Call (.Name "zip" p) [e, e2] [] pos) (iZipN X.K ta) := by
  constructor
  intro pins s σ H R I h
  refine Call_ (ld_blt I hg hm PyProof.Rows.boot_zip (PyProof.Rows.callWith_type1 (thn (ha.run pos pins s σ H _ I h) fun us s1 hv => ?_) hs hpl))
  obtain ⟨vs, H1, I1, r1, a, b, xs, ys, rfl, qx, qy, q⟩ := hv
  cases r1 with
  | cons ra rr =>
    cases rr with
    | cons rb rr =>
      cases rr; cases ra; cases rb
      obtain ⟨us, rx, px, _⟩ := I1.tuple qx
      obtain ⟨ws, ry, py, _⟩ := I1.tuple qy
      have la : a < s1.heap.objs.size := by obtain ⟨_, g, _⟩ := id px; exact Heap.lt_size g
      have lb : b < s1.heap.objs.size := by obtain ⟨_, g, _⟩ := id py; exact Heap.lt_size g
      refine RZ.call_zipT (xs := us.toArray) (ys := ws.toArray) px py fun h' hz hI hO h1 h2 _ k => wpAny_pyIter_zip hz ?_
      have I2 : Inv X pins σ H1 { s1 with heap := h' } := I1.kept (t' := s1.toks) k
      have S := zip_sep2 (N := s1.heap.objs.size) (fp1 := [a]) (fp2 := [b]) (fun c hc => by rw [List.mem_singleton.mp hc]; exact la) (fun c hc => by rw [List.mem_singleton.mp hc]; exact lb)
      refine ⟨s1.heap.objs.size + 4, _, _, _, H1, rfl, I2, turn_zipN S (Nat.ne_of_lt la) (Nat.ne_of_lt (Nat.lt_succ_of_lt lb)), ⟨⟨⟨.none, false, .inl rfl, hz⟩, hI, _, _, hO⟩, h1, h2⟩, fun c hc => ?_, q⟩
      have above : s1.heap.objs.size ≤ c := by
        have hc : c = s1.heap.objs.size + 4 ∨ c = s1.heap.objs.size + 2 ∨ c = s1.heap.objs.size + 3 ∨ c = s1.heap.objs.size ∨ c = s1.heap.objs.size + 1 := by simpa using hc
        rcases hc with q | q | q | q | q <;> rw [q]
        · exact Nat.le_add_right _ _
        · exact Nat.le_add_right _ _
        · exact Nat.le_add_right _ _
        · exact Nat.le_refl _
        · exact Nat.le_add_right _ _
      exact I1.fpOk above (I1.hok.fresh above)
theorem walk_zipN {K : PySem.W.Frag} {a b : Addr} {xs ys : List V} : Walk (ItzN K a b) (min xs.length ys.length) (fun H => SqT K H a xs ∧ SqT K H b ys) (YPair (fun i => xs[i]?) (fun i => ys[i]?)) := by
  refine ⟨fun i H hi q => ⟨xs, ys, xs[i]'(by omega), ys[i]'(by omega), q.1, q.2, List.getElem?_eq_getElem _, List.getElem?_eq_getElem _⟩, fun H q => ⟨xs, ys, q.1, q.2, by omega, by omega, by omega⟩, fun i H v H' _ q y => ?_⟩
  obtain ⟨T, x, z, h1, h2, h3, h4, h5⟩ := y
  exact ⟨T, x, z, h1, h2, h3, h4 xs q.1, h5 ys q.2⟩
end Nc

namespace Nc
open PySem PySem.Spec PyProof.Rows L2 Evl
/-! ### [e for x in list for y in zip(a, b)] -/
section
variable {σ : L2.St} {Hb H H' H1 H2 : Hp} {F : List Addr} {ds : List Dt} {te tl : TE} {ar : TA} {K : PySem.W.Frag} {Dl : Addr}
theorem cd_more (p : Cd Hb F H1 Dl ds H) (e : Ex H H') : Cd Hb F H1 Dl ds H' := by
  obtain ⟨h1, h2, xs, h3, r⟩ := p
  exact ⟨h1, h2.trans (less_mono e), xs, e _ _ h3, r.mono (less_mono e)⟩
theorem cd_to (p : Cd Hb F H1 Dl ds H) (e : Ex H2 H1) : Cd Hb F H2 Dl ds H := by
  obtain ⟨h1, h2, xs, h3, r⟩ := p
  exact ⟨fresh_back e h1, e.trans h2, xs, h3, r⟩
theorem cd_cut (p : Cd Hb F H1 Dl ds H) : Cd Hb F (less H [Dl]) Dl ds H := by
  obtain ⟨h1, h2, xs, h3, r⟩ := p
  exact ⟨less_none (by simp), Ex.refl _, xs, h3, r⟩
theorem cd_beside (S1 : Beside Hb F H1) (p : Cd Hb F H1 Dl ds H) : Beside (less H (Dl :: F)) (Dl :: F) H := ⟨less_ex, fun a ha => ⟨less_none ha, by
  obtain ⟨h1, h2, xs, h3, r⟩ := p
  rcases List.mem_cons.mp ha with e | ha
  · rw [e]; exact ⟨xs, h3⟩
  · exact ((S1.on (h2.trans less_ex)).at_ a ha).2⟩⟩
def outZ (A B : Nat → List Dt) (E : Nat → Nat → Dt) (i : Nat) : List Dt := (List.range (min (A i).length (B i).length)).map (E i)
def preZ (A B : Nat → List Dt) (E : Nat → Nat → Dt) (n : Nat) : List Dt := (List.range n).flatMap (outZ A B E)
theorem preZ_next (A B : Nat → List Dt) (E : Nat → Nat → Dt) (n : Nat) : preZ A B E (n + 1) = preZ A B E n ++ outZ A B E n := by
  unfold preZ
  rw [List.range_succ, List.flatMap_append]
  simp
theorem preZ_le (A B : Nat → List Dt) (E : Nat → Nat → Dt) : ∀ {n m : Nat}, n ≤ m → (preZ A B E n).length ≤ (preZ A B E m).length := by
  intro n m h
  induction h with
  | refl => exact Nat.le_refl _
  | step _ ih => rw [preZ_next, List.length_append]; omega
theorem map_next {α : Type} (f : Nat → α) (n : Nat) : (List.range (n + 1)).map f = (List.range n).map f ++ [f n] := by
  rw [List.range_succ, List.map_append]; rfl
theorem ef_lc2Z {j j1 : Nat} {vs vs1 : List Nat} (A B : Nat → List Dt) (E : Nat → Nat → Dt) (h : EvD tl σ Hb (.lst ds)) (hz : (preZ A B E ds.length).length ≤ 40000) (hw : ∀ x, wipe ((wipe σ vs).set j (some x)) vs = wipe σ vs) (hw1 : ∀ (σ2 : L2.St) x, wipe ((wipe σ2 vs1).set j1 (some x)) vs1 = wipe σ2 vs1)
    (hs : ∀ (i : Nat) (d : Dt) (v : V) H1, Ex Hb H1 → ds[i]? = some d → Rp Any H1 v d → EvDs ar ((wipe σ vs).set j (some v)) H1 [.tup (A i), .tup (B i)])
    (he : ∀ (i l : Nat) (d x y : Dt) (v p : V) H1, Ex Hb H1 → ds[i]? = some d → Rp Any H1 v d → (A i)[l]? = some x → (B i)[l]? = some y → Rp Any H1 p (.tup [x, y]) → EvD te ((wipe ((wipe σ vs).set j (some v)) vs1).set j1 (some p)) H1 (E i l)) :
    EvF (tLc2 (iList K tl) (gName j) tYes (iZipN K ar) (gName j1) tYes te vs vs1) σ Hb (preZ A B E ds.length) := fun F H S Q q => h F H S _ fun w H1 e1 r => by
  obtain ⟨a, xs, rfl, _, hx, rs⟩ := r.lstI
  have S1 := S.on e1
  refine ⟨a, rfl, ⟨xs, sq_of (less_ex a _ hx)⟩, fun Dl hD => ⟨fun i m H' => m = ds.length - i ∧ i ≤ ds.length ∧ Cd Hb F H1 Dl (preZ A B E i) H', ⟨_, rfl, Nat.zero_le _, cd_start hD⟩, fun i m H2 hW => ?_⟩⟩
  obtain ⟨rfl, hi, p⟩ := hW
  have hax : SqL K H2 a xs := sq_of (less_ex a _ (p.2.1 a _ (less_ex a _ hx)))
  rcases Nat.lt_or_ge i ds.length with c | c
  · obtain ⟨d, hd⟩ : ∃ d, ds[i]? = some d := ⟨_, List.getElem?_eq_getElem c⟩
    obtain ⟨v, hv, rv⟩ := rs.get hd
    refine .inr ⟨⟨xs, v, hax, hv⟩, fun H' => Cd Hb F H1 Dl (preZ A B E (i + 1)) H', fun H' p' => ⟨_, by omega, rfl, c, p'⟩, fun x H' y => ?_⟩
    obtain ⟨rfl, hy⟩ := y
    have hy := hy xs hax
    rw [hv] at hy
    cases hy
    have eb := cd_base S1 p
    have eh : Ex Hb (less H' (Dl :: F)) := (S.lessEx e1).trans eb
    refine ⟨hw _, et_yes H' (Ex.refl H') _ fun H0 e0 => ?_⟩
    rw [if_pos rfl]
    have p := cd_more p e0
    have eb : Ex (less H1 F) (less H0 (Dl :: F)) := eb.trans (less_mono e0)
    have eh : Ex Hb (less H0 (Dl :: F)) := eh.trans (less_mono e0)
    have S2 := cd_beside S1 p
    refine hs i d v _ eh hd (rv.mono eb) _ _ S2 _ fun ws H3 e3 rw3 => ?_
    cases rw3 with
    | cons ra rw3 =>
      cases rw3 with
      | cons rb rw3 =>
        cases rw3
        obtain ⟨ta, as, rfl, ha, rsa⟩ := ra.tupI
        obtain ⟨tb, bs, rfl, hb, rsb⟩ := rb.tupI
        have p3 := cd_cut (cd_more p e3)
        have e13 : Ex H1 (less H3 [Dl]) := p.2.1.trans (less_mono e3)
        have S3 : Beside Hb F (less H3 [Dl]) := S1.on e13
        have la := rsa.length
        have lb := rsb.length
        refine ⟨ta, tb, as, bs, rfl, st_of (less_ex _ _ ha), st_of (less_ex _ _ hb), fun l k H4 => k = min (A i).length (B i).length - l ∧ l ≤ min (A i).length (B i).length ∧ Cd Hb F (less H3 [Dl]) Dl (preZ A B E i ++ (List.range l).map (E i)) H4, ⟨_, rfl, Nat.zero_le _, by simpa using p3⟩, fun l k H4 hW1 => ?_⟩
        obtain ⟨rfl, hl, p4⟩ := hW1
        have e34 : Ex (less H3 (Dl :: F)) (less H4 (Dl :: F)) := fun b o hb => by
          have hb2 : b ∉ Dl :: F := fun z => by rw [less_none z] at hb; cases hb
          rw [less_some hb2] at hb ⊢
          have := p4.2.1 b o (by rw [less_some (fun z => hb2 (by simp at z; simp [z]))]; exact hb)
          rw [less_some (fun z => hb2 (by simp at z; simp [z]))] at this
          exact this
        have qa : SqT K H4 ta as := st_of (less_ex _ _ (e34 _ _ ha))
        have qb : SqT K H4 tb bs := st_of (less_ex _ _ (e34 _ _ hb))
        rcases Nat.lt_or_ge l (min (A i).length (B i).length) with c1 | c1
        · obtain ⟨x, hx1⟩ : ∃ x, (A i)[l]? = some x := ⟨_, List.getElem?_eq_getElem (by omega)⟩
          obtain ⟨y, hy1⟩ : ∃ y, (B i)[l]? = some y := ⟨_, List.getElem?_eq_getElem (by omega)⟩
          obtain ⟨u, hu, ru⟩ := rsa.get hx1
          obtain ⟨u2, hu2, ru2⟩ := rsb.get hy1
          refine .inr ⟨⟨as, bs, u, u2, qa, qb, hu, hu2⟩, fun H' => Cd Hb F (less H3 [Dl]) Dl (preZ A B E i ++ (List.range (l + 1)).map (E i)) H', fun H' p' => ⟨_, by omega, rfl, c1, p'⟩, fun z H5 yz => ?_⟩
          obtain ⟨T, z1, z2, rfl, hT, rfl, h1, h2⟩ := yz
          have h1 := h1 as qa
          have h2 := h2 bs qb
          rw [hu] at h1; rw [hu2] at h2
          cases h1; cases h2
          have eT : Ex H4 (L2.upd H4 T (.tup [u, u2])) := Ex.new hT
          have p5 := cd_more p4 eT
          have nT : T ∉ Dl :: F := fun z => by
            rcases List.mem_cons.mp z with z | z
            · obtain ⟨_, _, xs', h3, _⟩ := p4
              rw [← z, hT] at h3; cases h3
            · obtain ⟨zs, h3⟩ := ((S3.on (p4.2.1.trans less_ex)).at_ T z).2
              rw [hT] at h3; cases h3
          have e35 : Ex (less H3 (Dl :: F)) (less (L2.upd H4 T (.tup [u, u2])) (Dl :: F)) := e34.trans (less_mono eT)
          have e25 : Ex (less H0 (Dl :: F)) (less (L2.upd H4 T (.tup [u, u2])) (Dl :: F)) := (less_mono e3).trans e35
          refine ⟨hw1 _ _, ?_⟩
          refine cd_turn (R := fun H' => Cd Hb F (less H3 [Dl]) Dl (preZ A B E i ++ (List.range (l + 1)).map (E i)) H') p5 S3 ?_ (et_yes) (fun _ => he i l d x y v (.ref T) _ (eh.trans e25) hd (rv.mono (eb.trans e25)) hx1 hy1 (.tup (by rw [less_some nT]; exact upd_same) (.cons (ru.mono e35) (.cons (ru2.mono e35) .nil)))) (fun H' p' => ?_)
          · have z1 := preZ_le A B E (show i ≤ ds.length by omega)
            have z2 := preZ_le A B E (show i + 1 ≤ ds.length by omega)
            rw [preZ_next, List.length_append] at z2
            unfold outZ at z2
            rw [List.length_map, List.length_range] at z2
            rw [List.length_append, List.length_map, List.length_range]
            omega
          · rw [map_next, ← List.append_assoc]
            exact p'
        · have el : l = min (A i).length (B i).length := by omega
          refine .inl ⟨⟨as, bs, qa, qb, by omega, by omega, by omega⟩, ?_⟩
          rw [preZ_next]
          unfold outZ
          rw [← el]
          exact cd_to p4 e13
  · have e : i = ds.length := by omega
    subst e
    refine .inl ⟨⟨xs, hax, by rw [rs.length]; exact Nat.le_refl _⟩, ?_⟩
    obtain ⟨_, eb, ys, hy, ry⟩ := p
    exact q Dl ys H2 (fresh_back e1 hD) (e1.trans (eb.trans less_ex)) hy ry
end
end Nc

namespace Nc
open PySem PySem.Spec PyProof.Rows L2 Evl
/-! ### a def that holds a generator -/
structure FunC (K : PySem.W.Frag) (x qual : Str) (st : Stmt) (f : Addr) (fd : FuncData) (c P : Addr) : Prop where
  ex : ∃ (oc : Value) (od : Option Addr) (kV doc pm : Value) (an : Option Addr) (ct : Value) (osl : Array (Option Value)),
    fd = PySem.W.fnOf x qual (defArgs st) (defBody st) (defScope st) .none kV doc pm an (.ref c) ct ∧ K.lookup f = some ⟨oc, od, .func fd, osl⟩ ∧ PySem.W.codeIn K (.ref c) qual = true
  kp : PySem.W.keepIn K (.ref f) = true
  hd : PySem.W.codeHdIn K c P = true
section
variable {P : Program} {w : World} {K : PySem.W.Frag} {mg : Str → Option Value} {base : Heap} {x qual : Str} {st : Stmt} {f c T : Addr} {fd : FuncData}
theorem FunC.fn (F : FunC K x qual st f fd c T) : Fun K x qual st f fd := by
  obtain ⟨oc, od, kV, doc, pm, an, ct, osl, h⟩ := F.ex
  exact ⟨⟨oc, od, kV, doc, pm, an, .ref c, ct, osl, h⟩, F.kp⟩
theorem FunC.ok {N ps : List Str} {k : Nat} {sp : Sp} (F : FunC K x qual st f fd c T) (S : FnScope N ps (defScope st)) (len : ∀ vs H Q E, sp vs H Q E → vs.length = ps.length)
    (hb : ∀ (A : Around) (outer : List Env) (s : Shared) (H : Hp) (vs : List V) (Q : VK) (E : XK), Room k (A.deeper (envOfC qual (defScope st) s.heap.objs.size f (.ref c))) → sp vs H Q E →
      ∃ t, PSs (cxOf CX0 P w K mg base N qual (defScope st) f (.ref c) A outer s H E).nox (defBody st) t ∧ t { nx := fun _ H' => Q .non H', rt := Q } (start N vs) H) : FnOk P w K mg base CX0 (k + 1) f fd ps sp := by
  obtain ⟨oc, od, kV, doc, pm, an, ct, osl, rfl, lk, hcd⟩ := F.ex
  exact fn_of lk hcd S len fun A outer s H vs Q E hr hsp => let ⟨t, h, q⟩ := hb A outer s H vs Q E hr hsp; ⟨t, h.nox, q⟩
theorem FunC.okX {N ps : List Str} {k : Nat} {sp : Sp} (F : FunC K x qual st f fd c T) (S : FnScope N ps (defScope st)) (len : ∀ vs H Q E, sp vs H Q E → vs.length = ps.length)
    (hb : ∀ (A : Around) (outer : List Env) (s : Shared) (H : Hp) (vs : List V) (Q : VK) (E : XK), Room k (A.deeper (envOfC qual (defScope st) s.heap.objs.size f (.ref c))) → sp vs H Q E →
      ∃ t, PSs (cxOf (L2.CX P w) P w K mg base N qual (defScope st) f (.ref c) A outer s H E) (defBody st) t ∧ t { nx := fun _ H' => Q .non H', rt := Q } (start N vs) H) : FnOk P w K mg base (L2.CX P w) (k + 1) f fd ps sp := by
  obtain ⟨oc, od, kV, doc, pm, an, ct, osl, rfl, lk, hcd⟩ := F.ex
  exact fn_of lk hcd S len fun A outer s H vs Q E hr hsp => hb A outer s H vs Q E hr hsp
theorem funC_mk {oc : Value} {od an : Option Addr} {osl : Array (Option Value)} {kV doc pm ct : Value} (l : K.lookup f = some ⟨oc, od, .func (PySem.W.fnOf x qual (defArgs st) (defBody st) (defScope st) .none kV doc pm an (.ref c) ct), osl⟩)
    (h : PySem.W.codeIn K (.ref c) qual = true) (k : PySem.W.keepIn K (.ref f) = true) (d : PySem.W.codeHdIn K c T = true) : FunC K x qual st f (PySem.W.fnOf x qual (defArgs st) (defBody st) (defScope st) .none kV doc pm an (.ref c) ct) c T :=
  ⟨⟨oc, od, kV, doc, pm, an, ct, osl, rfl, l, h⟩, k, d⟩
end
/-- the scope of a generator, by a look -/
def genC (sc scope : Scope) (x : Str) : Bool := decide (scope.kind = .function) && !scope.isCoroutine && scope.names.all (fun y => !decide (y.2 = .cell)) && decide (scope.names.lookup (".0" : Str) = some NameKind.local) && decide (scope.names.lookup x = some .local) &&
  scope.names.all fun y => !decide (y.2 = .free) || decide (sc.names.lookup y.1 = some .cell)
theorem genS_by {qual : Str} {sc scope : Scope} {n : Nat} {f : Addr} {cd : Value} {x : Str} (h : genC sc scope x = true) : GxR.GenS (envOfC qual sc n f cd) scope x := by
  unfold genC at h
  simp only [Bool.and_eq_true, decide_eq_true_eq, List.all_eq_true, Bool.or_eq_true, Bool.not_eq_true', decide_eq_false_iff_not] at h
  obtain ⟨⟨⟨⟨⟨h1, h2⟩, h3⟩, h4⟩, h5⟩, h6⟩ := h
  refine ⟨h1, h2, h3, h4, h5, fun y hy e => ?_⟩
  rcases h6 y hy with z | z
  · exact absurd e z
  · exact Option.isSome_iff_exists.mp (PySem.W.cellsFrom_some sc.names (n + 1) [] (.inl z))
/-! ### promises of defs that need their table -/
def spT (P : Addr) (sp : Sp) : Sp := fun vs H Q E => H P = some (tblO P) ∧ sp vs H Q E
section
variable {mg : Str → Option Value} {σ : L2.St} {Hb H : Hp} {F : List Addr} {d : Dt} {ds : List Dt} {te : TE} {K : PySem.W.Frag} {E : XK} {ta : TA} {P : Addr}
theorem less_tbl (S : Beside Hb F H) (h : Hb P = some (tblO P)) : H P = some (tblO P) := S.ex P _ h
theorem en_callT {n : Nat} {pre : List Dt → Prop} {f : List Dt → Dt} (h : EvDs ta σ Hb ds) (hP : Hb P = some (tblO P)) (hp : pre ds) (hl : ds.length = n) : EvN (tCall (spT P (spD n pre f)) [] E ta) σ Hb (f ds) := fun F H S Q q =>
  h F H S _ fun vs H1 e1 r => by
    show spT P (spD n pre f) (vs ++ []) H1 Q E
    rw [List.append_nil]
    exact ⟨e1 P _ (less_tbl S hP), by rw [r.length]; exact hl, ds, r.mono less_ex, hp, fun v H' e2 rv => q v H' (e1.trans e2) (rv.wk fun a n => fresh_back e1 n)⟩
theorem ex_callT {n : Nat} {pre : List Dt → Prop} {f : List Dt → Except Str Dt} (h : EvDs ta σ Hb ds) (hP : Hb P = some (tblO P)) (hp : pre ds) (hl : ds.length = n) : EvX mg (tCall (spT P (spE mg n pre f)) [] E ta) σ Hb (f ds) E := fun F H S Q q qe =>
  h F H S _ fun vs H1 e1 r => by
    show spT P (spE mg n pre f) (vs ++ []) H1 Q E
    rw [List.append_nil]
    exact ⟨e1 P _ (less_tbl S hP), by rw [r.length]; exact hl, ds, r.mono less_ex, hp, fun d hd v H' e2 rv => q d hd v H' (e1.trans e2) (rv.wk fun a n => fresh_back e1 n), fun x hx H' e2 => qe x hx H' (e1.trans e2)⟩
/-! ### readings of all(..) -/
theorem natInt_get {g : List Nat} {i : Nat} {d : Dt} (h : (g.map fun x => Dt.int (x : Nat))[i]? = some d) : ∃ p, g[i]? = some p ∧ d = .int (p : Nat) := by
  rw [List.getElem?_map] at h
  cases hg : g[i]? with
  | none => rw [hg] at h; cases h
  | some p => rw [hg] at h; cases h; exact ⟨p, rfl, rfl⟩
theorem all_map {α : Type} (g : List α) (t : α → Bool) : (g.map t).all id = g.all t := by
  rw [List.all_map]; rfl
theorem ed_all1 {r : L2.St → Hp → V → Bool → Prop} {g : List Nat} (t : Nat → Bool) (h : EvD te σ Hb (dGrp g)) (hP : Hb P = some (tblO P)) (hr : ∀ p H1, Ex Hb H1 → p ∈ g → r σ H1 (.int (p : Nat)) (t p)) : EvD (tAll1 K P r te) σ Hb (.bl (g.all t)) := fun F H S Q q =>
  h F H S _ fun v H1 e1 rv => by
    obtain ⟨a, xs, rfl, hx, rs⟩ := rv.tupI
    refine ⟨a, xs, g.map t, rfl, .inr (st_of (less_ex _ _ hx)), e1 P _ (less_tbl S hP), by rw [rs.length, List.length_map, List.length_map], fun i x b hx1 hb => ?_, ?_⟩
    · obtain ⟨d, hd, rd⟩ := rs.getV hx1
      obtain ⟨p, hp, rfl⟩ := natInt_get hd
      rw [rd.intI]
      rw [List.getElem?_map, hp] at hb
      cases hb
      exact hr p H1 (S.ex.trans e1) (List.mem_of_getElem? hp)
    · rw [all_map]
      exact q _ H1 e1 (.bl _)
/-- a list of pairs of ints -/
def dPair (q : Nat × Nat) : Dt := .tup [.int (q.1 : Nat), .int (q.2 : Nat)]
def dPairs (l : List (Nat × Nat)) : Dt := .lst (l.map dPair)
theorem ed_all2 {r : L2.St → Hp → V → V → Bool → Prop} {l : List (Nat × Nat)} (t : Nat × Nat → Bool) (h : EvD te σ Hb (dPairs l)) (hP : Hb P = some (tblO P)) (hr : ∀ p H1, Ex Hb H1 → p ∈ l → r σ H1 (.int (p.1 : Nat)) (.int (p.2 : Nat)) (t p)) : EvD (tAll2 K P r te) σ Hb (.bl (l.all t)) := fun F H S Q q =>
  h F H S _ fun v H1 e1 rv => by
    obtain ⟨a, xs, rfl, _, hx, rs⟩ := rv.lstI
    have key : ∀ (xs : List V) (l : List (Nat × Nat)), RpL Any (less H1 F) xs (l.map dPair) → ∃ ts : List Addr, xs = ts.map V.ref ∧ ts.length = l.length ∧ ∀ (i : Nat) t p, ts[i]? = some t → l[i]? = some p → SqT K H1 t [.int (p.1 : Nat), .int (p.2 : Nat)] := by
      intro xs
      induction xs with
      | nil =>
        intro l rs
        have := rs.length
        rw [List.length_map] at this
        exact ⟨[], rfl, this, fun i t p ht => by simp at ht⟩
      | cons x xs ih =>
        intro l rs
        cases l with
        | nil => cases rs
        | cons p l =>
          cases rs with
          | cons r rs =>
            obtain ⟨ts, h1, h2, h3⟩ := ih l rs
            obtain ⟨b, ys, rfl, hb, rb⟩ := r.tupI
            cases rb with
            | cons r1 rb =>
              cases rb with
              | cons r2 rb =>
                cases rb
                rw [r1.intI, r2.intI] at hb
                refine ⟨b :: ts, by rw [h1]; rfl, by rw [List.length_cons, List.length_cons, h2], fun i t q ht hq => ?_⟩
                cases i with
                | zero =>
                  simp at ht hq
                  subst ht hq
                  exact st_of (less_ex _ _ hb)
                | succ i => exact h3 i t q (by simpa using ht) (by simpa using hq)
    obtain ⟨ts, rfl, hl, ht⟩ := key xs l rs
    refine ⟨a, ts, l.map fun p => (V.int (p.1 : Nat), V.int (p.2 : Nat)), l.map t, rfl, sq_of (less_ex _ _ hx), e1 P _ (less_tbl S hP), by rw [hl, List.length_map], fun i b y hb hy => ?_, by rw [List.length_map, List.length_map], fun i y b hy hb => ?_, ?_⟩
    · rw [List.getElem?_map] at hy
      cases hp : l[i]? with
      | none => rw [hp] at hy; cases hy
      | some p =>
        rw [hp] at hy; cases hy
        exact ht i b p hb hp
    · rw [List.getElem?_map] at hy hb
      cases hp : l[i]? with
      | none => rw [hp] at hy; cases hy
      | some p =>
        rw [hp] at hy hb; cases hy; cases hb
        exact hr p H1 (S.ex.trans e1) (List.mem_of_getElem? hp)
    · rw [all_map]
      exact q _ H1 e1 (.bl _)
theorem ed_mid {il ih : Nat} {l h : Int} {g : List Nat} (hg : EvD te σ Hb (dGrp g)) (hl : σ[il]? = some (some (.int l))) (hh : σ[ih]? = some (some (.int h))) (hP : Hb P = some (tblO P)) : EvD (tAll1 K P (rMid il ih) te) σ Hb (.bl (g.all fun p => decide (l < ((p : Nat) : Int)) && decide (((p : Nat) : Int) < h))) :=
  ed_all1 _ hg hP fun p H1 _ _ => ⟨l, _, h, hl, hh, rfl, rfl⟩
theorem ed_out {il ih : Nat} {l h : Int} {g : List Nat} (hg : EvD te σ Hb (dGrp g)) (hl : σ[il]? = some (some (.int l))) (hh : σ[ih]? = some (some (.int h))) (hP : Hb P = some (tblO P)) : EvD (tAll1 K P (rOut il ih) te) σ Hb (.bl (g.all fun p => decide (((p : Nat) : Int) < l) || decide (h < ((p : Nat) : Int)))) :=
  ed_all1 _ hg hP fun p H1 _ _ => ⟨l, _, h, hl, hh, rfl, rfl⟩
theorem ed_same {i : Nat} {v : V} {L : List Int} {l : List (Nat × Nat)} (hl : EvD te σ Hb (dPairs l)) (hv : σ[i]? = some (some v)) (rv : Rp Any Hb v (dInts L)) (hb : ∀ p ∈ l, p.1 < L.length ∧ p.2 < L.length) (hP : Hb P = some (tblO P)) : EvD (tAll2 K P (rSame K i) te) σ Hb (.bl (l.all fun p => li L p.1 == li L p.2)) :=
  ed_all2 _ hl hP fun p H1 e1 hp => by
    obtain ⟨a, xs, rfl, _, hx, rs⟩ := Rp.lstI rv
    have e := rs.ofInts
    subst e
    have at_ : ∀ k, k < L.length → (L.map V.int)[k]? = some (.int (li L k)) := fun k hk => by
      rw [List.getElem?_map, li_get hk]; rfl
    exact ⟨a, _, p.1, p.2, li L p.1, li L p.2, hv, sq_of (e1 _ _ hx), rfl, rfl, at_ _ (hb p hp).1, at_ _ (hb p hp).2, rfl⟩
end
end Nc

/-! ### the end of a law whose defs hold generators -/
namespace Nc
open PySem PySem.Spec PyProof.Rows L2 Evl
/-- the tables at Ts held by what they are -/
def heldT (Ts : List Addr) (H : Hp) : Hp := fun b => if b ∈ Ts then some (tblO b) else H b
open Classical in
/-- .. and by what they hold in h -/
noncomputable def grownT (Ts : List Addr) (h : Heap) (H : Hp) : Hp := fun b => if b ∈ Ts then some (.tbl (if t : Tbl b h then t.choose else #[])) else H b
section
variable {Ts : List Addr} {H : Hp} {h h' : Heap} {P : Program} {w : World}
theorem heldT_in {b : Addr} (hb : b ∈ Ts) : heldT Ts H b = some (tblO b) := if_pos hb
theorem heldT_out {b : Addr} (hb : b ∉ Ts) : heldT Ts H b = H b := if_neg hb
theorem held_ok (hT : ∀ b ∈ Ts, H b = some (.tbl #[])) (ok : HOk P w H h) : HOk P w (heldT Ts H) h := fun b u e => by
  by_cases hb : b ∈ Ts
  · rw [heldT_in hb] at e
    cases e
    exact tbl_ok ⟨#[], ok b _ (hT b hb), by simp [TriplesOk]⟩
  · rw [heldT_out hb] at e
    have out : ∀ c z, H c = some z → (∀ q, z ≠ .tbl q) → heldT Ts H c = some z := fun c z hc n => by
      rw [heldT_out fun m => n _ (Option.some.inj (hc.symm.trans (hT c m)))]; exact hc
    exact (ok b u e).stay (fun c v _ q => q) (fun c q => out c _ q (by intro z y; cases y)) fun c xs q => out c _ q (by intro z y; cases y)
theorem grown_at (ok : HOk P w (heldT Ts H) h) {b : Addr} (hb : b ∈ Ts) : ∃ ps, grownT Ts h H b = some (.tbl ps) ∧ h.get? b = some { cls := .none, data := .fields ps } := by
  have t : Tbl b h := (ok b _ (heldT_in hb)).1
  unfold grownT
  rw [if_pos hb, dif_pos t]
  exact ⟨_, rfl, t.choose_spec.1⟩
end
/-- the promise with tables that are empty at first -/
def spFin (Ts : List Addr) (sp : Sp) : Sp := fun vs H Q E => (∀ b ∈ Ts, H b = some (.tbl #[])) ∧ sp vs (heldT Ts H) (fun v H' => v = .bl true ∧ ∀ b ∈ Ts, H' b = some (tblO b)) (fun _ _ _ => False) ∧ ∀ H', Q (.bl true) H'
theorem fnOk_fin {P : Program} {w : World} {K : PySem.W.Frag} {mg : Str → Option Value} {base : Heap} {k : Nat} {f : Addr} {fd : FuncData} {ps : List Str} {sp : Sp} {Ts : List Addr} (F : FnOk P w K mg base CX0 k f fd ps sp) : FnOk P w K mg base CX0 k f fd ps (spFin Ts sp) := by
  refine ⟨fun vs H Q E h => F.len _ _ _ _ h.2.1, fun A outer s H args us vs Q E hr e0 hb hv hs => ?_⟩
  obtain ⟨hT, hsp, hQ⟩ := hs
  have nT : ∀ b, H b = none → b ∉ Ts := fun b n m => by rw [hT b m] at n; cases n
  have e1 : Env0 P w K mg base A outer s (heldT Ts H) := ⟨e0.frames, e0.mod, fun b o e => ⟨(e0.bs b o e).1, by rw [heldT_out (nT b (e0.bs b o e).2)]; exact (e0.bs b o e).2⟩, e0.bsz, e0.funs, fun b m => by rw [heldT_out (nT b (e0.frf b m))]; exact e0.frf b m, held_ok hT e0.hok, e0.bare⟩
  refine codeAny_mono (F.run A outer s _ args us vs _ _ hr e1 hb hv hsp) fun r s' hr => ?_
  cases r with
  | error e => exact hr.elim
  | ok fl =>
    cases fl with
    | next => exact hr.elim
    | brk => exact hr.elim
    | cont => exact hr.elim
    | ret u =>
      obtain ⟨v, H', os, bare, un, ok, rv, q⟩ := hr
      obtain ⟨rfl, hP⟩ : v = .bl true ∧ ∀ b ∈ Ts, H' b = some (tblO b) := q
      have okH : HOk P w (heldT Ts H') s'.heap := fun b u e => by
        by_cases m : b ∈ Ts
        · rw [heldT_in m] at e; cases e
          exact tbl_ok (ok b _ (hP b m)).1
        · rw [heldT_out m] at e
          have out : ∀ c z, H' c = some z → (∀ q, z ≠ .ext q) → heldT Ts H' c = some z := fun c z hc n => by
            rw [heldT_out fun m => n _ (Option.some.inj (hc.symm.trans (hP c m)))]; exact hc
          exact (ok b u e).stay (fun c v _ q => q) (fun c q => out c _ q (by intro z y; cases y)) fun c xs q => out c _ q (by intro z y; cases y)
      have atG := fun b m => grown_at (b := b) okH m
      have outG : ∀ b, b ∉ Ts → grownT Ts s'.heap H' b = H' b := fun b m => if_neg m
      have back : ∀ b z, H' b = some z → (∀ q, z ≠ .ext q) → b ∉ Ts := fun b z hb n m => n _ (Option.some.inj (hb.symm.trans (hP b m)))
      refine ⟨.bl true, grownT Ts s'.heap H', os, bare, ?_, ?_, rv, hQ _⟩
      · constructor
        · exact fun b o e n m1 m2 => un.keep b o e (by rw [heldT_out (nT b n)]; exact n) m1 m2
        · exact fun b o e n m1 m2 => un.slot b o e (by rw [heldT_out (nT b n)]; exact n) m1 m2
        · exact fun b o e n m2 => by
            rw [outG b (nT b n)]
            exact un.free b o e (by rw [heldT_out (nT b n)]; exact n) m2
        · exact un.there
        · intro b xs e
          have m : b ∉ Ts := fun m => by rw [hT b m] at e; cases e
          rw [outG b m]
          exact un.tups b xs (by rw [heldT_out m]; exact e)
        · intro b o u e
          have m : b ∉ Ts := fun m => by rw [hT b m] at e; cases e
          rw [outG b m]
          exact un.frzs b o u (by rw [heldT_out m]; exact e)
        · intro b ps e
          by_cases m : b ∈ Ts
          · rw [hT b m] at e
            cases e
            obtain ⟨qs, h1, _⟩ := atG b m
            exact ⟨qs, by rw [h1]; simp⟩
          · rw [outG b m]
            exact un.tbls b ps (by rw [heldT_out m]; exact e)
      · intro b u e
        by_cases m : b ∈ Ts
        · obtain ⟨qs, h1, h2⟩ := atG b m
          rw [h1] at e; cases e
          exact h2
        · rw [outG b m] at e
          exact (ok b u e).stay (fun c v _ q => q) (fun c q => by rw [outG c (back c _ q (by intro z y; cases y))]; exact q) fun c xs q => by rw [outG c (back c _ q (by intro z y; cases y))]; exact q
/-- the def of that name: its table is empty ahead of the call -/
def TabOf (K : PySem.W.Frag) (mg : Str → Option Value) (h : Heap) (x : Str) : Prop := ∀ f, mg x = some (.ref f) → LamX.OwnTab K f h
/-- what must be known of the law -/
def LawT (l : PySem.W.OpenLaw) (w : World) (K : PySem.W.Frag) (k n : Nat) (x : Str) (mg : Str → Option Value) (fa : Addr) (h : Heap) : Prop :=
  ∃ (fd : FuncData) (cs : List (Addr × Addr)) (sp : Sp), (∀ p ∈ cs, h.get? p.2 = some { cls := .none, data := .fields #[] } ∧ K.lookup p.2 = none ∧ PySem.W.CodeHd h p.1 p.2) ∧ (∀ (s : Shared) (u : Value), BindsTo s fd ⟨[u], []⟩ [(x, u)]) ∧
    (∀ (H : Hp) (a : Addr) (ns : List Int), ns.length ≤ n → (∀ p ∈ cs, H p.2 = some (tblO p.2)) → SqL K H a (ns.map V.int) → sp [.ref a] H (fun v H' => v = .bl true ∧ ∀ p ∈ cs, H' p.2 = some (tblO p.2)) fun _ _ _ => False) ∧
    ∀ base : Heap, K.In base → base.Ns mainGlobals mg → (∀ p ∈ cs, LamX.TabB base mg p.1 p.2) → FnOk l.prog w K mg base CX0 k fa fd [x] sp
theorem held_sq {K : PySem.W.Frag} {Ts : List Addr} {H : Hp} {a : Addr} {xs : List V} (hT : ∀ b ∈ Ts, H b = some (.tbl #[])) (h : SqL K H a xs) : SqL K (heldT Ts H) a xs := by
  have out : ∀ z, H a = some z → (∀ q, z ≠ .tbl q) → heldT Ts H a = some z := fun z hc n => by
    rw [heldT_out fun m => n _ (Option.some.inj (hc.symm.trans (hT a m)))]; exact hc
  rcases h with (h | ⟨o, h⟩) | h
  · exact .inl (.inl (out _ h (by intro z y; cases y)))
  · exact .inl (.inr ⟨o, out _ h (by intro z y; cases y)⟩)
  · exact .inr h
theorem walk_tab {l : PySem.W.OpenLaw} {n k : Nat} {q : Program} {loose : List Str} {XP : (Str → Option Value) → Heap → Prop} {YP : World → Heap → Prop} {d : DefRec} {K : Params → PySem.W.Frag} {x : Str} (xs : List Str) (hn : l.most = some n) (hn2 : n ≤ sizeLine) (hdf : d.params.defaults = []) (hr : Room k callerA)
    (hrec : (xs.all fun y => (recsOf q).any fun e => e.name == y) = true) (hY : ∀ (w : World) (h : Heap), YP w h → (K w.params).In h)
    (F : ∀ (w : World) (mg : Str → Option Value) (fa : Addr) (h : Heap), (K w.params).In h → h.Ns mainGlobals mg → mg d.name = some (.ref fa) → (∀ y ∈ xs, TabOf (K w.params) mg h y) → LawT l w (K w.params) k n x mg fa h) :
    PySem.W.WalkO q loose XP YP l.row.toRowW d [] (fun f vs => PySem.call f vs) := by
  refine Att.attach_callB hn hdf fun w s₀ s₁ mg mb fa o pm cd doc a vs ns G Y ho hd hcd hmg hobj hints hlen hbits hg => ?_
  have KX := hY w _ Y
  have tabs : ∀ y ∈ xs, TabOf (K w.params) mg s₁.heap y := fun y hy f hf c P o1 fd1 e dd ws sl k1 k2 k3 k4 k5 => by
    obtain ⟨dL, hm, he⟩ := List.any_eq_true.mp (List.all_eq_true.mp hrec y hy)
    obtain ⟨f', o', fd', c', P', g1, g2, g3, g4, _, ⟨oc, vc, g5, _, g6, g7⟩, g8⟩ := G.T.tab dL hm
    rw [beq_iff_eq.mp he, hf] at g1
    cases g1
    have z1 := KX _ _ k1
    rw [z1] at g2
    cases g2
    rw [k2] at g3
    cases g3
    rw [k3] at g4
    cases g4
    have z2 := KX _ _ k4
    rw [z2] at g5
    cases g5
    cases g6
    rw [k5] at g7
    cases g7
    exact g8
  obtain ⟨fd, cs, sp, hc, hb, hsp, hF⟩ := F w mg fa _ KX G.T.g hmg tabs
  refine LamX.law_callTs (sp := spFin (cs.map (·.2)) sp) (CX := CX0) KX G.T.g G.T.b G.T.builtins G.T.nolimit hg (fun p hp => (hc p hp).1) (fun p hp => (hc p hp).2.1) (fun p hp => (hc p hp).2.2) G.T.bmain hobj hints (Nat.le_trans hlen hn2) hr
    (fun base h1 h2 h3 => fnOk_fin (hF base h1 h2 h3)) hb (fun H hH hS => ?_) fun H e s' h => h
  have hT : ∀ b ∈ cs.map (·.2), H b = some (.tbl #[]) := fun b hb => by
    obtain ⟨p, hp, rfl⟩ := List.mem_map.mp hb
    exact hH p hp
  have hi : ∀ p ∈ cs, p.2 ∈ cs.map (·.2) := fun p hp => List.mem_map.mpr ⟨p, hp, rfl⟩
  refine ⟨hT, ?_, fun H' => rfl⟩
  have := hsp (heldT (cs.map (·.2)) H) a ns hlen (fun p hp => heldT_in (hi p hp)) (held_sq hT hS)
  have e : (fun (v : V) (H' : Hp) => v = .bl true ∧ ∀ b ∈ cs.map (·.2), H' b = some (tblO b)) = fun v H' => v = .bl true ∧ ∀ p ∈ cs, H' p.2 = some (tblO p.2) := by
    funext v H'
    rw [eq_iff_iff]
    constructor
    · exact fun h => ⟨h.1, fun p hp => h.2 _ (hi p hp)⟩
    · exact fun h => ⟨h.1, fun b hb => by obtain ⟨p, hp, rfl⟩ := List.mem_map.mp hb; exact h.2 p hp⟩
  rw [e]
  exact this
/-- the law's own promise, with the tables that it needs -/
def sp_lawT (K : PySem.W.Frag) (Ts : List Addr) : Sp := fun vs H Q _ => ∃ (a : Addr) (ns : List Int), vs = [.ref a] ∧ SqL K H a (ns.map V.int) ∧ (∀ T ∈ Ts, H T = some (tblO T)) ∧ ∀ H', Ex H H' → Q (.bl true) H'
theorem lawT_use {K : PySem.W.Frag} {cs : List (Addr × Addr)} {H : Hp} {a : Addr} {ns : List Int} (hT : ∀ p ∈ cs, H p.2 = some (tblO p.2)) (hS : SqL K H a (ns.map V.int)) : sp_lawT K (cs.map (·.2)) [.ref a] H (fun v H' => v = .bl true ∧ ∀ p ∈ cs, H' p.2 = some (tblO p.2)) fun _ _ _ => False :=
  ⟨a, ns, rfl, hS, fun T hm => by obtain ⟨p, hp, rfl⟩ := List.mem_map.mp hm; exact hT p hp, fun H' e => ⟨rfl, fun p hp => e _ _ (hT p hp)⟩⟩
end Nc

namespace Nc
open PySem PySem.Spec PyProof.Rows L2 Evl
/-! ### neighbours in a group -/
def bondsG (g : List Nat) : List (Nat × Nat) := g.zip (g.drop 1)
def bonds (gs : List (List Nat)) : List (Nat × Nat) := gs.flatMap bondsG
theorem bondsG_cons (x y : Nat) (l : List Nat) : bondsG (x :: y :: l) = (x, y) :: bondsG (y :: l) := rfl
theorem bondsG_all {β : Type} {h : Nat → β} : ∀ g : List Nat, (∀ p ∈ bondsG g, h p.1 = h p.2) ↔ ∀ x ∈ g, ∀ y ∈ g, h x = h y
  | [] => by simp [bondsG]
  | [x] => by simp [bondsG]
  | x :: y :: l => by
    have ih := bondsG_all (h := h) (y :: l)
    rw [bondsG_cons]
    constructor
    · intro q
      have q1 : h x = h y := q (x, y) (by simp)
      have q2 := ih.mp fun p hp => q p (List.mem_cons_of_mem _ hp)
      have q3 : ∀ z ∈ x :: y :: l, h z = h y := fun z hz => by
        rcases List.mem_cons.mp hz with e | hz
        · rw [e]; exact q1
        · exact q2 z hz y (by simp)
      exact fun a ha b hb => (q3 a ha).trans (q3 b hb).symm
    · intro q p hp
      rcases List.mem_cons.mp hp with e | hp
      · rw [e]; exact q x (by simp) y (by simp)
      · exact ih.mpr (fun a ha b hb => q a (List.mem_cons_of_mem _ ha) b (List.mem_cons_of_mem _ hb)) p hp
theorem bondsG_mem {g : List Nat} {p : Nat × Nat} (h : p ∈ bondsG g) : p.1 ∈ g ∧ p.2 ∈ g :=
  ⟨(List.of_mem_zip h).1, List.mem_of_mem_drop (List.of_mem_zip h).2⟩
theorem bonds_mem {gs : List (List Nat)} {p : Nat × Nat} (h : p ∈ bonds gs) : ∃ g ∈ gs, p.1 ∈ g ∧ p.2 ∈ g := by
  obtain ⟨g, hg, hp⟩ := List.mem_flatMap.mp h
  exact ⟨g, hg, bondsG_mem hp⟩
theorem bonds_iff {α β : Type} [DecidableEq α] {f : Nat → α} {h : Nat → β} {n : Nat} : (∀ p ∈ bonds (groupsOf f n), h p.1 = h p.2) ↔ ∀ i j, i < n → j < n → f i = f j → h i = h j := by
  constructor
  · intro q i j hi hj e
    have := (bondsG_all (h := h) (grp f n i)).mp fun p hp => q p (List.mem_flatMap.mpr ⟨_, grp_mem hi, hp⟩)
    exact this i (mem_grp.mpr ⟨hi, rfl⟩) j (mem_grp.mpr ⟨hj, e.symm⟩)
  · intro q p hp
    obtain ⟨g, hg, h1, h2⟩ := bonds_mem hp
    obtain ⟨i, hi, _, rfl⟩ := mem_groups.mp hg
    have h1 := mem_grp.mp h1
    have h2 := mem_grp.mp h2
    exact q _ _ h1.1 h2.1 (h1.2.trans h2.2.symm)
theorem bonds_len {gs : List (List Nat)} (h1 : gs.length ≤ 100) (h2 : ∀ g ∈ gs, g.length ≤ 100) : (bonds gs).length ≤ 10000 := by
  have key : ∀ gs : List (List Nat), (∀ g ∈ gs, g.length ≤ 100) → (bonds gs).length ≤ 100 * gs.length := by
    intro gs
    induction gs with
    | nil => intro _; exact Nat.le_refl _
    | cons g r ih =>
      intro h
      have i1 := ih fun x hx => h x (List.mem_cons_of_mem _ hx)
      have i2 := h g (by simp)
      have e : bonds (g :: r) = bondsG g ++ bonds r := by unfold bonds; rw [List.flatMap_cons]
      rw [e, List.length_append, List.length_cons]
      have i3 : (bondsG g).length ≤ g.length := by unfold bondsG; rw [List.length_zip]; omega
      omega
  have := key gs h2
  omega
/-- leaders told of any labelling's groups -/
theorem leadersM_get {α : Type} [DecidableEq α] {f : Nat → α} {n p : Nat} (hp : p < n) : lb (leadersM n (groupsOf f n)) p = (grp f n p).headD 0 := by
  unfold lb
  rw [List.getD_eq_getElem?_getD]
  have : (leadersM n (groupsOf f n))[p]? = some ((grp f n p).headD 0) := leaders_at _ (by rw [List.length_replicate]; exact hp) (fun g hg h => by rw [group_at hg h]) (.inl ⟨grp f n p, grp_mem hp, mem_grp.mpr ⟨hp, rfl⟩⟩)
  rw [this]; rfl
theorem grp_headD {α : Type} [DecidableEq α] {f : Nat → α} {n p : Nat} (hp : p < n) : (grp f n p).headD 0 ∈ grp f n p := by
  have hm : p ∈ grp f n p := mem_grp.mpr ⟨hp, rfl⟩
  cases h : grp f n p with
  | nil => rw [h] at hm; simp at hm
  | cons a l => simp
theorem leadersM_iff {α : Type} [DecidableEq α] {f : Nat → α} {n i j : Nat} (hi : i < n) (hj : j < n) : lb (leadersM n (groupsOf f n)) i = lb (leadersM n (groupsOf f n)) j ↔ f i = f j := by
  rw [leadersM_get hi, leadersM_get hj]
  constructor
  · intro h
    have h1 := (mem_grp.mp (grp_headD (f := f) hi)).2
    have h2 := (mem_grp.mp (grp_headD (f := f) hj)).2
    rw [← h1, ← h2, h]
  · intro h
    rw [grp_congr h]
/-! ### finer -/
def finM (n m : Nat) (gs hs : List (List Nat)) : Bool := (bonds gs).all fun p => li (ofN (leadersM m hs)) p.1 == li (ofN (leadersM m hs)) p.2
def finX (one other : Dt) : Except Str Dt := if one.many = other.many then .ok (.bl (finM one.many other.many one.grps other.grps)) else .error "Unlike"
theorem finM_iff {α β : Type} [DecidableEq α] [DecidableEq β] {f : Nat → α} {g : Nat → β} {n : Nat} : finM n n (groupsOf f n) (groupsOf g n) = true ↔ ∀ i j, i < n → j < n → f i = f j → g i = g j := by
  unfold finM
  simp only [List.all_eq_true, beq_iff_eq, li_ofN, Int.ofNat_inj]
  rw [← bonds_iff (f := f) (h := g) (n := n)]
  constructor
  · intro h p hp
    obtain ⟨x, hx, h1, h2⟩ := bonds_mem hp
    obtain ⟨i, _, _, rfl⟩ := mem_groups.mp hx
    exact (leadersM_iff (mem_grp.mp h1).1 (mem_grp.mp h2).1).mp (h p hp)
  · intro h p hp
    obtain ⟨x, hx, h1, h2⟩ := bonds_mem hp
    obtain ⟨i, _, _, rfl⟩ := mem_groups.mp hx
    exact (leadersM_iff (mem_grp.mp h1).1 (mem_grp.mp h2).1).mpr (h p hp)
def okFin (n : Nat) (gs : List (List Nat)) : Prop := okLeaders n gs ∧ gs.length ≤ 100 ∧ ∀ g ∈ gs, g.length ≤ 100
theorem okFin_groups {α : Type} [DecidableEq α] {f : Nat → α} {n : Nat} (h : n ≤ 100) : okFin n (groupsOf f n) := by
  refine ⟨⟨by omega, fun g hg => group_ne hg⟩, ?_, fun g hg => Nat.le_trans (group_size hg) h⟩
  have := gUp_len f n n
  unfold gUp at this
  unfold groupsOf
  omega
def sp__bonds : Sp := spD 1 (fun ds => ∃ n gs, ds = [dTie n gs] ∧ gs.length ≤ 100 ∧ ∀ g ∈ gs, g.length ≤ 100) fun ds => dPairs (bonds (ds.headD .non).grps)
def likeX (one other : Dt) : Except Str Dt := if one.many = other.many then .ok .non else .error "Unlike"
def sp__check_alike (mg : Str → Option Value) : Sp := spE mg 2 (fun ds => ∃ n gs m hs, ds = [dTie n gs, dTie m hs]) fun ds => likeX (ds.headD .non) (ds.getD 1 .non)
def sp_finer (mg : Str → Option Value) (T : Addr) : Sp := spT T (spE mg 2 (fun ds => ∃ n gs m hs, ds = [dTie n gs, dTie m hs] ∧ okFin n gs ∧ okFin m hs) fun ds => finX (ds.headD .non) (ds.getD 1 .non))
/-! rules -/
section
variable {σ : L2.St} {Hb H : Hp} {F : List Addr} {d : Dt} {ds : List Dt} {ta : TE} {K : PySem.W.Frag} {tl th : TO}
theorem ed_slT {lo hi : Option Int} (ha : EvD ta σ Hb (.tup ds)) (h1 : EvO tl σ Hb lo) (h2 : EvO th σ Hb hi) : EvD (tSl (rSlA K) ta tl th) σ Hb (.tup (cutD ds lo hi)) := fun F H S Q q =>
  ha.thn S fun x H2 e2 S2 rx => h1 H2 S2.ex _ fun H3 e3 => h2 H3 (S2.ex.trans e3) _ fun H4 e4 => by
    obtain ⟨a, xs, rfl, hx, rs⟩ := (rx.mono (less_mono (e3.trans e4))).tupI
    refine ⟨a, xs, rfl, st_of (less_ex a _ hx), fun hw => ?_, fun _ p hp => ?_⟩
    · have e : cutD ds lo hi = ds := by
        unfold cutD
        rw [← rs.length, hw.1, hw.2]
        rw [List.drop_zero, Nat.sub_zero, List.take_of_length_le (by rw [rs.length]; exact Nat.le_refl _)]
      exact q _ H4 ((e2.trans e3).trans e4) (by rw [e]; exact .tup hx rs)
    · have hn : p ∉ F := ((S.on ((e2.trans e3).trans e4))).new hp
      refine q _ _ (((e2.trans e3).trans e4).trans (Ex.new hp)) (.tup (by rw [less_some hn]; exact upd_same) ((rs.cut lo hi).mono (less_mono (Ex.new hp))))
end
theorem preZ_bonds (gs : List (List Nat)) : preZ (fun i => (gs.getD i []).map fun x => Dt.int (x : Nat)) (fun i => ((gs.getD i []).drop 1).map fun x => Dt.int (x : Nat)) (fun i l => dPair ((gs.getD i []).getD l 0, ((gs.getD i []).drop 1).getD l 0)) gs.length = (bonds gs).map dPair := by
  have one : ∀ i, outZ (fun i => (gs.getD i []).map fun x => Dt.int (x : Nat)) (fun i => ((gs.getD i []).drop 1).map fun x => Dt.int (x : Nat)) (fun i l => dPair ((gs.getD i []).getD l 0, ((gs.getD i []).drop 1).getD l 0)) i = (bondsG (gs.getD i [])).map dPair := fun i => by
    unfold outZ
    dsimp only
    generalize gs.getD i [] = g
    simp only [List.length_map]
    refine List.ext_getElem? fun j => ?_
    rw [List.getElem?_map, List.getElem?_map]
    unfold bondsG
    by_cases c : j < min g.length (g.drop 1).length
    · rw [List.getElem?_range c, (List.getElem?_zip_eq_some (z := (g[j]'(by omega), (g.drop 1)[j]'(by omega)))).mpr ⟨List.getElem?_eq_getElem (show j < g.length by omega), List.getElem?_eq_getElem (show j < (g.drop 1).length by omega)⟩]
      show some (dPair (g.getD j 0, (g.drop 1).getD j 0)) = some (dPair (_, _))
      rw [List.getD_eq_getElem?_getD, List.getD_eq_getElem?_getD, List.getElem?_eq_getElem (show j < g.length by omega), List.getElem?_eq_getElem (show j < (g.drop 1).length by omega)]; rfl
    · rw [List.getElem?_eq_none (by simpa using c), List.getElem?_eq_none (by rw [List.length_zip]; omega)]; rfl
  have all : ∀ m, m ≤ gs.length → preZ (fun i => (gs.getD i []).map fun x => Dt.int (x : Nat)) (fun i => ((gs.getD i []).drop 1).map fun x => Dt.int (x : Nat)) (fun i l => dPair ((gs.getD i []).getD l 0, ((gs.getD i []).drop 1).getD l 0)) m = (bonds (gs.take m)).map dPair := by
    intro m
    induction m with
    | zero => intro _; rfl
    | succ m ih =>
      intro hm
      rw [preZ_next, ih (by omega), one, List.take_add_one, List.getElem?_eq_getElem (show m < gs.length by omega)]
      unfold bonds
      rw [List.flatMap_append, List.map_append]
      congr 1
      rw [List.getD_eq_getElem?_getD, List.getElem?_eq_getElem (show m < gs.length by omega)]
      simp
  have := all gs.length (Nat.le_refl _)
  rw [List.take_length] at this
  exact this
end Nc

namespace Nc
open PySem PySem.Spec PyProof.Rows L2 Evl
/-! ### a is b, truths -/
def rIsBl : R2 := fun x y H Q => ∃ a b, x = .bl a ∧ y = .bl b ∧ Q (.bl (a == b)) H
theorem op_is_bl {X : Cx} : OpR X (compareOp .Is) rIsBl := by
  intro pins s σ H x y v u Q I rx ry h
  obtain ⟨a, b, rfl, rfl, q⟩ := h
  cases rx
  cases ry
  exact is_bool (fin_bl I q rfl)
section
variable {σ : L2.St} {Hb H : Hp} {F : List Addr} {d : Dt} {ds : List Dt} {te ta tb tf : TE} {K : PySem.W.Frag} {mg : Str → Option Value}
theorem ed_is_bl {a b : Bool} (ha : EvD ta σ Hb (.bl a)) (hb : EvD tb σ Hb (.bl b)) : EvD (tOp rIsBl ta tb) σ Hb (.bl (a == b)) := fun F H S Q q =>
  ha.thn S fun x H2 e2 S2 rx => hb.thn S2 fun y H3 e3 S3 ry => by
    rw [rx.blI, ry.blI]
    exact ⟨a, b, rfl, rfl, q _ H3 (e2.trans e3) (.bl _)⟩
end
/-! ### [f, g, ..][i](..): one of several defs that keep one promise -/
structure CalleeAt (P : Program) (w : World) (K : PySem.W.Frag) (mg : Str → Option Value) (base : Heap) (CX : CXT) (k : Nat) (f : Addr) (sp : Sp) : Prop where
  ex : ∃ fd ps, FnOk P w K mg base CX k f fd ps sp ∧ PySem.W.keepIn K (.ref f) = true ∧ Binds K fd ps []
section
variable {P : Program} {w : World} {K : PySem.W.Frag} {mg : Str → Option Value} {base : Heap} {CX : CXT} {k : Nat} {x : Str} {ps : List Str} {sp sp' : Sp}
theorem clO_of {a : Addr} (h : mg x = some (.ref a)) : clO mg x = a := by
  unfold clO
  rw [h]
theorem Callee.g (C : Callee P w K mg base CX k x ps sp) : mg x = some (.ref (clO mg x)) := by
  obtain ⟨f, fd, _, hm, _⟩ := C.ex
  rw [clO_of hm]; exact hm
theorem Callee.at {k' : Nat} (C : Callee P w K mg base CX k x ps sp) (h : ∀ vs H Q E, sp' vs H Q E → sp vs H Q E) (hk : k ≤ k') : CalleeAt P w K mg base CX k' (clO mg x) sp' := by
  obtain ⟨f, fd, F, hm, hkp, hb⟩ := C.ex
  rw [clO_of hm]
  exact ⟨fd, ps, (FnOk.weak F h).mono hk, hkp, hb⟩
def tCallAt (fs : List Addr) (sp : Sp) (E : L2.St → XK) (tf : TE) (t : TA) : TE := fun σ H Q => tf σ H fun v H1 => ∃ f, v = .ref f ∧ f ∈ fs ∧ t σ H1 fun vs H2 => sp vs H2 Q (E σ)
theorem pe_callAt {X : Cx} {fs : List Addr} {E : L2.St → XK} {fe e : Expr} {es : List Expr} {tf : TE} {t : TA} {pos : Pos} (C : ∀ f ∈ fs, CalleeAt X.prog X.w X.K X.mg X.base CX k f sp) (hr : Room k X.A) (hf : PE X fe tf) (hx : ∀ σ, PassesAt CX X σ (E σ)) (ha : PA X (e :: es) t)
    (hev : eval (.Call fe (e :: es) [] pos) X.env = (do callWith pos (← eval fe X.env) [] (backTo pos (starEach (e :: es) X.env)) (backToKw pos (keywordEach [] X.env))) := by rfl)
    (he : starEach (e :: es) X.env = (false, eval e X.env) :: starEach es X.env := by rfl) (hpl : (backTo pos (starEach es X.env)).any (·.1) = false := by rfl) : PE X (.Call fe (e :: es) [] pos) (tCallAt fs sp E tf t) := by
  constructor
  intro pins s σ H Q I h
  refine Call_ (thn (hf.run pins s σ H _ I h) fun v s1 hv => ?_) hev
  obtain ⟨z, H1, I1, rz, f, rfl, hm, q⟩ := hv
  cases rz
  obtain ⟨fd, ps, Fn, hk, hb⟩ := (C f hm).ex
  exact PySem.W.callWith_K (h₀ := X.base) I1.ok.mod.kin hk (thn (ha.run pos pins s1 σ H1 _ I1 q) fun us s2 h2 => let ⟨vs, H2, I2, r2, q2⟩ := h2; ⟨I2.kIn, run_fnS Fn hr hb (hx σ) I2 r2 q2⟩) he hpl
theorem drop_callAt {σ : L2.St} {Hb H : Hp} {F : List Addr} {De : Ends} {ds : List Dt} {n : Nat} {T : Addr} {pre : List Dt → Prop} {f : List Dt → Except Str Dt} {E : L2.St → XK} {ta : TA} {tf : TE} {fs : List Addr} {g : Addr} (S : Beside Hb F H) (hf : Ev tf σ Hb (.ref g)) (hg : g ∈ fs) (hT : Hb T = some (tblO T)) (h : EvDs ta σ Hb ds) (hp : pre ds) (hl : ds.length = n)
    (k : ∀ d, f ds = .ok d → ∀ H', Ex H H' → Beside Hb F H' → De.nx σ H') (ke : ∀ x, f ds = .error x → ∀ H', Ex H H' → E σ (.ref (clO mg x)) none H') : tDrop (tCallAt fs (spT T (spE mg n pre f)) E tf ta) De σ H :=
  hf H S.ex _ fun H1 e1 => ⟨g, rfl, hg, h F H1 (S.on e1) _ fun vs H2 e2 r => ⟨(S.ex.trans (e1.trans e2)) T _ hT, by rw [r.length]; exact hl, ds, r.mono less_ex, hp, fun d hd v H3 e3 _ => k d hd H3 ((e1.trans e2).trans e3) (S.on ((e1.trans e2).trans e3)), fun x hx H3 e3 => ke x hx H3 ((e1.trans e2).trans e3)⟩⟩
end
/-! ### comprehensions over enumerate(list) -/
section
variable {σ : L2.St} {Hb H : Hp} {F : List Addr} {d : Dt} {ds : List Dt} {te : TE} {ar : TA} {K : PySem.W.Frag}
theorem ef_lcE {t : TT} {j1 j2 : Nat} {vs : List Nat} (f : Nat → Bool) (g : Nat → Dt) (h : EvDs ar σ Hb [.lst ds]) (hz : ds.length ≤ 40000) (hw : ∀ x y, wipe (((wipe σ vs).set j1 (some x)).set j2 (some y)) vs = wipe σ vs)
    (ht : ∀ (i : Nat) (d : Dt) (v : V) H1, Ex Hb H1 → ds[i]? = some d → Rp Any H1 v d → EvT t (((wipe σ vs).set j1 (some (.int (i : Nat)))).set j2 (some v)) H1 (f i)) (he : ∀ (i : Nat) (d : Dt) (v : V) H1, Ex Hb H1 → ds[i]? = some d → Rp Any H1 v d → f i = true → EvD te (((wipe σ vs).set j1 (some (.int (i : Nat)))).set j2 (some v)) H1 (g i)) :
    EvF (tLc (iEnum K ar) (gTup K 2 (gCons (gName j1) (gCons (gName j2) gNil))) t te vs) σ Hb (stepsD ds.length f g) := fun F H S Q q => h F H S _ fun w H1 e1 r => by
  cases r with
  | cons r r' =>
    cases r'
    obtain ⟨a, xs, rfl, _, hx, rs⟩ := r.lstI
    have S1 := S.on e1
    have hl := rs.length
    refine ⟨a, xs, rfl, sq_of (less_ex a _ hx), fun Dl hD => ⟨fun i m H' => m = ds.length - i ∧ i ≤ ds.length ∧ Cd Hb F H1 Dl (stepsD i f g) H', ⟨_, rfl, Nat.zero_le _, cd_start hD⟩, fun i m H2 hW => ?_⟩⟩
    obtain ⟨rfl, hi, p⟩ := hW
    have hax : SqL K H2 a xs := sq_of (less_ex a _ (p.2.1 a _ (less_ex a _ hx)))
    rcases Nat.lt_or_ge i ds.length with c | c
    · obtain ⟨d, hd⟩ : ∃ d, ds[i]? = some d := ⟨_, List.getElem?_eq_getElem c⟩
      obtain ⟨v, hv, rv⟩ := rs.get hd
      refine .inr ⟨⟨xs, v, hax, hv⟩, fun H' => Cd Hb F H1 Dl (stepsD (i + 1) f g) H', fun H' p' => ⟨_, by omega, rfl, c, p'⟩, fun z H3 y => ?_⟩
      obtain ⟨T, x, rfl, hT, rfl, hy⟩ := y
      have hy := hy xs hax
      rw [hv] at hy
      cases hy
      have eT : Ex H2 (L2.upd H2 T (.tup [.int (i : Nat), v])) := Ex.new hT
      have p3 := cd_more p eT
      have eb := (cd_base S1 p).trans (less_mono eT)
      have eh : Ex Hb (less (L2.upd H2 T (.tup [.int (i : Nat), v])) (Dl :: F)) := (S.lessEx e1).trans eb
      refine ⟨T, [.int (i : Nat), v], rfl, st_of upd_same, rfl, .int (i : Nat), [v], rfl, v, [], rfl, rfl, hw _ _, ?_⟩
      refine cd_turn (R := fun H' => Cd Hb F H1 Dl (stepsD (i + 1) f g) H') p3 S1 (by have := stepsD_len i f g; omega) (ht i d v _ eh hd (rv.mono eb)) (fun hf => he i d v _ eh hd (rv.mono eb) hf) (fun H' c => ?_)
      rw [stepsD_next]; exact c
    · have e : i = ds.length := by omega
      subst e
      refine .inl ⟨⟨xs, hax, by rw [hl]; exact Nat.le_refl _⟩, ?_⟩
      obtain ⟨_, eb, ys, hy, ry⟩ := p
      exact q Dl ys H2 (fresh_back e1 hD) (e1.trans (eb.trans less_ex)) hy ry
end
section
variable {σ : L2.St} {Hb H : Hp} {F : List Addr} {d : Dt} {ds : List Dt} {ta tb : TE} {K : PySem.W.Frag}
/-- an item of a new list -/
theorem en_ixL {i : Int} (ha : EvN ta σ Hb (.lst ds)) (hb : EvD tb σ Hb (.int i)) (h : atI ds i = some d) : EvN (tOp (rIxL K) ta tb) σ Hb d := fun F H S Q q =>
  ha F H S _ fun x H2 e2 rx => hb F H2 (S.on e2) _ fun y H3 e3 ry => by
    obtain ⟨a, xs, rfl, n, hx, rs⟩ := (rx.mono e3).lstI
    obtain ⟨v, h1, h2⟩ := atI_rp rs h
    rw [ry.intI]
    exact ⟨a, xs, i, v, rfl, rfl, sq_of hx, h1, q v H3 (e2.trans e3) h2⟩
end
end Nc

/-! ### the between of a between, ties turned, ties compared -/
namespace Nc
/-- no two groups cross -/
def NonX (f : Nat → Nat) (n : Nat) : Prop := ∀ a b c d, a < b → b < c → c < d → d < n → f a = f c → f b = f d → f a = f b
/-- the gaps j and k: no group has places on both sides -/
def Wh (f : Nat → Nat) (n j k : Nat) : Prop := Whl f n (min j k) (max j k)
theorem wh_of {f : Nat → Nat} {n j k : Nat} (h : j ≤ k) : Wh f n j k ↔ Whl f n j k := by
  unfold Wh
  rw [Nat.min_eq_left h, Nat.max_eq_right h]
theorem wh_symm {f : Nat → Nat} {n j k : Nat} : Wh f n j k ↔ Wh f n k j := by
  unfold Wh
  rw [Nat.min_comm, Nat.max_comm]
theorem whl_same {f g : Nat → Nat} {n : Nat} (h : ∀ i j, i < n → j < n → f i = f j → g i = g j) {j k : Nat} (w : Whl g n j k) : Whl f n j k := fun p q hp hq e => w p q hp hq (h p q hp hq e)
theorem wh_same {f g : Nat → Nat} {n : Nat} (h : ∀ i j, i < n → j < n → f i = f j → g i = g j) {j k : Nat} (w : Wh g n j k) : Wh f n j k := whl_same h w
theorem wh_congr {f g : Nat → Nat} {n : Nat} (h : ∀ i j, i < n → j < n → (f i = f j ↔ g i = g j)) {j k : Nat} : Wh f n j k ↔ Wh g n j k :=
  ⟨wh_same fun i j hi hj => (h i j hi hj).mpr, wh_same fun i j hi hj => (h i j hi hj).mp⟩
theorem nonx_congr {f g : Nat → Nat} {n : Nat} (h : ∀ i j, i < n → j < n → (f i = f j ↔ g i = g j)) (x : NonX f n) : NonX g n := fun a b c d h1 h2 h3 h4 e1 e2 =>
  (h a b (by omega) (by omega)).mp (x a b c d h1 h2 h3 h4 ((h a c (by omega) (by omega)).mpr e1) ((h b d (by omega) (by omega)).mpr e2))
theorem nonx_lead {L : List Nat} (h : Lead L) : NonX (lb L) L.length := fun a b c d h1 h2 h3 h4 e1 e2 => by
  have q1 := h.nest c b (by omega) (by have := h.le a (by omega); omega) (by omega)
  have q2 := h.nest d c (by omega) (by have := h.le b (by omega); omega) (by omega)
  omega
/-! leaders of groups that don't cross -/
theorem head_le {f : Nat → Nat} {n p x : Nat} (hp : p < n) (hx : x < n) (e : f x = f p) : (grp f n p).headD 0 ≤ x := by
  have hm : x ∈ grp f n p := mem_grp.mpr ⟨hx, e⟩
  have hs : (grp f n p).Pairwise (· < ·) := grp_sorted
  cases h : grp f n p with
  | nil => rw [h] at hm; simp at hm
  | cons a l =>
    rw [h] at hm hs
    rcases List.mem_cons.mp hm with z | z
    · rw [z]; exact Nat.le_refl _
    · exact Nat.le_of_lt ((List.pairwise_cons.mp hs).1 x z)
theorem lead_of {f : Nat → Nat} {n : Nat} (h : NonX f n) : Lead (leadersM n (groupsOf f n)) := by
  have hl := leadersM_length n (groupsOf f n)
  have le : ∀ i, i < n → lb (leadersM n (groupsOf f n)) i ≤ i := fun i hi => by rw [leadersM_get hi]; exact head_le hi hi rfl
  have at_ : ∀ i, i < n → f (lb (leadersM n (groupsOf f n)) i) = f i := fun i hi => by
    rw [leadersM_get hi]; exact (mem_grp.mp (grp_headD hi)).2
  refine ⟨fun i hi => le i (by omega), fun i hi => ?_, fun i b hi h1 h2 => ?_⟩
  · rw [hl] at hi
    have := le i hi
    exact (leadersM_iff (by omega) hi).mpr (at_ i hi)
  · rw [hl] at hi
    rcases Nat.lt_or_ge (lb (leadersM n (groupsOf f n)) b) (lb (leadersM n (groupsOf f n)) i) with c | c
    · exfalso
      have n1 := at_ i hi
      have n2 := at_ b (by omega)
      have key : f b = f i → False := fun e => by
        have := (leadersM_iff (f := f) (show b < n by omega) hi).mpr e
        omega
      rcases Nat.lt_or_eq_of_le h1 with c1 | c1
      · rcases Nat.lt_or_eq_of_le h2 with c2 | c2
        · have := h _ _ b i c c1 c2 hi n2 n1
          exact key (by rw [← n1, ← n2, this])
        · exact key (by rw [c2])
      · exact key (by rw [← n1, c1])
    · exact c
/-! ### gaps -/
def gapF (f : Nat → Nat) (n : Nat) : Nat → Nat := lb (btList n (groupsOf f n))
theorem gap_iff {f : Nat → Nat} {n : Nat} (h : NonX f n) {j k : Nat} (hj : j < n) (hk : k < n) : gapF f n j = gapF f n k ↔ Wh f n j k := by
  have hL := lead_of h
  have hl := leadersM_length n (groupsOf f n)
  have hg : groupsOf f n = groupsOf (lb (leadersM n (groupsOf f n))) n := groups_congr fun i j hi hj => (leadersM_iff hi hj).symm
  have kern : ∀ i j, i < n → j < n → (lb (leadersM n (groupsOf f n)) i = lb (leadersM n (groupsOf f n)) j ↔ f i = f j) := fun i j hi hj => leadersM_iff hi hj
  unfold gapF
  rw [hg]
  rw [← wh_congr kern]
  generalize leadersM n (groupsOf f n) = L at hL hl
  subst hl
  obtain ⟨h1, h2⟩ := btList_is hL
  rw [h2 j hj, h2 k hk]
  rcases Nat.le_total j k with c | c
  · rw [wh_of c]; exact bt_iff hL c hk
  · rw [wh_symm, wh_of c, ← bt_iff hL c hj]
    exact eq_comm
theorem gap_nonx {f : Nat → Nat} {n : Nat} (h : NonX f n) : NonX (gapF f n) n := fun a b c d h1 h2 h3 h4 e1 e2 => by
  have w1 := (wh_of (by omega)).mp ((gap_iff h (by omega) (by omega)).mp e1)
  have w2 := (wh_of (by omega)).mp ((gap_iff h (by omega) (by omega)).mp e2)
  refine (gap_iff h (by omega) (by omega)).mpr ((wh_of (by omega)).mpr ?_)
  intro p q hp hq e p1 p2
  have q1 := w1 p q hp hq e p1 (by omega)
  refine ⟨q1.1, ?_⟩
  rcases Nat.lt_or_ge b q with z | z
  · have := w2 q p hq hp e.symm z (by omega)
    omega
  · exact z
/-- what lies between two neighbours of a group -/
theorem whl_next {f : Nat → Nat} {n x y : Nat} (h : NonX f n) (hxy : x < y) (hy : y < n) (e : f x = f y) (no : ∀ z, x < z → z < y → f z ≠ f x) : Whl f n x (y - 1) := fun p q hp hq e2 p1 p2 => by
  rcases Nat.lt_trichotomy q x with c | c | c
  · exfalso
    have := h q x p y c p1 (by omega) hy e2.symm e
    exact no p p1 (by omega) (e2.trans this)
  · exfalso
    exact no p p1 (by omega) (e2.trans (by rw [c]))
  · refine ⟨c, ?_⟩
    rcases Nat.lt_trichotomy q y with c2 | c2 | c2
    · omega
    · exfalso
      exact no p p1 (by omega) (e2.trans (by rw [c2]; exact e.symm))
    · exfalso
      have := h x p y q p1 (by omega) c2 hq e e2
      exact no p p1 (by omega) this.symm
/-- the greatest that holds -/
theorem greatest {P : Nat → Prop} [DecidablePred P] : ∀ k j, j ≤ k → P j → ∃ x, j ≤ x ∧ x ≤ k ∧ P x ∧ ∀ z, x < z → z ≤ k → ¬ P z := by
  intro k
  induction k with
  | zero => intro j hj h; exact ⟨0, by omega, by omega, by rw [show (0 : Nat) = j by omega]; exact h, fun z h1 h2 => by omega⟩
  | succ k ih =>
    intro j hj h
    by_cases c : P (k + 1)
    · exact ⟨k + 1, hj, Nat.le_refl _, c, fun z h1 h2 => by omega⟩
    · obtain ⟨x, h1, h2, h3, h4⟩ := ih j (by
        rcases Nat.lt_or_eq_of_le hj with z | z
        · omega
        · rw [z] at h; exact absurd h c) h
      exact ⟨x, h1, by omega, h3, fun z z1 z2 => by
        rcases Nat.lt_or_eq_of_le z2 with y | y
        · exact h4 z z1 (by omega)
        · rw [y]; exact c⟩
theorem least {P : Nat → Prop} [DecidablePred P] (h : ∃ k, P k) : ∃ x, P x ∧ ∀ z, z < x → ¬ P z := by
  obtain ⟨k, hk⟩ := h
  induction k using Nat.strongRecOn with
  | ind k ih =>
    by_cases c : ∃ z, z < k ∧ P z
    · obtain ⟨z, h1, h2⟩ := c
      exact ih z h1 h2
    · exact ⟨k, hk, fun z h1 h2 => c ⟨z, h1, h2⟩⟩
theorem krew_lt {f : Nat → Nat} {n : Nat} (h : NonX f n) {j k : Nat} (hjk : j < k) (hk : k < n) : Wh (gapF f n) n j k ↔ f (j + 1) = f ((k + 1) % n) := by
  rw [wh_of (Nat.le_of_lt hjk)]
  have tied : ∀ {p q : Nat}, p ≤ q → q < n → (gapF f n p = gapF f n q ↔ Whl f n p q) := fun {p q} h1 h2 => by
    rw [gap_iff h (by omega) h2, wh_of h1]
  constructor
  · intro w
    obtain ⟨x, x1, x2, x3, x4⟩ := greatest (P := fun z => f z = f (j + 1)) k (j + 1) hjk rfl
    by_cases c : ∃ y, x < y ∧ y < n ∧ f y = f x
    · obtain ⟨y, ⟨y1, y2, y3⟩, y4⟩ := least (P := fun y => x < y ∧ y < n ∧ f y = f x) c
      have hw := whl_next h y1 y2 y3.symm fun z z1 z2 e => y4 z z2 ⟨z1, by omega, e⟩
      have ht := (tied (show x ≤ y - 1 by omega) (by omega)).mpr hw
      have := w x (y - 1) (by omega) (by omega) ht (by omega) x2
      have hky : y = k + 1 := by
        rcases Nat.lt_or_ge k y with z | z
        · omega
        · exact absurd (y3.trans x3) (x4 y y1 z)
      rw [Nat.mod_eq_of_lt (by omega), ← hky, y3, x3]
    · have last : ∀ y, x < y → y < n → f y ≠ f x := fun y h1 h2 e => c ⟨y, h1, h2, e⟩
      obtain ⟨m, m1, m2⟩ := least (P := fun m => f m = f x) ⟨x, rfl⟩
      have mx : m ≤ x := by
        rcases Nat.lt_or_ge x m with z | z
        · exact absurd rfl (m2 x z)
        · exact z
      have m0 : m = 0 := by
        rcases Nat.eq_zero_or_pos m with z | z
        · exact z
        · exfalso
          -- the stretch from the first to the last is whole
          have hw : Whl f n (m - 1) x := fun p q hp hq e p1 p2 => by
            by_cases ep : f p = f x
            · refine ⟨?_, ?_⟩
              · rcases Nat.lt_or_ge q m with y | y
                · exact absurd (e.symm.trans ep) (m2 q y)
                · omega
              · rcases Nat.lt_or_ge x q with y | y
                · exact absurd (e.symm.trans ep) (last q y hq)
                · exact y
            · have pm : m < p := by
                rcases Nat.lt_or_eq_of_le (show m ≤ p by omega) with y | y
                · exact y
                · exact absurd (by rw [← y]; exact m1) ep
              have px : p < x := by
                rcases Nat.lt_or_eq_of_le p2 with y | y
                · exact y
                · exact absurd (by rw [y]) ep
              refine ⟨?_, ?_⟩
              · rcases Nat.lt_or_ge q m with y | y
                · have := h q m p x y pm px (by omega) e.symm m1
                  exact absurd (e.trans (this.trans m1)) ep
                · omega
              · rcases Nat.lt_or_ge x q with y | y
                · have := h m p x q pm px y hq m1 e
                  exact absurd (this.symm.trans m1) ep
                · exact y
          have ht := (tied (show m - 1 ≤ x by omega) (by omega)).mpr hw
          have h1 := w x (m - 1) (by omega) (by omega) ht.symm (by omega) x2
          exact m2 (j + 1) (by omega) x3.symm
      rw [m0] at m1
      -- the rest behind the last is whole
      have hw : Whl f n x (n - 1) := fun p q hp hq e p1 p2 => by
        refine ⟨?_, by omega⟩
        rcases Nat.lt_trichotomy q x with y | y | y
        · exfalso
          rcases Nat.eq_zero_or_pos q with z | z
          · rw [z, m1] at e; exact last p p1 hp e
          · have := h 0 q x p z y p1 hp m1 e.symm
            exact last p p1 hp (by rw [e, ← this, m1])
        · exfalso
          rw [y] at e; exact last p p1 hp e
        · exact y
      have ht := (tied (show x ≤ n - 1 by omega) (by omega)).mpr hw
      have h1 := w x (n - 1) (by omega) (by omega) ht (by omega) x2
      have hkn : k + 1 = n := by omega
      rw [hkn, Nat.mod_self, m1, x3]
  · intro e p q hp hq e2 p1 p2
    rcases Nat.lt_or_ge j q with c | c
    · refine ⟨c, ?_⟩
      rcases Nat.lt_or_ge k q with c2 | c2
      · exfalso
        have hw := (tied (show p ≤ q by omega) hq).mp e2
        rw [Nat.mod_eq_of_lt (by omega)] at e
        have := hw (k + 1) (j + 1) (by omega) (by omega) e.symm (by omega) (by omega)
        omega
      · exact c2
    · exfalso
      have hw := (tied (show q ≤ p by omega) hp).mp e2.symm
      have := hw (j + 1) ((k + 1) % n) (by omega) (Nat.mod_lt _ (by omega)) e (by omega) (by omega)
      rcases Nat.lt_or_ge (k + 1) n with y | y
      · rw [Nat.mod_eq_of_lt y] at this; omega
      · rw [show k + 1 = n by omega, Nat.mod_self] at this; omega
theorem krew {f : Nat → Nat} {n : Nat} (h : NonX f n) {j k : Nat} (hj : j < n) (hk : k < n) : Wh (gapF f n) n j k ↔ f ((j + 1) % n) = f ((k + 1) % n) := by
  rcases Nat.lt_trichotomy j k with c | c | c
  · rw [krew_lt h c hk, Nat.mod_eq_of_lt (show j + 1 < n by omega)]
  · subst c
    rw [wh_of (Nat.le_refl _)]
    exact ⟨fun _ => rfl, fun _ => Whl.refl⟩
  · rw [wh_symm, krew_lt h c hj, Nat.mod_eq_of_lt (show k + 1 < n by omega)]
    exact eq_comm
/-- finer, told by the gaps -/
theorem finer_gap {f g : Nat → Nat} {n : Nat} (hf : NonX f n) (hg : NonX g n) : (∀ j k, j < n → k < n → gapF g n j = gapF g n k → gapF f n j = gapF f n k) ↔ ∀ i j, i < n → j < n → f i = f j → g i = g j := by
  constructor
  · intro h i j hi hj e
    have one : ∀ i, i < n → ((i + (n - 1)) % n + 1) % n = i := fun i hi => by
      rw [← Nat.mod_add_mod, Nat.mod_mod, Nat.mod_add_mod, show i + (n - 1) + 1 = i + n by omega, Nat.add_mod_right, Nat.mod_eq_of_lt hi]
    have lt : ∀ i, (i + (n - 1)) % n < n := fun i => Nat.mod_lt _ (by omega)
    have w := (krew hf (lt i) (lt j)).mpr (by rw [one i hi, one j hj]; exact e)
    have w2 := wh_same (f := gapF g n) (g := gapF f n) h w
    have := (krew hg (lt i) (lt j)).mp w2
    rwa [one i hi, one j hj] at this
  · intro h j k hj hk e
    exact (gap_iff hf hj hk).mpr (wh_same h ((gap_iff hg hj hk).mp e))
/-! ### turned -/
def rho (n : Nat) (b : Int) (p : Nat) : Nat := ((((p : Nat) : Int) - b) % (n : Int)).toNat
theorem rho_is {n : Nat} {b : Int} (hn : 0 < n) : ∃ t, t < n ∧ ∀ p, p < n → rho n b p = if t ≤ p then p - t else p + n - t := by
  have h1 := Int.emod_nonneg b (show (n : Int) ≠ 0 by omega)
  have h2 := Int.emod_lt_of_pos b (show 0 < (n : Int) by omega)
  refine ⟨(b % (n : Int)).toNat, by omega, fun p hp => ?_⟩
  have e : ((p : Int) - b) % (n : Int) = ((p : Int) - b % (n : Int)) % (n : Int) := by rw [Int.sub_emod, Int.sub_emod (p : Int) (b % n), Int.emod_emod]
  unfold rho
  rw [e]
  generalize b % (n : Int) = c at h1 h2
  by_cases h : c.toNat ≤ p
  · rw [if_pos h, Int.emod_eq_of_lt (by omega) (by omega)]
    omega
  · rw [if_neg h, ← Int.add_emod_right, Int.emod_eq_of_lt (by omega) (by omega)]
    omega
theorem rho_lt {n : Nat} {b : Int} {p : Nat} (hp : p < n) : rho n b p < n := by
  obtain ⟨t, h1, h2⟩ := rho_is (b := b) (show 0 < n by omega)
  rw [h2 p hp]
  split <;> omega
theorem nonx_rot {f : Nat → Nat} {n : Nat} (h : NonX f n) (b : Int) : NonX (fun p => f (rho n b p)) n := fun a b1 c d h1 h2 h3 h4 e1 e2 => by
  obtain ⟨t, t1, ht⟩ := rho_is (b := b) (show 0 < n by omega)
  dsimp only at e1 e2 ⊢
  rw [ht a (by omega)] at e1 ⊢
  rw [ht c (by omega)] at e1
  rw [ht b1 (by omega)] at e2 ⊢
  rw [ht d h4] at e2
  by_cases ca : t ≤ a
  · rw [if_pos ca] at e1 ⊢
    rw [if_pos (by omega)] at e1 e2 ⊢
    rw [if_pos (by omega)] at e2
    exact h _ _ _ _ (by omega) (by omega) (by omega) (by omega) e1 e2
  · rw [if_neg ca] at e1 ⊢
    by_cases cb : t ≤ b1
    · rw [if_pos cb] at e2 ⊢
      rw [if_pos (by omega)] at e1 e2
      -- b c d a
      have := h (b1 - t) (c - t) (d - t) (a + n - t) (by omega) (by omega) (by omega) (by omega) e2 e1.symm
      rw [this]; exact e1
    · rw [if_neg cb] at e2 ⊢
      by_cases cc : t ≤ c
      · rw [if_pos cc] at e1
        rw [if_pos (by omega)] at e2
        have := h (c - t) (d - t) (a + n - t) (b1 + n - t) (by omega) (by omega) (by omega) (by omega) e1.symm e2.symm
        rw [e1, e2]; exact this
      · rw [if_neg cc] at e1
        by_cases cd : t ≤ d
        · rw [if_pos cd] at e2
          have := h (d - t) (a + n - t) (b1 + n - t) (c + n - t) (by omega) (by omega) (by omega) (by omega) e2.symm e1
          rw [e2]; exact this.symm
        · rw [if_neg cd] at e2
          exact h _ _ _ _ (by omega) (by omega) (by omega) (by omega) e1 e2
/-- a set of places that no group leaves -/
def Clo (f : Nat → Nat) (n : Nat) (S : Nat → Prop) : Prop := ∀ p q, p < n → q < n → f p = f q → S p → S q
theorem clo_not {f : Nat → Nat} {n : Nat} {S : Nat → Prop} : Clo f n S ↔ Clo f n (fun p => ¬ S p) := by
  constructor
  · exact fun h p q hp hq e hs z => hs (h q p hq hp e.symm z)
  · exact fun h p q hp hq e hs => Classical.byContradiction fun z => h q p hq hp e.symm z hs
theorem clo_iff {f : Nat → Nat} {n : Nat} {S T : Nat → Prop} (h : ∀ p, p < n → (S p ↔ T p)) : Clo f n S ↔ Clo f n T :=
  ⟨fun c p q hp hq e z => (h q hq).mp (c p q hp hq e ((h p hp).mpr z)), fun c p q hp hq e z => (h q hq).mpr (c p q hp hq e ((h p hp).mp z))⟩
theorem whl_clo {f : Nat → Nat} {n j k : Nat} : Whl f n j k ↔ Clo f n (fun p => j < p ∧ p ≤ k) := ⟨fun h p q hp hq e z => h p q hp hq e z.1 z.2, fun h p q hp hq e z1 z2 => h p q hp hq e ⟨z1, z2⟩⟩
theorem clo_rot {f : Nat → Nat} {n : Nat} {b : Int} {S : Nat → Prop} : Clo (fun p => f (rho n b p)) n (fun p => S (rho n b p)) ↔ Clo f n S := by
  constructor
  · intro h p q hp hq e z
    obtain ⟨t, t1, ht⟩ := rho_is (b := b) (show 0 < n by omega)
    have inv : ∀ x, x < n → ∃ y, y < n ∧ rho n b y = x := fun x hx => by
      by_cases c : x < n - t
      · exact ⟨x + t, by omega, by rw [ht _ (by omega), if_pos (by omega)]; omega⟩
      · exact ⟨x + t - n, by omega, by rw [ht _ (by omega), if_neg (by omega)]; omega⟩
    obtain ⟨y, hy, ey⟩ := inv p hp
    obtain ⟨u, hu, eu⟩ := inv q hq
    have := h y u hy hu (by dsimp only; rw [ey, eu]; exact e) (by dsimp only; rw [ey]; exact z)
    dsimp only at this
    rwa [eu] at this
  · exact fun h p q hp hq e z => h _ _ (rho_lt hp) (rho_lt hq) e z
theorem wh_rot {f : Nat → Nat} {n : Nat} {b : Int} {j k : Nat} (hj : j < n) (hk : k < n) : Wh (fun p => f (rho n b p)) n j k ↔ Wh f n (rho n b j) (rho n b k) := by
  have main : ∀ j k, j < k → k < n → (Wh (fun p => f (rho n b p)) n j k ↔ Wh f n (rho n b j) (rho n b k)) := fun j k hjk hk => by
    obtain ⟨t, t1, ht⟩ := rho_is (b := b) (show 0 < n by omega)
    rw [wh_of (Nat.le_of_lt hjk), whl_clo]
    rw [ht j (by omega), ht k hk]
    by_cases cj : t ≤ j
    · rw [if_pos cj, if_pos (by omega), wh_of (by omega), whl_clo, ← clo_rot (b := b) (f := f) (S := fun p => j - t < p ∧ p ≤ k - t)]
      refine clo_iff fun p hp => ?_
      rw [ht p hp]
      split <;> omega
    · rw [if_neg cj]
      by_cases ck : t ≤ k
      · rw [if_pos ck, wh_symm, wh_of (by omega), whl_clo, clo_not, ← clo_rot (b := b) (f := f) (S := fun p => k - t < p ∧ p ≤ j + n - t)]
        refine clo_iff fun p hp => ?_
        rw [ht p hp]
        split <;> omega
      · rw [if_neg ck, wh_of (by omega), whl_clo, ← clo_rot (b := b) (f := f) (S := fun p => j + n - t < p ∧ p ≤ k + n - t)]
        refine clo_iff fun p hp => ?_
        rw [ht p hp]
        split <;> omega
  rcases Nat.lt_trichotomy j k with c | c | c
  · exact main j k c hk
  · subst c
    rw [wh_of (Nat.le_refl _), wh_of (Nat.le_refl _)]
    exact ⟨fun _ => Whl.refl, fun _ => Whl.refl⟩
  · rw [wh_symm, main k j c hj]
    exact wh_symm
/-! ### how many groups -/
theorem perm_len {α : Type} {l m : List α} (h1 : l.Nodup) (h2 : m.Nodup) (h : ∀ x, x ∈ l ↔ x ∈ m) : l.length = m.length :=
  ((List.perm_ext_iff_of_nodup h1 h2).mpr h).length_eq
theorem split_len {l : List Nat} (p : Nat → Bool) : (l.filter p).length + (l.filter fun x => !p x).length = l.length := by
  induction l with
  | nil => rfl
  | cons a l ih =>
    rw [List.filter_cons, List.filter_cons]
    cases p a
    · simp; omega
    · simp; omega
theorem groups_len_lead {L : List Nat} (h : Lead L) (hn : 0 < L.length) : (groupsOf (bt L) L.length).length + (groupsOf (lb L) L.length).length = L.length + 1 := by
  have hfirst : ∀ i, i < L.length → firstB (bt L) i = decide (bt L i = i) := fun i hi => by
    rw [Bool.eq_iff_iff, firstB_iff, decide_eq_true_iff]
    constructor
    · intro q
      have h1 := (bt_le h hi).1
      rcases Nat.lt_or_ge (bt L i) i with c | c
      · exact absurd (bt_idem h hi) (q _ c)
      · omega
    · intro e j hj z
      have h1 := (bt_le h (show j < L.length by omega)).1
      omega
  have l1 : (groupsOf (bt L) L.length).length = ((List.range L.length).filter fun k => !(lastB L k && decide (0 < lb L k))).length := by
    unfold groupsOf
    rw [List.length_map]
    congr 1
    refine List.filter_congr fun k hk => ?_
    have hk := List.mem_range.mp hk
    rw [hfirst k hk, Bool.eq_iff_iff, decide_eq_true_iff, Bool.not_eq_true', Bool.and_eq_false_iff, decide_eq_false_iff_not]
    constructor
    · intro e
      by_cases c : lastB L k = true ∧ 0 < lb L k
      · exfalso
        rw [bt_step h hk c] at e
        have h1 := h.le k hk
        have h2 := (bt_le h (show lb L k - 1 < L.length by omega)).1
        omega
      · by_cases c2 : lastB L k = true
        · exact .inr fun z => c ⟨c2, z⟩
        · exact .inl (by simpa using c2)
    · intro z
      refine bt_stop fun c => ?_
      rcases z with z | z
      · rw [c.1] at z; cases z
      · exact z c.2
  have l2 : (groupsOf (lb L) L.length).length = ((List.range L.length).filter fun k => decide (lb L k = k)).length := by
    unfold groupsOf
    rw [List.length_map]
    congr 1
    exact List.filter_congr fun k hk => h.first (List.mem_range.mp hk)
  have l3 := split_len (l := List.range L.length) fun k => lastB L k && decide (0 < lb L k)
  rw [List.length_range] at l3
  have nd : ∀ p : Nat → Bool, ((List.range L.length).filter p).Nodup := fun p => List.Pairwise.filter p List.nodup_range
  have h00 : lb L 0 = 0 := by have := h.le 0 hn; omega
  have l4 : ((List.range L.length).filter fun k => decide (lb L k = k)).length = (0 :: ((List.range L.length).filter fun k => decide (lb L k = k ∧ 0 < k))).length := by
    refine perm_len (nd _) (List.nodup_cons.mpr ⟨by simp, nd _⟩) fun x => ?_
    rw [List.mem_cons, List.mem_filter, List.mem_filter, decide_eq_true_iff, decide_eq_true_iff, List.mem_range]
    constructor
    · rintro ⟨h1, h2⟩
      rcases Nat.eq_zero_or_pos x with z | z
      · exact .inl z
      · exact .inr ⟨h1, h2, z⟩
    · rintro (z | ⟨h1, h2, _⟩)
      · rw [z]; exact ⟨hn, h00⟩
      · exact ⟨h1, h2⟩
  have l5 : (((List.range L.length).filter fun k => lastB L k && decide (0 < lb L k)).map (lb L)).length = ((List.range L.length).filter fun k => decide (lb L k = k ∧ 0 < k)).length := by
    refine perm_len ?_ (nd _) fun x => ?_
    · rw [List.Nodup, List.pairwise_map]
      refine List.Pairwise.imp_of_mem ?_ (nd fun k => lastB L k && decide (0 < lb L k))
      intro a b ha hb hab e
      rw [List.mem_filter, List.mem_range, Bool.and_eq_true] at ha hb
      have h1 := lastB_iff.mp ha.2.1 b hb.1 e.symm
      have h2 := lastB_iff.mp hb.2.1 a ha.1 e
      omega
    · rw [List.mem_map, List.mem_filter, decide_eq_true_iff, List.mem_range]
      constructor
      · rintro ⟨k, hk, rfl⟩
        rw [List.mem_filter, List.mem_range, Bool.and_eq_true, decide_eq_true_iff] at hk
        have := h.le k hk.1
        exact ⟨by omega, h.fix k hk.1, hk.2.2⟩
      · rintro ⟨h1, h2, h3⟩
        have hm : x ∈ grp (lb L) L.length x := mem_grp.mpr ⟨h1, rfl⟩
        have hl := lastD_mem (g := grp (lb L) L.length x) fun z => by rw [z] at hm; simp at hm
        obtain ⟨k1, k2⟩ := mem_grp.mp hl
        refine ⟨_, ?_, k2.trans h2⟩
        rw [List.mem_filter, List.mem_range, Bool.and_eq_true, decide_eq_true_iff]
        refine ⟨k1, ?_, by rw [k2, h2]; exact h3⟩
        rw [← grp_last k1, grp_congr (n := L.length) k2]
  rw [List.length_map] at l5
  rw [List.length_cons] at l4
  omega
theorem groups_len {f : Nat → Nat} {n : Nat} (h : NonX f n) (hn : 0 < n) : (groupsOf (gapF f n) n).length + (groupsOf f n).length = n + 1 := by
  have hL := lead_of h
  have hl := leadersM_length n (groupsOf f n)
  have hg : groupsOf f n = groupsOf (lb (leadersM n (groupsOf f n))) n := groups_congr fun i j hi hj => (leadersM_iff hi hj).symm
  unfold gapF
  rw [hg]
  generalize leadersM n (groupsOf f n) = L at hL hl
  subst hl
  have e : groupsOf (lb (btList L.length (groupsOf (lb L) L.length))) L.length = groupsOf (bt L) L.length := groups_congr fun i j hi hj => by rw [(btList_is hL).2 i hi, (btList_is hL).2 j hj]
  rw [e]
  exact groups_len_lead hL hn
/-! ### the groups of two neighbours together -/
theorem one_side {f : Nat → Nat} {n b d p q : Nat} (h : NonX f n) (hd : d < n) (e : f b = f d) (h1 : b < p) (h2 : p < d) (hq : q < n) (hs : q < b ∨ d < q) (e2 : f p = f q) : f p = f b := by
  rcases hs with c | c
  · exact e2.trans (h q b p d c h1 h2 hd e2.symm e)
  · exact (h b p d q h1 h2 c hq e e2).symm
def mrg (f : Nat → Nat) (x y : Nat) : Nat → Nat := fun i => if f i = f x then f y else f i
theorem mrg_iff {f : Nat → Nat} {x y i j : Nat} : mrg f x y i = mrg f x y j ↔ f i = f j ∨ ((f i = f x ∨ f i = f y) ∧ (f j = f x ∨ f j = f y)) := by
  unfold mrg
  by_cases c1 : f i = f x
  · rw [if_pos c1]
    by_cases c2 : f j = f x
    · rw [if_pos c2]; exact ⟨fun _ => .inl (c1.trans c2.symm), fun _ => rfl⟩
    · rw [if_neg c2]
      constructor
      · intro e; exact .inr ⟨.inl c1, .inr e.symm⟩
      · rintro (z | ⟨_, z | z⟩)
        · exact absurd (z.symm.trans c1) c2
        · exact absurd z c2
        · exact z.symm
  · rw [if_neg c1]
    by_cases c2 : f j = f x
    · rw [if_pos c2]
      constructor
      · intro e; exact .inr ⟨.inr e, .inl c2⟩
      · rintro (z | ⟨z | z, _⟩)
        · exact absurd (z.trans c2) c1
        · exact absurd z c1
        · exact z
    · rw [if_neg c2]
      constructor
      · exact .inl
      · rintro (z | ⟨z | z, y | y⟩)
        · exact z
        · exact absurd z c1
        · exact absurd z c1
        · exact absurd y c2
        · exact z.trans y.symm
/-- neighbours on the ring -/
def Near (n x y : Nat) : Prop := (0 < x ∧ y = x - 1) ∨ (x = 0 ∧ y = n - 1)
theorem near_side {f : Nat → Nat} {n x y b d p q : Nat} (h : NonX f n) (hx : x < n) (hn : Near n x y) (hd : d < n) (e : f b = f d) (nx : f x ≠ f b) (ny : f y ≠ f b) (h1 : b < p) (h2 : p < d) (hq : q < n) (hs : q < b ∨ d < q) (mp : f p = f x ∨ f p = f y) (mq : f q = f x ∨ f q = f y) : False := by
  have hy : y < n := by rcases hn with c | c <;> omega
  have xb : x ≠ b := fun z => nx (by rw [z])
  have yb : y ≠ b := fun z => ny (by rw [z])
  have xd : x ≠ d := fun z => nx (by rw [z]; exact e.symm)
  have yd : y ≠ d := fun z => ny (by rw [z]; exact e.symm)
  -- both neighbours within, or both beyond
  have side : (b < x ∧ x < d ∧ b < y ∧ y < d) ∨ ((x < b ∨ d < x) ∧ (y < b ∨ d < y)) := by
    rcases hn with ⟨c1, c2⟩ | ⟨c1, c2⟩
    · omega
    · omega
  have inn : ∀ {u v : Nat}, b < u → u < d → v < n → (v < b ∨ d < v) → f u = f v → f u = f b := fun h1 h2 h3 h4 h5 => one_side h hd e h1 h2 h3 h4 h5
  rcases side with ⟨s1, s2, s3, s4⟩ | ⟨s1, s2⟩
  · rcases mq with m | m
    · exact nx (inn s1 s2 hq hs m.symm)
    · exact ny (inn s3 s4 hq hs m.symm)
  · rcases mp with m | m
    · exact nx (m.symm.trans (inn h1 h2 hx s1 m))
    · exact ny (m.symm.trans (inn h1 h2 hy s2 m))
theorem mrg_nonx {f : Nat → Nat} {n x y : Nat} (h : NonX f n) (hx : x < n) (hn : Near n x y) : NonX (mrg f x y) n := fun a b c d h1 h2 h3 h4 e1 e2 => by
  rw [mrg_iff] at e1 e2 ⊢
  by_cases ma : f a = f x ∨ f a = f y
  · by_cases mb : f b = f x ∨ f b = f y
    · exact .inr ⟨ma, mb⟩
    · have ebd : f b = f d := by
        rcases e2 with z | z
        · exact z
        · exact absurd z.1 mb
      have mc : f c = f x ∨ f c = f y := by
        rcases e1 with z | z
        · rw [← z]; exact ma
        · exact z.2
      exact (near_side h hx hn h4 ebd (fun z => mb (.inl z.symm)) (fun z => mb (.inr z.symm)) h2 h3 (by omega) (.inl h1) mc ma).elim
  · have eac : f a = f c := by
      rcases e1 with z | z
      · exact z
      · exact absurd z.1 ma
    by_cases mb : f b = f x ∨ f b = f y
    · have md : f d = f x ∨ f d = f y := by
        rcases e2 with z | z
        · rw [← z]; exact mb
        · exact z.2
      exact (near_side h hx hn (show c < n by omega) eac (fun z => ma (.inl z.symm)) (fun z => ma (.inr z.symm)) h1 h2 h4 (.inr h3) mb md).elim
    · have ebd : f b = f d := by
        rcases e2 with z | z
        · exact z
        · exact absurd z.1 mb
      exact .inl (h a b c d h1 h2 h3 h4 eac ebd)
end Nc

/-! ### the finest coarser tie that ties two places -/
namespace Nc
open PySem PySem.Spec PyProof.Rows L2 Evl
/-! groups drawn into one -/
def keepsM (g : List Nat) (l h : Nat) : Bool := (g.all fun p => decide (((l : Nat) : Int) < ((p : Nat) : Int)) && decide (((p : Nat) : Int) < ((h : Nat) : Int))) || (g.all fun p => decide (((p : Nat) : Int) < ((l : Nat) : Int)) || decide (((h : Nat) : Int) < ((p : Nat) : Int)))
theorem keepsM_iff {g : List Nat} {l h : Nat} : keepsM g l h = true ↔ (∀ p ∈ g, l < p ∧ p < h) ∨ ∀ p ∈ g, p < l ∨ h < p := by
  unfold keepsM
  simp only [Bool.or_eq_true, List.all_eq_true, Bool.and_eq_true, decide_eq_true_eq, Int.ofNat_lt]
def boundM (gs : List (List Nat)) (l h : Nat) : List (List Nat) := sortG ((gs.filter fun g => keepsM g l h) ++ [srt (gs.filter fun g => !keepsM g l h).flatten])
/-- what is not kept has one label -/
def mrgK (f : Nat → Nat) (n : Nat) (keep : List Nat → Bool) (x : Nat) : Nat → Nat := fun i => if keep (grp f n i) = true then f i else f x
section
variable {f : Nat → Nat} {n x : Nat} {keep : List Nat → Bool}
theorem mrgK_yes {i : Nat} (h : keep (grp f n i) = true) : mrgK f n keep x i = f i := if_pos h
theorem mrgK_no {i : Nat} (h : keep (grp f n i) = false) : mrgK f n keep x i = f x := if_neg (by rw [h]; exact Bool.false_ne_true)
theorem sub_nodup {hs : List (List Nat)} (hsub : ∀ g ∈ hs, g ∈ groupsOf f n) (hnd : hs.Nodup) : hs.flatten.Nodup := by
  unfold List.Nodup
  rw [List.pairwise_flatten]
  refine ⟨fun g hg => ?_, ?_⟩
  · obtain ⟨i, _, _, rfl⟩ := mem_groups.mp (hsub g hg)
    exact List.Pairwise.filter _ List.nodup_range
  · refine List.Pairwise.imp_of_mem ?_ hnd
    intro a b ha hb hab z h1 z2 h2 e
    rw [← e] at h2
    exact hab ((group_at (hsub a ha) h1).trans (group_at (hsub b hb) h2).symm)
theorem merged (hx : x < n) (hk : keep (grp f n x) = false) : sortG ((groupsOf f n).filter keep ++ [srt ((groupsOf f n).filter fun g => !keep g).flatten]) = groupsOf (mrgK f n keep x) n := by
  refine (sortG_uniq ?_ groups_lex).symm
  have alike : ∀ {i j : Nat}, f i = f j → keep (grp f n i) = keep (grp f n j) := fun e => by rw [grp_congr e]
  have hG : ∀ i, i < n → keep (grp f n i) = true → grp (mrgK f n keep x) n i = grp f n i := fun i hi h => by
    unfold grp
    refine List.filter_congr fun j hj => ?_
    rw [decide_eq_decide, mrgK_yes h]
    cases hj2 : keep (grp f n j) with
    | true => rw [mrgK_yes hj2]
    | false =>
      rw [mrgK_no hj2]
      constructor
      · intro e
        have := alike e
        rw [hk, h] at this; cases this
      · intro e
        have := alike e
        rw [hj2, h] at this; cases this
  have hD : ∀ i, i < n → keep (grp f n i) = false → grp (mrgK f n keep x) n i = srt ((groupsOf f n).filter fun g => !keep g).flatten := fun i hi h => by
    refine srt_uniq ?_ ((grp_sorted).imp Nat.le_of_lt)
    have nd : ((groupsOf f n).filter fun g => !keep g).flatten.Nodup := sub_nodup (fun g hg => (List.mem_filter.mp hg).1) (groups_nd.filter _)
    refine (List.perm_ext_iff_of_nodup (List.Pairwise.filter _ List.nodup_range) nd).mpr fun j => ?_
    show j ∈ grp (mrgK f n keep x) n i ↔ _
    rw [mem_grp, mrgK_no h, List.mem_flatten]
    constructor
    · rintro ⟨hj, e⟩
      refine ⟨grp f n j, List.mem_filter.mpr ⟨grp_mem hj, ?_⟩, mem_grp.mpr ⟨hj, rfl⟩⟩
      cases hj2 : keep (grp f n j) with
      | false => rfl
      | true =>
        rw [mrgK_yes hj2] at e
        have := alike e
        rw [hj2, hk] at this; cases this
    · rintro ⟨g, hg, hj⟩
      obtain ⟨h1, h2⟩ := List.mem_filter.mp hg
      have e := group_at h1 hj
      have hjn : j < n := by
        rw [e] at hj
        exact (mem_grp.mp hj).1
      rw [e] at h2
      exact ⟨hjn, mrgK_no (by simpa using h2)⟩
  have hxm : x ∈ srt ((groupsOf f n).filter fun g => !keep g).flatten := srt_mem.mpr (List.mem_flatten.mpr ⟨grp f n x, List.mem_filter.mpr ⟨grp_mem hx, by rw [hk]; rfl⟩, mem_grp.mpr ⟨hx, rfl⟩⟩)
  refine (List.perm_ext_iff_of_nodup groups_nd ?_).mpr fun g => ?_
  · rw [List.nodup_append]
    refine ⟨groups_nd.filter _, by simp, fun a ha b hb e => ?_⟩
    have hb : b = _ := List.mem_singleton.mp hb
    rw [← e] at hb
    obtain ⟨h1, h2⟩ := List.mem_filter.mp ha
    rw [← hb] at hxm
    rw [group_at h1 hxm, hk] at h2
    cases h2
  · rw [List.mem_append, List.mem_singleton, List.mem_filter]
    constructor
    · intro hg
      obtain ⟨i, hi, _, rfl⟩ := mem_groups.mp hg
      cases h : keep (grp f n i) with
      | true => exact .inl (by rw [hG i hi h]; exact ⟨grp_mem hi, h⟩)
      | false => exact .inr (hD i hi h)
    · rintro (⟨h1, h2⟩ | h)
      · obtain ⟨i, hi, _, rfl⟩ := mem_groups.mp h1
        rw [← hG i hi h2]; exact grp_mem hi
      · rw [h, ← hD x hx hk]; exact grp_mem hx
end
theorem keeps_low {g : List Nat} {l h : Nat} (hl : l ∈ g) (hlh : l ≤ h) : keepsM g l h = false := by
  rw [← Bool.not_eq_true, keepsM_iff]
  rintro (z | z)
  · have := z l hl; omega
  · have := z l hl; omega
/-- the labels of what is bound -/
def bndF (f : Nat → Nat) (n l h : Nat) : Nat → Nat := mrgK f n (fun g => keepsM g l h) l
theorem bound_is {f : Nat → Nat} {n l h : Nat} (hl : l < n) (hlh : l ≤ h) : boundM (groupsOf f n) l h = groupsOf (bndF f n l h) n :=
  merged hl (keeps_low (mem_grp.mpr ⟨hl, rfl⟩) hlh)
/-! ### the way, step by step -/
def wStep (st : List (List (List Nat)) × List (List Nat)) (p : Nat × Nat) : List (List (List Nat)) × List (List Nat) := if (boundM st.2 p.1 p.2).length < st.2.length then (st.1 ++ [boundM st.2 p.1 p.2], boundM st.2 p.1 p.2) else st
def wayS (gs : List (List Nat)) (bs : List (Nat × Nat)) : List (List (List Nat)) × List (List Nat) := bs.foldl wStep ([gs], gs)
theorem wayS_next {gs : List (List Nat)} {bs : List (Nat × Nat)} {i : Nat} {p : Nat × Nat} (h : bs[i]? = some p) : wayS gs (bs.take (i + 1)) = wStep (wayS gs (bs.take i)) p := by
  unfold wayS
  rw [List.take_add_one, h, List.foldl_append]; rfl
theorem bonds_lt {f : Nat → Nat} {n : Nat} {p : Nat × Nat} (h : p ∈ bonds (groupsOf f n)) : p.1 < p.2 ∧ p.2 < n ∧ f p.1 = f p.2 := by
  obtain ⟨g, hg, hp⟩ := List.mem_flatMap.mp h
  obtain ⟨i, hi, _, rfl⟩ := mem_groups.mp hg
  obtain ⟨h1, h2⟩ := bondsG_mem hp
  have key : ∀ g : List Nat, g.Pairwise (· < ·) → ∀ p ∈ bondsG g, p.1 < p.2 := by
    intro g
    induction g with
    | nil => intro _ p hp; simp [bondsG] at hp
    | cons x l ih =>
      cases l with
      | nil => intro _ p hp; simp [bondsG] at hp
      | cons y l =>
        intro hs p hp
        rw [bondsG_cons] at hp
        rcases List.mem_cons.mp hp with e | hp
        · rw [e]; exact (List.pairwise_cons.mp hs).1 y (by simp)
        · exact ih (List.pairwise_cons.mp hs).2 p hp
  exact ⟨key _ grp_sorted p hp, (mem_grp.mp h2).1, (mem_grp.mp h1).2.trans (mem_grp.mp h2).2.symm⟩
/-- each one on the way is groups of some labelling -/
theorem way_lab {f g : Nat → Nat} {n : Nat} : ∀ i, ∃ k : Nat → Nat, (wayS (groupsOf f n) ((bonds (groupsOf g n)).take i)).2 = groupsOf k n ∧ (wayS (groupsOf f n) ((bonds (groupsOf g n)).take i)).1.length ≤ i + 1
  | 0 => ⟨f, by rw [List.take_zero]; rfl, by rw [List.take_zero]; exact Nat.le_refl _⟩
  | i + 1 => by
    obtain ⟨k, hk, hl⟩ := way_lab (f := f) (g := g) (n := n) i
    cases hp : (bonds (groupsOf g n))[i]? with
    | none =>
      rw [List.take_of_length_le (by rw [List.getElem?_eq_none_iff] at hp; omega)]
      rw [List.take_of_length_le (by rw [List.getElem?_eq_none_iff] at hp; omega)] at hk hl
      exact ⟨k, hk, by omega⟩
    | some p =>
      rw [wayS_next hp]
      obtain ⟨h1, h2, _⟩ := bonds_lt (List.mem_of_getElem? hp)
      unfold wStep
      rw [hk, bound_is (by omega) (Nat.le_of_lt h1)]
      split
      · exact ⟨_, rfl, by dsimp only; rw [List.length_append]; simp; omega⟩
      · exact ⟨k, hk, by omega⟩
theorem flat_len {l : List (List Nat)} {m : Nat} (h : ∀ g ∈ l, g.length ≤ m) : l.flatten.length ≤ m * l.length := by
  induction l with
  | nil => simp
  | cons g l ih =>
    have := ih fun x hx => h x (List.mem_cons_of_mem _ hx)
    have h2 := h g (by simp)
    rw [List.flatten_cons, List.length_append, List.length_cons, Nat.mul_add]
    omega
/-! ### a list made longer by a tuple -/
def rExtT : V → List V → Hp → VK → Prop := fun x vs H Q => ∃ l b xs zs, x = .ref l ∧ vs = [.ref b] ∧ H l = some (.lst xs) ∧ H b = some (.tup zs) ∧ xs.length + zs.length ≤ sizeLine ∧ Q .non (upd H l (.lst (xs ++ zs)))
theorem list_extend_tup (l : Addr) (items : Array Value) (n : Nat) (b : Addr) (items2 : Array Value) (n2 : Nat) (od : Option Addr) (sl : Array (Option Value)) (hs0 : ¬(!items.isEmpty && Builtin.List.listTooLong (items.size + items2.size)) = true) (hs1 : items.size ≤ sizeLine) (hs2 : items.size + items2.size ≤ sizeLine + 1) :
    Meets (Builtin.«list.extend» ⟨[.ref l, .ref b], []⟩) (fun _ R s => s.heap.get? l = some { cls := .type "list", dict := none, data := .seq items n, slots := #[] } ∧ s.heap.get? b = some { cls := .type "tuple", dict := od, data := .seq items2 n2, slots := sl } ∧ R (.ok (.ret Value.none)) { s with heap := s.heap.update l (Obj.mapSeq fun x => x ++ items2), toks := s.toks }) :=
  .of_wp fun prog w A R s h => by
    obtain ⟨hp, g, d, tk, os⟩ := s; obtain ⟨hl, hb, h⟩ := h; have f1 := AutoSeq1.idx_int; have f2 := AutoSeq1.sub_tuple_tuple; have f3 := AutoSeq1.sub_list_list; have f4 := AutoSeq1.sub_tuple_list; have f5 := AutoSeq1.sub_list_tuple;
    have hz' : (items ++ items2).size ≤ sizeLine + 1 := by rw [Array.size_append]; exact hs2
    wp_walk using (wpAny_updateSeq hl rfl (hz := hs1) (_hz' := hz')), AutoSeq1.wpAny_loadPart' hl, AutoSeq1.wpAny_loadPart' hb; exact ⟨_, rfl, h⟩
theorem mt_extT {X : Cx} : MtM X "list.extend" rExtT := by
  intro pins s σ H x vs v us Q I rx rv h
  obtain ⟨l, b, xs, zs, rfl, rfl, hH, hB, hz, q⟩ := h
  cases rx
  obtain ⟨u, rfl, ru⟩ := rv.one
  cases ru
  obtain ⟨z, its, n, r, hl, e⟩ := I.lstM hH
  obtain ⟨_, its2, r2, o, e2, hd, n2, hc⟩ := (show ObjOk X.prog X.w H s.heap b (.tup zs) from I.hok b _ hB)
  obtain ⟨oc, od, dt, sl⟩ := o
  simp only at hd hc
  subst hd hc
  have hl2 := r2.length
  have hsz : its.toArray.size + its2.toArray.size ≤ sizeLine := by rw [List.size_toArray, List.size_toArray]; omega
  have hlong : ¬ (!its.toArray.isEmpty && Builtin.List.listTooLong (its.toArray.size + its2.toArray.size)) = true := by
    rw [notLongL hsz, Bool.and_false]
    exact Bool.false_ne_true
  refine call_meets F.slot_list_extend ⟨_, e, rfl⟩ F.entry_list_extend (F.args_list_extend_2 _ _)
    (list_extend_tup l its.toArray n b its2.toArray n2 _ _ hlong (by rw [List.size_toArray]; omega) (by omega)) ⟨e, e2, ?_⟩
  refine ⟨.non, _, I.lset (its' := its ++ its2) hH e (by simp) (r.append r2) ?_, rfl, q⟩
  rw [List.length_append]
  omega
section
variable {σ : L2.St} {Hb H : Hp} {F : List Addr} {D : Ends} {te : TE} {ta : TA} {tz tu : TS} {K : PySem.W.Frag} {ds : List Dt}
theorem s_extD {i : Nat} {l : Addr} {xs : List V} (S : Beside Hb F H) (hF : l ∈ F) (hl : H l = some (.lst xs)) (hv : σ[i]? = some (some (.ref l))) (h : EvD te σ Hb (.tup ds)) (hz : xs.length + ds.length ≤ 100000)
    (k : ∀ ws Hb' H', Ex Hb Hb' → Beside Hb' F H' → (∀ a o, a ≠ l → H a = some o → H' a = some o) → H' l = some (.lst (xs ++ ws)) → RpL Any Hb' ws ds → D.nx σ H') : tDrop (tBM K "list" rExtT (tVar i) (tCons te tNil)) D σ H :=
  ⟨.ref l, hv, Or.inl ⟨rfl, xs, sq_of hl⟩, h F H S _ fun v H2 e2 r => by
    obtain ⟨a, ws, rfl, hx, rs⟩ := r.tupI
    exact ⟨l, a, xs, ws, rfl, rfl, e2 l _ hl, less_ex a _ hx, sz_of (by rw [rs.length]; exact hz), k ws (less H2 F) _ (S.lessEx e2) ((S.on e2).sep.write hF) (fun b o hne hb => by rw [upd_ne hne]; exact e2 b o hb) upd_same rs⟩⟩
/-- l.append((x, y)) of two that stand in slots -/
theorem s_appT {i j k : Nat} {p : Addr} {xs : List V} {v1 v2 : V} (S : Beside Hb F H) (hF : p ∈ F) (hl : H p = some (.lst xs)) (hv : σ[i]? = some (some (.ref p))) (h1 : σ[j]? = some (some v1)) (h2 : σ[k]? = some (some v2)) (hz : xs.length < 100000)
    (kk : ∀ pt Hb' H', Ex Hb Hb' → Beside Hb' F H' → (∀ a o, a ≠ p → H a = some o → H' a = some o) → Hb' pt = some (.tup [v1, v2]) → H' p = some (.lst (xs ++ [.ref pt])) → D.nx σ H') :
    tDrop (tBM K "list" rAppend (tVar i) (tCons (tTup (tCons (tVar j) (tCons (tVar k) tNil))) tNil)) D σ H :=
  ⟨.ref p, hv, Or.inl ⟨rfl, xs, sq_of hl⟩, v1, h1, v2, h2, sz_of (by simp), fun pt hp => by
    have e2 : Ex H (upd H pt (.tup [v1, v2])) := Ex.new hp
    refine ⟨p, xs, .ref pt, rfl, rfl, e2 p _ hl, sz_lt hz, ?_⟩
    exact kk pt (less (upd H pt (.tup [v1, v2])) F) _ (S.lessEx e2) ((S.on e2).sep.write hF) (fun a o hne ha => by rw [upd_ne hne]; exact e2 a o ha) (by rw [less_some (S.new hp)]; exact upd_same) upd_same⟩
/-- a new list of new things, beside from here on -/
theorem q_setFN {i : Nat} (S : Beside Hb F H) (h : EvNs ta σ Hb ds) (hl : ds.length ≤ 100000) (k : ∀ p xs Hb' H', H p = none → Ex Hb Hb' → Ex H H' → Beside Hb' (p :: F) H' → H' p = some (.lst xs) → RpL (Fresh H) Hb' xs ds → tz D (σ.set i (some (.ref p))) H') : tSeq (tAsg (tLst ta) (gName i)) tz D σ H :=
  h F H S _ fun vs H2 e2 r => ⟨sz_of (by rw [r.length]; exact hl), fun p hp => k p vs (less H2 F) (upd H2 p (.lst vs)) (fresh_back e2 hp) (S.lessEx e2) (e2.trans (Ex.new hp)) ((S.on e2).sep.add hp) upd_same
    (r.to (fun a xs n h => ⟨n, by rw [less_some (S.new n)]; exact h⟩) (fun a xs h => by rw [less_some (S.tup e2 h)]; exact h) fun a k h => by rw [less_some (S.dic e2 h)]; exact h)⟩
/-- for x, y in a list of pairs -/
theorem q_forP {tl : TE} {i j : Nat} {l : List (Nat × Nat)} (S : Beside Hb F H) (h : EvD tl σ Hb (dPairs l))
    (k : ∀ Hb1 H1, Ex Hb Hb1 → Ex H H1 → Beside Hb1 F H1 → ∃ Pv : Nat → L2.St → Hp → Prop, Pv 0 σ H1 ∧ (∀ i σ' H', Pv i σ' H' → Ex Hb1 H') ∧
      (∀ m p σ' H', l[m]? = some p → Pv m σ' H' → tu { D with nx := Pv (m + 1), ct := Pv (m + 1), bk := tz D } ((σ'.set i (some (.int (p.1 : Nat)))).set j (some (.int (p.2 : Nat)))) H') ∧ (∀ σ' H', Pv l.length σ' H' → tz D σ' H')) : tSeq (tFor (iList K tl) (gTup K 2 (gCons (gName i) (gCons (gName j) gNil))) tu) tz D σ H :=
  q_forL S h fun Hb1 H1 eb e S1 => by
    obtain ⟨Pv, h0, hb, hs, hd⟩ := k Hb1 H1 eb e S1
    refine ⟨Pv, h0, hb, fun m d v σ' H' hm rv hP => ?_, fun σ' H' hP => hd σ' H' (by rw [List.length_map] at hP; exact hP)⟩
    rw [List.getElem?_map] at hm
    cases hp : l[m]? with
    | none => rw [hp] at hm; cases hm
    | some p =>
      rw [hp] at hm; cases hm
      have eh := hb m σ' H' hP
      obtain ⟨a, xs, rfl, hx, rs⟩ := rv.tupI
      cases rs with
      | cons r1 rs =>
        cases rs with
        | cons r2 rs =>
          cases rs
          rw [r1.intI, r2.intI] at hx
          exact ⟨a, _, rfl, st_of (eh a _ hx), rfl, _, _, rfl, _, _, rfl, rfl, hs m p σ' H' hp hP⟩
end
/-! ### promises -/
section
variable {mg : Str → Option Value} {σ : L2.St} {Hb : Hp} {te : TE} {ds : List Dt} {E : XK} {ta : TA} {P P2 : Addr}
theorem ex_callTT {n : Nat} {pre : List Dt → Prop} {f : List Dt → Except Str Dt} (h : EvDs ta σ Hb ds) (hP : Hb P = some (tblO P)) (hP2 : Hb P2 = some (tblO P2)) (hp : pre ds) (hl : ds.length = n) : EvX mg (tCall (spT P (spT P2 (spE mg n pre f))) [] E ta) σ Hb (f ds) E := fun F H S Q q qe =>
  h F H S _ fun vs H1 e1 r => by
    show spT P (spT P2 (spE mg n pre f)) (vs ++ []) H1 Q E
    rw [List.append_nil]
    exact ⟨e1 P _ (less_tbl S hP), e1 P2 _ (less_tbl S hP2), by rw [r.length]; exact hl, ds, r.mono less_ex, hp, fun d hd v H' e2 rv => q d hd v H' (e1.trans e2) (rv.wk fun a n => fresh_back e1 n), fun x hx H' e2 => qe x hx H' (e1.trans e2)⟩
end
def dNat (d : Dt) : Nat := (dInt d).toNat
def sp__keeps_clear (T : Addr) : Sp := spT T (spD 3 (fun ds => ∃ (g : List Nat) (l h : Nat), ds = [dGrp g, .int l, .int h]) fun ds => .bl (keepsM (ds.headD .non).grpN (dNat (ds.getD 1 .non)) (dNat (ds.getD 2 .non))))
def sp__bound (T : Addr) : Sp := spT T (spD 3 (fun ds => ∃ (gs : List (List Nat)) (l h : Nat), ds = [dGrps gs, .int l, .int h] ∧ gs.length ≤ 100 ∧ (∀ g ∈ gs, g ≠ [] ∧ g.length ≤ 100) ∧ (∃ g ∈ gs, keepsM g l h = false)) fun ds => dGrps (boundM ((ds.headD .non).rows.map Dt.grpN) (dNat (ds.getD 1 .non)) (dNat (ds.getD 2 .non))))
def dWay (n : Nat) (l : List (List (List Nat))) : Dt := .lst (l.map (dTie n))
def wayX (one other : Dt) : Except Str Dt := if finM one.many other.many one.grps other.grps = true then .ok (dWay one.many (wayS one.grps (bonds other.grps)).1) else .error "NotFiner"
def sp_way (mg : Str → Option Value) (T T2 : Addr) : Sp := spT T (spT T2 (spE mg 2 (fun ds => ∃ (n : Nat) (f g : Nat → Nat), ds = [dTie n (groupsOf f n), dTie n (groupsOf g n)] ∧ 1 ≤ n ∧ n ≤ 60) fun ds => wayX (ds.headD .non) (ds.getD 1 .non)))
end Nc

/-! ### what is refused, told by a word -/
namespace Nc
open PySem PySem.Spec PyProof.Rows L2 Evl
/-! promises of defs that tell anything, or refuse -/
def exW : Except Str Dt → Option Str
  | .ok _ => none
  | .error e => some e
def spW (mg : Str → Option Value) (n : Nat) (pre : List Dt → Prop) (x : List Dt → Option Str) : Sp := fun vs H Q E => vs.length = n ∧ ∃ ds, RpL Any H vs ds ∧ pre ds ∧ (x ds = none → ∀ v H', Ex H H' → Q v H') ∧ (∀ e, x ds = some e → ∀ H', Ex H H' → E (.ref (clO mg e)) none H')
def EvW (mg : Str → Option Value) (te : TE) (σ : L2.St) (Hb : Hp) (x : Option Str) (E : XK) : Prop := ∀ F H, Beside Hb F H → ∀ Q : VK, (x = none → ∀ v H', Ex H H' → Q v H') → (∀ e, x = some e → ∀ H', Ex H H' → E (.ref (clO mg e)) none H') → te σ H Q
section
variable {mg : Str → Option Value} {σ : L2.St} {Hb H : Hp} {F : List Addr} {d : Dt} {ds : List Dt} {te ta tb tl : TE} {tar : TA} {K : PySem.W.Frag} {D : Ends} {tz tu : TS} {E : XK} {P P2 : Addr}
theorem ew_call {n : Nat} {pre : List Dt → Prop} {x : List Dt → Option Str} (h : EvDs tar σ Hb ds) (hp : pre ds) (hl : ds.length = n) : EvW mg (tCall (spW mg n pre x) [] E tar) σ Hb (x ds) E := fun F H S Q q qe =>
  h F H S _ fun vs H1 e1 r => by
    show spW mg n pre x (vs ++ []) H1 Q E
    rw [List.append_nil]
    exact ⟨by rw [r.length]; exact hl, ds, r.mono less_ex, hp, fun hx v H' e2 => q hx v H' (e1.trans e2), fun x hx H' e2 => qe x hx H' (e1.trans e2)⟩
theorem EvX.ew {r : Except Str Dt} (h : EvX mg te σ Hb r E) : EvW mg te σ Hb (exW r) E := fun F H S Q q qe =>
  h F H S Q (fun d hd v H' e _ => by subst hd; exact q rfl v H' e) fun x hx H' e => by subst hx; exact qe x rfl H' e
theorem s_retW {x : Option Str} (S : Beside Hb F H) (h : EvW mg te σ Hb x E) (k : x = none → ∀ v H', Ex H H' → D.rt v H') (ke : ∀ e, x = some e → ∀ H', Ex H H' → E (.ref (clO mg e)) none H') : tRet te D σ H := h F H S _ k ke
/-! a list of truths: how many, and the first -/
theorem bls_of {N : Addr → Prop} {H : Hp} : ∀ {bs : List Bool} {xs : List V}, RpL N H xs (bs.map Dt.bl) → xs = bs.map V.bl
  | [], _, .nil => rfl
  | _ :: _, _, .cons a t => by rw [List.map_cons, a.blI, bls_of t]
theorem ed_count {i n : Nat} {v : V} {bs : List Bool} (hv : σ[i]? = some (some v)) (r : Rp Any Hb v (.lst (bs.map Dt.bl))) (hc : (Dt.lst (bs.map Dt.bl)).can = true) (hp : PyData.plainAll (Dt.pys (bs.map Dt.bl)) = true) (hn : (Dt.pys (bs.map Dt.bl)).countP (fun y => PyData.eqv y (.bool true)) = n) :
    EvD (tBM K "list" (rCountD K) (tVar i) (tCons (tC (.bl true)) tNil)) σ Hb (.int (n : Nat)) := fun F H S Q q => by
  have r2 := r.mono S.ex
  obtain ⟨p, xs, rfl, _, hx, rs⟩ := r2.lstI
  exact ⟨.ref p, hv, Or.inl ⟨rfl, xs, sq_of hx⟩, p, .bl true, .bool true, Dt.pys (bs.map Dt.bl), rfl, rfl, r2.dp hc, (Rp.bl (N := Any) (H := H) true).dp rfl, rfl, hp, rfl, by rw [hn]; exact q _ H (Ex.refl H) (.int _)⟩
theorem ed_index {i j : Nat} {v : V} {bs : List Bool} (hv : σ[i]? = some (some v)) (r : Rp Any Hb v (.lst (bs.map Dt.bl))) (hj : bs[j]? = some true) (hno : ∀ m, m < j → bs[m]? = some false) :
    EvD (tBM K "list" (rIndex K) (tVar i) (tCons (tC (.bl true)) tNil)) σ Hb (.int (j : Nat)) := fun F H S Q q => by
  have r2 := r.mono S.ex
  obtain ⟨p, xs, rfl, _, hx, rs⟩ := r2.lstI
  have hxs := bls_of rs
  subst hxs
  refine ⟨.ref p, hv, Or.inl ⟨rfl, _, sq_of hx⟩, p, bs.map V.bl, .bl true, j, .bl true, rfl, rfl, sq_of hx, rfl, ?_, ?_, rfl, fun m z' hm hz => ?_, q _ H (Ex.refl H) (.int _)⟩
  · rw [List.all_map]
    exact List.all_eq_true.mpr fun _ _ => rfl
  · rw [List.getElem?_map, hj]; rfl
  · rw [List.getElem?_map, hno m hm] at hz
    cases hz; rfl
theorem ed_intB {b : Bool} (h : EvD ta σ Hb (.bl b)) : EvD (tCB rIntB (tCons ta tNil)) σ Hb (.int (if b then 1 else 0)) := fun F H S Q q =>
  h.thn S fun x H2 e2 S2 rx => by
    rw [rx.blI]
    exact ⟨b, rfl, q _ H2 e2 (.int _)⟩
def bs4 (j : Fin 4) : List Bool := [decide (0 = j), decide (1 = j), decide (2 = j), decide (3 = j), false, false]
theorem bs4_cnt : ∀ j : Fin 4, (Dt.pys ((bs4 j).map Dt.bl)).countP (fun y => PyData.eqv y (.bool true)) = 1 := by decide
theorem bs4_can : ∀ j : Fin 4, (Dt.lst ((bs4 j).map Dt.bl)).can = true := by decide
theorem bs4_pl : ∀ j : Fin 4, PyData.plainAll (Dt.pys ((bs4 j).map Dt.bl)) = true := by decide
theorem bs4_ix : ∀ j : Fin 4, (bs4 j)[j.val]? = some true ∧ ∀ m, m < j.val → (bs4 j)[m]? = some false := by decide
/-- the six marks of a refusal, and its word -/
theorem suiteW {i im : Nat} {a De : Addr} {cls : Value} {d : Option Addr} {c0 c1 c2 c3 o0 o1 o2 o3 o4 : Addr} {w0 w1 w2 w3 w4 w5 : Str} {bs : Fin 4 → Bool} {j : Fin 4} {Dn : Ends} (hne : i ≠ im) (him : im < σ.length) (hv : σ[i]? = some (some (.ref a))) (h1 : cls = .ref De) (h2 : d = none) (h3 : ExcC K De)
    (hb : ∀ k, bs k = decide (k = j)) (k0 : PySem.W.kitOne K (.ref De) (.ref c0) = some (bs 0)) (k1 : PySem.W.kitOne K (.ref De) (.ref c1) = some (bs 1)) (k2 : PySem.W.kitOne K (.ref De) (.ref c2) = some (bs 2)) (k3 : PySem.W.kitOne K (.ref De) (.ref c3) = some (bs 3))
    (ko : PySem.W.kitAny K (.ref De) [.ref o0, .ref o1, .ref o2, .ref o3, .ref o4] = some false) (kv : PySem.W.kitOne K (.ref De) (.type "ValueError") = some true) (k : ∀ v H', Ex H H' → v = .str ([w0, w1, w2, w3].getD j.val "") → Dn.rt v H') :
    tSeq (tAsg (tLst (tCons (tCB (rIsX K cls d a) (tCons (tVar i) (tCons (tC (.ref c0)) tNil))) (tCons (tCB (rIsX K cls d a) (tCons (tVar i) (tCons (tC (.ref c1)) tNil))) (tCons (tCB (rIsX K cls d a) (tCons (tVar i) (tCons (tC (.ref c2)) tNil))) (tCons (tCB (rIsX K cls d a) (tCons (tVar i) (tCons (tC (.ref c3)) tNil))) tNil))))) (gName im))
      (tSeq (tAsg (tOp rCat (tVar im) (tLst (tCons (tCB (rIsX K cls d a) (tCons (tVar i) (tCons (tTup (tCons (tC (.ref o0)) (tCons (tC (.ref o1)) (tCons (tC (.ref o2)) (tCons (tC (.ref o3)) (tCons (tC (.ref o4)) tNil)))))) tNil))) (tCons (tNotV (tCB (rIsX K cls d a) (tCons (tVar i) (tCons (tC (.ty "ValueError")) tNil)))) tNil)))) (gName im))
      (tSeq (tIfS (tTest (tOp rNe (tBM K "list" (rCountD K) (tVar im) (tCons (tC (.bl true)) tNil)) (tC (.int 1)))) (tRet (tC (.str "several"))) tNext)
        (tRet (tOp (rIxL K) (tLst (tCons (tC (.str w0)) (tCons (tC (.str w1)) (tCons (tC (.str w2)) (tCons (tC (.str w3)) (tCons (tC (.str w4)) (tCons (tC (.str w5)) tNil))))))) (tBM K "list" (rIndex K) (tVar im) (tCons (tC (.bl true)) tNil)))))) Dn σ H := by
  have hset : ∀ x : Option V, (σ.set im x)[i]? = some (some (.ref a)) := fun x => by rw [List.getElem?_set_ne (Ne.symm hne)]; exact hv
  have hget : ∀ x : Option V, (σ.set im x)[im]? = some x := fun x => by rw [List.getElem?_set_self him]
  refine q_set (Beside.refl H) (EvF.dd (ef_lst (ea_cons' (ed_isx hv h1 h2 h3 k0) (ea_cons' (ed_isx hv h1 h2 h3 k1) (ea_cons' (ed_isx hv h1 h2 h3 k2) (ea_cons' (ed_isx hv h1 h2 h3 k3) ea_nil')))) (by simp))) fun v1 Hb1 H1 eb1 e1 S1 r1 => ?_
  refine q_set S1 ((EvF.dd (ef_cat (ed_v (hget _) r1) (EvF.dd (ef_lst (ea_cons' (ed_isx5 (hset _) h1 h2 h3 ko) (ea_cons' (ed_not (ed_isxT (hset _) h1 h2 h3 kv)) ea_nil')) (by simp))) (by simp))).as (d' := .lst ([bs 0, bs 1, bs 2, bs 3, false, false].map Dt.bl)) rfl) fun v2 Hb2 H2 eb2 e2 S2 r2 => ?_
  rw [List.set_set]
  have eb4 : [bs 0, bs 1, bs 2, bs 3, false, false] = bs4 j := by
    rw [hb, hb, hb, hb]; rfl
  have hcnt := bs4_cnt j
  have hcan := bs4_can j
  have hpl := bs4_pl j
  have hix := bs4_ix j
  rw [← eb4] at hcnt hcan hpl hix
  refine q_ifN (b := false) S2 (et_d (ed_neI (ed_count (hget _) r2 hcan hpl hcnt) ed_int)) (fun z => nomatch z) fun _ H3 e3 S3 => ?_
  refine s_retD S3 (ed_ixL (d := .str ([w0, w1, w2, w3].getD j.val "")) (EvF.dd (ef_lst (ea_cons' ed_str (ea_cons' ed_str (ea_cons' ed_str (ea_cons' ed_str (ea_cons' ed_str (ea_cons' ed_str ea_nil')))))) (by simp))) (ed_index (hget _) r2 hix.1 hix.2) ?_) fun v H4 e4 r4 => k v H4 (((e1.trans e2).trans e3).trans e4) r4.strI
  match j with
  | 0 => rfl
  | 1 => rfl
  | 2 => rfl
  | 3 => rfl
end
end Nc
namespace Nc
open PySem PySem.Spec PyProof.Rows L2 Evl
section
variable {mg : Str → Option Value} {σ : L2.St} {Hb H : Hp} {F : List Addr} {d : Dt} {ds : List Dt} {te ta tb tl : TE} {tar : TA} {K : PySem.W.Frag} {D : Ends} {tz tu : TS} {t : TT} {E : XK}
/-- while, by an invariant with its measure -/
theorem q_while (W : Nat → L2.St → Hp → Prop) {m0 : Nat} (h0 : W m0 σ H)
    (hs : ∀ m σ' H', W m σ' H' → ∃ b Hb, Ex Hb H' ∧ EvT t σ' Hb b ∧ (b = true → ∀ H1, Ex H' H1 → ∃ N : L2.St → Hp → Prop, (∀ σ2 H2, N σ2 H2 → ∃ m', m' < m ∧ W m' σ2 H2) ∧ tu { D with nx := N, ct := N, bk := tz D } σ' H1) ∧ (b = false → ∀ H1, Ex H' H1 → tz D σ' H1)) : tSeq (tWhile t tu) tz D σ H :=
  ⟨W, ⟨m0, h0⟩, fun m σ' H' hw => by
    obtain ⟨b, Hb, eb, ht, h1, h2⟩ := hs m σ' H' hw
    refine ht H' eb _ fun H1 e1 => ?_
    cases b with
    | true => rw [if_pos rfl]; exact h1 rfl H1 e1
    | false => rw [if_neg (by simp)]; exact h2 rfl H1 e1⟩
theorem s_augI {i : Nat} {a b : Int} {g : Int → Int → Int} (S : Beside Hb F H) (hv : σ[i]? = some (some (.int a))) (h : EvD te σ Hb (.int b)) (k : ∀ H', Ex H H' → Beside Hb F H' → D.nx (σ.set i (some (.int (g a b)))) H') : tAug i te (ipI g) D σ H :=
  ⟨.int a, hv, h F H S _ fun v H' e r => by
    rw [r.intI]
    exact ⟨a, b, rfl, rfl, k H' e (S.on e)⟩⟩
theorem q_augI {i : Nat} {a b : Int} {g : Int → Int → Int} (S : Beside Hb F H) (hv : σ[i]? = some (some (.int a))) (h : EvD te σ Hb (.int b)) (k : ∀ H', Ex H H' → Beside Hb F H' → tz D (σ.set i (some (.int (g a b)))) H') : tSeq (tAug i te (ipI g)) tz D σ H := s_augI (D := { D with nx := tz D }) S hv h k
theorem ew_eqX {r : Except Str Dt} (ha : EvD ta σ Hb d) (hb : EvX mg tb σ Hb r E) (fd : d.fit) (fr : ∀ e, r = .ok e → e.fit) : EvW mg (tOp (rEqD K) ta tb) σ Hb (exW r) E := fun F H S Q q qe =>
  ha.thn S fun x H2 e2 S2 rx => hb F H2 S2 _ (fun e he y H3 e3 ry => ⟨d.py, e.py, (rx.mono (less_ex.trans e3)).dp fd.1, ry.dp (fr e he).1, fd.shaped, (fr e he).shaped, q (by subst he; rfl) _ H3 (e2.trans e3)⟩) fun x hx H3 e3 => qe x (by subst hx; rfl) H3 (e2.trans e3)
end
/-! what is asked of nocross -/
def cntW (c : Dt) : Option Str := match cntOk c with
  | some _ => none
  | none => some "BadCount"
def grpOfX (t p : Dt) : Except Str Dt := match plOk t.many p with
  | some k => .ok (dGrp (findG t.grps k))
  | none => .error "NoPlace"
def tiedW (t p r : Dt) : Option Str := match grpOfX t p with
  | .error e => some e
  | .ok _ => exW (grpOfX t r)
def tieOfW (c p : Dt) : Option Str := match cntOk c with
  | none => some "BadCount"
  | some n => match p with
    | .int i => if 0 ≤ i ∧ i < catI n then none else some "NoNumber"
    | _ => some "NoNumber"
def okLab (n : Nat) (t : Dt) : Prop := 1 ≤ n ∧ n ≤ 60 ∧ ∃ f : Nat → Nat, t = dTie n (groupsOf f n)
def sp_finestW (mg : Str → Option Value) : Sp := spW mg 1 (fun ds => ∃ c, ds = [c]) fun ds => cntW (ds.headD .non)
def sp_group_ofX (mg : Str → Option Value) : Sp := spE mg 2 (fun ds => ∃ n t p, ds = [t, p] ∧ okLab n t) fun ds => grpOfX (ds.headD .non) (ds.getD 1 .non)
def sp_tiedW (mg : Str → Option Value) : Sp := spW mg 3 (fun ds => ∃ n t p r, ds = [t, p, r] ∧ okLab n t) fun ds => tiedW (ds.headD .non) (ds.getD 1 .non) (ds.getD 2 .non)
def sp_tie_ofW (mg : Str → Option Value) : Sp := spW mg 2 (fun ds => ∃ c p, ds = [c, p]) fun ds => tieOfW (ds.headD .non) (ds.getD 1 .non)
theorem grpOfX_none {t p : Dt} (h : plOk t.many p = none) : grpOfX t p = .error "NoPlace" := by unfold grpOfX; rw [h]
theorem grpOfX_some {t p : Dt} {k : Nat} (h : plOk t.many p = some k) : grpOfX t p = .ok (dGrp (findG t.grps k)) := by unfold grpOfX; rw [h]
theorem plOk_int {n : Nat} {i : Int} (h0 : 0 ≤ i) (h1 : i < n) : plOk n (.int i) = some i.toNat := if_pos ⟨h0, h1⟩
theorem plOk_no {n : Nat} {i : Int} (h : ¬ (0 ≤ i ∧ i < n)) : plOk n (.int i) = none := if_neg h
end Nc

/-! ### sound ties, step by step coarser -/
namespace Nc
theorem alike_of {f : Nat → Nat} {n : Nat} {g : List Nat} (h : g ∈ groupsOf f n) {a b : Nat} (ha : a ∈ g) (hb : b ∈ g) : f b = f a := by
  rw [group_at h ha] at hb
  exact (mem_grp.mp hb).2
theorem in_lt {f : Nat → Nat} {n : Nat} {g : List Nat} (h : g ∈ groupsOf f n) {a : Nat} (ha : a ∈ g) : a < n := by
  rw [group_at h ha] at ha
  exact (mem_grp.mp ha).1
/-- two groups of a sound tie don't cross -/
theorem nonx_groups {f : Nat → Nat} {n : Nat} (h : NonX f n) {one other : List Nat} (h1 : one ∈ groupsOf f n) (h2 : other ∈ groupsOf f n) (hne : other ≠ one) : ¬ crossP one other := by
  have same : ∀ {a b : Nat}, a ∈ one → b ∈ other → f a = f b → False := fun {a b} ha hb e => hne (by rw [group_at h1 ha, group_at h2 hb, grp_congr e])
  have hd : ∀ x ∈ one, x ∉ other := fun x hx hy => same hx hy rfl
  rw [cross_four hd]
  rintro (⟨a, ha, b, hb, c, hc, d, hdd, q1, q2, q3⟩ | ⟨a, ha, b, hb, c, hc, d, hdd, q1, q2, q3⟩)
  · exact same ha hb (h a b c d q1 q2 q3 (in_lt h2 hdd) (alike_of h1 hc ha) (alike_of h2 hdd hb))
  · exact same hb ha (h a b c d q1 q2 q3 (in_lt h1 hdd) (alike_of h2 hc ha) (alike_of h1 hdd hb)).symm
/-! what is bound -/
section
variable {f : Nat → Nat} {n l h : Nat}
theorem not_keeps {g : List Nat} (k : keepsM g l h = false) : (∃ p ∈ g, ¬ (l < p ∧ p < h)) ∧ ∃ p ∈ g, l ≤ p ∧ p ≤ h := by
  have k' : ¬ keepsM g l h = true := by rw [k]; exact Bool.false_ne_true
  rw [keepsM_iff] at k'
  constructor
  · exact Classical.byContradiction fun z => k' (.inl fun p hp => Classical.byContradiction fun y => z ⟨p, hp, y⟩)
  · exact Classical.byContradiction fun z => k' (.inr fun p hp => Classical.byContradiction fun y => z ⟨p, hp, by omega⟩)
theorem bnd_iff (hl : l < n) (hlh : l ≤ h) {i j : Nat} : bndF f n l h i = bndF f n l h j ↔ f i = f j ∨ (keepsM (grp f n i) l h = false ∧ keepsM (grp f n j) l h = false) := by
  have kl : keepsM (grp f n l) l h = false := keeps_low (mem_grp.mpr ⟨hl, rfl⟩) hlh
  have alike : ∀ {i j : Nat}, f i = f j → keepsM (grp f n i) l h = keepsM (grp f n j) l h := fun e => by rw [grp_congr e]
  unfold bndF
  cases ki : keepsM (grp f n i) l h with
  | true =>
    rw [mrgK_yes ki]
    cases kj : keepsM (grp f n j) l h with
    | true =>
      rw [mrgK_yes kj]
      exact ⟨.inl, fun z => z.elim id fun y => nomatch y.1⟩
    | false =>
      rw [mrgK_no kj]
      constructor
      · intro e
        have := alike e
        rw [ki, kl] at this; cases this
      · rintro (z | z)
        · have := alike z
          rw [ki, kj] at this; cases this
        · cases z.1
  | false =>
    rw [mrgK_no ki]
    cases kj : keepsM (grp f n j) l h with
    | true =>
      rw [mrgK_yes kj]
      constructor
      · intro e
        have := alike e
        rw [kj, kl] at this; cases this
      · rintro (z | z)
        · have := alike z
          rw [ki, kj] at this; cases this
        · cases z.2
    | false =>
      rw [mrgK_no kj]
      exact ⟨fun _ => .inr ⟨rfl, rfl⟩, fun _ => rfl⟩
theorem bnd_nonx (x : NonX f n) (hlh : l ≤ h) (hh : h < n) : NonX (bndF f n l h) n := by
  have hl : l < n := by omega
  have alike : ∀ {i j : Nat}, f i = f j → keepsM (grp f n i) l h = keepsM (grp f n j) l h := fun e => by rw [grp_congr e]
  have diff : ∀ {i j : Nat}, keepsM (grp f n i) l h = true → keepsM (grp f n j) l h = false → f i = f j → False := fun h1 h2 e => by
    have := alike e
    rw [h1, h2] at this; cases this
  -- a kept stretch that doesn't hold l and h has nothing drawn within
  have A : ∀ u z v, u < z → z < v → v < n → f u = f v → keepsM (grp f n u) l h = true → keepsM (grp f n z) l h = false → ¬ (u < l ∧ h < v) → False := fun u z v h1 h2 h3 e ku kz ns => by
    obtain ⟨⟨p, hp, p1⟩, p', hp', p2⟩ := not_keeps kz
    obtain ⟨pn, pe⟩ := mem_grp.mp hp
    obtain ⟨pn', pe'⟩ := mem_grp.mp hp'
    rcases keepsM_iff.mp ku with q | q
    · have q1 := q u (mem_grp.mpr ⟨by omega, rfl⟩)
      have q2 := q v (mem_grp.mpr ⟨h3, e.symm⟩)
      rcases Nat.lt_or_ge p u with c | c
      · have := x p u z v c h1 h2 h3 pe e
        exact diff ku kz (this.symm.trans pe)
      · have := x u z v p h1 h2 (by omega) pn e pe.symm
        exact diff ku kz this
    · have q1 := q u (mem_grp.mpr ⟨by omega, rfl⟩)
      have q2 := q v (mem_grp.mpr ⟨h3, e.symm⟩)
      rcases Nat.lt_or_ge p' u with c | c
      · have := x p' u z v c h1 h2 h3 pe' e
        exact diff ku kz (this.symm.trans pe')
      · have := x u z v p' h1 h2 (by omega) pn' e pe'.symm
        exact diff ku kz this
  -- a kept stretch that holds l and h has nothing drawn beyond
  have B : ∀ u v w, f u = f v → u < l → h < v → v < n → w < n → keepsM (grp f n u) l h = true → keepsM (grp f n w) l h = false → w < u ∨ v < w → False := fun u v w e h1 h2 h3 h4 ku kw hw => by
    obtain ⟨_, p', hp', p2⟩ := not_keeps kw
    obtain ⟨pn', pe'⟩ := mem_grp.mp hp'
    rcases hw with c | c
    · have := x w u p' v c (by omega) (by omega) h3 pe'.symm e
      exact diff ku kw this.symm
    · have := x u p' v w (by omega) (by omega) c h4 e pe'
      exact diff ku kw (this.trans pe')
  intro a b c d h1 h2 h3 h4 e1 e2
  rw [bnd_iff hl hlh] at e1 e2 ⊢
  cases ka : keepsM (grp f n a) l h with
  | true =>
    have eac : f a = f c := e1.elim id fun z => by rw [ka] at z; cases z.1
    cases kb : keepsM (grp f n b) l h with
    | true =>
      have ebd : f b = f d := e2.elim id fun z => by rw [kb] at z; cases z.1
      exact .inl (x a b c d h1 h2 h3 h4 eac ebd)
    | false =>
      have kd : keepsM (grp f n d) l h = false := e2.elim (fun z => by rw [← alike z]; exact kb) fun z => z.2
      by_cases s : a < l ∧ h < c
      · exact (B a c d eac s.1 s.2 (by omega) h4 ka kd (.inr h3)).elim
      · exact (A a b c h1 h2 (by omega) eac ka kb s).elim
  | false =>
    have kc : keepsM (grp f n c) l h = false := e1.elim (fun z => by rw [← alike z]; exact ka) fun z => z.2
    cases kb : keepsM (grp f n b) l h with
    | true =>
      have ebd : f b = f d := e2.elim id fun z => by rw [kb] at z; cases z.1
      by_cases s : b < l ∧ h < d
      · exact (B b d a ebd s.1 s.2 h4 (by omega) kb ka (.inl h1)).elim
      · exact (A b c d h2 h3 h4 ebd kb kc s).elim
    | false => exact .inr ⟨rfl, rfl⟩
theorem bnd_tied (hlh : l ≤ h) (hh : h < n) : bndF f n l h l = bndF f n l h h := (bnd_iff (by omega) hlh).mpr (.inr ⟨keeps_low (mem_grp.mpr ⟨by omega, rfl⟩) hlh, by
  rw [← Bool.not_eq_true, keepsM_iff]
  have hm : h ∈ grp f n h := mem_grp.mpr ⟨hh, rfl⟩
  rintro (z | z)
  · have := z h hm; omega
  · have := z h hm; omega⟩)
theorem bnd_coarser (hl : l < n) (hlh : l ≤ h) {i j : Nat} (e : f i = f j) : bndF f n l h i = bndF f n l h j := (bnd_iff hl hlh).mpr (.inl e)
end
/-! neighbours follow each other -/
theorem bonds_next {g : Nat → Nat} {n : Nat} {p : Nat × Nat} (h : p ∈ bonds (groupsOf g n)) {z : Nat} (h1 : p.1 < z) (h2 : z < p.2) : g z ≠ g p.1 := by
  obtain ⟨a1, a2, a3⟩ := bonds_lt h
  obtain ⟨gr, hg, hp⟩ := List.mem_flatMap.mp h
  have hm := bondsG_mem hp
  have key : ∀ g : List Nat, g.Pairwise (· < ·) → ∀ p ∈ bondsG g, ∀ z ∈ g, z ≤ p.1 ∨ p.2 ≤ z := by
    intro g
    induction g with
    | nil => intro _ p hp; simp [bondsG] at hp
    | cons x l ih =>
      cases l with
      | nil => intro _ p hp; simp [bondsG] at hp
      | cons y l =>
        intro hs p hp z hz
        rw [bondsG_cons] at hp
        have hsx := List.pairwise_cons.mp hs
        have hsy := List.pairwise_cons.mp hsx.2
        rcases List.mem_cons.mp hp with e | hp
        · rw [e]
          rcases List.mem_cons.mp hz with e2 | hz
          · exact .inl (by rw [e2]; exact Nat.le_refl _)
          · rcases List.mem_cons.mp hz with e2 | hz
            · exact .inr (by rw [e2]; exact Nat.le_refl _)
            · exact .inr (Nat.le_of_lt (hsy.1 z hz))
        · rcases List.mem_cons.mp hz with e2 | hz
          · rw [e2]
            exact .inl (Nat.le_of_lt (hsx.1 _ (bondsG_mem hp).1))
          · exact ih hsx.2 p hp z hz
  intro e
  have hs : gr.Pairwise (· < ·) := by
    obtain ⟨i, _, _, rfl⟩ := mem_groups.mp hg
    exact grp_sorted
  have hz : z ∈ gr := by
    rw [group_at hg hm.1]
    exact mem_grp.mpr ⟨by omega, e⟩
  rcases key gr hs p hp z hz with q | q <;> omega
/-- on the way just the two groups become one -/
theorem way_keeps {k g : Nat → Nat} {n : Nat} {p : Nat × Nat} (hx : NonX g n) (hf : ∀ i j, i < n → j < n → k i = k j → g i = g j) (h : p ∈ bonds (groupsOf g n)) {i : Nat} (hi : i < n) : keepsM (grp k n i) p.1 p.2 = false ↔ k i = k p.1 ∨ k i = k p.2 := by
  obtain ⟨a1, a2, a3⟩ := bonds_lt h
  have hnext := fun z h1 h2 => bonds_next h (z := z) h1 h2
  obtain ⟨l, hh⟩ := p
  dsimp only at a1 a2 a3 hnext ⊢
  constructor
  · intro q
    obtain ⟨⟨p, hp, p1⟩, p', hp', p2⟩ := not_keeps q
    obtain ⟨pn, pe⟩ := mem_grp.mp hp
    obtain ⟨pn', pe'⟩ := mem_grp.mp hp'
    refine Classical.byContradiction fun z => ?_
    have ne : ∀ y, y < n → k y = k i → y ≠ l ∧ y ≠ hh := fun y hy e => ⟨fun q => z (.inl (by rw [← e, q])), fun q => z (.inr (by rw [← e, q]))⟩
    have n1 := ne p pn pe
    have n2 := ne p' pn' pe'
    have ge : g p = g p' := hf p p' pn pn' (pe.trans pe'.symm)
    rcases Nat.lt_or_ge p l with c | c
    · have := hx p l p' hh c (by omega) (by omega) a2 ge a3
      exact hnext p' (by omega) (by omega) (ge.symm.trans this)
    · have := hx l p' hh p (by omega) (by omega) (by omega) pn a3 ge.symm
      exact hnext p' (by omega) (by omega) this.symm
  · rintro (e | e)
    · exact keeps_low (mem_grp.mpr ⟨by omega, e.symm⟩) (Nat.le_of_lt a1)
    · rw [← Bool.not_eq_true, keepsM_iff]
      have hm : hh ∈ grp k n i := mem_grp.mpr ⟨a2, e.symm⟩
      rintro (z | z)
      · have := z hh hm; omega
      · have := z hh hm; omega
theorem bound_len {k : Nat → Nat} {n l h : Nat} (hl : l < n) (hh : h < n) (hk : ∀ i, i < n → (keepsM (grp k n i) l h = false ↔ k i = k l ∨ k i = k h)) : (boundM (groupsOf k n) l h).length + (if k l = k h then 0 else 1) = (groupsOf k n).length := by
  have h1 : (boundM (groupsOf k n) l h).length = ((groupsOf k n).filter fun g => keepsM g l h).length + 1 := by
    unfold boundM
    rw [(sortG_perm _).length_eq, List.length_append]; rfl
  have h2 : ((groupsOf k n).filter fun g => keepsM g l h).length + ((groupsOf k n).filter fun g => !keepsM g l h).length = (groupsOf k n).length := by
    generalize groupsOf k n = gs
    induction gs with
    | nil => rfl
    | cons a gs ih =>
      rw [List.filter_cons, List.filter_cons]
      cases keepsM a l h
      · simp; omega
      · simp; omega
  have mem : ∀ g, g ∈ (groupsOf k n).filter (fun g => !keepsM g l h) ↔ g = grp k n l ∨ g = grp k n h := fun g => by
    rw [List.mem_filter]
    constructor
    · rintro ⟨hg, q⟩
      obtain ⟨i, hi, _, rfl⟩ := mem_groups.mp hg
      rcases (hk i hi).mp (by simpa using q) with e | e
      · exact .inl (grp_congr e)
      · exact .inr (grp_congr e)
    · rintro (e | e)
      · rw [e]; exact ⟨grp_mem hl, by rw [(hk l hl).mpr (.inl rfl)]; rfl⟩
      · rw [e]; exact ⟨grp_mem hh, by rw [(hk h hh).mpr (.inr rfl)]; rfl⟩
  have nd : ((groupsOf k n).filter fun g => !keepsM g l h).Nodup := groups_nd.filter _
  by_cases c : k l = k h
  · have : ((groupsOf k n).filter fun g => !keepsM g l h).length = [grp k n l].length := perm_len nd (by simp) fun g => by
      rw [mem, List.mem_singleton, ← grp_congr c, or_self]
    rw [if_pos c]
    simp at this
    omega
  · have hne : grp k n l ≠ grp k n h := fun e => c (by
      have : l ∈ grp k n h := by rw [← e]; exact mem_grp.mpr ⟨hl, rfl⟩
      exact (mem_grp.mp this).2)
    have : ((groupsOf k n).filter fun g => !keepsM g l h).length = [grp k n l, grp k n h].length := perm_len nd (by simp [hne]) fun g => by
      rw [mem]; simp
    rw [if_neg c]
    simp at this
    omega
/-! the way -/
def StepW (n : Nat) (a b : List (List Nat)) : Prop := ∃ ka kb : Nat → Nat, a = groupsOf ka n ∧ b = groupsOf kb n ∧ NonX ka n ∧ NonX kb n ∧ a.length = b.length + 1 ∧ ∀ i j, i < n → j < n → ka i = ka j → kb i = kb j
structure OnWay (f g : Nat → Nat) (n i : Nat) (st : List (List (List Nat)) × List (List Nat)) (k : Nat → Nat) : Prop where
  cur : st.2 = groupsOf k n
  nx : NonX k n
  fin : ∀ i j, i < n → j < n → k i = k j → g i = g j
  tied : ∀ p ∈ (bonds (groupsOf g n)).take i, k p.1 = k p.2
  len : st.1.length + st.2.length = 1 + (groupsOf f n).length
  first : st.1[0]? = some (groupsOf f n)
  last : st.1[st.1.length - 1]? = some st.2
  all : ∀ a ∈ st.1, ∃ ka : Nat → Nat, a = groupsOf ka n ∧ NonX ka n
  steps : ∀ j a b, st.1[j]? = some a → st.1[j + 1]? = some b → StepW n a b
theorem on_way {f g : Nat → Nat} {n : Nat} (hf : NonX f n) (hg : NonX g n) (hfg : ∀ i j, i < n → j < n → f i = f j → g i = g j) : ∀ i, i ≤ (bonds (groupsOf g n)).length → ∃ k, OnWay f g n i (wayS (groupsOf f n) ((bonds (groupsOf g n)).take i)) k
  | 0, _ => by
    rw [List.take_zero]
    exact ⟨f, ⟨rfl, hf, hfg, by simp, rfl, rfl, rfl, fun a ha => ⟨f, List.mem_singleton.mp ha, hf⟩, fun j a b h1 h2 => by
      have : ([groupsOf f n] : List (List (List Nat)))[j + 1]? = some b := h2
      simp at this⟩⟩
  | i + 1, hi => by
    obtain ⟨k, W⟩ := on_way hf hg hfg i (by omega)
    obtain ⟨p, hp⟩ : ∃ p, (bonds (groupsOf g n))[i]? = some p := ⟨_, List.getElem?_eq_getElem (by omega)⟩
    rw [wayS_next hp]
    have hpm := List.mem_of_getElem? hp
    obtain ⟨a1, a2, a3⟩ := bonds_lt hpm
    have htake : (bonds (groupsOf g n)).take (i + 1) = (bonds (groupsOf g n)).take i ++ [p] := by rw [List.take_add_one, hp]; rfl
    generalize wayS (groupsOf f n) ((bonds (groupsOf g n)).take i) = st at W
    obtain ⟨st1, st2⟩ := st
    obtain ⟨c1, c2, c3, c4, c5, c6, c7, c8, c9⟩ := W
    dsimp only at c1 c2 c3 c4 c5 c6 c7 c8 c9
    subst c1
    have hk := fun i hi => way_keeps hg c3 hpm (i := i) hi
    have hlen := bound_len (k := k) (show p.1 < n by omega) a2 hk
    have hbi := bound_is (f := k) (show p.1 < n by omega) (Nat.le_of_lt a1)
    unfold wStep
    dsimp only
    by_cases e : k p.1 = k p.2
    · rw [if_pos e] at hlen
      rw [if_neg (by omega)]
      refine ⟨k, ⟨rfl, c2, c3, fun q hq => ?_, c5, c6, c7, c8, c9⟩⟩
      rw [htake] at hq
      rcases List.mem_append.mp hq with z | z
      · exact c4 q z
      · rw [List.mem_singleton.mp z]; exact e
    · rw [if_neg e] at hlen
      rw [if_pos (by omega)]
      have nx := bnd_nonx c2 (Nat.le_of_lt a1) a2
      have co := fun {i j : Nat} (h : k i = k j) => bnd_coarser (f := k) (show p.1 < n by omega) (Nat.le_of_lt a1) h
      have st1len : 0 < st1.length := by
        rcases Nat.eq_zero_or_pos st1.length with z | z
        · rw [List.length_eq_zero_iff.mp z] at c6; simp at c6
        · exact z
      refine ⟨bndF k n p.1 p.2, ⟨hbi, nx, fun i j hi hj h => ?_, fun q hq => ?_, ?_, ?_, ?_, fun a ha => ?_, fun j a b h1 h2 => ?_⟩⟩
      · rcases (bnd_iff (show p.1 < n by omega) (Nat.le_of_lt a1)).mp h with z | ⟨z1, z2⟩
        · exact c3 i j hi hj z
        · have y1 : g i = g p.1 := by
            rcases (hk i hi).mp z1 with y | y
            · exact c3 _ _ hi (by omega) y
            · exact (c3 _ _ hi a2 y).trans a3.symm
          have y2 : g j = g p.1 := by
            rcases (hk j hj).mp z2 with y | y
            · exact c3 _ _ hj (by omega) y
            · exact (c3 _ _ hj a2 y).trans a3.symm
          exact y1.trans y2.symm
      · rw [htake] at hq
        rcases List.mem_append.mp hq with z | z
        · exact co (c4 q z)
        · rw [List.mem_singleton.mp z]; exact bnd_tied (Nat.le_of_lt a1) a2
      · dsimp only
        rw [List.length_append]
        simp
        omega
      · dsimp only
        rw [List.getElem?_append_left st1len]; exact c6
      · dsimp only
        rw [List.length_append]
        show (st1 ++ [_])[st1.length + 1 - 1]? = _
        rw [Nat.add_sub_cancel, List.getElem?_append_right (Nat.le_refl _), Nat.sub_self]; rfl
      · rcases List.mem_append.mp ha with z | z
        · exact c8 a z
        · rw [List.mem_singleton.mp z]; exact ⟨_, hbi, nx⟩
      · dsimp only at h1 h2
        rcases Nat.lt_trichotomy (j + 1) st1.length with z | z | z
        · rw [List.getElem?_append_left (by omega)] at h1 h2
          exact c9 j a b h1 h2
        · rw [List.getElem?_append_left (by omega)] at h1
          rw [List.getElem?_append_right (by omega), show j + 1 - st1.length = 0 by omega] at h2
          have hb : b = boundM (groupsOf k n) p.1 p.2 := by simpa using h2.symm
          rw [show j = st1.length - 1 by omega, c7] at h1
          have ha : a = groupsOf k n := (Option.some.inj h1).symm
          exact ⟨k, bndF k n p.1 p.2, ha, hb.trans hbi, c2, nx, by rw [ha, hb]; omega, fun i j _ _ e => co e⟩
        · rw [List.getElem?_eq_none (by rw [List.length_append]; simp; omega)] at h2
          cases h2
/-- the end of the way -/
theorem way_end {f g : Nat → Nat} {n : Nat} (hf : NonX f n) (hg : NonX g n) (hfg : ∀ i j, i < n → j < n → f i = f j → g i = g j) : (wayS (groupsOf f n) (bonds (groupsOf g n))).2 = groupsOf g n ∧ ∃ k, OnWay f g n (bonds (groupsOf g n)).length (wayS (groupsOf f n) (bonds (groupsOf g n))) k := by
  obtain ⟨k, W⟩ := on_way hf hg hfg _ (Nat.le_refl _)
  rw [List.take_length] at W
  refine ⟨?_, k, W⟩
  rw [W.cur]
  have ht := W.tied
  rw [List.take_length] at ht
  exact groups_congr fun i j hi hj => ⟨W.fin i j hi hj, bonds_iff.mp ht i j hi hj⟩
/-! joined -/
def joinM (gs : List (List Nat)) (bs : List (Nat × Nat)) : List (List Nat) := bs.foldl (fun gs p => boundM gs p.1 p.2) gs
theorem joinM_next {gs : List (List Nat)} {bs : List (Nat × Nat)} {i : Nat} {p : Nat × Nat} (h : bs[i]? = some p) : joinM gs (bs.take (i + 1)) = boundM (joinM gs (bs.take i)) p.1 p.2 := by
  unfold joinM
  rw [List.take_add_one, h, List.foldl_append]; rfl
theorem join_lab {f g : Nat → Nat} {n : Nat} (hf : NonX f n) : ∀ i, i ≤ (bonds (groupsOf g n)).length → ∃ k : Nat → Nat, joinM (groupsOf f n) ((bonds (groupsOf g n)).take i) = groupsOf k n ∧ NonX k n ∧ (∀ i j, f i = f j → k i = k j) ∧ ∀ p ∈ (bonds (groupsOf g n)).take i, k p.1 = k p.2
  | 0, _ => ⟨f, by rw [List.take_zero]; rfl, hf, fun _ _ e => e, by simp⟩
  | i + 1, hi => by
    obtain ⟨k, h1, h2, h3, h4⟩ := join_lab (g := g) hf i (by omega)
    obtain ⟨p, hp⟩ : ∃ p, (bonds (groupsOf g n))[i]? = some p := ⟨_, List.getElem?_eq_getElem (by omega)⟩
    obtain ⟨a1, a2, a3⟩ := bonds_lt (List.mem_of_getElem? hp)
    rw [joinM_next hp, h1, bound_is (by omega) (Nat.le_of_lt a1)]
    have co := fun {i j : Nat} (h : k i = k j) => bnd_coarser (f := k) (show p.1 < n by omega) (Nat.le_of_lt a1) h
    refine ⟨_, rfl, bnd_nonx h2 (Nat.le_of_lt a1) a2, fun i j e => co (h3 i j e), fun q hq => ?_⟩
    rw [show (bonds (groupsOf g n)).take (i + 1) = (bonds (groupsOf g n)).take i ++ [p] by rw [List.take_add_one, hp]; rfl] at hq
    rcases List.mem_append.mp hq with z | z
    · exact co (h4 q z)
    · rw [List.mem_singleton.mp z]; exact bnd_tied (Nat.le_of_lt a1) a2
end Nc

/-! ### what the law says of a sound tie -/
namespace Nc
open PySem PySem.Spec PyProof.Rows L2 Evl
theorem grp_row' {gs : List (List Nat)} {i : Nat} {d : Dt} (hi : (gs.map dGrp)[i]? = some d) : ∃ g, gs[i]? = some g ∧ d = dGrp g := by
  rw [List.getElem?_map] at hi
  cases hh : gs[i]? with
  | none => rw [hh] at hi; simp at hi
  | some g => rw [hh] at hi; exact ⟨g, rfl, (Option.some.inj hi).symm⟩
theorem nat_row' {g : List Nat} {j : Nat} {d : Dt} (hj : (g.map fun x => Dt.int ((x : Nat) : Int))[j]? = some d) : ∃ z : Nat, g[j]? = some z ∧ d = .int (z : Int) := by
  rw [List.getElem?_map] at hj
  cases hh : g[j]? with
  | none => rw [hh] at hj; simp at hj
  | some z => rw [hh] at hj; exact ⟨z, rfl, (Option.some.inj hj).symm⟩
theorem groups_cover' {f : Nat → Nat} {n : Nat} : (groupsOf f n).flatten.Perm (List.range n) := by
  rw [List.perm_ext_iff_of_nodup (sub_nodup (f := f) (n := n) (fun g hg => hg) groups_nd) List.nodup_range]
  intro x
  rw [List.mem_range, List.mem_flatten]
  constructor
  · rintro ⟨g, hg, hx⟩
    exact (group_ne hg).2 x hx
  · exact fun hx => ⟨grp f n x, grp_mem hx, mem_grp.mpr ⟨hx, rfl⟩⟩
theorem srt_cover' {f : Nat → Nat} {n : Nat} : srt (groupsOf f n).flatten = List.range n :=
  (srt_uniq groups_cover'.symm (List.pairwise_lt_range.imp Nat.le_of_lt)).symm
/-- the places of all groups, sorted -/
theorem ef_places' {K : PySem.W.Frag} {σ : L2.St} {Hb : Hp} {te : TE} {i : Nat} {h : Nat → Nat} {n : Nat} {vs : List Nat} (ha : EvD te σ Hb (dGrps (groupsOf h n))) (h1 : 1 ≤ n) (hn : n ≤ 60) (hw : ∀ x, wipe ((wipe σ vs).set i (some x)) vs = wipe σ vs) (hi : ∀ x, ((wipe σ vs).set i (some x))[i]? = some (some x)) :
    EvF (tCB (rSortedTI K) (tCons (tCB (rSumL K) (tCons (tLc (iList K te) (gName i) tYes (tCB (rListS K) (tCons (tVar i) tNil)) vs) (tCons (tLst tNil) tNil))) tNil)) σ Hb ((List.range n).map fun x => Dt.int ((x : Nat) : Int)) := by
  have hlen : (groupsOf h n).length ≤ n := groups_length
  have hst : stepsD ((groupsOf h n).map dGrp).length (fun _ => true) (fun j => Dt.lst (((groupsOf h n).getD j []).map fun x => Dt.int ((x : Nat) : Int))) = ((groupsOf h n).map fun g => g.map fun x => Dt.int ((x : Nat) : Int)).map Dt.lst := by
    rw [List.length_map, stepsD_list (L := groupsOf h n) (P := fun _ => true) (G := fun g => Dt.lst (g.map fun x => Dt.int ((x : Nat) : Int))) (fun j x hj => rfl) (fun j x hj _ => by rw [List.getD_eq_getElem?_getD, hj]; rfl), List.filter_eq_self.mpr fun _ _ => rfl, List.map_map]; rfl
  have hfl : ((groupsOf h n).map fun g => g.map fun x => Dt.int ((x : Nat) : Int)).flatten = (groupsOf h n).flatten.map fun x => Dt.int ((x : Nat) : Int) := by rw [List.map_flatten]
  have hne : (groupsOf h n) ≠ [] := fun z => by
    have := grp_mem (f := h) (n := n) (show 0 < n by omega)
    rw [z] at this; cases this
  rw [← srt_cover' (f := h)]
  refine ef_sortS (d := .lst ((groupsOf h n).flatten.map fun x => Dt.int ((x : Nat) : Int))) ((EvF.dd (ef_sumL (dss := (groupsOf h n).map fun g => g.map fun x => Dt.int ((x : Nat) : Int)) ((EvF.dd (ef_lcL (ds := (groupsOf h n).map dGrp) (fun _ => true) (fun j => Dt.lst (((groupsOf h n).getD j []).map fun x => Dt.int ((x : Nat) : Int))) ha (by rw [List.length_map]; omega) hw (fun j d x H5 e5 hj rx5 => et_yes) (fun j d x H5 e5 hj rx5 _ => ?_))).as (congrArg Dt.lst hst)) (fun z => hne (List.map_eq_nil_iff.mp z)) ?_)).as (congrArg Dt.lst hfl)) (.inl rfl)
  · obtain ⟨g, hg, rfl⟩ := grp_row' hj
    refine (EvF.dd (ef_listT (ed_v (hi _) rx5))).as ?_
    rw [List.getD_eq_getElem?_getD, hg]; rfl
  · rw [hfl, List.length_map, groups_cover'.length_eq, List.length_range]; omega
section
variable {σ : L2.St} {Hb H : Hp} {F : List Addr} {ta tb : TE} {K : PySem.W.Frag}
/-- min and max of a list: unlike just where two are -/
theorem ed_minmax {L : List Int} {b : Bool} (ha : EvD ta σ Hb (dInts L)) (hb : EvD tb σ Hb (dInts L)) (h0 : L ≠ []) (h : b = true ↔ ∃ x ∈ L, ∃ y ∈ L, x ≠ y) : EvD (tOp rNe (tCB (rMin K) (tCons ta tNil)) (tCB (rMax K) (tCons tb tNil))) σ Hb (.bl b) := fun F H S Q q =>
  ha.thn S fun x H2 e2 S2 rx => by
    obtain ⟨a, xs, rfl, _, hx, rs⟩ := Rp.lstI rx
    have ex := rs.ofInts
    subst ex
    refine ⟨a, L, rfl, sq_of (less_ex a _ hx), List.length_pos_iff.mpr h0, fun m hm1 hm2 => ?_⟩
    refine hb.thn S2 fun y H3 e3 S3 ry => ?_
    obtain ⟨a2, ys, rfl, _, hy, rs2⟩ := Rp.lstI ry
    have ey := rs2.ofInts
    subst ey
    refine ⟨a2, L, rfl, sq_of (less_ex a2 _ hy), List.length_pos_iff.mpr h0, fun M hM1 hM2 => ?_⟩
    have hbv : (!decide (V.int m = V.int M)) = b := by
      rw [Bool.eq_iff_iff, h]
      simp only [Bool.not_eq_true', decide_eq_false_iff_not, V.int.injEq]
      constructor
      · exact fun z => ⟨m, hm1, M, hM1, z⟩
      · rintro ⟨x, hx1, y, hy1, z⟩ e
        have := hm2 x hx1
        have := hm2 y hy1
        have := hM2 x hx1
        have := hM2 y hy1
        omega
    have := rv_ne (H := H3) (x := .int m) (y := .int M) rfl
    rw [hbv] at this
    exact this H3 (Ex.refl H3) _ fun H4 e4 => q _ H4 ((e2.trans e3).trans e4) (.bl b)
end
/-! promises -/
def sp_l_sound : Sp := spD 2 (fun ds => ∃ (n : Nat) (f : Nat → Nat), ds = [dTie n (groupsOf f n), .int n] ∧ 1 ≤ n ∧ n ≤ 60 ∧ NonX f n) fun _ => .bl true
def sp_l_step : Sp := spD 2 (fun ds => ∃ (n : Nat) (a b : List (List Nat)), ds = [dTie n a, dTie n b] ∧ 1 ≤ n ∧ n ≤ 60 ∧ StepW n a b) fun _ => .bl true
def joinD (one other : Dt) : Dt := dTie one.many (joinM one.grps (bonds other.grps))
def sp_joined (mg : Str → Option Value) (T2 : Addr) : Sp := spT T2 (spE mg 2 (fun ds => ∃ (n : Nat) (f g : Nat → Nat), ds = [dTie n (groupsOf f n), dTie n (groupsOf g n)] ∧ 1 ≤ n ∧ n ≤ 60 ∧ NonX f n) fun ds => .ok (joinD (ds.headD .non) (ds.getD 1 .non)))
end Nc
namespace Nc
open PySem PySem.Spec PyProof.Rows L2 Evl
section
variable {σ : L2.St} {Hb H H0 : Hp} {F : List Addr} {D : Ends} {te : TE} {tz : TS} {K : PySem.W.Frag} {R : Dt → Prop}
theorem q_unp2R {i j : Nat} (S : Beside Hb F H) (h : EvR te σ Hb R) (hR : ∀ e, R e → ∃ d1 d2, e = .tup [d1, d2]) (k : ∀ d1 d2 v1 v2 Hb' H', R (.tup [d1, d2]) → Ex Hb Hb' → Ex H H' → Beside Hb' F H' → Rp Any Hb' v1 d1 → Rp Any Hb' v2 d2 → tz D ((σ.set i (some v1)).set j (some v2)) H') : tSeq (tAsg te (gTup K 2 (gCons (gName i) (gCons (gName j) gNil)))) tz D σ H :=
  h F H S _ fun e v H1 he e1 rv => by
    obtain ⟨d1, d2, rfl⟩ := hR e he
    have r := S.fresh e1 rv
    obtain ⟨a, xs, rfl, hx, rs⟩ := r.tupI
    cases rs with
    | cons r1 rs =>
      cases rs with
      | cons r2 rs =>
        cases rs
        exact ⟨a, _, rfl, st_of (less_ex a _ hx), rfl, _, _, rfl, _, _, rfl, rfl, k d1 d2 _ _ (less H1 F) H1 he (S.lessEx e1) e1 (S.on e1).sep r1 r2⟩
/-- a list of ties can't be the list of groups of one of them -/
theorem tie_list {N : Addr → Prop} {xs : List V} {n m : Nat} {gss : List (List (List Nat))} {gs : List (List Nat)} (r1 : RpL N H xs (gss.map (dTie n))) (r2 : RpL N H xs (gs.map dGrp)) : gss = [] := by
  cases gss with
  | nil => rfl
  | cons a gss =>
    exfalso
    cases r1 with
    | cons q r1 =>
      cases gs with
      | nil => cases r2
      | cons g gs =>
        cases r2 with
        | cons q2 r2 =>
          obtain ⟨a1, x1, rfl, h1, s1⟩ := q.tupI
          obtain ⟨a2, x2, e2, h2, s2⟩ := Rp.tupI (v := V.ref a1) q2
          cases e2
          rw [h1] at h2
          cases h2
          cases s1 with
          | cons t1 s1 =>
            cases s1 with
            | cons t2 s1 =>
              obtain ⟨l, ys, rfl, _⟩ := Rp.lstI t2
              cases g with
              | nil => cases s2
              | cons z g =>
                cases s2 with
                | cons u1 s2 =>
                  cases g with
                  | nil => cases s2
                  | cons z2 g =>
                    cases s2 with
                    | cons u2 s2 => cases u2
/-- for tie in found: tie[1].append((0,)) -/
theorem q_ownAll {i j : Nat} {p : Addr} {xs : List V} {n : Nat} {gss : List (List (List Nat))} {y0 : Option V} (hσ : σ = σ.set j y0) (hij : i ≠ j) (hj : j < σ.length) (hv : σ[i]? = some (some (.ref p))) (hp : H p = some (.lst xs)) (hp0 : H0 p = none) (r : RpL (Fresh H0) H xs (gss.map (dTie n))) (e0 : Ex H0 H) (hne : gss ≠ []) (hxl : gss.length ≤ 20000) (hgl : ∀ g ∈ gss, g.length ≤ 1000)
    (k : ∀ y H', Ex H0 H' → H' p = some (.lst xs) → tz D (σ.set j y) H') : tSeq (tFor (iList K (tVar i)) (gName j) (tDrop (tBM K "list" rAppend (tOp (rIxT K) (tVar j) (tC (.int 1))) (tCons (tTup (tCons (tC (.int 0)) tNil)) tNil)))) tz D σ H := by
  have hxlen : xs.length = gss.length := by rw [r.length, List.length_map]
  have good : ∀ (m : Nat) (x : V), xs[m]? = some x → ∃ t l, x = V.ref t ∧ H t = some (.tup [.int n, .ref l]) ∧ H0 l = none ∧ l ≠ p ∧ ∃ ys, H l = some (.lst ys) ∧ ys.length ≤ 1000 := fun m x hx => by
    obtain ⟨d, hd, rd⟩ := r.getV hx
    rw [List.getElem?_map] at hd
    cases hg : gss[m]? with
    | none => rw [hg] at hd; cases hd
    | some gs =>
      rw [hg] at hd; cases hd
      obtain ⟨t, zs, rfl, ht, rs⟩ := Rp.tupI rd
      cases rs with
      | cons t1 rs =>
        cases rs with
        | cons t2 rs =>
          cases rs
          obtain ⟨l, ys, rfl, hl0, hl, ry⟩ := Rp.lstI t2
          rw [t1.intI] at ht
          refine ⟨t, l, rfl, ht, hl0, fun z => ?_, ys, hl, ?_⟩
          · rw [z, hp] at hl
            cases hl
            exact hne (tie_list (m := n) r ry)
          · rw [ry.length, List.length_map]; exact hgl gs (List.mem_of_getElem? hg)
  refine ⟨.ref p, hv, p, rfl, ⟨xs, sq_of hp⟩, for_list (xs := xs) (fun m σ' H' => (∃ y, σ' = σ.set j y) ∧ Ex H0 H' ∧ H' p = some (.lst xs) ∧ ∀ (m2 : Nat) (x : V), xs[m2]? = some x → ∃ t l, x = V.ref t ∧ H' t = some (.tup [.int n, .ref l]) ∧ H0 l = none ∧ l ≠ p ∧ ∃ ys, H' l = some (.lst ys) ∧ ys.length ≤ 1000 + m) ⟨⟨y0, hσ⟩, e0, hp, good⟩ (fun m σ' H' _ q => sq_of q.2.2.1) (fun m x σ' H' hm q => ?_) fun σ' H' q => ?_⟩
  · obtain ⟨⟨y, rfl⟩, e1, hp1, gd⟩ := q
    obtain ⟨t, l, rfl, ht, hl0, hlp, ys, hl, hyl⟩ := gd m x hm
    have hmlt := (List.getElem?_eq_some_iff.mp hm).1
    show tDrop _ _ ((σ.set j y).set j (some (.ref t))) H'
    rw [List.set_set]
    refine ⟨.ref t, by rw [List.getElem?_set_self hj], t, _, 1, .ref l, rfl, rfl, st_of ht, rfl, .inl ⟨rfl, ys, sq_of hl⟩, by decide, fun q hq => ⟨l, ys, .ref q, rfl, rfl, by rw [upd_ne (ne_of_none hl hq)]; exact hl, sz_lt (by omega), ?_⟩⟩
    have hql : q ≠ l := (ne_of_none hl hq).symm
    generalize hH2 : upd (upd H' q (.tup [.int 0])) l (.lst (ys ++ [.ref q])) = H2
    have same : ∀ b o, b ≠ l → H' b = some o → H2 b = some o := fun b o hb ho => by rw [← hH2, upd_ne hb]; exact Ex.new hq _ _ ho
    have hl2 : H2 l = some (.lst (ys ++ [.ref q])) := by rw [← hH2]; exact upd_same
    refine ⟨⟨_, rfl⟩, fun b o hb => same b o (fun z => by rw [z, hl0] at hb; cases hb) (e1 b o hb), same p _ (Ne.symm hlp) hp1, fun m2 x2 hx2 => ?_⟩
    obtain ⟨t2, l2, rfl, ht2, hl02, hlp2, ys2, hy2, hyl2⟩ := gd m2 x2 hx2
    refine ⟨t2, l2, rfl, same t2 _ (ne_of ht2 hl (fun z => by cases z)) ht2, hl02, hlp2, ?_⟩
    by_cases c : l2 = l
    · subst c
      rw [hl] at hy2
      cases hy2
      exact ⟨_, hl2, by rw [List.length_append]; simp; omega⟩
    · exact ⟨ys2, same l2 _ c hy2, by omega⟩
  · obtain ⟨⟨y, rfl⟩, e1, hp1, _⟩ := q
    exact k y H' e1 hp1
end
end Nc

/-! ### groups that are written into -/
namespace Nc
open PySem PySem.Spec PyProof.Rows L2 Evl
/-- two lists, item by item the same, or of like data -/
def rNeL (K : PySem.W.Frag) : R2 := fun x y H Q => ∃ (a b : Addr) (xs ys : List V), x = .ref a ∧ y = .ref b ∧ SqL K H a xs ∧ SqL K H b ys ∧ xs.length = ys.length ∧
  (∀ (i : Nat) (u v : V), xs[i]? = some u → ys[i]? = some v → (∃ c, u = .ref c ∧ v = .ref c) ∨ ∃ d : PyData, Dp K H u d ∧ Dp K H v d ∧ d.canLay0 = true ∧ d.depth ≤ 8) ∧ Q (.bl false) H
theorem op_neL {X : Cx} (hu : X.A.units + 64 < cLine) : OpR X (compareOp .NotEq) (rNeL X.K) := by
  intro pins s σ H x y v u Q I rx ry h
  obtain ⟨a, b, xs, ys, rfl, rfl, ha, hb, hl, he, q⟩ := h
  cases rx; cases ry
  obtain ⟨us, r1, p1, z1⟩ := I.list ha
  obtain ⟨ws, r2, p2, z2⟩ := I.list hb
  have l1 := r1.length
  have l2 := r2.length
  have hr : ((List.range us.toArray.size).all fun _ => true) = true := List.all_eq_true.mpr fun _ _ => rfl
  refine SeqAt.RcNeAt.lists (A := X.A) (e := fun _ => true) p1.isList p2.isList (by simp; omega) (by omega) (fun j h1 h2 => ?_) X.prog X.w X.xe _ ?_
  · have h1' : j < us.length := by simpa using h1
    have h2' : j < ws.length := by simpa using h2
    have e1 : xs[j]? = some xs[j] := List.getElem?_eq_getElem (by omega)
    have e2 : ys[j]? = some ys[j] := List.getElem?_eq_getElem (by omega)
    obtain ⟨u, g1, t1⟩ := r1.get e1
    obtain ⟨w, g2, t2⟩ := r2.get e2
    have k1 : us.toArray[j] = u := by
      have := (List.getElem?_eq_some_iff.mp g1).2
      simpa using this
    have k2 : ws.toArray[j] = w := by
      have := (List.getElem?_eq_some_iff.mp g2).2
      simpa using this
    rw [k1, k2]
    rcases he j _ _ e1 e2 with ⟨c, c1, c2⟩ | ⟨d, d1, d2, d3, d4⟩
    · rw [c1] at t1
      rw [c2] at t2
      cases t1; cases t2
      exact SeqAt.EqAt.same _
    · obtain ⟨as, q1⟩ := Dp.reads I d _ u d1 t1
      obtain ⟨bs, q2⟩ := Dp.reads I d _ w d2 t2
      have := SeqAt.eqAt_reads d d X.A.in1 s u w as bs q1 q2 d3 d3 (by
        show X.A.units + 1 + min d.depth d.depth < cLine
        have : min d.depth d.depth ≤ 8 := by omega
        omega)
      rwa [SeqAt.eqv_refl d d3] at this
  · rw [hr]
    exact ⟨.bl _, H, I, rfl, q⟩
section
variable {σ : L2.St} {Hb H : Hp} {F : List Addr} {d : Dt} {ds : List Dt} {te ta tb : TE} {K : PySem.W.Frag}
/-- {0: 1} -/
theorem en_dic01 : EvN (tDisp [((tC (.int 0)), (tC (.int 1)))]) σ Hb .dic := fun F H S Q q => fun p hp => by
  refine ⟨upd_same, [(.inl 0, .int 1)], rfl, by decide, q (.ref p) _ ?_ (.dic upd_same)⟩
  exact (Ex.new hp).mut hp
end
/-! ### the groups as they stand -/
def Atom (e : Dt) : Prop := e.flat = true ∧ e.can = true ∧ e.dep ≤ 2
/-- a row: a list of atoms, or something else without lists -/
def RowAt (b : Nat) (H0 H : Hp) (pg : Addr) (x : V) (d : Dt) : Prop :=
  (∃ (l : Addr) (vs : List V) (es : List Dt), x = .ref l ∧ d = .lst es ∧ H l = some (.lst vs) ∧ H0 l = none ∧ l ≠ pg ∧ RpL Noi H vs es ∧ es.length ≤ b ∧ ∀ e ∈ es, Atom e) ∨
  (Rp Noi H x d ∧ d.flat = true ∧ (d = .int 5 ∨ d = .non ∨ d = .str "01" ∨ d = .tup [] ∨ d = .dic))
structure Grp (b : Nat) (H0 H : Hp) (pg : Addr) (xs : List V) (ds : List Dt) : Prop where
  hp : H pg = some (.lst xs)
  f0 : H0 pg = none
  ex : Ex H0 H
  len : xs.length = ds.length
  row : ∀ (i : Nat) x d, xs[i]? = some x → ds[i]? = some d → RowAt b H0 H pg x d
  sep : ∀ (i j : Nat) (a : Addr), i ≠ j → xs[i]? = some (.ref a) → xs[j]? = some (.ref a) → ∀ ys, H a ≠ some (.lst ys)
section
variable {b b' : Nat} {H0 H H' : Hp} {pg : Addr} {xs : List V} {ds : List Dt}
theorem rpL_ofR {N : Addr → Prop} {H : Hp} : ∀ {xs : List V} {ds : List Dt}, xs.length = ds.length → (∀ (i : Nat) x d, xs[i]? = some x → ds[i]? = some d → Rp N H x d) → RpL N H xs ds
  | [], [], _, _ => .nil
  | x :: xs, d :: ds, hl, h => .cons (h 0 x d rfl rfl) (rpL_ofR (by simpa using hl) fun i x d h1 h2 => h (i + 1) x d (by simpa using h1) (by simpa using h2))
  | [], _ :: _, hl, _ => by simp at hl
  | _ :: _, [], hl, _ => by simp at hl
theorem RowAt.rp {x : V} {d : Dt} (h : RowAt b H0 H pg x d) : Rp Any H x d := by
  rcases h with ⟨l, vs, es, rfl, rfl, h1, _, _, h2, _⟩ | ⟨h, _⟩
  · exact .lst trivial h1 h2.any
  · exact h.any
theorem Grp.items (G : Grp b H0 H pg xs ds) : RpL Any H xs ds := rpL_ofR G.len fun i x d h1 h2 => (G.row i x d h1 h2).rp
theorem Grp.rp (G : Grp b H0 H pg xs ds) : Rp Any H (.ref pg) (.lst ds) := .lst trivial G.hp G.items
theorem noi_rp {v : V} {d : Dt} {l : Addr} {zs : List V} (hl : H l = some (.lst zs)) (k : ∀ a o, a ≠ l → H a = some o → H' a = some o) (r : Rp Noi H v d) : Rp Noi H' v d :=
  r.to (fun a xs n _ => n.elim) (fun a xs h => k a _ (fun z => by rw [z, hl] at h; cases h) h) fun a kv h => k a _ (fun z => by rw [z, hl] at h; cases h) h
theorem noi_rpL {v : List V} {d : List Dt} {l : Addr} {zs : List V} (hl : H l = some (.lst zs)) (k : ∀ a o, a ≠ l → H a = some o → H' a = some o) (r : RpL Noi H v d) : RpL Noi H' v d :=
  r.to (fun a xs n _ => n.elim) (fun a xs h => k a _ (fun z => by rw [z, hl] at h; cases h) h) fun a kv h => k a _ (fun z => by rw [z, hl] at h; cases h) h
theorem Grp.on (G : Grp b H0 H pg xs ds) (e : Ex H H') : Grp b H0 H' pg xs ds := by
  refine ⟨e _ _ G.hp, G.f0, G.ex.trans e, G.len, fun i x d h1 h2 => ?_, fun i j a hij h1 h2 ys hy => ?_⟩
  · rcases G.row i x d h1 h2 with ⟨l, vs, es, rfl, rfl, q1, q2, q3, q4, q5⟩ | ⟨q1, q2, q3⟩
    · exact .inl ⟨l, vs, es, rfl, rfl, e _ _ q1, q2, q3, q4.mono e, q5⟩
    · exact .inr ⟨q1.mono e, q2, q3⟩
  · have hi := (List.getElem?_eq_some_iff.mp h1).1
    have := G.len
    rcases G.row i _ _ h1 (List.getElem?_eq_getElem (show i < ds.length by omega)) with ⟨l, vs, es, hx, _, q1, _⟩ | ⟨q1, _⟩
    · cases hx
      exact G.sep i j _ hij h1 h2 _ q1
    · generalize ds[i]'(show i < ds.length by omega) = d at q1
      cases q1 with
      | lst n _ _ => exact n.elim
      | tup q _ => rw [e _ _ q] at hy; cases hy
      | dic q => rw [e _ _ q] at hy; cases hy
theorem Grp.wk (G : Grp b H0 H pg xs ds) (h : b ≤ b') : Grp b' H0 H pg xs ds := by
  refine ⟨G.hp, G.f0, G.ex, G.len, fun i x d h1 h2 => ?_, G.sep⟩
  rcases G.row i x d h1 h2 with ⟨l, vs, es, q1, q2, q3, q4, q5, q6, q7, q8⟩ | q
  · exact .inl ⟨l, vs, es, q1, q2, q3, q4, q5, q6, by omega, q8⟩
  · exact .inr q
/-- a row is written -/
theorem Grp.write (G : Grp b H0 H pg xs ds) (hb : b ≤ b') {i : Nat} {l : Addr} {vs vs' : List V} {es' : List Dt} (hi : xs[i]? = some (.ref l)) (hl : H l = some (.lst vs)) (k : ∀ a o, a ≠ l → H a = some o → H' a = some o) (hl' : H' l = some (.lst vs')) (r : RpL Noi H' vs' es') (h1 : es'.length ≤ b') (h2 : ∀ e ∈ es', Atom e) : Grp b' H0 H' pg xs (ds.set i (.lst es')) := by
  have hil := (List.getElem?_eq_some_iff.mp hi).1
  have hlen := G.len
  obtain ⟨l0, lp⟩ : H0 l = none ∧ l ≠ pg := by
    rcases G.row i _ _ hi (List.getElem?_eq_getElem (show i < ds.length by omega)) with ⟨l2, _, _, hx, _, _, q1, q2, _⟩ | ⟨q, _⟩
    · cases hx; exact ⟨q1, q2⟩
    · generalize ds[i]'(show i < ds.length by omega) = d at q
      cases q with
      | lst n _ _ => exact n.elim
      | tup q _ => rw [hl] at q; cases q
      | dic q => rw [hl] at q; cases q
  refine ⟨k _ _ (Ne.symm lp) G.hp, G.f0, fun a o ha => k a o (fun z => by rw [z, l0] at ha; cases ha) (G.ex a o ha), by rw [List.length_set]; exact G.len, fun j x d hj hd => ?_, fun j m a hjm h1 h2 ys hy => ?_⟩
  · by_cases c : j = i
    · subst c
      rw [hi] at hj
      cases hj
      rw [List.getElem?_set, if_pos rfl, if_pos (by omega)] at hd
      cases hd
      exact .inl ⟨l, vs', es', rfl, rfl, hl', l0, lp, r, h1, h2⟩
    · rw [List.getElem?_set, if_neg (fun z => c z.symm)] at hd
      rcases G.row j x d hj hd with ⟨l2, ws, es, rfl, rfl, q1, q2, q3, q4, q5, q6⟩ | ⟨q1, q2, q3⟩
      · have hne : l2 ≠ l := fun z => by
          subst z
          exact G.sep j i _ c hj hi _ hl
        exact .inl ⟨l2, ws, es, rfl, rfl, k _ _ hne q1, q2, q3, noi_rpL hl k q4, by omega, q6⟩
      · exact .inr ⟨noi_rp hl k q1, q2, q3⟩
  · by_cases c : a = l
    · subst c
      exact G.sep j m _ hjm h1 h2 _ hl
    · have hjl := (List.getElem?_eq_some_iff.mp h1).1
      rcases G.row j _ _ h1 (List.getElem?_eq_getElem (show j < ds.length by omega)) with ⟨l2, _, _, hx, _, q1, _⟩ | ⟨q, _⟩
      · cases hx
        exact G.sep j m _ hjm h1 h2 _ q1
      · generalize ds[j]'(show j < ds.length by omega) = d at q
        cases q with
        | lst n _ _ => exact n.elim
        | tup q _ => rw [k _ _ c q] at hy; cases hy
        | dic q => rw [k _ _ c q] at hy; cases hy
/-- an item is written: something new -/
theorem Grp.put (G : Grp b H0 H pg xs ds) {i : Nat} {v : V} {d : Dt} (hi : i < xs.length) (k : ∀ a o, a ≠ pg → H a = some o → H' a = some o) (hp' : H' pg = some (.lst (xs.set i v))) (hr : RowAt b H0 H' pg v d) (hn : ∀ a ys, v = .ref a → H' a = some (.lst ys) → H a = none) : Grp b H0 H' pg (xs.set i v) (ds.set i d) := by
  have hlen := G.len
  refine ⟨hp', G.f0, fun a o ha => k a o (fun z => by rw [z, G.f0] at ha; cases ha) (G.ex a o ha), by rw [List.length_set, List.length_set]; exact G.len, fun j x e hj he => ?_, fun j m a hjm h1 h2 ys hy => ?_⟩
  · rw [List.getElem?_set] at hj he
    by_cases c : i = j
    · subst c
      rw [if_pos rfl, if_pos hi] at hj
      rw [if_pos rfl, if_pos (by omega)] at he
      cases hj; cases he
      exact hr
    · rw [if_neg c] at hj he
      rcases G.row j x e hj he with ⟨l2, ws, es, rfl, rfl, q1, q2, q3, q4, q5⟩ | ⟨q1, q2, q3⟩
      · exact .inl ⟨l2, ws, es, rfl, rfl, k _ _ q3 q1, q2, q3, noi_rpL G.hp k q4, q5⟩
      · exact .inr ⟨noi_rp G.hp k q1, q2, q3⟩
  · have old : ∀ {j : Nat}, i ≠ j → (xs.set i v)[j]? = some (.ref a) → H a = some (.lst ys) := fun {j} c hj => by
      rw [List.getElem?_set, if_neg c] at hj
      have hjl := (List.getElem?_eq_some_iff.mp hj).1
      rcases G.row j _ _ hj (List.getElem?_eq_getElem (show j < ds.length by omega)) with ⟨l2, ws, es, hx, _, q1, _, q3, _⟩ | ⟨q, _⟩
      · cases hx
        rw [k _ _ q3 q1] at hy
        cases hy
        exact q1
      · generalize ds[j]'(show j < ds.length by omega) = d2 at q
        have hap : a ≠ pg → False := fun c2 => by
          cases q with
          | lst n _ _ => exact n.elim
          | tup q _ => rw [k _ _ c2 q] at hy; cases hy
          | dic q => rw [k _ _ c2 q] at hy; cases hy
        by_cases c2 : a = pg
        · exfalso
          subst c2
          cases q with
          | lst n _ _ => exact n.elim
          | tup q _ => rw [G.hp] at q; cases q
          | dic q => rw [G.hp] at q; cases q
        · exact (hap c2).elim
    by_cases c1 : i = j
    · subst c1
      rw [List.getElem?_set, if_pos rfl, if_pos hi] at h1
      have e1 : v = .ref a := Option.some.inj h1
      have := old hjm h2
      rw [hn a ys e1 hy] at this
      cases this
    · by_cases c2 : i = m
      · subst c2
        rw [List.getElem?_set, if_pos rfl, if_pos hi] at h2
        have e1 : v = .ref a := Option.some.inj h2
        have := old c1 h1
        rw [hn a ys e1 hy] at this
        cases this
      · have o1 := old c1 h1
        rw [List.getElem?_set, if_neg c1] at h1
        rw [List.getElem?_set, if_neg c2] at h2
        exact G.sep j m a hjm h1 h2 ys o1
end
end Nc
namespace Nc
open PySem PySem.Spec PyProof.Rows L2 Evl
def pickX (s0 s1 : Str) (r : Except Str Dt) : Except Str Dt := match r with
  | .ok o => .ok (.str (if o.isN = true then s0 else s1))
  | .error e => .error e
/-- [s0, s1][int(x is not None)], x perhaps refused -/
theorem ex_pick {mg : Str → Option Value} {σ : L2.St} {Hb : Hp} {te : TE} {K : PySem.W.Frag} {E : XK} {s0 s1 : Str} {r : Except Str Dt} (h : EvX mg te σ Hb r E) : EvX mg (tOp (rIxL K) (tLst (tCons (tC (.str s0)) (tCons (tC (.str s1)) tNil))) (tCB rIntB (tCons (tOp rNotN te (tC .non)) tNil))) σ Hb (pickX s0 s1 r) E := fun F H S Q q qe =>
  (EvF.dd (ef_lst (ea_cons' ed_str (ea_cons' ed_str ea_nil')) (by simp)) : EvD _ σ Hb (.lst [.str s0, .str s1])) F H S _ fun x H2 e2 rx => h F H2 (S.on e2) _ (fun o ho v9 H3 e3 r9 => by
    subst ho
    refine ⟨rfl, ?_⟩
    rw [r9.isN]
    refine ⟨_, rfl, ?_⟩
    obtain ⟨a, xs, rfl, _, hxs, rs⟩ := (rx.mono (less_mono e3)).lstI
    have hxs := less_ex _ _ hxs
    by_cases c : o.isN = true
    · obtain ⟨y, h1, h2⟩ := atI_rp (i := 0) (d := .str s0) rs rfl
      rw [c]
      refine ⟨a, xs, 0, y, rfl, rfl, sq_of hxs, h1, ?_⟩
      rw [h2.strI]
      exact q _ rfl _ H3 (e2.trans e3) (by rw [if_pos c]; exact .str _)
    · have c0 : o.isN = false := by simpa using c
      obtain ⟨y, h1, h2⟩ := atI_rp (i := 1) (d := .str s1) rs rfl
      rw [c0]
      refine ⟨a, xs, 1, y, rfl, rfl, sq_of hxs, h1, ?_⟩
      rw [h2.strI]
      exact q _ rfl _ H3 (e2.trans e3) (by rw [if_neg c]; exact .str _)) fun e he H3 e3 => by
    subst he
    exact qe e rfl H3 (e2.trans e3)
end Nc

/-! ### the sum of a generator over a range whose element calls a def that only reckons -/
namespace Nc
open PySem PySem.Spec PyProof.Rows L2 Evl
/-- a def of two whole numbers that only reckons: it may be called anywhere -/
structure Calm2 (P : Program) (w : World) (K : PySem.W.Frag) (mg : Str → Option Value) (x : Str) (pre : Int → Int → Prop) (g : Int → Int → Int) : Prop where
  ex : ∃ f, mg x = some (.ref f) ∧ PySem.W.keepIn K (.ref f) = true ∧ ∀ (A : Around) (s : Shared) (a b : Int) (t u : Tok) (Q : Value → Shared → Prop) (E : Value → Shared → Prop), A.handled = none → A.depth < recursionLimit → K.In s.heap → s.heap.NoLimit → s.heap.Ns mainGlobals mg → pre a b →
    (∀ t' s', Keeps s s' → Q (.int (g a b) t') s') → wpAny (model P w) A (call (.ref f) [.int a t, .int b u]) Q E s
theorem Keeps.trans {s s1 s2 : Shared} (a : Keeps s s1) (b : Keeps s1 s2) : Keeps s s2 := by
  obtain ⟨h1, t1, rfl, k1⟩ := a
  obtain ⟨h2, t2, rfl, k2⟩ := b
  exact ⟨h2, t2, rfl, fun c o e => k2 c o (k1 c o e)⟩
theorem Keeps.up {s s' : Shared} (a : Keeps s s') {b : Addr} {o : Obj} (e : s.heap.get? b = some o) : s'.heap.get? b = some o := by
  obtain ⟨h1, t1, rfl, k1⟩ := a
  exact k1 b o e
section
variable {X : Cx} {pins : List (Addr × Obj)} {σ : L2.St} {H : Hp} {s : Shared} {P c : Addr}
/-- the element, the item a whole number below n -/
def EltR (X : Cx) (scope : Scope) (x : Str) (elt : Expr) (P : Addr) (h : Heap) (n : Nat) (F : Nat → Value → Prop) : Prop :=
  ∀ (cenv : Env) (A : Around) (E : Value → Shared → Prop) (i : Nat) (t : Tok) (s : Shared) (m : Str → Option Value), cenv.scope = scope → cenv.cells = cloFrom X.env.cells scope.names [] → cenv.globals = X.env.globals → A.handled = none → A.depth ≤ X.A.depth + 1 → (∀ b o, b ≠ P → h.get? b = some o → s.heap.get? b = some o) →
    s.heap.Ns cenv.locals m → i < n → m x = some (.int (i : Nat) t) → wpAny (model X.prog X.w) A (eval elt cenv) (fun y s' => F i y ∧ Keeps s s') E s
theorem gen_rng {elt iter : Expr} {x : Str} {px gpos : Pos} {scope : Scope} {k : Nat} {Q : Value → Shared → Prop} (hr : Room k X.A) (TB : LamX.TabB X.base X.mg c P) (hcode : X.env.code = .ref c) (S : GxR.GenS X.env scope x) (hs : ∀ v, genFold iter X.env v = pure v)
    (h : wpAny (model X.prog X.w) X.A (eval iter X.env) (fun v s1 => ∃ (H1 : Hp) (r : Addr) (n : Nat) (t1 t2 t3 : Tok) (F : Nat → Value → Prop), v = .ref r ∧ IsRange s1.heap r 0 (n : Int) 1 t1 t2 t3 ∧ n ≤ 100000 ∧ Inv X pins σ H1 s1 ∧ H1 P = some (tblO P) ∧ EltR X scope x elt P s1.heap n F ∧ ∀ g s5, ReadyG X pins σ H1 n F g s5 → Q (.ref g) s5) X.xe s) :
    wpAny (model X.prog X.w) X.A (eval (.GeneratorExp elt [⟨.Name x px, iter, [], 0⟩] scope gpos) X.env) Q X.xe s := by
  refine wpAny_GeneratorExp_walksQD hr.hd S.co (closure_ok S.free) S.cell S.dot S.loc S.kind (by have := hr.dp; omega) (wpAny_mono h (fun v s1 hv => ?_) fun _ _ e => e) hs
  obtain ⟨H1, r, n, t1, t2, t3, F, rfl, hrg, hn, I, hP, hel, hQ⟩ := hv
  have hsz : Builtin.Range.rangeSize 0 (n : Int) 1 = (n : Int) := by
    rw [rangeSize_one]
    split <;> omega
  refine wpAny_pyIter_range hrg (small_one (by decide) (by decide) (by omega) (by omega)) ⟨I.nolimit.push _, ?_⟩
  rw [hsz]
  generalize eo : ({ cls := .type "range_iterator", data := .fields #[rawInt 0, rawInt (n : Int), rawInt 1] } : Obj) = o
  have ex0 : ∀ b u, s1.heap.get? b = some u → (s1.heap.push o).get? b = some u := fun b u e => Heap.get?_push_of_some _ e
  have tb1 := tbl_of I hP
  have lP : P < s1.heap.objs.size := by obtain ⟨ps, e, _⟩ := tb1; exact Heap.lt_size e
  have sz : (s1.heap.push o).objs.size = s1.heap.objs.size + 1 := Heap.size_push ..
  refine code_seen (s := { s1 with heap := s1.heap.push o }) TB hcode (fun b u e => ex0 b u (I.bk b u e)) (by obtain ⟨ps, e, q⟩ := tb1; exact ⟨ps, ex0 _ _ e, q⟩) fun code h3 tk3 k3 z3 tb3 => ?_
  have k13 : ∀ b u, b ≠ P → s1.heap.get? b = some u → h3.get? b = some u := fun b u n e => k3 b u n (ex0 b u e)
  have z13 : s1.heap.objs.size < h3.objs.size := by
    have : (s1.heap.push o).objs.size ≤ h3.objs.size := z3
    omega
  refine names_seen TB I.ok.glob I.mod.glob (fun b u n e => k13 b u n (I.bk b u e)) ?_
  have lS : cStatics < s1.heap.objs.size := by
    obtain ⟨_, q, _⟩ := I.nolimit
    exact q.lt
  have nSP : cStatics ≠ P := fun e => by
    obtain ⟨_, ⟨o', es, ep, e1, e2, _⟩, _⟩ := I.nolimit
    obtain ⟨ps, e3, _⟩ := tb1
    rw [e, e3] at e1
    cases e1; cases e2
  have lim3 : h3.NoLimit := by
    obtain ⟨mc, q, r⟩ := I.nolimit
    exact ⟨mc, q.at' fun o e => k13 _ o nSP e, r⟩
  have one : ∀ b ∈ [s1.heap.objs.size], b = s1.heap.objs.size := fun b hb => by simpa using hb
  have nP : s1.heap.objs.size ≠ P := fun e => no_eq e.symm lP
  have at3 : h3.get? s1.heap.objs.size = some o := k3 _ _ nP (Heap.get?_push_size _ (by rw [← eo]; rfl))
  refine ⟨s1.heap.objs.size, [s1.heap.objs.size], [s1.heap.objs.size], n, _, _, fun _ => true, F, rfl, fun A' hA => (Walks.range (prog := X.prog) (w := X.w) hA s1.heap.objs.size 0 1 n).bound, ?_, fun b hb => eq_lt (one b hb) z13, lim3, ?_, fun href hh => ?_, fun g h5 tk5 gs hb hg z5 k5 W5 at5 => ?_⟩
  · show IsRangeIter h3 s1.heap.objs.size _ _ _
    rw [← eo] at at3
    simpa using at3
  · intro z
    exact no_eq (one _ z) lS
  · have seen : ∀ s2 : Shared, (∀ b ∈ List.range h3.objs.size, b ∉ [s1.heap.objs.size] → ∀ u, href.get? b = some u → s2.heap.get? b = some u) → ∀ b u, b ≠ P → s1.heap.get? b = some u → s2.heap.get? b = some u := fun s2 q b u n e => by
      have l := Heap.lt_size e
      exact q b (List.mem_range.mpr (Nat.lt_trans l z13)) (fun z => no_eq (one b z) l) u (hh b u (k13 b u n e))
    refine ⟨fun A E i v s2 m2 hA _ _ hv hn hm hk => ?_, fun A E i v s2 m2 hA hD _ hv _ hn hm hk => ?_⟩
    · rw [List.forIn_nil]
      exact wpAny_pure ⟨rfl, keeps_self _⟩
    · obtain ⟨hi, t, rfl⟩ := hv
      have e0 : (0 : Int) + (i : Int) * 1 = ((i : Nat) : Int) := by omega
      rw [e0] at hm
      exact hel _ A E i t s2 m2 rfl rfl rfl hA hD (seen s2 hk) hn hi hm
  · rw [passing_all] at W5
    rw [List.length_range] at W5
    refine hQ g _ ⟨_, _, _, _, _, W5.in4_1, fun j y hj => ?_, at5, fun b hb => ?_, fun s' mv => ?_⟩
    · obtain ⟨i, e, f⟩ := hj
      obtain ⟨l, e⟩ := List.getElem?_eq_some_iff.mp e
      rw [List.getElem_range] at e
      subst e
      exact ⟨by simpa using l, f⟩
    · show b < h5.objs.size
      have l1 : h3.objs.size < g := hg
      have l5 : g < h5.objs.size := by
        rw [z5]; exact Nat.lt_succ_self g
      rcases List.mem_cons.mp hb with e | hb
      · exact eq_lt e l5
      · rcases List.mem_cons.mp hb with e | hb
        · exact eq_lt e (Nat.lt_trans l1 l5)
        · have l2 : b < h3.objs.size := List.mem_range.mp hb
          exact Nat.lt_trans l2 (Nat.lt_trans l1 l5)
    · have kk : ∀ b u, b ≠ P → h3.get? b = some u → b < s1.heap.objs.size → s'.heap.get? b = some u := fun b u n e l => mv.heap b u (by
        intro hb
        rcases List.mem_cons.mp hb with z | z
        · exact no_eq z (Nat.lt_trans l z13)
        · exact no_eq (one b z) l) (k5 b u e)
      refine inv_grown I hP (by rw [mv.os]) (fun b u n e => kk b u n (k13 b u n e) (Heap.lt_size e)) ?_ (AllBare.movedS (I.bare.push hb) mv)
      obtain ⟨ps, e, q⟩ := tb3
      exact ⟨ps, mv.heap P _ (by
        intro hb
        rcases List.mem_cons.mp hb with z | z
        · exact no_eq z (Nat.lt_trans lP z13)
        · exact no_eq (one P z) lP) (k5 P _ e), q⟩
/-- sum(f(k, i + 1) for i in range(te)), k the name at j -/
def sumTo (g : Nat → Int) : Nat → Int
  | 0 => 0
  | n + 1 => sumTo g n + g n
theorem preSum_to (g : Nat → Int) : ∀ n, preSum g n = sumTo g n
  | 0 => by simp [preSum, sumTo]
  | n + 1 => by rw [preSum, preSum_to g n]; rfl
def tSumG (P : Addr) (j : Nat) (pre : Int → Int → Prop) (g : Int → Int → Int) (te : TE) : TE := fun σ H Q => te σ H fun v H1 => ∃ (l : Int) (n : Nat), v = .int (n : Nat) ∧ n ≤ 100000 ∧ σ[j]? = some (some (.int l)) ∧ H1 P = some (tblO P) ∧ (∀ i : Nat, i < n → pre l ((i : Int) + 1)) ∧ Q (.int (sumTo (fun i => g l ((i : Int) + 1)) n)) H1
theorem sum_ready {n : Nat} {val : Nat → Int} {g : Addr} {s5 : Shared} {Q : Value → Shared → Prop} (R : ReadyG X pins σ H n (fun i y => ∃ t, y = .int (val i) t) g s5) (q : ∀ s' t, Inv X pins σ H s' → Q (.int (sumTo val n) t) s') :
    wpAny (model X.prog X.w) X.A (call (.builtin "sum") [.ref g]) Q X.xe s5 := by
  obtain ⟨fp, wr, G, P', St, W, hF, hst, hfp, hI⟩ := R
  refine call_sum_walkAnyS (W.self 0 _ _ _ hst ⟨g, fp, wr, G, n, P', St, val, rfl, W, hst, hfp, fun i v hv => (hF i v hv).2, fun s' t' mv => ?_⟩)
  rw [preSum_to]
  exact q s' t' (hI s' mv)
theorem pe_sumG {f x y : Str} {j k : Nat} {e2 : Expr} {px p pos gpos p1 p2 p3 p4 p5 p6 p7 p8 : Pos} {scope : Scope} {te : TE} {pre : Int → Int → Prop} {g : Int → Int → Int} (hr : Room k X.A) (hg : Gl X "sum") (hm : X.mg "sum" = none) (hg2 : Gl X "range") (hm2 : X.mg "range" = none) (TB : LamX.TabB X.base X.mg c P) (hcode : X.env.code = .ref c)
    (S : GxR.GenS X.env scope x) (Z : Calm2 X.prog X.w X.K X.mg f pre g) (hi : PE X e2 te) (hN : X.N[j]? = some y := by rfl) (hk : X.env.scope.names.lookup y = some .cell := by rfl) (hf : scope.names.lookup y = some .free := by rfl) (hq : (cloFrom X.env.cells scope.names []).lookup y = X.env.cells.lookup y := by rfl)
    (hgl : scope.names.lookup f = some .globalImplicit := by rfl) (d1 : (y == ("__debug__" : Str)) = false := by decide) (d2 : (x == ("__debug__" : Str)) = false := by decide) (d3 : (f == ("__debug__" : Str)) = false := by decide) (d4 : (y == ("__classdict__" : Str)) = false := by decide)
    (he2 : starEach [e2] X.env = (false, eval e2 X.env) :: starEach [] X.env := by rfl)
    (he : starEach [.GeneratorExp (.Call (.Name f p1) [.Name y p2, .BinOp (.Name x p3) .Add (.Constant (.int 1) 0 p4) p5] [] p6) [⟨.Name x px, .Call (.Name "range" p7) [e2] [] p8, [], 0⟩] scope gpos] X.env = (false, eval (.GeneratorExp (.Call (.Name f p1) [.Name y p2, .BinOp (.Name x p3) .Add (.Constant (.int 1) 0 p4) p5] [] p6) [⟨.Name x px, .Call (.Name "range" p7) [e2] [] p8, [], 0⟩] scope gpos) X.env) :: starEach [] X.env := by rfl) :
    PE X (.Call (.Name "sum" p) [.GeneratorExp (.Call (.Name f p1) [.Name y p2, .BinOp (.Name x p3) .Add (.Constant (.int 1) 0 p4) p5] [] p6) [⟨.Name x px, .Call (.Name "range" p7) [e2] [] p8, [], 0⟩] scope gpos] [] pos) (tSumG P j pre g te) := by
  constructor
  intro pins s σ H Q I h
  refine wpAny_Call_Name_kw (ld_blt I hg hm boot_sum (PyProof.Rows.callWith_builtin1 ?_ he (by rfl)))
  rw [he]
  show wpAny _ _ (spliced ((false, _) :: backTo pos (starEach [] X.env))) _ _ s
  refine Calls.spliced_cons (gen_rng (pins := pins) (σ := σ) hr TB hcode S (fun v => rfl) ?_)
  refine wpAny_Call_Name_kw (ld_blt I hg2 hm2 boot_range ?_)
  rw [he2]
  refine callWith_type1 (thn (hi.run pins s σ H _ I h) fun v s1 hv => ?_)
  obtain ⟨v', H1, I1, r1, l, n, rfl, hn, hj, hP, hpre, q⟩ := hv
  obtain ⟨t, rfl⟩ := r1
  refine call_range_1 ?_
  have k12 : ∀ b u, s1.heap.get? b = some u → (s1.heap.push { cls := .type "range", data := .fields #[.int 0 s1.toks, .int (n : Nat) t, .int 1 (s1.toks + 1)] }).get? b = some u := fun b u e => Heap.get?_push_of_some _ e
  have I2 := I1.kept (t' := s1.toks + 1 + 1) k12
  refine ⟨H1, _, n, _, _, _, fun i y => ∃ t, y = .int (g l ((i : Int) + 1)) t, rfl, IsRange.new _ 0 (n : Int) 1 _ _ _, hn, I2, hP, ?_, fun g5 s5 R => Calls.spliced_nil (sum_ready R fun s' t' J => ⟨V.int (sumTo (fun i => g l ((i : Int) + 1)) n), H1, J, ⟨t', rfl⟩, q⟩)⟩
  intro cenv A E i ti s2 m h1 h2 h3 hA hD hkeep hns hin hmx
  obtain ⟨u, ⟨tu, rfl⟩, gy⟩ := free_at I2 hP hN hj hk hf hq S.kind
  obtain ⟨fa, hfa, hka, run⟩ := Z.ex
  have tabP := tbl_of I2 hP
  have notP : ∀ b o, X.base.get? b = some o → b ≠ P := fun b o e z => by
    have := (I2.bs b o e).2
    rw [z, hP] at this; cases this
  have bk2 : ∀ b o, X.base.get? b = some o → s2.heap.get? b = some o := fun b o e => hkeep b o (notP b o e) (I2.bk b o e)
  have ns2 : s2.heap.Ns mainGlobals X.mg := I2.mod.glob.keeps bk2
  have hkd : cenv.scope.kind = .function := by rw [h1]; exact S.kind
  refine wpAny_Call_Name_kw (Calls.Name_function_global hkd (show cenv.scope.names.lookup f = some .globalImplicit by rw [h1]; exact hgl) (Calls.loadGlobal_global (by rw [h3, I2.ok.glob]; exact ns2) hfa ?_) d3)
  refine PySem.W.callWith_K (h₀ := X.base) I2.mod.kin hka ?_
  refine Calls.spliced_cons (gy cenv A E _ s2 p2 h1 h2 hkeep d1 d4 ?_)
  refine Calls.spliced_cons (wpAny_BinOp (local_at h1 S.kind S.loc hns hmx d2 (wpAny_Constant_int (add_int ?_))))
  refine Calls.spliced_nil ?_
  have kin : X.K.In s2.heap := I2.mod.kin.keeps bk2
  refine ⟨kin.keeps fun b o e => e, run A _ l ((i : Int) + 1) _ _ _ E hA (by have := hr.dp; omega) (kin.keeps fun b o e => e) (I2.mod.nolimit.keeps bk2) ns2 (hpre i hin) fun t' s' ks => ⟨⟨_, rfl⟩, ?_⟩⟩
  obtain ⟨h', tk', rfl, k'⟩ := ks
  exact ⟨h', tk', rfl, k'⟩
end
end Nc

/-! ### ties in order: by codes -/
namespace Nc
open PySem PySem.Spec PyProof.Rows L2 Evl
/-- the ways to go on: the first a of them -/
def sE (l a : Nat) : Int := sumTo (fun i => endI l (i + 1)) a
theorem st_a : ∀ l : Fin 20, endI (l.val + 1) 0 = endI l.val 1 ∧ ∀ d : Fin (60 - l.val), endI (l.val + 1) (d.val + 1) = endI (l.val + 1) d.val + endI l.val (d.val + 2) := by decide +kernel
theorem st_b : ∀ l : Fin 20, endI (l.val + 20 + 1) 0 = endI (l.val + 20) 1 ∧ ∀ d : Fin (40 - l.val), endI (l.val + 20 + 1) (d.val + 1) = endI (l.val + 20 + 1) d.val + endI (l.val + 20) (d.val + 2) := by decide +kernel
theorem st_c : ∀ l : Fin 20, endI (l.val + 40 + 1) 0 = endI (l.val + 40) 1 ∧ ∀ d : Fin (20 - l.val), endI (l.val + 40 + 1) (d.val + 1) = endI (l.val + 40 + 1) d.val + endI (l.val + 40) (d.val + 2) := by decide +kernel
theorem endI_step {l : Nat} (hl : l < 60) : endI (l + 1) 0 = endI l 1 ∧ ∀ d : Nat, l + d < 60 → endI (l + 1) (d + 1) = endI (l + 1) d + endI l (d + 2) := by
  by_cases h1 : l < 20
  · exact ⟨(st_a ⟨l, h1⟩).1, fun d hd => (st_a ⟨l, h1⟩).2 ⟨d, by show d < 60 - l; omega⟩⟩
  · by_cases h2 : l < 40
    · obtain ⟨m, rfl⟩ : ∃ m, l = m + 20 := ⟨l - 20, by omega⟩
      exact ⟨(st_b ⟨m, by omega⟩).1, fun d hd => (st_b ⟨m, by omega⟩).2 ⟨d, by show d < 40 - m; omega⟩⟩
    · obtain ⟨m, rfl⟩ : ∃ m, l = m + 40 := ⟨l - 40, by omega⟩
      exact ⟨(st_c ⟨m, by omega⟩).1, fun d hd => (st_c ⟨m, by omega⟩).2 ⟨d, by show d < 20 - m; omega⟩⟩
theorem endI_zero : ∀ d : Fin 64, endI 0 d.val = 1 := by decide +kernel
theorem endI_pos : ∀ {l d : Nat}, l ≤ 60 → l + d ≤ 61 → 1 ≤ endI l d
  | 0, d, _, h => by rw [show endI 0 d = 1 from endI_zero ⟨d, by omega⟩]; decide
  | l + 1, 0, h0, h => by
    rw [(endI_step (l := l) (by omega)).1]
    exact endI_pos (l := l) (d := 1) (by omega) (by omega)
  | l + 1, d + 1, h0, h => by
    rw [(endI_step (l := l) (by omega)).2 d (by omega)]
    have h1 := endI_pos (l := l + 1) (d := d) (by omega) (by omega)
    have h2 := endI_pos (l := l) (d := d + 2) (by omega) (by omega)
    omega
theorem sE_all {l : Nat} : ∀ {d : Nat}, l + d ≤ 59 → sE l (d + 1) = endI (l + 1) d
  | 0, h => by
    show sumTo _ 0 + endI l (0 + 1) = _
    rw [(endI_step (l := l) (by omega)).1]
    show (0 : Int) + endI l 1 = endI l 1
    omega
  | d + 1, h => by
    have ih := sE_all (l := l) (d := d) (by omega)
    show sE l (d + 1) + endI l (d + 1 + 1) = _
    rw [ih, (endI_step (l := l) (by omega)).2 d (by omega)]
theorem sE_mono {l a : Nat} : ∀ {b : Nat}, a ≤ b → l + b ≤ 61 → sE l a ≤ sE l b
  | 0, h, _ => by
    have : a = 0 := by omega
    rw [this]; exact Int.le_refl _
  | b + 1, h, hb => by
    by_cases c : a = b + 1
    · rw [c]; exact Int.le_refl _
    · have := sE_mono (l := l) (a := a) (b := b) (by omega) (by omega)
      have p := endI_pos (l := l) (d := b + 1) (by omega) (by omega)
      show sE l a ≤ sE l b + endI l (b + 1)
      omega
theorem sE_next (l a : Nat) : sE l (a + 1) = sE l a + endI l (a + 1) := rfl
theorem sE_nn {l a : Nat} (ha : l + a ≤ 61) : 0 ≤ sE l a := by
  have := sE_mono (l := l) (a := 0) (b := a) (by omega) ha
  exact this
/-- a code: from a pile of d on -/
def okK : Nat → List Nat → Prop
  | _, [] => True
  | d, a :: r => a ≤ d ∧ okK (a + 1) r
def depE : Nat → List Nat → Nat
  | d, [] => d
  | _, a :: r => depE (a + 1) r
def numN : Nat → List Nat → Int
  | _, [] => 0
  | n, a :: r => sE (n - 1) a + numN (n - 1) r
theorem okK_snoc : ∀ {d : Nat} {c : List Nat} {a : Nat}, okK d (c ++ [a]) ↔ okK d c ∧ a ≤ depE d c
  | d, [], a => by simp [okK, depE]
  | d, b :: c, a => by
    show b ≤ d ∧ okK (b + 1) (c ++ [a]) ↔ (b ≤ d ∧ okK (b + 1) c) ∧ a ≤ depE (b + 1) c
    rw [okK_snoc, and_assoc]
theorem depE_snoc : ∀ {d : Nat} {c : List Nat} {a : Nat}, depE d (c ++ [a]) = a + 1
  | d, [], a => rfl
  | d, b :: c, a => depE_snoc (d := b + 1) (c := c)
theorem numN_snoc : ∀ {n : Nat} {c : List Nat} {a : Nat}, numN n (c ++ [a]) = numN n c + sE (n - c.length - 1) a
  | n, [], a => by show sE (n - 1) a + 0 = 0 + sE (n - 0 - 1) a; rw [Nat.sub_zero]; omega
  | n, b :: c, a => by
    show sE (n - 1) b + numN (n - 1) (c ++ [a]) = sE (n - 1) b + numN (n - 1) c + sE (n - (c.length + 1) - 1) a
    rw [numN_snoc, show n - 1 - c.length - 1 = n - (c.length + 1) - 1 by omega]
    omega
theorem okK_app : ∀ {d : Nat} {c e : List Nat}, okK d (c ++ e) ↔ okK d c ∧ okK (depE d c) e
  | d, [], e => by simp [okK, depE]
  | d, b :: c, e => by
    show b ≤ d ∧ okK (b + 1) (c ++ e) ↔ (b ≤ d ∧ okK (b + 1) c) ∧ okK (depE (b + 1) c) e
    rw [okK_app, and_assoc]
theorem numN_app : ∀ {n : Nat} {c e : List Nat}, numN n (c ++ e) = numN n c + numN (n - c.length) e
  | n, [], e => by show numN n e = 0 + numN (n - 0) e; rw [Nat.sub_zero]; omega
  | n, b :: c, e => by
    show sE (n - 1) b + numN (n - 1) (c ++ e) = sE (n - 1) b + numN (n - 1) c + numN (n - (c.length + 1)) e
    rw [numN_app, show n - 1 - c.length = n - (c.length + 1) by omega]
    omega
theorem depE_le : ∀ {d : Nat} {c : List Nat}, okK d c → depE d c ≤ d + c.length
  | d, [], _ => Nat.le_refl _
  | d, a :: c, h => by
    have := depE_le h.2
    show depE (a + 1) c ≤ d + (c.length + 1)
    have := h.1
    omega
theorem numN_lt : ∀ {n d : Nat} {c : List Nat}, okK d c → c.length = n → n + d ≤ 60 → 0 ≤ numN n c ∧ numN n c < endI n d
  | n, d, [], _, hl, hn => by
    have : n = 0 := by simpa using hl.symm
    subst this
    rw [show endI 0 d = 1 from endI_zero ⟨d, by omega⟩]
    show (0 : Int) ≤ 0 ∧ (0 : Int) < 1
    omega
  | n, d, a :: c, h, hl, hn => by
    obtain ⟨m, rfl⟩ : ∃ m, n = m + 1 := ⟨c.length, by simpa using hl.symm⟩
    have hl : c.length = m := by simpa using hl
    have h1 := h.1
    have ih := numN_lt h.2 hl (by omega)
    have e : numN (m + 1) (a :: c) = sE m a + numN m c := rfl
    have s1 : sE m (a + 1) = sE m a + endI m (a + 1) := rfl
    have s2 := sE_mono (l := m) (show a + 1 ≤ d + 1 by omega) (by omega)
    have s3 := sE_all (l := m) (d := d) (by omega)
    have s4 := sE_nn (l := m) (a := a) (by omega)
    rw [e]
    omega
theorem numN_mono : ∀ {n d : Nat} {c c' : List Nat}, okK d c → okK d c' → c.length = n → c'.length = n → n + d ≤ 60 → c < c' → numN n c < numN n c'
  | n, d, [], [], _, _, _, _, _, h => by simp at h
  | n, d, [], b :: c', _, _, hl, hl', _, _ => by simp at hl hl'; omega
  | n, d, a :: c, [], _, _, hl, hl', _, _ => by simp at hl hl'; omega
  | n, d, a :: c, b :: c', h, h', hl, hl', hn, hlt => by
    obtain ⟨m, rfl⟩ : ∃ m, n = m + 1 := ⟨c.length, by simpa using hl.symm⟩
    have hk : c.length = m := by simpa using hl
    have hk' : c'.length = m := by simpa using hl'
    have h1 := h.1
    have h1' := h'.1
    show sE m a + numN m c < sE m b + numN m c'
    rcases List.cons_lt_cons_iff.mp hlt with g | ⟨rfl, g⟩
    · have i1 := numN_lt h.2 hk (by omega)
      have i2 := numN_lt h'.2 hk' (by omega)
      have s1 : sE m (a + 1) = sE m a + endI m (a + 1) := rfl
      have s2 := sE_mono (l := m) (show a + 1 ≤ b by omega) (by omega)
      omega
    · have := numN_mono h.2 h'.2 hk hk' (by omega) g
      omega
theorem lex_tri : ∀ {c c' : List Nat}, c.length = c'.length → c < c' ∨ c = c' ∨ c' < c
  | [], [], _ => .inr (.inl rfl)
  | [], _ :: _, h => by simp at h
  | _ :: _, [], h => by simp at h
  | a :: c, b :: c', h => by
    rcases Nat.lt_trichotomy a b with g | rfl | g
    · exact .inl (List.cons_lt_cons_iff.mpr (.inl g))
    · rcases lex_tri (c := c) (c' := c') (by simpa using h) with g | rfl | g
      · exact .inl (List.cons_lt_cons_iff.mpr (.inr ⟨rfl, g⟩))
      · exact .inr (.inl rfl)
      · exact .inr (.inr (List.cons_lt_cons_iff.mpr (.inr ⟨rfl, g⟩)))
    · exact .inr (.inr (List.cons_lt_cons_iff.mpr (.inl g)))
theorem numN_lt_iff {n d : Nat} {c c' : List Nat} (h : okK d c) (h' : okK d c') (hl : c.length = n) (hl' : c'.length = n) (hn : n + d ≤ 60) : numN n c < numN n c' ↔ c < c' := by
  refine ⟨fun g => ?_, numN_mono h h' hl hl' hn⟩
  rcases lex_tri (hl.trans hl'.symm) with k | rfl | k
  · exact k
  · omega
  · have := numN_mono h' h hl' hl hn k
    omega
theorem numN_inj {n d : Nat} {c c' : List Nat} (h : okK d c) (h' : okK d c') (hl : c.length = n) (hl' : c'.length = n) (hn : n + d ≤ 60) : numN n c = numN n c' ↔ c = c' := by
  refine ⟨fun g => ?_, fun g => by rw [g]⟩
  rcases lex_tri (hl.trans hl'.symm) with k | k | k
  · have := numN_mono h h' hl hl' hn k
    omega
  · exact k
  · have := numN_mono h' h hl' hl hn k
    omega
/-! the greatest code, the least one -/
def topC : Nat → Nat → List Nat
  | _, 0 => []
  | d, n + 1 => d :: topC (d + 1) n
theorem topC_length : ∀ {d n : Nat}, (topC d n).length = n
  | _, 0 => rfl
  | d, n + 1 => by show (topC (d + 1) n).length + 1 = n + 1; rw [topC_length]
theorem topC_ok : ∀ {d n : Nat}, okK d (topC d n)
  | _, 0 => trivial
  | d, n + 1 => ⟨Nat.le_refl _, topC_ok⟩
theorem topC_num : ∀ {n d : Nat}, n + d ≤ 60 → numN n (topC d n) = endI n d - 1
  | 0, d, h => by
    rw [show endI 0 d = 1 from endI_zero ⟨d, by omega⟩]; rfl
  | n + 1, d, h => by
    show sE n d + numN n (topC (d + 1) n) = _
    rw [topC_num (n := n) (d := d + 1) (by omega), ← sE_all (l := n) (d := d) (by omega), sE_next]
    omega
theorem zero_ok : ∀ {n d : Nat}, okK d (List.replicate n 0)
  | 0, _ => trivial
  | n + 1, d => ⟨Nat.zero_le _, zero_ok⟩
theorem zero_num : ∀ {n m : Nat}, numN m (List.replicate n 0) = 0
  | 0, _ => rfl
  | n + 1, m => by
    show sE (m - 1) 0 + numN (m - 1) (List.replicate n 0) = 0
    rw [zero_num]; rfl
/-- the next code -/
theorem num_next {n a : Nat} {c : List Nat} {l : Nat} (hn : n = c.length + 1 + l) (h60 : n ≤ 60) (ha : a + 1 + l ≤ 60) : numN n (c ++ (a + 1) :: List.replicate l 0) = numN n (c ++ a :: topC (a + 1) l) + 1 := by
  rw [numN_app, numN_app]
  have e : n - c.length = l + 1 := by omega
  rw [e]
  show _ + (sE l (a + 1) + numN l (List.replicate l 0)) = _ + (sE l a + numN l (topC (a + 1) l)) + 1
  rw [zero_num, topC_num (by omega), sE_next]
  omega
/-! labels -/
def labD : List Nat → Nat → List Nat → List Nat
  | _, _, [] => []
  | P, p, a :: r => (P ++ [p]).getD a 0 :: labD (P.take a ++ [(P ++ [p]).getD a 0]) (p + 1) r
def pilD : List Nat → Nat → List Nat → List Nat
  | P, _, [] => P
  | P, p, a :: r => pilD (P.take a ++ [(P ++ [p]).getD a 0]) (p + 1) r
/-- a pile ahead of place p -/
structure Pil (P : List Nat) (p : Nat) : Prop where
  sorted : P.Pairwise (· < ·)
  lt : ∀ x ∈ P, x < p
theorem labD_length : ∀ {P : List Nat} {p : Nat} {c : List Nat}, (labD P p c).length = c.length
  | _, _, [] => rfl
  | P, p, a :: r => by show (labD _ _ r).length + 1 = r.length + 1; rw [labD_length]
theorem labD_snoc : ∀ {P : List Nat} {p : Nat} {c : List Nat} {a : Nat}, labD P p (c ++ [a]) = labD P p c ++ [(pilD P p c ++ [p + c.length]).getD a 0]
  | P, p, [], a => rfl
  | P, p, b :: c, a => by
    show _ :: labD _ _ (c ++ [a]) = _ :: (labD _ _ c ++ [_])
    rw [labD_snoc]
    show _ = _ :: (_ ++ [(pilD (P.take b ++ [(P ++ [p]).getD b 0]) (p + 1) c ++ [p + (c.length + 1)]).getD a 0])
    rw [show p + 1 + c.length = p + (c.length + 1) by omega]
theorem pilD_snoc : ∀ {P : List Nat} {p : Nat} {c : List Nat} {a : Nat}, pilD P p (c ++ [a]) = (pilD P p c).take a ++ [(pilD P p c ++ [p + c.length]).getD a 0]
  | P, p, [], a => rfl
  | P, p, b :: c, a => by
    show pilD _ _ (c ++ [a]) = _
    rw [pilD_snoc]
    show _ = (pilD (P.take b ++ [(P ++ [p]).getD b 0]) (p + 1) c).take a ++ [(pilD (P.take b ++ [(P ++ [p]).getD b 0]) (p + 1) c ++ [p + (c.length + 1)]).getD a 0]
    rw [show p + 1 + c.length = p + (c.length + 1) by omega]
theorem Pil.up {P : List Nat} {p : Nat} (h : Pil P p) : (P ++ [p]).Pairwise (· < ·) := List.pairwise_append.mpr ⟨h.sorted, by simp, fun x hx y hy => by
  have : y = p := by simpa using hy
  rw [this]; exact h.lt x hx⟩
theorem getD_lt {L : List Nat} (h : L.Pairwise (· < ·)) {i j : Nat} (hj : j < L.length) (hij : i < j) : L.getD i 0 < L.getD j 0 := by
  rw [List.getD_eq_getElem?_getD, List.getD_eq_getElem?_getD, List.getElem?_eq_getElem (show i < L.length by omega), List.getElem?_eq_getElem hj]
  exact List.pairwise_iff_getElem.mp h i j _ _ hij
theorem getD_mem' {L : List Nat} {i : Nat} (h : i < L.length) : L.getD i 0 ∈ L := by
  rw [List.getD_eq_getElem?_getD, List.getElem?_eq_getElem h]
  exact List.getElem_mem h
theorem Pil.step {P : List Nat} {p a : Nat} (h : Pil P p) (ha : a ≤ P.length) : Pil (P.take a ++ [(P ++ [p]).getD a 0]) (p + 1) ∧ (P.take a ++ [(P ++ [p]).getD a 0]).length = a + 1 := by
  have hl : (P ++ [p]).length = P.length + 1 := by simp
  have e : P.take a ++ [(P ++ [p]).getD a 0] = (P ++ [p]).take (a + 1) := by
    rw [List.take_add_one, List.take_append_of_le_length ha, List.getD_eq_getElem?_getD, List.getElem?_eq_getElem (show a < (P ++ [p]).length by omega)]
    rfl
  rw [e]
  refine ⟨⟨h.up.sublist (List.take_sublist _ _), fun x hx => ?_⟩, by rw [List.length_take]; omega⟩
  have := List.mem_of_mem_take hx
  rcases List.mem_append.mp this with g | g
  · have := h.lt x g; omega
  · have : x = p := by simpa using g
    omega
theorem pilD_ok : ∀ {P : List Nat} {p : Nat} {c : List Nat}, Pil P p → okK P.length c → Pil (pilD P p c) (p + c.length) ∧ (pilD P p c).length = depE P.length c
  | P, p, [], h, _ => ⟨h, rfl⟩
  | P, p, a :: c, h, ho => by
    obtain ⟨s1, s2⟩ := h.step ho.1
    have := pilD_ok s1 (by rw [s2]; exact ho.2)
    rw [s2] at this
    show Pil (pilD _ _ c) (p + (c.length + 1)) ∧ (pilD _ _ c).length = depE (a + 1) c
    rw [show p + (c.length + 1) = p + 1 + c.length by omega]
    exact this
theorem labD_lt : ∀ {P : List Nat} {p : Nat} {c c' : List Nat}, Pil P p → okK P.length c → okK P.length c' → c.length = c'.length → c < c' → labD P p c < labD P p c'
  | P, p, [], [], _, _, _, _, h => by simp at h
  | P, p, [], _ :: _, _, _, _, hl, _ => by simp at hl
  | P, p, _ :: _, [], _, _, _, hl, _ => by simp at hl
  | P, p, a :: c, b :: c', h, ho, ho', hl, hlt => by
    show _ :: labD _ _ c < _ :: labD _ _ c'
    rcases List.cons_lt_cons_iff.mp hlt with g | ⟨rfl, g⟩
    · refine List.cons_lt_cons_iff.mpr (.inl (getD_lt h.up ?_ g))
      have := ho'.1
      simp; omega
    · obtain ⟨s1, s2⟩ := h.step ho.1
      exact List.cons_lt_cons_iff.mpr (.inr ⟨rfl, labD_lt s1 (by rw [s2]; exact ho.2) (by rw [s2]; exact ho'.2) (by simpa using hl) g⟩)
theorem lex_irrefl : ∀ {c : List Nat}, ¬ c < c
  | [], h => by simp at h
  | a :: c, h => by
    rcases List.cons_lt_cons_iff.mp h with g | ⟨_, g⟩
    · omega
    · exact lex_irrefl g
theorem lex_asymm : ∀ {c d : List Nat}, c < d → ¬ d < c
  | [], [], h => by simp at h
  | [], _ :: _, _ => fun g => by simp at g
  | _ :: _, [], h => by simp at h
  | a :: c, b :: d, h => fun g => by
    rcases List.cons_lt_cons_iff.mp h with h1 | ⟨rfl, h1⟩ <;> rcases List.cons_lt_cons_iff.mp g with g1 | ⟨g0, g1⟩
    · omega
    · omega
    · omega
    · exact lex_asymm h1 g1
theorem labD_iff {P : List Nat} {p : Nat} {c c' : List Nat} (h : Pil P p) (ho : okK P.length c) (ho' : okK P.length c') (hl : c.length = c'.length) : (labD P p c < labD P p c' ↔ c < c') ∧ (labD P p c = labD P p c' ↔ c = c') := by
  rcases lex_tri hl with g | rfl | g
  · have := labD_lt h ho ho' hl g
    refine ⟨⟨fun _ => g, fun _ => this⟩, fun e => ?_, fun e => by rw [e]⟩
    rw [e] at this
    exact absurd this lex_irrefl
  · exact ⟨⟨fun k => absurd k lex_irrefl, fun k => absurd k lex_irrefl⟩, fun _ => rfl, fun _ => rfl⟩
  · have := labD_lt h ho' ho hl.symm g
    refine ⟨⟨fun k => absurd k (lex_asymm this), fun k => absurd k (lex_asymm g)⟩, fun e => ?_, fun e => by rw [e]⟩
    rw [e] at this
    exact absurd this lex_irrefl
theorem pil0 : Pil [] 0 := ⟨by simp, by simp⟩
end Nc

/-! ### list < list, of whole numbers -/
namespace Nc
open PySem PySem.Spec PyProof.Rows L2 Evl
def rLtL (K : PySem.W.Frag) : R2 := fun x y H Q => ∃ L M : List Int, Dp K H x (.list (L.map PyData.int)) ∧ Dp K H y (.list (M.map PyData.int)) ∧ Q (.bl (PySem.W.listLt L M)) H
theorem pys_ints : ∀ L : List Int, (dInts L).py = .list (L.map PyData.int) := fun L => by
  have : ∀ L : List Int, Dt.pys (L.map Dt.int) = L.map PyData.int := fun L => by
    induction L with
    | nil => rfl
    | cons a l ih =>
      rw [List.map_cons, List.map_cons]
      show Dt.py (.int a) :: Dt.pys (l.map Dt.int) = _
      rw [ih]; rfl
  show PyData.list (Dt.pys (L.map Dt.int)) = _
  rw [this]
theorem depths_ints (L : List Int) : (PyData.list (L.map PyData.int)).depth ≤ 64 := by
  rw [← pys_ints, py_dep]
  exact (fit_ints L).2.2
theorem op_ltL {X : Cx} (hu : X.A.units + 64 < cLine) : OpR X (compareOp .Lt) (rLtL X.K) := by
  intro pins s σ H x y v u Q I rx ry h
  obtain ⟨L, M, d1, d2, q⟩ := h
  obtain ⟨as, r1⟩ := Dp.reads I _ _ v d1 rx
  obtain ⟨bs, r2⟩ := Dp.reads I _ _ u d2 ry
  have hL := depths_ints L
  refine PySem.W.lt_data r1 r2 (PySem.W.DatumOrd.alike L M) (fun z => nomatch z) (by omega) ?_
  rw [show PySem.W.dataLt (PyData.list (L.map PyData.int)) (PyData.list (M.map PyData.int)) = PySem.W.listLt L M from PySem.W.DatumOrd.lt_eq L M]
  exact ⟨.bl _, H, I, rfl, q⟩
theorem listLt_nats : ∀ (L M : List Nat), PySem.W.listLt (ofN L) (ofN M) = decide (L < M)
  | [], [] => by simp [ofN, PySem.W.listLt]
  | [], b :: M => by simp [ofN, PySem.W.listLt]
  | a :: L, [] => by simp [ofN, PySem.W.listLt]
  | a :: L, b :: M => by
    show (if ((a : Nat) : Int) = ((b : Nat) : Int) then PySem.W.listLt (ofN L) (ofN M) else decide (((a : Nat) : Int) < ((b : Nat) : Int))) = _
    rw [listLt_nats]
    by_cases c : a = b
    · subst c
      rw [if_pos rfl, decide_eq_decide, List.cons_lt_cons_iff]
      simp
    · rw [if_neg (by omega), decide_eq_decide, List.cons_lt_cons_iff]
      constructor
      · intro h; left; omega
      · rintro (h | ⟨h, _⟩)
        · omega
        · exact absurd h c
section
variable {σ : L2.St} {Hb H : Hp} {F : List Addr} {ta tb : TE} {K : PySem.W.Frag}
theorem ed_ltL {L M : List Nat} (ha : EvD ta σ Hb (dInts (ofN L))) (hb : EvD tb σ Hb (dInts (ofN M))) : EvD (tOp (rLtL K) ta tb) σ Hb (.bl (decide (L < M))) := fun F H S Q q =>
  ha.thn S fun x H2 e2 S2 rx => hb.thn S2 fun y H3 e3 S3 ry => ⟨ofN L, ofN M, by
    rw [← pys_ints]
    exact (rx.mono (less_ex.trans e3)).dp (fit_ints _).1, by
    rw [← pys_ints]
    exact (ry.mono less_ex).dp (fit_ints _).1, by
    rw [listLt_nats]
    exact q _ H3 (e2.trans e3) (.bl _)⟩
end
end Nc

/-! ### codes: read from labels, numbered, the next one -/
namespace Nc
open PySem PySem.Spec PyProof.Rows L2 Evl
theorem filter_lt_take : ∀ {L : List Nat} {a : Nat}, L.Pairwise (· < ·) → a < L.length → L.filter (fun y => decide (y < L.getD a 0)) = L.take a
  | [], a, _, h => by simp at h
  | x :: L, 0, hp, _ => by
    show (x :: L).filter (fun y => decide (y < x)) = []
    rw [List.filter_eq_nil_iff]
    intro y hy
    rcases List.mem_cons.mp hy with rfl | hy
    · simp
    · have := (List.pairwise_cons.mp hp).1 y hy
      simp; omega
  | x :: L, a + 1, hp, h => by
    have h' : a < L.length := by simpa using h
    obtain ⟨h1, h2⟩ := List.pairwise_cons.mp hp
    have hx : x < L.getD a 0 := h1 _ (getD_mem' h')
    show (x :: L).filter (fun y => decide (y < L.getD a 0)) = x :: L.take a
    rw [List.filter_cons, if_pos (decide_eq_true hx), filter_lt_take h2 h']
theorem filter_gt_drop : ∀ {L : List Nat} {a : Nat}, L.Pairwise (· < ·) → a < L.length → L.filter (fun y => decide (L.getD a 0 < y)) = L.drop (a + 1)
  | [], a, _, h => by simp at h
  | x :: L, 0, hp, _ => by
    obtain ⟨h1, h2⟩ := List.pairwise_cons.mp hp
    show (x :: L).filter (fun y => decide (x < y)) = L
    rw [List.filter_cons, if_neg (by simp), List.filter_eq_self]
    intro y hy
    exact decide_eq_true (h1 y hy)
  | x :: L, a + 1, hp, h => by
    have h' : a < L.length := by simpa using h
    obtain ⟨h1, h2⟩ := List.pairwise_cons.mp hp
    have hx : x < L.getD a 0 := h1 _ (getD_mem' h')
    show (x :: L).filter (fun y => decide (L.getD a 0 < y)) = L.drop (a + 1)
    rw [List.filter_cons, if_neg (fun z => by have := of_decide_eq_true z; omega), filter_gt_drop h2 h']
theorem Pil.filter {P : List Nat} {p a : Nat} (h : Pil P p) (ha : a ≤ P.length) : P.filter (fun y => decide (y < (P ++ [p]).getD a 0)) = P.take a := by
  have h1 := filter_lt_take (a := a) h.up (by simp; omega)
  rw [List.filter_append, List.take_append_of_le_length ha] at h1
  by_cases c : a = P.length
  · subst c
    have e : (P ++ [p]).getD P.length 0 = p := by simp
    rw [e, List.take_length, List.filter_eq_self]
    intro y hy
    exact decide_eq_true (h.lt y hy)
  · have e2 : [p].filter (fun y => decide (y < (P ++ [p]).getD a 0)) = [] := by
      have hx : (P ++ [p]).getD a 0 ∈ P := by
        rw [List.getD_eq_getElem?_getD, List.getElem?_append_left (by omega), List.getElem?_eq_getElem (show a < P.length by omega)]
        exact List.getElem_mem _
      have := h.lt _ hx
      rw [List.filter_cons, if_neg (fun z => by have := of_decide_eq_true z; omega)]; rfl
    rw [e2, List.append_nil] at h1
    exact h1
/-- the number of a tie, read from its leaders -/
def numP (n : Nat) : List Nat → Nat → List Nat → Int
  | _, _, [] => 0
  | P, p, x :: r => sE (n - p - 1) (P.filter fun y => decide (y < x)).length + numP n (P.filter (fun y => decide (y < x)) ++ [x]) (p + 1) r
theorem numP_is {n : Nat} : ∀ {P : List Nat} {p : Nat} {c : List Nat}, Pil P p → okK P.length c → numP n P p (labD P p c) = numN (n - p) c
  | P, p, [], _, _ => rfl
  | P, p, a :: c, h, ho => by
    obtain ⟨s1, s2⟩ := h.step ho.1
    show sE (n - p - 1) (P.filter _).length + numP n (P.filter _ ++ [_]) (p + 1) (labD _ _ c) = sE (n - p - 1) a + numN (n - p - 1) c
    rw [h.filter ho.1, List.length_take, Nat.min_eq_left ho.1, numP_is s1 (by rw [s2]; exact ho.2), Nat.sub_sub]
/-- what is open -/
def opG : List Nat → Nat → List Nat → List Nat
  | S, _, [] => S
  | S, k, x :: r => opG (if x ∈ S then S.take (S.idxOf x + 1) else S ++ [k]) (k + 1) r
theorem opG_snoc : ∀ {S : List Nat} {k : Nat} {L : List Nat} {x : Nat}, opG S k (L ++ [x]) = if x ∈ opG S k L then (opG S k L).take ((opG S k L).idxOf x + 1) else opG S k L ++ [k + L.length]
  | S, k, [], x => rfl
  | S, k, y :: L, x => by
    show opG _ (k + 1) (L ++ [x]) = _
    rw [opG_snoc, show k + 1 + L.length = k + (y :: L).length by simp; omega]
    rfl
theorem idx_nodup : ∀ {S : List Nat} {a : Nat}, S.Pairwise (· < ·) → a < S.length → S.idxOf (S.getD a 0) = a
  | [], a, _, h => by simp at h
  | x :: S, 0, _, _ => by
    show (x :: S).idxOf x = 0
    exact List.idxOf_cons_self
  | x :: S, a + 1, hp, h => by
    have h' : a < S.length := by simpa using h
    obtain ⟨h1, h2⟩ := List.pairwise_cons.mp hp
    have := h1 _ (getD_mem' h')
    show (x :: S).idxOf (S.getD a 0) = a + 1
    have e : (x == S.getD a 0) = false := by
      rw [beq_eq_false_iff_ne]; omega
    rw [List.idxOf_cons, e, cond_false, idx_nodup h2 h']
theorem take_getD {S : List Nat} {a : Nat} (h : a < S.length) : S.take a ++ [S.getD a 0] = S.take (a + 1) := by
  rw [List.take_add_one, List.getD_eq_getElem?_getD, List.getElem?_eq_getElem h]; rfl
theorem opG_is : ∀ {P : List Nat} {p : Nat} {c : List Nat}, Pil P p → okK P.length c → opG P p (labD P p c) = pilD P p c
  | P, p, [], _, _ => rfl
  | P, p, a :: c, h, ho => by
    obtain ⟨s1, s2⟩ := h.step ho.1
    have h1 := ho.1
    show opG (if (P ++ [p]).getD a 0 ∈ P then P.take (P.idxOf ((P ++ [p]).getD a 0) + 1) else P ++ [p]) (p + 1) (labD _ _ c) = pilD _ (p + 1) c
    have e : (if (P ++ [p]).getD a 0 ∈ P then P.take (P.idxOf ((P ++ [p]).getD a 0) + 1) else P ++ [p]) = P.take a ++ [(P ++ [p]).getD a 0] := by
      by_cases k : a = P.length
      · subst k
        have e : (P ++ [p]).getD P.length 0 = p := by simp
        rw [e, if_neg (fun z => by have := h.lt p z; omega), List.take_length]
      · have e : (P ++ [p]).getD a 0 = P.getD a 0 := by
          rw [List.getD_eq_getElem?_getD, List.getElem?_append_left (by omega), List.getD_eq_getElem?_getD]
        rw [e, if_pos (getD_mem' (by omega)), idx_nodup h.sorted (by omega), take_getD (by omega)]
    rw [e, opG_is s1 (by rw [s2]; exact ho.2)]
theorem labD_take : ∀ {P : List Nat} {p k : Nat} {c : List Nat}, (labD P p c).take k = labD P p (c.take k)
  | _, _, 0, c => by simp [labD]
  | P, p, k + 1, [] => rfl
  | P, p, k + 1, a :: c => by
    show _ :: (labD _ _ c).take k = _ :: labD _ _ (c.take k)
    rw [labD_take]
theorem labD_get {P : List Nat} {p k : Nat} {c : List Nat} {a : Nat} (h : c[k]? = some a) : (labD P p c)[k]? = some ((pilD P p (c.take k) ++ [p + k]).getD a 0) := by
  have hk := (List.getElem?_eq_some_iff.mp h).1
  have e1 : (labD P p c).take (k + 1) = labD P p (c.take (k + 1)) := labD_take
  have e2 : c.take (k + 1) = c.take k ++ [a] := by rw [List.take_add_one, h]; rfl
  rw [e2, labD_snoc, List.length_take, Nat.min_eq_left (Nat.le_of_lt hk)] at e1
  have hl : (labD P p (c.take k)).length = k := by rw [labD_length, List.length_take]; omega
  have : ((labD P p c).take (k + 1))[k]? = some ((pilD P p (c.take k) ++ [p + k]).getD a 0) := by
    rw [e1, List.getElem?_append_right (by omega), hl, Nat.sub_self]; rfl
  rw [List.getElem?_take, if_pos (by omega)] at this
  exact this
/-- every number has its code -/
theorem sE_between {l d : Nat} {k : Int} (h0 : 0 ≤ k) : k < sE l (d + 1) → ∃ a, a ≤ d ∧ sE l a ≤ k ∧ k < sE l (a + 1) := by
  induction d with
  | zero => exact fun h => ⟨0, Nat.le_refl _, h0, h⟩
  | succ d ih =>
    intro h
    by_cases c : k < sE l (d + 1)
    · obtain ⟨a, h1, h2⟩ := ih c
      exact ⟨a, by omega, h2⟩
    · exact ⟨d + 1, Nat.le_refl _, by omega, h⟩
theorem num_sur : ∀ {n d : Nat} {k : Int}, 0 ≤ k → k < endI n d → n + d ≤ 60 → ∃ c, okK d c ∧ c.length = n ∧ numN n c = k
  | 0, d, k, h0, h1, hn => by
    rw [show endI 0 d = 1 from endI_zero ⟨d, by omega⟩] at h1
    exact ⟨[], trivial, rfl, by show (0 : Int) = k; omega⟩
  | n + 1, d, k, h0, h1, hn => by
    rw [← sE_all (l := n) (d := d) (by omega)] at h1
    obtain ⟨a, ha, h2, h3⟩ := sE_between h0 h1
    rw [sE_next] at h3
    obtain ⟨c, c1, c2, c3⟩ := num_sur (n := n) (d := a + 1) (k := k - sE n a) (by omega) (by omega) (by omega)
    exact ⟨a :: c, ⟨ha, c1⟩, by simp [c2], by show sE n a + numN n c = k; omega⟩
noncomputable def codeK (n : Nat) (k : Int) : List Nat := open Classical in if h : ∃ c, okK 0 c ∧ c.length = n ∧ numN n c = k then h.choose else []
theorem codeK_is {n : Nat} {c : List Nat} (h : okK 0 c) (hl : c.length = n) (hn : n ≤ 60) : codeK n (numN n c) = c := by
  have hx : ∃ c', okK 0 c' ∧ c'.length = n ∧ numN n c' = numN n c := ⟨c, h, hl, rfl⟩
  unfold codeK
  rw [dif_pos hx]
  obtain ⟨h1, h2, h3⟩ := hx.choose_spec
  exact (numN_inj h1 h h2 hl (by omega)).mp h3
/-- the least and the greatest labels -/
theorem lab_zero : ∀ {n p : Nat}, labD [0] p (List.replicate n 0) = List.replicate n 0
  | 0, _ => rfl
  | n + 1, p => by
    show 0 :: labD [0] (p + 1) (List.replicate n 0) = 0 :: List.replicate n 0
    rw [lab_zero]
theorem lab_zero0 {n : Nat} : labD [] 0 (List.replicate n 0) = List.replicate n 0 := by
  cases n with
  | zero => rfl
  | succ n =>
    show 0 :: labD [0] 1 (List.replicate n 0) = 0 :: List.replicate n 0
    rw [lab_zero]
theorem lab_top : ∀ {n p : Nat} {P : List Nat}, labD P p (topC P.length n) = List.range' p n
  | 0, _, _ => rfl
  | n + 1, p, P => by
    have e : (P ++ [p]).getD P.length 0 = p := by simp
    show (P ++ [p]).getD P.length 0 :: labD (P.take P.length ++ [(P ++ [p]).getD P.length 0]) (p + 1) (topC (P.length + 1) n) = p :: List.range' (p + 1) n
    rw [e, List.take_length]
    have := lab_top (n := n) (p := p + 1) (P := P ++ [p])
    rw [show (P ++ [p]).length = P.length + 1 by simp] at this
    rw [this]
theorem lab_top0 {n : Nat} : labD [] 0 (topC 0 n) = List.range n := by
  rw [List.range_eq_range']
  exact lab_top (P := [])
theorem code_lead : ∀ {n : Nat} {c : List Nat}, c.length = n → okK 0 c → Lead (labD [] 0 c) ∧ Open (labD [] 0 c) (pilD [] 0 c)
  | 0, c, hl, _ => by
    have : c = [] := List.length_eq_zero_iff.mp hl
    subst this
    exact ⟨lead_nil, open_nil⟩
  | n + 1, c, hl, ho => by
    obtain ⟨d, a, rfl⟩ : ∃ d a, c = d ++ [a] := ⟨c.dropLast, c.getLast (fun z => by rw [z] at hl; simp at hl), (List.dropLast_concat_getLast _).symm⟩
    have hdl : d.length = n := by simpa using hl
    obtain ⟨hd, ha⟩ := okK_snoc.mp ho
    obtain ⟨h1, h2⟩ := code_lead hdl hd
    obtain ⟨p1, p2⟩ := pilD_ok pil0 hd
    rw [← show (pilD [] 0 d).length = depE 0 d from p2] at ha
    have hLl : (labD [] 0 d).length = n := by rw [labD_length, hdl]
    rw [labD_snoc, pilD_snoc, Nat.zero_add, hdl]
    by_cases k : a = (pilD [] 0 d).length
    · have e : (pilD [] 0 d ++ [n]).getD a 0 = n := by rw [k]; simp
      rw [e, k, List.take_length]
      have o := open_new h2
      rw [hLl] at o
      refine ⟨lead_step h1 h2 (.inr hLl.symm), o⟩
    · have e : (pilD [] 0 d ++ [n]).getD a 0 = (pilD [] 0 d).getD a 0 := by
        rw [List.getD_eq_getElem?_getD, List.getElem?_append_left (by omega), List.getD_eq_getElem?_getD]
      rw [e, take_getD (by omega)]
      have o := open_old (L := labD [] 0 d) (S := pilD [] 0 d) (k := a + 1) (by omega) (by omega) h2
      rw [Nat.add_sub_cancel] at o
      exact ⟨lead_step h1 h2 (.inl (getD_mem' (by omega))), o⟩
end Nc

/-! ### promises about ties in order -/
namespace Nc
open PySem PySem.Spec PyProof.Rows L2 Evl
def CodeOf (L S : List Nat) : Prop := ∃ c, okK 0 c ∧ L = labD [] 0 c ∧ S = pilD [] 0 c
theorem codeOf_nil : CodeOf [] [] := ⟨[], trivial, rfl, rfl⟩
theorem CodeOf.len {L S : List Nat} (h : CodeOf L S) : S.length ≤ L.length := by
  obtain ⟨c, ho, rfl, rfl⟩ := h
  rw [(pilD_ok pil0 ho).2, labD_length]
  have := depE_le ho
  show depE 0 c ≤ c.length
  omega
theorem code_new {L S : List Nat} (h : CodeOf L S) : CodeOf (L ++ [L.length]) (S ++ [L.length]) := by
  obtain ⟨c, ho, rfl, rfl⟩ := h
  obtain ⟨p1, p2⟩ := pilD_ok pil0 ho
  have e : (pilD [] 0 c ++ [0 + c.length]).getD (pilD [] 0 c).length 0 = c.length := by simp
  refine ⟨c ++ [(pilD [] 0 c).length], okK_snoc.mpr ⟨ho, by rw [p2]; exact Nat.le_refl _⟩, ?_, ?_⟩
  · rw [labD_snoc, e, labD_length]
  · rw [pilD_snoc, e, List.take_length, labD_length]
theorem code_old {L S : List Nat} {k : Nat} (hk : 0 < k) (hkl : k ≤ S.length) (h : CodeOf L S) : CodeOf (L ++ [S.getD (k - 1) 0]) (S.take k) := by
  obtain ⟨c, ho, rfl, rfl⟩ := h
  obtain ⟨p1, p2⟩ := pilD_ok pil0 ho
  have e : (pilD [] 0 c ++ [0 + c.length]).getD (k - 1) 0 = (pilD [] 0 c).getD (k - 1) 0 := by
    rw [List.getD_eq_getElem?_getD, List.getElem?_append_left (by omega), List.getD_eq_getElem?_getD]
  refine ⟨c ++ [k - 1], okK_snoc.mpr ⟨ho, by rw [← show (pilD [] 0 c).length = depE 0 c from p2]; omega⟩, ?_, ?_⟩
  · rw [labD_snoc, e]
  · rw [pilD_snoc, e, take_getD (by omega), Nat.sub_add_cancel (by omega)]
def isCode (n : Nat) (e : Dt) : Prop := ∃ c : List Nat, c.length = n ∧ okK 0 c ∧ e = dNats (labD [] 0 c)
def sp_l_labelsC : Sp := spR 3 (fun ds => ∃ (n : Nat) (c o : Int), ds = [.int n, .int c, .int o] ∧ 1 ≤ n ∧ n ≤ 60) fun ds e => isCode (dInt (ds.headD .non)).toNat e
/-- the tie of a code -/
def tieC (c : List Nat) : Dt := dTie c.length (groupsOf (lb (labD [] 0 c)) c.length)
def sp_number_of : Sp := spD 1 (fun ds => ∃ n gs, ds = [dTie n gs] ∧ okLeaders n gs ∧ n ≤ 60) fun ds => .int (numP (ds.headD .non).many [] 0 (leadersM (ds.headD .non).many (ds.headD .non).grps))
noncomputable def sp_tie_ofK (mg : Str → Option Value) : Sp := spE mg 2 (fun ds => ∃ (n : Nat) (k : Int), ds = [.int n, .int k] ∧ 1 ≤ n ∧ n ≤ 60 ∧ 0 ≤ k ∧ k < catI n) fun ds => .ok (tieC (codeK (dInt (ds.headD .non)).toNat (dInt (ds.getD 1 .non))))
def natsL (d : Dt) : List Nat := d.ints.map Int.toNat
theorem natsL_is (L : List Nat) : natsL (dNats L) = L := by
  unfold natsL
  have : (dNats L).ints = ofN L := by rw [dNats_ofN]; exact ints_dInts _
  rw [this]
  unfold ofN
  rw [List.map_map]
  have : (Int.toNat ∘ fun x : Nat => (x : Int)) = id := by funext x; simp
  rw [this, List.map_id]
def sp_l_open : Sp := spD 2 (fun ds => ∃ (L : List Nat) (p : Nat), ds = [dNats L, .int p] ∧ p ≤ L.length ∧ L.length ≤ 1000) fun ds => dNats (opG [] 0 ((natsL (ds.headD .non)).take (dInt (ds.getD 1 .non)).toNat) ++ [(dInt (ds.getD 1 .non)).toNat])
def sp_l_next : Sp := spR 1 (fun ds => ∃ c, ds = [dNats (labD [] 0 c)] ∧ okK 0 c ∧ c.length ≤ 60) fun ds e => ∀ c, ds = [dNats (labD [] 0 c)] → okK 0 c → (c = topC 0 c.length ∧ e = .non) ∨ ∃ c', okK 0 c' ∧ c'.length = c.length ∧ numN c.length c' = numN c.length c + 1 ∧ e = dNats (labD [] 0 c')
def sp_l_leaders : Sp := spD 1 (fun ds => ∃ c, ds = [tieC c] ∧ okK 0 c ∧ c.length ≤ 60) fun ds => dNats (leadersM (ds.headD .non).many (ds.headD .non).grps)
theorem tieC_leaders {c : List Nat} (h : okK 0 c) : leadersM c.length (groupsOf (lb (labD [] 0 c)) c.length) = labD [] 0 c := by
  have := leaders_lead (code_lead rfl h).1
  rwa [labD_length] at this
theorem tieC_num {c : List Nat} (h : okK 0 c) : numP c.length [] 0 (leadersM c.length (groupsOf (lb (labD [] 0 c)) c.length)) = numN c.length c := by
  rw [tieC_leaders h, numP_is pil0 h, Nat.sub_zero]
theorem catI_end (n : Nat) : catI n = endI n 0 := rfl
end Nc

namespace Nc
open PySem PySem.Spec PyProof.Rows L2 Evl
section
variable {σ : L2.St} {Hx Hb H : Hp} {F : List Addr} {K : PySem.W.Frag} {mg : Str → Option Value} {T : Addr} {ta tb : TE} {n : Nat} {c : List Nat} {D : Ends} {tz tu : TS} {t : TT}
theorem k_tie (ha : EvD ta σ Hx (dNats (labD [] 0 c))) (hl : c.length ≤ 60) : EvD (tCall sp_l_tie [] E0 (tCons ta tNil)) σ Hx (tieC c) := (ed_call (ea_cons' (ha.as (dNats_ofN _)) ea_nil') ⟨ofN (labD [] 0 c), rfl, by rw [ofN_length, labD_length]; omega⟩ rfl).as (by
  show dTie (dInts (ofN (labD [] 0 c))).ints.length (gI (dInts (ofN (labD [] 0 c))).ints) = tieC c
  rw [ints_dInts, gI_ofN, ofN_length, labD_length]
  rfl)
theorem okL_code : okLeaders c.length (groupsOf (lb (labD [] 0 c)) c.length) ↔ c.length ≤ 1000 := ⟨fun h => h.1, fun h => ⟨h, fun g hg => group_ne hg⟩⟩
theorem k_num (ha : EvD ta σ Hx (tieC c)) (ho : okK 0 c) (hl : c.length = n) (h60 : n ≤ 60) (hT : Hx T = some (tblO T)) : EvD (tCall (spT T sp_number_of) [] E0 (tCons ta tNil)) σ Hx (.int (numN n c)) := by
  subst hl
  refine ((en_callT (ea_cons' ha ea_nil') hT ⟨_, _, rfl, okL_code.mpr (by omega), h60⟩ rfl : EvN (tCall (spT T sp_number_of) [] E0 (tCons ta tNil)) σ Hx _).dd).as ?_
  show Dt.int (numP (tieC c).many [] 0 (leadersM (tieC c).many (tieC c).grps)) = _
  unfold tieC
  rw [many_dTie, grps_dTie, tieC_num ho]
theorem k_cnt (hv : σ[1]? = some (some (.int (n : Nat)))) (h1 : 1 ≤ n) (h2 : n ≤ 60) : EvD (tCall (sp_counted mg) [] E0 (tCons (tVar 1) tNil)) σ Hx (.int (catI n)) := by
  have := ex_call (mg := mg) (E := E0) (n := 1) (pre := fun ds => ∃ c, ds = [c]) (f := fun ds => cntdX (ds.headD .non)) (ea_cons' (ed_vi (σ := σ) (Hb := Hx) hv) ea_nil') ⟨_, rfl⟩ rfl
  have e0 : cntdX (([.int (n : Nat)] : List Dt).headD .non) = .ok (.int (catI n)) := by
    show cntdX (.int (n : Nat)) = _
    unfold cntdX
    rw [cntOk_int h1 h2]
  rw [e0] at this
  exact this.en.dd
theorem k_tof (hv : σ[1]? = some (some (.int (n : Nat)))) (hb : EvD tb σ Hx (.int (numN n c))) (ho : okK 0 c) (hl : c.length = n) (h1 : 1 ≤ n) (h2 : n ≤ 60) : EvD (tCall (sp_tie_ofK mg) [] E0 (tCons (tVar 1) (tCons tb tNil))) σ Hx (tieC c) := by
  obtain ⟨g1, g2⟩ := numN_lt ho hl (by omega)
  have := ex_call (mg := mg) (E := E0) (n := 2) (pre := fun ds => ∃ (n : Nat) (k : Int), ds = [.int n, .int k] ∧ 1 ≤ n ∧ n ≤ 60 ∧ 0 ≤ k ∧ k < catI n) (f := fun ds => .ok (tieC (codeK (dInt (ds.headD .non)).toNat (dInt (ds.getD 1 .non))))) (ea_cons' (ed_vi (σ := σ) (Hb := Hx) hv) (ea_cons' hb ea_nil')) ⟨n, _, rfl, h1, h2, g1, g2⟩ rfl
  have e0 : (Except.ok (tieC (codeK (dInt (([.int (n : Nat), .int (numN n c)] : List Dt).headD .non)).toNat (dInt (([.int (n : Nat), .int (numN n c)] : List Dt).getD 1 .non)))) : Except Str Dt) = .ok (tieC c) := by
    show Except.ok (tieC (codeK ((n : Nat) : Int).toNat (numN n c))) = _
    rw [Int.toNat_natCast, codeK_is ho hl h2]
  rw [e0] at this
  exact this.en.dd
theorem k_is (ha : EvD ta σ Hx (tieC c)) (hb : EvD tb σ Hx (dNats (labD [] 0 c))) (h60 : c.length ≤ 60) : EvD (tCall sp_l_is [] E0 (tCons ta (tCons tb tNil))) σ Hx (.bl true) := by
  refine (ed_call (ea_cons' ha (ea_cons' (hb.as (dNats_ofN _)) ea_nil')) ⟨c.length, _, ofN (labD [] 0 c), rfl, by rw [ofN_length, labD_length]; omega, by have := groups_length (f := lb (labD [] 0 c)) (n := c.length); omega, fun g hg => by have := group_size hg; omega⟩ rfl).as ?_
  show Dt.bl (decide ((tieC c).many = (dInts (ofN (labD [] 0 c))).ints.length ∧ (tieC c).grps = gI (dInts (ofN (labD [] 0 c))).ints)) = .bl true
  unfold tieC
  rw [many_dTie, grps_dTie, ints_dInts, gI_ofN, ofN_length, labD_length, decide_eq_true ⟨rfl, rfl⟩]
theorem q_ifJN {b : Bool} (R : L2.St → Hp → Prop) (S : Beside Hb F H) (h : EvT t σ Hb b) (h1 : (∀ σ' H', R σ' H' → tz D σ' H') → b = true → ∀ H', Ex H H' → Beside Hb F H' → tu { D with nx := tz D } σ H') (h2 : b = false → ∀ H', Ex H H' → Beside Hb F H' → R σ H') (k : ∀ σ' H', R σ' H' → tz D σ' H') : tSeq (tIfS t tu tNext) tz D σ H := q_ifN S h (h1 k) fun hb H' e S' => k _ _ (h2 hb H' e S')
theorem q_ifJ4 {tw : TS} {b : Bool} (R : L2.St → Hp → Prop) (S : Beside Hb F H) (h : EvT t σ Hb b) (h1 : (∀ σ' H', R σ' H' → tz D σ' H') → b = true → ∀ H', Ex H H' → Beside Hb F H' → tu { D with nx := tz D } σ H') (h2 : (∀ σ' H', R σ' H' → tz D σ' H') → b = false → ∀ H', Ex H H' → Beside Hb F H' → tw { D with nx := tz D } σ H') (k : ∀ σ' H', R σ' H' → tz D σ' H') : tSeq (tIfS t tu tw) tz D σ H := q_ifD S h (h1 k) (h2 k)
end
end Nc
namespace Nc
open PySem PySem.Spec PyProof.Rows L2 Evl
def topS (i : Nat) : Stmt := PySem.Challenge.pw_nocross_k14_whole_numbers.main.body.getD i (.Pass ⟨0, 0, 0, 0⟩)
abbrev s_is_whole : Stmt := topS 7
theorem sc_is_whole : FnScope ["value"] ["value"] (defScope s_is_whole) := ⟨rfl, rfl, rfl, by decide +kernel, rfl, by decide +kernel, by decide +kernel⟩
abbrev s_check_count : Stmt := topS 8
theorem sc_check_count : FnScope ["many"] ["many"] (defScope s_check_count) := ⟨rfl, rfl, rfl, by decide +kernel, rfl, by decide +kernel, by decide +kernel⟩
abbrev s_gathered : Stmt := topS 9
theorem sc_gathered : FnScope ["marks", "groups", "place", "mark", "group"] ["marks"] (defScope s_gathered) := ⟨rfl, rfl, rfl, by decide +kernel, rfl, by decide +kernel, by decide +kernel⟩
abbrev s_leaders : Stmt := topS 10
theorem sc_leaders : FnScope ["tie", "many", "groups", "firsts", "group", "place"] ["tie"] (defScope s_leaders) := ⟨rfl, rfl, rfl, by decide +kernel, rfl, by decide +kernel, by decide +kernel⟩
abbrev s__endings : Stmt := topS 12
theorem sc__endings : FnScope ["left", "deep"] ["left", "deep"] (defScope s__endings) := ⟨rfl, rfl, rfl, by decide +kernel, rfl, by decide +kernel, by decide +kernel⟩
abbrev s_counted : Stmt := topS 13
theorem sc_counted : FnScope ["many"] ["many"] (defScope s_counted) := ⟨rfl, rfl, rfl, by decide +kernel, rfl, by decide +kernel, by decide +kernel⟩
abbrev s_number_of : Stmt := topS 14
theorem sc_number_of : FnScope ["tie", "many", "number", "pile", "place", "first", "left", "lower"] ["tie"] (defScope s_number_of) := ⟨rfl, rfl, rfl, by decide +kernel, rfl, by decide +kernel, by decide +kernel⟩
abbrev s_tie_of : Stmt := topS 15
theorem sc_tie_of : FnScope ["many", "number", "firsts", "pile", "ahead", "place", "left", "at", "first"] ["many", "number"] (defScope s_tie_of) := ⟨rfl, rfl, rfl, by decide +kernel, rfl, by decide +kernel, by decide +kernel⟩
abbrev s_l_cell_at : Stmt := topS 17
theorem sc_l_cell_at : FnScope ["_law_script", "_law_k"] ["_law_script", "_law_k"] (defScope s_l_cell_at) := ⟨rfl, rfl, rfl, by decide +kernel, rfl, by decide +kernel, by decide +kernel⟩
abbrev s_l_whole : Stmt := topS 18
theorem sc_l_whole : FnScope ["_law_found"] ["_law_found"] (defScope s_l_whole) := ⟨rfl, rfl, rfl, by decide +kernel, rfl, by decide +kernel, by decide +kernel⟩
abbrev s_l_count : Stmt := topS 19
theorem sc_l_count : FnScope ["_law_cell"] ["_law_cell"] (defScope s_l_count) := ⟨rfl, rfl, rfl, by decide +kernel, rfl, by decide +kernel, by decide +kernel⟩
abbrev s_l_labels : Stmt := topS 20
theorem sc_l_labels : FnScope ["_law_many", "_law_cell", "_law_other", "_law_stack", "_law_labels_here", "_law_place", "_law_mixed", "_law_kept", "_law_label"] ["_law_many", "_law_cell", "_law_other"] (defScope s_l_labels) := ⟨rfl, rfl, rfl, by decide +kernel, rfl, by decide +kernel, by decide +kernel⟩
abbrev s_l_groups : Stmt := topS 21
theorem sc_l_groups : FnScope ["_law_labels_here", "_law_found", "_law_first", "_law_group", "_law_place"] ["_law_labels_here"] (defScope s_l_groups) := ⟨rfl, rfl, rfl, by decide +kernel, rfl, by decide +kernel, by decide +kernel⟩
abbrev s_l_is : Stmt := topS 22
theorem sc_l_is : FnScope ["_law_found", "_law_labels_here", "_law_group", "_law_place"] ["_law_found", "_law_labels_here"] (defScope s_l_is) := ⟨rfl, rfl, rfl, by decide +kernel, rfl, by decide +kernel, by decide +kernel⟩
abbrev s_l_tie : Stmt := topS 23
theorem sc_l_tie : FnScope ["_law_labels_here"] ["_law_labels_here"] (defScope s_l_tie) := ⟨rfl, rfl, rfl, by decide +kernel, rfl, by decide +kernel, by decide +kernel⟩
abbrev s_l_flat : Stmt := topS 24
theorem sc_l_flat : FnScope ["_law_tie_here", "_law_labels_here", "_law_number", "_law_group", "_law_place"] ["_law_tie_here"] (defScope s_l_flat) := ⟨rfl, rfl, rfl, by decide +kernel, rfl, by decide +kernel, by decide +kernel⟩
abbrev s_l_leaders : Stmt := topS 25
theorem sc_l_leaders : FnScope ["_law_tie_here", "_law_labels_here", "_law_label"] ["_law_tie_here"] (defScope s_l_leaders) := ⟨rfl, rfl, rfl, by decide +kernel, rfl, by decide +kernel, by decide +kernel⟩
abbrev s_l_open : Stmt := topS 26
theorem sc_l_open : FnScope ["_law_labels_here", "_law_place", "_law_opened", "_law_k"] ["_law_labels_here", "_law_place"] (defScope s_l_open) := ⟨rfl, rfl, rfl, by decide +kernel, rfl, by decide +kernel, by decide +kernel⟩
abbrev s_l_next : Stmt := topS 27
theorem sc_l_next : FnScope ["_law_labels_here", "_law_far", "_law_place", "_law_greater", "_law_found", "_law_leader"] ["_law_labels_here"] (defScope s_l_next) := ⟨rfl, rfl, rfl, by decide +kernel, rfl, by decide +kernel, by decide +kernel⟩
abbrev s_law : Stmt := topS 28
theorem sc_law : FnScope ["_law_script", "_law_many", "_law_labels_here", "_law_one", "_law_number", "_law_others", "_law_beside", "_law_behind"] ["_law_script"] (defScope s_law) := ⟨rfl, rfl, rfl, by decide +kernel, rfl, by decide +kernel, by decide +kernel⟩
end Nc
namespace Nc
open PySem PySem.Spec PyProof.Rows L2 Evl
section
variable {P : Program} {w : World} {K : PySem.W.Frag} {mg : Str → Option Value} {base : Heap} {f : Addr} {fd : FuncData}
theorem ok_is_whole (F : Fun K "is_whole" "is_whole" s_is_whole f fd) (B : Blt mg) : FnOk P w K mg base CX0 1 f fd ["value"] sp_is_whole := by
  refine F.ok sc_is_whole (fun vs H Q E h => h.1) (fun cdv A outer s H vs Q E hr h => ?_)
  obtain ⟨len, ds, r, pre, q⟩ := h
  obtain ⟨v, d, rfl, rfl, r1⟩ := args1 len r
  refine ⟨_, (pss_one (ps_ret (pe_and (pe_callB call_isi (by rfl) B.isinstance_ (by decide +kernel) (pa_cons (pv 0) (pa_cons (pe_bltn (v := .ty "int") (by rfl) B.int_ bt_int rfl) pa_nil))) (pe_one (pe_not (pe_callB call_isi (by rfl) B.isinstance_ (by decide +kernel) (pa_cons (pv 0) (pa_cons (pe_bltn (v := .ty "bool") (by rfl) B.bool_ bt_bool rfl) pa_nil)))))))), ?_⟩
  refine s_retN (Beside.refl H) (EvD.nn (ed_and (ed_isi (ed_v rfl r1) (kit_int d)) fun _ => ed_not (ed_isi (ed_v rfl r1) (kit_bool d))) rfl) fun v' H' e rv => q v' H' e ?_
  rw [isI_of] at rv
  exact rv
theorem ok_l_whole (F : Fun K "_law_whole" "_law_whole" s_l_whole f fd) (B : Blt mg) : FnOk P w K mg base CX0 1 f fd ["_law_found"] sp_l_whole := by
  refine F.ok sc_l_whole (fun vs H Q E h => h.1) (fun cdv A outer s H vs Q E hr h => ?_)
  obtain ⟨len, ds, r, pre, q⟩ := h
  obtain ⟨v, d, rfl, rfl, r1⟩ := args1 len r
  refine ⟨_, (pss_one (ps_ret (pe_and (pe_callB call_isi (by rfl) B.isinstance_ (by decide +kernel) (pa_cons (pv 0) (pa_cons (pe_bltn (v := .ty "int") (by rfl) B.int_ bt_int rfl) pa_nil))) (pe_one (pe_not (pe_callB call_isi (by rfl) B.isinstance_ (by decide +kernel) (pa_cons (pv 0) (pa_cons (pe_bltn (v := .ty "bool") (by rfl) B.bool_ bt_bool rfl) pa_nil)))))))), ?_⟩
  refine s_retN (Beside.refl H) (EvD.nn (ed_and (ed_isi (ed_v rfl r1) (kit_int d)) fun _ => ed_not (ed_isi (ed_v rfl r1) (kit_bool d))) rfl) fun v' H' e rv => q v' H' e ?_
  rw [isI_of] at rv
  exact rv
theorem ok_l_cell_at (F : Fun K "_law_cell_at" "_law_cell_at" s_l_cell_at f fd) (B : Blt mg) : FnOk P w K mg base CX0 1 f fd ["_law_script", "_law_k"] (sp_l_cell_at K) := by
  refine F.ok sc_l_cell_at (fun vs H Q E h => by obtain ⟨a, ns, k, rfl, _⟩ := h; rfl) (fun cdv A outer s H vs Q E hr h => ?_)
  obtain ⟨a, ns, k, rfl, hs, q⟩ := h
  refine ⟨_, (pss_cons (ps_if (pt_cmpR op_ltI (pv 1) (pe_callB call_len_seq (by rfl) B.len_ (by decide +kernel) (pa_cons (pv 0) pa_nil)) (by first | exact nomark _ | rfl))
        (pss_one (ps_ret (pe_ix ix_list (pv 0) (pv 1) (fun _ _ => rfl))))
        pss_nil)
      (pss_one (ps_ret pe_int))), ?_⟩
  have hl : Ev (tCB (rLenS K) (tCons (tVar 0) tNil)) (start ["_law_script", "_law_k"] [.ref a, .int (k : Int)]) H (.int ((ns.map V.int).length : Int)) := ev_len (ev_var rfl) hs
  refine q_ifN (Beside.refl H) (et_d (ed_IB (ed_vi rfl) (edI hl))) (fun hb H1 e1 S1 => ?_) fun hb H1 e1 S1 => ?_
  · have hk : k < ns.length := by
      have := of_decide_eq_true hb
      rw [List.length_map] at this
      omega
    refine s_retD S1 (edI (ev_op (z := .int (ns.getD k 0)) (ev_var rfl) (ev_var rfl) (rv_ixL hs (atI_nat (j := k) ?_)))) fun v H2 e2 r => ?_
    · rw [List.getElem?_map, List.getElem?_eq_getElem hk, List.getD_eq_getElem?_getD, List.getElem?_eq_getElem hk]; rfl
    · rw [r.intI]; exact q H2 (e1.trans e2)
  · have hk : ns.length ≤ k := by
      have := of_decide_eq_false hb
      rw [List.length_map] at this
      omega
    refine s_retD S1 ed_int fun v H2 e2 r => ?_
    rw [r.intI]
    have := q H2 (e1.trans e2)
    rw [List.getD_eq_getElem?_getD, List.getElem?_eq_none hk] at this
    exact this
theorem ok_l_count (F : Fun K "_law_count" "_law_count" s_l_count f fd) (B : Blt mg) : FnOk P w K mg base CX0 1 f fd ["_law_cell"] sp_l_count := by
  refine F.ok sc_l_count (fun vs H Q E h => h.1) (fun cdv A outer s H vs Q E hr h => ?_)
  obtain ⟨len, ds, r, ⟨c, hc⟩, q⟩ := h
  obtain ⟨v, d, rfl, rfl, r1⟩ := args1 len r
  obtain rfl : d = .int c := by simpa using hc
  obtain rfl := r1.intI
  refine ⟨_, (pss_cons (ps_if (pt_cmpR op_eq (pe_op op_modI (pv 0) pe_int) pe_int (by first | exact nomark _ | rfl))
        (pss_one (ps_ret (pe_op op_addI pe_int (pe_op op_modI (pe_op op_divI (pv 0) pe_int) pe_int))))
        pss_nil)
      (pss_one (ps_ret (pe_op op_addI pe_int (pe_op op_modI (pe_op op_divI (pv 0) pe_int) pe_int))))), ?_⟩
  refine q_ifN (Beside.refl H) (et_d (ed_eqI (ed_CI (ed_vi rfl) ed_int (by decide)) ed_int)) (fun hb H1 e1 S1 => ?_) fun hb H1 e1 S1 => ?_
  · have hk := of_decide_eq_true hb
    refine s_retN S1 (EvD.nn (ed_II ed_int (ed_CI (ed_CI (ed_vi rfl) ed_int ⟨by decide, by decide⟩) ed_int (by decide))) rfl) fun v H2 e2 r => q v H2 (e1.trans e2) ?_
    have e3 : (1 : Int) + c / 3 % 60 = ((countOf c : Nat) : Int) := by
      unfold countOf; rw [if_pos hk]; omega
    rw [e3] at r
    exact r.wk fun a n => fresh_back e1 n
  · have hk := of_decide_eq_false hb
    refine s_retN S1 (EvD.nn (ed_II ed_int (ed_CI (ed_CI (ed_vi rfl) ed_int ⟨by decide, by decide⟩) ed_int (by decide))) rfl) fun v H2 e2 r => q v H2 (e1.trans e2) ?_
    have e3 : (1 : Int) + c / 3 % 9 = ((countOf c : Nat) : Int) := by
      unfold countOf; rw [if_neg hk]; omega
    rw [e3] at r
    exact r.wk fun a n => fresh_back e1 n
end
end Nc

namespace Nc
open PySem PySem.Spec PyProof.Rows L2 Evl
section
variable {P : Program} {w : World} {K : PySem.W.Frag} {mg : Str → Option Value} {base : Heap} {f : Addr} {fd : FuncData}
theorem nats_ints (L : List Nat) : (L.map fun x => Dt.int (x : Nat)) = (L.map fun x => ((x : Nat) : Int)).map Dt.int := by rw [List.map_map]; rfl
theorem natV_ints (L : List Nat) : (L.map fun x => V.int (x : Nat)) = (L.map fun x => ((x : Nat) : Int)).map V.int := by rw [List.map_map]; rfl
theorem ok_l_labels (F : Fun K "_law_labels" "_law_labels" s_l_labels f fd) (B : Blt mg) : FnOk P w K mg base CX0 1 f fd ["_law_many", "_law_cell", "_law_other"] sp_l_labelsC := by
  refine F.ok sc_l_labels (fun vs H Q E h => h.1) (fun cdv A outer s H vs Q E hr h => ?_)
  obtain ⟨len, ds, r, ⟨n, c, o, hds, hn1, hn60⟩, q⟩ := h
  obtain ⟨v, d, v2, d2, v3, d3, rfl, rfl, r1, r2, r3⟩ := args3 len r
  obtain ⟨rfl, rfl, rfl⟩ : d = .int n ∧ d2 = .int c ∧ d3 = .int o := by simpa using hds
  obtain rfl := r1.intI
  obtain rfl := r2.intI
  obtain rfl := r3.intI
  refine ⟨_, (pss_cons (ps_set (i := 3) sc_l_labels.nd rfl (.inl rfl) (pe_lst pa_nil))
      (pss_cons (ps_set (i := 4) sc_l_labels.nd rfl (.inl rfl) (pe_lst pa_nil))
      (pss_cons (ps_for PassesOwn.never rfl (pi_range1 (by rfl) B.range_ (pa_cons (pv 0) pa_nil)) (pg_name (i := 5) sc_l_labels.nd rfl (.inl rfl))
        (pss_cons (ps_set (i := 6) sc_l_labels.nd rfl (.inl rfl) (pe_op op_modI (pe_op op_addI (pe_op op_addI (pv 1) (pe_op op_mulI pe_int (pv 5))) (pe_op op_mulI (pe_op op_mulI (pv 2) (pv 5)) (pv 5))) pe_int))
      (pss_cons (ps_set (i := 6) sc_l_labels.nd rfl (.inl rfl) (pe_op op_divI (pe_op op_modI (pe_op op_mulI (pe_op op_modI (pe_op op_mulI (pv 6) (pv 6)) pe_int) pe_int) pe_int) pe_int))
      (pss_cons (ps_set (i := 7) sc_l_labels.nd rfl (.inl rfl) (pe_op op_subI (pe_callB call_len_seq (by rfl) B.len_ (by decide +kernel) (pa_cons (pv 3) pa_nil)) (pe_op op_modI (pe_op op_divI (pv 6) pe_int) (pe_op op_addI (pe_callB call_len_seq (by rfl) B.len_ (by decide +kernel) (pa_cons (pv 3) pa_nil)) pe_int))))
      (pss_cons (ps_if (pt_cmpR op_gtI (pe_op op_modI (pe_op op_divI (pv 6) pe_int) pe_int) pe_int (by first | exact nomark _ | rfl))
        (pss_one (ps_set (i := 7) sc_l_labels.nd rfl (.inl rfl) (pe_callB call_len_seq (by rfl) B.len_ (by decide +kernel) (pa_cons (pv 3) pa_nil))))
        pss_nil)
      (pss_cons (ps_set (i := 8) sc_l_labels.nd rfl (.inl rfl) (pv 5))
      (pss_cons (ps_if (PW.pt (pw_and (pt_cmpR op_gtI (pv 7) pe_int (by first | exact nomark _ | rfl)) (pw_and1 (pt_cmpR op_geI (pe_op op_modI (pv 6) pe_int) (pe_ix ix_list (pe_lst (pa_cons pe_int (pa_cons pe_int (pa_cons pe_int (pa_cons pe_int pa_nil))))) (pe_op op_modI (pv 2) pe_int) (fun _ _ => rfl)) (by first | exact nomark _ | rfl)))))
        (pss_cons (ps_set (i := 8) sc_l_labels.nd rfl (.inl rfl) (pe_ix ix_list (pv 3) (pe_op op_subI (pv 7) pe_int) (fun _ _ => rfl)))
      (pss_one (ps_set (i := 3) sc_l_labels.nd rfl (.inl rfl) (pe_slice sl_list (pv 3) po_none (po_some (pv 7))))))
        (pss_one (ps_set (i := 3) sc_l_labels.nd rfl (.inl rfl) (pe_op op_cat (pv 3) (pe_lst (pa_cons (pv 5) pa_nil))))))
      (pss_one (ps_expr (pe_bm PySem.F.plainAttrs_list PySem.F.slot_list_append PySem.F.type_list_append mt_append (pv 4) (pa_cons (pv 8) pa_nil)))))))))))
      (pss_one (ps_ret (pv 4)))))), ?_⟩
  refine q_set (Beside.refl H) (EvF.dd (ef_lst ea_nil' (by simp))) fun vs Hb1 H1 eb1 e1 S1 rs => ?_
  refine q_setF S1 (ef_lst ea_nil' (by simp)) fun p xs Hb2 H2 hp eb2 e2 S2 hx rx => ?_
  have hx0 : xs = [] := by cases rx; rfl
  subst hx0
  refine q_forR S2 (ea_cons' (ed_vi rfl) ea_nil') (by omega) (fun i σ' H' => ∃ (sa : V) (L S : List Nat) (Hb : Hp) (y5 y6 y7 y8 : Option V), σ' = [some (.int n), some (.int c), some (.int o), some sa, some (.ref p), y5, y6, y7, y8] ∧ L.length = i ∧ CodeOf L S ∧ Ex H Hb ∧ Beside Hb [p] H' ∧ H' p = some (.lst (L.map fun x => V.int (x : Nat))) ∧ Rp Any Hb sa (dNats S)) (fun H3 e3 => ?_) (fun i σ' H' hi hP => ?_) (fun σ' H' hP => ?_)
  · exact ⟨vs, [], [], Hb2, none, none, none, none, rfl, rfl, codeOf_nil, eb1.trans eb2, S2.on e3, e3 _ _ hx, rs.mono eb2⟩
  · obtain ⟨sa, L, S, Hb, y5, y6, y7, y8, rfl, hL, hC, eb, SS, hpl, rsa⟩ := hP
    have hSl : S.length ≤ i := by
      have h1 : S.length ≤ L.length := by
        exact hC.len
      omega
    have hlen : (S.map fun x => Dt.int (x : Nat)).length = S.length := by rw [List.length_map]
    -- mixed
    refine q_setI SS (ed_CI (ed_II (ed_II (ed_vi rfl) (ed_CI ed_int (ed_vi rfl) (.inl ⟨by decide, by decide⟩))) (ed_CI (ed_CI (ed_vi rfl) (ed_vi rfl) (.inr ⟨by omega, by omega⟩)) (ed_vi rfl) (.inr ⟨by omega, by omega⟩))) ed_int (by decide)) fun H3 e3 S3 => ?_
    generalize hm1 : (c + 7919 * (i : Int) + o * (i : Int) * (i : Int)) % 2147483647 = m1
    have hm1a : 0 ≤ m1 ∧ m1 < 2147483647 := by omega
    refine q_setI S3 (ed_CI (ed_CI (ed_CI (ed_CI (ed_CI (ed_vi rfl) (ed_vi rfl) (.inl ⟨by omega, by omega⟩)) ed_int (by decide)) ed_int (.inr ⟨by decide, by decide⟩)) ed_int (by decide)) ed_int ⟨by decide, by decide⟩) fun H4 e4 S4 => ?_
    generalize hm2 : m1 * m1 % 2147483629 * 48271 % 2147483647 / 7 = m2
    have hm2a : 0 ≤ m2 := by omega
    -- kept
    refine q_setI S4 (ed_II (ed_lenL (ed_v rfl rsa)) (ed_CI (ed_CI (ed_vi rfl) ed_int ⟨by decide, by decide⟩) (ed_II (ed_lenL (ed_v rfl rsa)) ed_int) (by omega))) fun H5 e5 S5 => ?_
    rw [hlen]
    generalize hk1 : (S.length : Int) - m2 / 16 % ((S.length : Int) + 1) = k1
    have hk1a : 0 ≤ k1 ∧ k1 ≤ S.length := by
      have h1 := Int.emod_nonneg (m2 / 16) (show ((S.length : Int) + 1) ≠ 0 by omega)
      have h2 := Int.emod_lt_of_pos (m2 / 16) (show 0 < ((S.length : Int) + 1) by omega)
      omega
    refine q_ifSetI (m := k1) S5 (et_d (ed_IB (ed_CI (ed_CI (ed_vi rfl) ed_int ⟨by decide, by decide⟩) ed_int (by decide)) ed_int)) (fun _ => ed_lenL (ed_v rfl rsa)) (fun _ => rfl) fun H6 e6 S6 => ?_
    rw [hlen]
    generalize hk2 : (if decide (0 < m2 / 1024 % 3) = true then (S.length : Int) else k1) = k2
    have hk2a : 0 ≤ k2 ∧ k2 ≤ S.length := by
      rw [← hk2]; split <;> omega
    obtain ⟨k, rfl⟩ : ∃ k : Nat, k2 = (k : Int) := ⟨k2.toNat, by omega⟩
    -- label
    refine q_setI S6 (ed_vi rfl) fun H7 e7 S7 => ?_
    have e37 : Ex H' H7 := ((e3.trans e4).trans (e5.trans e6)).trans e7
    have hp7 := e37 _ _ hpl
    obtain ⟨z, hz⟩ : ∃ z : Int, atI ([.int 1, .int 5, .int 9, .int 15] : List Dt) (o % 4) = some (.int z) := by
      have h1 : o % 4 = 0 ∨ o % 4 = 1 ∨ o % 4 = 2 ∨ o % 4 = 3 := by omega
      rcases h1 with h | h | h | h <;> rw [h] <;> exact ⟨_, rfl⟩
    refine q_ifD S7 (et_and (et_d (ed_IB (ed_vi rfl) ed_int)) fun _ => et_d (ed_IB (ed_CI (ed_vi rfl) ed_int (by decide)) (ed_ixL (EvF.dd (ef_lst (ea_cons' ed_int (ea_cons' ed_int (ea_cons' ed_int (ea_cons' ed_int ea_nil')))) (by simp))) (ed_CI (ed_vi rfl) ed_int (by decide)) hz))) (fun hb H8 e8 S8 => ?_) fun hb H8 e8 S8 => ?_
    · have hk0 : 0 < k := by
        have := of_decide_eq_true (Bool.and_eq_true_iff.mp hb).1
        omega
      have hget : atI (S.map fun x => Dt.int (x : Nat)) ((k : Int) - 1) = some (.int (S.getD (k - 1) 0 : Nat)) := by
        rw [show (k : Int) - 1 = ((k - 1 : Nat) : Int) by omega]
        refine atI_nat ?_
        rw [List.getElem?_map, List.getD_eq_getElem?_getD, List.getElem?_eq_getElem (show k - 1 < S.length by omega)]; rfl
      refine q_setI S8 (ed_ixL (ed_v rfl rsa) (ed_II (ed_vi rfl) ed_int) hget) fun H9 e9 S9 => ?_
      refine EvF.dd (ef_slL (ed_v rfl rsa) eo_nil (eo_d (ed_vi rfl))) _ _ S9 _ fun v9 H10 e10 r10 => ?_
      have S10 := (S9.on e10).sep
      refine s_appD S10 (by simp) ((e8.trans (e9.trans e10)) _ _ hp7) rfl (ed_vi rfl) (by rw [List.length_map]; omega) fun v11 Hb11 H11 eb11 S11 _ hp11 r11 => ?_
      refine ⟨v9, L ++ [S.getD (k - 1) 0], S.take k, Hb11, _, _, _, _, rfl, by simp [hL], code_old hk0 (by omega) hC, (eb.trans (S9.lessEx e10)).trans eb11, S11, ?_, ?_⟩
      · rw [hp11, r11.intI, List.map_append]; rfl
      · have r12 := r10.mono eb11
        rw [cutD_to, ← List.map_take] at r12
        exact r12
    · refine EvF.dd (ef_cat (ed_v rfl rsa) (EvF.dd (ef_lst (ea_cons' (ed_vi rfl) ea_nil') (by simp))) (by simp; omega)) _ _ S8 _ fun v9 H10 e10 r10 => ?_
      have S10 := (S8.on e10).sep
      refine s_appD S10 (by simp) ((e8.trans e10) _ _ hp7) rfl (ed_vi rfl) (by rw [List.length_map]; omega) fun v11 Hb11 H11 eb11 S11 _ hp11 r11 => ?_
      refine ⟨v9, L ++ [L.length], S ++ [L.length], Hb11, _, _, _, _, rfl, by simp [hL], code_new hC, (eb.trans (S8.lessEx e10)).trans eb11, S11, ?_, ?_⟩
      · rw [hp11, r11.intI, List.map_append, hL]; rfl
      · have r12 := r10.mono eb11
        rw [hL]
        have e0 : (S.map fun x => Dt.int (x : Nat)) ++ [Dt.int (i : Nat)] = (S ++ [i]).map fun x => Dt.int (x : Nat) := by rw [List.map_append]; rfl
        rw [e0] at r12
        exact r12
  · obtain ⟨sa, L, S, Hb, y5, y6, y7, y8, rfl, hL, hC, eb, SS, hpl, rsa⟩ := hP
    obtain ⟨cc, hcc, rfl, rfl⟩ := hC
    refine ⟨.ref p, rfl, q (dNats (labD [] 0 cc)) (.ref p) H' ⟨cc, (labD_length (P := []) (p := 0)).symm.trans hL, hcc, rfl⟩ (eb.trans SS.ex) (.lst (fresh_back e1 hp) hpl ?_)⟩
    rw [nats_ints, natV_ints]
    exact RpL.ints _
end
end Nc

namespace Nc
open PySem PySem.Spec PyProof.Rows L2 Evl
section
variable {P : Program} {w : World} {K : PySem.W.Frag} {mg : Str → Option Value} {base : Heap} {f : Addr} {fd : FuncData}
theorem ok_l_groups (F : Fun K "_law_groups" "_law_groups" s_l_groups f fd) (B : Blt mg) : FnOk P w K mg base CX0 1 f fd ["_law_labels_here"] sp_l_groups := by
  refine F.ok sc_l_groups (fun vs H Q E h => h.1) (fun cdv A outer s H vs Q E hr h => ?_)
  obtain ⟨len, ds, r, ⟨L, hds, hL⟩, q⟩ := h
  obtain ⟨v, d, rfl, rfl, r1⟩ := args1 len r
  obtain rfl : d = dInts L := by simpa using hds
  have q' : ∀ (v : V) (H' : Hp), Ex H H' → Rp (Fresh H) H' v (dGrps (gI L)) → Q v H' := fun v H' e r => q v H' e (by
    show Rp (Fresh H) H' v (dGrps (gI (dInts L).ints))
    rw [ints_dInts]; exact r)
  have hlen : (L.map Dt.int).length = L.length := by rw [List.length_map]
  refine ⟨_, (pss_cons (ps_set (i := 1) sc_l_groups.nd rfl (.inl rfl) (pe_lst pa_nil))
      (pss_cons (ps_for PassesOwn.never rfl (pi_range1 (by rfl) B.range_ (pa_cons (pe_callB call_len_seq (by rfl) B.len_ (by decide +kernel) (pa_cons (pv 0) pa_nil)) pa_nil)) (pg_name (i := 2) sc_l_groups.nd rfl (.inr rfl))
        (pss_one (ps_if (pt_cmpR op_notIn_seq (pe_ix ix_list (pv 0) (pv 2) (fun _ _ => rfl)) (pe_slice sl_list (pv 0) po_none (po_some (pv 2))) (by first | exact nomark _ | rfl))
        (pss_cons (ps_setLc (i := 3) (own := [("_law_place", 4)]) (g := (gName 4)) (tt := (tTest (tOp rEq (tOp (rIxL K) (tVar 0) (tVar 4)) (tOp (rIxL K) (tVar 0) (tVar 2))))) (te := (tVar 4)) rfl sc_l_groups.nd rfl rfl (sw_true rfl rfl rfl (by decide +kernel)) (pi_range1 (by rfl) B.range_ (pa_cons (pe_callB call_len_seq (by rfl) B.len_ (by decide +kernel) (pa_cons (pv 0) pa_nil)) pa_nil)) (blkOk_by (N := ["_law_labels_here", "_law_found", "_law_first", "_law_group", "_law_place"]) (sc := defScope s_l_groups) (by decide +kernel)) (fun _ _ _ _ _ => (pg_name (i := 4) sc_l_groups.nd rfl (.inl rfl))) (fun _ _ _ _ _ => (pts_one (pt_cmpR op_eq (pe_ix ix_list (pv 0) (pv 4) (fun _ _ => rfl)) (pe_ix ix_list (pv 0) (pv 2) (fun _ _ => rfl)) (by first | exact nomark _ | rfl)))) (fun _ _ _ _ _ => (pv 4)))
      (pss_one (ps_expr (pe_bm PySem.F.plainAttrs_list PySem.F.slot_list_append PySem.F.type_list_append mt_append (pv 1) (pa_cons (pe_callTy call_tuple_of (by rfl) B.tuple_ (by decide +kernel) (pa_cons (pv 3) pa_nil)) pa_nil)))))
        pss_nil)))
      (pss_one (ps_ret (pv 1))))), ?_⟩
  refine q_setF (Beside.refl H) (ef_lst ea_nil' (by simp)) fun p xs Hb1 H1 hp eb1 e1 S1 hx rx => ?_
  have hx0 : xs = [] := by cases rx; rfl
  subst hx0
  have r2 := r1.mono eb1
  refine q_forR (n := L.length) S1 (by have := ea_cons' (ed_lenL (K := K) (ed_v (σ := [some v, some (.ref p), none, none, none]) (i := 0) rfl r2)) ea_nil'; rw [hlen] at this; exact this) (by omega)
    (fun i σ' H' => ∃ (xs : List V) (Hb : Hp) (y2 y3 y4 : Option V), σ' = [some v, some (.ref p), y2, y3, y4] ∧ Ex Hb1 Hb ∧ Beside Hb [p] H' ∧ H' p = some (.lst xs) ∧ RpL Any Hb xs ((gUp (li L) L.length i).map dGrp)) (fun H3 e3 => ?_) (fun i σ' H' hi hP => ?_) (fun σ' H' hP => ?_)
  · exact ⟨[], Hb1, none, none, none, rfl, Ex.refl _, S1.on e3, e3 _ _ hx, .nil⟩
  · obtain ⟨xs, Hb, y2, y3, y4, rfl, eb, SS, hpl, rx⟩ := hP
    have r3 := r2.mono eb
    refine s_ifN SS (et_d (ed_niL (ns := L.take i) (ed_ixL (ed_v rfl r3) (ed_vi rfl) (atI_li hi)) ((EvF.dd (ef_slL (ed_v rfl r3) eo_nil (eo_d (ed_vi rfl)))).as ?_))) (fun hb H4 e4 S4 => ?_) fun hb H4 e4 S4 => ?_
    · rw [cutD_to]; unfold dInts; rw [List.map_take]
    · have hf : firstB (li L) i = true := by rw [firstB_li (by omega)]; exact hb
      refine q_set S4 (EvF.dd (ef_lcR1 (n := L.length) (fun j => decide (li L j = li L i)) (fun j => .int (j : Int)) (by have := ea_cons' (ed_lenL (K := K) (ed_v (σ := [some v, some (.ref p), some (.int (i : Int)), y3, y4]) (i := 0) rfl r3)) ea_nil'; rw [hlen] at this; exact this) (by omega) (fun x => rfl)
        (fun j H5 e5 hj => et_d (ed_eqI (ed_ixL (ed_v rfl (r3.mono e5)) (ed_vi rfl) (atI_li hj)) (ed_ixL (ed_v rfl (r3.mono e5)) (ed_vi rfl) (atI_li hi)))) (fun j H5 e5 hj _ => ed_vi rfl))) fun v5 Hb5 H5 eb5 e5 S5 r5 => ?_
      refine s_appD S5 (by simp) ((e4.trans e5) _ _ hpl) rfl (ed_tuple (ed_v rfl r5)) (by rw [rx.length, List.length_map]; have := gUp_len (li L) L.length i; omega) fun v6 Hb6 H6 eb6 S6 _ hp6 r6 => ?_
      refine ⟨xs ++ [v6], Hb6, _, _, _, rfl, (eb.trans eb5).trans eb6, S6, hp6, ?_⟩
      rw [gUp_next, if_pos hf, List.map_append]
      exact (rx.mono (eb5.trans eb6)).append (.one r6)
    · have hf : ¬ firstB (li L) i = true := by rw [firstB_li (by omega)]; rw [hb]; exact Bool.false_ne_true
      refine ⟨xs, Hb, _, _, _, rfl, eb, S4, e4 _ _ hpl, ?_⟩
      rw [gUp_next, if_neg hf]
      exact rx
  · obtain ⟨xs, Hb, y2, y3, y4, rfl, eb, SS, hpl, rx⟩ := hP
    exact ⟨.ref p, rfl, q' (.ref p) H' ((eb1.trans eb).trans SS.ex) (.lst hp hpl ((rx.mono SS.ex).flat (flats_grps _)))⟩
theorem ok_l_tie (F : Fun K "_law_tie" "_law_tie" s_l_tie f fd) (B : Blt mg) (C_l_groups : Callee P w K mg base CX0 1 "_law_groups" ["_law_labels_here"] sp_l_groups) : FnOk P w K mg base CX0 2 f fd ["_law_labels_here"] sp_l_tie := by
  refine F.ok sc_l_tie (fun vs H Q E h => h.1) (fun cdv A outer s H vs Q E hr h => ?_)
  obtain ⟨len, ds, r, ⟨L, hds, hL⟩, q⟩ := h
  obtain ⟨v, d, rfl, rfl, r1⟩ := args1 len r
  obtain rfl : d = dInts L := by simpa using hds
  refine ⟨_, (pss_one (ps_ret (pe_tup (pa_cons (pe_callB call_len_seq (by rfl) B.len_ (by decide +kernel) (pa_cons (pv 0) pa_nil)) (pa_cons (pe_fn C_l_groups (hr.mono (by decide)) (by rfl) pass0 (pa_cons (pv 0) pa_nil)) pa_nil))))), ?_⟩
  refine s_retN (Beside.refl H) (en_tup (en_cons (EvD.nn (ed_lenL (ed_v rfl r1)) rfl) (en_cons (en_call (ea_cons' (ed_v rfl r1) ea_nil') ⟨L, rfl, hL⟩ rfl) en_nil)) (by simp)) fun v2 H2 e2 r2 => q v2 H2 e2 ?_
  show Rp (Fresh H) H2 v2 (dTie (dInts L).ints.length (gI (dInts L).ints))
  have e3 : Dt.tup [Dt.int ((L.map Dt.int).length : Int), dGrps (gI (dInts L).ints)] = dTie (dInts L).ints.length (gI (dInts L).ints) := by
    rw [ints_dInts, List.length_map]; rfl
  rw [← e3]
  exact r2
theorem ok_l_is (F : Fun K "_law_is" "_law_is" s_l_is f fd) (B : Blt mg) (C_l_groups : Callee P w K mg base CX0 1 "_law_groups" ["_law_labels_here"] sp_l_groups) (C_l_whole : Callee P w K mg base CX0 1 "_law_whole" ["_law_found"] sp_l_whole) : FnOk P w K mg base CX0 2 f fd ["_law_found", "_law_labels_here"] sp_l_is := by
  refine F.ok sc_l_is (fun vs H Q E h => h.1) (fun cdv A outer s H vs Q E hr h => ?_)
  obtain ⟨len, ds, r, ⟨m, gs, L, hds, hL, hgs, hg⟩, q⟩ := h
  obtain ⟨v, d, v2, d2, rfl, rfl, r1, r2⟩ := args2 len r
  obtain ⟨rfl, rfl⟩ : d = dTie m gs ∧ d2 = dInts L := by simpa using hds
  have q' : ∀ (v : V) (H' : Hp), Ex H H' → Rp (Fresh H) H' v (.bl (decide (m = L.length ∧ gs = gI L))) → Q v H' := fun v H' e r => q v H' e (by
    show Rp (Fresh H) H' v (.bl (decide ((dTie m gs).many = (dInts L).ints.length ∧ (dTie m gs).grps = gI (dInts L).ints)))
    rw [ints_dInts, many_dTie, grps_dTie]; exact r)
  have h0 : atI ([.int m, dGrps gs] : List Dt) 0 = some (.int (m : Int)) := rfl
  have h1 : atI ([.int m, dGrps gs] : List Dt) 1 = some (dGrps gs) := rfl
  refine ⟨_, (pss_cons (ps_if (PW.pt (pw_or (pt_not (pt_val (pe_callB call_isi (by rfl) B.isinstance_ (by decide +kernel) (pa_cons (pv 0) (pa_cons (pe_bltn (v := .ty "tuple") (by rfl) B.tuple_ bt_tuple rfl) pa_nil))))) (pw_or (pt_cmpR op_ne (pe_callB call_len_seq (by rfl) B.len_ (by decide +kernel) (pa_cons (pv 0) pa_nil)) pe_int (by first | exact nomark _ | rfl)) (pw_or (pt_not (pt_val (pe_fn C_l_whole (hr.mono (by decide)) (by rfl) pass0 (pa_cons (pe_ix ix_tup (pv 0) pe_int (fun _ _ => rfl)) pa_nil)))) (pw_or1 (pt_not (pt_val (pe_callB call_isi (by rfl) B.isinstance_ (by decide +kernel) (pa_cons (pe_ix ix_tup (pv 0) pe_int (fun _ _ => rfl)) (pa_cons (pe_bltn (v := .ty "list") (by rfl) B.list_ bt_list rfl) pa_nil))))))))))
        (pss_one (ps_ret pe_bl))
        pss_nil)
      (pss_cons (ps_for PassesOwn.never rfl (pi_list (pe_ix ix_tup (pv 0) pe_int (fun _ _ => rfl))) (pg_name (i := 2) sc_l_is.nd rfl (.inl rfl))
        (pss_one (ps_if (PW.pt (pw_or (pt_not (pt_val (pe_callB call_isi (by rfl) B.isinstance_ (by decide +kernel) (pa_cons (pv 2) (pa_cons (pe_bltn (v := .ty "tuple") (by rfl) B.tuple_ bt_tuple rfl) pa_nil))))) (pw_or1 (pt_cmpR (op_neD hr.units) (pe_lc (own := [("_law_place", 3)]) (g := (gName 3)) (tt := (tNot (tB (tCall sp_l_whole [] E0 (tCons (tVar 3) tNil))))) (te := (tVar 3)) rfl sc_l_is.nd (pi_tup (pv 2)) (blkOk_by (N := ["_law_found", "_law_labels_here", "_law_group", "_law_place"]) (sc := defScope s_l_is) (by decide +kernel)) (fun _ _ _ _ _ => (pg_name (i := 3) sc_l_is.nd rfl (.inl rfl))) (fun _ _ _ _ _ => (pts_one (pt_not (pt_val (pe_fn C_l_whole (hr.mono (by decide)) (by rfl) pass0 (pa_cons (pv 3) pa_nil)))))) (fun _ _ _ _ _ => (pv 3))) (pe_lst pa_nil) (by first | exact nomark _ | rfl)))))
        (pss_one (ps_ret pe_bl))
        pss_nil)))
      (pss_one (ps_ret (pe_and (pe_cmpR op_eq (pe_ix ix_tup (pv 0) pe_int (fun _ _ => rfl)) (pe_callB call_len_seq (by rfl) B.len_ (by decide +kernel) (pa_cons (pv 1) pa_nil)) (by first | exact nomark _ | rfl)) (pe_one (pe_cmpR (op_eqD hr.units) (pe_ix ix_tup (pv 0) pe_int (fun _ _ => rfl)) (pe_fn C_l_groups (hr.mono (by decide)) (by rfl) pass0 (pa_cons (pv 1) pa_nil)) (by first | exact nomark _ | rfl)))))))), ?_⟩
  refine q_ifN (Beside.refl H) (et_or (a := false) (et_not (a := true) (et_dB (ed_isi (ed_v rfl r1) (kit_tuple _)))) fun _ => et_or (a := false) (et_is (et_d (ed_neI (ed_lenT (ed_v rfl r1)) ed_int)) rfl) fun _ => et_or (a := false) (et_not (a := true) (et_dB (ed_call (ea_cons' (ed_ixT (ed_v rfl r1) ed_int h0) ea_nil') trivial rfl))) fun _ => et_not (a := true) (et_dB (ed_isi (ed_ixT (ed_v rfl r1) ed_int h1) (kit_list _)))) (fun hb => nomatch hb) fun hb H1 e1 S1 => ?_
  refine q_forL S1 (ed_ixT (ed_v rfl r1) ed_int h1) fun Hb1 H2 eb1 e2 S2 => ⟨fun i σ' H' => ∃ y2 y3, σ' = [some v, some v2, y2, y3] ∧ Ex Hb1 H', ⟨none, none, rfl, S2.ex⟩, fun i σ' H' hP => hP.choose_spec.choose_spec.2, fun i d x σ' H' hi rx hP => ?_, fun σ' H' hP => ?_⟩
  · obtain ⟨y2, y3, rfl, eb⟩ := hP
    obtain ⟨g, hgi, rfl⟩ : ∃ g, gs[i]? = some g ∧ d = dGrp g := by
      rw [List.getElem?_map] at hi
      cases hh : gs[i]? with
      | none => rw [hh] at hi; simp at hi
      | some g => rw [hh] at hi; exact ⟨g, rfl, (Option.some.inj hi).symm⟩
    have hgl := hg g (List.mem_of_getElem? hgi)
    have S3 : Beside Hb1 [] H' := ⟨eb, fun a h => by simp at h⟩
    have hst : stepsD (g.map fun x => Dt.int (x : Nat)).length (fun _ => false) (fun i => .non) = [] := by
      unfold stepsD
      rw [List.filter_eq_nil_iff.mpr (by simp)]; rfl
    refine s_ifN S3 (et_or (a := false) (et_not (a := true) (et_dB (ed_isi (ed_v rfl rx) (kit_tuple _)))) fun _ => et_d (ed_neD (d := .lst []) (e := .lst []) (b := false) ((EvF.dd (ef_lcT (ds := g.map fun x => Dt.int (x : Nat)) (fun _ => false) (fun i => .non) (ed_v rfl rx) (by rw [List.length_map]; omega) (fun x => rfl) (fun j d x H5 e5 hj rx5 => ?_) (fun j d x H5 e5 hj rx5 hf => nomatch hf))).as (by rw [hst])) (EvF.dd (ef_lst ea_nil' (by simp))) ⟨rfl, rfl, by decide⟩ ⟨rfl, rfl, by decide⟩ (by simp))) (fun hb => nomatch hb) fun hb H4 e4 S4 => ?_
    · refine et_not (a := true) ?_
      obtain ⟨z, rfl⟩ : ∃ z : Nat, d = .int (z : Int) := by
        rw [List.getElem?_map] at hj
        cases hh : g[j]? with
        | none => rw [hh] at hj; simp at hj
        | some z => rw [hh] at hj; exact ⟨z, (Option.some.inj hj).symm⟩
      exact et_dB (ed_call (ea_cons' (ed_v rfl rx5) ea_nil') trivial rfl)
    · exact ⟨_, _, rfl, eb.trans e4⟩
  · obtain ⟨y2, y3, rfl, eb⟩ := hP
    have eH : Ex H H' := eb1.trans eb
    refine s_retN (⟨eH, fun a h => by simp at h⟩ : Beside H [] H') (EvD.nn (ed_and (a := decide (m = L.length)) (b := decide (gs = gI L)) ((ed_eqI (ed_ixT (ed_v rfl r1) ed_int h0) (ed_lenL (ed_v rfl r2))).as ?_) fun _ => ed_eqD (ed_ixT (ed_v rfl r1) ed_int h1) ((ed_call (ea_cons' (ed_v rfl r2) ea_nil') ⟨L, rfl, hL⟩ rfl).as (d' := dGrps (gI L)) ?_) (fit_grps _) (fit_grps _) (by rw [decide_eq_true_iff, dGrps_inj])) rfl) fun v3 H3 e3 r3 => q' v3 H3 (eH.trans e3) ?_
    · rw [List.length_map]
      congr 1
      rw [decide_eq_decide]
      exact Int.ofNat_inj
    · show dGrps (gI (dInts L).ints) = _
      rw [ints_dInts]
    · rw [← Bool.decide_and] at r3
      exact r3.flat rfl
end
end Nc

namespace Nc
open PySem PySem.Spec PyProof.Rows L2 Evl
section
variable {P : Program} {w : World} {K : PySem.W.Frag} {mg : Str → Option Value} {base : Heap} {f : Addr} {fd : FuncData}
theorem ok_leaders (F : Fun K "leaders" "leaders" s_leaders f fd) (B : Blt mg) : FnOk P w K mg base CX0 1 f fd ["tie"] sp_leaders := by
  refine F.ok sc_leaders (fun vs H Q E h => h.1) (fun cdv A outer s H vs Q E hr h => ?_)
  obtain ⟨len, ds, r, ⟨n, gs, hds, hn, hg⟩, q⟩ := h
  obtain ⟨v, d, rfl, rfl, r1⟩ := args1 len r
  obtain rfl : d = dTie n gs := by simpa using hds
  have q' : ∀ (v : V) (H' : Hp), Ex H H' → Rp (Fresh H) H' v (dNats (leadersM n gs)) → Q v H' := fun v H' e r => q v H' e (by
    show Rp (Fresh H) H' v (dNats (leadersM (dTie n gs).many (dTie n gs).grps))
    rw [grps_dTie, many_dTie]; exact r)
  refine ⟨_, (pss_cons (ps_asg (pv 0) (pg_tup rfl (pgs_cons (pg_name (i := 1) sc_leaders.nd rfl (.inl rfl)) (pgs_cons (pg_name (i := 2) sc_leaders.nd rfl (.inl rfl)) pgs_nil))))
      (pss_cons (ps_set (i := 3) sc_leaders.nd rfl (.inl rfl) (pe_op op_rep (pe_lst (pa_cons pe_int pa_nil)) (pv 1)))
      (pss_cons (ps_for PassesOwn.never rfl (pi_list (pv 2)) (pg_name (i := 4) sc_leaders.nd rfl (.inl rfl))
        (pss_one (ps_for PassesOwn.never rfl (pi_tup (pv 4)) (pg_name (i := 5) sc_leaders.nd rfl (.inl rfl))
        (pss_one (ps_asg (pe_ix ix_tup (pv 4) pe_int (fun _ _ => rfl)) (pg_sub (pv 3) (pv 5) set_list))))))
      (pss_one (ps_ret (pv 3)))))), ?_⟩
  refine q_unp2 (Beside.refl H) (ed_v rfl r1) fun v1 v2 Hb1 H1 eb1 e1 S1 q1 q2 => ?_
  obtain rfl := q1.intI
  refine q_setF S1 (ef_rep (EvF.dd (ef_lst (ea_cons' ed_int ea_nil') (by simp))) (ed_vi rfl) rfl (by omega)) fun p xs Hb2 H2 hp eb2 e2 S2 hx rx => ?_
  have hxs : xs = (List.replicate n 0).map fun x => V.int ((x : Nat) : Int) := by
    have : List.replicate n (Dt.int 0) = (ofN (List.replicate n 0)).map Dt.int := by unfold ofN; rw [List.map_map, List.map_replicate]; rfl
    rw [this] at rx
    have := rx.ofInts
    rw [this]; unfold ofN; rw [List.map_map]; rfl
  subst hxs
  refine q_forL S2 (ed_v rfl (q2.mono eb2)) fun Hb3 H3 eb3 e3 S3 => ⟨fun i σ' H' => ∃ (Hb : Hp) (y4 y5 : Option V), σ' = [some v, some (.int n), some v2, some (.ref p), y4, y5] ∧ Ex Hb3 Hb ∧ Beside Hb [p] H' ∧ H' p = some (.lst (((gs.take i).foldl (fun a g => setAll a g (g.headD 0)) (List.replicate n 0)).map fun x => V.int ((x : Nat) : Int))), ⟨Hb3, none, none, rfl, Ex.refl _, S3, e3 _ _ hx⟩, fun i σ' H' hP => by obtain ⟨Hb, y4, y5, _, h1, h2, _⟩ := hP; exact h1.trans h2.ex, fun i d x σ' H' hi rx hP => ?_, fun σ' H' hP => ?_⟩
  · obtain ⟨Hb, y4, y5, rfl, eb, SS, hpl⟩ := hP
    obtain ⟨g, hgi, rfl⟩ : ∃ g, gs[i]? = some g ∧ d = dGrp g := by
      rw [List.getElem?_map] at hi
      cases hh : gs[i]? with
      | none => rw [hh] at hi; simp at hi
      | some g => rw [hh] at hi; exact ⟨g, rfl, (Option.some.inj hi).symm⟩
    obtain ⟨hg0, hgn⟩ := hg g (List.mem_of_getElem? hgi)
    obtain ⟨g0, gr, rfl⟩ : ∃ a r, g = a :: r := by
      cases g with
      | nil => exact absurd rfl hg0
      | cons a r => exact ⟨a, r, rfl⟩
    generalize hacc : (gs.take i).foldl (fun a g => setAll a g (g.headD 0)) (List.replicate n 0) = acc at hpl
    have hal : acc.length = n := by
      have := leadersM_length n (gs.take i)
      unfold leadersM at this
      rw [hacc] at this; exact this
    refine s_forT SS (ed_v rfl (rx.mono eb)) fun Hb4 H4 eb4 e4 S4 => ⟨fun j σ' H' => ∃ (Hb : Hp) (y5 : Option V), σ' = [some v, some (.int n), some v2, some (.ref p), some x, y5] ∧ Ex Hb4 Hb ∧ Beside Hb [p] H' ∧ H' p = some (.lst ((setAll acc ((g0 :: gr).take j) g0).map fun x => V.int ((x : Nat) : Int))), ⟨Hb4, y5, rfl, Ex.refl _, S4, e4 _ _ hpl⟩, fun i σ' H' hP => by obtain ⟨Hb, y5, _, h1, h2, _⟩ := hP; exact h1.trans h2.ex, fun j d2 x2 σ' H' hj rx2 hP => ?_, fun σ' H' hP => ?_⟩
    · obtain ⟨Hb5, y5, rfl, eb5, S5, hp5⟩ := hP
      obtain ⟨z, hz, rfl⟩ : ∃ z : Nat, (g0 :: gr)[j]? = some z ∧ d2 = .int (z : Int) := by
        rw [List.getElem?_map] at hj
        cases hh : (g0 :: gr)[j]? with
        | none => rw [hh] at hj; simp at hj
        | some z => rw [hh] at hj; exact ⟨z, rfl, (Option.some.inj hj).symm⟩
      obtain rfl := rx2.intI
      have hzn := hgn z (List.mem_of_getElem? hz)
      refine s_putD S5 (by simp) hp5 rfl (ed_ixT (ed_v rfl ((rx.mono eb).mono (eb4.trans eb5))) ed_int (show atI ((g0 :: gr).map fun x => Dt.int (x : Nat)) 0 = some (.int (g0 : Nat)) from atI_nat (j := 0) rfl)) (ed_vi rfl) (by rw [List.length_map, setAll_length, hal]; exact hzn) fun v6 Hb6 H6 eb6 S6 _ hp6 r6 => ?_
      refine ⟨Hb6, _, rfl, eb5.trans eb6, S6, ?_⟩
      rw [hp6, r6.intI]
      have e7 : (g0 :: gr).take (j + 1) = (g0 :: gr).take j ++ [z] := by rw [List.take_add_one, hz]; rfl
      rw [e7]
      unfold setAll
      rw [List.foldl_append, List.foldl_cons, List.foldl_nil, List.map_set]
    · obtain ⟨Hb5, y5, rfl, eb5, S5, hp5⟩ := hP
      refine ⟨Hb5, _, _, rfl, eb.trans (eb4.trans eb5), S5, ?_⟩
      rw [List.length_map, List.take_length] at hp5
      rw [hp5, List.take_add_one, hgi, List.foldl_append, hacc]
      rfl
  · obtain ⟨Hb, y4, y5, rfl, eb, SS, hpl⟩ := hP
    rw [List.length_map, List.take_length] at hpl
    refine ⟨.ref p, rfl, q' (.ref p) H' ((eb1.trans (eb2.trans (eb3.trans eb))).trans SS.ex) (.lst (fresh_back e1 hp) hpl ?_)⟩
    have h1 := nats_ints (leadersM n gs)
    have h2 := natV_ints (leadersM n gs)
    show RpL (Fresh H) H' ((leadersM n gs).map fun x => V.int (x : Nat)) ((leadersM n gs).map fun x => Dt.int (x : Nat))
    rw [h1, h2]
    exact RpL.ints _
end
end Nc

namespace Nc
open PySem PySem.Spec PyProof.Rows L2 Evl
section
variable {P : Program} {w : World} {K : PySem.W.Frag} {mg : Str → Option Value} {base : Heap} {f : Addr} {fd : FuncData}
theorem ok_check_count (F : Fun K "check_count" "check_count" s_check_count f fd) (B : Blt mg) {t : Tok} (g_MOST : mg "MOST" = some (.int 60 t)) (x_BadCount : ExcT K mg "BadCount" (clO mg "BadCount")) (C_is_whole : Callee P w K mg base CX0 1 "is_whole" ["value"] sp_is_whole) : FnOk P w K mg base (L2.CX P w) 2 f fd ["many"] (sp_check_countE mg) := by
  refine F.okX sc_check_count (fun vs H Q E h => h.1) (fun cdv A outer s H vs Q E hr h => ?_)
  obtain ⟨len, ds, r, ⟨c, hds⟩, q, qe⟩ := h
  obtain ⟨v, d, rfl, rfl, r1⟩ := args1 len r
  obtain rfl : d = c := by simpa using hds
  refine ⟨_, (pss_one (ps_if (PW.pt (pw_or (pt_not (pt_val (pe_fn C_is_whole (hr.mono (by decide)) (by rfl) pass0 (pa_cons (pv 0) pa_nil)))) (pw_or (pt_cmpR op_ltI (pv 0) pe_int (by first | exact nomark _ | rfl)) (pw_or1 (pt_cmpR op_gtI (pv 0) (pe_glob (v := .int 60) (by rfl) g_MOST ⟨_, rfl⟩) (by first | exact nomark _ | rfl))))))
        (pss_one (ps_rzF x_BadCount (takes_of rfl rfl rfl rfl) (by rfl) rfl (pe_joined (PJ.cons pe_str (PJ.cons (pe_fmt (pe_glob (v := .int 60) (by rfl) g_MOST ⟨_, rfl⟩)) PJ.nil)))))
        pss_nil)), ?_⟩
  have bad : cntOk d = none → ∀ H', Ex H H' → E (.ref (clO mg "BadCount")) none H' := fun hc H' e => qe "BadCount" (cntX_none hc) H' e
  refine s_ifN (b := !(cntOk d).isSome) (Beside.refl H) ?T (fun hb H4 e4 S4 => ?_) fun hb H4 e4 S4 => ?_
  case T =>
    by_cases hi : ∃ i, d = .int i
    · obtain ⟨i, rfl⟩ := hi
      obtain rfl := r1.intI
      have e : (!(cntOk (.int i)).isSome) = (false || (decide (i < 1) || decide (60 < i))) := by
        unfold cntOk
        dsimp only
        by_cases h : 1 ≤ i ∧ i ≤ 60
        · rw [if_pos h, decide_eq_false (by omega), decide_eq_false (by omega)]; rfl
        · rw [if_neg h]
          by_cases h1 : i < 1
          · rw [decide_eq_true h1]; rfl
          · rw [decide_eq_false h1, decide_eq_true (by omega)]; rfl
      rw [e]
      exact et_or (et_not (a := true) (et_dB (ed_call (ea_cons' (ed_vi rfl) ea_nil') trivial rfl))) fun _ => et_or (et_d (ed_IB (ed_vi rfl) ed_int)) fun _ => et_d (ed_IB (ed_vi rfl) ed_int)
    · have e : (!(cntOk d).isSome) = true := by
        cases d <;> first | rfl | exact absurd ⟨_, rfl⟩ hi
      rw [e]
      have hI : d.isI = false := by cases d <;> first | rfl | exact absurd ⟨_, rfl⟩ hi
      have hw : EvD (tCall sp_is_whole [] E0 (tCons (tVar 0) tNil)) (start ["many"] [v]) H (.bl d.isI) := ed_call (ea_cons' (ed_v rfl r1) ea_nil') trivial rfl
      rw [hI] at hw
      exact et_or (a := true) (b := true) (et_not (a := false) (et_dB hw)) fun z => nomatch z
  · refine ea_cons' (ed_fs (s1 := "the count of places is no whole number from 1 to ") (i := 60) ed_int (by decide) (by decide) (by decide)) ea_nil' [] H4 S4 _ fun vs H5 e5 r5 => ⟨by rw [r5.length]; decide, bad (by simpa using hb) H5 (e4.trans e5)⟩
  · have : ∃ n, cntOk d = some n := Option.isSome_iff_exists.mp (by simpa using hb)
    obtain ⟨n, hn⟩ := this
    exact q .non (cntX_some hn) .non H4 e4 .non
theorem et_place {n : Nat} {d : Dt} {v : V} {H : Hp} {y1 : Option V} (r1 : Rp Any H v d) : EvT (tOr (tNot (tB (tCall sp_is_whole [] E0 (tCons (tVar 2) tNil)))) (tOr (tTest (tOp rLtI (tVar 2) (tC (.int 0)))) (tTest (tOp rGeI (tVar 2) (tVar 0))))) [some (.int n), y1, some v] H (!(plOk n d).isSome) := by
  by_cases hi : ∃ i, d = .int i
  · obtain ⟨i, rfl⟩ := hi
    obtain rfl := r1.intI
    have e : (!(plOk n (.int i)).isSome) = (false || (decide (i < 0) || decide ((n : Int) ≤ i))) := by
      unfold plOk
      dsimp only
      by_cases h : 0 ≤ i ∧ i < (n : Int)
      · rw [if_pos h, decide_eq_false (by omega), decide_eq_false (by omega)]; rfl
      · rw [if_neg h]
        by_cases h1 : i < 0
        · rw [decide_eq_true h1]; rfl
        · rw [decide_eq_false h1, decide_eq_true (by omega)]; rfl
    rw [e]
    exact et_or (et_not (a := true) (et_dB (ed_call (ea_cons' (ed_vi rfl) ea_nil') trivial rfl))) fun _ => et_or (et_d (ed_IB (ed_vi rfl) ed_int)) fun _ => et_d (ed_IB (ed_vi rfl) (ed_vi rfl))
  · have e : (!(plOk n d).isSome) = true := by
      cases d <;> first | rfl | exact absurd ⟨_, rfl⟩ hi
    rw [e]
    have hI : d.isI = false := by cases d <;> first | rfl | exact absurd ⟨_, rfl⟩ hi
    have hw : EvD (tCall sp_is_whole [] E0 (tCons (tVar 2) tNil)) [some (.int n), y1, some v] H (.bl d.isI) := ed_call (ea_cons' (ed_v rfl r1) ea_nil') trivial rfl
    rw [hI] at hw
    exact et_or (a := true) (b := true) (et_not (a := false) (et_dB hw)) fun z => nomatch z
end
end Nc

namespace Nc
open PySem PySem.Spec PyProof.Rows L2 Evl
section
variable {P : Program} {w : World} {K : PySem.W.Frag} {mg : Str → Option Value} {base : Heap} {f : Addr} {fd : FuncData}
theorem ok__endings (F : Fun K "_endings" "_endings" s__endings f fd) (B : Blt mg) (b_comb : mg "comb" = some (.builtin "math.comb")) : FnOk P w K mg base CX0 1 f fd ["left", "deep"] sp__endings := by
  refine F.ok sc__endings (fun vs H Q E h => h.1) (fun cdv A outer s H vs Q E hr h => ?_)
  obtain ⟨len, ds, r, ⟨l, dp, hds, hl, hd⟩, q⟩ := h
  obtain ⟨v, d, v2, d2, rfl, rfl, r1, r2⟩ := args2 len r
  obtain ⟨rfl, rfl⟩ : d = .int l ∧ d2 = .int dp := by simpa using hds
  obtain rfl := r1.intI
  obtain rfl := r2.intI
  refine ⟨_, (pss_one (ps_ret (pe_op op_divI (pe_op op_mulI (pe_op op_addI (pv 1) pe_int) (pe_callBfun cr_comb (by rfl) b_comb (pa_cons (pe_op op_addI (pe_op op_mulI pe_int (pv 0)) (pv 1)) (pa_cons (pv 0) pa_nil)))) (pe_op op_addI (pe_op op_addI (pv 0) (pv 1)) pe_int)))), ?_⟩
  exact s_retN (Beside.refl H) (EvD.nn (ed_CI (ed_CI (ed_II (ed_vi rfl) ed_int) (ed_comb (ed_II (ed_CI ed_int (ed_vi rfl) (.inl ⟨by decide, by decide⟩)) (ed_vi rfl)) (ed_vi rfl) (by omega) (by omega) (by omega)) (.inl ⟨by omega, by omega⟩)) (ed_II (ed_II (ed_vi rfl) (ed_vi rfl)) ed_int) ⟨by omega, by omega⟩) rfl) fun v9 H9 e9 r9 => q v9 H9 e9 r9
theorem ok_counted (F : Fun K "counted" "counted" s_counted f fd) (B : Blt mg) (C_check_count : Callee P w K mg base (L2.CX P w) 2 "check_count" ["many"] (sp_check_countE mg)) (C__endings : Callee P w K mg base CX0 1 "_endings" ["left", "deep"] sp__endings) : FnOk P w K mg base (L2.CX P w) 3 f fd ["many"] (sp_counted mg) := by
  refine F.okX sc_counted (fun vs H Q E h => h.1) (fun cdv A outer s H vs Q E hr h => ?_)
  obtain ⟨len, ds, r, ⟨c, hds⟩, q, qe⟩ := h
  obtain ⟨v, d, rfl, rfl, r1⟩ := args1 len r
  obtain rfl : d = c := by simpa using hds
  refine ⟨_, (pss_cons (ps_expr (pe_fn C_check_count (hr.mono (by decide)) (by rfl) (passE (takes_of rfl rfl rfl rfl)) (pa_cons (pv 0) pa_nil)))
      (pss_one (ps_ret (pe_fn C__endings (hr.mono (by decide)) (by rfl) pass0 (pa_cons (pv 0) (pa_cons pe_int pa_nil)))))), ?_⟩
  refine q_dropX (Beside.refl H) (ex_call (ea_cons' (ed_v rfl r1) ea_nil') ⟨_, rfl⟩ rfl) (fun o ho H1 e1 S1 => ?_) fun x hx H1 e1 => ?_
  · have ho' : cntX d = .ok o := ho
    obtain ⟨n, hc⟩ : ∃ n, cntOk d = some n := by
      cases hc : cntOk d with
      | none => rw [cntX_none hc] at ho'; cases ho'
      | some n => exact ⟨n, rfl⟩
    obtain ⟨rfl, h1, h2⟩ := cntOk_some hc
    obtain rfl := r1.intI
    refine s_retN S1 (en_call (ea_cons' (ed_vi rfl) (ea_cons' ed_int ea_nil')) ⟨n, 0, rfl, by omega, by omega⟩ rfl) fun v9 H9 e9 r9 => q (.int (catI n)) (by show cntdX (.int (n : Nat)) = _; unfold cntdX; rw [hc]) v9 H9 (e1.trans e9) (r9.wk fun a h => fresh_back e1 h)
  · have hx' : cntX d = .error x := hx
    refine qe x ?_ H1 e1
    show cntdX d = _
    unfold cntdX
    cases hc : cntOk d with
    | none => rw [cntX_none hc] at hx'; cases hx'; rfl
    | some n => rw [cntX_some hc] at hx'; cases hx'
end
end Nc

namespace Nc
open PySem PySem.Spec PyProof.Rows L2 Evl
-- 1
def preE (l d : Int) : Prop := 0 ≤ l ∧ l ≤ 200 ∧ 0 ≤ d ∧ d ≤ 200
def gE (l d : Int) : Int := endI l.toNat d.toNat
theorem calm__endings {P : Program} {w : World} {K : PySem.W.Frag} {mg : Str → Option Value} {f : Addr} {fd : FuncData} (F : Fun K "_endings" "_endings" s__endings f fd) (hm : mg "_endings" = some (.ref f)) (b_comb : mg "comb" = some (.builtin "math.comb")) : Calm2 P w K mg "_endings" preE gE := by
  obtain ⟨oc, od, kV, doc, pm, an, cdv, ct, osl, rfl, lk, hcd⟩ := F.ex
  refine ⟨f, hm, F.kp, fun A s a b t u Q E hA hD hK hl hns hp q => ?_⟩
  obtain ⟨ha0, ha1, hb0, hb1⟩ := hp
  obtain ⟨l, rfl⟩ : ∃ l : Nat, a = (l : Int) := ⟨a.toNat, by omega⟩
  obtain ⟨d, rfl⟩ : ∃ d : Nat, b = (d : Int) := ⟨b.toNat, by omega⟩
  refine wpAny_call (codeAny_mono (R := fun r s' => ∃ t', r = .ok (.ret (.int (gE l d) t')) ∧ Keeps s s') ?_ fun r s' h => ?_)
  rotate_left
  · obtain ⟨t', rfl, k⟩ := h
    exact q t' s' k
  refine Att.call_fn hK hl lk hcd hD (binds := [("left", .int (l : Int) t), ("deep", .int (d : Int) u)]) (.of_eq (by rfl)) (by rfl) (fun s1 x => ?_) rfl rfl rfl
  generalize hE : envOfC "_endings" (defScope s__endings) s.heap.objs.size f cdv = env at x
  have kl : env.kindOf "left" = some .local := by rw [← hE]; rfl
  have kd : env.kindOf "deep" = some .local := by rw [← hE]; rfl
  have kc : env.kindOf "comb" = some .globalImplicit := by rw [← hE]; rfl
  have kk : env.scope.kind = .function := by rw [← hE]; rfl
  have kg : env.globals = mainGlobals := by rw [← hE]; rfl
  have hL : env.locals = s.heap.objs.size := by rw [← hE]; rfl
  have keep1 := x.toInCall.keep
  obtain ⟨h1, tk1, same⟩ := x.toInCall.same
  have hn : s1.heap.Ns env.locals (bindL env.kindOf [("left", .int (l : Int) t), ("deep", .int (d : Int) u)] fun _ => none) := by rw [hL]; exact x.toInCall.ns
  have ml : bindL env.kindOf [("left", .int (l : Int) t), ("deep", .int (d : Int) u)] (fun _ => none) "left" = some (.int (l : Int) t) := by rw [← hE]; rfl
  have md : bindL env.kindOf [("left", .int (l : Int) t), ("deep", .int (d : Int) u)] (fun _ => none) "deep" = some (.int (d : Int) u) := by rw [← hE]; rfl
  generalize (bindL env.kindOf [("left", .int (l : Int) t), ("deep", .int (d : Int) u)] fun _ => none) = m at hn ml md
  clear x hE
  have ldl : ∀ {A2 : Around} {E2 : Value → Shared → Prop} {Q2 : Value → Shared → Prop} {k : Nat} {p : Pos}, Q2 (.int (l : Int) t) { s1 with toks := k } → wpAny (model P w) A2 (eval (.Name "left" p) env) Q2 E2 { s1 with toks := k } := fun {A2 E2 Q2 k p} h => wpAny_Name (wpAny_loadName_local kk kl hn ml h)
  have ldd : ∀ {A2 : Around} {E2 : Value → Shared → Prop} {Q2 : Value → Shared → Prop} {k : Nat} {p : Pos}, Q2 (.int (d : Int) u) { s1 with toks := k } → wpAny (model P w) A2 (eval (.Name "deep" p) env) Q2 E2 { s1 with toks := k } := fun {A2 E2 Q2 k p} h => wpAny_Name (wpAny_loadName_local kk kd hn md h)
  have fin : ∀ k t', ∃ t2, (.ok (.ret (.int (gE l d) t')) : Result) = .ok (.ret (.int (gE l d) t2)) ∧ Keeps s { s1 with toks := k } := fun k t' => ⟨t', rfl, h1, k, by rw [same], fun b o e => by have := keep1 b o e; rw [same] at this; exact this⟩
  have hd : gE (l : Int) (d : Int) = ((d : Int) + 1) * PySem.W.mcComb (2 * (l : Int) + d) l / ((l : Int) + d + 1) := by
    unfold gE endI
    rw [Int.toNat_natCast, Int.toNat_natCast]
  refine wpAny_execs_cons (wpAny_Return_some ?_)
  show wpAny _ _ _ _ _ { s1 with toks := s1.toks }
  refine wpAny_BinOp (wpAny_BinOp (wpAny_BinOp (ldd (wpAny_Constant_int (add_int ?_)))))
  refine wpAny_Call_Name_kw (Calls.Name_function_global kk kc (Calls.loadGlobal_global (by rw [kg]; exact hns.keeps keep1) b_comb ?_))
  refine PyProof.Rows.callWith_builtin1 ?_
  refine Calls.spliced_cons (wpAny_BinOp (wpAny_BinOp (wpAny_Constant_int (ldl (mul_int (ldd (add_int ?_)) (CMul.ok (.inl ⟨by decide, by decide⟩)))))))
  refine Calls.spliced_cons (ldl ?_)
  refine Calls.spliced_nil ?_
  refine PySem.W.mc_comb (by omega) (by omega) (by omega) (.inl (by omega)) fun _ => ?_
  refine mul_int ?_ (CMul.ok (.inl ⟨by omega, by omega⟩))
  refine wpAny_BinOp (wpAny_BinOp (ldl (ldd (add_int (wpAny_Constant_int (add_int ?_))))))
  refine floordiv_int (by omega) ?_ (.inl (PyProof.noPylong_small (by omega)))
  rw [Int.fdiv_eq_ediv_of_nonneg _ (by omega), ← hd]
  exact fin _ _
end Nc

namespace Nc
open PySem PySem.Spec PyProof.Rows L2 Evl
section
variable {P : Program} {w : World} {K : PySem.W.Frag} {mg : Str → Option Value} {base : Heap} {f : Addr} {fd : FuncData}
theorem ok_gathered (F : Fun K "gathered" "gathered" s_gathered f fd) (B : Blt mg) : FnOk P w K mg base CX0 1 f fd ["marks"] sp_gathered := by
  refine F.ok sc_gathered (fun vs H Q E h => h.1) (fun cdv A outer s H vs Q E hr h => ?_)
  obtain ⟨len, ds, r, ⟨L, hds, hL⟩, q⟩ := h
  obtain ⟨v, d, rfl, rfl, r1⟩ := args1 len r
  obtain rfl : d = dInts L := by simpa using hds
  have q' : ∀ (v : V) (H' : Hp), Ex H H' → Rp (Fresh H) H' v (dTie L.length (gI L)) → Q v H' := fun v H' e r => q v H' e (by
    show Rp (Fresh H) H' v (dTie (dInts L).ints.length (gI (dInts L).ints))
    rw [ints_dInts]; exact r)
  have hlen : (L.map Dt.int).length = L.length := by rw [List.length_map]
  refine ⟨_, (pss_cons (ps_set (i := 1) sc_gathered.nd rfl (.inl rfl) pe_dnewK)
      (pss_cons (ps_for PassesOwn.never rfl (pi_enum (by rfl) B.enumerate_ (pa_cons (pv 0) pa_nil)) (pg_tup rfl (pgs_cons (pg_name (i := 2) sc_gathered.nd rfl (.inl rfl)) (pgs_cons (pg_name (i := 3) sc_gathered.nd rfl (.inl rfl)) pgs_nil)))
        (pss_one (ps_expr (pe_bm PySem.F.plainAttrs_list PySem.F.slot_list_append PySem.F.type_list_append mt_append (pe_dsetd (pv 1) (pv 3) (pe_lst pa_nil) ⟨rfl, rfl, rfl, rfl⟩) (pa_cons (pv 2) pa_nil)))))
      (pss_one (ps_ret (pe_tup (pa_cons (pe_callB call_len_seq (by rfl) B.len_ (by decide +kernel) (pa_cons (pv 0) pa_nil)) (pa_cons (pe_lock (pe_lc (own := [("group", 4)]) (g := (gName 4)) (tt := tYes) (te := (tCB (rTupleS K) (tCons (tVar 4) tNil))) rfl sc_gathered.nd (pi_values (pv 1)) (blkOk_by (N := ["marks", "groups", "place", "mark", "group"]) (sc := defScope s_gathered) (by decide +kernel)) (fun _ _ _ _ _ => (pg_name (i := 4) sc_gathered.nd rfl (.inl rfl))) (fun _ _ _ _ _ => pts_nil) (fun _ _ _ _ _ => (pe_callTy call_tuple_of (by rfl) B.tuple_ (by decide +kernel) (pa_cons (pv 4) pa_nil))))) pa_nil))))))), ?_⟩
  intro dd hdd
  have hdd : H dd = none := hdd
  have e0 : Ex H (upd H dd (.dK [])) := Ex.new hdd
  refine q_forEV rfl r1 e0 (fun i σ' H' => ∃ pa y2 y3, σ' = [some v, some (.ref dd), y2, y3, none] ∧ Gth (fun i : Int => Sum.inl i) (li L) H dd i pa H') ⟨_, _, _, rfl, gth_start hdd (Ex.refl _)⟩ (fun i σ' H' hP => hP.choose_spec.choose_spec.choose_spec.2.ex) (fun i d x σ' H' hi rx hP H2 e2 => ?_) (fun σ' H' hP => ?_)
  · obtain ⟨pa, y2, y3, rfl, G⟩ := hP
    obtain ⟨z, hz, rfl⟩ : ∃ z : Int, L[i]? = some z ∧ d = .int z := by
      rw [List.getElem?_map] at hi
      cases hh : L[i]? with
      | none => rw [hh] at hi; simp at hi
      | some z => rw [hh] at hi; exact ⟨z, rfl, (Option.some.inj hi).symm⟩
    obtain rfl := rx.intI
    have hil : i < L.length := (List.getElem?_eq_some_iff.mp hz).1
    have hzi : z = li L i := by
      have := li_get hil
      rw [hz] at this
      exact Option.some.inj this
    subst hzi
    exact gth_step (f := li L) (fun a b e => Sum.inl.inj e) (G.on e2) (by omega) rfl rfl rfl fun pa' H3 G3 => ⟨pa', _, _, rfl, G3⟩
  · obtain ⟨pa, y2, y3, rfl, G⟩ := hP
    rw [hlen] at G
    refine s_retTup2 (ed_lenL (ed_v rfl (r1.mono G.ex))).int fun H2 e2 => ?_
    rw [hlen]
    refine gth_end (G.on e2) (by omega) rfl (fun x => rfl) (fun x => rfl) fun D H3 e3 r3 => ⟨sz_of (by simp), fun p hp => q' (.ref p) _ (e3.trans (Ex.new hp)) (.tup upd_same (.cons (.int _) (.cons (r3.mono (Ex.new hp)) .nil)))⟩
end
end Nc

namespace Nc
open PySem PySem.Spec PyProof.Rows L2 Evl
section
variable {P : Program} {w : World} {K : PySem.W.Frag} {mg : Str → Option Value} {base : Heap} {f : Addr} {fd : FuncData}
theorem ok_l_flat (F : Fun K "_law_flat" "_law_flat" s_l_flat f fd) (B : Blt mg) : FnOk P w K mg base CX0 1 f fd ["_law_tie_here"] sp_l_flat := by
  refine F.ok sc_l_flat (fun vs H Q E h => h.1) (fun cdv A outer s H vs Q E hr h => ?_)
  obtain ⟨len, ds, r, ⟨n, gs, hds, hn, hgl, hg⟩, q⟩ := h
  obtain ⟨v, d, rfl, rfl, r1⟩ := args1 len r
  obtain rfl : d = dTie n gs := by simpa using hds
  have q' : ∀ (v : V) (H' : Hp), Ex H H' → Rp (Fresh H) H' v (dInts (flatI n gs)) → Q v H' := fun v H' e r => q v H' e (by
    show Rp (Fresh H) H' v (dInts (flatI (dTie n gs).many (dTie n gs).grps))
    rw [many_dTie, grps_dTie]; exact r)
  have h0 : atI ([.int n, dGrps gs] : List Dt) 0 = some (.int (n : Int)) := rfl
  have h1 : atI ([.int n, dGrps gs] : List Dt) 1 = some (dGrps gs) := rfl
  refine ⟨_, (pss_cons (ps_set (i := 1) sc_l_flat.nd rfl (.inl rfl) (pe_op op_rep (pe_lst (pa_cons (pe_un un_negI pe_int) pa_nil)) (pe_ix ix_tup (pv 0) pe_int (fun _ _ => rfl))))
      (pss_cons (ps_for PassesOwn.never rfl (pi_enum (by rfl) B.enumerate_ (pa_cons (pe_ix ix_tup (pv 0) pe_int (fun _ _ => rfl)) pa_nil)) (pg_tup rfl (pgs_cons (pg_name (i := 2) sc_l_flat.nd rfl (.inl rfl)) (pgs_cons (pg_name (i := 3) sc_l_flat.nd rfl (.inl rfl)) pgs_nil)))
        (pss_one (ps_for PassesOwn.never rfl (pi_tup (pv 3)) (pg_name (i := 4) sc_l_flat.nd rfl (.inl rfl))
        (pss_one (ps_asg (pv 2) (pg_sub (pv 1) (pv 4) set_list))))))
      (pss_one (ps_ret (pv 1))))), ?_⟩
  refine q_setF (Beside.refl H) (ef_rep (n := n) (EvF.dd (ef_lst (ea_cons' (ed_neg ed_int) ea_nil') (by simp))) (ed_ixT (ed_v rfl r1) ed_int h0) rfl (by omega)) fun p xs Hb2 H2 hp eb2 e2 S2 hx rx => ?_
  have hxs : xs = (flatUp n gs 0).map V.int := by
    have e : List.replicate n (Dt.int (-1)) = (flatUp n gs 0).map Dt.int := by show _ = (List.replicate n (-1 : Int)).map Dt.int; rw [List.map_replicate]
    rw [e] at rx
    exact rx.ofInts
  subst hxs
  refine q_forE S2 (ea_cons' (ed_ixT (ed_v rfl (r1.mono eb2)) ed_int h1) ea_nil') fun Hb3 H3 eb3 e3 S3 => ⟨fun i σ' H' => ∃ (Hb : Hp) (y2 y3 y4 : Option V), σ' = [some v, some (.ref p), y2, y3, y4] ∧ Ex Hb3 Hb ∧ Beside Hb [p] H' ∧ H' p = some (.lst ((flatUp n gs i).map V.int)), ⟨Hb3, none, none, none, rfl, Ex.refl _, S3, e3 _ _ hx⟩, fun i σ' H' hP => by obtain ⟨Hb, _, _, _, _, h1, h2, _⟩ := hP; exact h1.trans h2.ex, fun i d x σ' H' hi rx hP H4 e4 => ?_, fun σ' H' hP => ?_⟩
  · obtain ⟨Hb, y2, y3, y4, rfl, eb, SS, hpl⟩ := hP
    obtain ⟨g, hgi, rfl⟩ : ∃ g, gs[i]? = some g ∧ d = dGrp g := by
      rw [List.getElem?_map] at hi
      cases hh : gs[i]? with
      | none => rw [hh] at hi; simp at hi
      | some g => rw [hh] at hi; exact ⟨g, rfl, (Option.some.inj hi).symm⟩
    have hgn := hg g (List.mem_of_getElem? hgi)
    have hgd : gs.getD i [] = g := by rw [List.getD_eq_getElem?_getD, hgi]; rfl
    have hfl := flatUp_length n gs i
    have hnx : flatUp n gs (i + 1) = setAllI (flatUp n gs i) g (i : Int) := by show setAllI _ (gs.getD i []) _ = _; rw [hgd]
    refine s_forT (SS.on e4) (ed_v rfl (rx.mono eb)) fun Hb5 H5 eb5 e5 S5 => ⟨fun j σ' H' => ∃ (Hb : Hp) (y4 : Option V), σ' = [some v, some (.ref p), some (.int i), some x, y4] ∧ Ex Hb5 Hb ∧ Beside Hb [p] H' ∧ H' p = some (.lst ((setAllI (flatUp n gs i) (g.take j) (i : Int)).map V.int)), ⟨Hb5, y4, rfl, Ex.refl _, S5, e5 _ _ (e4 _ _ hpl)⟩, fun i σ' H' hP => by obtain ⟨Hb, _, _, h1, h2, _⟩ := hP; exact h1.trans h2.ex, fun j d2 x2 σ' H' hj rx2 hP => ?_, fun σ' H' hP => ?_⟩
    · obtain ⟨Hb6, y4, rfl, eb6, S6, hp6⟩ := hP
      obtain ⟨z, hz, rfl⟩ : ∃ z : Nat, g[j]? = some z ∧ d2 = .int (z : Int) := by
        rw [List.getElem?_map] at hj
        cases hh : g[j]? with
        | none => rw [hh] at hj; simp at hj
        | some z => rw [hh] at hj; exact ⟨z, rfl, (Option.some.inj hj).symm⟩
      obtain rfl := rx2.intI
      refine s_putD S6 (by simp) hp6 rfl (ed_vi rfl) (ed_vi rfl) (by rw [List.length_map, setAllI_length, hfl]; exact hgn z (List.mem_of_getElem? hz)) fun v7 Hb7 H7 eb7 S7 _ hp7 r7 => ?_
      refine ⟨Hb7, _, rfl, eb6.trans eb7, S7, ?_⟩
      rw [hp7, r7.intI]
      have e7 : g.take (j + 1) = g.take j ++ [z] := by rw [List.take_add_one, hz]; rfl
      rw [e7]
      unfold setAllI
      rw [List.foldl_append, List.foldl_cons, List.foldl_nil, List.map_set]
    · obtain ⟨Hb6, y4, rfl, eb6, S6, hp6⟩ := hP
      rw [List.length_map, List.take_length] at hp6
      exact ⟨Hb6, _, _, _, rfl, eb.trans (eb5.trans eb6), S6, by rw [hnx]; exact hp6⟩
  · obtain ⟨Hb, y2, y3, y4, rfl, eb, SS, hpl⟩ := hP
    rw [List.length_map] at hpl
    exact ⟨.ref p, rfl, q' (.ref p) H' ((eb2.trans (eb3.trans eb)).trans SS.ex) (.lst hp hpl (RpL.ints _))⟩
end
end Nc

namespace Nc
open PySem PySem.Spec PyProof.Rows L2 Evl
theorem ed_sumG {σ : L2.St} {Hb : Hp} {te : TE} {T : Addr} {j n : Nat} {l : Int} {pre : Int → Int → Prop} {g : Int → Int → Int} (ht : EvD te σ Hb (.int (n : Nat))) (hn : n ≤ 100000) (hj : σ[j]? = some (some (.int l))) (hT : Hb T = some (tblO T)) (hp : ∀ i : Nat, i < n → pre l ((i : Int) + 1)) : EvD (tSumG T j pre g te) σ Hb (.int (sumTo (fun i => g l ((i : Int) + 1)) n)) := fun F H S Q q =>
  ht.thn S fun x H2 e2 S2 rx => by
    rw [rx.intI]
    exact ⟨l, n, rfl, hn, hj, (S.ex.trans e2) _ _ hT, hp, q _ H2 e2 (.int _)⟩
theorem sumTo_sE (l m : Nat) : sumTo (fun i => gE ((l : Nat) : Int) ((i : Int) + 1)) m = sE l m := by
  have : (fun i : Nat => gE ((l : Nat) : Int) ((i : Int) + 1)) = fun i => endI l (i + 1) := by
    funext i
    unfold gE
    rw [Int.toNat_natCast, show (((i : Int) + 1)).toNat = i + 1 by omega]
  rw [this]; rfl
section
variable {P : Program} {w : World} {K : PySem.W.Frag} {mg : Str → Option Value} {base : Heap} {f : Addr} {fd : FuncData}
theorem ok_number_of {c T : Addr} (TB : LamX.TabB base mg c T) (F : FunC K "number_of" "number_of" s_number_of f fd c T) (B : Blt mg) (Z__endings : Calm2 P w K mg "_endings" preE gE) (C_leaders : Callee P w K mg base CX0 1 "leaders" ["tie"] sp_leaders) : FnOk P w K mg base CX0 2 f fd ["tie"] (spT T sp_number_of) := by
  refine F.ok sc_number_of (fun vs H Q E h => h.2.1) (fun A outer s H vs Q E hr h => ?_)
  obtain ⟨hT, len, ds, r, ⟨n, gs, hds, hol, hn60⟩, q⟩ := h
  obtain ⟨v, d, rfl, rfl, r1⟩ := args1 len r
  obtain rfl : d = dTie n gs := by simpa using hds
  have q' : ∀ (z : Int) (H' : Hp), Ex H H' → z = numP n [] 0 (leadersM n gs) → Q (.int z) H' := fun z H' e hz => q _ H' e (by
    show Rp (Fresh H) H' (.int z) (.int (numP (dTie n gs).many [] 0 (leadersM (dTie n gs).many (dTie n gs).grps)))
    rw [grps_dTie, many_dTie, hz]; exact .int _)
  have hLl := leadersM_length n gs
  generalize hL : leadersM n gs = L at q' hLl
  refine ⟨_, (pss_cons (ps_set (i := 1) sc_number_of.nd rfl (.inl rfl) (pe_ix ix_tup (pv 0) pe_int (fun _ _ => rfl)))
      (pss_cons (ps_set (i := 2) sc_number_of.nd rfl (.inl rfl) pe_int)
      (pss_cons (ps_set (i := 3) sc_number_of.nd rfl (.inl rfl) (pe_lst pa_nil))
      (pss_cons (ps_for PassesOwn.never rfl (pi_enum (by rfl) B.enumerate_ (pa_cons (pe_fn C_leaders (hr.mono (by decide)) (by rfl) pass0 (pa_cons (pv 0) pa_nil)) pa_nil)) (pg_tup rfl (pgs_cons (pg_name (i := 4) sc_number_of.nd rfl (.inl rfl)) (pgs_cons (pg_name (i := 5) sc_number_of.nd rfl (.inr rfl)) pgs_nil)))
        (pss_cons (ps_set (i := 6) sc_number_of.nd rfl (.inr rfl) (pe_op op_subI (pe_op op_subI (pv 1) (pv 4)) pe_int))
      (pss_cons (ps_setLc (i := 3) (own := [("lower", 7)]) (g := (gName 7)) (tt := (tTest (tOp rLtI (tVar 7) (tVar 5)))) (te := (tVar 7)) rfl sc_number_of.nd rfl rfl (sw_true rfl rfl rfl (by decide +kernel)) (pi_list (pv 3)) (blkOk_by (N := ["tie", "many", "number", "pile", "place", "first", "left", "lower"]) (sc := defScope s_number_of) (by decide +kernel)) (fun _ _ _ _ _ => (pg_name (i := 7) sc_number_of.nd rfl (.inl rfl))) (fun _ _ _ _ _ => (pts_one (pt_cmpR op_ltI (pv 7) (pv 5) (by first | exact nomark _ | rfl)))) (fun _ _ _ _ _ => (pv 7)))
      (pss_cons (ps_aug (i := 2) sc_number_of.nd rfl (.inl rfl) (pe_sumG (j := 6) hr (by rfl) B.sum_ (by rfl) B.range_ TB rfl (genS_by (by decide +kernel)) Z__endings (pe_callB call_len_seq (by rfl) B.len_ (by decide +kernel) (pa_cons (pv 3) pa_nil))) ip_add)
      (pss_one (ps_expr (pe_bm PySem.F.plainAttrs_list PySem.F.slot_list_append PySem.F.type_list_append mt_append (pv 3) (pa_cons (pv 5) pa_nil))))))))
      (pss_one (ps_ret (pv 2))))))), ?_⟩
  refine q_setI (n := (n : Nat)) (Beside.refl H) (ed_ixT (ed_v rfl r1) ed_int (rfl : atI ([.int n, dGrps gs] : List Dt) 0 = some (.int n))) fun H1 e1 S1 => ?_
  refine q_setI (n := 0) S1 ed_int fun H2 e2 S2 => ?_
  refine q_set S2 ((EvF.dd (ef_lst ea_nil' (by simp))).as (d' := dNats []) rfl) fun vp Hb3 H3 eb3 e3 S3 rp => ?_
  refine q_forE S3 (ea_cons' ((ed_call (ea_cons' (ed_v rfl (r1.mono eb3)) ea_nil') ⟨n, gs, rfl, hol⟩ rfl).as (d' := dNats L) (by
    show dNats (leadersM (dTie n gs).many (dTie n gs).grps) = _
    rw [grps_dTie, many_dTie, hL])) ea_nil') fun Hb4 H4 eb4 e4 S4 => ⟨fun i σ' H' => ∃ (vp : V) (y4 y5 y6 : Option V) (Pl : List Nat) (z : Int), σ' = [some v, some (.int (n : Nat)), some (.int z), some vp, y4, y5, y6, none] ∧ Ex Hb4 H' ∧ Rp Any H' vp (dNats Pl) ∧ Pl.length ≤ i ∧ z + numP n Pl i (L.drop i) = numP n [] 0 L, ⟨vp, none, none, none, [], 0, rfl, S4.ex, (rp.mono eb4).mono S4.ex, Nat.zero_le _, by rw [List.drop_zero]; omega⟩, fun i σ' H' hP => by obtain ⟨_, _, _, _, _, _, _, h, _⟩ := hP; exact h, fun i d x σ' H' hi rx hP H5 e5 => ?_, fun σ' H' hP => ?_⟩
  · obtain ⟨vp, y4, y5, y6, Pl, z, rfl, ex, rp, hPl, hz⟩ := hP
    obtain ⟨x0, hx0, rfl⟩ := nat_row' hi
    obtain rfl := rx.intI
    have hil := (List.getElem?_eq_some_iff.mp hx0).1
    have hdrop : L.drop i = x0 :: L.drop (i + 1) := by
      rw [List.drop_eq_getElem_cons hil]
      congr 1
      exact (List.getElem?_eq_some_iff.mp hx0).2
    have rp := rp.mono e5
    have ex := ex.trans e5
    have hT5 : H5 T = some (tblO T) := ((eb3.trans eb4).trans ex) T _ hT
    refine q_setI (n := ((n - i - 1 : Nat) : Int)) (Beside.refl H5) ((ed_II (ed_II (ed_vi rfl) (ed_vi rfl)) ed_int).as (congrArg Dt.int (by omega))) fun H6 e6 S6 => ?_
    have hst : stepsD (Pl.map fun x => Dt.int ((x : Nat) : Int)).length (fun j => decide (Pl.getD j 0 < x0)) (fun j => Dt.int (Pl.getD j 0 : Nat)) = (Pl.filter fun y => decide (y < x0)).map fun x => Dt.int ((x : Nat) : Int) := by
      rw [List.length_map]
      exact stepsD_list (L := Pl) (P := fun y => decide (y < x0)) (G := fun y => Dt.int ((y : Nat) : Int)) (fun j x hj => by rw [List.getD_eq_getElem?_getD, hj]; rfl) (fun j x hj _ => by rw [List.getD_eq_getElem?_getD, hj]; rfl)
    have hlc := ef_lcL (K := K) (σ := [some v, some (.int (n : Nat)), some (.int z), some vp, some (.int (i : Nat)), some (.int (x0 : Nat)), some (.int ((n - i - 1 : Nat) : Int)), none]) (Hb := H5) (te := tVar 7) (tl := tVar 3) (t := tTest (tOp rLtI (tVar 7) (tVar 5))) (j := 7) (vs := [7]) (ds := Pl.map fun x => Dt.int ((x : Nat) : Int)) (fun j => decide (Pl.getD j 0 < x0)) (fun j => Dt.int (Pl.getD j 0 : Nat)) (ed_v rfl rp) (by rw [List.length_map]; omega) (fun x => rfl) (fun j d y H7 e7 hj ry => by
      obtain ⟨y0, hy0, rfl⟩ := nat_row' hj
      obtain rfl := ry.intI
      refine et_is (et_d (ed_IB (ed_vi rfl) (ed_vi rfl))) ?_
      rw [List.getD_eq_getElem?_getD, hy0]
      show decide (((y0 : Nat) : Int) < ((x0 : Nat) : Int)) = decide (y0 < x0)
      rw [decide_eq_decide]; omega) (fun j d y H7 e7 hj ry _ => by
      obtain ⟨y0, hy0, rfl⟩ := nat_row' hj
      refine (ed_v rfl ry).as ?_
      rw [List.getD_eq_getElem?_getD, hy0]; rfl)
    rw [hst] at hlc
    refine q_setF S6 hlc fun p xs Hb7 H7 hp eb7 e7 S7 hxp rxs => ?_
    have hT7 : Hb7 T = some (tblO T) := eb7 T _ hT5
    generalize hf : (Pl.filter fun y => decide (y < x0)) = Q2 at rxs
    have hQl : Q2.length ≤ i := by
      rw [← hf]
      exact Nat.le_trans (List.length_filter_le _ _) hPl
    have hxs : xs = Q2.map fun x => V.int ((x : Nat) : Int) := by
      rw [nats_ints] at rxs
      rw [natV_ints]
      exact rxs.ofInts
    subst hxs
    have lenE : EvD (tCB (rLenS K) (tCons (tVar 3) tNil)) [some v, some (.int (n : Nat)), some (.int z), some (.ref p), some (.int (i : Nat)), some (.int (x0 : Nat)), some (.int ((n - i - 1 : Nat) : Int)), none] H7 (.int (Q2.length : Nat)) := by
      have rQ : Rp Any H7 (.ref p) (dNats Q2) := .lst trivial hxp (by
        show RpL Any H7 (Q2.map fun x => V.int ((x : Nat) : Int)) (Q2.map fun x => Dt.int ((x : Nat) : Int))
        rw [nats_ints, natV_ints]
        exact RpL.ints _)
      have := ed_lenL (K := K) (ed_v (σ := [some v, some (.int (n : Nat)), some (.int z), some (.ref p), some (.int (i : Nat)), some (.int (x0 : Nat)), some (.int ((n - i - 1 : Nat) : Int)), none]) (i := 3) rfl rQ)
      rwa [List.length_map] at this
    refine q_augI (a := z) (Beside.refl H7) rfl ((ed_sumG (j := 6) (l := ((n - i - 1 : Nat) : Int)) (pre := preE) (g := gE) lenE (by omega) rfl (S7.ex T _ hT7) (fun j hj => by unfold preE; omega)).as (d' := .int (sE (n - i - 1) Q2.length)) (congrArg Dt.int (sumTo_sE _ _))) fun H8 e8 S8 => ?_
    refine s_appD (S7.on e8) (by simp) (e8 _ _ hxp) rfl (ed_vi rfl) (by rw [List.length_map]; omega) fun v9 Hb9 H9 eb9 S9 same hp9 r9 => ?_
    rw [r9.intI] at hp9
    refine ⟨.ref p, _, _, _, Q2 ++ [x0], z + sE (n - i - 1) Q2.length, rfl, (ex.trans (eb7.trans eb9)).trans S9.ex, .lst trivial hp9 ?_, by rw [List.length_append]; simp; omega, ?_⟩
    · have : (Q2.map fun x => V.int ((x : Nat) : Int)) ++ [V.int ((x0 : Nat) : Int)] = (Q2 ++ [x0]).map fun x => V.int ((x : Nat) : Int) := by rw [List.map_append]; rfl
      rw [this]
      show RpL Any H9 ((Q2 ++ [x0]).map fun x => V.int ((x : Nat) : Int)) ((Q2 ++ [x0]).map fun x => Dt.int ((x : Nat) : Int))
      rw [nats_ints, natV_ints]
      exact RpL.ints _
    · rw [hdrop] at hz
      have : numP n Pl i (x0 :: L.drop (i + 1)) = sE (n - i - 1) (Pl.filter fun y => decide (y < x0)).length + numP n (Pl.filter (fun y => decide (y < x0)) ++ [x0]) (i + 1) (L.drop (i + 1)) := rfl
      rw [this, hf] at hz
      omega
  · obtain ⟨vp, y4, y5, y6, Pl, z, rfl, ex, rp, hPl, hz⟩ := hP
    rw [List.length_map, List.drop_length] at hz
    refine s_retD (Beside.refl H') (ed_vi rfl) fun v9 H9 e9 r9 => ?_
    rw [r9.intI]
    refine q' z H9 (((eb3.trans eb4).trans ex).trans e9) ?_
    rw [← hz]
    show z = z + 0
    omega
end
end Nc

namespace Nc
open PySem PySem.Spec PyProof.Rows L2 Evl
section
variable {P : Program} {w : World} {K : PySem.W.Frag} {mg : Str → Option Value} {base : Heap} {f : Addr} {fd : FuncData}
theorem atI_getK {ds : List Dt} {k : Nat} (h : k < ds.length) : atI ds ((k : Nat) : Int) = ds[k]? := by
  unfold atI
  rw [ixN_nat h]; rfl
theorem ok_tie_of (F : Fun K "tie_of" "tie_of" s_tie_of f fd) (B : Blt mg) (x_NoNumber : ExcT K mg "NoNumber" (clO mg "NoNumber")) (C_check_count : Callee P w K mg base (L2.CX P w) 2 "check_count" ["many"] (sp_check_countE mg)) (C_is_whole : Callee P w K mg base CX0 1 "is_whole" ["value"] sp_is_whole) (C_counted : Callee P w K mg base (L2.CX P w) 3 "counted" ["many"] (sp_counted mg)) (C__endings : Callee P w K mg base CX0 1 "_endings" ["left", "deep"] sp__endings) (C_gathered : Callee P w K mg base CX0 1 "gathered" ["marks"] sp_gathered) : FnOk P w K mg base (L2.CX P w) 4 f fd ["many", "number"] (sp_tie_ofK mg) := by
  refine F.okX sc_tie_of (fun vs H Q E h => h.1) (fun cdv A outer s H vs Q E hr h => ?_)
  obtain ⟨len, ds, r, ⟨n, i, hds, h1, h2, hi⟩, q, qe⟩ := h
  obtain ⟨v, d, v2, d2, rfl, rfl, r1, r2⟩ := args2 len r
  clear len r
  obtain ⟨rfl, rfl⟩ : d = .int n ∧ d2 = .int i := by simpa using hds
  obtain rfl := r1.intI
  obtain rfl := r2.intI
  have hc : cntOk (.int (n : Nat)) = some n := cntOk_int h1 h2
  refine ⟨_, (pss_cons (ps_expr (pe_fn C_check_count (hr.mono (by decide)) (by rfl) (passE (takes_of rfl rfl rfl rfl)) (pa_cons (pv 0) pa_nil)))
      (pss_cons (ps_if (PW.pt (pw_or (pt_not (pt_val (pe_fn C_is_whole (hr.mono (by decide)) (by rfl) pass0 (pa_cons (pv 1) pa_nil)))) (pw_or (pt_cmpR op_ltI (pv 1) pe_int (by first | exact nomark _ | rfl)) (pw_or1 (pt_cmpR op_geI (pv 1) (pe_fn C_counted (hr.mono (by decide)) (by rfl) (passE (takes_of rfl rfl rfl rfl)) (pa_cons (pv 0) pa_nil)) (by first | exact nomark _ | rfl))))))
        (pss_one (ps_rz x_NoNumber (takes_of rfl rfl rfl rfl) (by rfl) rfl))
        pss_nil)
      (pss_cons (ps_set (i := 2) sc_tie_of.nd rfl (.inl rfl) (pe_lst pa_nil))
      (pss_cons (ps_set (i := 3) sc_tie_of.nd rfl (.inl rfl) (pe_lst pa_nil))
      (pss_cons (ps_set (i := 4) sc_tie_of.nd rfl (.inl rfl) (pv 1))
      (pss_cons (ps_for (passes_of rfl) rfl (pi_range1 (by rfl) B.range_ (pa_cons (pv 0) pa_nil)) (pg_name (i := 5) sc_tie_of.nd rfl (.inl rfl))
        (pss_cons (ps_set (i := 6) sc_tie_of.nd rfl (.inl rfl) (pe_op op_subI (pe_op op_subI (pv 0) (pv 5)) pe_int))
      (pss_cons (ps_set (i := 7) sc_tie_of.nd rfl (.inl rfl) pe_int)
      (pss_cons (ps_while (passes_of rfl) (PW.pt (pw_and (pt_cmpR op_ltI (pv 7) (pe_callB call_len_seq (by rfl) B.len_ (by decide +kernel) (pa_cons (pv 3) pa_nil)) (by first | exact nomark _ | rfl)) (pw_and1 (pt_cmpR op_geI (pv 4) (pe_fn C__endings (hr.mono (by decide)) (by rfl) pass0 (pa_cons (pv 6) (pa_cons (pe_op op_addI (pv 7) pe_int) pa_nil))) (by first | exact nomark _ | rfl)))))
        (pss_cons (ps_aug (i := 4) sc_tie_of.nd rfl (.inl rfl) (pe_fn C__endings (hr.mono (by decide)) (by rfl) pass0 (pa_cons (pv 6) (pa_cons (pe_op op_addI (pv 7) pe_int) pa_nil))) ip_sub)
      (pss_one (ps_aug (i := 7) sc_tie_of.nd rfl (.inl rfl) pe_int ip_add))))
      (pss_cons (ps_set (i := 8) sc_tie_of.nd rfl (.inl rfl) (pe_ix ix_list (pe_op op_cat (pv 3) (pe_lst (pa_cons (pv 5) pa_nil))) (pv 7) (fun _ _ => rfl)))
      (pss_cons (ps_set (i := 3) sc_tie_of.nd rfl (.inl rfl) (pe_op op_cat (pe_slice sl_list (pv 3) po_none (po_some (pv 7))) (pe_lst (pa_cons (pv 8) pa_nil))))
      (pss_one (ps_expr (pe_bm PySem.F.plainAttrs_list PySem.F.slot_list_append PySem.F.type_list_append mt_append (pv 2) (pa_cons (pv 8) pa_nil))))))))))
      (pss_one (ps_ret (pe_fn C_gathered (hr.mono (by decide)) (by rfl) pass0 (pa_cons (pv 2) pa_nil)))))))))), ?_⟩
  refine q_dropX (Beside.refl H) (ex_call (ea_cons' (ed_vi rfl) ea_nil') ⟨_, rfl⟩ rfl) (fun o ho H1 e1 S1 => ?_) fun x hx H1 e1 => ?_
  case refine_2 =>
    have hx' : cntX (.int (n : Nat)) = .error x := hx
    rw [cntX_some hc] at hx'
    cases hx'
  have cntE : ∀ {σ : L2.St} {E : XK}, σ[0]? = some (some (.int (n : Nat))) → EvD (tCall (sp_counted mg) [] E (tCons (tVar 0) tNil)) σ H (.int (catI n)) := fun {σ E} hv => by
    have := ex_call (mg := mg) (E := E) (n := 1) (pre := fun ds => ∃ c, ds = [c]) (f := fun ds => cntdX (ds.headD .non)) (ea_cons' (ed_vi (σ := σ) (Hb := H) hv) ea_nil') ⟨_, rfl⟩ rfl
    have e0 : cntdX (([.int (n : Nat)] : List Dt).headD .non) = .ok (.int (catI n)) := by
      show cntdX (.int (n : Nat)) = _
      unfold cntdX
      rw [hc]
    rw [e0] at this
    exact this.en.dd
  refine q_ifN (b := false) S1 (et_or (a := false) (b := false) (et_not (a := true) (et_dB (ed_call (ea_cons' (ed_vi rfl) ea_nil') trivial rfl))) fun _ => et_or (a := false) (b := false) (et_is (et_d (ed_IB (ed_vi rfl) ed_int)) (by simp; omega)) fun _ => et_is (et_d (ed_IB (ed_vi rfl) (cntE rfl))) (by simp; omega)) (fun hb => nomatch hb) fun hb H2 e2 S2 => ?_
  have q' : ∀ c : List Nat, okK 0 c → c.length = n → numN n c = i → ∀ v H', Ex H H' → Rp (Fresh H) H' v (tieC c) → Q v H' := fun c g1 g2 g3 v H' e r => q (tieC c) (by
    show Except.ok (tieC (codeK ((n : Nat) : Int).toNat i)) = _
    rw [Int.toNat_natCast, ← g3, codeK_is g1 g2 h2]) v H' e r
  clear q qe
  refine q_setF S2 (ef_lst ea_nil' (by simp)) fun p1 xs1 Hb3 H3 hp3 eb3 e3 S3 hx3 rx3 => ?_
  cases rx3
  refine q_set S3 ((EvF.dd (ef_lst ea_nil' (by simp))).as (d' := dInts []) rfl) fun vp Hb4 H4 eb4 e4 S4 rp => ?_
  refine q_setI S4 (ed_vi rfl) fun H5 e5 S5 => ?_
  refine q_forR (n := n) S5 (ea_cons' (ed_vi rfl) ea_nil') (by omega) (fun m σ' H' => ∃ (Hb : Hp) (vp : V) (a : Int) (y5 y6 y7 y8 : Option V) (c : List Nat), σ' = [some (.int n), some (.int i), some (.ref p1), some vp, some (.int a), y5, y6, y7, y8] ∧ Ex Hb4 Hb ∧ Beside Hb [p1] H' ∧ Rp Any Hb vp (dInts (ofN (pilD [] 0 c))) ∧ okK 0 c ∧ c.length = m ∧ H' p1 = some (.lst ((ofN (labD [] 0 c)).map V.int)) ∧ a = i - numN n c ∧ 0 ≤ a ∧ a < endI (n - m) (depE 0 c))
    (fun H6 e6 => ⟨Hb4, vp, i, none, none, none, none, [], rfl, Ex.refl _, S5.on e6, rp, trivial, rfl, e6 _ _ (e5 _ _ (e4 _ _ hx3)), by show i = i - 0; omega, hi.1, hi.2⟩) (fun m σ' H' hm hP => ?_) (fun σ' H' hP => ?_)
  · obtain ⟨Hb, vp, a0, y5, y6, y7, y8, c, rfl, eb, SS, rp, ho, hcl, hM, ha, ha0, ha1⟩ := hP
    obtain ⟨pk, pl⟩ := pilD_ok pil0 ho
    have pl : (pilD [] 0 c).length = depE 0 c := pl
    have hL : (ofN (pilD [] 0 c)).length ≤ m := by
      rw [ofN_length, pl]
      have := depE_le ho
      omega
    generalize hLe : ofN (pilD [] 0 c) = L at rp hL
    have hLn : L.length = depE 0 c := by rw [← hLe, ofN_length, pl]
    have hall : endI (n - m) (depE 0 c) = sE (n - m - 1) (depE 0 c + 1) := by
      rw [sE_all (l := n - m - 1) (d := depE 0 c) (by omega), show n - m - 1 + 1 = n - m by omega]
    refine q_setI (n := ((n - m - 1 : Nat) : Int)) SS ((ed_II (ed_II (ed_vi rfl) (ed_vi rfl)) ed_int).as (congrArg Dt.int (by omega))) fun H7 e7 S7 => ?_
    refine q_setI S7 ed_int fun H8 e8 S8 => ?_
    have hlen : ∀ {σ : L2.St} {Hx : Hp}, σ[3]? = some (some vp) → Ex Hb Hx → EvD (tCB (rLenS K) (tCons (tVar 3) tNil)) σ Hx (.int (L.length : Nat)) := fun {σ Hx} hv e => by
      have := ed_lenL (K := K) (ed_v (σ := σ) hv (rp.mono e))
      rwa [List.length_map] at this
    have hend : ∀ {σ : L2.St} {k : Nat}, σ[6]? = some (some (.int ((n - m - 1 : Nat) : Int))) → σ[7]? = some (some (.int (k : Nat))) → k ≤ 100 → EvD (tCall sp__endings [] E0 (tCons (tVar 6) (tCons (tOp rAddI (tVar 7) (tC (.int 1))) tNil))) σ Hb (.int (endI (n - m - 1) (k + 1))) := fun {σ k} h6 h7 hk => ed_call (ea_cons' (ed_vi h6) (ea_cons' ((ed_II (ed_vi h7) ed_int).as (d' := .int ((k + 1 : Nat) : Int)) (congrArg Dt.int (by omega))) ea_nil')) ⟨n - m - 1, k + 1, rfl, by omega, by omega⟩ rfl
    refine q_while (fun z σ' H' => ∃ (a : Int) (k : Nat), σ' = [some (.int n), some (.int i), some (.ref p1), some vp, some (.int a), some (.int (m : Nat)), some (.int ((n - m - 1 : Nat) : Int)), some (.int (k : Nat)), y8] ∧ k ≤ L.length ∧ z = L.length - k ∧ Ex Hb H' ∧ H' p1 = some (.lst ((ofN (labD [] 0 c)).map V.int)) ∧ a = a0 - sE (n - m - 1) k ∧ 0 ≤ a)
      (m0 := L.length) ⟨a0, 0, rfl, by omega, by omega, S8.ex, e8 _ _ (e7 _ _ hM), by show a0 = a0 - 0; omega, ha0⟩ fun z σ' H' hW => ?_
    obtain ⟨a, k, rfl, hk, rfl, eW, hM9, hak, han⟩ := hW
    have SW : Beside Hb [p1] H' := ⟨eW, fun b hb => by
      have : b = p1 := by simpa using hb
      subst this
      exact ⟨(SS.at_ b (by simp)).1, _, hM9⟩⟩
    refine ⟨_, Hb, eW, et_and (et_d (ed_IB (ed_vi rfl) (hlen rfl (Ex.refl _)))) fun _ => et_d (ed_IB (ed_vi rfl) (hend rfl rfl (by omega))), fun hb H9 e9 => ?_, fun hb H9 e9 => ?_⟩
    · obtain ⟨hb1, hb2⟩ := Bool.and_eq_true_iff.mp hb
      have hkl : k < L.length := by
        have := of_decide_eq_true hb1
        omega
      have hge : endI (n - m - 1) (k + 1) ≤ a := of_decide_eq_true hb2
      refine ⟨fun σ' H' => ∃ (a : Int) (k' : Nat), σ' = [some (.int n), some (.int i), some (.ref p1), some vp, some (.int a), some (.int (m : Nat)), some (.int ((n - m - 1 : Nat) : Int)), some (.int (k' : Nat)), y8] ∧ k' = k + 1 ∧ Ex Hb H' ∧ H' p1 = some (.lst ((ofN (labD [] 0 c)).map V.int)) ∧ a = a0 - sE (n - m - 1) (k + 1) ∧ 0 ≤ a, fun σ2 H2 hN => ?_, ?_⟩
      · obtain ⟨a', k', rfl, rfl, eN, hMN, hN1, hN2⟩ := hN
        exact ⟨L.length - (k + 1), by omega, a', k + 1, rfl, by omega, rfl, eN, hMN, hN1, hN2⟩
      · refine q_augI (SW.on e9) rfl (hend rfl rfl (by omega)) fun H10 e10 S10 => ?_
        refine s_augI S10 rfl (ed_int (i := 1)) fun H11 e11 S11 => ?_
        exact ⟨_, k + 1, rfl, rfl, S11.ex, e11 _ _ (e10 _ _ (e9 _ _ hM9)), by rw [sE_next]; omega, by omega⟩
    · have S9 := SW.on e9
      have hkd : k ≤ depE 0 c := by omega
      have hfit : a < endI (n - m - 1) (k + 1) := by
        rcases Bool.and_eq_false_iff.mp hb with g | g
        · have := of_decide_eq_false g
          have hkeq : k = depE 0 c := by omega
          rw [hall, ← hkeq, sE_next] at ha1
          omega
        · have : ¬ endI (n - m - 1) (k + 1) ≤ a := of_decide_eq_false g
          omega
      generalize hxe : (pilD [] 0 c ++ [0 + c.length]).getD k 0 = x0
      have hz : ((L ++ [(m : Int)]).map Dt.int)[k]? = some (.int (x0 : Nat)) := by
        rw [← hLe, ← hxe, hcl, Nat.zero_add]
        have : ofN (pilD [] 0 c) ++ [(m : Int)] = ofN (pilD [] 0 c ++ [m]) := by unfold ofN; rw [List.map_append]; rfl
        rw [this, List.getElem?_map]
        unfold ofN
        rw [List.getElem?_map, List.getD_eq_getElem?_getD, List.getElem?_eq_getElem (show k < (pilD [] 0 c ++ [m]).length by rw [List.length_append, pl]; simp; omega)]
        rfl
      have hcat : ∀ {σ : L2.St}, σ[3]? = some (some vp) → σ[5]? = some (some (.int (m : Nat))) → EvD (tOp rCat (tVar 3) (tLst (tCons (tVar 5) tNil))) σ Hb (dInts (L ++ [(m : Int)])) := fun {σ} h3 h5 => (EvF.dd (ef_cat (ed_v h3 rp) (EvF.dd (ef_lst (ea_cons' (ed_vi h5) ea_nil') (by simp))) (by simp; omega))).as (by unfold dInts; rw [List.map_append]; rfl)
      refine q_setI (n := (x0 : Nat)) S9 (ed_ixL (hcat rfl rfl) (ed_vi rfl) (by rw [atI_getK (by rw [List.length_map, List.length_append]; simp; omega)]; exact hz)) fun H10 e10 S10 => ?_
      refine q_set S10 ((EvF.dd (ef_cat ((EvF.dd (ef_slL (K := K) (ed_v rfl rp) eo_nil (eo_d (ed_vi (i := 7) (n := ((k : Nat) : Int)) rfl)))).as (d' := dInts (L.take k)) (by rw [cutD_to]; unfold dInts; rw [List.map_take])) (EvF.dd (ef_lst (ea_cons' (ed_vi rfl) ea_nil') (by simp))) (by simp; omega))).as (d' := dInts (L.take k ++ [(x0 : Int)])) (by unfold dInts; rw [List.map_append]; rfl)) fun vq Hb11 H11 eb11 e11 S11 rq => ?_
      refine s_appD S11 (by simp) (e11 _ _ (e10 _ _ (e9 _ _ hM9))) rfl (ed_vi rfl) (by rw [List.length_map, ofN_length, labD_length]; omega) fun v12 Hb12 H12 eb12 S12 same hp12 r12 => ?_
      refine ⟨Hb12, vq, a, _, _, _, _, c ++ [k], rfl, eb.trans (eb11.trans eb12), S12, ?_, okK_snoc.mpr ⟨ho, hkd⟩, by rw [List.length_append, hcl]; rfl, ?_, ?_, han, ?_⟩
      · have : L.take k ++ [(x0 : Int)] = ofN (pilD [] 0 (c ++ [k])) := by
          rw [pilD_snoc, hxe, ← hLe]
          unfold ofN
          rw [List.map_append, List.map_take]; rfl
        rw [← this]
        exact rq.mono eb12
      · rw [hp12, r12.intI, labD_snoc, hxe]
        unfold ofN
        rw [List.map_append, List.map_append]; rfl
      · rw [numN_snoc, hcl, hak, ha]
        omega
      · rw [depE_snoc, show n - (m + 1) = n - m - 1 by omega]
        exact hfit
  · obtain ⟨Hb, vp, a, y5, y6, y7, y8, c, rfl, eb, SS, rp, ho, hcl, hM, ha, ha0, ha1⟩ := hP
    have eH : Ex H H' := (eb3.trans (eb4.trans eb)).trans SS.ex
    have hdl := depE_le ho
    rw [Nat.sub_self, show endI 0 (depE 0 c) = 1 from endI_zero ⟨depE 0 c, by omega⟩] at ha1
    have rM : Rp Any H' (.ref p1) (dInts (ofN (labD [] 0 c))) := .lst trivial hM (RpL.ints _)
    have he : dTie (dInts (ofN (labD [] 0 c))).ints.length (gI (dInts (ofN (labD [] 0 c))).ints) = tieC c := by
      rw [ints_dInts, gI_ofN, ofN_length, labD_length]
      rfl
    exact s_retN (Beside.refl H') (en_call (ea_cons' (ed_v rfl rM) ea_nil') ⟨ofN (labD [] 0 c), rfl, by rw [ofN_length, labD_length]; omega⟩ rfl) fun v9 H9 e9 r9 => by
      have r9 : Rp (Fresh H') H9 v9 (dTie (dInts (ofN (labD [] 0 c))).ints.length (gI (dInts (ofN (labD [] 0 c))).ints)) := r9
      rw [he] at r9
      exact q' c ho hcl (by omega) v9 H9 (eH.trans e9) (r9.wk fun b hb => fresh_back eH hb)
end
end Nc

namespace Nc
open PySem PySem.Spec PyProof.Rows L2 Evl
theorem idx_spec : ∀ {S : List Nat} {x : Nat}, x ∈ S → S[S.idxOf x]? = some x ∧ ∀ m, m < S.idxOf x → ∀ z, S[m]? = some z → z ≠ x
  | [], x, h => by simp at h
  | y :: S, x, h => by
    by_cases c : y = x
    · subst c
      rw [List.idxOf_cons_self]
      exact ⟨rfl, fun m hm => absurd hm (Nat.not_lt_zero _)⟩
    · have e : (y == x) = false := by rw [beq_eq_false_iff_ne]; exact c
      have hx : x ∈ S := by
        rcases List.mem_cons.mp h with h | h
        · exact absurd h.symm c
        · exact h
      obtain ⟨h1, h2⟩ := idx_spec hx
      rw [List.idxOf_cons, e, cond_false]
      refine ⟨h1, fun m hm z hz => ?_⟩
      cases m with
      | zero => cases hz; exact c
      | succ m => exact h2 m (by omega) z hz
theorem int_flat (L : List Int) : (L.map V.int).all flatV = true := by
  rw [List.all_map]
  exact List.all_eq_true.mpr fun _ _ => rfl
section
variable {σ : L2.St} {Hb H : Hp} {F : List Addr} {te : TE} {K : PySem.W.Frag} {D : Ends}
theorem rp_nats {N : Addr → Prop} {v : V} {S : List Nat} (r : Rp N Hb v (dNats S)) : ∃ a, v = .ref a ∧ Hb a = some (.lst ((ofN S).map V.int)) := by
  rw [dNats_ofN] at r
  obtain ⟨a, xs, rfl, _, hx, rs⟩ := Rp.lstI r
  rw [rs.ofInts] at hx
  exact ⟨a, rfl, hx⟩
theorem nats_rp {a : Addr} {S : List Nat} (h : Hb a = some (.lst ((ofN S).map V.int))) : Rp Any Hb (.ref a) (dNats S) := by
  rw [dNats_ofN]
  exact .lst trivial h (RpL.ints _)
theorem ed_indexI {i : Nat} {v : V} {S : List Nat} {x : Nat} (hv : σ[i]? = some (some v)) (r : Rp Any Hb v (dNats S)) (hx : EvD te σ Hb (.int (x : Nat))) (hm : x ∈ S) : EvD (tBM K "list" (rIndex K) (tVar i) (tCons te tNil)) σ Hb (.int (S.idxOf x : Nat)) := fun F H B Q q => by
  obtain ⟨p, rfl, hp⟩ := rp_nats (r.mono B.ex)
  obtain ⟨h1, h2⟩ := idx_spec hm
  have cv : ∀ {m : Nat} {u : V}, ((ofN S).map V.int)[m]? = some u → ∃ z, S[m]? = some z ∧ u = .int (z : Nat) := fun {m u} h => by
    unfold ofN at h
    rw [List.getElem?_map, List.getElem?_map] at h
    cases hh : S[m]? with
    | none => rw [hh] at h; cases h
    | some z => rw [hh] at h; cases h; exact ⟨z, rfl, rfl⟩
  refine ⟨.ref p, hv, Or.inl ⟨rfl, _, sq_of hp⟩, hx F H B _ fun u H2 e2 ru => ?_⟩
  rw [ru.intI]
  refine ⟨p, (ofN S).map V.int, .int (x : Nat), S.idxOf x, .int (x : Nat), rfl, rfl, sq_of (e2 _ _ hp), rfl, int_flat _, ?_, by simp [eqV], fun m z' hm hz => ?_, q _ H2 e2 (.int _)⟩
  · unfold ofN
    rw [List.getElem?_map, List.getElem?_map, h1]; rfl
  · obtain ⟨z, hz2, rfl⟩ := cv hz
    have := h2 m hm z hz2
    simp [eqV]
    omega
/-- l.append(te), te a whole number, l may be looked at -/
theorem s_appI {i : Nat} {l : Addr} {xs : List V} {x : Int} (hl : H l = some (.lst xs)) (hv : σ[i]? = some (some (.ref l))) (h : EvD te σ H (.int x)) (hz : xs.length < 100000)
    (k : ∀ H', (∀ a o, a ≠ l → H a = some o → H' a = some o) → H' l = some (.lst (xs ++ [.int x])) → D.nx σ H') : tDrop (tBM K "list" rAppend (tVar i) (tCons te tNil)) D σ H :=
  ⟨.ref l, hv, Or.inl ⟨rfl, xs, sq_of hl⟩, h [] H (Beside.refl H) _ fun v H2 e2 r => by
    rw [r.intI]
    exact ⟨l, xs, .int x, rfl, rfl, e2 l _ hl, sz_lt hz, k _ (fun a o hne ha => by rw [upd_ne hne]; exact e2 a o ha) upd_same⟩⟩
end
section
variable {P : Program} {w : World} {K : PySem.W.Frag} {mg : Str → Option Value} {base : Heap} {f : Addr} {fd : FuncData}
theorem ok_l_open (F : Fun K "_law_open" "_law_open" s_l_open f fd) (B : Blt mg) : FnOk P w K mg base CX0 1 f fd ["_law_labels_here", "_law_place"] sp_l_open := by
  refine F.ok sc_l_open (fun vs H Q E h => h.1) (fun cdv A outer s H vs Q E hr h => ?_)
  obtain ⟨len, ds, r, ⟨L, p, hds, hpl, hL⟩, q⟩ := h
  obtain ⟨v, d, v2, d2, rfl, rfl, r1, r2⟩ := args2 len r
  obtain ⟨rfl, rfl⟩ : d = dNats L ∧ d2 = .int p := by simpa using hds
  obtain rfl := r2.intI
  have q' : ∀ (v : V) (H' : Hp), Ex H H' → Rp (Fresh H) H' v (dNats (opG [] 0 (L.take p) ++ [p])) → Q v H' := fun v H' e r => q v H' e (by
    show Rp (Fresh H) H' v (dNats (opG [] 0 ((natsL (dNats L)).take ((p : Nat) : Int).toNat) ++ [((p : Nat) : Int).toNat]))
    rw [natsL_is, Int.toNat_natCast]; exact r)
  have opl : ∀ i, i ≤ p → (opG [] 0 (L.take i)).length ≤ i := fun i => by
    induction i with
    | zero => intro _; rw [List.take_zero]; exact Nat.le_refl _
    | succ i ih =>
      intro hi
      rw [List.take_add_one, List.getElem?_eq_getElem (show i < L.length by omega)]
      show (opG [] 0 (L.take i ++ [_])).length ≤ i + 1
      rw [opG_snoc]
      have := ih (by omega)
      split
      · rw [List.length_take]; omega
      · rw [List.length_append]; simp; omega
  refine ⟨_, (pss_cons (ps_set (i := 2) sc_l_open.nd rfl (.inl rfl) (pe_lst pa_nil))
      (pss_cons (ps_for PassesOwn.never rfl (pi_range1 (by rfl) B.range_ (pa_cons (pv 1) pa_nil)) (pg_name (i := 3) sc_l_open.nd rfl (.inl rfl))
        (pss_one (ps_if (pt_cmpR op_in_seq (pe_ix ix_list (pv 0) (pv 3) (fun _ _ => rfl)) (pv 2) (by first | exact nomark _ | rfl))
        (pss_one (ps_set (i := 2) sc_l_open.nd rfl (.inl rfl) (pe_slice sl_list (pv 2) po_none (po_some (pe_op op_addI (pe_bm PySem.F.plainAttrs_list PySem.F.slot_list_index PySem.F.type_list_index mt_index (pv 2) (pa_cons (pe_ix ix_list (pv 0) (pv 3) (fun _ _ => rfl)) pa_nil)) pe_int)))))
        (pss_one (ps_set (i := 2) sc_l_open.nd rfl (.inl rfl) (pe_op op_cat (pv 2) (pe_lst (pa_cons (pv 3) pa_nil))))))))
      (pss_one (ps_ret (pe_op op_cat (pv 2) (pe_lst (pa_cons (pv 1) pa_nil))))))), ?_⟩
  refine q_set (Beside.refl H) ((EvF.dd (ef_lst ea_nil' (by simp))).as (d' := dNats []) rfl) fun vs Hb1 H1 eb1 e1 S1 rs => ?_
  refine q_forR (n := p) S1 (ea_cons' (ed_vi rfl) ea_nil') (by omega) (fun i σ' H' => ∃ (Hb : Hp) (sa : V) (y3 : Option V), σ' = [some v, some (.int (p : Nat)), some sa, y3] ∧ Ex Hb1 Hb ∧ Beside Hb [] H' ∧ Rp Any Hb sa (dNats (opG [] 0 (L.take i)))) (fun H2 e2 => ⟨Hb1, vs, none, rfl, Ex.refl _, S1.on e2, rs⟩) (fun i σ' H' hi hP => ?_) (fun σ' H' hP => ?_)
  · obtain ⟨Hb, sa, y3, rfl, eb, SS, rsa⟩ := hP
    have hil : i < L.length := by omega
    have hx := List.getElem?_eq_getElem hil
    generalize L[i] = x at hx
    generalize hS : opG [] 0 (L.take i) = S at rsa
    have hnext : opG [] 0 (L.take (i + 1)) = if x ∈ S then S.take (S.idxOf x + 1) else S ++ [i] := by
      rw [List.take_add_one, hx]
      show opG [] 0 (L.take i ++ [x]) = _
      rw [opG_snoc, hS, List.length_take, Nat.min_eq_left (Nat.le_of_lt hil), Nat.zero_add]
    have hSl : S.length ≤ i := by rw [← hS]; exact opl i (by omega)
    have r1' := r1.mono (eb1.trans eb)
    have hix : ∀ {σ : L2.St}, σ[0]? = some (some v) → σ[3]? = some (some (.int (i : Nat))) → EvD (tOp (rIxL K) (tVar 0) (tVar 3)) σ Hb (.int (x : Nat)) := fun {σ} h0 h3 => ed_ixL (ed_v h0 r1') (ed_vi h3) (by
      refine atI_nat ?_
      rw [List.getElem?_map, hx]; rfl)
    refine s_ifD SS (et_d (ed_inL (hix rfl rfl) ((ed_v rfl rsa).as (dNats_ofN S)))) (fun hb H2 e2 S2 => ?_) fun hb H2 e2 S2 => ?_
    · have hb := of_decide_eq_true hb
      have hm : x ∈ S := by
        unfold ofN at hb
        obtain ⟨y, hy, e⟩ := List.mem_map.mp hb
        have : y = x := by omega
        rw [← this]; exact hy
      refine (EvF.dd (ef_slL (K := K) (ed_v (i := 2) rfl rsa) eo_nil (eo_d ((ed_II (ed_indexI (i := 2) rfl rsa (hix rfl rfl) hm) ed_int).as (d' := .int ((S.idxOf x + 1 : Nat) : Int)) (congrArg Dt.int (by omega)))))) _ _ S2 _ fun v9 H10 e10 r10 => ?_
      refine ⟨_, v9, _, rfl, eb.trans (S2.lessEx e10), (S2.on e10).sep, ?_⟩
      rw [hnext, if_pos hm]
      rw [cutD_to, ← List.map_take] at r10
      exact r10
    · have hb := of_decide_eq_false hb
      have hm : x ∉ S := fun z => hb (List.mem_map.mpr ⟨x, z, rfl⟩)
      refine (EvF.dd (ef_cat (ed_v (i := 2) rfl rsa) (EvF.dd (ef_lst (ea_cons' (ed_vi (i := 3) rfl) ea_nil') (by simp))) (by simp; omega))) _ _ S2 _ fun v9 H10 e10 r10 => ?_
      refine ⟨_, v9, _, rfl, eb.trans (S2.lessEx e10), (S2.on e10).sep, ?_⟩
      rw [hnext, if_neg hm]
      have e0 : (S.map fun x => Dt.int (x : Nat)) ++ [Dt.int (i : Nat)] = (S ++ [i]).map fun x => Dt.int (x : Nat) := by rw [List.map_append]; rfl
      rw [e0] at r10
      exact r10
  · obtain ⟨Hb, sa, y3, rfl, eb, SS, rsa⟩ := hP
    have hSl := opl p (Nat.le_refl _)
    generalize opG [] 0 (L.take p) = S at rsa hSl q'
    refine s_retN (Beside.refl H') (EvF.nn (ef_cat (σ := [some v, some (.int (p : Nat)), some sa, y3]) (ed_v (i := 2) rfl (rsa.mono SS.ex)) (EvF.dd (ef_lst (ea_cons' (ed_vi (i := 1) rfl) ea_nil') (by simp))) (by simp; omega)) ?_) fun v9 H9 e9 r9 => ?_
    · refine flats_all.mpr fun d hd => ?_
      rcases List.mem_append.mp hd with h | h
      · obtain ⟨y, _, rfl⟩ := List.mem_map.mp h
        rfl
      · have : d = Dt.int (p : Nat) := by simpa using h
        rw [this]; rfl
    · have e0 : (S.map fun x => Dt.int (x : Nat)) ++ [Dt.int (p : Nat)] = (S ++ [p]).map fun x => Dt.int (x : Nat) := by rw [List.map_append]; rfl
      rw [e0] at r9
      have eH : Ex H H' := (eb1.trans eb).trans SS.ex
      exact q' v9 H9 (eH.trans e9) (r9.wk fun b hb => fresh_back eH hb)
end
end Nc

namespace Nc
open PySem PySem.Spec PyProof.Rows L2 Evl
theorem flat_at {f : Nat → Nat} {n p : Nat} (hp : p < n) : ∃ k : Nat, (groupsOf f n)[k]? = some (grp f n p) ∧ (flatI n (groupsOf f n))[p]? = some ((k : Nat) : Int) := by
  obtain ⟨k, hk⟩ := List.mem_iff_getElem?.mp (grp_mem (f := f) hp)
  exact ⟨k, hk, flat_num (f := f) (n := n) (groupsOf f n).length (Nat.le_refl _) p hp k _ (List.getElem?_eq_some_iff.mp hk).1 hk (mem_grp.mpr ⟨hp, rfl⟩)⟩
section
variable {P : Program} {w : World} {K : PySem.W.Frag} {mg : Str → Option Value} {base : Heap} {f : Addr} {fd : FuncData}
theorem ok_l_leaders (F : Fun K "_law_leaders" "_law_leaders" s_l_leaders f fd) (B : Blt mg) (C_l_flat : Callee P w K mg base CX0 1 "_law_flat" ["_law_tie_here"] sp_l_flat) : FnOk P w K mg base CX0 2 f fd ["_law_tie_here"] sp_l_leaders := by
  refine F.ok sc_l_leaders (fun vs H Q E h => h.1) (fun cdv A outer s H vs Q E hr h => ?_)
  obtain ⟨len, ds, r, ⟨c, hds, ho, hn⟩, q⟩ := h
  obtain ⟨v, d, rfl, rfl, r1⟩ := args1 len r
  obtain rfl : d = tieC c := by simpa using hds
  unfold tieC at r1
  have hlead := tieC_leaders ho
  have hq : leadersM (tieC c).many (tieC c).grps = leadersM c.length (groupsOf (lb (labD [] 0 c)) c.length) := by
    unfold tieC
    rw [many_dTie, grps_dTie]
  have q' : ∀ (v : V) (H' : Hp), Ex H H' → Rp (Fresh H) H' v (dNats (leadersM c.length (groupsOf (lb (labD [] 0 c)) c.length))) → Q v H' := fun v H' e r => q v H' e (by
    show Rp (Fresh H) H' v (dNats (leadersM (tieC c).many (tieC c).grps))
    rw [hq]; exact r)
  clear q hq hds
  generalize labD [] 0 c = L0 at r1 q' hlead
  generalize c.length = n at r1 q' hlead hn
  generalize hM : leadersM n (groupsOf (lb L0) n) = M at q'
  have hMl : M.length = n := by rw [← hM]; exact leadersM_length _ _
  have hgl : (groupsOf (lb L0) n).length ≤ n := groups_length
  refine ⟨_, (pss_cons (ps_set (i := 1) sc_l_leaders.nd rfl (.inl rfl) (pe_fn C_l_flat (hr.mono (by decide)) (by rfl) pass0 (pa_cons (pv 0) pa_nil)))
      (pss_one (ps_ret (pe_lc (own := [("_law_label", 2)]) (g := (gName 2)) (tt := tYes) (te := (tOp (rIxT K) (tOp (rIxL K) (tOp (rIxT K) (tVar 0) (tC (.int 1))) (tVar 2)) (tC (.int 0)))) rfl sc_l_leaders.nd (pi_list (pv 1)) (blkOk_by (N := ["_law_tie_here", "_law_labels_here", "_law_label"]) (sc := defScope s_l_leaders) (by decide +kernel)) (fun _ _ _ _ _ => (pg_name (i := 2) sc_l_leaders.nd rfl (.inl rfl))) (fun _ _ _ _ _ => pts_nil) (fun _ _ _ _ _ => (pe_ix ix_tup (pe_ix ix_list (pe_ix ix_tup (pv 0) pe_int (fun _ _ => rfl)) (pv 2) (fun _ _ => rfl)) pe_int (fun _ _ => rfl))))))), ?_⟩
  refine q_set (Beside.refl H) ((ed_call (ea_cons' (ed_v rfl r1) ea_nil') ⟨n, groupsOf (lb L0) n, rfl, by omega, by omega, fun g hg => (group_ne hg).2⟩ rfl).as (d' := dInts (flatI n (groupsOf (lb L0) n))) (by
    show dInts (flatI (dTie n (groupsOf (lb L0) n)).many (dTie n (groupsOf (lb L0) n)).grps) = _
    rw [many_dTie, grps_dTie])) fun vF Hb1 H1 eb1 e1 S1 rF => ?_
  have hfl : (flatI n (groupsOf (lb L0) n)).length = n := flatUp_length _ _ _
  have hst : stepsD ((flatI n (groupsOf (lb L0) n)).map Dt.int).length (fun _ => true) (fun j => Dt.int (lb M j : Nat)) = M.map fun x => Dt.int ((x : Nat) : Int) := by
    rw [List.length_map, hfl]
    unfold stepsD
    rw [List.filter_eq_self.mpr fun _ _ => rfl]
    apply List.ext_getElem?
    intro j
    rw [List.getElem?_map, List.getElem?_map]
    by_cases hj : j < n
    · rw [List.getElem?_range hj, List.getElem?_eq_getElem (show j < M.length by omega)]
      show some (Dt.int (lb M j : Nat)) = some _
      unfold lb
      rw [List.getD_eq_getElem?_getD, List.getElem?_eq_getElem (show j < M.length by omega)]; rfl
    · rw [List.getElem?_eq_none (by simp; omega), List.getElem?_eq_none (by omega)]; rfl
  have hlc := ef_lcL (K := K) (σ := [some v, some vF, none]) (Hb := Hb1) (te := tOp (rIxT K) (tOp (rIxL K) (tOp (rIxT K) (tVar 0) (tC (.int 1))) (tVar 2)) (tC (.int 0))) (tl := tVar 1) (t := tYes) (j := 2) (vs := [2]) (ds := (flatI n (groupsOf (lb L0) n)).map Dt.int) (fun _ => true) (fun j => Dt.int (lb M j : Nat)) (ed_v rfl rF) (by rw [List.length_map, hfl]; omega) (fun x => rfl) (fun j d y H7 e7 hj ry => et_yes) (fun j d y H7 e7 hj ry _ => by
    rw [List.getElem?_map] at hj
    obtain ⟨z, hz, rfl⟩ : ∃ z, (flatI n (groupsOf (lb L0) n))[j]? = some z ∧ d = .int z := by
      cases hh : (flatI n (groupsOf (lb L0) n))[j]? with
      | none => rw [hh] at hj; cases hj
      | some z => rw [hh] at hj; exact ⟨z, rfl, (Option.some.inj hj).symm⟩
    have hjn : j < n := by rw [← hfl]; exact (List.getElem?_eq_some_iff.mp hz).1
    obtain ⟨k, hk, hz2⟩ := flat_at (f := lb L0) hjn
    rw [hz] at hz2
    cases hz2
    obtain rfl := ry.intI
    have hg0 := grp_headD (f := lb L0) hjn
    generalize hg : grp (lb L0) n j = g at hk hg0
    refine (ed_ixT (ds := g.map fun x => Dt.int ((x : Nat) : Int)) (ed_ixL (ed_ixT (ed_v (i := 0) rfl (r1.mono (eb1.trans e7))) ed_int (rfl : atI ([.int n, dGrps (groupsOf (lb L0) n)] : List Dt) 1 = some (dGrps (groupsOf (lb L0) n)))) (ed_vi (i := 2) rfl) (atI_nat (by rw [List.getElem?_map, hk]; rfl))) ed_int (d := .int (lb M j : Nat)) ?_)
    rw [← hM, leadersM_get hjn, hg]
    cases g with
    | nil => simp at hg0
    | cons a r => exact atI_nat (j := 0) rfl)
  rw [hst] at hlc
  exact s_retN S1 (EvF.nn hlc (flats_all.mpr fun d hd => by
    obtain ⟨y, _, rfl⟩ := List.mem_map.mp hd
    rfl)) fun v9 H9 e9 r9 => q' v9 H9 (e1.trans e9) (r9.wk fun b hb => fresh_back e1 hb)
theorem ok_l_next (F : Fun K "_law_next" "_law_next" s_l_next f fd) (B : Blt mg) (C_l_open : Callee P w K mg base CX0 1 "_law_open" ["_law_labels_here", "_law_place"] sp_l_open) : FnOk P w K mg base CX0 2 f fd ["_law_labels_here"] sp_l_next := by
  refine F.ok sc_l_next (fun vs H Q E h => h.1) (fun cdv A outer s H vs Q E hr h => ?_)
  obtain ⟨len, ds, r, ⟨c, hds, ho, hn⟩, q⟩ := h
  obtain ⟨v, d, rfl, rfl, r1⟩ := args1 len r
  obtain rfl : d = dNats (labD [] 0 c) := by simpa using hds
  generalize hcl : c.length = n at hn
  have hLl : (labD [] 0 c).length = n := by rw [labD_length, hcl]
  have uniq : ∀ c2 : List Nat, [dNats (labD [] 0 c)] = [dNats (labD [] 0 c2)] → okK 0 c2 → c2 = c := fun c2 h ho2 => by
    have h : dNats (labD [] 0 c) = dNats (labD [] 0 c2) := by simpa using h
    have hl : labD [] 0 c = labD [] 0 c2 := by
      have := congrArg natsL h
      rwa [natsL_is, natsL_is] at this
    have hlen : c.length = c2.length := by
      have := congrArg List.length hl
      rwa [labD_length, labD_length] at this
    exact ((labD_iff pil0 ho ho2 hlen).2.mp hl).symm
  have qN : c = topC 0 n → ∀ H', Ex H H' → Q .non H' := fun hc H' e => q .non .non H' (fun c2 h ho2 => by
    obtain rfl := uniq c2 h ho2
    exact .inl ⟨by rw [hcl]; exact hc, rfl⟩) e .non
  have qS : ∀ c', okK 0 c' → c'.length = n → numN n c' = numN n c + 1 → ∀ v H', Ex H H' → Rp (Fresh H) H' v (dNats (labD [] 0 c')) → Q v H' := fun c' h1 h2 h3 v H' e r => q (dNats (labD [] 0 c')) v H' (fun c2 h ho2 => by
    obtain rfl := uniq c2 h ho2
    exact .inr ⟨c', h1, by rw [hcl]; exact h2, by rw [hcl]; exact h3, rfl⟩) e r
  clear q uniq
  have lenE : ∀ {σ : L2.St} {Hx : Hp}, σ[0]? = some (some v) → Ex H Hx → EvD (tCB (rLenS K) (tCons (tVar 0) tNil)) σ Hx (.int (n : Nat)) := fun {σ Hx} h0 e => by
    have := ed_lenL (K := K) (ed_v (σ := σ) h0 (r1.mono e))
    rwa [List.length_map, hLl] at this
  refine ⟨_, (pss_cons (ps_for PassesOwn.never rfl (pi_range1 (by rfl) B.range_ (pa_cons (pe_callB call_len_seq (by rfl) B.len_ (by decide +kernel) (pa_cons (pv 0) pa_nil)) pa_nil)) (pg_name (i := 1) sc_l_next.nd rfl (.inl rfl))
        (pss_cons (ps_set (i := 2) sc_l_next.nd rfl (.inr rfl) (pe_op op_subI (pe_op op_subI (pe_callB call_len_seq (by rfl) B.len_ (by decide +kernel) (pa_cons (pv 0) pa_nil)) pe_int) (pv 1)))
      (pss_cons (ps_setLc (i := 3) (own := [("_law_leader", 5)]) (g := (gName 5)) (tt := (tTest (tOp rGtI (tVar 5) (tOp (rIxL K) (tVar 0) (tVar 2))))) (te := (tVar 5)) rfl sc_l_next.nd rfl rfl (sw_true rfl rfl rfl (by decide +kernel)) (pi_list (pe_fn C_l_open (hr.mono (by decide)) (by rfl) pass0 (pa_cons (pv 0) (pa_cons (pv 2) pa_nil)))) (blkOk_by (N := ["_law_labels_here", "_law_far", "_law_place", "_law_greater", "_law_found", "_law_leader"]) (sc := defScope s_l_next) (by decide +kernel)) (fun _ _ _ _ _ => (pg_name (i := 5) sc_l_next.nd rfl (.inl rfl))) (fun _ _ _ _ _ => (pts_one (pt_cmpR op_gtI (pv 5) (pe_ix ix_list (pv 0) (pv 2) (fun _ _ => rfl)) (by first | exact nomark _ | rfl)))) (fun _ _ _ _ _ => (pv 5)))
      (pss_one (ps_if (pt_cmpR (op_neD hr.units) (pv 3) (pe_lst pa_nil) (by first | exact nomark _ | rfl))
        (pss_cons (ps_set (i := 4) sc_l_next.nd rfl (.inl rfl) (pe_op op_cat (pe_slice sl_list (pv 0) po_none (po_some (pv 2))) (pe_lst (pa_cons (pe_ix ix_list (pv 3) pe_int (fun _ _ => rfl)) pa_nil))))
      (pss_cons (ps_while PassesOwn.never (pt_cmpR op_ltI (pe_callB call_len_seq (by rfl) B.len_ (by decide +kernel) (pa_cons (pv 4) pa_nil)) (pe_callB call_len_seq (by rfl) B.len_ (by decide +kernel) (pa_cons (pv 0) pa_nil)) (by first | exact nomark _ | rfl))
        (pss_one (ps_expr (pe_bm PySem.F.plainAttrs_list PySem.F.slot_list_append PySem.F.type_list_append mt_append (pv 4) (pa_cons (pe_ix ix_list (pe_fn C_l_open (hr.mono (by decide)) (by rfl) pass0 (pa_cons (pv 4) (pa_cons (pe_callB call_len_seq (by rfl) B.len_ (by decide +kernel) (pa_cons (pv 4) pa_nil)) pa_nil))) pe_int (fun _ _ => rfl)) pa_nil)))))
      (pss_one (ps_ret (pv 4)))))
        pss_nil)))))
      (pss_one (ps_ret pe_non))), ?_⟩
  refine q_forR (n := n) (Beside.refl H) (ea_cons' (lenE rfl (Ex.refl _)) ea_nil') (by omega) (fun i σ' H' => ∃ (y1 y2 y3 : Option V), σ' = [some v, y1, y2, y3, none, none] ∧ Ex H H' ∧ c.drop (n - i) = topC (depE 0 (c.take (n - i))) i) (fun H2 e2 => ⟨none, none, none, rfl, e2, by rw [Nat.sub_zero, List.drop_eq_nil_of_le (by omega)]; rfl⟩) (fun i σ' H' hi hP => ?_) (fun σ' H' hP => ?_)
  · obtain ⟨y1, y2, y3, rfl, ex, htop⟩ := hP
    obtain ⟨p, hp⟩ : ∃ p, p = n - 1 - i := ⟨_, rfl⟩
    have hpn : p < c.length := by omega
    have hni : n - i = p + 1 := by omega
    rw [hni] at htop
    have hca := List.getElem?_eq_getElem hpn
    generalize c[p] = a at hca
    have hct : c.take (p + 1) = c.take p ++ [a] := by rw [List.take_add_one, hca]; rfl
    have hcs : c = c.take p ++ a :: topC (a + 1) i := by
      have h1 : c = c.take (p + 1) ++ c.drop (p + 1) := (List.take_append_drop _ _).symm
      rw [htop, hct, depE_snoc, List.append_assoc] at h1
      exact h1
    have hot : okK 0 (c.take p) ∧ a ≤ depE 0 (c.take p) := by
      have h1 := ho
      rw [hcs, okK_app] at h1
      exact ⟨h1.1, h1.2.1⟩
    have htl : (c.take p).length = p := by rw [List.length_take]; omega
    obtain ⟨pk, pl⟩ := pilD_ok pil0 hot.1
    have pl : (pilD [] 0 (c.take p)).length = depE 0 (c.take p) := pl
    rw [htl, Nat.zero_add] at pk
    have hdp : depE 0 (c.take p) ≤ p := by
      have := depE_le hot.1
      rw [htl] at this
      omega
    have hopen : opG [] 0 ((labD [] 0 c).take p) = pilD [] 0 (c.take p) := by rw [labD_take, opG_is pil0 hot.1]
    have hlab : (labD [] 0 c)[p]? = some ((pilD [] 0 (c.take p) ++ [p]).getD a 0) := by
      have := labD_get (P := []) (p := 0) hca
      rwa [Nat.zero_add] at this
    generalize hG : pilD [] 0 (c.take p) ++ [p] = G at hlab
    have hGs : G.Pairwise (· < ·) := by rw [← hG]; exact pk.up
    have hGl : G.length = depE 0 (c.take p) + 1 := by rw [← hG, List.length_append, pl]; rfl
    have r1' := r1.mono ex
    refine q_setI (n := (p : Nat)) (Beside.refl H') ((ed_II (ed_II (lenE rfl ex) ed_int) (ed_vi rfl)).as (congrArg Dt.int (by omega))) fun H2 e2 S2 => ?_
    have hopE : ∀ {σ : L2.St}, σ[0]? = some (some v) → σ[2]? = some (some (.int (p : Nat))) → EvD (tCall sp_l_open [] E0 (tCons (tVar 0) (tCons (tVar 2) tNil))) σ H' (dNats G) := fun {σ} h0 h2 => (ed_call (ea_cons' (ed_v h0 r1') (ea_cons' (ed_vi h2) ea_nil')) ⟨labD [] 0 c, p, rfl, by omega, by omega⟩ rfl).as (by
      show dNats (opG [] 0 ((natsL (dNats (labD [] 0 c))).take ((p : Nat) : Int).toNat) ++ [((p : Nat) : Int).toNat]) = _
      rw [natsL_is, Int.toNat_natCast, hopen, hG])
    have hst : stepsD (G.map fun x => Dt.int ((x : Nat) : Int)).length (fun j => decide (G.getD a 0 < G.getD j 0)) (fun j => Dt.int (G.getD j 0 : Nat)) = (G.drop (a + 1)).map fun x => Dt.int ((x : Nat) : Int) := by
      rw [List.length_map, ← filter_gt_drop hGs (by omega)]
      exact stepsD_list (L := G) (P := fun y => decide (G.getD a 0 < y)) (G := fun y => Dt.int ((y : Nat) : Int)) (fun j x hj => by rw [List.getD_eq_getElem?_getD (l := G) (i := j), hj]; rfl) (fun j x hj _ => by rw [List.getD_eq_getElem?_getD (l := G) (i := j), hj]; rfl)
    have hlc := ef_lcL (K := K) (σ := [some v, some (.int (i : Nat)), some (.int (p : Nat)), y3, none, none]) (Hb := H') (te := tVar 5) (tl := tCall sp_l_open [] E0 (tCons (tVar 0) (tCons (tVar 2) tNil))) (t := tTest (tOp rGtI (tVar 5) (tOp (rIxL K) (tVar 0) (tVar 2)))) (j := 5) (vs := [5]) (ds := G.map fun x => Dt.int ((x : Nat) : Int)) (fun j => decide (G.getD a 0 < G.getD j 0)) (fun j => Dt.int (G.getD j 0 : Nat)) (hopE rfl rfl) (by rw [List.length_map]; omega) (fun x => rfl) (fun j d y H7 e7 hj ry => by
      obtain ⟨y0, hy0, rfl⟩ := nat_row' hj
      obtain rfl := ry.intI
      refine et_is (et_d (ed_IB (ed_vi (i := 5) rfl) (ed_ixL (ed_v (i := 0) rfl (r1'.mono e7)) (ed_vi (i := 2) rfl) (atI_nat (by rw [List.getElem?_map, hlab]; rfl))))) ?_
      rw [List.getD_eq_getElem?_getD (l := G) (i := j), hy0]
      show decide (((G.getD a 0 : Nat) : Int) < ((y0 : Nat) : Int)) = decide (G.getD a 0 < y0)
      rw [decide_eq_decide]; omega) (fun j d y H7 e7 hj ry _ => by
      obtain ⟨y0, hy0, rfl⟩ := nat_row' hj
      refine (ed_v rfl ry).as ?_
      rw [List.getD_eq_getElem?_getD, hy0]; rfl)
    rw [hst] at hlc
    refine q_set S2 (EvF.dd hlc) fun vG Hb3 H3 eb3 e3 S3 rG => ?_
    have rG : Rp Any Hb3 vG (dNats (G.drop (a + 1))) := rG
    refine s_ifN S3 (et_d (ed_neD (b := decide (G.drop (a + 1) ≠ [])) (ed_v rfl rG) ((EvF.dd (ef_lst ea_nil' (by simp))).as (d' := dNats []) rfl) (fit_nats _) (fit_nats _) ?_)) (fun hb H4 e4 S4 => ?_) fun hb H4 e4 S4 => ?_
    · rw [decide_eq_true_iff]
      exact ⟨fun h z => h (dNats_inj.mp z), fun h z => h (by rw [z])⟩
    · have hne := of_decide_eq_true hb
      have ha : a + 1 < G.length := by
        refine Nat.lt_of_not_le fun z => hne (List.drop_eq_nil_of_le z)
      have hg0 : (G.drop (a + 1))[0]? = some (G.getD (a + 1) 0) := by
        rw [List.getElem?_drop, Nat.add_zero, List.getD_eq_getElem?_getD, List.getElem?_eq_getElem ha]; rfl
      have hok1 : okK 0 (c.take p ++ [a + 1]) := okK_snoc.mpr ⟨hot.1, by omega⟩
      have hlab1 : labD [] 0 (c.take p ++ [a + 1]) = (labD [] 0 c).take p ++ [G.getD (a + 1) 0] := by
        rw [labD_snoc, labD_take, htl, Nat.zero_add, hG]
      have r1b := r1'.mono eb3
      refine q_setF S4 (ef_cat ((EvF.dd (ef_slL (K := K) (ed_v (i := 0) rfl r1b) eo_nil (eo_d (ed_vi (i := 2) rfl)))).as (d' := dNats ((labD [] 0 c).take p)) (by rw [cutD_to, ← List.map_take]; rfl)) (EvF.dd (ef_lst (ea_cons' (ed_ixL (ed_v (i := 3) rfl rG) ed_int (d := .int (G.getD (a + 1) 0 : Nat)) (by
        refine atI_nat (j := 0) ?_
        rw [List.getElem?_map, hg0]; rfl)) ea_nil') (by simp))) (by simp; omega)) fun pf xs Hb5 H5 hpf eb5 e5 S5 hxf rxs => ?_
      have hxs : xs = (ofN (labD [] 0 (c.take p ++ [a + 1]))).map V.int := by
        have e0 : (((labD [] 0 c).take p).map fun x => Dt.int ((x : Nat) : Int)) ++ [Dt.int (G.getD (a + 1) 0 : Nat)] = (ofN (labD [] 0 (c.take p ++ [a + 1]))).map Dt.int := by
          rw [hlab1]
          unfold ofN
          rw [List.map_append, List.map_append, List.map_map]; rfl
        rw [e0] at rxs
        exact rxs.ofInts
      subst hxs
      have hpf5 : Hb5 pf = none := (S5.at_ pf (by simp)).1
      have eb05 : Ex H Hb5 := ex.trans (eb3.trans eb5)
      refine q_while (fun z σ' H6 => ∃ k : Nat, σ' = [some v, some (.int (i : Nat)), some (.int (p : Nat)), some vG, some (.ref pf), none] ∧ k + z = i ∧ Ex Hb5 H6 ∧ H6 pf = some (.lst ((ofN (labD [] 0 (c.take p ++ (a + 1) :: List.replicate k 0))).map V.int)))
        (m0 := i) ⟨0, rfl, by omega, S5.ex, hxf⟩ fun z σ' H6 hW => ?_
      obtain ⟨k, rfl, hkz, e6, hpf6⟩ := hW
      have hcl6 : (c.take p ++ (a + 1) :: List.replicate k 0).length = p + 1 + k := by rw [List.length_append, htl]; simp; omega
      have hok6 : okK 0 (c.take p ++ (a + 1) :: List.replicate k 0) := okK_app.mpr ⟨hot.1, ⟨by omega, zero_ok⟩⟩
      have rf : ∀ {Hx : Hp}, Ex H6 Hx → Rp Any Hx (.ref pf) (dNats (labD [] 0 (c.take p ++ (a + 1) :: List.replicate k 0))) := fun {Hx} e => nats_rp (e _ _ hpf6)
      have lenF : ∀ {σ : L2.St} {Hx : Hp}, σ[4]? = some (some (.ref pf)) → Ex H6 Hx → EvD (tCB (rLenS K) (tCons (tVar 4) tNil)) σ Hx (.int ((p + 1 + k : Nat) : Int)) := fun {σ Hx} h4 e => by
        have := ed_lenL (K := K) (ed_v (σ := σ) h4 (rf e))
        rwa [List.length_map, labD_length, hcl6] at this
      refine ⟨_, H6, Ex.refl _, et_d (ed_IB (lenF rfl (Ex.refl _)) (lenE rfl (eb05.trans e6))), fun hb H7 e7 => ?_, fun hb H7 e7 => ?_⟩
      · have hlt : ((p + 1 + k : Nat) : Int) < ((n : Nat) : Int) := of_decide_eq_true hb
        refine ⟨fun σ2 H8 => σ2 = [some v, some (.int (i : Nat)), some (.int (p : Nat)), some vG, some (.ref pf), none] ∧ Ex Hb5 H8 ∧ H8 pf = some (.lst ((ofN (labD [] 0 (c.take p ++ (a + 1) :: List.replicate (k + 1) 0))).map V.int)), fun σ2 H8 hN => ?_, ?_⟩
        · obtain ⟨rfl, h1, h2⟩ := hN
          exact ⟨z - 1, by omega, k + 1, rfl, by omega, h1, h2⟩
        · have hop7 : EvD (tCall sp_l_open [] E0 (tCons (tVar 4) (tCons (tCB (rLenS K) (tCons (tVar 4) tNil)) tNil))) [some v, some (.int (i : Nat)), some (.int (p : Nat)), some vG, some (.ref pf), none] H7 (dNats (pilD [] 0 (c.take p ++ (a + 1) :: List.replicate k 0) ++ [p + 1 + k])) := (ed_call (ea_cons' (ed_v (i := 4) rfl (rf e7)) (ea_cons' (lenF rfl e7) ea_nil')) ⟨labD [] 0 (c.take p ++ (a + 1) :: List.replicate k 0), p + 1 + k, rfl, by rw [labD_length, hcl6]; exact Nat.le_refl _, by rw [labD_length, hcl6]; omega⟩ rfl).as (by
            show dNats (opG [] 0 ((natsL (dNats (labD [] 0 (c.take p ++ (a + 1) :: List.replicate k 0)))).take ((p + 1 + k : Nat) : Int).toNat) ++ [((p + 1 + k : Nat) : Int).toNat]) = _
            rw [natsL_is, Int.toNat_natCast, List.take_of_length_le (by rw [labD_length, hcl6]; exact Nat.le_refl _), opG_is pil0 hok6])
          have hnxt : labD [] 0 (c.take p ++ (a + 1) :: List.replicate (k + 1) 0) = labD [] 0 (c.take p ++ (a + 1) :: List.replicate k 0) ++ [(pilD [] 0 (c.take p ++ (a + 1) :: List.replicate k 0) ++ [p + 1 + k]).getD 0 0] := by
            have e1 : c.take p ++ (a + 1) :: List.replicate (k + 1) 0 = (c.take p ++ (a + 1) :: List.replicate k 0) ++ [0] := by
              rw [List.replicate_succ', List.append_assoc]; rfl
            rw [e1, labD_snoc, hcl6, Nat.zero_add]
          generalize hG2 : pilD [] 0 (c.take p ++ (a + 1) :: List.replicate k 0) ++ [p + 1 + k] = G2 at hop7 hnxt
          have hG2l : 0 < G2.length := by rw [← hG2]; simp
          refine s_appI (x := ((G2.getD 0 0 : Nat) : Int)) (e7 _ _ hpf6) rfl (ed_ixL hop7 ed_int (by
            refine atI_nat (j := 0) ?_
            rw [List.getElem?_map, List.getElem?_eq_getElem hG2l, List.getD_eq_getElem?_getD, List.getElem?_eq_getElem hG2l]; rfl)) (by rw [List.length_map, ofN_length, labD_length, hcl6]; omega) fun H8 keep hp8 => ?_
          refine ⟨rfl, fun b o hb => keep b o (fun z => by rw [z, hpf5] at hb; cases hb) ((e6.trans e7) _ _ hb), ?_⟩
          rw [hp8, hnxt]
          unfold ofN
          rw [List.map_append, List.map_append]; rfl
      · have hge : ¬ ((p + 1 + k : Nat) : Int) < ((n : Nat) : Int) := of_decide_eq_false hb
        have hki : k = i := by omega
        subst hki
        have e6' := e6.trans e7
        refine ⟨.ref pf, rfl, ?_⟩
        refine qS _ hok6 (by rw [hcl6]; omega) ?_ (.ref pf) H7 (eb05.trans e6') (.lst ?_ (e7 _ _ hpf6) ?_)
        · have := num_next (n := n) (a := a) (c := c.take p) (l := k) (by rw [htl]; omega) hn (by omega)
          rw [this, ← hcs]
        · show H pf = none
          cases hh : H pf with
          | none => rfl
          | some o => rw [eb05 _ _ hh] at hpf5; cases hpf5
        · show RpL _ _ ((ofN _).map V.int) ((labD [] 0 (c.take p ++ (a + 1) :: List.replicate k 0)).map fun x => Dt.int ((x : Nat) : Int))
          rw [nats_ints]
          exact RpL.ints _
    · have hnil : G.drop (a + 1) = [] := Classical.byContradiction fun z => (of_decide_eq_false hb) z
      have ha : G.length ≤ a + 1 := List.drop_eq_nil_iff.mp hnil
      have had : a = depE 0 (c.take p) := by omega
      refine ⟨_, _, _, rfl, ((ex.trans e2).trans e3).trans e4, ?_⟩
      rw [show n - (i + 1) = p by omega]
      have h1 : c.drop p = a :: topC (a + 1) i := by
        have h2 := congrArg (List.drop p) hcs
        rw [List.drop_append_of_le_length (by omega), List.drop_eq_nil_of_le (by omega : (c.take p).length ≤ p)] at h2
        exact h2
      rw [h1, ← had]; rfl
  · obtain ⟨y1, y2, y3, rfl, ex, htop⟩ := hP
    rw [Nat.sub_self] at htop
    exact qN (by simpa [depE] using htop) H' ex
end
end Nc

namespace Nc
open PySem PySem.Spec PyProof.Rows L2 Evl
section
variable {P : Program} {w : World} {K : PySem.W.Frag} {mg : Str → Option Value} {base : Heap} {f : Addr} {fd : FuncData} {T : Addr}
theorem ok_law (F : Fun K "law" "law" s_law f fd) (B : Blt mg) (C_counted : Callee P w K mg base (L2.CX P w) 3 "counted" ["many"] (sp_counted mg)) (C_number_of : Callee P w K mg base CX0 2 "number_of" ["tie"] (spT T sp_number_of)) (C_tie_of : Callee P w K mg base (L2.CX P w) 4 "tie_of" ["many", "number"] (sp_tie_ofK mg)) (C_l_cell_at : Callee P w K mg base CX0 1 "_law_cell_at" ["_law_script", "_law_k"] (sp_l_cell_at K)) (C_l_whole : Callee P w K mg base CX0 1 "_law_whole" ["_law_found"] sp_l_whole) (C_l_count : Callee P w K mg base CX0 1 "_law_count" ["_law_cell"] sp_l_count) (C_l_labels : Callee P w K mg base CX0 1 "_law_labels" ["_law_many", "_law_cell", "_law_other"] sp_l_labelsC) (C_l_is : Callee P w K mg base CX0 2 "_law_is" ["_law_found", "_law_labels_here"] sp_l_is) (C_l_tie : Callee P w K mg base CX0 2 "_law_tie" ["_law_labels_here"] sp_l_tie) (C_l_leaders : Callee P w K mg base CX0 2 "_law_leaders" ["_law_tie_here"] sp_l_leaders) (C_l_next : Callee P w K mg base CX0 2 "_law_next" ["_law_labels_here"] sp_l_next) :
    FnOk P w K mg base CX0 5 f fd ["_law_script"] (sp_lawT K [T]) := by
  refine F.ok sc_law (fun vs H Q E h => by obtain ⟨a, ns, rfl, _⟩ := h; rfl) (fun cdv A outer s H vs Q E hr h => ?_)
  obtain ⟨a, ns, rfl, hs, hTs, q⟩ := h
  have hT : H T = some (tblO T) := hTs T (by simp)
  refine ⟨_, (pss_cons (ps_set (i := 1) sc_law.nd rfl (.inl rfl) (pe_fn C_l_count (hr.mono (by decide)) (by rfl) pass0 (pa_cons (pe_fn C_l_cell_at (hr.mono (by decide)) (by rfl) pass0 (pa_cons (pv 0) (pa_cons pe_int pa_nil))) pa_nil)))
      (pss_cons (ps_set (i := 2) sc_law.nd rfl (.inl rfl) (pe_fn C_l_labels (hr.mono (by decide)) (by rfl) pass0 (pa_cons (pv 1) (pa_cons (pe_fn C_l_cell_at (hr.mono (by decide)) (by rfl) pass0 (pa_cons (pv 0) (pa_cons pe_int pa_nil))) (pa_cons (pe_fn C_l_cell_at (hr.mono (by decide)) (by rfl) pass0 (pa_cons (pv 0) (pa_cons pe_int pa_nil))) pa_nil)))))
      (pss_cons (ps_set (i := 3) sc_law.nd rfl (.inl rfl) (pe_fn C_l_tie (hr.mono (by decide)) (by rfl) pass0 (pa_cons (pv 2) pa_nil)))
      (pss_cons (ps_set (i := 4) sc_law.nd rfl (.inl rfl) (pe_fn C_number_of (hr.mono (by decide)) (by rfl) pass0 (pa_cons (pv 3) pa_nil)))
      (pss_cons (ps_if (PW.pt (pw_or (pt_not (pt_val (pe_fn C_l_whole (hr.mono (by decide)) (by rfl) pass0 (pa_cons (pv 4) pa_nil)))) (pw_or (pt_not (pt_chain op_leI op_ltI pe_int (pv 4) (pe_fn C_counted (hr.mono (by decide)) (by rfl) passL (pa_cons (pv 1) pa_nil)))) (pw_or1 (pt_not (pt_val (pe_fn C_l_is (hr.mono (by decide)) (by rfl) pass0 (pa_cons (pe_fn C_tie_of (hr.mono (by decide)) (by rfl) passL (pa_cons (pv 1) (pa_cons (pv 4) pa_nil))) (pa_cons (pv 2) pa_nil)))))))))
        (pss_one (ps_ret pe_bl))
        pss_nil)
      (pss_cons (ps_set (i := 5) sc_law.nd rfl (.inl rfl) (pe_fn C_l_labels (hr.mono (by decide)) (by rfl) pass0 (pa_cons (pv 1) (pa_cons (pe_fn C_l_cell_at (hr.mono (by decide)) (by rfl) pass0 (pa_cons (pv 0) (pa_cons pe_int pa_nil))) (pa_cons (pe_fn C_l_cell_at (hr.mono (by decide)) (by rfl) pass0 (pa_cons (pv 0) (pa_cons pe_int pa_nil))) pa_nil)))))
      (pss_cons (ps_if (pt_cmpR op_eq (pe_op op_modI (pe_fn C_l_cell_at (hr.mono (by decide)) (by rfl) pass0 (pa_cons (pv 0) (pa_cons pe_int pa_nil))) pe_int) pe_int (by first | exact nomark _ | rfl))
        (pss_one (ps_set (i := 5) sc_law.nd rfl (.inl rfl) (pe_fn C_l_leaders (hr.mono (by decide)) (by rfl) pass0 (pa_cons (pe_fn C_tie_of (hr.mono (by decide)) (by rfl) passL (pa_cons (pv 1) (pa_cons (pe_op op_modI (pe_op op_divI (pe_fn C_l_cell_at (hr.mono (by decide)) (by rfl) pass0 (pa_cons (pv 0) (pa_cons pe_int pa_nil))) pe_int) (pe_fn C_counted (hr.mono (by decide)) (by rfl) passL (pa_cons (pv 1) pa_nil))) pa_nil))) pa_nil))))
        pss_nil)
      (pss_cons (ps_set (i := 6) sc_law.nd rfl (.inl rfl) (pe_fn C_number_of (hr.mono (by decide)) (by rfl) pass0 (pa_cons (pe_fn C_l_tie (hr.mono (by decide)) (by rfl) pass0 (pa_cons (pv 5) pa_nil)) pa_nil)))
      (pss_cons (ps_if (PW.pt (pw_or (pt_cmpR op_ne (pe_cmpR op_ltI (pv 6) (pv 4) (by first | exact nomark _ | rfl)) (pe_cmpR (op_ltL hr.units) (pv 5) (pv 2) (by first | exact nomark _ | rfl)) (by first | exact nomark _ | rfl)) (pw_or1 (pt_cmpR op_ne (pe_cmpR op_eq (pv 6) (pv 4) (by first | exact nomark _ | rfl)) (pe_cmpR (op_eqD hr.units) (pv 5) (pv 2) (by first | exact nomark _ | rfl)) (by first | exact nomark _ | rfl)))))
        (pss_one (ps_ret pe_bl))
        pss_nil)
      (pss_cons (ps_set (i := 7) sc_law.nd rfl (.inl rfl) (pe_fn C_l_next (hr.mono (by decide)) (by rfl) pass0 (pa_cons (pv 2) pa_nil)))
      (pss_cons (ps_if (pt_cmpR op_isN1 (pv 7) pe_non (by first | exact nomark _ | rfl))
        (pss_one (ps_if (PW.pt (pw_or (pt_cmpR op_ne (pv 4) (pe_op op_subI (pe_fn C_counted (hr.mono (by decide)) (by rfl) passL (pa_cons (pv 1) pa_nil)) pe_int) (by first | exact nomark _ | rfl)) (pw_or1 (pt_cmpR (op_neD hr.units) (pv 2) (pe_listRg rfl (by rfl) B.list_ (prg_1 (by rfl) B.range_ (pv 1))) (by first | exact nomark _ | rfl)))))
        (pss_one (ps_ret pe_bl))
        pss_nil))
        (pss_one (ps_if (PW.pt (pw_or (pt_not (pt_val (pe_fn C_l_is (hr.mono (by decide)) (by rfl) pass0 (pa_cons (pe_fn C_tie_of (hr.mono (by decide)) (by rfl) passL (pa_cons (pv 1) (pa_cons (pe_op op_addI (pv 4) pe_int) pa_nil))) (pa_cons (pv 7) pa_nil))))) (pw_or1 (pt_cmpR op_ne (pe_fn C_number_of (hr.mono (by decide)) (by rfl) pass0 (pa_cons (pe_fn C_l_tie (hr.mono (by decide)) (by rfl) pass0 (pa_cons (pv 7) pa_nil)) pa_nil)) (pe_op op_addI (pv 4) pe_int) (by first | exact nomark _ | rfl)))))
        (pss_one (ps_ret pe_bl))
        pss_nil)))
      (pss_cons (ps_if (PW.pt (pw_or (pt_cmpR op_ne (pe_fn C_number_of (hr.mono (by decide)) (by rfl) pass0 (pa_cons (pe_fn C_l_tie (hr.mono (by decide)) (by rfl) pass0 (pa_cons (pe_op op_rep (pe_lst (pa_cons pe_int pa_nil)) (pv 1)) pa_nil)) pa_nil)) pe_int (by first | exact nomark _ | rfl)) (pw_or1 (pt_cmpR op_ne (pe_fn C_number_of (hr.mono (by decide)) (by rfl) pass0 (pa_cons (pe_fn C_l_tie (hr.mono (by decide)) (by rfl) pass0 (pa_cons (pe_listRg rfl (by rfl) B.list_ (prg_1 (by rfl) B.range_ (pv 1))) pa_nil)) pa_nil)) (pe_op op_subI (pe_fn C_counted (hr.mono (by decide)) (by rfl) passL (pa_cons (pv 1) pa_nil)) pe_int) (by first | exact nomark _ | rfl)))))
        (pss_one (ps_ret pe_bl))
        pss_nil)
      (pss_one (ps_ret (pe_and (pe_cmpR (op_eqD hr.units) (pv 3) (pe_fn C_l_tie (hr.mono (by decide)) (by rfl) pass0 (pa_cons (pv 2) pa_nil)) (by first | exact nomark _ | rfl)) (pe_one (pe_fn C_l_is (hr.mono (by decide)) (by rfl) pass0 (pa_cons (pe_fn C_tie_of (hr.mono (by decide)) (by rfl) passL (pa_cons (pv 1) (pa_cons (pv 4) pa_nil))) (pa_cons (pv 2) pa_nil))))))))))))))))))), ?_⟩
  refine q_setI (n := (countOf (ns.getD 0 0) : Nat)) (Beside.refl H) (ed_call (ea_cons' (ed_cell (k := 0) hs rfl) ea_nil') ⟨_, rfl⟩ rfl) fun H1 e1 S1 => ?_
  obtain ⟨hn1, hn60⟩ := countOf_pos (ns.getD 0 0)
  generalize countOf (ns.getD 0 0) = n at hn1 hn60
  refine q_setR S1 (er_call (ea_cons' (ed_vi rfl) (ea_cons' (ed_cell (k := 1) hs rfl) (ea_cons' (ed_cell (k := 2) hs rfl) ea_nil'))) ⟨n, _, _, rfl, hn1, hn60⟩ rfl) fun dL vL Hb2 H2 hdL eb2 e2 S2 rL => ?_
  obtain ⟨c, hcl, ho, rfl⟩ : isCode n dL := hdL
  have rL := rL.any
  refine q_set S2 (k_tie (ed_v rfl rL) (by omega)) fun vO Hb3 H3 eb3 e3 S3 rO => ?_
  have hT3 : Hb3 T = some (tblO T) := (eb2.trans eb3) T _ hT
  have hs3 := ex_l (eb2.trans eb3) hs
  replace rL := rL.mono eb3
  refine q_setI S3 (k_num (ed_v rfl rO) ho hcl hn60 hT3) fun H4 e4 S4 => ?_
  obtain ⟨hk0, hk1⟩ := numN_lt ho hcl (by omega)
  refine q_ifN (b := false) S4 (et_or (a := false) (b := false) (et_not (a := true) (et_dB (ed_call (ea_cons' (ed_vi rfl) ea_nil') trivial rfl))) fun _ => et_or (a := false) (b := false) (et_not (a := true) (et_is (et_d (ed_chain ed_int (ed_vi rfl) (k_cnt rfl hn1 hn60))) (by
    rw [Bool.and_eq_true]
    exact ⟨decide_eq_true hk0, decide_eq_true hk1⟩))) fun _ => et_not (a := true) (et_dB (k_is (k_tof rfl (ed_vi rfl) ho hcl hn1 hn60) (ed_v rfl rL) (by omega)))) (fun hb => nomatch hb) fun hb H5 e5 S5 => ?_
  -- the others
  refine q_setR S5 (er_call (ea_cons' (ed_vi rfl) (ea_cons' (ed_cell (k := 3) hs3 rfl) (ea_cons' (ed_cell (k := 4) hs3 rfl) ea_nil'))) ⟨n, _, _, rfl, hn1, hn60⟩ rfl) fun dM vM Hb6 H6 hdM eb6 e6 S6 rM => ?_
  obtain ⟨c0, hcl0, ho0, rfl⟩ : isCode n dM := hdM
  have rM := rM.any
  replace rL := rL.mono eb6
  replace rO := rO.mono eb6
  have hT6 := eb6 T _ hT3
  have hs6 := ex_l eb6 hs3
  have eH6 : Ex H Hb6 := (eb2.trans eb3).trans eb6
  refine q_ifJN (R := fun σ' H' => ∃ (c2 : List Nat) (v5 : V) (Hb : Hp), σ' = [some (.ref a), some (.int (n : Nat)), some vL, some vO, some (.int (numN n c)), some v5, none, none] ∧ c2.length = n ∧ okK 0 c2 ∧ Ex Hb6 Hb ∧ Beside Hb [] H' ∧ Rp Any Hb v5 (dNats (labD [] 0 c2))) S6 (et_d (ed_eqI (ed_CI (ed_cell (k := 5) hs6 rfl) ed_int (by decide)) ed_int)) (fun kk hb H7 e7 S7 => ?_) (fun hb H7 e7 S7 => ⟨c0, vM, Hb6, rfl, hcl0, ho0, Ex.refl _, S7, rM⟩) fun σ' H7 hR => ?_
  · have hpos : 0 < catI n := by
      have := endI_pos (l := n) (d := 0) (by omega) (by omega)
      show 0 < endI n 0
      omega
    obtain ⟨c2, hok2, hcl2, hnum2⟩ := num_sur (n := n) (d := 0) (k := ns.getD 5 0 / 2 % catI n) (Int.emod_nonneg _ (by omega)) (Int.emod_lt_of_pos _ hpos) (by omega)
    refine ((ed_call (ea_cons' (k_tof rfl ((ed_CI (ed_CI (ed_cell (k := 5) hs6 rfl) ed_int (by unfold CDiv; omega)) (k_cnt rfl hn1 hn60) hpos).as (d' := .int (numN n c2)) (congrArg Dt.int hnum2.symm)) hok2 hcl2 hn1 hn60) ea_nil') ⟨c2, rfl, hok2, by omega⟩ rfl).as (d' := dNats (labD [] 0 c2)) (by
      show dNats (leadersM (tieC c2).many (tieC c2).grps) = _
      unfold tieC
      rw [many_dTie, grps_dTie, tieC_leaders hok2])) _ _ S7 _ fun v8 H8 e8 r8 => ?_
    exact kk _ _ ⟨c2, v8, less H8 [], rfl, hcl2, hok2, S7.lessEx e8, (S7.on e8).sep, r8⟩
  clear rM S6 S5 S4 S3 S2 S1
  obtain ⟨c2, v5, Hb7, rfl, hcl2, ho2, eb7, S7, rM⟩ := hR
  replace rL := rL.mono eb7
  replace rO := rO.mono eb7
  have hT7 := eb7 T _ hT6
  have eH7 := eH6.trans eb7
  refine q_setI S7 (k_num (k_tie (ed_v rfl rM) (by omega)) ho2 hcl2 hn60 hT7) fun H8 e8 S8 => ?_
  have hlt : decide (numN n c2 < numN n c) = decide (labD [] 0 c2 < labD [] 0 c) := by
    rw [decide_eq_decide, numN_lt_iff ho2 ho hcl2 hcl (by omega)]
    exact (labD_iff pil0 ho2 ho (by omega)).1.symm
  have heq : decide (numN n c2 = numN n c) = decide (labD [] 0 c2 = labD [] 0 c) := by
    rw [decide_eq_decide, numN_inj ho2 ho hcl2 hcl (by omega)]
    exact (labD_iff pil0 ho2 ho (by omega)).2.symm
  refine q_ifN (b := false) S8 (et_or (a := false) (b := false) (et_is (et_d (ed_neB (ed_IB (ed_vi rfl) (ed_vi rfl)) (ed_ltL ((ed_v rfl rM).as (dNats_ofN _)) ((ed_v rfl rL).as (dNats_ofN _))))) (by rw [hlt]; simp)) fun _ => et_is (et_d (ed_neB (ed_eqI (ed_vi rfl) (ed_vi rfl)) (ed_eqD (b := decide (labD [] 0 c2 = labD [] 0 c)) (ed_v rfl rM) (ed_v rfl rL) (fit_nats _) (fit_nats _) (by rw [decide_eq_true_iff]; exact dNats_inj.symm)))) (by rw [heq]; simp)) (fun hb => nomatch hb) fun hb H9 e9 S9 => ?_
  -- the next one
  refine q_setR S9 (er_call (ea_cons' (ed_v rfl rL) ea_nil') ⟨c, rfl, ho, by omega⟩ rfl) fun dN vN Hb10 H10 hdN eb10 e10 S10 rN => ?_
  have hdN := hdN c rfl ho
  rw [hcl] at hdN
  have rN := rN.any
  replace rL := rL.mono eb10
  replace rO := rO.mono eb10
  have hT10 := eb10 T _ hT7
  have eH10 := eH7.trans eb10
  refine q_ifJ4 (R := fun σ' H' => σ' = [some (.ref a), some (.int (n : Nat)), some vL, some vO, some (.int (numN n c)), some v5, some (.int (numN n c2)), some vN] ∧ Beside Hb10 [] H') S10 (et_d (ed_isN (ed_v rfl rN))) (fun kk hb H11 e11 S11 => ?_) (fun kk hb H11 e11 S11 => ?_) fun σ' H11 hR => ?_
  · rcases hdN with ⟨htop, rfl⟩ | ⟨c', _, _, _, rfl⟩
    · have hnum : numN n c = catI n - 1 := by
        rw [htop]
        exact topC_num (by omega)
      have hlab : labD [] 0 c = List.range n := by rw [htop, lab_top0]
      refine s_ifN (b := false) S11 (et_or (a := false) (b := false) (et_is (et_d (ed_neI (ed_vi rfl) (ed_II (k_cnt rfl hn1 hn60) ed_int))) (by rw [hnum]; simp)) fun _ => et_d (ed_neD (b := false) (ed_v rfl rL) ((EvF.dd (ef_lstRg (ed_vi rfl) (by omega))).as (d' := dNats (labD [] 0 c)) (by rw [hlab]; rfl)) (fit_nats _) (fit_nats _) (by simp))) (fun hb => nomatch hb) fun _ H12 e12 S12 => kk _ _ ⟨rfl, S12⟩
    · cases hb
  · rcases hdN with ⟨htop, rfl⟩ | ⟨c', ho', hcl', hnum', rfl⟩
    · cases hb
    · refine s_ifN (b := false) S11 (et_or (a := false) (b := false) (et_not (a := true) (et_dB (k_is (k_tof rfl ((ed_II (ed_vi rfl) ed_int).as (d' := .int (numN n c')) (congrArg Dt.int hnum'.symm)) ho' hcl' hn1 hn60) (ed_v rfl rN) (by omega)))) fun _ => et_is (et_d (ed_neI (k_num (k_tie (ed_v rfl rN) (by omega)) ho' hcl' hn60 hT10) (ed_II (ed_vi rfl) ed_int))) (by rw [hnum']; simp)) (fun hb => nomatch hb) fun _ H12 e12 S12 => kk _ _ ⟨rfl, S12⟩
  obtain ⟨rfl, S11⟩ := hR
  -- the ends
  have hz : Dt.lst (List.replicate n (Dt.int 0)) = dNats (labD [] 0 (List.replicate n 0)) := by
    rw [lab_zero0]
    show _ = Dt.lst ((List.replicate n 0).map fun x => Dt.int ((x : Nat) : Int))
    rw [List.map_replicate]; rfl
  have ht : Dt.lst ((List.range n).map fun i => Dt.int (i : Nat)) = dNats (labD [] 0 (topC 0 n)) := by rw [lab_top0]; rfl
  refine q_ifN (b := false) S11 (et_or (a := false) (b := false) (et_is (et_d (ed_neI (k_num (n := n) (k_tie (c := List.replicate n 0) ((EvF.dd (ef_rep (n := n) (EvF.dd (ef_lst (ea_cons' ed_int ea_nil') (by simp))) (ed_vi rfl) rfl (by omega))).as hz) (by rw [List.length_replicate]; omega)) zero_ok List.length_replicate hn60 hT10) ed_int)) (by rw [zero_num]; simp)) fun _ => et_is (et_d (ed_neI (k_num (n := n) (k_tie (c := topC 0 n) ((EvF.dd (ef_lstRg (ed_vi rfl) (by omega))).as ht) (by rw [topC_length]; omega)) topC_ok topC_length hn60 hT10) (ed_II (k_cnt rfl hn1 hn60) ed_int))) (by rw [topC_num (by omega)]; simp [catI])) (fun hb => nomatch hb) fun hb H12 e12 S12 => ?_
  have fitT : (tieC c).fit := by
    unfold tieC
    exact fit_tie _ _
  refine s_retD S12 (ed_and (a := true) (b := true) (ed_eqD (b := true) (ed_v rfl rO) (k_tie (ed_v rfl rL) (by omega)) fitT fitT (by simp)) fun _ => k_is (k_tof rfl (ed_vi rfl) ho hcl hn1 hn60) (ed_v rfl rL) (by omega)) fun v13 H13 e13 r13 => ?_
  rw [r13.blI]
  exact q H13 ((eH10.trans S12.ex).trans e13)
end
end Nc

namespace Nc
open PySem PySem.Spec PyProof.Rows L2 Evl
theorem all_mk {l : PySem.W.OpenLaw} {w : World} {K : PySem.W.Frag} {h : Heap} {mg : Str → Option Value} {fa : Addr} (X : K.In h) (G : h.Ns mainGlobals mg) (hfa : mg "law" = some (.ref fa)) (tabs : ∀ y ∈ (["number_of"] : List Str), TabOf K mg h y)
    {f0 : Addr} {od0 an0 : Option Addr} {sl0 : Array (Option Value)} {oc0 kV0 dc0 pm0 cd0 ct0 : Value}
    {f1 : Addr} {od1 an1 : Option Addr} {sl1 : Array (Option Value)} {oc1 kV1 dc1 pm1 cd1 ct1 : Value}
    {f2 : Addr} {od2 an2 : Option Addr} {sl2 : Array (Option Value)} {oc2 kV2 dc2 pm2 cd2 ct2 : Value}
    {f3 : Addr} {od3 an3 : Option Addr} {sl3 : Array (Option Value)} {oc3 kV3 dc3 pm3 cd3 ct3 : Value}
    {f4 : Addr} {od4 an4 : Option Addr} {sl4 : Array (Option Value)} {oc4 kV4 dc4 pm4 cd4 ct4 : Value}
    {f5 : Addr} {od5 an5 : Option Addr} {sl5 : Array (Option Value)} {oc5 kV5 dc5 pm5 cd5 ct5 : Value}
    {f6 c6 P6 : Addr} {od6 an6 : Option Addr} {sl6 : Array (Option Value)} {oc6 kV6 dc6 pm6 ct6 ce6 : Value} {cd6 : Option Addr} {cv6 : Array Value} {cs6 : Array (Option Value)}
    {f7 : Addr} {od7 an7 : Option Addr} {sl7 : Array (Option Value)} {oc7 kV7 dc7 pm7 cd7 ct7 : Value}
    {f8 : Addr} {od8 an8 : Option Addr} {sl8 : Array (Option Value)} {oc8 kV8 dc8 pm8 cd8 ct8 : Value}
    {f9 : Addr} {od9 an9 : Option Addr} {sl9 : Array (Option Value)} {oc9 kV9 dc9 pm9 cd9 ct9 : Value}
    {f10 : Addr} {od10 an10 : Option Addr} {sl10 : Array (Option Value)} {oc10 kV10 dc10 pm10 cd10 ct10 : Value}
    {f11 : Addr} {od11 an11 : Option Addr} {sl11 : Array (Option Value)} {oc11 kV11 dc11 pm11 cd11 ct11 : Value}
    {f12 : Addr} {od12 an12 : Option Addr} {sl12 : Array (Option Value)} {oc12 kV12 dc12 pm12 cd12 ct12 : Value}
    {f13 : Addr} {od13 an13 : Option Addr} {sl13 : Array (Option Value)} {oc13 kV13 dc13 pm13 cd13 ct13 : Value}
    {f14 : Addr} {od14 an14 : Option Addr} {sl14 : Array (Option Value)} {oc14 kV14 dc14 pm14 cd14 ct14 : Value}
    {f15 : Addr} {od15 an15 : Option Addr} {sl15 : Array (Option Value)} {oc15 kV15 dc15 pm15 cd15 ct15 : Value}
    {f16 : Addr} {od16 an16 : Option Addr} {sl16 : Array (Option Value)} {oc16 kV16 dc16 pm16 cd16 ct16 : Value}
    {f17 : Addr} {od17 an17 : Option Addr} {sl17 : Array (Option Value)} {oc17 kV17 dc17 pm17 cd17 ct17 : Value}
    {f18 : Addr} {od18 an18 : Option Addr} {sl18 : Array (Option Value)} {oc18 kV18 dc18 pm18 cd18 ct18 : Value}
    {f19 : Addr} {od19 an19 : Option Addr} {sl19 : Array (Option Value)} {oc19 kV19 dc19 pm19 cd19 ct19 : Value}
    {t_MOST : Tok}
    {E_BadCount : Addr}
    {E_NoNumber : Addr}
    (a0 : PySem.W.nsIn K mainGlobals "is_whole" = some (some (.ref f0))) (l0 : K.lookup f0 = some ⟨oc0, od0, .func (PySem.W.fnOf "is_whole" "is_whole" (defArgs s_is_whole) (defBody s_is_whole) (defScope s_is_whole) .none kV0 dc0 pm0 an0 cd0 ct0), sl0⟩) (c0 : PySem.W.codeIn K cd0 "is_whole" = true) (k0 : PySem.W.keepIn K (.ref f0) = true)
    (a1 : PySem.W.nsIn K mainGlobals "check_count" = some (some (.ref f1))) (l1 : K.lookup f1 = some ⟨oc1, od1, .func (PySem.W.fnOf "check_count" "check_count" (defArgs s_check_count) (defBody s_check_count) (defScope s_check_count) .none kV1 dc1 pm1 an1 cd1 ct1), sl1⟩) (c1 : PySem.W.codeIn K cd1 "check_count" = true) (k1 : PySem.W.keepIn K (.ref f1) = true)
    (a2 : PySem.W.nsIn K mainGlobals "gathered" = some (some (.ref f2))) (l2 : K.lookup f2 = some ⟨oc2, od2, .func (PySem.W.fnOf "gathered" "gathered" (defArgs s_gathered) (defBody s_gathered) (defScope s_gathered) .none kV2 dc2 pm2 an2 cd2 ct2), sl2⟩) (c2 : PySem.W.codeIn K cd2 "gathered" = true) (k2 : PySem.W.keepIn K (.ref f2) = true)
    (a3 : PySem.W.nsIn K mainGlobals "leaders" = some (some (.ref f3))) (l3 : K.lookup f3 = some ⟨oc3, od3, .func (PySem.W.fnOf "leaders" "leaders" (defArgs s_leaders) (defBody s_leaders) (defScope s_leaders) .none kV3 dc3 pm3 an3 cd3 ct3), sl3⟩) (c3 : PySem.W.codeIn K cd3 "leaders" = true) (k3 : PySem.W.keepIn K (.ref f3) = true)
    (a4 : PySem.W.nsIn K mainGlobals "_endings" = some (some (.ref f4))) (l4 : K.lookup f4 = some ⟨oc4, od4, .func (PySem.W.fnOf "_endings" "_endings" (defArgs s__endings) (defBody s__endings) (defScope s__endings) .none kV4 dc4 pm4 an4 cd4 ct4), sl4⟩) (c4 : PySem.W.codeIn K cd4 "_endings" = true) (k4 : PySem.W.keepIn K (.ref f4) = true)
    (a5 : PySem.W.nsIn K mainGlobals "counted" = some (some (.ref f5))) (l5 : K.lookup f5 = some ⟨oc5, od5, .func (PySem.W.fnOf "counted" "counted" (defArgs s_counted) (defBody s_counted) (defScope s_counted) .none kV5 dc5 pm5 an5 cd5 ct5), sl5⟩) (c5 : PySem.W.codeIn K cd5 "counted" = true) (k5 : PySem.W.keepIn K (.ref f5) = true)
    (a6 : PySem.W.nsIn K mainGlobals "number_of" = some (some (.ref f6))) (l6 : K.lookup f6 = some ⟨oc6, od6, .func (PySem.W.fnOf "number_of" "number_of" (defArgs s_number_of) (defBody s_number_of) (defScope s_number_of) .none kV6 dc6 pm6 an6 (.ref c6) ct6), sl6⟩) (c6q : PySem.W.codeIn K (.ref c6) "number_of" = true) (k6 : PySem.W.keepIn K (.ref f6) = true)
    (e6 : K.lookup c6 = some ⟨ce6, cd6, .fields cv6, cs6⟩) (g6 : cv6[11]? = some (.ref P6)) (d6 : PySem.W.codeHdIn K c6 P6 = true) (t6 : K.lookup P6 = none)
    (a7 : PySem.W.nsIn K mainGlobals "tie_of" = some (some (.ref f7))) (l7 : K.lookup f7 = some ⟨oc7, od7, .func (PySem.W.fnOf "tie_of" "tie_of" (defArgs s_tie_of) (defBody s_tie_of) (defScope s_tie_of) .none kV7 dc7 pm7 an7 cd7 ct7), sl7⟩) (c7 : PySem.W.codeIn K cd7 "tie_of" = true) (k7 : PySem.W.keepIn K (.ref f7) = true)
    (a8 : PySem.W.nsIn K mainGlobals "_law_cell_at" = some (some (.ref f8))) (l8 : K.lookup f8 = some ⟨oc8, od8, .func (PySem.W.fnOf "_law_cell_at" "_law_cell_at" (defArgs s_l_cell_at) (defBody s_l_cell_at) (defScope s_l_cell_at) .none kV8 dc8 pm8 an8 cd8 ct8), sl8⟩) (c8 : PySem.W.codeIn K cd8 "_law_cell_at" = true) (k8 : PySem.W.keepIn K (.ref f8) = true)
    (a9 : PySem.W.nsIn K mainGlobals "_law_whole" = some (some (.ref f9))) (l9 : K.lookup f9 = some ⟨oc9, od9, .func (PySem.W.fnOf "_law_whole" "_law_whole" (defArgs s_l_whole) (defBody s_l_whole) (defScope s_l_whole) .none kV9 dc9 pm9 an9 cd9 ct9), sl9⟩) (c9 : PySem.W.codeIn K cd9 "_law_whole" = true) (k9 : PySem.W.keepIn K (.ref f9) = true)
    (a10 : PySem.W.nsIn K mainGlobals "_law_count" = some (some (.ref f10))) (l10 : K.lookup f10 = some ⟨oc10, od10, .func (PySem.W.fnOf "_law_count" "_law_count" (defArgs s_l_count) (defBody s_l_count) (defScope s_l_count) .none kV10 dc10 pm10 an10 cd10 ct10), sl10⟩) (c10 : PySem.W.codeIn K cd10 "_law_count" = true) (k10 : PySem.W.keepIn K (.ref f10) = true)
    (a11 : PySem.W.nsIn K mainGlobals "_law_labels" = some (some (.ref f11))) (l11 : K.lookup f11 = some ⟨oc11, od11, .func (PySem.W.fnOf "_law_labels" "_law_labels" (defArgs s_l_labels) (defBody s_l_labels) (defScope s_l_labels) .none kV11 dc11 pm11 an11 cd11 ct11), sl11⟩) (c11 : PySem.W.codeIn K cd11 "_law_labels" = true) (k11 : PySem.W.keepIn K (.ref f11) = true)
    (a12 : PySem.W.nsIn K mainGlobals "_law_groups" = some (some (.ref f12))) (l12 : K.lookup f12 = some ⟨oc12, od12, .func (PySem.W.fnOf "_law_groups" "_law_groups" (defArgs s_l_groups) (defBody s_l_groups) (defScope s_l_groups) .none kV12 dc12 pm12 an12 cd12 ct12), sl12⟩) (c12 : PySem.W.codeIn K cd12 "_law_groups" = true) (k12 : PySem.W.keepIn K (.ref f12) = true)
    (a13 : PySem.W.nsIn K mainGlobals "_law_is" = some (some (.ref f13))) (l13 : K.lookup f13 = some ⟨oc13, od13, .func (PySem.W.fnOf "_law_is" "_law_is" (defArgs s_l_is) (defBody s_l_is) (defScope s_l_is) .none kV13 dc13 pm13 an13 cd13 ct13), sl13⟩) (c13 : PySem.W.codeIn K cd13 "_law_is" = true) (k13 : PySem.W.keepIn K (.ref f13) = true)
    (a14 : PySem.W.nsIn K mainGlobals "_law_tie" = some (some (.ref f14))) (l14 : K.lookup f14 = some ⟨oc14, od14, .func (PySem.W.fnOf "_law_tie" "_law_tie" (defArgs s_l_tie) (defBody s_l_tie) (defScope s_l_tie) .none kV14 dc14 pm14 an14 cd14 ct14), sl14⟩) (c14 : PySem.W.codeIn K cd14 "_law_tie" = true) (k14 : PySem.W.keepIn K (.ref f14) = true)
    (a15 : PySem.W.nsIn K mainGlobals "_law_flat" = some (some (.ref f15))) (l15 : K.lookup f15 = some ⟨oc15, od15, .func (PySem.W.fnOf "_law_flat" "_law_flat" (defArgs s_l_flat) (defBody s_l_flat) (defScope s_l_flat) .none kV15 dc15 pm15 an15 cd15 ct15), sl15⟩) (c15 : PySem.W.codeIn K cd15 "_law_flat" = true) (k15 : PySem.W.keepIn K (.ref f15) = true)
    (a16 : PySem.W.nsIn K mainGlobals "_law_leaders" = some (some (.ref f16))) (l16 : K.lookup f16 = some ⟨oc16, od16, .func (PySem.W.fnOf "_law_leaders" "_law_leaders" (defArgs s_l_leaders) (defBody s_l_leaders) (defScope s_l_leaders) .none kV16 dc16 pm16 an16 cd16 ct16), sl16⟩) (c16 : PySem.W.codeIn K cd16 "_law_leaders" = true) (k16 : PySem.W.keepIn K (.ref f16) = true)
    (a17 : PySem.W.nsIn K mainGlobals "_law_open" = some (some (.ref f17))) (l17 : K.lookup f17 = some ⟨oc17, od17, .func (PySem.W.fnOf "_law_open" "_law_open" (defArgs s_l_open) (defBody s_l_open) (defScope s_l_open) .none kV17 dc17 pm17 an17 cd17 ct17), sl17⟩) (c17 : PySem.W.codeIn K cd17 "_law_open" = true) (k17 : PySem.W.keepIn K (.ref f17) = true)
    (a18 : PySem.W.nsIn K mainGlobals "_law_next" = some (some (.ref f18))) (l18 : K.lookup f18 = some ⟨oc18, od18, .func (PySem.W.fnOf "_law_next" "_law_next" (defArgs s_l_next) (defBody s_l_next) (defScope s_l_next) .none kV18 dc18 pm18 an18 cd18 ct18), sl18⟩) (c18 : PySem.W.codeIn K cd18 "_law_next" = true) (k18 : PySem.W.keepIn K (.ref f18) = true)
    (a19 : PySem.W.nsIn K mainGlobals "law" = some (some (.ref f19))) (l19 : K.lookup f19 = some ⟨oc19, od19, .func (PySem.W.fnOf "law" "law" (defArgs s_law) (defBody s_law) (defScope s_law) .none kV19 dc19 pm19 an19 cd19 ct19), sl19⟩) (c19 : PySem.W.codeIn K cd19 "law" = true) (k19 : PySem.W.keepIn K (.ref f19) = true)
    (a_MOST : PySem.W.nsIn K mainGlobals "MOST" = some (some (.int 60 t_MOST)))
    (ax_BadCount : PySem.W.nsIn K mainGlobals "BadCount" = some (some (.ref E_BadCount))) (kx_BadCount : PySem.W.keepIn K (.ref E_BadCount) = true) (ex_BadCount : PySem.W.excIn K E_BadCount [.type "ValueError", .type "Exception", .type "BaseException", .type "object"] "ValueError.__new__" = true) (bx_BadCount : PySem.W.subIn K (.ref E_BadCount) (.type "BaseException") = some true) (tx_BadCount : PySem.W.typeIn K (.ref E_BadCount) = some (.type "type"))
    (ax_NoNumber : PySem.W.nsIn K mainGlobals "NoNumber" = some (some (.ref E_NoNumber))) (kx_NoNumber : PySem.W.keepIn K (.ref E_NoNumber) = true) (ex_NoNumber : PySem.W.excIn K E_NoNumber [.type "ValueError", .type "Exception", .type "BaseException", .type "object"] "ValueError.__new__" = true) (bx_NoNumber : PySem.W.subIn K (.ref E_NoNumber) (.type "BaseException") = some true) (tx_NoNumber : PySem.W.typeIn K (.ref E_NoNumber) = some (.type "type"))
    (zb_comb : PySem.W.nsIn K mainGlobals "comb" = some (some (.builtin "math.comb")))
    (z_len : PySem.W.nsIn K mainGlobals "len" = some none)
    (z_range : PySem.W.nsIn K mainGlobals "range" = some none)
    (z_tuple : PySem.W.nsIn K mainGlobals "tuple" = some none)
    (z_list : PySem.W.nsIn K mainGlobals "list" = some none)
    (z_isinstance : PySem.W.nsIn K mainGlobals "isinstance" = some none)
    (z_int : PySem.W.nsIn K mainGlobals "int" = some none)
    (z_bool : PySem.W.nsIn K mainGlobals "bool" = some none)
    (z_str : PySem.W.nsIn K mainGlobals "str" = some none)
    (z_enumerate : PySem.W.nsIn K mainGlobals "enumerate" = some none)
    (z_zip : PySem.W.nsIn K mainGlobals "zip" = some none)
    (z_sorted : PySem.W.nsIn K mainGlobals "sorted" = some none)
    (z_sum : PySem.W.nsIn K mainGlobals "sum" = some none)
    (z_min : PySem.W.nsIn K mainGlobals "min" = some none)
    (z_max : PySem.W.nsIn K mainGlobals "max" = some none)
    (z_all : PySem.W.nsIn K mainGlobals "all" = some none)
    (z_any : PySem.W.nsIn K mainGlobals "any" = some none) :
    LawT l w K 5 63 "_law_script" mg fa h := by
  have e := hfa.symm.trans (PySem.W.mg_of X G a19)
  cases e
  have B : Blt mg := ⟨PySem.W.mg_none_of X G z_len, PySem.W.mg_none_of X G z_range, PySem.W.mg_none_of X G z_tuple, PySem.W.mg_none_of X G z_list, PySem.W.mg_none_of X G z_isinstance, PySem.W.mg_none_of X G z_int, PySem.W.mg_none_of X G z_bool, PySem.W.mg_none_of X G z_str, PySem.W.mg_none_of X G z_enumerate, PySem.W.mg_none_of X G z_zip, PySem.W.mg_none_of X G z_sorted, PySem.W.mg_none_of X G z_sum, PySem.W.mg_none_of X G z_min, PySem.W.mg_none_of X G z_max, PySem.W.mg_none_of X G z_all, PySem.W.mg_none_of X G z_any⟩
  have x_BadCount : ExcT K mg "BadCount" (clO mg "BadCount") := by
    have g := PySem.W.mg_of X G ax_BadCount
    have hC : clO mg "BadCount" = E_BadCount := by
      unfold clO
      rw [g]
    rw [hC]
    exact ⟨g, kx_BadCount, ex_BadCount, bx_BadCount, tx_BadCount⟩
  have x_NoNumber : ExcT K mg "NoNumber" (clO mg "NoNumber") := by
    have g := PySem.W.mg_of X G ax_NoNumber
    have hC : clO mg "NoNumber" = E_NoNumber := by
      unfold clO
      rw [g]
    rw [hC]
    exact ⟨g, kx_NoNumber, ex_NoNumber, bx_NoNumber, tx_NoNumber⟩
  have b_comb := PySem.W.mg_of X G zb_comb
  have F0 := fun_mk (st := s_is_whole) l0 c0 k0
  have F1 := fun_mk (st := s_check_count) l1 c1 k1
  have F2 := fun_mk (st := s_gathered) l2 c2 k2
  have F3 := fun_mk (st := s_leaders) l3 c3 k3
  have F4 := fun_mk (st := s__endings) l4 c4 k4
  have F5 := fun_mk (st := s_counted) l5 c5 k5
  have F6 := funC_mk (st := s_number_of) l6 c6q k6 d6
  have F7 := fun_mk (st := s_tie_of) l7 c7 k7
  have F8 := fun_mk (st := s_l_cell_at) l8 c8 k8
  have F9 := fun_mk (st := s_l_whole) l9 c9 k9
  have F10 := fun_mk (st := s_l_count) l10 c10 k10
  have F11 := fun_mk (st := s_l_labels) l11 c11 k11
  have F12 := fun_mk (st := s_l_groups) l12 c12 k12
  have F13 := fun_mk (st := s_l_is) l13 c13 k13
  have F14 := fun_mk (st := s_l_tie) l14 c14 k14
  have F15 := fun_mk (st := s_l_flat) l15 c15 k15
  have F16 := fun_mk (st := s_l_leaders) l16 c16 k16
  have F17 := fun_mk (st := s_l_open) l17 c17 k17
  have F18 := fun_mk (st := s_l_next) l18 c18 k18
  have F19 := fun_mk (st := s_law) l19 c19 k19
  refine ⟨PySem.W.fnOf "law" "law" (defArgs s_law) (defBody s_law) (defScope s_law) .none kV19 dc19 pm19 an19 cd19 ct19, [(c6, P6)], sp_lawT K [P6], fun p hp => ?_, fun s v => .of_eq rfl, fun H a ns _ hT hS => lawT_use (cs := [(c6, P6)]) hT hS, fun base hK hN hTB => ?_⟩
  · have hp : p = (c6, P6) := by simpa using hp
    subst hp
    exact ⟨tabs "number_of" (by simp) _ (PySem.W.mg_of X G a6) c6 P6 _ _ _ _ _ _ l6 rfl rfl e6 g6, t6, PySem.W.codeHd_of_K X d6⟩
  have C_is_whole : Callee l.prog w K mg base CX0 1 "is_whole" ["value"] sp_is_whole := ⟨_, _, ok_is_whole F0 B , PySem.W.mg_of X G a0, k0, F0.binds (ps := ["value"]) fun _ _ _ _ _ _ us hl => match us, hl with | [_], _ => rfl⟩
  have C_check_count : Callee l.prog w K mg base (L2.CX l.prog w) 2 "check_count" ["many"] (sp_check_countE mg) := ⟨_, _, ok_check_count F1 B (g_MOST := (PySem.W.mg_of X G a_MOST)) (x_BadCount := x_BadCount) (C_is_whole := C_is_whole), PySem.W.mg_of X G a1, k1, F1.binds (ps := ["many"]) fun _ _ _ _ _ _ us hl => match us, hl with | [_], _ => rfl⟩
  have C_gathered : Callee l.prog w K mg base CX0 1 "gathered" ["marks"] sp_gathered := ⟨_, _, ok_gathered F2 B , PySem.W.mg_of X G a2, k2, F2.binds (ps := ["marks"]) fun _ _ _ _ _ _ us hl => match us, hl with | [_], _ => rfl⟩
  have C_leaders : Callee l.prog w K mg base CX0 1 "leaders" ["tie"] sp_leaders := ⟨_, _, ok_leaders F3 B , PySem.W.mg_of X G a3, k3, F3.binds (ps := ["tie"]) fun _ _ _ _ _ _ us hl => match us, hl with | [_], _ => rfl⟩
  have C__endings : Callee l.prog w K mg base CX0 1 "_endings" ["left", "deep"] sp__endings := ⟨_, _, ok__endings F4 B (b_comb := b_comb), PySem.W.mg_of X G a4, k4, F4.binds (ps := ["left", "deep"]) fun _ _ _ _ _ _ us hl => match us, hl with | [_, _], _ => rfl⟩
  have Z__endings := calm__endings (P := l.prog) (w := w) F4 (PySem.W.mg_of X G a4) b_comb
  have C_counted : Callee l.prog w K mg base (L2.CX l.prog w) 3 "counted" ["many"] (sp_counted mg) := ⟨_, _, ok_counted F5 B (C_check_count := C_check_count) (C__endings := C__endings), PySem.W.mg_of X G a5, k5, F5.binds (ps := ["many"]) fun _ _ _ _ _ _ us hl => match us, hl with | [_], _ => rfl⟩
  have C_number_of : Callee l.prog w K mg base CX0 2 "number_of" ["tie"] (spT P6 sp_number_of) := ⟨_, _, ok_number_of (hTB (c6, P6) (by simp)) F6 B (Z__endings := Z__endings) (C_leaders := C_leaders), PySem.W.mg_of X G a6, k6, F6.fn.binds (ps := ["tie"]) fun _ _ _ _ _ _ us hl => match us, hl with | [_], _ => rfl⟩
  have C_tie_of : Callee l.prog w K mg base (L2.CX l.prog w) 4 "tie_of" ["many", "number"] (sp_tie_ofK mg) := ⟨_, _, ok_tie_of F7 B (x_NoNumber := x_NoNumber) (C_check_count := C_check_count) (C_is_whole := C_is_whole) (C_counted := C_counted) (C__endings := C__endings) (C_gathered := C_gathered), PySem.W.mg_of X G a7, k7, F7.binds (ps := ["many", "number"]) fun _ _ _ _ _ _ us hl => match us, hl with | [_, _], _ => rfl⟩
  have C_l_cell_at : Callee l.prog w K mg base CX0 1 "_law_cell_at" ["_law_script", "_law_k"] (sp_l_cell_at K) := ⟨_, _, ok_l_cell_at F8 B , PySem.W.mg_of X G a8, k8, F8.binds (ps := ["_law_script", "_law_k"]) fun _ _ _ _ _ _ us hl => match us, hl with | [_, _], _ => rfl⟩
  have C_l_whole : Callee l.prog w K mg base CX0 1 "_law_whole" ["_law_found"] sp_l_whole := ⟨_, _, ok_l_whole F9 B , PySem.W.mg_of X G a9, k9, F9.binds (ps := ["_law_found"]) fun _ _ _ _ _ _ us hl => match us, hl with | [_], _ => rfl⟩
  have C_l_count : Callee l.prog w K mg base CX0 1 "_law_count" ["_law_cell"] sp_l_count := ⟨_, _, ok_l_count F10 B , PySem.W.mg_of X G a10, k10, F10.binds (ps := ["_law_cell"]) fun _ _ _ _ _ _ us hl => match us, hl with | [_], _ => rfl⟩
  have C_l_labels : Callee l.prog w K mg base CX0 1 "_law_labels" ["_law_many", "_law_cell", "_law_other"] sp_l_labelsC := ⟨_, _, ok_l_labels F11 B , PySem.W.mg_of X G a11, k11, F11.binds (ps := ["_law_many", "_law_cell", "_law_other"]) fun _ _ _ _ _ _ us hl => match us, hl with | [_, _, _], _ => rfl⟩
  have C_l_groups : Callee l.prog w K mg base CX0 1 "_law_groups" ["_law_labels_here"] sp_l_groups := ⟨_, _, ok_l_groups F12 B , PySem.W.mg_of X G a12, k12, F12.binds (ps := ["_law_labels_here"]) fun _ _ _ _ _ _ us hl => match us, hl with | [_], _ => rfl⟩
  have C_l_is : Callee l.prog w K mg base CX0 2 "_law_is" ["_law_found", "_law_labels_here"] sp_l_is := ⟨_, _, ok_l_is F13 B (C_l_groups := C_l_groups) (C_l_whole := C_l_whole), PySem.W.mg_of X G a13, k13, F13.binds (ps := ["_law_found", "_law_labels_here"]) fun _ _ _ _ _ _ us hl => match us, hl with | [_, _], _ => rfl⟩
  have C_l_tie : Callee l.prog w K mg base CX0 2 "_law_tie" ["_law_labels_here"] sp_l_tie := ⟨_, _, ok_l_tie F14 B (C_l_groups := C_l_groups), PySem.W.mg_of X G a14, k14, F14.binds (ps := ["_law_labels_here"]) fun _ _ _ _ _ _ us hl => match us, hl with | [_], _ => rfl⟩
  have C_l_flat : Callee l.prog w K mg base CX0 1 "_law_flat" ["_law_tie_here"] sp_l_flat := ⟨_, _, ok_l_flat F15 B , PySem.W.mg_of X G a15, k15, F15.binds (ps := ["_law_tie_here"]) fun _ _ _ _ _ _ us hl => match us, hl with | [_], _ => rfl⟩
  have C_l_leaders : Callee l.prog w K mg base CX0 2 "_law_leaders" ["_law_tie_here"] sp_l_leaders := ⟨_, _, ok_l_leaders F16 B (C_l_flat := C_l_flat), PySem.W.mg_of X G a16, k16, F16.binds (ps := ["_law_tie_here"]) fun _ _ _ _ _ _ us hl => match us, hl with | [_], _ => rfl⟩
  have C_l_open : Callee l.prog w K mg base CX0 1 "_law_open" ["_law_labels_here", "_law_place"] sp_l_open := ⟨_, _, ok_l_open F17 B , PySem.W.mg_of X G a17, k17, F17.binds (ps := ["_law_labels_here", "_law_place"]) fun _ _ _ _ _ _ us hl => match us, hl with | [_, _], _ => rfl⟩
  have C_l_next : Callee l.prog w K mg base CX0 2 "_law_next" ["_law_labels_here"] sp_l_next := ⟨_, _, ok_l_next F18 B (C_l_open := C_l_open), PySem.W.mg_of X G a18, k18, F18.binds (ps := ["_law_labels_here"]) fun _ _ _ _ _ _ us hl => match us, hl with | [_], _ => rfl⟩
  exact ok_law F19 B (C_counted := C_counted) (C_number_of := C_number_of) (C_tie_of := C_tie_of) (C_l_cell_at := C_l_cell_at) (C_l_whole := C_l_whole) (C_l_count := C_l_count) (C_l_labels := C_l_labels) (C_l_is := C_l_is) (C_l_tie := C_l_tie) (C_l_leaders := C_l_leaders) (C_l_next := C_l_next)
end Nc
open PySem PySem.W PyProof.Rows
set_option maxRecDepth 100000 in
set_option maxHeartbeats 0 in
theorem PySem.Challenge.cw_nocross_k14_whole_numbers_holds : PySem.Challenge.rw_nocross_k14_whole_numbers.Holds := by
  w_on; o_law; k_head; (case hw => w_witness2)
  k_fill
  refine Nc.walk_tab (l := PySem.Challenge.rw_nocross_k14_whole_numbers) (n := 63) (k := 5) (x := "_law_script") ["number_of"] rfl (by decide) rfl ⟨rfl, by decide, by decide⟩ (by decide +kernel) (fun w h Y => PySem.W.kIn_of Y) ?F
  case F =>
    intro w mg fa h KX G hmg tabs
    refine' Nc.all_mk KX G hmg tabs ?a0 ?l0 ?c0 ?k0 ?a1 ?l1 ?c1 ?k1 ?a2 ?l2 ?c2 ?k2 ?a3 ?l3 ?c3 ?k3 ?a4 ?l4 ?c4 ?k4 ?a5 ?l5 ?c5 ?k5 ?a6 ?l6 ?c6q ?k6 ?e6 ?g6 ?d6 ?t6 ?a7 ?l7 ?c7 ?k7 ?a8 ?l8 ?c8 ?k8 ?a9 ?l9 ?c9 ?k9 ?a10 ?l10 ?c10 ?k10 ?a11 ?l11 ?c11 ?k11 ?a12 ?l12 ?c12 ?k12 ?a13 ?l13 ?c13 ?k13 ?a14 ?l14 ?c14 ?k14 ?a15 ?l15 ?c15 ?k15 ?a16 ?l16 ?c16 ?k16 ?a17 ?l17 ?c17 ?k17 ?a18 ?l18 ?c18 ?k18 ?a19 ?l19 ?c19 ?k19 ?a_MOST ?ax_BadCount ?kx_BadCount ?ex_BadCount ?bx_BadCount ?tx_BadCount ?ax_NoNumber ?kx_NoNumber ?ex_NoNumber ?bx_NoNumber ?tx_NoNumber ?zb_comb ?z_len ?z_range ?z_tuple ?z_list ?z_isinstance ?z_int ?z_bool ?z_str ?z_enumerate ?z_zip ?z_sorted ?z_sum ?z_min ?z_max ?z_all ?z_any
    (case a0 => k_is); (case l0 => k_is); (case c0 => k_is); (case k0 => k_is); (case a1 => k_is); (case l1 => k_is); (case c1 => k_is); (case k1 => k_is); (case a2 => k_is); (case l2 => k_is); (case c2 => k_is); (case k2 => k_is); (case a3 => k_is); (case l3 => k_is); (case c3 => k_is); (case k3 => k_is); (case a4 => k_is); (case l4 => k_is); (case c4 => k_is); (case k4 => k_is); (case a5 => k_is); (case l5 => k_is); (case c5 => k_is); (case k5 => k_is); (case a6 => k_is); (case l6 => k_is); (case c6q => k_is); (case k6 => k_is); (case e6 => k_is); (case g6 => rfl); (case d6 => (first | k_is | rfl)); (case t6 => (first | k_is | rfl)); (case a7 => k_is); (case l7 => k_is); (case c7 => k_is); (case k7 => k_is); (case a8 => k_is); (case l8 => k_is); (case c8 => k_is); (case k8 => k_is); (case a9 => k_is); (case l9 => k_is); (case c9 => k_is); (case k9 => k_is); (case a10 => k_is); (case l10 => k_is); (case c10 => k_is); (case k10 => k_is); (case a11 => k_is); (case l11 => k_is); (case c11 => k_is); (case k11 => k_is); (case a12 => k_is); (case l12 => k_is); (case c12 => k_is); (case k12 => k_is); (case a13 => k_is); (case l13 => k_is); (case c13 => k_is); (case k13 => k_is); (case a14 => k_is); (case l14 => k_is); (case c14 => k_is); (case k14 => k_is); (case a15 => k_is); (case l15 => k_is); (case c15 => k_is); (case k15 => k_is); (case a16 => k_is); (case l16 => k_is); (case c16 => k_is); (case k16 => k_is); (case a17 => k_is); (case l17 => k_is); (case c17 => k_is); (case k17 => k_is); (case a18 => k_is); (case l18 => k_is); (case c18 => k_is); (case k18 => k_is); (case a19 => k_is); (case l19 => k_is); (case c19 => k_is); (case k19 => k_is); (case a_MOST => k_is); (case ax_BadCount => k_is); (case kx_BadCount => k_is); (case ex_BadCount => k_exc); (case bx_BadCount => k_is); (case tx_BadCount => k_is); (case ax_NoNumber => k_is); (case kx_NoNumber => k_is); (case ex_NoNumber => k_exc); (case bx_NoNumber => k_is); (case tx_NoNumber => k_is); (case zb_comb => k_is); (case z_len => k_is); (case z_range => k_is); (case z_tuple => k_is); (case z_list => k_is); (case z_isinstance => k_is); (case z_int => k_is); (case z_bool => k_is); (case z_str => k_is); (case z_enumerate => k_is); (case z_zip => k_is); (case z_sorted => k_is); (case z_sum => k_is); (case z_min => k_is); (case z_max => k_is); (case z_all => k_is); (case z_any => k_is)
