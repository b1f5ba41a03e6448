import PyProof.Rows.All
import Wide.All
import OpenK.AllK
import Wide.FinOn
import PyRl07
import PyFlatLaws
import PyProof.EqAt
import PyProof.EqKinds
import PyProof.TupleCall
import Open.SpecLaws
import KE.OsGo
import KE.KRevSl
import KE.KDictList
import HandS.ForSpec
import HandS.ForMost
import HandS.Walk
import HandS.SetKeys
import HandS.Zip
import HandS.More
import HandS.Sort
import HandS.SortInts
import HandS.Style
import PySem.Challenge.RW_numberskept_s01_answers
set_option Elab.async false
set_option linter.all false
set_option maxRecDepth 100000
set_option maxHeartbeats 4000000
/-! The mathematics of the specification by itself: rising lists, groups, what is told. -/
namespace NK
open Rl07
/-! ### rising lists -/
theorem mem_insert {a x : Nat} : ∀ {l : List Nat}, x ∈ Rl07.insert a l ↔ x = a ∨ x ∈ l
  | [] => by simp [Rl07.insert]
  | b :: l => by
    unfold Rl07.insert
    by_cases h1 : a < b
    · simp [h1]
    · by_cases h2 : a = b
      · subst h2; simp
      · simp only [h1, h2, if_false, List.mem_cons, mem_insert (l := l)]
        constructor
        · rintro (h | h | h) <;> simp_all
        · rintro (h | h | h) <;> simp_all
theorem sorted_insert {a : Nat} : ∀ {l : List Nat}, l.Pairwise (· < ·) → (Rl07.insert a l).Pairwise (· < ·)
  | [], _ => by simp [Rl07.insert]
  | b :: l, h => by
    have h' := List.pairwise_cons.mp h
    unfold Rl07.insert
    by_cases h1 : a < b
    · simp only [h1, if_true]
      refine List.pairwise_cons.mpr ⟨fun c hc => ?_, h⟩
      rcases List.mem_cons.mp hc with e | hc
      · omega
      · have := h'.1 c hc; omega
    · by_cases h2 : a = b
      · simp only [h1, h2, if_false, if_true]
        simp only [Nat.lt_irrefl, if_false]
        exact h
      · simp only [h1, h2, if_false]
        refine List.pairwise_cons.mpr ⟨fun c hc => ?_, sorted_insert h'.2⟩
        rcases mem_insert.mp hc with e | hc
        · omega
        · exact h'.1 c hc
theorem foldl_insert (l : List Nat) : ∀ acc : List Nat, acc.Pairwise (· < ·) → (l.foldl (fun m x => Rl07.insert x m) acc).Pairwise (· < ·) ∧ ∀ x, x ∈ l.foldl (fun m x => Rl07.insert x m) acc ↔ x ∈ acc ∨ x ∈ l := by
  induction l with
  | nil => intro acc h; exact ⟨h, fun x => by simp⟩
  | cons a r ih =>
    intro acc h
    obtain ⟨h1, h2⟩ := ih (Rl07.insert a acc) (sorted_insert h)
    refine ⟨h1, fun x => ?_⟩
    rw [List.foldl_cons, h2 x, mem_insert, List.mem_cons]
    constructor
    · rintro ((h | h) | h) <;> simp_all
    · rintro (h | h | h) <;> simp_all
theorem rising_sorted (l : List Nat) : (rising l).Pairwise (· < ·) := (foldl_insert l [] .nil).1
theorem mem_rising {l : List Nat} {x : Nat} : x ∈ rising l ↔ x ∈ l := by
  rw [rising, (foldl_insert l [] .nil).2 x]; simp
theorem sorted_eq : ∀ {l m : List Nat}, l.Pairwise (· < ·) → m.Pairwise (· < ·) → (∀ x, x ∈ l ↔ x ∈ m) → l = m
  | [], [], _, _, _ => rfl
  | [], b :: m, _, _, h => by have := (h b).mpr (by simp); simp at this
  | a :: l, [], _, _, h => by have := (h a).mp (by simp); simp at this
  | a :: l, b :: m, h1, h2, h => by
    have g1 := List.pairwise_cons.mp h1
    have g2 := List.pairwise_cons.mp h2
    have e : a = b := by
      rcases List.mem_cons.mp ((h a).mp (by simp)) with e | e
      · exact e
      · rcases List.mem_cons.mp ((h b).mpr (by simp)) with e' | e'
        · exact e'.symm
        · have := g1.1 b e'; have := g2.1 a e; omega
    subst e
    refine congrArg _ (sorted_eq g1.2 g2.2 fun x => ?_)
    constructor
    · intro hx
      rcases List.mem_cons.mp ((h x).mp (List.mem_cons_of_mem _ hx)) with e | e
      · have := g1.1 x hx; omega
      · exact e
    · intro hx
      rcases List.mem_cons.mp ((h x).mpr (List.mem_cons_of_mem _ hx)) with e | e
      · have := g2.1 x hx; omega
      · exact e
theorem nodup_of_sorted {l : List Nat} (h : l.Pairwise (· < ·)) : l.Nodup := h.imp fun h => Nat.ne_of_lt h
theorem rising_nodup (l : List Nat) : (rising l).Nodup := nodup_of_sorted (rising_sorted l)
theorem rising_perm {l : List Nat} (h : l.Nodup) : (rising l).Perm l := (List.perm_ext_iff_of_nodup (rising_nodup l) h).mpr fun _ => mem_rising
theorem rising_self {l : List Nat} (h : l.Pairwise (· < ·)) : rising l = l := sorted_eq (rising_sorted l) h fun _ => mem_rising
theorem nodup_or {l : List Nat} : (rising l).length = l.length ↔ l.Nodup := by
  constructor
  · intro h
    -- a shorter list follows from an item that comes twice
    have key : ∀ l : List Nat, (rising l).length ≤ l.length ∧ (¬ l.Nodup → (rising l).length < l.length) := by
      intro l
      induction l with
      | nil => simp [rising]
      | cons a r ih =>
        have hs : (rising (a :: r)).Perm (if a ∈ r then rising r else a :: rising r) := by
          by_cases c : a ∈ r
          · simp only [c, if_true]
            refine (List.perm_ext_iff_of_nodup (rising_nodup _) (rising_nodup _)).mpr fun x => ?_
            simp only [mem_rising, List.mem_cons]
            constructor
            · rintro (h | h)
              · subst h; exact c
              · exact h
            · exact fun h => Or.inr h
          · simp only [c, if_false]
            refine (List.perm_ext_iff_of_nodup (rising_nodup _) (List.nodup_cons.mpr ⟨fun h => c (mem_rising.mp h), rising_nodup _⟩)).mpr fun x => ?_
            simp only [mem_rising, List.mem_cons]
        have hl := hs.length_eq
        by_cases c : a ∈ r
        · simp only [c, if_true] at hl
          rw [List.length_cons]
          exact ⟨by omega, fun _ => by omega⟩
        · simp only [c, if_false, List.length_cons] at hl
          rw [List.length_cons]
          refine ⟨by omega, fun hn => ?_⟩
          have : ¬ r.Nodup := fun hr => hn (List.nodup_cons.mpr ⟨c, hr⟩)
          have := ih.2 this
          omega
    exact Classical.byContradiction fun hn => by have := (key l).2 hn; omega
  · intro h
    exact (rising_perm h).length_eq
/-! ### common -/
theorem common_comm {a b : List Nat} (ha : a.Nodup) (hb : b.Nodup) : common a b = common b a := by
  unfold common
  refine ((List.perm_ext_iff_of_nodup (ha.sublist List.filter_sublist) (hb.sublist List.filter_sublist)).mpr fun x => ?_).length_eq
  simp only [List.mem_filter, List.contains_iff_mem]
  exact And.comm
/-! ### groups: by a dict of labels, as it grows -/
/-- the labels in the order in which they first come -/
def keysOf (lab : Nat → Nat) : List Nat → List Nat := List.foldl (fun ks r => if ks.contains (lab r) then ks else ks ++ [lab r]) []
theorem keysOf_snoc (lab : Nat → Nat) (l : List Nat) (r : Nat) : keysOf lab (l ++ [r]) = if (keysOf lab l).contains (lab r) then keysOf lab l else keysOf lab l ++ [lab r] := by
  unfold keysOf
  rw [List.foldl_append]; rfl
theorem snoc_ind {α : Type} {P : List α → Prop} (h0 : P []) (hs : ∀ l a, P l → P (l ++ [a])) : ∀ l, P l := by
  intro l
  have key : ∀ m : List α, P m.reverse := by
    intro m
    induction m with
    | nil => exact h0
    | cons a r ih => rw [List.reverse_cons]; exact hs _ _ ih
  have := key l.reverse
  rwa [List.reverse_reverse] at this
theorem keysOf_spec (lab : Nat → Nat) : ∀ l : List Nat, (keysOf lab l).Nodup ∧ ∀ k, k ∈ keysOf lab l ↔ ∃ r ∈ l, lab r = k := by
  refine snoc_ind ?_ ?_
  · simp [keysOf]
  · intro l r ⟨h1, h2⟩
    rw [keysOf_snoc]
    by_cases c : (keysOf lab l).contains (lab r) = true
    · rw [if_pos c]
      refine ⟨h1, fun k => ?_⟩
      rw [h2 k]
      constructor
      · rintro ⟨x, hx, e⟩; exact ⟨x, by simp [hx], e⟩
      · rintro ⟨x, hx, e⟩
        rcases List.mem_append.mp hx with hx | hx
        · exact ⟨x, hx, e⟩
        · have e2 : x = r := by simpa using hx
          subst e2
          rw [e] at c
          exact (h2 k).mp (List.contains_iff_mem.mp c)
    · rw [if_neg c]
      have c' : lab r ∉ keysOf lab l := fun h => c (List.contains_iff_mem.mpr h)
      refine ⟨List.nodup_append.mpr ⟨h1, by simp, fun a ha b hb => ?_⟩, fun k => ?_⟩
      · have e : b = lab r := by simpa using hb
        rintro rfl
        exact c' (e ▸ ha)
      · rw [List.mem_append, h2 k]
        constructor
        · rintro (⟨x, hx, e⟩ | h)
          · exact ⟨x, by simp [hx], e⟩
          · exact ⟨r, by simp, by simpa using Eq.symm (by simpa using h)⟩
        · rintro ⟨x, hx, e⟩
          rcases List.mem_append.mp hx with hx | hx
          · exact Or.inl ⟨x, hx, e⟩
          · have e2 : x = r := by simpa using hx
            subst e2
            exact Or.inr (by simp [e])
/-- a record more in the group of its label -/
def addTo (k r : Nat) : List (Nat × List Nat) → List (Nat × List Nat)
  | [] => [(k, [r])]
  | (j, l) :: gs => if j = k then (j, l ++ [r]) :: gs else (j, l) :: addTo k r gs
def gdict (lab : Nat → Nat) : List Nat → List (Nat × List Nat) := List.foldl (fun gs r => addTo (lab r) r gs) []
theorem gdict_snoc (lab : Nat → Nat) (l : List Nat) (r : Nat) : gdict lab (l ++ [r]) = addTo (lab r) r (gdict lab l) := by
  unfold gdict
  rw [List.foldl_append]; rfl
theorem addTo_new {k r : Nat} : ∀ {gs : List (Nat × List Nat)}, k ∉ gs.map (·.1) → addTo k r gs = gs ++ [(k, [r])]
  | [], _ => rfl
  | (j, l) :: gs, h => by
    have h1 : ¬ j = k := fun e => h (by simp [e])
    have h2 : k ∉ gs.map (·.1) := fun e => h (by simp only [List.map_cons, List.mem_cons]; exact Or.inr e)
    show (if j = k then _ else _) = _
    rw [if_neg h1, addTo_new h2]; rfl
theorem addTo_old {k r : Nat} (f : Nat → List Nat) : ∀ {ks : List Nat}, ks.Nodup → k ∈ ks → addTo k r (ks.map fun j => (j, f j)) = ks.map fun j => (j, if j = k then f j ++ [r] else f j)
  | [], _, h => by simp at h
  | j :: ks, hn, h => by
    have hn' := List.nodup_cons.mp hn
    show (if j = k then _ else _) = _
    by_cases e : j = k
    · rw [if_pos e, List.map_cons, if_pos e]
      refine congrArg _ (List.map_congr_left fun i hi => ?_)
      have : ¬ i = k := fun e2 => hn'.1 (by rw [e, ← e2]; exact hi)
      rw [if_neg this]
    · rw [if_neg e, List.map_cons, if_neg e]
      refine congrArg _ (addTo_old f hn'.2 ?_)
      rcases List.mem_cons.mp h with h | h
      · exact absurd h.symm e
      · exact h
theorem gdict_eq (lab : Nat → Nat) : ∀ l : List Nat, gdict lab l = (keysOf lab l).map fun k => (k, l.filter fun r => lab r == k) := by
  refine snoc_ind rfl ?_
  intro l r ih
  obtain ⟨hn, hm⟩ := keysOf_spec lab l
  rw [gdict_snoc, ih, keysOf_snoc]
  by_cases c : (keysOf lab l).contains (lab r) = true
  · rw [if_pos c, addTo_old (k := lab r) (r := r) (fun k => l.filter fun r => lab r == k) hn (List.contains_iff_mem.mp c)]
    refine List.map_congr_left fun k _ => ?_
    rw [List.filter_append]
    by_cases e : k = lab r
    · subst e; simp
    · have e' : ¬ lab r = k := fun z => e z.symm
      simp [e, e']
  · rw [if_neg c]
    have c' : lab r ∉ keysOf lab l := fun h => c (List.contains_iff_mem.mpr h)
    rw [addTo_new (by rw [List.map_map]; simpa using c'), List.map_append]
    congr 1
    · refine List.map_congr_left fun k hk => ?_
      rw [List.filter_append]
      have e' : ¬ lab r = k := fun z => c' (z ▸ hk)
      simp [e']
    · rw [List.map_cons, List.map_nil, List.filter_append]
      have h0 : l.filter (fun x => lab x == lab r) = [] := List.filter_eq_nil_iff.mpr fun x hx => by
        have : ¬ lab x = lab r := fun z => c' ((hm _).mpr ⟨x, hx, z⟩)
        simpa using this
      simp [h0]
/-- the label of a record -/
def labOf (p : List (Nat × Nat)) (r : Nat) : Nat := ((p.find? fun x => x.1 == r).map fun x => x.2).getD 0
theorem labOf_mem {p : List (Nat × Nat)} (hp : (p.map (·.1)).Nodup) {r k : Nat} (h : (r, k) ∈ p) : labOf p r = k := by
  unfold labOf
  induction p with
  | nil => simp at h
  | cons x p ih =>
    have hp' := List.nodup_cons.mp (by simpa using hp : (x.1 :: p.map (·.1)).Nodup)
    rcases List.mem_cons.mp h with e | e
    · rw [← e, List.find?_cons]; simp
    · have hne : ¬ x.1 = r := fun z => hp'.1 (by rw [z]; exact List.mem_map.mpr ⟨(r, k), e, rfl⟩)
      rw [List.find?_cons]
      have : (x.1 == r) = false := by simpa using hne
      rw [this]
      exact ih hp'.2 e
theorem mates_eq {p : List (Nat × Nat)} (hp : (p.map (·.1)).Nodup) (k : Nat) : rising ((p.filter fun x => x.2 == k).map fun x => x.1) = (rising (p.map fun x => x.1)).filter fun r => labOf p r == k := by
  refine sorted_eq (rising_sorted _) ((rising_sorted _).filter _) fun x => ?_
  simp only [mem_rising, List.mem_map, List.mem_filter]
  constructor
  · rintro ⟨⟨a, b⟩, ⟨h1, h2⟩, rfl⟩
    have e : b = k := by simpa using h2
    exact ⟨⟨_, h1, rfl⟩, by simp [labOf_mem hp h1, e]⟩
  · rintro ⟨⟨⟨a, b⟩, h1, rfl⟩, h2⟩
    have e : labOf p a = k := by simpa using h2
    rw [labOf_mem hp h1] at e
    exact ⟨(a, b), ⟨h1, by simp [e]⟩, rfl⟩
theorem groups_fold {p : List (Nat × Nat)} (hp : (p.map (·.1)).Nodup) : ∀ l : List Nat, (∀ r ∈ l, r ∈ p.map (·.1)) →
    l.foldl (fun (gs : List (List Nat)) (r : Nat) =>
      let k := ((p.find? fun x => x.1 == r).map fun x => x.2).getD 0
      let mates := rising ((p.filter fun x => x.2 == k).map fun x => x.1)
      if gs.contains mates = true then gs else gs ++ [mates]) ([] : List (List Nat)) = (keysOf (labOf p) l).map fun k => (rising (p.map fun x => x.1)).filter fun r => labOf p r == k := by
  refine snoc_ind (fun _ => rfl) ?_
  intro l r ih hl
  rw [List.foldl_append, ih fun x hx => hl x (by simp [hx]), keysOf_snoc]
  show (if _ then _ else _) = _
  have hk : ((p.find? fun x => x.1 == r).map fun x => x.2).getD 0 = labOf p r := rfl
  rw [hk, mates_eq hp]
  have hiff : (((keysOf (labOf p) l).map fun k => (rising (p.map fun x => x.1)).filter fun r => labOf p r == k).contains ((rising (p.map fun x => x.1)).filter fun x => labOf p x == labOf p r)) = (keysOf (labOf p) l).contains (labOf p r) := by
    rw [Bool.eq_iff_iff, List.contains_iff_mem, List.contains_iff_mem]
    constructor
    · intro h
      obtain ⟨k, hk, e⟩ := List.mem_map.mp h
      have hr : r ∈ (rising (p.map fun x => x.1)).filter fun x => labOf p x == labOf p r := by
        rw [List.mem_filter, mem_rising]
        exact ⟨hl r (by simp), by simp⟩
      rw [← e, List.mem_filter] at hr
      have : labOf p r = k := by simpa using hr.2
      rw [this]; exact hk
    · intro h
      exact List.mem_map.mpr ⟨_, h, rfl⟩
  rw [hiff]
  by_cases c : (keysOf (labOf p) l).contains (labOf p r) = true
  · rw [if_pos c, if_pos c]
  · rw [if_neg c, if_neg c, List.map_append]; rfl
theorem groupsOf_eq {p : List (Nat × Nat)} (hp : (p.map (·.1)).Nodup) : groupsOf p = (gdict (labOf p) (rising (p.map (·.1)))).map (·.2) := by
  rw [gdict_eq, List.map_map]
  exact groups_fold hp _ fun r hr => mem_rising.mp hr
end NK
/-! What is told: pairs, when it is refused. -/
namespace NK
open Rl07
def evens {α : Type} : List α → List α
  | [] => []
  | [x] => [x]
  | x :: _ :: r => x :: evens r
theorem evens_map {α β : Type} (f : α → β) : ∀ l : List α, evens (l.map f) = (evens l).map f
  | [] => rfl
  | [_] => rfl
  | x :: _ :: r => by
    show f x :: evens (r.map f) = f x :: (evens r).map f
    rw [evens_map f r]
theorem evens_len {α : Type} : ∀ l : List α, (evens l).length = (l.length + 1) / 2
  | [] => by simp [evens]
  | [_] => by simp [evens]
  | x :: y :: r => by
    show (evens r).length + 1 = (r.length + 1 + 1 + 1) / 2
    rw [evens_len r]; omega
theorem evens_drop {α : Type} (x : α) : ∀ (l : List α), evens ((x :: l).drop 1) = evens l := fun _ => rfl
/-- the pairs of a row -/
def prs (l : List Nat) : List (Nat × Nat) := (evens l).zip (evens (l.drop 1))
theorem pairsIn_eq : ∀ l : List Nat, pairsIn l = if l.length % 2 = 0 then some (prs l) else none
  | [] => rfl
  | [_] => rfl
  | a :: b :: l => by
    show (pairsIn l).map (fun r => (a, b) :: r) = if (l.length + 1 + 1) % 2 = 0 then some (prs (a :: b :: l)) else none
    rw [pairsIn_eq l]
    have e : prs (a :: b :: l) = (a, b) :: prs l := by
      cases l with
      | nil => rfl
      | cons c l =>
        cases l with
        | nil => rfl
        | cons d l => rfl
    by_cases c : l.length % 2 = 0
    · rw [if_pos c, if_pos (by omega), e]; rfl
    · rw [if_neg c, if_neg (by omega)]; rfl
theorem prs_lens {l : List Nat} (h : l.length % 2 = 0) : (evens (l.drop 1)).length = (evens l).length := by
  rw [evens_len, evens_len, List.length_drop]; omega
theorem prs_fst {l : List Nat} (h : l.length % 2 = 0) : (prs l).map (·.1) = evens l := by
  unfold prs
  rw [show ((evens l).zip (evens (l.drop 1))).map (·.1) = ((evens l).zip (evens (l.drop 1))).map Prod.fst from rfl, List.map_fst_zip]
  exact Nat.le_of_eq (prs_lens h).symm
theorem prs_snd {l : List Nat} (h : l.length % 2 = 0) : (prs l).map (·.2) = evens (l.drop 1) := by
  unfold prs
  rw [show ((evens l).zip (evens (l.drop 1))).map (·.2) = ((evens l).zip (evens (l.drop 1))).map Prod.snd from rfl, List.map_snd_zip]
  exact Nat.le_of_eq (prs_lens h)
theorem prs_len {l : List Nat} (h : l.length % 2 = 0) : (prs l).length = (evens l).length := by
  rw [← prs_fst h, List.length_map]
theorem groups_len {p : List (Nat × Nat)} (hp : (p.map (·.1)).Nodup) : (groupsOf p).length = (rising (p.map (·.2))).length := by
  rw [groupsOf_eq hp, gdict_eq, List.length_map, List.length_map]
  obtain ⟨h1, h2⟩ := keysOf_spec (labOf p) (rising (p.map (·.1)))
  refine ((List.perm_ext_iff_of_nodup h1 (rising_nodup _)).mpr fun k => ?_).length_eq
  rw [h2 k, mem_rising]
  constructor
  · rintro ⟨r, hr, e⟩
    obtain ⟨⟨a, b⟩, hab, rfl⟩ := List.mem_map.mp (mem_rising.mp hr)
    rw [labOf_mem hp hab] at e
    exact List.mem_map.mpr ⟨_, hab, e⟩
  · intro hk
    obtain ⟨⟨a, b⟩, hab, rfl⟩ := List.mem_map.mp hk
    exact ⟨a, mem_rising.mpr (List.mem_map.mpr ⟨_, hab, rfl⟩), labOf_mem hp hab⟩
/-- what a round must be, in the words of the code -/
structure Told (l : List Nat) : Prop where
  even : l.length % 2 = 0
  few : (evens l).length ≤ 8
  once : (evens l).Nodup
  recs : ∀ r ∈ evens l, 1 ≤ r ∧ r ≤ 30
  labs : ∀ k ∈ evens (l.drop 1), k ≤ 100
  grps : (rising (evens (l.drop 1))).length ≤ 6
theorem told_some {l : List Nat} (t : Told l) : told? l = some (prs l) := by
  have hp : ((prs l).map (·.1)).Nodup := by rw [prs_fst t.even]; exact t.once
  have hg := groups_len hp
  rw [prs_snd t.even] at hg
  unfold told?
  rw [pairsIn_eq, if_pos t.even]
  show (if _ then _ else _) = _
  rw [if_neg]
  rintro (h | h | h | h)
  · rw [prs_len t.even] at h; have := t.few; omega
  · rw [List.all_eq_false] at h
    obtain ⟨⟨a, b⟩, hab, hn⟩ := h
    have ha := t.recs a (by rw [← prs_fst t.even]; exact List.mem_map.mpr ⟨_, hab, rfl⟩)
    have hb := t.labs b (by rw [← prs_snd t.even]; exact List.mem_map.mpr ⟨_, hab, rfl⟩)
    simp [ha.1, ha.2, hb] at hn
  · exact h ((nodup_or.mpr hp).trans (List.length_map _))
  · have := t.grps; omega
theorem told_none {l : List Nat} (t : ¬ Told l) : told? l = none := by
  unfold told?
  rw [pairsIn_eq]
  by_cases he : l.length % 2 = 0
  · rw [if_pos he]
    show (if _ then _ else _) = _
    rw [if_pos]
    refine Classical.byContradiction fun hn => t ?_
    rw [not_or, not_or, not_or] at hn
    obtain ⟨h1, h2, h3, h4⟩ := hn
    rw [prs_len he] at h1
    have h2' := List.all_eq_true.mp (by simpa using h2 : ((prs l).all fun x => decide (1 ≤ x.1) && (decide (x.1 ≤ 30) && decide (x.2 ≤ 100))) = true)
    have hnd : (evens l).Nodup := by
      have h3' : (rising ((prs l).map fun x => x.1)).length = (prs l).length := Classical.byContradiction h3
      rw [← prs_fst he]
      exact nodup_or.mp (by rw [h3', List.length_map])
    have hp : ((prs l).map (·.1)).Nodup := by rw [prs_fst he]; exact hnd
    refine ⟨he, by omega, hnd, fun r hr => ?_, fun k hk => ?_, ?_⟩
    · rw [← prs_fst he] at hr
      obtain ⟨x, hx, rfl⟩ := List.mem_map.mp hr
      have := h2' x hx
      simp at this
      exact ⟨this.1, this.2.1⟩
    · rw [← prs_snd he] at hk
      obtain ⟨x, hx, rfl⟩ := List.mem_map.mp hk
      have := h2' x hx
      simp at this
      exact this.2.2
    · have hg := groups_len hp
      rw [prs_snd he] at hg
      omega
  · rw [if_neg he]; rfl
theorem told_is (l : List Nat) : (told? l).isSome = true ↔ Told l := by
  constructor
  · intro h
    refine Classical.byContradiction fun t => ?_
    rw [told_none t] at h
    cases h
  · intro t; rw [told_some t]; rfl
/-! ### the groups of a round that is told -/
/-- what is known of groups: as many, as large, apart -/
structure Groups (gs : List (List Nat)) : Prop where
  few : gs.length ≤ 6
  rise : ∀ g ∈ gs, g.Pairwise (· < ·)
  some : ∀ g ∈ gs, g ≠ []
  recs : ∀ g ∈ gs, ∀ r ∈ g, 1 ≤ r ∧ r ≤ 30
  size : gs.flatten.length ≤ 8
  apart : gs.flatten.Nodup
theorem groups_told {l : List Nat} (t : Told l) : Groups (groupsOf (prs l)) := by
  have hp : ((prs l).map (·.1)).Nodup := by rw [prs_fst t.even]; exact t.once
  have hg := groups_len hp
  rw [prs_snd t.even] at hg
  have e : groupsOf (prs l) = (keysOf (labOf (prs l)) (rising (evens l))).map fun k => (rising (evens l)).filter fun r => labOf (prs l) r == k := by
    rw [groupsOf_eq hp, gdict_eq, List.map_map, prs_fst t.even]; rfl
  obtain ⟨h1, h2⟩ := keysOf_spec (labOf (prs l)) (rising (evens l))
  have hap : (groupsOf (prs l)).flatten.Nodup := by
    rw [e]
    generalize keysOf (labOf (prs l)) (rising (evens l)) = ks at h1
    clear h2 e hg
    induction ks with
    | nil => simp
    | cons k ks ih =>
      have h1' := List.nodup_cons.mp h1
      rw [List.map_cons, List.flatten_cons]
      refine List.nodup_append.mpr ⟨(rising_nodup _).sublist List.filter_sublist, ih h1'.2, fun a ha b hb => ?_⟩
      rintro rfl
      obtain ⟨m, hm, hb⟩ := List.mem_flatten.mp hb
      obtain ⟨j, hj, rfl⟩ := List.mem_map.mp hm
      have e1 : labOf (prs l) a = k := by simpa using (List.mem_filter.mp ha).2
      have e2 : labOf (prs l) a = j := by simpa using (List.mem_filter.mp hb).2
      exact h1'.1 (by rw [← e1, e2]; exact hj)
  have hsub : ∀ r ∈ (groupsOf (prs l)).flatten, r ∈ evens l := by
    intro r hr
    rw [e] at hr
    obtain ⟨g, hg, hr⟩ := List.mem_flatten.mp hr
    obtain ⟨k, hk, rfl⟩ := List.mem_map.mp hg
    exact mem_rising.mp (List.mem_filter.mp hr).1
  refine ⟨by have := t.grps; omega, fun g hg => ?_, fun g hg => ?_, fun g hg r hr => t.recs r (hsub r (List.mem_flatten.mpr ⟨g, hg, hr⟩)), ?_, hap⟩
  · rw [e] at hg
    obtain ⟨k, hk, rfl⟩ := List.mem_map.mp hg
    exact (rising_sorted _).filter _
  · rw [e] at hg
    obtain ⟨k, hk, rfl⟩ := List.mem_map.mp hg
    obtain ⟨r, hr, er⟩ := (h2 k).mp hk
    intro z
    have : r ∈ (rising (evens l)).filter fun r => labOf (prs l) r == k := List.mem_filter.mpr ⟨hr, by simp [er]⟩
    rw [z] at this
    simp at this
  · refine Nat.le_trans (Nat.le_of_lt_succ ?_) t.few
    -- a list without doubles within another is no longer
    have key : ∀ (a b : List Nat), a.Nodup → (∀ x ∈ a, x ∈ b) → a.length ≤ b.length := by
      intro a
      induction a with
      | nil => intro b _ _; exact Nat.zero_le _
      | cons x a ih =>
        intro b hn hs
        have hn' := List.nodup_cons.mp hn
        have hx := hs x (by simp)
        have := ih (b.erase x) hn'.2 fun y hy => by
          have hne : y ≠ x := fun z => hn'.1 (z ▸ hy)
          exact (List.mem_erase_of_ne hne).mpr (hs y (by simp [hy]))
        rw [List.length_erase_of_mem hx] at this
        have hpos : 0 < b.length := List.length_pos_of_mem hx
        rw [List.length_cons]; omega
    exact Nat.lt_succ_of_le (key _ _ hap hsub)
theorem len_within : ∀ (a b : List Nat), a.Nodup → (∀ x ∈ a, x ∈ b) → a.length ≤ b.length := by
  intro a
  induction a with
  | nil => intro b _ _; exact Nat.zero_le _
  | cons x a ih =>
    intro b hn hs
    have hn' := List.nodup_cons.mp hn
    have hx := hs x (by simp)
    have := ih (b.erase x) hn'.2 fun y hy => by
      have hne : y ≠ x := fun z => hn'.1 (z ▸ hy)
      exact (List.mem_erase_of_ne hne).mpr (hs y (by simp [hy]))
    rw [List.length_erase_of_mem hx] at this
    have hpos : 0 < b.length := List.length_pos_of_mem hx
    rw [List.length_cons]; omega
/-! ### each item once, as set() has them -/
def once : List Int → List Int := List.foldl (fun acc x => if acc.any (· == x) then acc else acc ++ [x]) []
theorem once_snoc (l : List Int) (x : Int) : once (l ++ [x]) = if (once l).any (· == x) then once l else once l ++ [x] := by
  unfold once
  rw [List.foldl_append]
  rfl
theorem once_spec : ∀ l : List Int, (once l).Nodup ∧ ∀ x, x ∈ once l ↔ x ∈ l := by
  refine snoc_ind ⟨by simp [once], by simp [once]⟩ ?_
  intro l a ⟨h1, h2⟩
  rw [once_snoc]
  by_cases c : (once l).any (· == a) = true
  · rw [if_pos c]
    obtain ⟨y, hy, ey⟩ := List.any_eq_true.mp c
    have ey : y = a := by simpa using ey
    subst ey
    refine ⟨h1, fun x => ?_⟩
    rw [h2 x, List.mem_append]
    constructor
    · exact Or.inl
    · rintro (h | h)
      · exact h
      · have : x = y := by simpa using h
        rw [this]; exact (h2 y).mp hy
  · rw [if_neg c]
    have c' : a ∉ once l := fun h => c (List.any_eq_true.mpr ⟨a, h, by simp⟩)
    refine ⟨List.nodup_append.mpr ⟨h1, by simp, fun x hx y hy => ?_⟩, fun x => ?_⟩
    · have : y = a := by simpa using hy
      rintro rfl
      exact c' (this ▸ hx)
    · rw [List.mem_append, List.mem_append, h2 x]
theorem nodup_ofNat {l : List Nat} (h : l.Nodup) : (l.map fun (n : Nat) => (n : Int)).Nodup := by
  refine List.pairwise_map.mpr (h.imp fun {a b} hab e => hab ?_)
  omega
theorem once_len (l : List Nat) : (once (l.map fun (n : Nat) => (n : Int))).length = (rising l).length := by
  obtain ⟨h1, h2⟩ := once_spec (l.map fun (n : Nat) => (n : Int))
  rw [← List.length_map (as := rising l) (fun (n : Nat) => (n : Int))]
  refine ((List.perm_ext_iff_of_nodup h1 (nodup_ofNat (rising_nodup l))).mpr fun x => ?_).length_eq
  rw [h2 x, List.mem_map, List.mem_map]
  constructor
  · rintro ⟨n, hn, e⟩; exact ⟨n, mem_rising.mpr hn, e⟩
  · rintro ⟨n, hn, e⟩; exact ⟨n, mem_rising.mp hn, e⟩
theorem once_le (l : List Int) : (once l).length ≤ l.length := by
  obtain ⟨h1, h2⟩ := once_spec l
  have key : ∀ (a b : List Int), a.Nodup → (∀ x ∈ a, x ∈ b) → a.length ≤ b.length := by
    intro a
    induction a with
    | nil => intro b _ _; exact Nat.zero_le _
    | cons x a ih =>
      intro b hn hs
      have hn' := List.nodup_cons.mp hn
      have hx := hs x (by simp)
      have := ih (b.erase x) hn'.2 fun y hy => by
        have hne : y ≠ x := fun z => hn'.1 (z ▸ hy)
        exact (List.mem_erase_of_ne hne).mpr (hs y (by simp [hy]))
      rw [List.length_erase_of_mem hx] at this
      have hpos : 0 < b.length := List.length_pos_of_mem hx
      rw [List.length_cons]; omega
  exact key _ _ h1 fun x hx => (h2 x).mp hx
/-- sorted() of numbers, each once: the rising list -/
theorem sorted_rising {ys : List Int} {l : List Nat} (hn : l.Nodup) (hp : ys.Perm (l.map fun (n : Nat) => (n : Int))) (hs : ys.Pairwise (· ≤ ·)) : ys = (rising l).map fun (n : Nat) => (n : Int) := by
  have hnd : ys.Nodup := (hp.nodup_iff).mpr (nodup_ofNat hn)
  have hlt : ys.Pairwise (· < ·) := (hs.and hnd).imp fun {a b} h => by
    have h1 := h.1
    have h2 : a ≠ b := h.2
    omega
  have key : ∀ {l m : List Int}, l.Pairwise (· < ·) → m.Pairwise (· < ·) → (∀ x, x ∈ l ↔ x ∈ m) → l = m := by
    intro l
    induction l with
    | nil =>
      intro m _ _ h
      cases m with
      | nil => rfl
      | cons b m => have := (h b).mpr (by simp); simp at this
    | cons a l ih =>
      intro m h1 h2 h
      cases m with
      | nil => have := (h a).mp (by simp); simp at this
      | cons b m =>
        have g1 := List.pairwise_cons.mp h1
        have g2 := List.pairwise_cons.mp h2
        have e : a = b := by
          rcases List.mem_cons.mp ((h a).mp (by simp)) with e | e
          · exact e
          · rcases List.mem_cons.mp ((h b).mpr (by simp)) with e' | e'
            · exact e'.symm
            · have := g1.1 b e'; have := g2.1 a e; omega
        subst e
        refine congrArg _ (ih g1.2 g2.2 fun x => ?_)
        constructor
        · intro hx
          rcases List.mem_cons.mp ((h x).mp (List.mem_cons_of_mem _ hx)) with e | e
          · have := g1.1 x hx; omega
          · exact e
        · intro hx
          rcases List.mem_cons.mp ((h x).mpr (List.mem_cons_of_mem _ hx)) with e | e
          · have := g2.1 x hx; omega
          · exact e
  refine key hlt (List.pairwise_map.mpr ((rising_sorted l).imp fun {a b} h => by omega)) fun x => ?_
  rw [hp.mem_iff, List.mem_map, List.mem_map]
  constructor
  · rintro ⟨n, hn, e⟩; exact ⟨n, mem_rising.mpr hn, e⟩
  · rintro ⟨n, hn, e⟩; exact ⟨n, mem_rising.mp hn, e⟩
end NK
/-! Ways to give numbers, the best one, numbers given, heirs. -/
namespace NK
open Rl07
/-! ### ways -/
/-- 0 stands for a new number -/
def enc (o : Option Nat) : Nat := o.getD 0
def longer (ways : List (List Nat)) (numbers : List Nat) : List (List Nat) :=
  ways.flatMap fun way => (numbers.filter fun n => n == 0 || !way.contains n).map fun n => way ++ [n]
def allWays (choices : List (List Nat)) : List (List Nat) := choices.foldl longer [[]]
def okFor (used : List Nat) : Option Nat → Bool
  | some n => !used.contains n
  | none => true
def waysG : List (List (Option Nat)) → List Nat → List (List (Option Nat))
  | [], _ => [[]]
  | c :: cs, used => (c.filter (okFor used)).flatMap fun o => (waysG cs (used ++ o.toList)).map fun w => o :: w
theorem ways_eq (old : Round) (hs : Holds) (all : List (List Nat)) : ∀ (gs : List (List Nat)) (used : List Nat), ways old hs all gs used = waysG (gs.map (mayHave old hs all)) used
  | [], _ => rfl
  | g :: gs, used => by
    show ((mayHave old hs all g).filter fun o => match o with
      | some n => !used.contains n
      | none => true).flatMap (fun o => (ways old hs all gs (used ++ o.toList)).map fun w => o :: w) = ((mayHave old hs all g).filter (okFor used)).flatMap fun o => (waysG (gs.map (mayHave old hs all)) (used ++ o.toList)).map fun w => o :: w
    have e : (fun o : Option Nat => match o with
      | some n => !used.contains n
      | none => true) = okFor used := by
      funext o
      cases o <;> rfl
    rw [e]
    refine congrArg (fun f => List.flatMap f _) (funext fun o => ?_)
    rw [ways_eq old hs all gs]
def nz (way : List Nat) : List Nat := way.filter (· != 0)
theorem nz_snoc (way : List Nat) (o : Option Nat) (h : o ≠ some 0) : nz (way ++ [enc o]) = nz way ++ o.toList := by
  unfold nz
  rw [List.filter_append]
  cases o with
  | none => simp [enc]
  | some n =>
    have hn : n ≠ 0 := fun e => h (by rw [e])
    simp [enc, hn]
theorem okFor_enc (way : List Nat) (o : Option Nat) (h : o ≠ some 0) : (enc o == 0 || !way.contains (enc o)) = okFor (nz way) o := by
  cases o with
  | none => rfl
  | some n =>
    have hn : n ≠ 0 := fun e => h (by rw [e])
    show (n == 0 || !way.contains n) = !(nz way).contains n
    have h1 : (n == 0) = false := by simpa using hn
    rw [h1, Bool.false_or]
    congr 1
    rw [Bool.eq_iff_iff, List.contains_iff_mem, List.contains_iff_mem]
    unfold nz
    rw [List.mem_filter]
    simp [hn]
theorem foldl_longer : ∀ (cs : List (List (Option Nat))) (P : List (List Nat)), (∀ c ∈ cs, some 0 ∉ c) →
    (cs.map fun c => c.map enc).foldl longer P = P.flatMap fun way => (waysG cs (nz way)).map fun w => way ++ w.map enc
  | [], P, _ => by
    show P = P.flatMap fun way => [way ++ []]
    simp
  | c :: cs, P, h => by
    have hc := h c (by simp)
    rw [List.map_cons, List.foldl_cons, foldl_longer cs _ fun d hd => h d (by simp [hd])]
    unfold longer
    rw [List.flatMap_assoc]
    refine congrArg (fun f => List.flatMap f P) (funext fun way => ?_)
    show ((List.filter (fun n => n == 0 || !way.contains n) (c.map enc)).map fun n => way ++ [n]).flatMap _ = ((c.filter (okFor (nz way))).flatMap fun o => (waysG cs (nz way ++ o.toList)).map fun w => o :: w).map fun w => way ++ w.map enc
    rw [List.filter_map, List.map_map, List.flatMap_map, List.map_flatMap]
    have e1 : c.filter ((fun n => n == 0 || !way.contains n) ∘ enc) = c.filter (okFor (nz way)) :=
      List.filter_congr fun o ho => okFor_enc way o fun z => hc (z ▸ ho)
    rw [e1]
    have key : ∀ l : List (Option Nat), (∀ o ∈ l, o ≠ some 0) → l.flatMap (fun o => (waysG cs (nz (way ++ [enc o]))).map fun w => (way ++ [enc o]) ++ w.map enc) = l.flatMap fun o => ((waysG cs (nz way ++ o.toList)).map fun w => o :: w).map fun w => way ++ w.map enc := by
      intro l
      induction l with
      | nil => intro _; rfl
      | cons o l ih =>
        intro hl
        rw [List.flatMap_cons, List.flatMap_cons, ih fun x hx => hl x (by simp [hx]), nz_snoc way o (hl o (by simp)), List.map_map]
        congr 1
        refine List.map_congr_left fun w _ => ?_
        show way ++ [enc o] ++ w.map enc = way ++ (o :: w).map enc
        simp
    exact key _ fun o ho z => hc (z ▸ (List.mem_filter.mp ho).1)
theorem allWays_eq (cs : List (List (Option Nat))) (h : ∀ c ∈ cs, some 0 ∉ c) : allWays (cs.map fun c => c.map enc) = (waysG cs []).map fun w => w.map enc := by
  unfold allWays
  rw [foldl_longer cs [[]] h]
  show ((waysG cs (nz [])).map fun w => [] ++ w.map enc) ++ [] = _
  rw [List.append_nil]
  rfl
theorem allWays_len : ∀ (cs : List (List Nat)) (P : List (List Nat)), (∀ c ∈ cs, c.length ≤ 7) → (cs.foldl longer P).length ≤ P.length * 7 ^ cs.length
  | [], P, _ => by simp
  | c :: cs, P, h => by
    have ih := allWays_len cs (longer P c) fun d hd => h d (by simp [hd])
    have h1 : (longer P c).length ≤ P.length * 7 := by
      unfold longer
      induction P with
      | nil => simp
      | cons w P ihP =>
        rw [List.flatMap_cons, List.length_append, List.length_map, List.length_cons]
        have h2 := List.length_filter_le (fun n => n == 0 || !w.contains n) c
        have h3 := h c (by simp)
        have h4 := ihP (allWays_len cs _ fun d hd => h d (by simp [hd]))
        omega
    refine Nat.le_trans ih ?_
    rw [List.length_cons, Nat.pow_succ, Nat.mul_comm (7 ^ cs.length) 7, ← Nat.mul_assoc]
    exact Nat.mul_le_mul_right _ h1
/-- what a way is: one choice a group, no number twice -/
theorem waysG_mem : ∀ {cs : List (List (Option Nat))} {used : List Nat} {w : List (Option Nat)}, w ∈ waysG cs used →
    w.length = cs.length ∧ (∀ x ∈ w.zip cs, x.1 ∈ x.2) ∧ (w.filterMap id).Nodup ∧ ∀ n ∈ w.filterMap id, n ∉ used
  | [], used, w, h => by
    have e : w = [] := by simpa [waysG] using h
    subst e
    simp
  | c :: cs, used, w, h => by
    obtain ⟨o, ho, h2⟩ := List.mem_flatMap.mp h
    obtain ⟨v, hv, rfl⟩ := List.mem_map.mp h2
    obtain ⟨i1, i2, i3, i4⟩ := waysG_mem hv
    obtain ⟨ho1, ho2⟩ := List.mem_filter.mp ho
    refine ⟨by simp [i1], ?_, ?_, ?_⟩
    · intro x hx
      rw [List.zip_cons_cons] at hx
      rcases List.mem_cons.mp hx with e | hx
      · rw [e]; exact ho1
      · exact i2 x hx
    · cases o with
      | none => simpa using i3
      | some n =>
        simp only [List.filterMap_cons, id]
        refine List.nodup_cons.mpr ⟨fun hn => i4 n hn (by simp), i3⟩
    · intro n hn
      cases o with
      | none =>
        exact fun hu => i4 n (by simpa using hn) (by simp [hu])
      | some m =>
        simp only [List.filterMap_cons, id, List.mem_cons] at hn
        rcases hn with e | hn
        · subst e
          have : !used.contains n := ho2
          simpa using this
        · exact fun hu => i4 n hn (by simp [hu])
/-! ### the best -/
def bestBy {α : Type} (f : α → Nat) (w : α) (l : List α) : α := l.foldl (fun b x => if f b < f x then x else b) w
theorem bestBy_mem {α : Type} (f : α → Nat) : ∀ (l : List α) (w : α), bestBy f w l = w ∨ bestBy f w l ∈ l
  | [], w => Or.inl rfl
  | x :: l, w => by
    show bestBy f (if f w < f x then x else w) l = w ∨ bestBy f (if f w < f x then x else w) l ∈ x :: l
    rcases bestBy_mem f l (if f w < f x then x else w) with h | h
    · rw [h]
      by_cases c : f w < f x
      · rw [if_pos c]; exact Or.inr (by simp)
      · rw [if_neg c]; exact Or.inl rfl
    · exact Or.inr (List.mem_cons_of_mem _ h)
theorem bestBy_self {α : Type} (f : α → Nat) (w : α) (l : List α) : bestBy f w (w :: l) = bestBy f w l := by
  show bestBy f (if f w < f w then w else w) l = _
  rw [ite_self]
theorem bestBy_map {α β : Type} (g : α → β) (f : β → Nat) : ∀ (l : List α) (w : α), bestBy f (g w) (l.map g) = g (bestBy (fun x => f (g x)) w l)
  | [], _ => rfl
  | x :: l, w => by
    show bestBy f (if f (g w) < f (g x) then g x else g w) (l.map g) = g (bestBy (fun x => f (g x)) (if f (g w) < f (g x) then x else w) l)
    rw [← bestBy_map g f l]
    by_cases c : f (g w) < f (g x)
    · rw [if_pos c, if_pos c]
    · rw [if_neg c, if_neg c]
theorem bestBy_congr {α : Type} {f g : α → Nat} : ∀ (l : List α) (w : α), f w = g w → (∀ x ∈ l, f x = g x) → bestBy f w l = bestBy g w l
  | [], _, _, _ => rfl
  | x :: l, w, hw, h => by
    have hx := h x (by simp)
    show bestBy f (if f w < f x then x else w) l = bestBy g (if g w < g x then x else w) l
    rw [hw, hx]
    refine bestBy_congr l _ ?_ fun y hy => h y (by simp [hy])
    by_cases c : g w < g x
    · rw [if_pos c]; exact hx
    · rw [if_neg c]; exact hw
/-! ### how many keep theirs -/
def RoundOk (next : Nat) (r : Round) : Prop := (r.map (·.num)).Nodup ∧ (∀ g ∈ r, 1 ≤ g.num ∧ g.num < next) ∧ Groups (r.map (·.recs))
theorem RoundOk.mono {n m : Nat} {r : Round} (h : RoundOk n r) (hm : n ≤ m) : RoundOk m r := ⟨h.1, fun g hg => ⟨(h.2.1 g hg).1, Nat.lt_of_lt_of_le (h.2.1 g hg).2 hm⟩, h.2.2⟩
theorem Groups.nodup {gs : List (List Nat)} (h : Groups gs) : ∀ g ∈ gs, g.Nodup := fun g hg => nodup_of_sorted (h.rise g hg)
theorem recsOf_mem {old : Round} (n : Nat) : recsOf old n = [] ∨ ∃ o ∈ old, o.num = n ∧ recsOf old n = o.recs := by
  unfold recsOf
  cases e : old.find? fun o => o.num == n with
  | none => exact Or.inl rfl
  | some o => exact Or.inr ⟨o, List.mem_of_find?_eq_some e, by simpa using List.find?_some e, rfl⟩
theorem recsOf_nodup {k : Nat} {old : Round} (h : RoundOk k old) (n : Nat) : (recsOf old n).Nodup := by
  rcases recsOf_mem (old := old) n with e | ⟨o, ho, _, e⟩
  · rw [e]; exact List.nodup_nil
  · rw [e]; exact h.2.2.nodup _ (List.mem_map.mpr ⟨o, ho, rfl⟩)
theorem recsOf_zero {k : Nat} {old : Round} (h : RoundOk k old) : recsOf old 0 = [] := by
  rcases recsOf_mem (old := old) 0 with e | ⟨o, ho, z, e⟩
  · exact e
  · have := (h.2.1 o ho).1; omega
/-- as the code counts -/
def keptC (old : Round) (gs : List (List Nat)) (way : List Nat) : Nat := ((way.zip gs).map fun x => common x.2 (recsOf old x.1)).sum
theorem foldl_add_eq_sum : ∀ (l : List Nat) (a : Nat), l.foldl (fun a b => a + b) a = a + l.sum
  | [], a => by simp
  | x :: l, a => by rw [List.foldl_cons, foldl_add_eq_sum l, List.sum_cons]; omega
theorem kept_eq {k : Nat} {old : Round} (h : RoundOk k old) {gs : List (List Nat)} (hg : ∀ g ∈ gs, g.Nodup) (w : List (Option Nat)) : kept old gs w = keptC old gs (w.map enc) := by
  unfold kept keptC
  rw [foldl_add_eq_sum, Nat.zero_add]
  refine congrArg List.sum ?_
  induction w generalizing gs with
  | nil => cases gs <;> rfl
  | cons o w ih =>
    cases gs with
    | nil => rfl
    | cons g gs =>
      rw [List.map_cons, List.zip_cons_cons, List.zip_cons_cons, List.map_cons, List.map_cons, ih fun x hx => hg x (by simp [hx])]
      refine congrArg (fun z => z :: _) ?_
      cases o with
      | none =>
        show 0 = common g (recsOf old 0)
        rw [recsOf_zero h]
        unfold common
        rw [List.filter_eq_nil_iff.mpr]
        · rfl
        · intro a _; simp
      | some n => exact common_comm (recsOf_nodup h n) (hg g (by simp))
/-! ### numbers given -/
theorem number_spec : ∀ (gs : List (List Nat)) (w : List (Option Nat)) (n : Nat), w.length = gs.length →
    ((number (gs.zip w) n).1.map (·.recs) = gs) ∧ (number (gs.zip w) n).2 = n + (w.filter (·.isNone)).length ∧
    (∀ k, k ∈ (number (gs.zip w) n).1.map (·.num) ↔ k ∈ w.filterMap id ∨ (n ≤ k ∧ k < (number (gs.zip w) n).2)) ∧
    ((w.filterMap id).Nodup → (∀ k ∈ w.filterMap id, k < n) → ((number (gs.zip w) n).1.map (·.num)).Nodup)
  | [], [], n, _ => by simp [number]
  | [], _ :: _, n, h => by simp at h
  | _ :: _, [], n, h => by simp at h
  | g :: gs, some k :: w, n, h => by
    obtain ⟨i1, i2, i3, i4⟩ := number_spec gs w n (by simpa using h)
    have e : number ((g :: gs).zip (some k :: w)) n = (⟨k, g⟩ :: (number (gs.zip w) n).1, (number (gs.zip w) n).2) := rfl
    rw [e]
    refine ⟨by simp [i1], by simpa using i2, fun j => ?_, fun hn hl => ?_⟩
    · simp only [List.map_cons, List.mem_cons, i3 j, List.filterMap_cons, id]
      constructor
      · rintro (h | h | h) <;> simp_all
      · rintro ((h | h) | h) <;> simp_all
    · simp only [List.filterMap_cons, id] at hn hl
      have hn' := List.nodup_cons.mp hn
      rw [List.map_cons]
      refine List.nodup_cons.mpr ⟨fun hk => ?_, i4 hn'.2 fun j hj => hl j (by simp [hj])⟩
      rcases (i3 k).mp hk with h | h
      · exact hn'.1 h
      · have := hl k (by simp); omega
  | g :: gs, none :: w, n, h => by
    obtain ⟨i1, i2, i3, i4⟩ := number_spec gs w (n + 1) (by simpa using h)
    have e : number ((g :: gs).zip (none :: w)) n = (⟨n, g⟩ :: (number (gs.zip w) (n + 1)).1, (number (gs.zip w) (n + 1)).2) := rfl
    rw [e]
    have hf : ((none :: w).filter (·.isNone)).length = (w.filter (·.isNone)).length + 1 := by simp
    have hm : (none :: w : List (Option Nat)).filterMap id = w.filterMap id := by simp
    rw [hf, hm]
    refine ⟨by simp [i1], by rw [i2]; omega, fun j => ?_, fun hn hl => ?_⟩
    · simp only [List.map_cons, List.mem_cons, i3 j]
      constructor
      · rintro (h | h | h)
        · refine Or.inr ⟨by omega, ?_⟩
          show j < (number (gs.zip w) (n + 1)).2
          rw [i2]; omega
        · exact Or.inl h
        · exact Or.inr ⟨by omega, h.2⟩
      · rintro (h | h)
        · exact Or.inr (Or.inl h)
        · by_cases c : j = n
          · exact Or.inl c
          · exact Or.inr (Or.inr ⟨by omega, h.2⟩)
    · rw [List.map_cons]
      refine List.nodup_cons.mpr ⟨fun hk => ?_, i4 hn fun j hj => by have := hl j hj; omega⟩
      rcases (i3 n).mp hk with h | h
      · have := hl n h; omega
      · omega
/-! ### heirs -/
/-- as the code finds it: (most so far, its number) -/
def heirC (now : Round) (recs : List Nat) : Nat × Nat := now.foldl (fun m g => if m.1 < common recs g.recs then (common recs g.recs, g.num) else m) (0, 0)
theorem heirC_pos (recs : List Nat) : ∀ (l : Round) (b : Group), (l.foldl (fun m g => if m.1 < common recs g.recs then (common recs g.recs, g.num) else m) (common recs b.recs, b.num)) = (common recs (bestBy (fun g => common recs g.recs) b l).recs, (bestBy (fun g => common recs g.recs) b l).num)
  | [], b => rfl
  | x :: l, b => by
    show (l.foldl _ (if common recs b.recs < common recs x.recs then (common recs x.recs, x.num) else (common recs b.recs, b.num))) = (common recs (bestBy (fun g => common recs g.recs) (if common recs b.recs < common recs x.recs then x else b) l).recs, _)
    by_cases c : common recs b.recs < common recs x.recs
    · rw [if_pos c, heirC_pos recs l x, show bestBy (fun g : Group => common recs g.recs) b (x :: l) = bestBy (fun g => common recs g.recs) x l from by
        show bestBy _ (if common recs b.recs < common recs x.recs then x else b) l = _
        rw [if_pos c]]
      rw [if_pos c]
    · rw [if_neg c, heirC_pos recs l b, show bestBy (fun g : Group => common recs g.recs) b (x :: l) = bestBy (fun g => common recs g.recs) b l from by
        show bestBy _ (if common recs b.recs < common recs x.recs then x else b) l = _
        rw [if_neg c]]
      rw [if_neg c]
theorem bestBy_filter (recs : List Nat) : ∀ (l : Round) (b : Group), 0 < common recs b.recs → bestBy (fun g => common recs g.recs) b (l.filter fun g => decide (0 < common recs g.recs)) = bestBy (fun g => common recs g.recs) b l
  | [], _, _ => rfl
  | x :: l, b, hb => by
    by_cases c : 0 < common recs x.recs
    · rw [List.filter_cons_of_pos (by simpa using c)]
      show bestBy _ (if common recs b.recs < common recs x.recs then x else b) _ = bestBy _ (if common recs b.recs < common recs x.recs then x else b) l
      refine bestBy_filter recs l _ ?_
      by_cases d : common recs b.recs < common recs x.recs
      · rw [if_pos d]; exact c
      · rw [if_neg d]; exact hb
    · rw [List.filter_cons_of_neg (by simpa using c)]
      show _ = bestBy _ (if common recs b.recs < common recs x.recs then x else b) l
      rw [if_neg (by omega)]
      exact bestBy_filter recs l b hb
theorem heir_eq {k : Nat} {now : Round} (h : RoundOk k now) {recs : List Nat} (hr : recs.Nodup) : heir now recs = (heirC now recs).2 := by
  have hc : ∀ g ∈ now, common g.recs recs = common recs g.recs := fun g hg => common_comm (h.2.2.nodup _ (List.mem_map.mpr ⟨g, hg, rfl⟩)) hr
  have ef : now.filter (fun g => decide (0 < common g.recs recs)) = now.filter fun g => decide (0 < common recs g.recs) := List.filter_congr fun g hg => by rw [hc g hg]
  unfold heir
  rw [ef]
  clear ef h
  have key : ∀ l : Round, (∀ g ∈ l, common g.recs recs = common recs g.recs) → (match l.filter fun g => decide (0 < common recs g.recs) with
    | [] => 0
    | g :: l => (l.foldl (fun b x => if common b.recs recs < common x.recs recs then x else b) g).num) = (heirC l recs).2 := by
    intro l
    induction l with
    | nil => intro _; rfl
    | cons g l ih =>
      intro hl
      by_cases c : 0 < common recs g.recs
      · rw [List.filter_cons_of_pos (by simpa using c)]
        show (bestBy (fun x : Group => common x.recs recs) g (l.filter fun g => decide (0 < common recs g.recs))).num = (l.foldl _ (if 0 < common recs g.recs then (common recs g.recs, g.num) else (0, 0))).2
        rw [if_pos c, heirC_pos, bestBy_congr (f := fun x : Group => common x.recs recs) (g := fun x => common recs x.recs) _ _ (hl g (by simp)) (fun x hx => hl x (List.mem_cons_of_mem _ (List.mem_filter.mp hx).1)), bestBy_filter recs l g c]
      · rw [List.filter_cons_of_neg (by simpa using c)]
        show _ = (l.foldl _ (if 0 < common recs g.recs then (common recs g.recs, g.num) else (0, 0))).2
        rw [if_neg c]
        exact ih fun x hx => hl x (by simp [hx])
  exact key now hc
theorem heirC_in (recs : List Nat) (now : Round) : (heirC now recs).2 = 0 ∨ (heirC now recs).2 ∈ now.map (·.num) := by
  have key : ∀ (l : Round) (m : Nat × Nat), (l.foldl (fun m g => if m.1 < common recs g.recs then (common recs g.recs, g.num) else m) m).2 = m.2 ∨ (l.foldl (fun m g => if m.1 < common recs g.recs then (common recs g.recs, g.num) else m) m).2 ∈ l.map (·.num) := by
    intro l
    induction l with
    | nil => intro m; exact Or.inl rfl
    | cons g l ih =>
      intro m
      rw [List.foldl_cons]
      rcases ih (if m.1 < common recs g.recs then (common recs g.recs, g.num) else m) with h | h
      · rw [h]
        by_cases c : m.1 < common recs g.recs
        · rw [if_pos c]; exact Or.inr (by simp)
        · rw [if_neg c]; exact Or.inl rfl
      · exact Or.inr (by simp only [List.map_cons, List.mem_cons]; exact Or.inr h)
  exact key now (0, 0)
end NK
/-! What holds of the desk between two calls. -/
namespace NK
open Rl07
/-! ### which number a group may have -/
theorem heldIn_some {old : Round} {hs : Holds} {g : List Nat} {n : Nat} (h : heldIn old hs g = some n) : (∃ r, (n, r) ∈ hs ∧ r ∈ g) ∧ n ∈ old.map (·.num) := by
  unfold heldIn at h
  have hm : n ∈ rising ((hs.filter fun h => g.contains h.2 && old.any fun o => o.num == h.1).map fun h => h.1) := List.mem_of_mem_head? (by rw [h]; rfl)
  rw [mem_rising] at hm
  obtain ⟨⟨a, b⟩, hab, e⟩ := List.mem_map.mp hm
  have e : a = n := e
  subst e
  obtain ⟨h1, h2⟩ := List.mem_filter.mp hab
  rw [Bool.and_eq_true] at h2
  obtain ⟨h3, h4⟩ := h2
  obtain ⟨o, ho, eo⟩ := List.any_eq_true.mp h4
  exact ⟨⟨b, h1, List.contains_iff_mem.mp h3⟩, List.mem_map.mpr ⟨o, ho, by simpa using eo⟩⟩
theorem mayHave_some {old : Round} {hs : Holds} {all : List (List Nat)} {g : List Nat} {n : Nat} (h : some n ∈ mayHave old hs all g) : n ∈ old.map (·.num) := by
  unfold mayHave at h
  cases e : heldIn old hs g with
  | some m =>
    rw [e] at h
    have : n = m := by simpa using h
    subst this
    exact (heldIn_some e).2
  | none =>
    rw [e] at h
    simp only [List.mem_append, List.mem_map, List.mem_singleton, reduceCtorEq, or_false] at h
    obtain ⟨m, hm, e2⟩ := h
    have : m = n := by simpa using e2
    subst this
    rw [mem_rising] at hm
    obtain ⟨o, ho, e3⟩ := List.mem_map.mp hm
    exact List.mem_map.mpr ⟨o, (List.mem_filter.mp ho).1, e3⟩
theorem mayHave_len {k : Nat} {old : Round} (h : RoundOk k old) (hs : Holds) (all : List (List Nat)) (g : List Nat) : (mayHave old hs all g).length ≤ 7 := by
  unfold mayHave
  cases e : heldIn old hs g with
  | some m => simp
  | none =>
    simp only [List.length_append, List.length_map, List.length_singleton]
    have h1 := h.2.2.few
    rw [List.length_map] at h1
    have h2 : (rising ((old.filter fun o => decide (0 < common o.recs g) && !isHeld hs all o.num).map fun o => o.num)).length ≤ (old.map (·.num)).length := by
      refine len_within _ _ (rising_nodup _) fun x hx => ?_
      rw [mem_rising] at hx
      obtain ⟨o, ho, e3⟩ := List.mem_map.mp hx
      exact List.mem_map.mpr ⟨o, (List.mem_filter.mp ho).1, e3⟩
    rw [List.length_map] at h2
    omega
theorem mayHave_zero {k : Nat} {old : Round} (h : RoundOk k old) (hs : Holds) (all : List (List Nat)) (g : List Nat) : some 0 ∉ mayHave old hs all g := fun z => by
  obtain ⟨o, ho, e⟩ := List.mem_map.mp (mayHave_some z)
  have := (h.2.1 o ho).1
  have e : o.num = 0 := e
  omega
def HoldsOk (next : Nat) (hs : Holds) : Prop := (hs.map (·.1)).Nodup ∧ ∀ h ∈ hs, (1 ≤ h.1 ∧ h.1 < next) ∧ 1 ≤ h.2 ∧ h.2 ≤ 30
theorem holds_one {hs : Holds} (h : (hs.map (·.1)).Nodup) {n a b : Nat} (ha : (n, a) ∈ hs) (hb : (n, b) ∈ hs) : a = b := by
  have e1 := labOf_mem h ha
  have e2 := labOf_mem h hb
  rw [← e1, e2]
theorem ways_some {old : Round} {hs : Holds} (hh : (hs.map (·.1)).Nodup) (all : List (List Nat)) : ∀ (gs : List (List Nat)) (used : List Nat), gs.flatten.Nodup →
    (∀ g ∈ gs, ∀ n, heldIn old hs g = some n → n ∉ used) → waysG (gs.map (mayHave old hs all)) used ≠ []
  | [], _, _, _ => by simp [waysG]
  | g :: gs, used, hn, hu => by
    rw [List.flatten_cons] at hn
    obtain ⟨n1, n2, n3⟩ := List.nodup_append.mp hn
    have key : ∀ o, o ∈ mayHave old hs all g → okFor used o = true → waysG (gs.map (mayHave old hs all)) (used ++ o.toList) ≠ [] → waysG ((g :: gs).map (mayHave old hs all)) used ≠ [] := by
      intro o ho hok hne z
      obtain ⟨w, hw⟩ := List.exists_mem_of_ne_nil _ hne
      have : o :: w ∈ waysG ((g :: gs).map (mayHave old hs all)) used := by
        rw [List.map_cons]
        exact List.mem_flatMap.mpr ⟨o, List.mem_filter.mpr ⟨ho, hok⟩, List.mem_map.mpr ⟨w, hw, rfl⟩⟩
      rw [z] at this
      simp at this
    cases e : heldIn old hs g with
    | some n =>
      refine key (some n) ?_ ?_ (ways_some hh all gs _ n2 fun g' hg' m hm hmem => ?_)
      · unfold mayHave; rw [e]; simp
      · have := hu g (by simp) n e
        show (!used.contains n) = true
        simpa using this
      · rcases List.mem_append.mp hmem with h | h
        · exact hu g' (by simp [hg']) m hm h
        · have em : m = n := by simpa using h
          subst em
          obtain ⟨⟨r, h1, h2⟩, _⟩ := heldIn_some e
          obtain ⟨⟨r', h1', h2'⟩, _⟩ := heldIn_some hm
          have er := holds_one hh h1 h1'
          subst er
          exact n3 r h2 r (List.mem_flatten.mpr ⟨g', hg', h2'⟩) rfl
    | none =>
      refine key none ?_ rfl (ways_some hh all gs _ n2 fun g' hg' m hm hmem => ?_)
      · unfold mayHave; rw [e]; simp
      · rw [show (none : Option Nat).toList = [] from rfl, List.append_nil] at hmem
        exact hu g' (by simp [hg']) m hm hmem
theorem best_eq {old : Round} {hs : Holds} (hh : (hs.map (·.1)).Nodup) {gs : List (List Nat)} (hg : gs.flatten.Nodup) :
    ∃ w l, waysG (gs.map (mayHave old hs gs)) [] = w :: l ∧ best old hs gs = bestBy (kept old gs) w l := by
  cases e : waysG (gs.map (mayHave old hs gs)) [] with
  | nil => exact absurd e (ways_some hh gs gs [] hg fun _ _ _ _ => by simp)
  | cons w l =>
    refine ⟨w, l, rfl, ?_⟩
    unfold best
    rw [ways_eq, e]
    rfl
theorem best_mem {old : Round} {hs : Holds} (hh : (hs.map (·.1)).Nodup) {gs : List (List Nat)} (hg : gs.flatten.Nodup) : best old hs gs ∈ waysG (gs.map (mayHave old hs gs)) [] := by
  obtain ⟨w, l, e1, e2⟩ := best_eq (old := old) hh hg
  rw [e1, e2]
  rcases bestBy_mem (kept old gs) l w with h | h
  · rw [h]; simp
  · exact List.mem_cons_of_mem _ h
structure BestOk (old : Round) (gs : List (List Nat)) (w : List (Option Nat)) : Prop where
  len : w.length = gs.length
  nodup : (w.filterMap id).Nodup
  old : ∀ n ∈ w.filterMap id, n ∈ old.map (·.num)
theorem best_ok {old : Round} {hs : Holds} (hh : (hs.map (·.1)).Nodup) {gs : List (List Nat)} (hg : gs.flatten.Nodup) : BestOk old gs (best old hs gs) := by
  obtain ⟨h1, h2, h3, _⟩ := waysG_mem (best_mem (old := old) hh hg)
  refine ⟨by simpa using h1, h3, fun n hn => ?_⟩
  obtain ⟨o, ho, e⟩ := List.mem_filterMap.mp hn
  have e : o = some n := e
  subst e
  obtain ⟨i, hi, ei⟩ := List.getElem_of_mem ho
  have hl : i < (gs.map (mayHave old hs gs)).length := by rw [← h1]; exact hi
  have := h2 (some n, (gs.map (mayHave old hs gs))[i]) (by
    rw [← ei]
    rw [List.mem_iff_getElem]
    exact ⟨i, by rw [List.length_zip]; omega, by simp⟩)
  rw [List.getElem_map] at this
  exact mayHave_some this
/-! ### the desk -/
/-- where ended numbers led: to numbers that are there, that ended later, or nowhere -/
def Goes (nums : List Nat) : List (Nat × (Nat × Nat)) → Prop
  | [] => True
  | e :: es => (e.2.2 = 0 ∨ e.2.2 ∈ nums ∨ e.2.2 ∈ es.map (·.1)) ∧ Goes nums es
theorem Goes.more {nums nums' : List Nat} {new : List (Nat × (Nat × Nat))} (hn : Goes nums' new) (hm : ∀ n ∈ nums, n ∈ nums' ∨ n ∈ new.map (·.1)) : ∀ {es}, Goes nums es → Goes nums' (es ++ new)
  | [], _ => hn
  | e :: es, h => by
    refine ⟨?_, Goes.more hn hm h.2⟩
    rcases h.1 with h | h | h
    · exact Or.inl h
    · rcases hm _ h with h | h
      · exact Or.inr (Or.inl h)
      · exact Or.inr (Or.inr (by show e.2.2 ∈ (es ++ new).map (·.1); rw [List.map_append]; exact List.mem_append.mpr (Or.inr h)))
    · exact Or.inr (Or.inr (by show e.2.2 ∈ (es ++ new).map (·.1); rw [List.map_append]; exact List.mem_append.mpr (Or.inl h)))
structure Ok (s : St) : Prop where
  many : s.rounds.length ≤ 30
  rounds : ∀ r ∈ s.rounds, RoundOk s.next r
  pos : 1 ≤ s.next
  ends : (s.ended.map (·.1)).Nodup
  all : ∀ n, (1 ≤ n ∧ n < s.next) ↔ (n ∈ (now s).map (·.num) ∨ n ∈ s.ended.map (·.1))
  only : ∀ n, n ∈ s.ended.map (·.1) → n ∉ (now s).map (·.num)
  goes : Goes ((now s).map (·.num)) s.ended
  when : ∀ e ∈ s.ended, e.2.1 ≤ s.rounds.length
  holds : HoldsOk s.next s.holds
  fewn : s.next ≤ 1 + 6 * s.rounds.length
theorem Ok.init : Ok init := by
  refine ⟨by decide, by simp [Rl07.init], by decide, by simp [Rl07.init], fun n => ?_, by simp [Rl07.init], trivial, by simp [Rl07.init], by simp [HoldsOk, Rl07.init], by decide⟩
  simp [Rl07.init, now]
  omega
theorem Ok.now {s : St} (h : Ok s) : RoundOk s.next (now s) := by
  unfold Rl07.now
  cases e : s.rounds with
  | nil => exact ⟨by simp, by simp, ⟨by simp, by simp, by simp, by simp, by simp, by simp⟩⟩
  | cons r rs => exact h.rounds r (by rw [e]; simp)
/-- what a round makes of it -/
theorem Ok.round {s : St} (h : Ok s) (hm : s.rounds.length < 30) {l : List Nat} (t : Told l) : Ok (Rl07.round s (prs l)) ∧ s.next ≤ (Rl07.round s (prs l)).next := by
  have hg := groups_told t
  have hn := h.now
  have hb := best_ok (old := Rl07.now s) h.holds.1 hg.apart
  have hsp := number_spec (groupsOf (prs l)) (best (Rl07.now s) s.holds (groupsOf (prs l))) s.next hb.len
  generalize hw : best (Rl07.now s) s.holds (groupsOf (prs l)) = w at hb hsp
  generalize hgs : groupsOf (prs l) = gs at hb hsp hw hg
  have er : Rl07.round s (prs l) = ⟨(number (gs.zip w) s.next).1 :: s.rounds, (number (gs.zip w) s.next).2, s.ended ++ endings s (number (gs.zip w) s.next).1, s.holds⟩ := by
    unfold Rl07.round
    rw [hgs]
    dsimp only
    rw [hw]
  rw [er]
  generalize hx : number (gs.zip w) s.next = x at hsp
  obtain ⟨i1, i2, i3, i4⟩ := hsp
  have hold : ∀ n ∈ w.filterMap id, 1 ≤ n ∧ n < s.next := fun n hw => by
    obtain ⟨o, ho, e⟩ := List.mem_map.mp (hb.old n hw)
    rw [← e]
    exact hn.2.1 o ho
  have hle : s.next ≤ x.2 := by omega
  have hnums : (x.1.map (·.num)).Nodup := i4 hb.nodup fun n hn => (hold n hn).2
  have hnew : RoundOk x.2 x.1 := by
    refine ⟨hnums, fun g hgm => ?_, by rw [i1]; exact hg⟩
    have := (i3 g.num).mp (List.mem_map.mpr ⟨g, hgm, rfl⟩)
    rcases this with h1 | h1
    · have := hold _ h1; exact ⟨this.1, by omega⟩
    · exact ⟨by have := h.pos; omega, h1.2⟩
  have hend : ∀ n, n ∈ (endings s x.1).map (·.1) ↔ n ∈ (Rl07.now s).map (·.num) ∧ n ∉ x.1.map (·.num) := by
    intro n
    unfold endings
    rw [List.map_map]
    constructor
    · intro hm
      obtain ⟨o, ho, e⟩ := List.mem_map.mp hm
      obtain ⟨h1, h2⟩ := List.mem_filter.mp ho
      have e : o.num = n := e
      subst e
      refine ⟨List.mem_map.mpr ⟨o, h1, rfl⟩, fun z => ?_⟩
      obtain ⟨g, hg1, hg2⟩ := List.mem_map.mp z
      have : (x.1.any fun g => g.num == o.num) = true := List.any_eq_true.mpr ⟨g, hg1, by simpa using hg2⟩
      rw [this] at h2
      cases h2
    · rintro ⟨h1, h2⟩
      obtain ⟨o, ho, e⟩ := List.mem_map.mp h1
      have e : o.num = n := e
      subst e
      refine List.mem_map.mpr ⟨o, List.mem_filter.mpr ⟨ho, ?_⟩, rfl⟩
      cases c : x.1.any fun g => g.num == o.num with
      | false => rfl
      | true =>
        obtain ⟨g, hg1, hg2⟩ := List.any_eq_true.mp c
        exact absurd (List.mem_map.mpr ⟨g, hg1, by simpa using hg2⟩) h2
  have hnow : Rl07.now ⟨x.1 :: s.rounds, x.2, s.ended ++ endings s x.1, s.holds⟩ = x.1 := rfl
  refine ⟨⟨?_, ?_, ?_, ?_, ?_, ?_, ?_, ?_, ?_, ?_⟩, hle⟩
  · show s.rounds.length + 1 ≤ 30
    omega
  · intro r hr
    rcases List.mem_cons.mp hr with e | e
    · rw [e]; exact hnew
    · exact (h.rounds r e).mono hle
  · show 1 ≤ x.2
    have := h.pos; omega
  · show ((s.ended ++ endings s x.1).map (·.1)).Nodup
    rw [List.map_append]
    refine List.nodup_append.mpr ⟨h.ends, ?_, fun a ha b hb2 => ?_⟩
    · unfold endings
      rw [List.map_map]
      exact (hn.1).sublist (List.Sublist.map _ List.filter_sublist)
    · rintro rfl
      exact h.only a ha ((hend a).mp hb2).1
  · intro n
    rw [hnow]
    show (1 ≤ n ∧ n < x.2) ↔ (n ∈ x.1.map (·.num) ∨ n ∈ (s.ended ++ endings s x.1).map (·.1))
    rw [List.map_append, List.mem_append, hend n]
    constructor
    · rintro ⟨h1, h2⟩
      by_cases c : n < s.next
      · rcases (h.all n).mp ⟨h1, c⟩ with h3 | h3
        · by_cases d : n ∈ x.1.map (·.num)
          · exact Or.inl d
          · exact Or.inr (Or.inr ⟨h3, d⟩)
        · exact Or.inr (Or.inl h3)
      · exact Or.inl ((i3 n).mpr (Or.inr ⟨by omega, h2⟩))
    · rintro (h1 | h1 | h1)
      · obtain ⟨g, hg1, hg2⟩ := List.mem_map.mp h1
        rw [← hg2]
        exact hnew.2.1 g hg1
      · have := (h.all n).mpr (Or.inr h1); omega
      · have := (h.all n).mpr (Or.inl h1.1); omega
  · intro n
    rw [hnow]
    show n ∈ (s.ended ++ endings s x.1).map (·.1) → n ∉ x.1.map (·.num)
    rw [List.map_append, List.mem_append, hend n]
    rintro (h1 | h1)
    · intro h2
      rcases (i3 n).mp h2 with h3 | h3
      · exact h.only n h1 (hb.old n h3)
      · have := (h.all n).mpr (Or.inr h1); omega
    · exact h1.2
  · rw [hnow]
    show Goes (x.1.map (·.num)) (s.ended ++ endings s x.1)
    refine Goes.more ?_ (fun n hnm => ?_) h.goes
    · unfold endings
      have hrec : ∀ o ∈ Rl07.now s, o.recs.Nodup := fun o ho => hn.2.2.nodup _ (List.mem_map.mpr ⟨o, ho, rfl⟩)
      have key : ∀ l : Round, (∀ o ∈ l, o.recs.Nodup) → Goes (x.1.map (·.num)) (l.map fun o => (o.num, (s.rounds.length + 1, heir x.1 o.recs))) := by
        intro l
        induction l with
        | nil => intro _; trivial
        | cons o l ih =>
          intro hl
          refine ⟨?_, ih fun y hy => hl y (by simp [hy])⟩
          show heir x.1 o.recs = 0 ∨ heir x.1 o.recs ∈ x.1.map (·.num) ∨ _
          rw [heir_eq hnew (hl o (by simp))]
          rcases heirC_in o.recs x.1 with h1 | h1
          · exact Or.inl h1
          · exact Or.inr (Or.inl h1)
      exact key _ fun o ho => hrec o (List.mem_filter.mp ho).1
    · by_cases d : n ∈ x.1.map (·.num)
      · exact Or.inl d
      · exact Or.inr ((hend n).mpr ⟨hnm, d⟩)
  · intro e he
    rcases List.mem_append.mp he with h1 | h1
    · have := h.when e h1
      show e.2.1 ≤ s.rounds.length + 1
      omega
    · unfold endings at h1
      obtain ⟨o, _, e2⟩ := List.mem_map.mp h1
      rw [← e2]
      exact Nat.le_refl _
  · exact ⟨h.holds.1, fun a ha => ⟨⟨(h.holds.2 a ha).1.1, by show a.1 < x.2; have := (h.holds.2 a ha).1.2; omega⟩, (h.holds.2 a ha).2⟩⟩
  · show x.2 ≤ 1 + 6 * (s.rounds.length + 1)
    have h1 := h.fewn
    have h2 := List.length_filter_le (fun o : Option Nat => o.isNone) w
    have h3 := hb.len
    have h4 := hg.few
    omega
/-! ### where a number leads: one way through the ended ones -/
def walkTo : List (Nat × (Nat × Nat)) → Nat → Nat
  | [], n => n
  | e :: es, n => if e.1 = n then walkTo es e.2.2 else walkTo es n
theorem walkTo_none : ∀ {es : List (Nat × (Nat × Nat))} {n : Nat}, n ∉ es.map (·.1) → walkTo es n = n
  | [], _, _ => rfl
  | e :: es, n, h => by
    have h1 : ¬ e.1 = n := fun z => h (by simp [z])
    show (if e.1 = n then _ else _) = _
    rw [if_neg h1]
    exact walkTo_none fun z => h (by simp only [List.map_cons, List.mem_cons]; exact Or.inr z)
/-- how far behind a number's end stands; as many as there are if it didn't end -/
def place : List (Nat × (Nat × Nat)) → Nat → Nat
  | [], _ => 0
  | e :: es, n => if e.1 = n then 0 else place es n + 1
theorem place_le : ∀ (es : List (Nat × (Nat × Nat))) (n : Nat), place es n ≤ es.length
  | [], _ => Nat.le_refl _
  | e :: es, n => by
    show (if e.1 = n then 0 else place es n + 1) ≤ es.length + 1
    by_cases c : e.1 = n
    · rw [if_pos c]; omega
    · rw [if_neg c]; have := place_le es n; omega
/-- one step: where it led leads as it does, and its end stands further behind -/
theorem walkTo_step {nums : List Nat} : ∀ {es : List (Nat × (Nat × Nat))}, (es.map (·.1)).Nodup → (∀ n ∈ es.map (·.1), n ∉ nums ∧ n ≠ 0) → Goes nums es → ∀ {e}, e ∈ es → walkTo es e.1 = walkTo es e.2.2 ∧ place es e.1 < place es e.2.2
  | [], _, _, _, e, he => by simp at he
  | d :: es, hn, hz, hg, e, he => by
    have hn' := List.nodup_cons.mp (by simpa using hn : (d.1 :: es.map (·.1)).Nodup)
    rcases List.mem_cons.mp he with e1 | e1
    · subst e1
      have hne : ¬ e.1 = e.2.2 := by
        intro z
        rcases hg.1 with h | h | h
        · exact (hz e.1 (by simp)).2 (by rw [z, h])
        · exact (hz e.1 (by simp)).1 (by rw [z]; exact h)
        · exact hn'.1 (by rw [z]; exact h)
      constructor
      · show (if e.1 = e.1 then walkTo es e.2.2 else _) = (if e.1 = e.2.2 then _ else walkTo es e.2.2)
        rw [if_pos rfl, if_neg hne]
      · show (if e.1 = e.1 then 0 else _) < (if e.1 = e.2.2 then _ else place es e.2.2 + 1)
        rw [if_pos rfl, if_neg hne]
        omega
    · have hne : ¬ d.1 = e.1 := fun z => hn'.1 (by rw [z]; exact List.mem_map.mpr ⟨e, e1, rfl⟩)
      obtain ⟨i1, i2⟩ := walkTo_step hn'.2 (fun n h => hz n (by simp only [List.map_cons, List.mem_cons]; exact Or.inr h)) hg.2 e1
      have hgo : ∀ {es : List (Nat × (Nat × Nat))}, Goes nums es → ∀ {e}, e ∈ es → e.2.2 = 0 ∨ e.2.2 ∈ nums ∨ e.2.2 ∈ es.map (·.1) := by
        intro es
        induction es with
        | nil => intro _ e he; simp at he
        | cons c es ih =>
          intro hg e he
          rcases List.mem_cons.mp he with h | h
          · rw [h]
            rcases hg.1 with h | h | h
            · exact Or.inl h
            · exact Or.inr (Or.inl h)
            · exact Or.inr (Or.inr (by simp only [List.map_cons, List.mem_cons]; exact Or.inr h))
          · rcases ih hg.2 h with h | h | h
            · exact Or.inl h
            · exact Or.inr (Or.inl h)
            · exact Or.inr (Or.inr (by simp only [List.map_cons, List.mem_cons]; exact Or.inr h))
      have hne2 : ¬ d.1 = e.2.2 := by
        intro z
        rcases hgo hg.2 e1 with h | h | h
        · exact (hz d.1 (by simp)).2 (by rw [z, h])
        · exact (hz d.1 (by simp)).1 (by rw [z]; exact h)
        · exact hn'.1 (by rw [z]; exact h)
      constructor
      · show (if d.1 = e.1 then _ else walkTo es e.1) = (if d.1 = e.2.2 then _ else walkTo es e.2.2)
        rw [if_neg hne, if_neg hne2, i1]
      · show (if d.1 = e.1 then _ else place es e.1 + 1) < (if d.1 = e.2.2 then _ else place es e.2.2 + 1)
        rw [if_neg hne, if_neg hne2]
        omega
theorem Goes.mem {nums : List Nat} : ∀ {es : List (Nat × (Nat × Nat))}, Goes nums es → ∀ {e}, e ∈ es → e.2.2 = 0 ∨ e.2.2 ∈ nums ∨ e.2.2 ∈ es.map (·.1)
  | [], _, e, he => by simp at he
  | c :: es, hg, e, he => by
    rcases List.mem_cons.mp he with h | h
    · rw [h]
      rcases hg.1 with h | h | h
      · exact Or.inl h
      · exact Or.inr (Or.inl h)
      · exact Or.inr (Or.inr (by simp only [List.map_cons, List.mem_cons]; exact Or.inr h))
    · rcases Goes.mem hg.2 h with h | h | h
      · exact Or.inl h
      · exact Or.inr (Or.inl h)
      · exact Or.inr (Or.inr (by simp only [List.map_cons, List.mem_cons]; exact Or.inr h))
theorem Ok.step {s : St} (h : Ok s) {e : Nat × (Nat × Nat)} (he : e ∈ s.ended) : walkTo s.ended e.1 = walkTo s.ended e.2.2 ∧ place s.ended e.1 < place s.ended e.2.2 :=
  walkTo_step (nums := (Rl07.now s).map (·.num)) h.ends (fun n hn => ⟨h.only n hn, by have := (h.all n).mpr (Or.inr hn); omega⟩) h.goes he
theorem Ok.leads {s : St} (h : Ok s) : ∀ (f n : Nat), 1 ≤ n → n < s.next → s.ended.length < f + place s.ended n → Rl07.leads s f n = walkTo s.ended n
  | 0, n, _, _, hf => by have := place_le s.ended n; omega
  | f + 1, n, h1, h2, hf => by
    show (if (Rl07.now s).any (fun g => g.num == n) = true then n else match s.ended.find? fun e => e.1 == n with
      | some e => if e.2.2 = 0 then 0 else Rl07.leads s f e.2.2
      | none => 0) = _
    by_cases c : (Rl07.now s).any (fun g => g.num == n) = true
    · rw [if_pos c]
      obtain ⟨g, hg, eg⟩ := List.any_eq_true.mp c
      have hm : n ∈ (Rl07.now s).map (·.num) := List.mem_map.mpr ⟨g, hg, by simpa using eg⟩
      rw [walkTo_none fun z => h.only n z hm]
    · rw [if_neg c]
      have hnn : n ∉ (Rl07.now s).map (·.num) := fun z => by
        obtain ⟨g, hg, eg⟩ := List.mem_map.mp z
        exact c (List.any_eq_true.mpr ⟨g, hg, by simpa using eg⟩)
      have hne : n ∈ s.ended.map (·.1) := by
        rcases (h.all n).mp ⟨h1, h2⟩ with z | z
        · exact absurd z hnn
        · exact z
      cases ef : s.ended.find? fun e => e.1 == n with
      | none =>
        obtain ⟨e, he, ee⟩ := List.mem_map.mp hne
        have := List.find?_eq_none.mp ef e he
        simp only [beq_iff_eq] at this
        exact absurd ee this
      | some e =>
        have he := List.mem_of_find?_eq_some ef
        have ee : e.1 = n := by simpa using List.find?_some ef
        obtain ⟨s1, s2⟩ := h.step he
        rw [ee] at s1 s2
        show (if e.2.2 = 0 then 0 else Rl07.leads s f e.2.2) = _
        rw [s1]
        by_cases z : e.2.2 = 0
        · rw [if_pos z, z, walkTo_none]
          intro hz
          have := (h.all 0).mpr (Or.inr hz)
          omega
        · rw [if_neg z]
          have hv : 1 ≤ e.2.2 ∧ e.2.2 < s.next := by
            rcases h.goes.mem he with h3 | h3 | h3
            · exact absurd h3 z
            · exact (h.all _).mpr (Or.inl h3)
            · exact (h.all _).mpr (Or.inr h3)
          exact Ok.leads h f e.2.2 hv.1 hv.2 (by omega)
theorem Ok.ended_len {s : St} (h : Ok s) : s.ended.length < s.next := by
  have := len_within (s.ended.map (·.1)) ((List.range s.next).drop 1) h.ends fun x hx => by
    have := (h.all x).mpr (Or.inr hx)
    rw [List.mem_iff_getElem]
    refine ⟨x - 1, ?_, ?_⟩
    · rw [List.length_drop, List.length_range]; omega
    · rw [List.getElem_drop, List.getElem_range]; omega
  rw [List.length_map, List.length_drop, List.length_range] at this
  have := h.pos
  omega
theorem Ok.leads_all {s : St} (h : Ok s) {n : Nat} (h1 : 1 ≤ n) (h2 : n < s.next) : Rl07.leads s s.next n = walkTo s.ended n := h.leads s.next n h1 h2 (by have := h.ended_len; omega)
end NK
/-! Calls as they stand in one list. -/
namespace NK
open Rl07
/-- a call as it stands in the list -/
def flat : Rl07.Call → List Nat
  | .begin_ => [0]
  | .round l => 1 :: l.length :: l
  | .show_ => [2]
  | .of_ x => [3, x]
  | .leads n => [4, n]
  | .was m x => [5, m, x]
  | .ended m => [6, m]
  | .begun m => [7, m]
  | .hold n x => [8, n, x]
  | .let_ n => [9, n]
  | .would l => 10 :: l.length :: l
  | .counts => [11]
def rowOf : Rl07.Call → List Nat
  | .round l => l
  | .would l => l
  | _ => []
def code : Rl07.Call → List (List Int)
  | .begin_ => [[0]]
  | .round l => [[1], Rl07.ints l]
  | .show_ => [[2]]
  | .of_ x => [[3, (x : Int)]]
  | .leads n => [[4, (n : Int)]]
  | .was m x => [[5, (m : Int), (x : Int)]]
  | .ended m => [[6, (m : Int)]]
  | .begun m => [[7, (m : Int)]]
  | .hold n x => [[8, (n : Int), (x : Int)]]
  | .let_ n => [[9, (n : Int)]]
  | .would l => [[10], Rl07.ints l]
  | .counts => [[11]]
def play : St → List Rl07.Call → List (List Int)
  | _, [] => []
  | s, c :: cs => (Rl07.step s c).2 :: play (Rl07.step s c).1 cs
def after (s : St) (cs : List Rl07.Call) : St := cs.foldl (fun s c => (Rl07.step s c).1) s
theorem ints_len (l : List Nat) : (Rl07.ints l).length = l.length := List.length_map _
theorem put1_code (x : Rl07.Call) : PyFlat.put1 (code x) = Rl07.ints (flat x) := by
  cases x with
  | round l =>
    show [1] ++ (((Rl07.ints l).length : Int) :: Rl07.ints l ++ []) = Rl07.ints (1 :: l.length :: l)
    rw [ints_len, List.append_nil]; rfl
  | would l =>
    show [10] ++ (((Rl07.ints l).length : Int) :: Rl07.ints l ++ []) = Rl07.ints (10 :: l.length :: l)
    rw [ints_len, List.append_nil]; rfl
  | _ => rfl
theorem whole_code (x : Rl07.Call) : PyRl07.whole (code x) = code x := by
  cases x <;> rfl
theorem ints_nat {r : List Int} (h : ∀ z ∈ r, 0 ≤ z) : ∃ l : List Nat, r = Rl07.ints l := by
  refine ⟨r.map Int.toNat, ?_⟩
  unfold Rl07.ints
  rw [List.map_map]
  induction r with
  | nil => rfl
  | cons a r ih =>
    rw [List.map_cons, ← ih fun z hz => h z (by simp [hz])]
    refine congrArg (fun z => z :: r) ?_
    have := h a (by simp)
    show a = ((a.toNat : Nat) : Int)
    omega
theorem toNat_ints (l : List Nat) : (Rl07.ints l).map Int.toNat = l := by
  unfold Rl07.ints
  rw [List.map_map]
  induction l with
  | nil => rfl
  | cons a l ih => rw [List.map_cons, ih]; rfl
theorem ok_code {c : List (List Int)} (h : PyFlat.okCall PyRl07.shape c) (hz : ∀ r ∈ c, ∀ z ∈ r, 0 ≤ z) : ∃ x : Rl07.Call, c = code x := by
  obtain ⟨p, a, xs, rfl, hs⟩ := h
  have ha : ∀ z ∈ a, 0 ≤ z := fun z h => hz (p :: a) (by simp) z (by simp [h])
  have hx : ∀ r ∈ xs, ∀ z ∈ r, 0 ≤ z := fun r h => hz r (by simp [h])
  obtain ⟨as, rfl⟩ := ints_nat ha
  rw [ints_len] at hs
  have e0 : ∀ {k}, some (0, k) = some (as.length, xs.length) → as = [] := fun {k} h => List.length_eq_zero_iff.mp (by have := congrArg Prod.fst (Option.some.inj h); exact this.symm)
  have e1 : ∀ {k}, some (1, k) = some (as.length, xs.length) → ∃ n, as = [n] := fun {k} h => List.length_eq_one_iff.mp (by have := congrArg Prod.fst (Option.some.inj h); exact this.symm)
  have e2 : ∀ {k}, some (2, k) = some (as.length, xs.length) → ∃ n m, as = [n, m] := fun {k} h => by
    have : as.length = 2 := (congrArg Prod.fst (Option.some.inj h)).symm
    match as, this with
    | [n, m], _ => exact ⟨n, m, rfl⟩
  have f0 : ∀ {k}, some (k, 0) = some (as.length, xs.length) → xs = [] := fun {k} h => List.length_eq_zero_iff.mp (by have := congrArg Prod.snd (Option.some.inj h); exact this.symm)
  have f1 : ∀ {k}, some (k, 1) = some (as.length, xs.length) → ∃ l, xs = [Rl07.ints l] := fun {k} h => by
    obtain ⟨r, rfl⟩ := List.length_eq_one_iff.mp (show xs.length = 1 from (congrArg Prod.snd (Option.some.inj h)).symm)
    obtain ⟨l, rfl⟩ := ints_nat (hx r (by simp))
    exact ⟨l, rfl⟩
  unfold PyRl07.shape at hs
  by_cases h : p = 0
  · rw [if_pos h] at hs; obtain rfl := e0 hs; obtain rfl := f0 hs; subst h; exact ⟨.begin_, rfl⟩
  rw [if_neg h] at hs; clear h
  by_cases h : p = 1
  · rw [if_pos h] at hs; obtain rfl := e0 hs; obtain ⟨l, rfl⟩ := f1 hs; subst h; exact ⟨.round l, rfl⟩
  rw [if_neg h] at hs; clear h
  by_cases h : p = 2
  · rw [if_pos h] at hs; obtain rfl := e0 hs; obtain rfl := f0 hs; subst h; exact ⟨.show_, rfl⟩
  rw [if_neg h] at hs; clear h
  by_cases h : p = 3
  · rw [if_pos h] at hs; obtain ⟨n, rfl⟩ := e1 hs; obtain rfl := f0 hs; subst h; exact ⟨.of_ n, rfl⟩
  rw [if_neg h] at hs; clear h
  by_cases h : p = 4
  · rw [if_pos h] at hs; obtain ⟨n, rfl⟩ := e1 hs; obtain rfl := f0 hs; subst h; exact ⟨.leads n, rfl⟩
  rw [if_neg h] at hs; clear h
  by_cases h : p = 5
  · rw [if_pos h] at hs; obtain ⟨n, m, rfl⟩ := e2 hs; obtain rfl := f0 hs; subst h; exact ⟨.was n m, rfl⟩
  rw [if_neg h] at hs; clear h
  by_cases h : p = 6
  · rw [if_pos h] at hs; obtain ⟨n, rfl⟩ := e1 hs; obtain rfl := f0 hs; subst h; exact ⟨.ended n, rfl⟩
  rw [if_neg h] at hs; clear h
  by_cases h : p = 7
  · rw [if_pos h] at hs; obtain ⟨n, rfl⟩ := e1 hs; obtain rfl := f0 hs; subst h; exact ⟨.begun n, rfl⟩
  rw [if_neg h] at hs; clear h
  by_cases h : p = 8
  · rw [if_pos h] at hs; obtain ⟨n, m, rfl⟩ := e2 hs; obtain rfl := f0 hs; subst h; exact ⟨.hold n m, rfl⟩
  rw [if_neg h] at hs; clear h
  by_cases h : p = 9
  · rw [if_pos h] at hs; obtain ⟨n, rfl⟩ := e1 hs; obtain rfl := f0 hs; subst h; exact ⟨.let_ n, rfl⟩
  rw [if_neg h] at hs; clear h
  by_cases h : p = 10
  · rw [if_pos h] at hs; obtain rfl := e0 hs; obtain ⟨l, rfl⟩ := f1 hs; subst h; exact ⟨.would l, rfl⟩
  rw [if_neg h] at hs; clear h
  by_cases h : p = 11
  · rw [if_pos h] at hs; obtain rfl := e0 hs; obtain rfl := f0 hs; subst h; exact ⟨.counts, rfl⟩
  rw [if_neg h] at hs
  cases hs
theorem callIn_code (x : Rl07.Call) : Rl07Neutral.callIn ((code x).map fun r => r.map Int.toNat) = some x := by
  cases x with
  | round l =>
    show Rl07Neutral.callIn [[1], (Rl07.ints l).map Int.toNat] = _
    rw [toNat_ints]; rfl
  | would l =>
    show Rl07Neutral.callIn [[10], (Rl07.ints l).map Int.toNat] = _
    rw [toNat_ints]; rfl
  | _ => rfl
theorem step_code {x : Rl07.Call} (h : Rl07Neutral.asked1 (code x) = true) (s : St) : Rl07Neutral.step s (code x) = Rl07.step s x := by
  have e : Rl07Neutral.callOf (code x) = some x := by
    unfold Rl07Neutral.asked1 Rl07Neutral.callOf at h
    unfold Rl07Neutral.callOf
    by_cases c : ((code x).all fun r => r.all Rl07Neutral.nat) = false
    · rw [if_pos c] at h; cases h
    · rw [if_neg c, callIn_code]
  unfold Rl07Neutral.step
  rw [e]
theorem put_flat (cs : List Rl07.Call) : PyFlat.put (cs.map code) = Rl07.ints (cs.flatMap flat) := by
  induction cs with
  | nil => rfl
  | cons c cs ih =>
    show PyFlat.put1 (code c) ++ PyFlat.put (cs.map code) = _
    rw [ih, put1_code, List.flatMap_cons]
    unfold Rl07.ints
    rw [List.map_append]
theorem put_mem {z : Int} : ∀ {cs : List (List (List Int))} {c : List (List Int)} {r : List Int}, c ∈ cs → r ∈ c → z ∈ r → z ∈ PyFlat.put cs := by
  intro cs
  induction cs with
  | nil => intro c r h; simp at h
  | cons d cs ih =>
    intro c r hc hr hz
    show z ∈ PyFlat.put1 d ++ PyFlat.put cs
    rcases List.mem_cons.mp hc with e | e
    · subst e
      refine List.mem_append.mpr (Or.inl ?_)
      cases c with
      | nil => simp at hr
      | cons h xs =>
        show z ∈ h ++ PyFlat.putRows xs
        rcases List.mem_cons.mp hr with e | e
        · subst e; exact List.mem_append.mpr (Or.inl hz)
        · refine List.mem_append.mpr (Or.inr ?_)
          clear hc hr ih
          induction xs with
          | nil => simp at e
          | cons y ys ihy =>
            show z ∈ PyFlat.putRow y ++ PyFlat.putRows ys
            rcases List.mem_cons.mp e with e | e
            · subst e; exact List.mem_append.mpr (Or.inl (List.mem_cons_of_mem _ hz))
            · exact List.mem_append.mpr (Or.inr (ihy e))
    · exact List.mem_append.mpr (Or.inr (ih e hr hz))
/-- what is handed in, and what is due, call by call -/
theorem read_calls {ns : List Int} (h0 : ∀ x ∈ ns, 0 ≤ x ∧ x ≤ 4294967295) (h : PyRl07.answers_asked ns = true) :
    ∃ cs : List Rl07.Call, ns = Rl07.ints (cs.flatMap flat) ∧ cs.length ≤ 60 ∧ (∀ c ∈ cs, (rowOf c).length ≤ 40) ∧ PyRl07.answers ns = PyFlat.told (play init cs) ∧ (PyFlat.told (play init cs)).length ≤ 10000000 := by
  unfold PyRl07.answers_asked at h
  cases e : PyFlat.calls PyRl07.shape ns.length ns with
  | none => rw [e] at h; cases h
  | some raw =>
    rw [e] at h
    simp only [Bool.and_eq_true] at h
    obtain ⟨⟨⟨⟨h1, h2⟩, h3⟩, h4⟩, h5⟩ := h
    obtain ⟨hp, hok⟩ := PyFlat.put_calls _ _ _ e
    have hc : ∀ c ∈ raw, ∃ x : Rl07.Call, c = code x := fun c hc => ok_code (hok c hc) fun r hr z hz => (h0 z (by rw [hp]; exact put_mem hc hr hz)).1
    have hcs : ∃ cs : List Rl07.Call, raw = cs.map code := by
      clear e hp hok h1 h2 h3 h4 h5 h0
      induction raw with
      | nil => exact ⟨[], rfl⟩
      | cons c raw ih =>
        obtain ⟨x, rfl⟩ := hc c (by simp)
        obtain ⟨cs, rfl⟩ := ih fun d hd => hc d (by simp [hd])
        exact ⟨x :: cs, rfl⟩
    obtain ⟨cs, rfl⟩ := hcs
    have hw : (cs.map code).map PyRl07.whole = cs.map code := by
      rw [List.map_map]
      exact List.map_congr_left fun x _ => whole_code x
    rw [hw] at h4
    have h40 := h4
    unfold Rl07Neutral.asked at h40
    rw [Bool.and_eq_true] at h40
    have hone : ∀ x ∈ cs, Rl07Neutral.asked1 (code x) = true := fun x hx => List.all_eq_true.mp h40.1 _ (List.mem_map.mpr ⟨x, hx, rfl⟩)
    have hplay : ∀ (cs : List Rl07.Call) (s : St), (∀ x ∈ cs, Rl07Neutral.asked1 (code x) = true) → PyFlat.played Rl07Neutral.step s (cs.map code) = play s cs := by
      intro cs
      induction cs with
      | nil => intro s _; rfl
      | cons c cs ih =>
        intro s hs
        show (Rl07Neutral.step s (code c)).2 :: PyFlat.played Rl07Neutral.step (Rl07Neutral.step s (code c)).1 (cs.map code) = (Rl07.step s c).2 :: play (Rl07.step s c).1 cs
        rw [step_code (hs c (by simp)), ih _ fun x hx => hs x (by simp [hx])]
    have ha : PyRl07.answers ns = PyFlat.told (play init cs) := by
      unfold PyRl07.answers PyRl07.calls
      rw [e]
      show PyFlat.told (PyFlat.played Rl07Neutral.step Rl07Neutral.start ((cs.map code).map PyRl07.whole)) = _
      rw [hw]
      exact congrArg PyFlat.told (hplay cs init hone)
    refine ⟨cs, by rw [hp, put_flat], ?_, fun c hcm => ?_, ha, ?_⟩
    · unfold PyFlat.atMost at h2
      rw [List.length_map] at h2
      simpa using h2
    · have hb := List.all_eq_true.mp h3 _ (List.mem_map.mpr ⟨c, hcm, rfl⟩)
      cases c with
      | round l =>
        have hb' : (true && ((decide (0 ≤ (Rl07.ints l).length) && decide ((Rl07.ints l).length ≤ 40) && (Rl07.ints l).all (PyInside.within 0 4294967295)) && true)) = true := hb
        simp only [Bool.and_eq_true, decide_eq_true_eq] at hb'
        rw [ints_len] at hb'
        exact hb'.2.1.1.2
      | would l =>
        have hb' : (true && ((decide (0 ≤ (Rl07.ints l).length) && decide ((Rl07.ints l).length ≤ 40) && (Rl07.ints l).all (PyInside.within 0 4294967295)) && true)) = true := hb
        simp only [Bool.and_eq_true, decide_eq_true_eq] at hb'
        rw [ints_len] at hb'
        exact hb'.2.1.1.2
      | _ => exact Nat.zero_le _
    · unfold PyFlat.short at h5
      rw [ha] at h5
      simpa using h5
/-! ### prefixes -/
theorem play_append (cs ds : List Rl07.Call) (s : St) : play s (cs ++ ds) = play s cs ++ play (after s cs) ds := by
  induction cs generalizing s with
  | nil => rfl
  | cons c cs ih =>
    show (Rl07.step s c).2 :: play (Rl07.step s c).1 (cs ++ ds) = (Rl07.step s c).2 :: (play (Rl07.step s c).1 cs ++ play (after (Rl07.step s c).1 cs) ds)
    rw [ih]
theorem told_append (a b : List (List Int)) : PyFlat.told (a ++ b) = PyFlat.told a ++ PyFlat.told b := List.flatMap_append
theorem after_snoc (cs : List Rl07.Call) (c : Rl07.Call) (s : St) : after s (cs ++ [c]) = (Rl07.step (after s cs) c).1 := by
  unfold after
  rw [List.foldl_append]; rfl
end NK
namespace NK
open Rl07
/-- the best way as the code finds it -/
theorem best_code {k : Nat} {old : Round} (ho : RoundOk k old) {hs : Holds} (hh : (hs.map (·.1)).Nodup) {gs : List (List Nat)} (hg : Groups gs) :
    ∃ w l, allWays (gs.map fun g => (mayHave old hs gs g).map enc) = w :: l ∧ bestBy (keptC old gs) w l = (best old hs gs).map enc := by
  obtain ⟨w, l, e1, e2⟩ := best_eq (old := old) hh hg.apart
  refine ⟨w.map enc, l.map fun x => x.map enc, ?_, ?_⟩
  · have h := allWays_eq (gs.map (mayHave old hs gs)) fun c hc => by
      obtain ⟨g, _, rfl⟩ := List.mem_map.mp hc
      exact mayHave_zero ho hs gs g
    rw [List.map_map, e1] at h
    exact h
  · rw [e2, bestBy_map]
    refine congrArg _ (bestBy_congr l w ?_ fun x hx => ?_)
    · exact (kept_eq ho hg.nodup w).symm
    · exact (kept_eq ho hg.nodup x).symm
theorem may_none (old : Round) (gs : List (List Nat)) (g : List Nat) : mayHave old [] gs g = (rising ((old.filter fun o => decide (0 < common o.recs g)).map fun o => o.num)).map some ++ [none] := by
  have h1 : heldIn old [] g = none := rfl
  unfold mayHave
  rw [h1]
  have : (old.filter fun o => decide (0 < common o.recs g) && !isHeld [] gs o.num) = old.filter fun o => decide (0 < common o.recs g) := List.filter_congr fun o _ => by
    show (decide (0 < common o.recs g) && !false) = _
    rw [Bool.not_false, Bool.and_true]
  show (rising ((old.filter fun o => decide (0 < common o.recs g) && !isHeld [] gs o.num).map fun o => o.num)).map some ++ [none] = _
  rw [this]
/-! ### what each call does to the desk -/
theorem Ok.step_ok {s : St} (h : Ok s) : ∀ c : Rl07.Call, Ok (Rl07.step s c).1
  | .begin_ => Ok.init
  | .round l => by
    show Ok (match told? l with
    | none => (s, [-1])
    | some p => if 30 ≤ s.rounds.length then (s, [-6]) else
      let t := Rl07.round s p
      (t, (t.rounds.length : Int) :: roundTold (Rl07.now t)) : St × List Int).1
    by_cases t : Told l
    · rw [told_some t]
      show Ok (if 30 ≤ s.rounds.length then (s, [-6]) else _ : St × List Int).1
      by_cases c : 30 ≤ s.rounds.length
      · rw [if_pos c]; exact h
      · rw [if_neg c]; exact (h.round (by omega) t).1
    · rw [told_none t]; exact h
  | .show_ => h
  | .of_ _ => h
  | .leads _ => h
  | .was _ _ => h
  | .ended _ => h
  | .begun _ => h
  | .hold n x => by
    show Ok (if n = 0 ∨ s.next ≤ n then (s, [-3]) else if x = 0 ∨ 30 < x then (s, [-1]) else ({ s with holds := (s.holds.filter fun h => h.1 != n) ++ [(n, x)] }, _) : St × List Int).1
    by_cases c1 : n = 0 ∨ s.next ≤ n
    · rw [if_pos c1]; exact h
    rw [if_neg c1]
    by_cases c2 : x = 0 ∨ 30 < x
    · rw [if_pos c2]; exact h
    rw [if_neg c2]
    refine ⟨h.many, h.rounds, h.pos, h.ends, h.all, h.only, h.goes, h.when, ⟨?_, fun a ha => ?_⟩, h.fewn⟩
    · show ((s.holds.filter (fun h => h.1 != n) ++ [(n, x)]).map (·.1)).Nodup
      rw [List.map_append]
      refine List.nodup_append.mpr ⟨h.holds.1.sublist (List.Sublist.map _ List.filter_sublist), by simp, fun a ha b hb => ?_⟩
      obtain ⟨p, hp, rfl⟩ := List.mem_map.mp ha
      have := (List.mem_filter.mp hp).2
      have hb : b = n := by simpa using hb
      subst hb
      simpa using this
    · rcases List.mem_append.mp ha with ha | ha
      · exact h.holds.2 a (List.mem_filter.mp ha).1
      · have : a = (n, x) := by simpa using ha
        rw [this]
        rw [not_or] at c1 c2
        exact ⟨⟨by show 1 ≤ n; omega, by show n < s.next; omega⟩, by show 1 ≤ x; omega, by show x ≤ 30; omega⟩
  | .let_ n => by
    show Ok (if s.holds.any (fun h => h.1 == n) = false then (s, [-3]) else ({ s with holds := s.holds.filter fun h => h.1 != n }, _) : St × List Int).1
    by_cases c1 : s.holds.any (fun h => h.1 == n) = false
    · rw [if_pos c1]; exact h
    rw [if_neg c1]
    exact ⟨h.many, h.rounds, h.pos, h.ends, h.all, h.only, h.goes, h.when, ⟨h.holds.1.sublist (List.Sublist.map _ List.filter_sublist), fun a ha => h.holds.2 a (List.mem_filter.mp ha).1⟩, h.fewn⟩
  | .would _ => h
  | .counts => h
theorem after_ok (cs : List Rl07.Call) : Ok (after init cs) := by
  have key : ∀ (cs : List Rl07.Call) (s : St), Ok s → Ok (after s cs) := by
    intro cs
    induction cs with
    | nil => intro s h; exact h
    | cons c cs ih => intro s h; exact ih _ (h.step_ok c)
  exact key cs init Ok.init
/-! ### what was begun in a round: the numbers that no round before had -/
end NK
/-! What ended and what began, round by round. -/
namespace NK
open Rl07
theorem round_parts (s : St) (p : List (Nat × Nat)) : ∃ r n, Rl07.round s p = ⟨r :: s.rounds, n, s.ended ++ endings s r, s.holds⟩ ∧ (r, n) = number ((groupsOf p).zip (best (Rl07.now s) s.holds (groupsOf p))) s.next := ⟨_, _, rfl, rfl⟩
theorem ended_old {s : St} (h : Ok s) (r : Round) {m : Nat} (hm : m ≤ s.rounds.length) : (s.ended ++ endings s r).filter (fun e => e.2.1 == m) = s.ended.filter fun e => e.2.1 == m := by
  rw [List.filter_append]
  have : (endings s r).filter (fun e => e.2.1 == m) = [] := List.filter_eq_nil_iff.mpr fun e he => by
    unfold endings at he
    obtain ⟨o, _, rfl⟩ := List.mem_map.mp he
    show ¬ ((s.rounds.length + 1 == m) = true)
    rw [beq_iff_eq]; omega
  rw [this, List.append_nil]
theorem ended_new {s : St} (h : Ok s) (r : Round) : (s.ended ++ endings s r).filter (fun e => e.2.1 == s.rounds.length + 1) = endings s r := by
  rw [List.filter_append]
  have h1 : s.ended.filter (fun e => e.2.1 == s.rounds.length + 1) = [] := List.filter_eq_nil_iff.mpr fun e he => by
    have := h.when e he
    rw [beq_iff_eq]; omega
  have h2 : (endings s r).filter (fun e => e.2.1 == s.rounds.length + 1) = endings s r := List.filter_eq_self.mpr fun e he => by
    unfold endings at he
    obtain ⟨o, _, rfl⟩ := List.mem_map.mp he
    exact beq_self_eq_true _
  rw [h1, h2, List.nil_append]
/-- the numbers that are new in a round -/
def begunAt (s : St) (m : Nat) : List Nat := match roundAt s m with
  | none => []
  | some r => (r.filter fun g => !((s.rounds.reverse.take (m - 1)).flatten.map fun g => g.num).contains g.num).map fun g => g.num
theorem step_begun (s : St) (m : Nat) : (Rl07.step s (.begun m)).2 = match roundAt s m with
    | none => [-3]
    | some _ => Rl07.ints ((begunAt s m).length :: begunAt s m) := by
  show (match roundAt s m with
    | none => [-3]
    | some r =>
      let before := (s.rounds.reverse.take (m - 1)).flatten.map fun (g : Group) => g.num
      let l := r.filter fun (g : Group) => !before.contains g.num
      Rl07.ints (l.length :: l.map fun (g : Group) => g.num) : List Int) = _
  unfold begunAt
  cases roundAt s m with
  | none => rfl
  | some r => simp only [List.length_map]
theorem roundAt_old {s : St} {r : Round} {n : Nat} {es : List (Nat × (Nat × Nat))} {hs : Holds} {m : Nat} (hm : m ≤ s.rounds.length) : roundAt ⟨r :: s.rounds, n, es, hs⟩ m = roundAt s m := by
  unfold roundAt
  by_cases c : m = 0
  · rw [if_pos c, if_pos c]
  · rw [if_neg c, if_neg c, List.reverse_cons, List.getElem?_append_left (by rw [List.length_reverse]; omega)]
theorem roundAt_new {s : St} {r : Round} {n : Nat} {es : List (Nat × (Nat × Nat))} {hs : Holds} : roundAt ⟨r :: s.rounds, n, es, hs⟩ (s.rounds.length + 1) = some r := by
  unfold roundAt
  rw [if_neg (by omega), List.reverse_cons, List.getElem?_append_right (by rw [List.length_reverse]; omega), List.length_reverse]
  simp
theorem begun_old {s : St} {r : Round} {n : Nat} {es : List (Nat × (Nat × Nat))} {hs : Holds} {m : Nat} (hm : m ≤ s.rounds.length) : begunAt ⟨r :: s.rounds, n, es, hs⟩ m = begunAt s m := by
  unfold begunAt
  rw [roundAt_old hm]
  cases roundAt s m with
  | none => rfl
  | some q =>
    show (q.filter fun g => !(((r :: s.rounds).reverse.take (m - 1)).flatten.map fun g => g.num).contains g.num).map _ = _
    rw [List.reverse_cons, List.take_append_of_le_length (by rw [List.length_reverse]; omega)]
/-- what a round's groups are new by: their numbers are not below the next one of then; or no group of the round ahead had them -/
theorem round_new {s : St} (h : Ok s) {l : List Nat} (t : Told l) {r : Round} {n : Nat} (e : (r, n) = number ((groupsOf (prs l)).zip (best (Rl07.now s) s.holds (groupsOf (prs l)))) s.next) :
    ∀ g ∈ r, (g.num < s.next ↔ g.num ∈ (Rl07.now s).map (·.num)) := by
  have hg := groups_told t
  have hb := best_ok (old := Rl07.now s) h.holds.1 hg.apart
  have hsp := number_spec _ _ s.next hb.len
  rw [← e] at hsp
  intro g hm
  rcases (hsp.2.2.1 g.num).mp (List.mem_map.mpr ⟨g, hm, rfl⟩) with z | z
  · have := hb.old _ z
    obtain ⟨o, ho, eo⟩ := List.mem_map.mp this
    have := (h.now.2.1 o ho).2
    have eo : o.num = g.num := eo
    exact ⟨fun _ => by assumption, fun _ => by omega⟩
  · refine ⟨fun y => by omega, fun y => ?_⟩
    obtain ⟨o, ho, eo⟩ := List.mem_map.mp y
    have := (h.now.2.1 o ho).2
    have eo : o.num = g.num := eo
    omega
theorem begun_new {s : St} (h : Ok s) {l : List Nat} (t : Told l) {r : Round} {n : Nat} {es : List (Nat × (Nat × Nat))} (e : (r, n) = number ((groupsOf (prs l)).zip (best (Rl07.now s) s.holds (groupsOf (prs l)))) s.next) :
    begunAt ⟨r :: s.rounds, n, es, s.holds⟩ (s.rounds.length + 1) = (r.filter fun g => decide (s.next ≤ g.num)).map fun g => g.num := by
  unfold begunAt
  rw [roundAt_new]
  show (r.filter fun g => !(((r :: s.rounds).reverse.take (s.rounds.length + 1 - 1)).flatten.map fun g => g.num).contains g.num).map _ = _
  have e1 : (r :: s.rounds).reverse.take (s.rounds.length + 1 - 1) = s.rounds.reverse := by
    rw [List.reverse_cons, Nat.add_sub_cancel, List.take_append_of_le_length (by rw [List.length_reverse]; omega), List.take_of_length_le (by rw [List.length_reverse]; omega)]
  rw [e1]
  refine congrArg (List.map _) (List.filter_congr fun g hm => ?_)
  have hn := round_new h t e g hm
  rw [Bool.eq_iff_iff, Bool.not_eq_true', decide_eq_true_eq, ← Bool.not_eq_true, List.contains_iff_mem]
  constructor
  · intro z
    refine Classical.byContradiction fun y => z ?_
    have := hn.mp (by omega)
    obtain ⟨o, ho, eo⟩ := List.mem_map.mp this
    refine List.mem_map.mpr ⟨o, List.mem_flatten.mpr ⟨Rl07.now s, ?_, ho⟩, eo⟩
    rw [List.mem_reverse]
    unfold Rl07.now at ho ⊢
    cases er : s.rounds with
    | nil => rw [er] at ho; simp at ho
    | cons q qs => simp
  · intro z y
    obtain ⟨o, ho, eo⟩ := List.mem_map.mp y
    obtain ⟨q, hq, ho⟩ := List.mem_flatten.mp ho
    have := ((h.rounds q (List.mem_reverse.mp hq)).2.1 o ho).2
    have eo : o.num = g.num := eo
    omega
/-! ### what is held -/
/-- the record to which a number is held -/
def heldTo (hs : Holds) (n : Nat) : Option Nat := (hs.find? fun h => h.1 == n).map fun h => h.2
theorem heldTo_some {hs : Holds} (h : (hs.map (·.1)).Nodup) {n r : Nat} : heldTo hs n = some r ↔ (n, r) ∈ hs := by
  unfold heldTo
  constructor
  · intro e
    obtain ⟨p, hp, rfl⟩ := Option.map_eq_some_iff.mp e
    have h1 : p.1 = n := by simpa using List.find?_some hp
    rw [← h1]
    exact List.mem_of_find?_eq_some hp
  · intro hm
    cases e : hs.find? fun h => h.1 == n with
    | none =>
      have := List.find?_eq_none.mp e _ hm
      simp at this
    | some p =>
      have h1 : p.1 = n := by simpa using List.find?_some e
      have h2 := List.mem_of_find?_eq_some e
      have : (n, p.2) ∈ hs := by rw [← h1]; exact h2
      rw [holds_one h hm this]; rfl
end NK
/-! What is held, in another order; what a group may have, as the code finds it; what each round ended and began. -/
namespace NK
open Rl07
theorem rising_ext {l m : List Nat} (h : ∀ x, x ∈ l ↔ x ∈ m) : rising l = rising m := sorted_eq (rising_sorted l) (rising_sorted m) fun x => by rw [mem_rising, mem_rising, h x]
theorem rising_head {l : List Nat} {m : Nat} (h1 : m ∈ l) (h2 : ∀ y ∈ l, m ≤ y) : (rising l).head? = some m := by
  have hm : m ∈ rising l := mem_rising.mpr h1
  cases e : rising l with
  | nil => rw [e] at hm; simp at hm
  | cons a r =>
    have hs := rising_sorted l
    rw [e] at hs hm
    have ha : a ∈ l := mem_rising.mp (by rw [e]; simp)
    have := h2 a ha
    rcases List.mem_cons.mp hm with z | z
    · rw [z]; rfl
    · have := (List.pairwise_cons.mp hs).1 m z
      omega
/-! ### what a group may have -/
def counting (old : Round) (gs : List (List Nat)) (hk : Holds) : Holds := hk.filter fun h => (old.any fun o => o.num == h.1) && gs.any fun g => g.contains h.2
def heldToIt (cs : Holds) (g : List Nat) : List Nat := (cs.filter fun h => g.contains h.2).map (·.1)
def shares (old : Round) (g : List Nat) : List Nat := (old.filter fun o => decide (0 < common g o.recs)).map (·.num)
def openTo (old : Round) (cs : Holds) (g : List Nat) : List Nat := (shares old g).filter fun n => !cs.any fun h => h.1 == n
def mayC (old : Round) (cs : Holds) (g : List Nat) : List Nat := match (rising (heldToIt cs g)).head? with
  | some m => [m]
  | none => rising (openTo old cs g) ++ [0]
theorem mayC_held {old : Round} {cs : Holds} {g : List Nat} {m : Nat} (h1 : m ∈ heldToIt cs g) (h2 : ∀ y ∈ heldToIt cs g, m ≤ y) : mayC old cs g = [m] := by
  unfold mayC
  rw [rising_head h1 h2]
theorem mayC_none {old : Round} {cs : Holds} {g : List Nat} (h : heldToIt cs g = []) : mayC old cs g = rising (openTo old cs g) ++ [0] := by
  unfold mayC
  rw [h]; rfl
theorem mayC_eq {k : Nat} {old : Round} (ho : RoundOk k old) {hk hs : Holds} (hm : ∀ x, x ∈ hk ↔ x ∈ hs) {gs : List (List Nat)} {g : List Nat} (hg : g ∈ gs) (hgn : g.Nodup) : mayC old (counting old gs hk) g = (mayHave old hs gs g).map enc := by
  have e1 : rising (heldToIt (counting old gs hk) g) = rising ((hs.filter fun h => g.contains h.2 && old.any fun o => o.num == h.1).map fun h => h.1) := by
    refine rising_ext fun x => ?_
    unfold heldToIt counting
    rw [List.filter_filter]
    constructor
    · intro z
      obtain ⟨h, hh, rfl⟩ := List.mem_map.mp z
      obtain ⟨h1, h2⟩ := List.mem_filter.mp hh
      rw [Bool.and_eq_true, Bool.and_eq_true] at h2
      exact List.mem_map.mpr ⟨h, List.mem_filter.mpr ⟨(hm h).mp h1, by rw [Bool.and_eq_true]; exact ⟨h2.1, h2.2.1⟩⟩, rfl⟩
    · intro z
      obtain ⟨h, hh, rfl⟩ := List.mem_map.mp z
      obtain ⟨h1, h2⟩ := List.mem_filter.mp hh
      rw [Bool.and_eq_true] at h2
      refine List.mem_map.mpr ⟨h, List.mem_filter.mpr ⟨(hm h).mpr h1, ?_⟩, rfl⟩
      rw [Bool.and_eq_true, Bool.and_eq_true]
      exact ⟨h2.1, h2.2, List.any_eq_true.mpr ⟨g, hg, h2.1⟩⟩
  unfold mayC mayHave heldIn
  rw [e1]
  cases (rising ((hs.filter fun h => g.contains h.2 && old.any fun o => o.num == h.1).map fun h => h.1)).head? with
  | some m => rfl
  | none =>
    show rising (openTo old (counting old gs hk) g) ++ [0] = ((rising ((old.filter fun (o : Group) => decide (0 < common o.recs g) && !isHeld hs gs o.num).map fun (o : Group) => o.num)).map some ++ [none]).map enc
    rw [List.map_append, List.map_map]
    have e2 : (enc ∘ some : Nat → Nat) = id := rfl
    rw [e2, List.map_id]
    refine congrArg (· ++ [0]) (rising_ext fun x => ?_)
    have key : ∀ o ∈ old, ((counting old gs hk).any fun h => h.1 == o.num) = isHeld hs gs o.num := by
      intro o ho'
      rw [Bool.eq_iff_iff]
      unfold counting isHeld
      rw [List.any_eq_true, List.any_eq_true]
      constructor
      · rintro ⟨h, h1, h2⟩
        obtain ⟨h3, h4⟩ := List.mem_filter.mp h1
        rw [Bool.and_eq_true] at h4
        exact ⟨h, (hm h).mp h3, by rw [Bool.and_eq_true]; exact ⟨h2, h4.2⟩⟩
      · rintro ⟨h, h1, h2⟩
        rw [Bool.and_eq_true] at h2
        refine ⟨h, List.mem_filter.mpr ⟨(hm h).mpr h1, ?_⟩, h2.1⟩
        rw [Bool.and_eq_true]
        refine ⟨List.any_eq_true.mpr ⟨o, ho', ?_⟩, h2.2⟩
        have := eq_of_beq h2.1
        rw [this]; exact beq_self_eq_true _
    have hc : ∀ o ∈ old, common g o.recs = common o.recs g := fun o hm' => common_comm hgn (ho.2.2.nodup _ (List.mem_map.mpr ⟨o, hm', rfl⟩))
    unfold openTo shares
    constructor
    · intro z
      obtain ⟨h1, h2⟩ := List.mem_filter.mp z
      obtain ⟨o, h3, rfl⟩ := List.mem_map.mp h1
      obtain ⟨h4, h5⟩ := List.mem_filter.mp h3
      refine List.mem_map.mpr ⟨o, List.mem_filter.mpr ⟨h4, ?_⟩, rfl⟩
      rw [key o h4] at h2
      rw [hc o h4] at h5
      rw [Bool.and_eq_true]; exact ⟨h5, h2⟩
    · intro z
      obtain ⟨o, h3, rfl⟩ := List.mem_map.mp z
      obtain ⟨h4, h5⟩ := List.mem_filter.mp h3
      rw [Bool.and_eq_true] at h5
      refine List.mem_filter.mpr ⟨List.mem_map.mpr ⟨o, List.mem_filter.mpr ⟨h4, ?_⟩, rfl⟩, ?_⟩
      · rw [hc o h4]; exact h5.1
      · rw [key o h4]; exact h5.2
/-! ### hold, let -/
def putH (hk : Holds) (n x : Nat) : Holds := if (hk.any fun h => h.1 == n) = true then hk.map (fun h => if h.1 = n then (h.1, x) else h) else hk ++ [(n, x)]
theorem no_filter {hk : Holds} {n : Nat} (h : n ∉ hk.map (·.1)) : hk.filter (fun h => h.1 != n) = hk := List.filter_eq_self.mpr fun a ha => by
  rw [bne_iff_ne]
  exact fun z => h (List.mem_map.mpr ⟨a, ha, z⟩)
theorem any_keys {hk : Holds} {n : Nat} : (hk.any fun h => h.1 == n) = true ↔ n ∈ hk.map (·.1) := by
  rw [List.any_eq_true, List.mem_map]
  constructor
  · rintro ⟨a, h1, h2⟩; exact ⟨a, h1, eq_of_beq h2⟩
  · rintro ⟨a, h1, h2⟩; exact ⟨a, h1, by rw [h2]; exact beq_self_eq_true n⟩
theorem map_perm {n x : Nat} : ∀ {hk : Holds}, (hk.map (·.1)).Nodup → n ∈ hk.map (·.1) → (hk.map fun h => if h.1 = n then (h.1, x) else h).Perm (hk.filter (fun h => h.1 != n) ++ [(n, x)])
  | [], _, h => by simp at h
  | a :: hk, hn, h => by
    rw [List.map_cons] at hn h
    obtain ⟨h1, h2⟩ := List.nodup_cons.mp hn
    by_cases c : a.1 = n
    · have hno : n ∉ hk.map (·.1) := by rw [← c]; exact h1
      have e1 : (hk.map fun h => if h.1 = n then (h.1, x) else h) = hk := by
        refine (List.map_congr_left fun b hb => ?_).trans (List.map_id hk)
        exact if_neg fun z => hno (List.mem_map.mpr ⟨b, hb, z⟩)
      rw [List.map_cons, if_pos c, e1, List.filter_cons_of_neg (by simp [c]), no_filter hno, c]
      exact (List.perm_append_comm (l₁ := [(n, x)]) (l₂ := hk))
    · have h3 : n ∈ hk.map (·.1) := by
        rcases List.mem_cons.mp h with z | z
        · exact absurd z.symm c
        · exact z
      rw [List.map_cons, if_neg c, List.filter_cons_of_pos (by simpa using c), List.cons_append]
      exact (map_perm h2 h3).cons a
theorem putH_perm {hk hs : Holds} (hp : hk.Perm hs) (hn : (hk.map (·.1)).Nodup) (n x : Nat) : (putH hk n x).Perm (hs.filter (fun h => h.1 != n) ++ [(n, x)]) := by
  have h1 : (putH hk n x).Perm (hk.filter (fun h => h.1 != n) ++ [(n, x)]) := by
    unfold putH
    by_cases c : (hk.any fun h => h.1 == n) = true
    · rw [if_pos c]; exact map_perm hn (any_keys.mp c)
    · rw [if_neg c, no_filter fun z => c (any_keys.mpr z)]
  exact h1.trans ((hp.filter _).append_right _)
theorem heldTo_perm {hk hs : Holds} (hp : hk.Perm hs) (hn : (hs.map (·.1)).Nodup) (n : Nat) : heldTo hk n = heldTo hs n := by
  have hn' : (hk.map (·.1)).Nodup := (hp.map _).nodup_iff.mpr hn
  have key : ∀ r, heldTo hk n = some r ↔ heldTo hs n = some r := fun r => by rw [heldTo_some hn', heldTo_some hn, hp.mem_iff]
  cases e : heldTo hs n with
  | some r => exact (key r).mpr e
  | none =>
    cases e2 : heldTo hk n with
    | none => rfl
    | some r => have := (key r).mp e2; rw [e] at this; cases this
theorem any_perm {hk hs : Holds} (hp : hk.Perm hs) (n : Nat) : (hk.any fun h => h.1 == n) = hs.any fun h => h.1 == n := by
  rw [Bool.eq_iff_iff, any_keys, any_keys]
  exact (hp.map _).mem_iff
theorem filter_len {hs : Holds} {n : Nat} : (hs.map (·.1)).Nodup → n ∈ hs.map (·.1) → (hs.filter fun h => h.1 != n).length = hs.length - 1 := by
  intro hn h
  have h1 := (map_perm (x := 0) hn h).length_eq
  rw [List.length_map, List.length_append, List.length_singleton] at h1
  omega
theorem Ok.holds_len {s : St} (h : Ok s) : s.holds.length < s.next := by
  have := len_within (s.holds.map (·.1)) ((List.range s.next).drop 1) h.holds.1 fun x hx => by
    obtain ⟨a, ha, rfl⟩ := List.mem_map.mp hx
    have := (h.holds.2 a ha).1
    rw [List.mem_iff_getElem]
    refine ⟨a.1 - 1, ?_, ?_⟩
    · rw [List.length_drop, List.length_range]; omega
    · rw [List.getElem_drop, List.getElem_range]; omega
  rw [List.length_map, List.length_drop, List.length_range] at this
  have := h.pos
  omega
theorem Ok.few {s : St} (h : Ok s) : s.next ≤ 181 := by
  have h1 := h.fewn
  have h2 := h.many
  omega
/-! ### what was: rounds, what each ended and began -/
def rdAt (s : St) (m : Nat) : Round := if m = 0 then [] else s.rounds.reverse.getD (m - 1) []
def goneL (a b : Round) : List Nat := (a.filter fun o => !b.any fun g => g.num == o.num).map (·.num)
theorem rdAt_now (s : St) : rdAt s s.rounds.length = Rl07.now s := by
  unfold rdAt Rl07.now
  cases e : s.rounds with
  | nil => rfl
  | cons r rs => simp
theorem rdAt_roundAt {s : St} {m : Nat} (h1 : 1 ≤ m) (h2 : m ≤ s.rounds.length) : roundAt s m = some (rdAt s m) := by
  unfold roundAt rdAt
  rw [if_neg (by omega), if_neg (by omega)]
  have hlt : m - 1 < s.rounds.reverse.length := by rw [List.length_reverse]; omega
  rw [List.getD_eq_getElem?_getD, List.getElem?_eq_getElem hlt]; rfl
theorem rdAt_old {s : St} {r : Round} {n : Nat} {es : List (Nat × (Nat × Nat))} {hs : Holds} {m : Nat} (hm : m ≤ s.rounds.length) : rdAt ⟨r :: s.rounds, n, es, hs⟩ m = rdAt s m := by
  unfold rdAt
  by_cases c : m = 0
  · rw [if_pos c, if_pos c]
  · rw [if_neg c, if_neg c, List.getD_eq_getElem?_getD, List.getD_eq_getElem?_getD, List.reverse_cons, List.getElem?_append_left (by rw [List.length_reverse]; omega)]
theorem rdAt_new {s : St} {r : Round} {n : Nat} {es : List (Nat × (Nat × Nat))} {hs : Holds} : rdAt ⟨r :: s.rounds, n, es, hs⟩ (s.rounds.length + 1) = r := by
  unfold rdAt
  rw [if_neg (by omega), List.getD_eq_getElem?_getD, List.reverse_cons, List.getElem?_append_right (by rw [List.length_reverse]; omega), List.length_reverse]
  simp
theorem Ok.rdAt {s : St} (h : Ok s) (m : Nat) : RoundOk s.next (rdAt s m) := by
  have h0 : RoundOk s.next [] := ⟨by simp, by simp, ⟨by simp, by simp, by simp, by simp, by simp, by simp⟩⟩
  unfold NK.rdAt
  by_cases c : m = 0
  · rw [if_pos c]; exact h0
  · rw [if_neg c, List.getD_eq_getElem?_getD]
    cases e : s.rounds.reverse[m - 1]? with
    | none => exact h0
    | some r => exact h.rounds r (List.mem_reverse.mp (List.mem_of_getElem? e))
/-- new numbers rise -/
theorem number_rise : ∀ (l : List (List Nat × Option Nat)) (n k : Nat), k ≤ n → (∀ m ∈ (l.map (·.2)).filterMap id, m < k) → (((number l n).1.filter fun g => decide (k ≤ g.num)).map (·.num)).Pairwise (· < ·) ∧ ∀ m ∈ ((number l n).1.filter fun g => decide (k ≤ g.num)).map (·.num), n ≤ m
  | [], _, _, _, _ => by simp [number]
  | (g, some j) :: l, n, k, hk, h => by
    have hj : j < k := h j (by simp)
    have ih := number_rise l n k hk fun m hm => h m (by
      rw [List.map_cons, List.filterMap_cons]
      exact List.mem_cons_of_mem _ hm)
    rw [show ((number ((g, some j) :: l) n).1) = (⟨j, g⟩ : Group) :: (number l n).1 from rfl, List.filter_cons_of_neg (by show ¬ decide (k ≤ j) = true; rw [decide_eq_true_eq]; omega)]
    exact ih
  | (g, none) :: l, n, k, hk, h => by
    have ih := number_rise l (n + 1) k (by omega) fun m hm => h m (by
      rw [List.map_cons, List.filterMap_cons]
      exact hm)
    rw [show ((number ((g, none) :: l) n).1) = (⟨n, g⟩ : Group) :: (number l (n + 1)).1 from rfl, List.filter_cons_of_pos (by show decide (k ≤ n) = true; rw [decide_eq_true_eq]; exact hk), List.map_cons]
    refine ⟨List.pairwise_cons.mpr ⟨fun m hm => ?_, ih.1⟩, fun m hm => ?_⟩
    · have := ih.2 m hm; exact this
    · rcases List.mem_cons.mp hm with z | z
      · rw [z]; exact Nat.le_refl _
      · have := ih.2 m z; omega
def Hist (s : St) : Prop := ∀ m, 1 ≤ m → m ≤ s.rounds.length → (s.ended.filter fun e => e.2.1 == m).map (·.1) = goneL (rdAt s (m - 1)) (rdAt s m) ∧ begunAt s m = goneL (rdAt s m) (rdAt s (m - 1)) ∧ (begunAt s m).Pairwise (· < ·)
theorem Hist.init : Hist init := fun m h1 h2 => by
  have : m ≤ 0 := h2
  omega
theorem Hist.round {s : St} (ok : Ok s) (h : Hist s) {l : List Nat} (t : Told l) : Hist (Rl07.round s (prs l)) := by
  obtain ⟨r, n, e1, e2⟩ := round_parts s (prs l)
  rw [e1]
  intro m h1 h2
  have h2 : m ≤ s.rounds.length + 1 := h2
  by_cases c : m ≤ s.rounds.length
  · obtain ⟨i1, i2, i3⟩ := h m h1 c
    rw [rdAt_old c, rdAt_old (by omega : m - 1 ≤ s.rounds.length), begun_old c]
    refine ⟨?_, i2, i3⟩
    show ((s.ended ++ endings s r).filter fun e => e.2.1 == m).map (·.1) = _
    rw [ended_old ok r c]; exact i1
  · have em : m = s.rounds.length + 1 := by omega
    subst em
    have hbn := begun_new ok t (es := s.ended ++ endings s r) e2
    rw [rdAt_new, Nat.add_sub_cancel, rdAt_old (Nat.le_refl _), rdAt_now, hbn]
    refine ⟨?_, ?_, ?_⟩
    · show ((s.ended ++ endings s r).filter fun e => e.2.1 == s.rounds.length + 1).map (·.1) = _
      rw [ended_new ok r]
      unfold endings goneL
      rw [List.map_map]; rfl
    · unfold goneL
      refine congrArg (List.map _) (List.filter_congr fun g hg => ?_)
      have hn := round_new ok t e2 g hg
      rw [Bool.eq_iff_iff, decide_eq_true_eq, Bool.not_eq_true', ← Bool.not_eq_true, List.any_eq_true]
      constructor
      · rintro z ⟨o, ho, eo⟩
        have := hn.mpr (List.mem_map.mpr ⟨o, ho, eq_of_beq eo⟩)
        omega
      · intro z
        refine Classical.byContradiction fun y => z ?_
        obtain ⟨o, ho, eo⟩ := List.mem_map.mp (hn.mp (by omega))
        exact ⟨o, ho, by rw [show o.num = g.num from eo]; exact beq_self_eq_true _⟩
    · have hb := best_ok (old := Rl07.now s) ok.holds.1 (groups_told t).apart
      have := (number_rise ((groupsOf (prs l)).zip (best (Rl07.now s) s.holds (groupsOf (prs l)))) s.next s.next (Nat.le_refl _) fun k hk => ?_).1
      · rw [← e2] at this; exact this
      · have e3 : ((groupsOf (prs l)).zip (best (Rl07.now s) s.holds (groupsOf (prs l)))).map (·.2) = best (Rl07.now s) s.holds (groupsOf (prs l)) := List.map_snd_zip (by rw [hb.len]; exact Nat.le_refl _)
        rw [e3] at hk
        obtain ⟨o, ho, eo⟩ := List.mem_map.mp (hb.old k hk)
        have := (ok.now.2.1 o ho).2
        rw [show o.num = k from eo] at this
        exact this
theorem Hist.same {s t : St} (h : Hist s) (e1 : t.rounds = s.rounds) (e2 : t.ended = s.ended) : Hist t := fun m h1 h2 => by
  have := h m h1 (by rw [← e1]; exact h2)
  have er : ∀ k, rdAt t k = rdAt s k := fun k => by unfold rdAt; rw [e1]
  have eb : begunAt t m = begunAt s m := by unfold begunAt roundAt; rw [e1]
  rw [er, er, eb, e2]
  exact this
theorem Hist.step {s : St} (ok : Ok s) (h : Hist s) : ∀ c : Rl07.Call, Hist (Rl07.step s c).1
  | .begin_ => Hist.init
  | .round l => by
    show Hist (match told? l with
    | none => (s, [-1])
    | some p => if 30 ≤ s.rounds.length then (s, [-6]) else
      let t := Rl07.round s p
      (t, (t.rounds.length : Int) :: roundTold (Rl07.now t)) : St × List Int).1
    by_cases t : Told l
    · rw [told_some t]
      show Hist (if 30 ≤ s.rounds.length then (s, [-6]) else _ : St × List Int).1
      by_cases c : 30 ≤ s.rounds.length
      · rw [if_pos c]; exact h
      · rw [if_neg c]; exact Hist.round ok h t
    · rw [told_none t]; exact h
  | .show_ => h
  | .of_ _ => h
  | .leads _ => h
  | .was _ _ => h
  | .ended _ => h
  | .begun _ => h
  | .hold n x => by
    show Hist (if n = 0 ∨ s.next ≤ n then (s, [-3]) else if x = 0 ∨ 30 < x then (s, [-1]) else _ : St × List Int).1
    by_cases c : n = 0 ∨ s.next ≤ n
    · rw [if_pos c]; exact h
    · rw [if_neg c]
      by_cases d : x = 0 ∨ 30 < x
      · rw [if_pos d]; exact h
      · rw [if_neg d]; exact h.same rfl rfl
  | .let_ n => by
    show Hist (if s.holds.any (fun h => h.1 == n) = false then (s, [-3]) else _ : St × List Int).1
    by_cases c : s.holds.any (fun h => h.1 == n) = false
    · rw [if_pos c]; exact h
    · rw [if_neg c]; exact h.same rfl rfl
  | .would _ => h
  | .counts => h
theorem after_hist (cs : List Rl07.Call) : Hist (after Rl07.init cs) := by
  have key : ∀ (cs : List Rl07.Call) (s : St), Ok s → Hist s → Hist (after s cs) := by
    intro cs
    induction cs with
    | nil => intro s _ h; exact h
    | cons c cs ih => intro s ok h; exact ih _ (ok.step_ok c) (h.step ok c)
  exact key cs Rl07.init Ok.init Hist.init
end NK
/-! Rules that the layer lacks: xs[a::2], len(set(xs)) of any ints, list(d.values()). -/
namespace NK
open PySem PySem.Spec PyProof.Rows L2
/-! ### every other item -/
theorem evens_pick {α : Type} : ∀ (k : Nat) (l : List α), l.length ≤ 2 * k → (List.range k).filterMap (fun j => l[2 * j]?) = evens l
  | 0, l, h => by
    have e : l = [] := List.length_eq_zero_iff.mp (by omega)
    subst e
    rfl
  | k + 1, l, h => by
    rw [List.range_succ_eq_map, List.filterMap_cons, List.filterMap_map]
    match l, h with
    | [], _ =>
      show (List.range k).filterMap _ = []
      exact List.filterMap_eq_nil_iff.mpr fun j _ => by simp
    | [x], _ =>
      show x :: (List.range k).filterMap _ = [x]
      rw [List.filterMap_eq_nil_iff.mpr fun j _ => by simp]
    | x :: y :: r, h =>
      show x :: (List.range k).filterMap _ = x :: evens r
      rw [← evens_pick k r (by simp at h; omega)]
      rfl
theorem evens_vals : ∀ {xs : List V} {us : List Value}, Vals xs us → Vals (evens xs) (evens us)
  | _, _, .nil => .nil
  | _, _, .cons r .nil => .cons r .nil
  | _, _, .cons r (.cons _ t) => .cons r (evens_vals t)
theorem evens_le {α : Type} : ∀ l : List α, (evens l).length ≤ l.length
  | [] => Nat.le_refl _
  | [_] => Nat.le_refl _
  | _ :: _ :: r => by
    have ih := evens_le r
    show (evens r).length + 1 ≤ r.length + 1 + 1
    omega
theorem evens_slice (items : Array Value) (a : Nat) : slicePick items (some (a : Int)) none (some 2) = (evens (items.toList.drop a)).toArray := by
  unfold slicePick
  have hb : sliceBounds (some (a : Int)) none (some 2) items.size = (((min a items.size : Nat) : Int), (items.size : Int), (2 : Int)) := by
    unfold sliceBounds
    have h1 : ¬ ((a : Int) < 0) := by omega
    have h2 : ((2 : Int) > 0) := by decide
    simp only [Option.getD_some, h1, h2, if_false, if_true]
    refine Prod.ext ?_ rfl
    show max 0 (min (a : Int) (items.size : Int)) = ((min a items.size : Nat) : Int)
    omega
  rw [hb]
  show ((sliceRange ((min a items.size : Nat) : Int) (items.size : Int) 2).filterMap (items[·]?)).toArray = _
  refine congrArg List.toArray ?_
  unfold sliceRange
  have h2 : ((2 : Int) > 0) := by decide
  simp only [h2, if_true]
  rw [List.filterMap_map]
  by_cases ha : a < items.size
  · have hm : min a items.size = a := by omega
    have hlt : ((min a items.size : Nat) : Int) < (items.size : Int) := by omega
    rw [if_pos hlt, hm]
    have hc : (items.toList.drop a).length ≤ 2 * (((items.size : Int) - (a : Int) + 2 - 1) / 2).toNat := by
      rw [List.length_drop, Array.length_toList]
      omega
    rw [← evens_pick _ _ hc]
    refine congrArg (fun f => List.filterMap f (List.range _)) (funext fun j => ?_)
    show items[((a : Int) + 2 * (j : Int)).toNat]? = (items.toList.drop a)[2 * j]?
    rw [List.getElem?_drop, Array.getElem?_toList, show ((a : Int) + 2 * (j : Int)).toNat = a + 2 * j by omega]
  · have hm : min a items.size = items.size := by omega
    have hlt : ¬ (((min a items.size : Nat) : Int) < (items.size : Int)) := by omega
    rw [if_neg hlt, List.drop_of_length_le (by rw [Array.length_toList]; omega)]
    rfl
def tEv (K : PySem.W.Frag) (a : Nat) (te : TE) : TE := fun σ H Q => te σ H fun x H1 => ∃ q xs, x = .ref q ∧ SqL K H1 q xs ∧ ∀ p, H1 p = none → Q (.ref p) (upd H1 p (.lst (evens (xs.drop a))))
section
variable {X : Cx}
theorem pe_ev {e : Expr} {te : TE} {z : Int} (a : Nat) {k1 k2 : Nat} {p1 p2 p3 pos : Pos} (he : PE X e te) (hz : z = (a : Int) := by rfl) : PE X (.Subscript e (.Slice (some (.Constant (.int z) k1 p1)) none (some (.Constant (.int 2) k2 p2)) p3) pos) (tEv X.K a te) := by
  subst hz
  refine ⟨fun pins s σ H Q I h => ?_⟩
  refine Subscript_ (thn (he.run pins s σ H _ I h) fun v s1 ⟨x, H1, I1, r1, q1⟩ => ?_)
  obtain ⟨q, xs, ex, hx, q⟩ := q1
  subst ex
  cases r1
  have hlo : PO X (some (.Constant (.int (a : Int)) k1 p1)) (tPart (tC (.int (a : Int)))) := po_some pe_int
  have hst : PO X (some (.Constant (.int 2) k2 p2)) (tPart (tC (.int 2))) := po_some pe_int
  refine wpAny_Slice (thn (hlo.run pins s1 σ H1 (fun o H2 => o = some (a : Int) ∧ H2 = H1) I1 ⟨_, rfl, rfl, rfl⟩) fun vl s2 ⟨l, H2, I2, pl, el, e2⟩ => ?_)
  subst el e2
  refine thn (po_none.run pins s2 σ H2 (fun o H3 => o = none ∧ H3 = H2) I2 ⟨rfl, rfl⟩) fun vu s3 ⟨u, H3, I3, pu, eu, e3⟩ => ?_
  subst eu e3
  refine thn (hst.run pins s3 σ H3 (fun o H4 => o = some 2 ∧ H4 = H3) I3 ⟨2, rfl, rfl, rfl⟩) fun vs s4 ⟨o, H4, I4, ps, eo, e4⟩ => ?_
  subst eo e4
  have I5 : Inv X pins σ H4 { s4 with heap := s4.heap.push { cls := .type "slice", data := .fields #[vl, vu, vs] } } := I4.kept (t' := s4.toks) fun b ob q => Heap.get?_push_of_some _ q
  obtain ⟨its, r, ht, hz⟩ := I5.list hx
  have hlen := r.length
  refine tail_any (ops := [.ref _, .ref s4.heap.objs.size]) ht.isList.typeIs (PySem.slot_list_getitem.lookup) ?_ (by with_unfolding_all rfl)
  refine wpAny_getItem_list_slice ht.isList (Heap.IsSliceOf.new _ vl vu vs) pl pu ps (by decide) ?_ (by rw [List.size_toArray]; omega)
  rw [evens_slice]
  have hle : (evens (xs.drop a)).length ≤ sizeLine := by
    have h1 := evens_le (xs.drop a)
    rw [List.length_drop] at h1
    omega
  refine ⟨.ref _, _, I5.laid (t' := s4.toks) (o := .lst (evens (xs.drop a))) (fun b ob q => Heap.get?_push_of_some _ q) (Nat.le_refl _) ?_, rfl, q _ (I5.hok.fresh (Nat.le_refl _))⟩
  exact ⟨hle, _, 0, evens_vals (r.drop a), Heap.get?_push_size _ rfl⟩
end
/-! ### len(set(xs)) -/
theorem firstMet_once (ns : List Int) : ∀ i, i ≤ ns.length → PyProof.Rows.firstMet (fun i => ns.getD i 0) i = once (ns.take i)
  | 0, _ => rfl
  | i + 1, hi => by
    have hlt : i < ns.length := hi
    have e1 : ns.getD i 0 = ns[i] := by
      rw [List.getD_eq_getElem?_getD, List.getElem?_eq_getElem hlt] <;> rfl
    have e2 : ns.take (i + 1) = ns.take i ++ [ns[i]] := by
      rw [List.take_add_one, List.getElem?_eq_getElem hlt] <;> rfl
    rw [PyProof.Rows.firstMet_succ, firstMet_once ns i (Nat.le_of_lt hlt), e2, once_snoc]
    show (if (once (ns.take i)).any (· == ns.getD i 0) then once (ns.take i) else once (ns.take i) ++ [ns.getD i 0]) = _
    rw [e1]
def tLenSet (K : PySem.W.Frag) (ta : TE) : TE := fun σ H Q => ta σ H fun x H1 => ∃ (l : Addr) (ns : List Int), x = .ref l ∧ SqL K H1 l (ns.map V.int) ∧ ns.length ≤ 4000 ∧ Q (.int ((once ns).length : Nat)) H1
theorem pe_lenSet {X : Cx} {a : Expr} {ta : TE} {p p2 q pos : Pos} (hg : Gl X "len") (hm : X.mg "len" = none) (hg2 : Gl X "set") (hm2 : X.mg "set" = none) (ha : PE X a ta) (hc : X.calm = true := by rfl)
    (na : starEach [a] X.env = (false, eval a X.env) :: starEach [] X.env := by rfl) : PE X (.Call (.Name "len" p) [.Call (.Name "set" p2) [a] [] q] [] pos) (tLenSet X.K ta) := by
  refine ⟨fun pins s σ H Q I h => ?_⟩
  refine Call_ (ld_blt I hg hm boot_len ?_)
  refine PyProof.Rows.callWith_builtin1 (PyProof.Rows.args_cons ?_ rfl) rfl rfl
  refine Call_ (ld_blt I hg2 hm2 boot_set ?_)
  refine PyProof.Rows.callWith_type1 (PyProof.Rows.args_cons (thn (ha.run pins s σ H _ I h) fun v s1 ⟨x, H1, I1, r1, q1⟩ => PyProof.Rows.args_nil ?_) na) na rfl
  obtain ⟨l, ns, rfl, hq, hl, q1⟩ := q1
  cases r1
  obtain ⟨its, r, pl, hz⟩ := I1.list hq
  have hlen : its.toArray.size = ns.length := by rw [List.size_toArray, ← r.length, List.length_map]
  refine call_set_list (I1.ok.hd hc) pl.isList (by simpa using RZ.intsAre_vals r) (by rw [hlen]; unfold scanBound; omega) fun h' tk hS hk => ?_
  refine PyProof.Rows.args_nil ?_
  rw [hlen, firstMet_once ns ns.length (Nat.le_refl _), List.take_length] at hS
  obtain ⟨o, es, ep, t, ho, hex, hd, _, _, _, hf, hn⟩ := hS
  have I2 : Inv X pins σ H1 { s1 with heap := h', toks := tk } := I1.kept fun b o e => hk b o (Heap.lt_size e) e
  have hle := once_le ns
  exact call_len_set ho hex hd hf (by rw [hn] <;> omega) ⟨.int (once ns).length, H1, I2.tok _, ⟨_, by rw [hn]⟩, q1⟩
/-! ### list(d.values()) -/
theorem kv_vals {κ : Type} {kvs : List (κ × V)} {vs : List (κ × Value)} (r : KV kvs vs) : Vals (kvs.map (·.2)) (vs.map (·.2)) := by
  unfold KV at r
  induction r with
  | nil => exact .nil
  | cons r t ih => exact .cons r.2 ih
def tListVals (td : TE) : TE := fun σ H Q => td σ H fun x H1 => ∃ a kvs, x = V.ref a ∧ H1 a = some (.dK kvs) ∧ ∀ p, H1 p = none → Q (.ref p) (upd H1 p (.lst (kvs.map (·.2))))
theorem pe_listVals {X : Cx} {o : Expr} {p pos apos mpos : Pos} {td : TE} (hc : X.calm = true) (hg : Gl X "list") (hm : X.mg "list" = none) (hd : PE X o td) (hbase : attributeBase o "values" X.env (eval o X.env) = eval o X.env := by rfl) (hline : (apos.endLine == mpos.line) = true := by rfl)
    (hse : starEach [Expr.Call (.Attribute o "values" apos) [] [] mpos] X.env = [(false, eval (Expr.Call (.Attribute o "values" apos) [] [] mpos) X.env)] := by rfl) :
    PE X (.Call (.Name "list" p) [.Call (.Attribute o "values" apos) [] [] mpos] [] pos) (tListVals td) := by
  refine ⟨fun pins s σ H Q I h => ?_⟩
  refine wpAny_Call_Name_kw (ld_blt I hg hm (u := .type "list") (by first | rfl | decide +kernel) ?_ (by first | decide +kernel | decide) (by first | decide +kernel | decide))
  rw [hse]
  refine PySem.callWith_type1 (wpAny_Call_method0_late hbase hline (thn (hd.run pins s σ H _ I h) fun v s1 ⟨x, H1, I1, r1, a, kvs, ex, ha, q⟩ => ?_))
  subst ex
  obtain rfl : v = Value.ref a := r1
  obtain ⟨hz, hsys, vs, rel, dof⟩ := dk_of I1.hok ha
  obtain ⟨ep, dat⟩ := dof.dictAt
  have dat' := dat
  obtain ⟨ob, es, ho, ex, hdat, hko, hpr, hnd⟩ := dat'
  refine ⟨"dict", "dict.values", F.plainAttrs_dict, F.slot_dict_values, F.type_dict_values, ⟨ob, ho, ex.1⟩, fun b e => ?_, Calls.callWith_builtin rfl (PySem.evalArgs_none ?_)⟩
  · cases e
    exact ⟨ob, ho, ex.2.1⟩
  refine call_meetsIn F.slot_dict_values ⟨ob, ho, ex.1⟩ F.entry_dict_values (F.args_dict_values_1 _) (meets_dict_values (mixKind X.prog X.w) a hsys) ⟨⟨vs, dof⟩, ?_⟩
  have k1 : ∀ b u, s1.heap.get? b = some u → (s1.heap.push { cls := .type "dict_values", data := .fields #[.ref a] }).get? b = some u := fun b u e => Heap.get?_push_of_some _ e
  have dat1 : (s1.heap.push { cls := .type "dict_values", data := .fields #[.ref a] }).DictAt (mixKind X.prog X.w) a vs ep := dat.keep k1
  refine PySem.W.kdl_call (PySem.W.kdl_values (knd := mixKind X.prog X.w) (r := s1.heap.objs.size) (d := a) (kvs := vs) (ep := ep)) (I1.ok.hd hc) ⟨⟨_, Heap.get?_push_size _ rfl, rfl, rfl⟩, dat1⟩ (by rw [← rel.length]; exact hz) fun h' tk acc c' hk hD hacc => ?_
  have I2 : Inv X pins σ H1 { s1 with heap := s1.heap.push { cls := .type "dict_values", data := .fields #[.ref a] } } := I1.kept (t' := s1.toks) k1
  have ev : acc.toList = vs.map (·.2) := PySem.W.kdl_vals_eq acc.toList (by rw [Array.length_toList]; exact hacc.1) fun j v e => hacc.2 j v (by rw [← Array.getElem?_toList]; exact e)
  refine ⟨.ref _, _, I2.laid (t' := tk) (o := .lst (kvs.map (·.2))) hk (Nat.le_refl _) ?_, rfl, q _ (I2.hok.fresh (Nat.le_refl _))⟩
  exact ⟨by rw [List.length_map]; exact hz, acc.toList, c', by rw [ev]; exact kv_vals rel, by rw [Array.toArray_toList]; exact hD⟩
end NK
/-! A table of the module, numbers to numbers: NAME[e]. -/
namespace NK
open PySem PySem.Spec PyProof.Rows L2
def tabOk (es : Array DictEntry) : Bool := es.toList.all fun e => match e.key with
  | .int k _ => e.hash == hashInt k
  | _ => false
def tabAt (es : Array DictEntry) (k : Int) : Option Int := match findBy Value.isInt es k with
  | some (.int v _) => some v
  | _ => none
def tTab (d : Addr) (es : Array DictEntry) (ta ti : TE) : TE := fun σ H Q => ta σ H fun x H1 => ti σ H1 fun y H2 => x = .ref d ∧ ∃ k v, y = .int k ∧ tabAt es k = some v ∧ Q (.int v) H2
theorem pe_tab {X : Cx} {d : Addr} {es : Array DictEntry} {n : Nat} {o i : Expr} {pos : Pos} {ta ti : TE} (hl : X.K.lookup d = some ⟨.type "dict", none, .dict es n, #[]⟩) (hk : tabOk es = true) (ho : PE X o ta) (hi : PE X i ti) (hs : NoSl i) :
    PE X (.Subscript o i pos) (tTab d es ta ti) := by
  refine ⟨fun pins s σ H Q I h => ?_⟩
  refine subD_of PySem.F.slot_dict_getitem.lookup hs (thn (ho.run pins s σ H _ I h) fun u s1 ⟨x, H1, I1, rx, q1⟩ => thn (hi.run pins s1 σ H1 _ I1 q1) fun iv s2 ⟨y, H2, I2, ry, ex, k, v, ey, ev, q2⟩ => ?_)
  subst ex ey
  obtain rfl : u = Value.ref d := rx
  obtain ⟨t, rfl⟩ := ry
  have hm : s2.heap.MapOf (PySem.intKind X.prog X.w) d (fun k => findBy Value.isInt es k) := by
    refine ⟨_, es, n, I2.kIn _ _ hl, ⟨rfl, rfl, rfl⟩, rfl, fun e he => ?_, fun _ => rfl⟩
    have := List.all_eq_true.mp hk e (Array.mem_toList_iff.mpr he)
    cases ek : e.key with
    | int z t =>
      rw [ek] at this
      exact ⟨z, beq_self_eq_true z, eq_of_beq this⟩
    | _ => rw [ek] at this; cases this
  unfold tabAt at ev
  cases ef : findBy Value.isInt es k with
  | none => rw [ef] at ev; cases ev
  | some u =>
    rw [ef] at ev
    cases u with
    | int z t2 =>
      have ez : z = v := Option.some.inj ev
      subst ez
      refine ⟨hm.typeIs, wpAny_getItem_of (knd := PySem.intKind X.prog X.w) (k := k) (beq_self_eq_true k) hm ef ⟨.int z, H2, I2.tok _, ⟨t2, rfl⟩, q2⟩⟩
    | _ => cases ev
end NK
/-! A dict that an expression gives (it may be new) walked by its keys: locked behind the expression, opened behind the statement. -/
namespace NK
open PySem PySem.Spec PyProof.Rows L2
def iKeysL (td : TE) : TI := fun σ H R => td σ H fun x H1 => ∃ d kvs, x = .ref d ∧ H1 d = some (.dK kvs) ∧ ∀ o, R (Itk d o kvs) (upd H1 d (.frz o (.dK kvs)))
theorem pi_keysL {X : Cx} {tg e : Expr} {td : TE} (he : PE X e td) : PI X tg e (iKeysL td) := by
  refine ⟨fun pins s σ H R I h => ?_⟩
  refine thn (he.run pins s σ H _ I h) fun u s1 ⟨x, H1, I1, rx, d, kvs, ex, hd, q⟩ => ?_
  subst ex
  obtain rfl : u = Value.ref d := rx
  obtain ⟨od, I2⟩ := I1.lock hd trivial
  obtain ⟨hs, hgd, hx, es, ep, vs, hdt, hsz, kv, hm⟩ := I2.frzK upd_same
  refine iter_keys hs hgd hx hdt (pi_one (tk := s1.toks) I2 _ (turn_keys _ hdt) ⟨_, Heap.get?_push_size _ rfl, rfl, ?_⟩ (q od))
  rw [hsz] <;> rfl
def Opn (H H' : Hp) (P : Hp → Prop) : Prop := ∃ d od u, H' d = some (.frz od u) ∧ (∀ o' u', H d ≠ some (.frz o' u')) ∧ P (upd H' d u)
def tOpn (t : TS) : TS := fun D σ H => t ⟨fun σ' H' => Opn H H' (D.nx σ'), fun v H' => Opn H H' (D.rt v), fun σ' H' => Opn H H' (D.bk σ'), fun σ' H' => Opn H H' (D.ct σ')⟩ σ H
theorem ps_opn {X : Cx} {st : Stmt} {t : TS} (h : PS X st t) : PS X st (tOpn t) := by
  refine ⟨fun pins s σ H D I hw => ?_⟩
  have no : ∀ d, (∀ o' u', H d ≠ some (.frz o' u')) → ∀ o' u', X.H_0 d ≠ some (.frz o' u') := fun d hn o' u' e => hn o' u' (I.base.frzs d o' u' e)
  refine thn (h.run pins s σ _ _ I hw) fun f s1 q => ?_
  cases f with
  | next => obtain ⟨σ', H', I2, d, od, u, e, n, q⟩ := q; exact ⟨σ', _, I2.unlock e (no d n), q⟩
  | brk => obtain ⟨σ', H', I2, d, od, u, e, n, q⟩ := q; exact ⟨σ', _, I2.unlock e (no d n), q⟩
  | cont => obtain ⟨σ', H', I2, d, od, u, e, n, q⟩ := q; exact ⟨σ', _, I2.unlock e (no d n), q⟩
  | ret v => obtain ⟨x, σ', H', I2, r, d, od, u, e, n, q⟩ := q; exact ⟨x, σ', _, I2.unlock e (no d n), r, q⟩
end NK
namespace NK
open PySem PySem.Spec PyProof.Rows L2
def topS (i : Nat) : Stmt := PySem.Challenge.pw_numberskept_s01_answers.main.body.getD i (.Pass ⟨0, 0, 0, 0⟩)
/-! ### heaps -/
theorem same_upd {H : Hp} {p : Addr} {o : HO} (h : H p = none) : Same H (upd H p o) := fun b x e => by
  rw [upd_ne (ne_of_none e h)]
  exact e
theorem same_new {H H1 : Hp} {p : Addr} {o : HO} (s : Same H H1) (h : H p = none) : Same H (upd H1 p o) := fun b x e => by
  rw [upd_ne (ne_of_none e h)]
  exact s b x e
/-! ### lists of numbers -/
def nl (l : List Nat) : List V := l.map fun (n : Nat) => V.int (n : Int)
theorem nl_ints (l : List Nat) : nl l = (l.map fun (n : Nat) => (n : Int)).map V.int := by
  unfold nl
  rw [List.map_map]
  rfl
theorem nl_len (l : List Nat) : (nl l).length = l.length := List.length_map _
theorem nl_get {l : List Nat} {i : Nat} {x : V} (h : (nl l)[i]? = some x) : ∃ n, l[i]? = some n ∧ x = .int (n : Int) := by
  unfold nl at h
  rw [List.getElem?_map] at h
  cases e : l[i]? with
  | none => rw [e] at h; cases h
  | some n => rw [e] at h; exact ⟨n, rfl, (Option.some.inj h).symm⟩
theorem nl_at {l : List Nat} {i n : Nat} (h : l[i]? = some n) : (nl l)[i]? = some (.int (n : Int)) := by
  unfold nl
  rw [List.getElem?_map, h]; rfl
theorem nl_app (l m : List Nat) : nl (l ++ m) = nl l ++ nl m := List.map_append
theorem nl_flat (l : List Nat) : (nl l).all flatV = true := by
  unfold nl
  rw [List.all_map]
  exact List.all_eq_true.mpr fun _ _ => rfl
theorem nl_in (n : Nat) (l : List Nat) : inV (.int (n : Int)) (nl l) = l.contains n := by
  unfold inV nl
  rw [List.any_map]
  induction l with
  | nil => rfl
  | cons a l ih =>
    rw [List.any_cons, ih, List.contains_cons]
    congr 1
    show ((a : Int) == (n : Int)) = (n == a)
    by_cases c : a = n
    · subst c; simp
    · have h1 : ¬ ((a : Int) = (n : Int)) := by omega
      have h2 : ¬ n = a := fun z => c z.symm
      rw [beq_eq_false_iff_ne.mpr h1, beq_eq_false_iff_ne.mpr h2]
theorem take_more {α : Type} {l : List α} {i : Nat} {x : α} (h : l[i]? = some x) : l.take (i + 1) = l.take i ++ [x] := by
  rw [List.take_add_one, h]; rfl
theorem lt_of_get {α : Type} {l : List α} {i : Nat} {x : α} (h : l[i]? = some x) : i < l.length := (List.getElem?_eq_some_iff.mp h).1
/-- a whole number of the module -/
theorem pe_gi {X : Cx} {x : Str} {i : Int} {t : Tok} {pos : Pos} (hm : X.mg x = some (.int i t)) (hg : Gl X x := by rfl) (hd : (x == ("__debug__" : Str)) = false := by decide) : PE X (.Name x pos) (tC (.int i)) := pe_glob hg hm ⟨t, rfl⟩ hd
/-- the tests of the code as propositions -/
theorem iteD {c : Prop} [Decidable c] {A B : Prop} (h1 : c → A) (h2 : ¬ c → B) : if decide c = true then A else B := by
  by_cases h : c
  · rw [if_pos (decide_eq_true h)]; exact h1 h
  · rw [if_neg (by rw [decide_eq_false h]; exact Bool.false_ne_true)]; exact h2 h
/-- a def of the module that keeps its promise -/
def Def (P : Program) (w : World) (K : PySem.W.Frag) (mg : Str → Option Value) (base : Heap) (k : Nat) (x : Str) (ps : List Str) (sp : Sp) : Prop :=
  ∃ f fd, mg x = some (.ref f) ∧ PySem.W.keepIn K (.ref f) = true ∧ Binds K fd ps [] ∧ FnOk P w K mg base CX0 k f fd ps sp
/-! ### what the top has left -/
structure Txt (mg : Str → Option Value) : Prop where
  len : mg "len" = none
  set : mg "set" = none
  any : mg "any" = none
  zip : mg "zip" = none
  list : mg "list" = none
  sum : mg "sum" = none
  sorted : mg "sorted" = none
  all : mg "all" = none
  min : mg "min" = none
  mRec : ∃ t, mg "MOST_RECORDS" = some (.int 8 t)
  lRec : ∃ t, mg "LAST_RECORD" = some (.int 30 t)
  lLab : ∃ t, mg "LAST_LABEL" = some (.int 100 t)
  mGrp : ∃ t, mg "MOST_GROUPS" = some (.int 6 t)
  new : ∃ t, mg "NEW" = some (.int 0 t)
section
variable {P : Program} {w : World} {K : PySem.W.Frag} {mg : Str → Option Value} {base : Heap}
/-! ### is_a_record -/
abbrev sRec : Stmt := topS 6
theorem scRec : FnScope ["record"] ["record"] (defScope sRec) := ⟨rfl, rfl, rfl, by decide +kernel, rfl, by decide +kernel, by decide +kernel⟩
def isRec (x : Nat) : Bool := decide (1 ≤ x) && decide (x ≤ 30)
def spRec : Sp := fun vs H Q _ => ∃ x : Nat, vs = [.int (x : Int)] ∧ Q (.bl (isRec x)) H
theorem ok_rec {f : Addr} {fd : FuncData} {k : Nat} (F : Fun K "is_a_record" "is_a_record" sRec f fd) (T : Txt mg) : FnOk P w K mg base CX0 (k + 1) f fd ["record"] spRec := by
  obtain ⟨t2, g2⟩ := T.lRec
  refine F.ok scRec (fun vs H Q E h => ?_) (fun cdv A outer s H vs Q E hr h => ?_)
  · obtain ⟨x, rfl, _⟩ := h
    rfl
  · obtain ⟨x, rfl, q⟩ := h
    refine ⟨_, pss_one (ps_ret (pe_and (pe_cmpR op_ge (pv 0) pe_int (nomark _)) (pe_one (pe_cmpR op_le (pv 0) (pe_gi g2) (nomark _))))), ?_⟩
    unfold isRec at q
    refine ⟨_, rfl, _, _, rfl, rfl, _, rfl, ?_⟩
    refine iteD (fun c => ?_) (fun c => ?_)
    · refine ⟨_, rfl, _, _, rfl, rfl, ?_⟩
      rw [decide_eq_true (show 1 ≤ x by omega), Bool.true_and] at q
      show Q (.bl (decide ((x : Int) ≤ 30))) H
      rw [show decide ((x : Int) ≤ 30) = decide (x ≤ 30) from decide_eq_decide.mpr (by omega)]
      exact q
    · rw [decide_eq_false (show ¬ 1 ≤ x by omega), Bool.false_and] at q
      exact q
/-! ### how_many_in_both -/
abbrev sBoth : Stmt := topS 9
theorem scBoth : FnScope ["records", "others", "record"] ["records", "others"] (defScope sBoth) := ⟨rfl, rfl, rfl, by decide +kernel, rfl, by decide +kernel, by decide +kernel⟩
def spBoth (K : PySem.W.Frag) : Sp := fun vs H Q _ => ∃ (a b : Addr) (xs ys : List Nat), vs = [.ref a, .ref b] ∧ SqL K H a (nl xs) ∧ SqL K H b (nl ys) ∧ xs.length ≤ 1000 ∧
  ∀ H', Same H H' → Q (.int ((Rl07.common xs ys : Nat) : Int)) H'
theorem ok_both {f : Addr} {fd : FuncData} {k : Nat} (F : Fun K "how_many_in_both" "how_many_in_both" sBoth f fd) (T : Txt mg) : FnOk P w K mg base CX0 (k + 1) f fd ["records", "others"] (spBoth K) := by
  refine F.ok scBoth (fun vs H Q E h => ?_) (fun cdv A outer s H vs Q E hr h => ?_)
  · obtain ⟨a, b, xs, ys, rfl, _⟩ := h
    rfl
  · obtain ⟨a, b, xs, ys, rfl, hA, hB, hl, q⟩ := h
    refine ⟨_, pss_one (ps_ret (pe_callB call_len_seq (by rfl) T.len PySem.boot_len (pa_cons
      (pe_lc (own := [("record", 2)]) (g := gName 2) (tt := tTest (tOp (rIn K false) (tVar 2) (tVar 1))) (te := tVar 2) rfl scBoth.nd (pi_list (pv 0)) (blkOk_by (N := ["records", "others", "record"]) (sc := defScope sBoth) (by decide +kernel))
        (fun _ _ _ _ _ => pg_name (i := 2) scBoth.nd rfl (Or.inl rfl)) (fun _ _ _ _ _ => pts_one (pt_cmpR op_in_seq (pv 2) (pv 1) (by rfl))) (fun _ _ _ _ _ => pv 2)) pa_nil))), ?_⟩
    refine ⟨_, rfl, a, rfl, ⟨_, hA⟩, fun D hD => lc_list (K := K) (a := a) (xs := nl xs) (fun i H' => Same H H' ∧ H' D = some (.lst (nl ((xs.take i).filter ys.contains))))
      ⟨same_upd hD, upd_same⟩ (fun i H' _ p => p.1.seq hA) ?_ ?_⟩
    · rintro i x H' hi ⟨s1, hd⟩
      obtain ⟨n, hn, rfl⟩ := nl_get hi
      have hlt := lt_of_get hn
      refine ⟨rfl, _, rfl, _, rfl, b, _, rfl, .inl (s1.seq hB), rfl, nl_flat ys, _, rfl, ?_⟩
      show if inV (V.int (n : Int)) (nl ys) = true then _ else _
      rw [nl_in]
      refine ite2 (fun c => ?_) (fun c => ?_)
      · refine ⟨_, rfl, _, hd, ?_, same_new s1 hD, ?_⟩
        · rw [nl_len]
          have h1 := List.length_filter_le ys.contains (xs.take i)
          rw [List.length_take] at h1
          exact small1000 (by omega)
        · rw [upd_same, take_more hn, List.filter_append, nl_app]
          rw [List.filter_cons_of_pos c]; rfl
      · refine ⟨s1, ?_⟩
        rw [hd, take_more hn, List.filter_append]
        rw [List.filter_cons_of_neg c, List.filter_nil, List.append_nil]
    · rintro H' ⟨s1, hd⟩
      rw [nl_len, List.take_length] at hd
      refine ⟨D, _, rfl, .inl (.of hd), ?_⟩
      rw [nl_len]
      exact q H' s1
end
end NK
namespace NK
open PySem PySem.Spec PyProof.Rows L2
theorem nl_evens (l : List Nat) (a : Nat) : evens ((nl l).drop a) = nl (evens (l.drop a)) := by
  unfold nl
  rw [← List.map_drop, evens_map]
theorem evens_small {l : List Nat} (a : Nat) (h : l.length ≤ 1000) : (evens (l.drop a)).length ≤ 1000 := by
  rw [evens_len, List.length_drop]; omega
section
variable {P : Program} {w : World} {K : PySem.W.Frag} {mg : Str → Option Value} {base : Heap}
abbrev sCan : Stmt := topS 7
theorem scCan : FnScope ["told", "records", "labels", "record", "label"] ["told"] (defScope sCan) := ⟨rfl, rfl, rfl, by decide +kernel, rfl, by decide +kernel, by decide +kernel⟩
def spCan (K : PySem.W.Frag) : Sp := fun vs H Q _ => ∃ (a : Addr) (l : List Nat), vs = [.ref a] ∧ SqL K H a (nl l) ∧ l.length ≤ 1000 ∧
  ∀ H', Same H H' → Q (.bl (Rl07.told? l).isSome) H'
theorem ok_can {f : Addr} {fd : FuncData} {k : Nat} (F : Fun K "can_be_told" "can_be_told" sCan f fd) (T : Txt mg) (R : Def P w K mg base (k + 1) "is_a_record" ["record"] spRec) : FnOk P w K mg base CX0 (k + 2) f fd ["told"] (spCan K) := by
  obtain ⟨fr, fdr, mR, kR, bR, GR⟩ := R
  obtain ⟨t1, g1⟩ := T.mRec
  obtain ⟨t3, g3⟩ := T.lLab
  obtain ⟨t4, g4⟩ := T.mGrp
  refine F.ok scCan (fun vs H Q E h => ?_) (fun cdv A outer s H vs Q E hr h => ?_)
  · obtain ⟨a, l, rfl, _⟩ := h
    rfl
  · obtain ⟨a, l, rfl, hA, hl, q⟩ := h
    refine ⟨_, pss_cons (ps_if (pt_cmpR op_eq (pe_op op_mod (pe_callB call_len_seq (by rfl) T.len PySem.boot_len (pa_cons (pv 0) pa_nil)) pe_int) pe_int (nomark _)) (pss_one (ps_ret pe_bl)) pss_nil)
      (pss_cons (ps_set (i := 1) scCan.nd rfl (.inl rfl) (pe_ev 0 (pv 0)))
      (pss_cons (ps_set (i := 2) scCan.nd rfl (.inl rfl) (pe_ev 1 (pv 0)))
      (pss_cons (ps_if (PW.pt (pw_or (pt_cmpR op_gt (pe_callB call_len_seq (by rfl) T.len PySem.boot_len (pa_cons (pv 1) pa_nil)) (pe_gi g1) (nomark _))
          (pw_or1 (pt_cmpR op_lt (pe_lenSet (by rfl) T.len (by rfl) T.set (pv 1)) (pe_callB call_len_seq (by rfl) T.len PySem.boot_len (pa_cons (pv 1) pa_nil)) (nomark _))))) (pss_one (ps_ret pe_bl)) pss_nil)
      (pss_cons (ps_if (pt_not (pt_val (pe_callB (cr_all rfl) (by rfl) T.all (by decide +kernel) (pa_cons
          (pe_lc (own := [("record", 3)]) (g := gName 3) (tt := tYes) (te := tCall spRec [] E0 (tCons (tVar 3) tNil)) rfl scCan.nd (pi_list (pv 1)) (blkOk_by (N := ["told", "records", "labels", "record", "label"]) (sc := defScope sCan) (by decide +kernel))
            (fun _ _ _ _ _ => pg_name (i := 3) scCan.nd rfl (Or.inl rfl)) (fun _ _ _ _ _ => pts_nil) (fun _ _ _ _ _ => pe_call GR hr (by rfl) mR kR bR .nil pass0 (pa_cons (pv 3) pa_nil))) pa_nil)))) (pss_one (ps_ret pe_bl)) pss_nil)
      (pss_cons (ps_if (pt_val (pe_callB (cr_any rfl) (by rfl) T.any (by decide +kernel) (pa_cons
          (pe_lc (own := [("label", 4)]) (g := gName 4) (tt := tYes) rfl scCan.nd (pi_list (pv 2)) (blkOk_by (N := ["told", "records", "labels", "record", "label"]) (sc := defScope sCan) (by decide +kernel))
            (fun _ _ _ _ _ => pg_name (i := 4) scCan.nd rfl (Or.inl rfl)) (fun _ _ _ _ _ => pts_nil) (fun _ _ _ _ _ => pe_cmpR op_gt (pv 4) (pe_gi g3) (nomark _))) pa_nil))) (pss_one (ps_ret pe_bl)) pss_nil)
      (pss_one (ps_ret (pe_cmpR op_le (pe_lenSet (by rfl) T.len (by rfl) T.set (pv 2)) (pe_gi g4) (nomark _))))))))), ?_⟩
    have no : ∀ {H'}, ¬ Told l → Same H H' → Q (.bl false) H' := fun {H'} hn s' => by
      have := q H' s'
      rw [told_none hn] at this
      exact this
    -- if len(told) % 2 == 1
    refine ⟨_, rfl, a, _, rfl, .inl hA, _, _, rfl, rfl, (by show (0 : Int) < 2; decide), rfl, _, rfl, ?_⟩
    rw [nl_len]
    refine ite2 (fun c => ?_) (fun c => ?_)
    · have c' : ((l.length : Int) % 2) = 1 := by simpa using c
      exact no (fun t => by have := t.even; omega) (Same.refl H)
    have he : l.length % 2 = 0 := by
      have c' : ¬ ((l.length : Int) % 2) = 1 := by simpa using c
      omega
    -- records = told[0::2]
    refine ⟨_, rfl, a, _, rfl, hA, fun p np => ?_⟩
    have s1 : Same H (upd H p (.lst (evens ((nl l).drop 0)))) := same_upd np
    -- labels = told[1::2]
    refine ⟨_, rfl, a, _, rfl, s1.seq hA, fun p2 np2 => ?_⟩
    generalize hH1 : upd H p (.lst (evens ((nl l).drop 0))) = H1 at *
    have s2 : Same H1 (upd H1 p2 (.lst (evens ((nl l).drop 1)))) := same_upd np2
    have e1 : H1 p = some (.lst (nl (evens l))) := by rw [← hH1, upd_same, nl_evens, List.drop_zero]
    generalize hH2 : upd H1 p2 (.lst (evens ((nl l).drop 1))) = H2 at *
    have e2 : H2 p = some (.lst (nl (evens l))) := s2 _ _ e1
    have e3 : H2 p2 = some (.lst (nl (evens (l.drop 1)))) := by rw [← hH2, upd_same, nl_evens]
    have s3 : Same H H2 := s1.trans s2
    have l1 := evens_small 0 hl
    have l2 := evens_small 1 hl
    rw [List.drop_zero] at l1
    have e2i : H2 p = some (.lst (((evens l).map fun (n : Nat) => (n : Int)).map V.int)) := by rw [e2, nl_ints]
    -- len(records) > MOST_RECORDS
    refine ⟨_, rfl, p, _, rfl, .inl (.of e2), _, _, rfl, rfl, _, rfl, ?_⟩
    rw [nl_len]
    refine ite2 (fun c => ?_) (fun c => ?_)
    · have c' : (8 : Int) < ((evens l).length : Int) := by simpa using c
      refine iteT ?_
      exact no (fun t => by have := t.few; omega) s3
    have hfew : (evens l).length ≤ 8 := by
      have c' : ¬ (8 : Int) < ((evens l).length : Int) := by simpa using c
      omega
    -- len(set(records)) < len(records)
    refine ⟨_, rfl, p, _, rfl, .of e2i, by rw [List.length_map]; omega, _, rfl, p, _, rfl, .inl (.of e2), _, _, rfl, rfl, _, rfl, ?_⟩
    rw [once_len, nl_len]
    have hnr := @nodup_or (evens l)
    have hle : (Rl07.rising (evens l)).length ≤ (evens l).length := len_within _ _ (rising_nodup _) fun x hx => mem_rising.mp hx
    refine iteD (fun c => ?_) (fun c => ?_)
    · exact no (fun t => by have := hnr.mpr t.once; omega) s3
    have hnd : (evens l).Nodup := hnr.mp (by omega)
    -- all(records)
    refine ⟨_, rfl, p, rfl, ⟨_, .of e2⟩, fun D hD => lc_list (K := K) (a := p) (xs := nl (evens l)) (fun i H' => Same H2 H' ∧ H' D = some (.lst ((((evens l).take i).map isRec).map V.bl)))
      ⟨same_upd hD, upd_same⟩ (fun i H' _ z => .of (z.1 _ _ e2)) ?_ ?_⟩
    · rintro i x H' hi ⟨s4, hd⟩
      obtain ⟨n, hn, rfl⟩ := nl_get hi
      have hlt := lt_of_get hn
      refine ⟨rfl, _, rfl, n, rfl, _, hd, ?_, same_new s4 hD, ?_⟩
      · rw [List.length_map, List.length_map, List.length_take]
        exact small1000 (by omega)
      · rw [upd_same, take_more hn, List.map_append, List.map_append]; rfl
    rintro H3 ⟨s4, hd⟩
    rw [nl_len, List.take_length] at hd
    refine ⟨D, _, rfl, .of hd, _, rfl, ?_⟩
    have s5 : Same H H3 := s3.trans s4
    refine ite2 (fun c => ?_) (fun c => ?_)
    · refine no (fun t => ?_) s5
      rw [Bool.not_eq_true', ← Bool.not_eq_true, List.all_eq_true] at c
      refine c fun b hb => ?_
      obtain ⟨r, hr, rfl⟩ := List.mem_map.mp hb
      have := t.recs r hr
      show isRec r = true
      unfold isRec
      rw [Bool.and_eq_true, decide_eq_true_eq, decide_eq_true_eq]; exact this
    have hrec : ∀ r ∈ evens l, 1 ≤ r ∧ r ≤ 30 := fun r hr => by
      have c' : ((evens l).map isRec).all id = true := by
        cases e : ((evens l).map isRec).all id with
        | true => rfl
        | false => rw [e] at c; exact absurd rfl c
      have := List.all_eq_true.mp c' (isRec r) (List.mem_map.mpr ⟨r, hr, rfl⟩)
      have : isRec r = true := this
      unfold isRec at this
      rw [Bool.and_eq_true, decide_eq_true_eq, decide_eq_true_eq] at this
      exact this
    have e4 : H3 p2 = some (.lst (nl (evens (l.drop 1)))) := s4 _ _ e3
    have e4i : H3 p2 = some (.lst (((evens (l.drop 1)).map fun (n : Nat) => (n : Int)).map V.int)) := by rw [e4, nl_ints]
    -- any(labels)
    refine ⟨_, rfl, p2, rfl, ⟨_, .of e4⟩, fun D2 hD2 => lc_list (K := K) (a := p2) (xs := nl (evens (l.drop 1))) (fun i H' => Same H3 H' ∧ H' D2 = some (.lst ((((evens (l.drop 1)).take i).map fun r => decide (100 < r)).map V.bl)))
      ⟨same_upd hD2, upd_same⟩ (fun i H' _ z => .of (z.1 _ _ e4)) ?_ ?_⟩
    · rintro i x H' hi ⟨s6, hd2⟩
      obtain ⟨n, hn, rfl⟩ := nl_get hi
      have hlt := lt_of_get hn
      refine ⟨rfl, ?_⟩
      refine ⟨_, rfl, _, _, rfl, rfl, _, hd2, ?_, same_new s6 hD2, ?_⟩
      · rw [List.length_map, List.length_map, List.length_take]
        exact small1000 (by omega)
      · rw [upd_same, take_more hn, List.map_append, List.map_append]
        have : decide ((100 : Int) < (n : Int)) = decide (100 < n) := by
          by_cases d : 100 < n
          · rw [decide_eq_true d, decide_eq_true (by omega)]
          · rw [decide_eq_false d, decide_eq_false (by omega)]
        dsimp only
        rw [this]; rfl
    rintro H4 ⟨s6, hd2⟩
    rw [nl_len, List.take_length] at hd2
    refine ⟨D2, _, rfl, .of hd2, _, rfl, ?_⟩
    have s7 : Same H H4 := s5.trans s6
    refine ite2 (fun c => ?_) (fun c => ?_)
    · refine no (fun t => ?_) s7
      rw [List.any_map] at c
      obtain ⟨r, hr, e⟩ := List.any_eq_true.mp c
      have := t.labs r hr
      have e' : decide (100 < r) = true := e
      rw [decide_eq_true_eq] at e'
      omega
    have hlab : ∀ r ∈ evens (l.drop 1), r ≤ 100 := fun r hr => by
      have : ¬ (decide (100 < r) = true) := fun z => c (by
        rw [List.any_map]
        exact List.any_eq_true.mpr ⟨r, hr, z⟩)
      rw [decide_eq_true_eq] at this
      omega
    refine ⟨_, rfl, p2, _, rfl, .of (s6 _ _ e4i), by rw [List.length_map]; omega, _, _, rfl, rfl, ?_⟩
    rw [once_len]
    have := q H4 s7
    show Q (V.bl (decide (((Rl07.rising (evens (List.drop 1 l))).length : Int) ≤ 6))) H4
    by_cases d : (Rl07.rising (evens (l.drop 1))).length ≤ 6
    · rw [told_some ⟨he, hfew, hnd, hrec, hlab, d⟩] at this
      rw [decide_eq_true (by omega)]
      exact this
    · rw [decide_eq_false (by omega)]
      exact no (fun t => d t.grps) s7
end
end NK
namespace NK
open PySem PySem.Spec PyProof.Rows L2
/-- groups told: a list of lists of records -/
inductive Rows (H : Hp) : List (List Nat) → List V → Prop
  | nil : Rows H [] []
  | cons {g : List Nat} {a : Addr} {gs : List (List Nat)} {vs : List V} : H a = some (.lst (nl g)) → Rows H gs vs → Rows H (g :: gs) (.ref a :: vs)
theorem Rows.keep {H H' : Hp} (s : Same H H') : ∀ {gs vs}, Rows H gs vs → Rows H' gs vs
  | _, _, .nil => .nil
  | _, _, .cons h r => .cons (s _ _ h) (r.keep s)
theorem Rows.len {H : Hp} : ∀ {gs vs}, Rows H gs vs → vs.length = gs.length
  | _, _, .nil => rfl
  | _, _, .cons _ r => by rw [List.length_cons, List.length_cons, r.len]
theorem Rows.get {H : Hp} : ∀ {gs vs}, Rows H gs vs → ∀ {i : Nat} {v : V}, vs[i]? = some v → ∃ g a, gs[i]? = some g ∧ v = .ref a ∧ H a = some (.lst (nl g))
  | _, _, .nil, i, v, h => by simp at h
  | _, _, .cons h r, 0, v, e => ⟨_, _, rfl, (Option.some.inj e).symm, h⟩
  | _, _, .cons h r, i + 1, v, e => r.get (i := i) e
def RowsAt (K : PySem.W.Frag) (H : Hp) (p : Addr) (gs : List (List Nat)) : Prop := ∃ vs, SqL K H p vs ∧ Rows H gs vs
theorem RowsAt.keep {K : PySem.W.Frag} {H H' : Hp} {p : Addr} {gs : List (List Nat)} (s : Same H H') (r : RowsAt K H p gs) : RowsAt K H' p gs := let ⟨vs, h1, h2⟩ := r; ⟨vs, s.seq h1, h2.keep s⟩
/-- the dict of groups as it grows -/
inductive GD (H : Hp) : List (Nat × List Nat) → List Addr → List (Key × V) → Prop
  | nil : GD H [] [] []
  | cons {k : Nat} {l : List Nat} {a : Addr} {gs : List (Nat × List Nat)} {as : List Addr} {kvs : List (Key × V)} : H a = some (.lst (nl l)) → GD H gs as kvs → GD H ((k, l) :: gs) (a :: as) ((Sum.inl (k : Int), .ref a) :: kvs)
theorem GD.keep {H H' : Hp} : ∀ {gs as kvs}, GD H gs as kvs → (∀ a ∈ as, H' a = H a) → GD H' gs as kvs
  | _, _, _, .nil, _ => .nil
  | _, _, _, .cons h r, s => .cons (by rw [s _ (by simp)]; exact h) (r.keep fun a ha => s a (by simp [ha]))
theorem GD.snoc {H : Hp} {k : Nat} {l : List Nat} {a : Addr} (h : H a = some (.lst (nl l))) : ∀ {gs as kvs}, GD H gs as kvs → GD H (gs ++ [(k, l)]) (as ++ [a]) (kvs ++ [(Sum.inl (k : Int), .ref a)])
  | _, _, _, .nil => .cons h .nil
  | _, _, _, .cons h' r => .cons h' (r.snoc h)
theorem GD.len {H : Hp} : ∀ {gs as kvs}, GD H gs as kvs → kvs.length = gs.length
  | _, _, _, .nil => rfl
  | _, _, _, .cons _ r => by rw [List.length_cons, List.length_cons, r.len]
theorem GD.rows {H : Hp} : ∀ {gs as kvs}, GD H gs as kvs → Rows H (gs.map (·.2)) (kvs.map (·.2))
  | _, _, _, .nil => .nil
  | _, _, _, .cons h r => .cons h r.rows
theorem inl_ne {a b : Nat} (h : a ≠ b) : ¬ ((Sum.inl (a : Int) : Key) = Sum.inl (b : Int)) := fun z => h (by have := Sum.inl.inj z; omega)
theorem GD.none {H : Hp} {k : Nat} : ∀ {gs as kvs}, GD H gs as kvs → valV kvs (Sum.inl (k : Int) : Key) = none → k ∉ gs.map (·.1)
  | _, _, _, .nil, _ => by simp
  | _, _, _, .cons (k := j) h r, e => by
    by_cases c : j = k
    · subst c
      rw [valV_pos rfl] at e
      cases e
    · rw [valV_neg (inl_ne c)] at e
      have := r.none e
      simp only [List.map_cons, List.mem_cons, not_or]
      exact ⟨fun z => c z.symm, this⟩
theorem GD.found {H : Hp} {k r : Nat} : ∀ {gs as kvs} {v : V}, GD H gs as kvs → as.Nodup → valV kvs (Sum.inl (k : Int) : Key) = some v →
    ∃ a l, v = .ref a ∧ a ∈ as ∧ (k, l) ∈ gs ∧ H a = some (.lst (nl l)) ∧ ∀ H' : Hp, (∀ b ∈ as, b ≠ a → H' b = H b) → H' a = some (.lst (nl (l ++ [r]))) → GD H' (addTo k r gs) as kvs
  | _, _, _, v, .nil, _, e => by rw [valV_nil] at e; cases e
  | _, _, _, v, .cons (k := j) (l := l) (a := a) (as := as) h g, hn, e => by
    have hn' := List.nodup_cons.mp hn
    by_cases c : j = k
    · subst c
      rw [valV_pos rfl] at e
      refine ⟨a, l, (Option.some.inj e).symm, by simp, by simp, h, fun H' s ha => ?_⟩
      show GD H' (if j = j then _ else _) _ _
      rw [if_pos rfl]
      exact .cons ha (g.keep fun b hb => s b (by simp [hb]) fun z => hn'.1 (z ▸ hb))
    · rw [valV_neg (inl_ne c)] at e
      obtain ⟨b, m, e1, e2, e3, e4, e5⟩ := g.found (r := r) hn'.2 e
      refine ⟨b, m, e1, by simp [e2], by simp [e3], e4, fun H' s hb => ?_⟩
      show GD H' (if j = k then _ else _) _ _
      rw [if_neg c]
      refine .cons ?_ (e5 H' (fun x hx hxb => s x (by simp [hx]) hxb) hb)
      rw [s a (by simp) fun z => hn'.1 (by rw [z]; exact e2)]
      exact h
/-- a dict of records and labels -/
def labD (p : List (Nat × Nat)) : List (Key × V) := p.map fun x => (Sum.inl (x.1 : Int), V.int (x.2 : Int))
theorem labD_get {r : Nat} : ∀ {p : List (Nat × Nat)}, r ∈ p.map (·.1) → valV (labD p) (Sum.inl (r : Int) : Key) = some (.int (labOf p r : Int))
  | [], h => by simp at h
  | (a, b) :: p, h => by
    show valV ((Sum.inl (a : Int), V.int (b : Int)) :: labD p) _ = _
    unfold labOf
    rw [List.find?_cons]
    by_cases c : a = r
    · subst c
      rw [valV_pos rfl]
      simp
    · rw [valV_neg (inl_ne c)]
      have : (a == r) = false := by simpa using c
      simp only [this]
      refine labD_get ?_
      simp only [List.map_cons, List.mem_cons] at h
      rcases h with h | h
      · exact absurd h.symm c
      · exact h
theorem labD_none {r : Nat} : ∀ {p : List (Nat × Nat)}, r ∉ p.map (·.1) → valV (labD p) (Sum.inl (r : Int) : Key) = none
  | [], _ => rfl
  | (a, b) :: p, h => by
    simp only [List.map_cons, List.mem_cons, not_or] at h
    show valV ((Sum.inl (a : Int), V.int (b : Int)) :: labD p) _ = _
    rw [valV_neg (inl_ne fun z => h.1 z.symm)]
    exact labD_none h.2
theorem addTo_len (k r : Nat) : ∀ gs : List (Nat × List Nat), (addTo k r gs).length ≤ gs.length + 1
  | [] => Nat.le_refl _
  | (j, l) :: gs => by
    show (if j = k then _ else _ : List (Nat × List Nat)).length ≤ _
    by_cases c : j = k
    · rw [if_pos c, List.length_cons, List.length_cons]; omega
    · rw [if_neg c, List.length_cons, List.length_cons]
      have := addTo_len k r gs
      omega
theorem gdict_len (lab : Nat → Nat) : ∀ l : List Nat, (gdict lab l).length ≤ l.length := by
  refine snoc_ind (Nat.le_refl _) fun l r ih => ?_
  rw [gdict_snoc, List.length_append, List.length_singleton]
  have := addTo_len (lab r) r (gdict lab l)
  omega
theorem gdict_in {lab : Nat → Nat} {l m : List Nat} {k : Nat} (h : (k, m) ∈ gdict lab l) : m.length ≤ l.length := by
  rw [gdict_eq] at h
  obtain ⟨j, _, e⟩ := List.mem_map.mp h
  rw [← (Prod.mk.inj e).2]
  exact List.length_filter_le _ _
section
variable {P : Program} {w : World} {K : PySem.W.Frag} {mg : Str → Option Value} {base : Heap}
abbrev sGrp : Stmt := topS 8
theorem scGrp : FnScope ["told", "labels", "record", "label", "groups"] ["told"] (defScope sGrp) := ⟨rfl, rfl, rfl, by decide +kernel, rfl, by decide +kernel, by decide +kernel⟩
def spGrp (K : PySem.W.Frag) : Sp := fun vs H Q _ => ∃ (a : Addr) (l : List Nat), vs = [.ref a] ∧ SqL K H a (nl l) ∧ Told l ∧
  ∀ H' p vs, Same H H' → H p = none → SqL K H' p vs → Rows H' (Rl07.groupsOf (prs l)) vs → (∀ b, V.ref b ∈ vs → H b = none) → Q (.ref p) H'
theorem ok_grp {f : Addr} {fd : FuncData} {k : Nat} (F : Fun K "groups_told" "groups_told" sGrp f fd) (T : Txt mg) : FnOk P w K mg base CX0 (k + 1) f fd ["told"] (spGrp K) := by
  refine F.ok scGrp (fun vs H Q E h => ?_) (fun cdv A outer s H vs Q E hr h => ?_)
  · obtain ⟨a, l, rfl, _⟩ := h
    rfl
  · obtain ⟨a, l, rfl, hA, t, q⟩ := h
    have hu := hu_of hr
    refine ⟨_, pss_cons (ps_set (i := 1) scGrp.nd rfl (.inl rfl) pe_dnewK)
      (pss_cons (ps_for PassesOwn.never rfl (pi_zip (by rfl) T.zip (pa_cons (pe_ev 0 (pv 0)) (pa_cons (pe_ev 1 (pv 0)) pa_nil)))
          (pg_tup rfl (pgs_cons (pg_name (i := 2) scGrp.nd rfl (.inl rfl)) (pgs_cons (pg_name (i := 3) scGrp.nd rfl (.inl rfl)) pgs_nil)))
        (pss_one (ps_dput hu (pv 1) (pv 2) (pv 3) rfl)))
      (pss_cons (ps_set (i := 4) scGrp.nd rfl (.inl rfl) pe_dnewK)
      (pss_cons (ps_for PassesOwn.never rfl (pi_list (pe_callB (call_sortedDI rfl) (by rfl) T.sorted (by decide +kernel) (pa_cons (pv 1) pa_nil))) (pg_name (i := 2) scGrp.nd rfl (.inl rfl))
        (pss_one (ps_expr (pe_bm PySem.F.plainAttrs_list PySem.F.slot_list_append PySem.F.type_list_append mt_append
          (pe_dsetd (pv 4) (pe_dget hu (pv 1) (pv 2) (fun _ _ => rfl)) (pe_lst pa_nil) ⟨rfl, rfl, rfl, rfl⟩) (pa_cons (pv 2) pa_nil)))))
      (pss_one (ps_ret (pe_listVals rfl (by rfl) T.list (pv 4))))))), ?_⟩
    have hlen := prs_lens t.even
    have hfew := t.few
    -- labels = {}
    intro dl hdl
    have s1 : Same H (upd H dl (.dK [])) := same_upd hdl
    have f1 : (upd H dl (.dK [])) dl = some (.dK []) := upd_same
    generalize upd H dl (.dK []) = H1 at *
    -- told[0::2], told[1::2]
    refine ⟨_, rfl, a, _, rfl, s1.seq hA, fun p1 n1 => ?_⟩
    refine ⟨_, rfl, a, _, rfl, ((s1.trans (same_upd n1)).seq hA), fun p2 n2 => ?_⟩
    rw [nl_evens, nl_evens, List.drop_zero] at *
    have s2 : Same H1 (upd H1 p1 (.lst (nl (evens l)))) := same_upd n1
    have f2 : (upd H1 p1 (.lst (nl (evens l)))) p1 = some (.lst (nl (evens l))) := upd_same
    generalize upd H1 p1 (.lst (nl (evens l))) = H2 at *
    have s3 : Same H2 (upd H2 p2 (.lst (nl (evens (l.drop 1))))) := same_upd n2
    have f3 : (upd H2 p2 (.lst (nl (evens (l.drop 1))))) p2 = some (.lst (nl (evens (l.drop 1)))) := upd_same
    generalize upd H2 p2 (.lst (nl (evens (l.drop 1)))) = H3 at *
    have f3a := s3 _ _ f2
    have f3b := s3 _ _ (s2 _ _ f1)
    have hpl : p1 ≠ dl := ne_of f3a f3b (by intro z; cases z)
    have hp2l : p2 ≠ dl := ne_of f3 f3b (by intro z; cases z)
    have hfst := prs_fst t.even
    have hpn : ((prs l).map (·.1)).Nodup := by rw [hfst]; exact t.once
    have hpl8 : (prs l).length ≤ 8 := by rw [prs_len t.even]; exact hfew
    refine ⟨p1, p2, _, _, rfl, .of f3a, .of f3, for_it (walk_zip (xs := nl (evens l)) (ys := nl (evens (l.drop 1))) (n := (prs l).length) (by rw [nl_len, nl_len, prs_len t.even]; omega))
      (fun i σ H' => ∃ v2 v3, σ = [some (.ref a), some (.ref dl), v2, v3, none] ∧ Same H H' ∧ H' p1 = some (.lst (nl (evens l))) ∧ H' p2 = some (.lst (nl (evens (l.drop 1)))) ∧ H' dl = some (.dK (labD ((prs l).take i))))
      ⟨none, none, rfl, s1.trans (s2.trans s3), f3a, f3, f3b⟩ (fun i σ H' _ ⟨_, _, _, _, h1, h2, _⟩ => ⟨.of h1, .of h2⟩) ?_ ?_⟩
    · rintro i x σ H4 H5 hi ⟨v2, v3, rfl, sm, h1, h2, h3⟩ ⟨Tp, x1, x2, rfl, nT, rfl, g1, g2⟩
      obtain ⟨r, hr1, rfl⟩ := nl_get g1
      obtain ⟨b, hb1, rfl⟩ := nl_get g2
      have hp : (prs l)[i]? = some (r, b) := by
        unfold prs
        rw [List.getElem?_zip_eq_some]
        exact ⟨hr1, hb1⟩
      have e1 : dl ≠ Tp := ne_of_none h3 nT
      refine ⟨Tp, _, rfl, .of upd_same, rfl, _, _, rfl, _, _, rfl, rfl, ?_⟩
      refine ⟨_, rfl, _, rfl, _, rfl, dl, _, rfl, DPut.k (k := Sum.inl (r : Int)) (by rw [upd_ne e1]; exact h3) ?_, ?_⟩
      · unfold labD
        rw [List.length_map, List.length_take]
        exact small1000 (by omega)
      · have hnot : r ∉ ((prs l).take i).map (·.1) := by
          intro z
          obtain ⟨j, hj, ej⟩ := List.getElem_of_mem z
          rw [List.length_map, List.length_take] at hj
          rw [List.getElem_map, List.getElem_take] at ej
          have hlt := lt_of_get hp
          have e2 : (prs l)[i] = (r, b) := by
            have := List.getElem?_eq_getElem hlt
            rw [hp] at this
            exact (Option.some.inj this).symm
          have := List.pairwise_iff_getElem.mp hpn j i (by rw [List.length_map]; omega) (by rw [List.length_map]; omega) (by omega)
          rw [List.getElem_map, List.getElem_map, e2] at this
          exact this ej
        have sT : Same H (upd H4 Tp (.tup [V.int (r : Int), V.int (b : Int)])) := sm.trans (same_upd nT)
        refine ⟨_, _, rfl, same_new sT hdl, ?_, ?_, ?_⟩
        · rw [upd_ne hpl, upd_ne (ne_of_none h1 nT)]; exact h1
        · rw [upd_ne hp2l, upd_ne (ne_of_none h2 nT)]; exact h2
        · rw [upd_same, putK_new _ (labD_none hnot), take_more hp]
          unfold labD
          rw [List.map_append]; rfl
    rintro σ H4 ⟨v2, v3, rfl, sm, h1, h2, h3⟩
    rw [List.take_length] at h3
    -- groups = {}
    intro dg ndg
    have s5 : Same H4 (upd H4 dg (.dK [])) := same_upd ndg
    have f5 : (upd H4 dg (.dK [])) dg = some (.dK []) := upd_same
    have ndH : H dg = none := sm.free ndg
    generalize upd H4 dg (.dK []) = H5 at *
    have h5 := s5 _ _ h3
    have sH5 : Same H H5 := sm.trans s5
    -- sorted(labels)
    refine ⟨_, rfl, dl, labD (prs l), ((evens l).map fun (n : Nat) => (n : Int)), rfl, .of h5, ?_, ?_, fun ys p3 hperm hsort n3 => ?_⟩
    · unfold labD
      rw [List.map_map, ← hfst, List.map_map, List.map_map]; rfl
    · rw [List.length_map]; omega
    rw [sorted_rising t.once hperm hsort, ← nl_ints]
    have s6 : Same H5 (upd H5 p3 (.lst (nl (Rl07.rising (evens l))))) := same_upd n3
    have f6 : (upd H5 p3 (.lst (nl (Rl07.rising (evens l))))) p3 = some (.lst (nl (Rl07.rising (evens l)))) := upd_same
    generalize upd H5 p3 (.lst (nl (Rl07.rising (evens l)))) = H6 at *
    have f6g := s6 _ _ f5
    have f6l := s6 _ _ h5
    have hrl : (Rl07.rising (evens l)).length ≤ 8 := by rw [(rising_perm t.once).length_eq]; exact hfew
    have ngl : dl ≠ dg := ne_of_none h3 ndg
    have n3g : p3 ≠ dg := ne_of f6 f6g (by intro z; cases z)
    refine ⟨p3, rfl, ⟨_, .of f6⟩, for_list (K := K) (a := p3) (xs := nl (Rl07.rising (evens l))) (fun i σ H' => ∃ v2 v3 kvs as, σ = [some (.ref a), some (.ref dl), v2, v3, some (.ref dg)] ∧ (∀ b o, H6 b = some o → b ≠ dg → H' b = some o) ∧ H' dg = some (.dK kvs) ∧
        GD H' (gdict (labOf (prs l)) ((Rl07.rising (evens l)).take i)) as kvs ∧ as.Nodup ∧ ∀ x ∈ as, H6 x = none)
      ⟨v2, v3, [], [], rfl, fun b o e _ => e, f6g, .nil, List.nodup_nil, by simp⟩ (fun i σ H' _ ⟨_, _, _, _, _, sb, _⟩ => .of (sb _ _ f6 n3g)) ?_ ?_⟩
    · rintro i x σ H7 hi ⟨u2, u3, kvs, as, rfl, sb, hd, gd, hnd, hfr⟩
      obtain ⟨r, hr, rfl⟩ := nl_get hi
      have hlt := lt_of_get hr
      have hmem : r ∈ (prs l).map (·.1) := by
        rw [hfst]
        exact mem_rising.mp (List.mem_of_getElem? hr)
      have hL7 := sb _ _ f6l ngl
      have hkl : kvs.length ≤ 8 := by
        have h1 := gdict_len (labOf (prs l)) ((Rl07.rising (evens l)).take i)
        rw [List.length_take] at h1
        rw [gd.len]; omega
      refine ⟨_, rfl, dg, rfl, .inl ⟨_, .inl hd⟩, _, rfl, _, rfl, dl, .int (labOf (prs l) r : Int), rfl, ?_, Nat.zero_le _, fun pn npn => ?_⟩
      · have := DGet.k (k := Sum.inl (r : Int)) hL7
        rw [labD_get hmem] at this
        exact this
      have hgn : dg ≠ pn := ne_of_none hd npn
      have hn6 : H6 pn = none := by
        cases e : H6 pn with
        | none => rfl
        | some o => exact absurd (sb _ _ e hgn.symm) (by rw [npn]; exact nofun)
      have hpna : pn ∉ as := fun z => by
        have : ∀ {gs as kvs}, GD H7 gs as kvs → pn ∈ as → False := by
          intro gs as kvs g
          induction g with
          | nil => intro z; simp at z
          | cons h _ ih =>
            intro z
            rcases List.mem_cons.mp z with z | z
            · rw [← z, npn] at h; cases h
            · exact ih z
        exact this gd z
      have gd2 : GD (upd H7 pn (.lst [])) _ as kvs := gd.keep fun x hx => upd_ne fun z => hpna (z ▸ hx)
      have hgd : dg ∉ as := fun z => by have := hfr _ z; rw [f6g] at this; cases this
      refine ⟨kvs, Sum.inl (labOf (prs l) r : Int), (by rw [upd_ne hgn]; exact hd), rfl, small1000 (by omega), fun v hv => ?_, fun hv => ?_⟩
      · obtain ⟨b, m, rfl, hb, hm, hbm, hnext⟩ := gd2.found (r := r) hnd hv
        have hml := gdict_in hm
        rw [List.length_take] at hml
        refine ⟨.inl ⟨rfl, _, .of hbm⟩, _, rfl, b, _, _, rfl, rfl, hbm, (by rw [nl_len]; exact small1000 (by omega)), ?_⟩
        have hbg : b ≠ dg := fun z => hgd (z ▸ hb)
        refine ⟨_, _, kvs, as, rfl, fun c o e ec => ?_, ?_, ?_, hnd, hfr⟩
        · have hcb : c ≠ b := fun z => by rw [z, hfr _ hb] at e; cases e
          rw [upd_ne hcb, upd_ne (ne_of_none e hn6)]
          exact sb _ _ e ec
        · rw [upd_ne hbg.symm, upd_ne hgn]; exact hd
        · rw [take_more hr, gdict_snoc]
          refine hnext _ (fun c hc hcb => upd_ne hcb) ?_
          rw [upd_same, nl_app]; rfl
      · have hput : putK kvs (Sum.inl (labOf (prs l) r : Int) : Key) (V.ref pn) = kvs ++ [(Sum.inl (labOf (prs l) r : Int), .ref pn)] := putK_new _ hv
        have hpe : (upd (upd H7 pn (.lst [])) dg (.dK (putK kvs (Sum.inl (labOf (prs l) r : Int) : Key) (V.ref pn)))) pn = some (.lst []) := by rw [upd_ne hgn.symm, upd_same]
        refine ⟨.inl ⟨rfl, _, .of hpe⟩, _, rfl, pn, _, _, rfl, rfl, hpe, small1000 (by show 0 ≤ 1000; omega), ?_⟩
        refine ⟨_, _, kvs ++ [(Sum.inl (labOf (prs l) r : Int), .ref pn)], as ++ [pn], rfl, fun c o e ec => ?_, ?_, ?_, ?_, ?_⟩
        · rw [upd_ne (ne_of_none e hn6), upd_ne ec, upd_ne (ne_of_none e hn6)]
          exact sb _ _ e ec
        · rw [upd_ne hgn, upd_same, hput]
        · rw [take_more hr, gdict_snoc, addTo_new (gd.none hv)]
          refine GD.snoc (by rw [upd_same]; rfl) (gd.keep fun x hx => ?_)
          have h1 : x ≠ pn := fun z => hpna (z ▸ hx)
          have h2 : x ≠ dg := fun z => hgd (z ▸ hx)
          rw [upd_ne h1, upd_ne h2, upd_ne h1]
        · refine List.nodup_append.mpr ⟨hnd, by simp, fun x hx y hy => ?_⟩
          have : y = pn := by simpa using hy
          rintro rfl
          exact hpna (this ▸ hx)
        · intro x hx
          rcases List.mem_append.mp hx with hx | hx
          · exact hfr x hx
          · have : x = pn := by simpa using hx
            rw [this]; exact hn6
    rintro σ H7 ⟨u2, u3, kvs, as, rfl, sb, hd, gd, hnd, hfr⟩
    rw [nl_len, List.take_length] at gd
    -- return list(groups.values())
    refine ⟨_, rfl, dg, kvs, rfl, hd, fun p4 n4 => ?_⟩
    have sH7 : Same H H7 := fun b o e => sb _ _ (s6 _ _ (sH5 _ _ e)) fun z => by rw [z, ndH] at e; cases e
    refine q _ p4 _ (sH7.trans (same_upd n4)) (sH7.free n4) (.of upd_same) ?_ fun b hb => ?_
    · rw [groupsOf_eq hpn, hfst]
      exact gd.rows.keep (same_upd n4)
    · have hin : ∀ {gs as kvs}, GD H7 gs as kvs → V.ref b ∈ kvs.map (·.2) → b ∈ as := by
        intro gs as kvs g
        induction g with
        | nil => intro z; simp at z
        | cons _ _ ih =>
          intro z
          simp only [List.map_cons, List.mem_cons] at z ⊢
          rcases z with z | z
          · exact .inl (V.ref.inj z)
          · exact .inr (ih z)
      have h6 := hfr b (hin gd hb)
      exact sH5.free (s6.free h6)
end
end NK
namespace NK
open PySem PySem.Spec PyProof.Rows L2
theorem split_get {α : Type} {l : List α} {i : Nat} {x : α} (h : l[i]? = some x) : l = l.take i ++ x :: l.drop (i + 1) := by
  have hlt := lt_of_get h
  have e : l[i] = x := by
    have := List.getElem?_eq_getElem hlt
    rw [h] at this
    exact (Option.some.inj this).symm
  rw [← e, ← List.drop_eq_getElem_cons hlt, List.take_append_drop]
/-! ### a round as a dict: numbers and lists of records -/
inductive RK (H : Hp) : Rl07.Round → List (Key × V) → Prop
  | nil : RK H [] []
  | cons {g : Rl07.Group} {a : Addr} {r : Rl07.Round} {kvs : List (Key × V)} : H a = some (.lst (nl g.recs)) → RK H r kvs → RK H (g :: r) ((Sum.inl (g.num : Int), .ref a) :: kvs)
theorem RK.keep {H H' : Hp} (s : ∀ a xs, H a = some (.lst xs) → H' a = some (.lst xs)) : ∀ {r kvs}, RK H r kvs → RK H' r kvs
  | _, _, .nil => .nil
  | _, _, .cons h k => .cons (s _ _ h) (k.keep s)
theorem RK.len {H : Hp} : ∀ {r kvs}, RK H r kvs → kvs.length = r.length
  | _, _, .nil => rfl
  | _, _, .cons _ k => by rw [List.length_cons, List.length_cons, k.len]
theorem RK.get {H : Hp} : ∀ {r kvs}, RK H r kvs → ∀ {i : Nat}, i < r.length → ∃ g a, r[i]? = some g ∧ kvs[i]? = some (Sum.inl (g.num : Int), .ref a) ∧ H a = some (.lst (nl g.recs))
  | _, _, .nil, i, h => by simp at h
  | _, _, .cons h k, 0, _ => ⟨_, _, rfl, rfl, h⟩
  | _, _, .cons h k, i + 1, hi => k.get (i := i) (by simpa using hi)
theorem RK.val {H : Hp} {n : Nat} : ∀ {r kvs}, RK H r kvs → (valV kvs (Sum.inl (n : Int) : Key) = none ∧ (r.find? fun g => g.num == n) = none) ∨
    ∃ g a, valV kvs (Sum.inl (n : Int) : Key) = some (.ref a) ∧ (r.find? fun g => g.num == n) = some g ∧ H a = some (.lst (nl g.recs))
  | _, _, .nil => .inl ⟨rfl, rfl⟩
  | _, _, .cons (g := g) (a := a) h k => by
    by_cases c : g.num = n
    · refine .inr ⟨g, a, ?_, ?_, h⟩
      · rw [c, valV_pos rfl]
      · rw [List.find?_cons]
        have : (g.num == n) = true := by simpa using c
        rw [this]
    · have e : (g.num == n) = false := by simpa using c
      rw [valV_neg (inl_ne c), List.find?_cons, e]
      exact k.val
theorem RK.snoc {H : Hp} {g : Rl07.Group} {a : Addr} (h : H a = some (.lst (nl g.recs))) : ∀ {r kvs}, RK H r kvs → RK H (r ++ [g]) (kvs ++ [(Sum.inl (g.num : Int), .ref a)])
  | _, _, .nil => .cons h .nil
  | _, _, .cons h' k => .cons h' (k.snoc h)
def RoundAt (H : Hp) (d : Addr) (r : Rl07.Round) : Prop := ∃ kvs, H d = some (.dK kvs) ∧ RK H r kvs
theorem RoundAt.keep {H H' : Hp} {d : Addr} {r : Rl07.Round} (s : Same H H') (h : RoundAt H d r) : RoundAt H' d r := let ⟨kvs, h1, h2⟩ := h; ⟨kvs, s _ _ h1, h2.keep fun a xs e => s _ _ e⟩
/-- all but one object stands -/
def But (d : Addr) (H H' : Hp) : Prop := ∀ b o, H b = some o → b ≠ d → H' b = some o
theorem But.refl (d : Addr) (H : Hp) : But d H H := fun _ _ e _ => e
theorem But.lock (d : Addr) (H : Hp) (o : HO) : But d H (upd H d o) := fun b x e hb => by rw [upd_ne hb]; exact e
theorem But.same {d : Addr} {H H1 H2 : Hp} (b : But d H H1) (s : Same H1 H2) : But d H H2 := fun c o e hc => s _ _ (b c o e hc)
theorem But.open {d : Addr} {H H1 : Hp} {u : HO} (b : But d H H1) (h : H d = some u) : Same H (upd H1 d u) := fun c o e => by
  by_cases hc : c = d
  · subst hc; rw [upd_same, ← e, h]
  · rw [upd_ne hc]; exact b c o e hc
theorem But.lists {d : Addr} {H H1 : Hp} {kvs : List (Key × V)} (b : But d H H1) (h : H d = some (.dK kvs)) : ∀ a xs, H a = some (.lst xs) → H1 a = some (.lst xs) := fun a xs e => b a _ e (ne_of e h (by intro z; cases z))
theorem But.seq {K : PySem.W.Frag} {d : Addr} {H H1 : Hp} {a : Addr} {xs : List V} {kvs : List (Key × V)} (b : But d H H1) (h : H d = some (.dK kvs)) (hS : H a = some (.lst xs)) : SqL K H1 a xs := .of (b.lists h a xs hS)
theorem RK.get' {H : Hp} {r : Rl07.Round} {kvs : List (Key × V)} (k : RK H r kvs) {i : Nat} {x y : V} (hx : (kvs[i]?.map fun kv => kV kv.1) = some x) (hy : kvs[i]?.map Prod.snd = some y) :
    ∃ g a, r[i]? = some g ∧ x = .int (g.num : Int) ∧ y = .ref a ∧ H a = some (.lst (nl g.recs)) := by
  have hi : i < r.length := by
    cases e : kvs[i]? with
    | none => rw [e] at hx; cases hx
    | some z => rw [← k.len]; exact lt_of_get e
  obtain ⟨g, a, h1, h2, h3⟩ := k.get hi
  rw [h2] at hx hy
  exact ⟨g, a, h1, (Option.some.inj hx).symm, (Option.some.inj hy).symm, h3⟩
section
variable {P : Program} {w : World} {K : PySem.W.Frag} {mg : Str → Option Value} {base : Heap}
/-! ### number_of -/
abbrev sNum : Stmt := topS 16
theorem scNum : FnScope ["record", "groups", "number", "records"] ["record", "groups"] (defScope sNum) := ⟨rfl, rfl, rfl, by decide +kernel, rfl, by decide +kernel, by decide +kernel⟩
def spNum : Sp := fun vs H Q _ => ∃ (x : Nat) (d : Addr) (r : Rl07.Round), vs = [.int (x : Int), .ref d] ∧ RoundAt H d r ∧
  ∀ H', Same H H' → Q (.int (Rl07.numberOf r x : Int)) H'
theorem ok_num {f : Addr} {fd : FuncData} {k : Nat} (F : Fun K "number_of" "number_of" sNum f fd) : FnOk P w K mg base CX0 (k + 1) f fd ["record", "groups"] spNum := by
  refine F.ok scNum (fun vs H Q E h => ?_) (fun cdv A outer s H vs Q E hr h => ?_)
  · obtain ⟨x, d, r, rfl, _⟩ := h
    rfl
  · obtain ⟨x, d, r, rfl, ⟨kvs, hd, rk⟩, q⟩ := h
    refine ⟨_, pss_cons (ps_lock (ps_for PassesOwn.never rfl (pi_items (pv 1)) (pg_tup rfl (pgs_cons (pg_name (i := 2) scNum.nd rfl (.inl rfl)) (pgs_cons (pg_name (i := 3) scNum.nd rfl (.inl rfl)) pgs_nil)))
        (pss_one (ps_if (pt_cmpR op_in_seq (pv 0) (pv 3) (by rfl)) (pss_one (ps_ret (pv 2))) pss_nil))))
      (pss_one (ps_ret pe_int)), ?_⟩
    refine ⟨d, _, hd, trivial, fun od => ?_⟩
    refine ⟨_, rfl, d, od, kvs, rfl, upd_same, for_it walk_items (fun i σ H' => ∃ v2 v3, σ = [some (.int (x : Int)), some (.ref d), v2, v3] ∧ But d H H' ∧ H' d = some (.frz od (.dK kvs)) ∧ ((r.take i).find? fun g => g.recs.contains x) = none)
      ⟨none, none, rfl, .lock d H _, upd_same, rfl⟩ (fun i σ H' _ ⟨_, _, _, _, h, _⟩ => h) ?_ ?_⟩
    · rintro i v σ H1 H2 hi ⟨v2, v3, rfl, hb, hl, hn⟩ ⟨Tp, a1, a2, rfl, nT, rfl, g1, g2⟩
      obtain ⟨g, a, e1, rfl, rfl, e2⟩ := rk.get' g1 g2
      have hT : Same H1 (upd H1 Tp (.tup [V.int (g.num : Int), V.ref a])) := same_upd nT
      have hb2 := hb.same hT
      have hl2 := hT _ _ hl
      refine ⟨Tp, _, rfl, .of upd_same, rfl, _, _, rfl, _, _, rfl, rfl, ?_⟩
      refine ⟨_, rfl, _, rfl, a, _, rfl, .inl (hb2.seq hd e2), rfl, nl_flat _, _, rfl, ?_⟩
      show if inV (V.int (x : Int)) (nl g.recs) = true then _ else _
      rw [nl_in]
      refine ite2 (fun c => ?_) (fun c => ?_)
      · refine ⟨_, rfl, hl2, ?_⟩
        have e : Rl07.numberOf r x = g.num := by
          unfold Rl07.numberOf
          have : r.find? (fun g => g.recs.contains x) = some g := by
            rw [List.find?_eq_some_iff_append]
            refine ⟨c, r.take i, r.drop (i + 1), ?_, fun b hbm => ?_⟩
            · exact split_get e1
            · have := List.find?_eq_none.mp hn b hbm
              simpa using this
          rw [this]; rfl
        have := q _ (hb2.open hd)
        rw [e] at this
        exact this
      · refine ⟨_, _, rfl, hb2, hl2, ?_⟩
        rw [take_more e1, List.find?_append, hn, Option.none_or, List.find?_cons]
        have : g.recs.contains x = false := by simpa using c
        rw [this]; rfl
    · rintro σ H1 ⟨v2, v3, rfl, hb, hl, hn⟩
      refine ⟨hl, ?_⟩
      rw [rk.len, List.take_length] at hn
      have e : Rl07.numberOf r x = 0 := by unfold Rl07.numberOf; rw [hn]; rfl
      have := q _ (hb.open hd)
      rw [e] at this
      exact this
/-! ### groups_in_numbers -/
abbrev sTell : Stmt := topS 17
theorem scTell : FnScope ["groups", "told", "number", "records"] ["groups"] (defScope sTell) := ⟨rfl, rfl, rfl, by decide +kernel, rfl, by decide +kernel, by decide +kernel⟩
def tells (r : Rl07.Round) : List Nat := r.flatMap fun g => g.num :: g.recs.length :: g.recs
theorem tells_len {n : Nat} {r : Rl07.Round} (h : RoundOk n r) (i : Nat) : (tells (r.take i)).length ≤ 20 := by
  have h1 := h.2.2.few
  have h2 := h.2.2.size
  rw [List.length_map] at h1
  have key : ∀ l : Rl07.Round, (tells l).length = 2 * l.length + (l.map (·.recs)).flatten.length := by
    intro l
    induction l with
    | nil => rfl
    | cons g l ih =>
      show ((g.num :: g.recs.length :: g.recs) ++ tells l).length = _
      rw [List.length_append, ih, List.map_cons, List.flatten_cons, List.length_append]
      simp only [List.length_cons]
      omega
  rw [key]
  have h3 : ((r.take i).map (·.recs)).flatten.length ≤ (r.map (·.recs)).flatten.length := by
    have e : r.map (·.recs) = (r.take i).map (·.recs) ++ (r.drop i).map (·.recs) := by rw [← List.map_append, List.take_append_drop]
    rw [e, List.flatten_append, List.length_append]; omega
  rw [List.length_take]
  omega
def spTell (K : PySem.W.Frag) : Sp := fun vs H Q _ => ∃ (d : Addr) (r : Rl07.Round) (n : Nat), vs = [.ref d] ∧ RoundAt H d r ∧ RoundOk n r ∧
  ∀ H' p, Same H H' → H p = none → H' p = some (.lst (nl (r.length :: tells r))) → Q (.ref p) H'
theorem ok_tell {f : Addr} {fd : FuncData} {k : Nat} (F : Fun K "groups_in_numbers" "groups_in_numbers" sTell f fd) (T : Txt mg) : FnOk P w K mg base CX0 (k + 1) f fd ["groups"] (spTell K) := by
  refine F.ok scTell (fun vs H Q E h => ?_) (fun cdv A outer s H vs Q E hr h => ?_)
  · obtain ⟨d, r, n, rfl, _⟩ := h
    rfl
  · obtain ⟨d, r, n, rfl, ⟨kvs, hd, rk⟩, ok, q⟩ := h
    refine ⟨_, pss_cons (ps_set (i := 1) scTell.nd rfl (.inl rfl) (pe_lst (pa_cons (pe_callB call_lenD (by rfl) T.len PySem.boot_len (pa_cons (pv 0) pa_nil)) pa_nil)))
      (pss_cons (ps_lock (ps_for PassesOwn.never rfl (pi_items (pv 0)) (pg_tup rfl (pgs_cons (pg_name (i := 2) scTell.nd rfl (.inl rfl)) (pgs_cons (pg_name (i := 3) scTell.nd rfl (.inl rfl)) pgs_nil)))
        (pss_cons (ps_expr (pe_bm PySem.F.plainAttrs_list PySem.F.slot_list_append PySem.F.type_list_append mt_append (pv 1) (pa_cons (pv 2) pa_nil)))
        (pss_cons (ps_expr (pe_bm PySem.F.plainAttrs_list PySem.F.slot_list_append PySem.F.type_list_append mt_append (pv 1) (pa_cons (pe_callB call_len_seq (by rfl) T.len PySem.boot_len (pa_cons (pv 3) pa_nil)) pa_nil)))
        (pss_one (ps_expr (pe_bm PySem.F.plainAttrs_list PySem.F.slot_list_extend PySem.F.type_list_extend mt_extend (pv 1) (pa_cons (pv 3) pa_nil))))))))
      (pss_one (ps_ret (pv 1)))), ?_⟩
    refine ⟨_, rfl, d, kvs, rfl, hd, (by show 1 ≤ sizeLine; decide), fun p np => ?_⟩
    rw [rk.len]
    have s1 : Same H (upd H p (.lst [V.int (r.length : Int)])) := same_upd np
    have f1 : (upd H p (.lst [V.int (r.length : Int)])) p = some (.lst (nl [r.length])) := upd_same
    generalize upd H p (.lst [V.int (r.length : Int)]) = H1 at *
    have hd1 := s1 _ _ hd
    have rk1 := rk.keep (H' := H1) fun a xs e => s1 _ _ e
    have npd : p ≠ d := ne_of f1 hd1 (by intro z; cases z)
    refine ⟨d, _, hd1, trivial, fun od => ?_⟩
    refine ⟨_, rfl, d, od, kvs, rfl, upd_same, for_it walk_items (fun i σ H' => ∃ v2 v3, σ = [some (.ref d), some (.ref p), v2, v3] ∧ (∀ b o, H1 b = some o → b ≠ d → b ≠ p → H' b = some o) ∧ H' d = some (.frz od (.dK kvs)) ∧ H' p = some (.lst (nl (r.length :: tells (r.take i)))))
      ⟨none, none, rfl, fun b o e h1 _ => by rw [upd_ne h1]; exact e, upd_same, by rw [upd_ne npd]; exact f1⟩ (fun i σ H' _ ⟨_, _, _, _, h, _⟩ => h) ?_ ?_⟩
    · rintro i v σ H2 H3 hi ⟨v2, v3, rfl, hb, hl, hp⟩ ⟨Tp, a1, a2, rfl, nT, rfl, g1, g2⟩
      obtain ⟨g, a, e1, rfl, rfl, e0⟩ := rk.get' g1 g2
      have e2 := s1 _ _ e0
      have hap : a ≠ p := ne_of_none e0 np
      have had : a ≠ d := ne_of e0 hd (by intro z; cases z)
      have hT : Same H2 (upd H2 Tp (.tup [V.int (g.num : Int), V.ref a])) := same_upd nT
      have hl2 := hT _ _ hl
      have hp2 := hT _ _ hp
      have hnT : Tp ≠ p := (ne_of_none hp nT).symm
      refine ⟨Tp, _, rfl, .of upd_same, rfl, _, _, rfl, _, _, rfl, rfl, ?_⟩
      generalize upd H2 Tp (.tup [V.int (g.num : Int), V.ref a]) = H3 at *
      have ha3 := hT _ _ (hb _ _ e2 had hap)
      have hlen := tells_len ok i
      have hlen2 := tells_len ok (i + 1)
      have et : tells (r.take (i + 1)) = tells (r.take i) ++ (g.num :: g.recs.length :: g.recs) := by
        rw [take_more e1]; unfold tells; rw [List.flatMap_append]; simp
      have hrl : g.recs.length ≤ 20 := by
        rw [et, List.length_append] at hlen2
        simp only [List.length_cons] at hlen2
        omega
      refine ⟨_, rfl, .inl ⟨rfl, _, .of hp2⟩, _, rfl, p, _, _, rfl, rfl, hp2, (by rw [nl_len, List.length_cons]; exact small1000 (by omega)), ?_⟩
      refine ⟨_, rfl, .inl ⟨rfl, _, .of upd_same⟩, _, rfl, a, _, rfl, .inl (.of (by rw [upd_ne hap]; exact ha3)), p, _, _, rfl, rfl, upd_same, (by rw [List.length_append, nl_len, List.length_cons]; exact small1000 (by simp; omega)), ?_⟩
      refine ⟨_, rfl, .inl ⟨rfl, _, .of upd_same⟩, _, rfl, p, a, _, _, rfl, rfl, upd_same, (by rw [upd_ne hap, upd_ne hap]; exact ha3), (by rw [List.length_append, List.length_append, nl_len, nl_len, List.length_cons]; exact Nat.le_of_lt (small1000 (by simp; omega))), ?_⟩
      refine ⟨_, _, rfl, fun b o e h1 h2 => ?_, ?_, ?_⟩
      · rw [upd_ne h2, upd_ne h2, upd_ne h2]
        exact hT _ _ (hb _ _ e h1 h2)
      · rw [upd_ne npd.symm, upd_ne npd.symm, upd_ne npd.symm]; exact hl2
      · rw [upd_same, et, nl_len]
        unfold nl
        simp
    · rintro σ H2 ⟨v2, v3, rfl, hb, hl, hp⟩
      refine ⟨hl, ?_⟩
      rw [rk.len, List.take_length] at hp
      refine ⟨_, rfl, q _ p (fun b o e => ?_) np (by rw [upd_ne npd]; exact hp)⟩
      by_cases hc : b = d
      · subst hc; rw [upd_same, ← e, hd]
      · rw [upd_ne hc]; exact hb _ _ (s1 _ _ e) hc (ne_of_none e np)
end
end NK
namespace NK
open PySem PySem.Spec PyProof.Rows L2
section
variable {P : Program} {w : World} {K : PySem.W.Frag} {mg : Str → Option Value} {base : Heap}
/-! ### where_it_led -/
abbrev sLed : Stmt := topS 15
theorem scLed : FnScope ["records", "now", "led", "most", "number", "others", "shared"] ["records", "now"] (defScope sLed) := ⟨rfl, rfl, rfl, by decide +kernel, rfl, by decide +kernel, by decide +kernel⟩
def spLed (K : PySem.W.Frag) : Sp := fun vs H Q _ => ∃ (a d : Addr) (recs : List Nat) (r : Rl07.Round), vs = [.ref a, .ref d] ∧ H a = some (.lst (nl recs)) ∧ recs.length ≤ 1000 ∧ RoundAt H d r ∧
  ∀ H', Same H H' → Q (.int ((heirC r recs).2 : Int)) H'
theorem heirC_take {r : Rl07.Round} {recs : List Nat} {i : Nat} {g : Rl07.Group} (h : r[i]? = some g) : heirC (r.take (i + 1)) recs = if (heirC (r.take i) recs).1 < Rl07.common recs g.recs then (Rl07.common recs g.recs, g.num) else heirC (r.take i) recs := by
  unfold heirC
  rw [take_more h, List.foldl_append]; rfl
theorem ok_led {f : Addr} {fd : FuncData} {k : Nat} (F : Fun K "where_it_led" "where_it_led" sLed f fd) (B : Def P w K mg base (k + 1) "how_many_in_both" ["records", "others"] (spBoth K)) : FnOk P w K mg base CX0 (k + 2) f fd ["records", "now"] (spLed K) := by
  obtain ⟨fb, fdb, mB, kB, bB, GB⟩ := B
  refine F.ok scLed (fun vs H Q E h => ?_) (fun cdv A outer s H vs Q E hr h => ?_)
  · obtain ⟨a, d, recs, r, rfl, _⟩ := h
    rfl
  · obtain ⟨a, d, recs, r, rfl, hA, hl, ⟨kvs, hd, rk⟩, q⟩ := h
    refine ⟨_, pss_cons (ps_set (i := 2) scLed.nd rfl (.inl rfl) pe_int)
      (pss_cons (ps_set (i := 3) scLed.nd rfl (.inl rfl) pe_int)
      (pss_cons (ps_lock (ps_for PassesOwn.never rfl (pi_items (pv 1)) (pg_tup rfl (pgs_cons (pg_name (i := 4) scLed.nd rfl (.inl rfl)) (pgs_cons (pg_name (i := 5) scLed.nd rfl (.inl rfl)) pgs_nil)))
        (pss_cons (ps_set (i := 6) scLed.nd rfl (.inl rfl) (pe_call GB hr (by rfl) mB kB bB .nil pass0 (pa_cons (pv 0) (pa_cons (pv 5) pa_nil))))
        (pss_one (ps_if (pt_cmpR op_gt (pv 6) (pv 3) (nomark _)) (pss_cons (ps_set (i := 3) scLed.nd rfl (.inl rfl) (pv 6)) (pss_one (ps_set (i := 2) scLed.nd rfl (.inl rfl) (pv 4)))) pss_nil)))))
      (pss_one (ps_ret (pv 2))))), ?_⟩
    have had : a ≠ d := ne_of hA hd (by intro z; cases z)
    refine ⟨d, _, hd, trivial, fun od => ?_⟩
    refine ⟨_, rfl, d, od, kvs, rfl, upd_same, for_it walk_items (fun i σ H' => ∃ v4 v5 v6, σ = [some (.ref a), some (.ref d), some (.int ((heirC (r.take i) recs).2 : Int)), some (.int ((heirC (r.take i) recs).1 : Int)), v4, v5, v6] ∧ But d H H' ∧ H' d = some (.frz od (.dK kvs)))
      ⟨none, none, none, rfl, .lock d H _, upd_same⟩ (fun i σ H' _ ⟨_, _, _, _, _, h⟩ => h) ?_ ?_⟩
    · rintro i v σ H1 H2 hi ⟨v4, v5, v6, rfl, hb, hl1⟩ ⟨Tp, a1, a2, rfl, nT, rfl, g1, g2⟩
      obtain ⟨g, b, e1, rfl, rfl, e2⟩ := rk.get' g1 g2
      have hT : Same H1 (upd H1 Tp (.tup [V.int (g.num : Int), V.ref b])) := same_upd nT
      have hb2 := hb.same hT
      have hl2 := hT _ _ hl1
      refine ⟨Tp, _, rfl, .of upd_same, rfl, _, _, rfl, _, _, rfl, rfl, ?_⟩
      generalize upd H1 Tp (.tup [V.int (g.num : Int), V.ref b]) = H3 at *
      refine ⟨_, rfl, _, rfl, a, b, recs, g.recs, rfl, hb2.seq hd hA, hb2.seq hd e2, hl, fun H4 s4 => ?_⟩
      refine ⟨_, rfl, _, rfl, _, _, rfl, rfl, _, rfl, ?_⟩
      have hst := heirC_take (recs := recs) e1
      refine iteD (fun c => ?_) (fun c => ?_)
      · rw [if_pos (by omega)] at hst
        refine ⟨_, rfl, _, rfl, ?_⟩
        refine ⟨some (.int (g.num : Int)), some (.ref b), some (.int (Rl07.common recs g.recs : Int)), ?_, hb2.same s4, s4 _ _ hl2⟩
        rw [hst]; rfl
      · rw [if_neg (by omega)] at hst
        refine ⟨some (.int (g.num : Int)), some (.ref b), some (.int (Rl07.common recs g.recs : Int)), ?_, hb2.same s4, s4 _ _ hl2⟩
        rw [hst]; rfl
    · rintro σ H1 ⟨v4, v5, v6, rfl, hb, hl1⟩
      refine ⟨hl1, ?_⟩
      rw [rk.len, List.take_length]
      exact ⟨_, rfl, q _ (hb.open hd)⟩
/-! ### how_many_keep_theirs -/
abbrev sKeep : Stmt := topS 13
theorem scKeep : FnScope ["way", "groups", "ahead", "number", "records"] ["way", "groups", "ahead"] (defScope sKeep) := ⟨rfl, rfl, rfl, by decide +kernel, rfl, by decide +kernel, by decide +kernel⟩
def spKeep (K : PySem.W.Frag) : Sp := fun vs H Q _ => ∃ (a b d : Addr) (way : List Nat) (gs : List (List Nat)) (old : Rl07.Round), vs = [.ref a, .ref b, .ref d] ∧ SqL K H a (nl way) ∧ RowsAt K H b gs ∧ RoundAt H d old ∧
  way.length = gs.length ∧ gs.length ≤ 100 ∧ (∀ g ∈ gs, g.length ≤ 1000) ∧ ∀ H', Same H H' → Q (.int (keptC old gs way : Int)) H'
theorem ok_keep {f : Addr} {fd : FuncData} {k : Nat} (F : Fun K "how_many_keep_theirs" "how_many_keep_theirs" sKeep f fd) (T : Txt mg) (B : Def P w K mg base (k + 1) "how_many_in_both" ["records", "others"] (spBoth K)) : FnOk P w K mg base CX0 (k + 2) f fd ["way", "groups", "ahead"] (spKeep K) := by
  obtain ⟨fb, fdb, mB, kB, bB, GB⟩ := B
  refine F.ok scKeep (fun vs H Q E h => ?_) (fun cdv A outer s H vs Q E hr h => ?_)
  · obtain ⟨a, b, d, way, gs, old, rfl, _⟩ := h
    rfl
  · obtain ⟨a, b, d, way, gs, old, rfl, hA, ⟨vs, hB, rw1⟩, ⟨kvs, hd, rk⟩, hlen, hg, hgl, q⟩ := h
    have hu := hu_of hr
    refine ⟨_, pss_one (ps_ret (pe_callB (cr_sum rfl) (by rfl) T.sum (by decide +kernel) (pa_cons
      (pe_lc (own := [("number", 3), ("records", 4)]) rfl scKeep.nd (pi_zip (by rfl) T.zip (pa_cons (pv 0) (pa_cons (pv 1) pa_nil))) (blkOk_by (N := ["way", "groups", "ahead", "number", "records"]) (sc := defScope sKeep) (by decide +kernel))
        (g := gTup K 2 (gCons (gName 3) (gCons (gName 4) gNil))) (tt := tYes) (te := tCall (spBoth K) [] E0 (tCons (tVar 4) (tCons (tDGet2 (tVar 2) (tVar 3) (tLst tNil)) tNil)))
        (fun _ _ _ _ _ => pg_tup rfl (pgs_cons (pg_name (i := 3) scKeep.nd rfl (.inl rfl)) (pgs_cons (pg_name (i := 4) scKeep.nd rfl (.inl rfl)) pgs_nil))) (fun _ _ _ _ _ => pts_nil)
        (fun _ _ _ _ _ => pe_call GB hr (by rfl) mB kB bB .nil pass0 (pa_cons (pv 4) (pa_cons (pe_dget2 hu (pv 2) (pv 3) (pe_lst pa_nil) ⟨rfl, rfl, rfl, rfl⟩) pa_nil)))) pa_nil))), ?_⟩
    have hvl := rw1.len
    refine ⟨_, rfl, _, rfl, a, b, _, _, rfl, hA, hB, fun D hD => lc_it (walk_zip (xs := nl way) (ys := vs) (n := gs.length) (by rw [nl_len]; omega))
      (fun i H' => Same H H' ∧ H' D = some (.lst (nl (((way.zip gs).map fun x => Rl07.common x.2 (Rl07.recsOf old x.1)).take i))))
      ⟨same_upd hD, upd_same⟩ (fun i H' _ z => ⟨z.1.seq hA, z.1.seq hB⟩) ?_ ?_⟩
    · rintro i x H1 H2 hi ⟨s1, h1⟩ ⟨Tp, x1, x2, rfl, nT, rfl, g1, g2⟩
      obtain ⟨n, hn, rfl⟩ := nl_get g1
      obtain ⟨g, c, hgi, rfl, hc⟩ := rw1.get g2
      have hT : Same H1 (upd H1 Tp (.tup [V.int (n : Int), V.ref c])) := same_upd nT
      have hw : ((way.zip gs).map fun x => Rl07.common x.2 (Rl07.recsOf old x.1))[i]? = some (Rl07.common g (Rl07.recsOf old n)) := by
        have : (way.zip gs)[i]? = some (n, g) := List.getElem?_zip_eq_some.mpr ⟨hn, hgi⟩
        rw [List.getElem?_map, this]; rfl
      refine ⟨Tp, _, rfl, .of upd_same, rfl, _, _, rfl, _, _, rfl, rfl, rfl, ?_⟩
      generalize upd H1 Tp (.tup [V.int (n : Int), V.ref c]) = H3 at *
      have s3 := s1.trans hT
      refine ⟨_, rfl, _, rfl, d, rfl, .inl ⟨kvs, .inl (s3 _ _ hd)⟩, _, rfl, Nat.zero_le _, fun pn npn => ?_⟩
      have s4 : Same H3 (upd H3 pn (.lst [])) := same_upd npn
      have f4 : (upd H3 pn (.lst [])) pn = some (.lst (nl [])) := upd_same
      generalize upd H3 pn (.lst []) = H4 at *
      have s5 := s3.trans s4
      refine ⟨_, DGet.k (k := Sum.inl (n : Int)) (s5 _ _ hd), ?_⟩
      have fin : ∀ H5, Same H4 H5 → ∃ acc, H5 D = some (.lst acc) ∧ acc.length < sizeLine ∧ Same H (upd H5 D (.lst (acc ++ [V.int (Rl07.common g (Rl07.recsOf old n) : Int)]))) ∧ (upd H5 D (.lst (acc ++ [V.int (Rl07.common g (Rl07.recsOf old n) : Int)]))) D = some (.lst (nl (((way.zip gs).map fun x => Rl07.common x.2 (Rl07.recsOf old x.1)).take (i + 1)))) := fun H5 s6 => by
        refine ⟨_, s6 _ _ (s4 _ _ (hT _ _ h1)), ?_, same_new (s5.trans s6) hD, ?_⟩
        · rw [nl_len, List.length_take]
          exact small1000 (by omega)
        · rw [upd_same, take_more hw, nl_app]; rfl
      have hgm : g ∈ gs := List.mem_of_getElem? hgi
      rcases rk.val (n := n) with ⟨e1, e2⟩ | ⟨o, a', e1, e2, e3⟩
      · rw [e1]
        have er : Rl07.recsOf old n = [] := by unfold Rl07.recsOf; rw [e2]; rfl
        rw [er] at fin
        exact ⟨c, pn, g, [], rfl, .of (s5 _ _ hc), .of f4, hgl g hgm, fun H5 s6 => fin H5 s6⟩
      · rw [e1]
        have er : Rl07.recsOf old n = o.recs := by unfold Rl07.recsOf; rw [e2]; rfl
        rw [er] at fin
        exact ⟨c, a', g, o.recs, rfl, .of (s5 _ _ hc), .of (s5 _ _ e3), hgl g hgm, fun H5 s6 => fin H5 s6⟩
    · rintro H1 ⟨s1, h1⟩
      have hl1 : ((way.zip gs).map fun x => Rl07.common x.2 (Rl07.recsOf old x.1)).length = gs.length := by rw [List.length_map, List.length_zip]; omega
      rw [← hl1, List.take_length, nl_ints] at h1
      refine ⟨D, _, rfl, .of h1, ?_⟩
      have := q H1 s1
      unfold keptC at this
      have es : ∀ l : List Nat, (l.map fun (n : Nat) => (n : Int)).sum = ((l.sum : Nat) : Int) := by
        intro l
        induction l with
        | nil => rfl
        | cons x l ih => rw [List.map_cons, List.sum_cons, ih, List.sum_cons]; omega
      rw [es]
      exact this
end
end NK
namespace NK
open PySem PySem.Spec PyProof.Rows L2
theorem longer_le (P : List (List Nat)) (c : List Nat) (h : c.length ≤ 7) : (longer P c).length ≤ P.length * 7 := by
  unfold longer
  induction P with
  | nil => simp
  | cons w P ih =>
    rw [List.flatMap_cons, List.length_append, List.length_map, List.length_cons]
    have h2 := List.length_filter_le (fun n => n == 0 || !w.contains n) c
    omega
theorem longer_way {P : List (List Nat)} {c w : List Nat} (h : w ∈ longer P c) : ∃ v ∈ P, w.length = v.length + 1 := by
  obtain ⟨v, hv, h2⟩ := List.mem_flatMap.mp h
  obtain ⟨n, _, rfl⟩ := List.mem_map.mp h2
  exact ⟨v, hv, by simp⟩
theorem allWays_way : ∀ (cs : List (List Nat)) (P : List (List Nat)) (k : Nat), (∀ v ∈ P, v.length = k) → ∀ w ∈ cs.foldl longer P, w.length = k + cs.length
  | [], P, k, h, w, hw => by rw [h w hw]; rfl
  | c :: cs, P, k, h, w, hw => by
    rw [allWays_way cs (longer P c) (k + 1) (fun v hv => by
      obtain ⟨u, hu, e⟩ := longer_way hv
      rw [e, h u hu]) w hw, List.length_cons]
    omega
theorem longer_take {W : List (List Nat)} {nums way : List Nat} {j : Nat} (h : W[j]? = some way) : longer (W.take (j + 1)) nums = longer (W.take j) nums ++ (nums.filter fun n => n == 0 || !way.contains n).map fun n => way ++ [n] := by
  unfold longer
  rw [take_more h, List.flatMap_append]
  simp
theorem Rows.keepB {H H' : Hp} : ∀ {gs vs}, Rows H gs vs → (∀ a, V.ref a ∈ vs → H' a = H a) → Rows H' gs vs
  | _, _, .nil, _ => .nil
  | _, _, .cons h r, s => .cons (by rw [s _ (by simp)]; exact h) (r.keepB fun a ha => s a (by simp [ha]))
theorem Rows.snoc {H : Hp} {g : List Nat} {a : Addr} (h : H a = some (.lst (nl g))) : ∀ {gs vs}, Rows H gs vs → Rows H (gs ++ [g]) (vs ++ [.ref a])
  | _, _, .nil => .cons h .nil
  | _, _, .cons h' r => .cons h' (r.snoc h)
theorem Rows.at {H : Hp} : ∀ {gs vs}, Rows H gs vs → ∀ {a}, V.ref a ∈ vs → ∃ o, H a = some o
  | _, _, .nil, a, h => by simp at h
  | _, _, .cons h r, a, e => by
    rcases List.mem_cons.mp e with z | z
    · rw [V.ref.inj z]; exact ⟨_, h⟩
    · exact r.at z
section
variable {P : Program} {w : World} {K : PySem.W.Frag} {mg : Str → Option Value} {base : Heap}
abbrev sWays : Stmt := topS 12
theorem scWays : FnScope ["choices", "ways", "numbers", "longer", "way", "number"] ["choices"] (defScope sWays) := ⟨rfl, rfl, rfl, by decide +kernel, rfl, by decide +kernel, by decide +kernel⟩
def spWays (K : PySem.W.Frag) : Sp := fun vs H Q _ => ∃ (c : Addr) (cs : List (List Nat)), vs = [.ref c] ∧ RowsAt K H c cs ∧ cs.length ≤ 6 ∧ (∀ x ∈ cs, x.length ≤ 7) ∧
  ∀ H' p, Same H H' → RowsAt K H' p (allWays cs) → Q (.ref p) H'
theorem ok_ways {f : Addr} {fd : FuncData} {k : Nat} (F : Fun K "ways_to_give" "ways_to_give" sWays f fd) (T : Txt mg) : FnOk P w K mg base CX0 (k + 1) f fd ["choices"] (spWays K) := by
  obtain ⟨tN, gN⟩ := T.new
  refine F.ok scWays (fun vs H Q E h => ?_) (fun cdv A outer s H vs Q E hr h => ?_)
  · obtain ⟨c, cs, rfl, _⟩ := h
    rfl
  · obtain ⟨c, cs, rfl, ⟨ws, hC, rC⟩, h6, h7, q⟩ := h
    refine ⟨_, pss_cons (ps_set (i := 1) scWays.nd rfl (.inl rfl) (pe_lst (pa_cons (pe_lst pa_nil) pa_nil)))
      (pss_cons (ps_for PassesOwn.never rfl (pi_list (pv 0)) (pg_name (i := 2) scWays.nd rfl (.inl rfl))
        (pss_cons (ps_set (i := 3) scWays.nd rfl (.inl rfl) (pe_lst pa_nil))
        (pss_cons (ps_for PassesOwn.never rfl (pi_list (pv 1)) (pg_name (i := 4) scWays.nd rfl (.inl rfl))
          (pss_one (ps_for PassesOwn.never rfl (pi_list (pv 2)) (pg_name (i := 5) scWays.nd rfl (.inl rfl))
            (pss_one (ps_if (PW.pt (pw_or (pt_cmpR op_eq (pv 5) (pe_gi gN) (nomark _)) (pw_or1 (pt_cmpR op_notIn_seq (pv 5) (pv 4) (by rfl)))))
              (pss_one (ps_expr (pe_bm PySem.F.plainAttrs_list PySem.F.slot_list_append PySem.F.type_list_append mt_append (pv 3) (pa_cons (pe_op op_cat (pv 4) (pe_lst (pa_cons (pv 5) pa_nil))) pa_nil)))) pss_nil)))))
        (pss_one (ps_set (i := 1) scWays.nd rfl (.inl rfl) (pv 3))))))
      (pss_one (ps_ret (pv 1)))), ?_⟩
    have hcl := rC.len
    -- ways = [[]]
    refine ⟨Nat.zero_le _, fun p0 n0 => ?_⟩
    refine ⟨(by show 1 ≤ sizeLine; decide), fun p1 n1 => ?_⟩
    have s0 : Same H (upd H p0 (.lst [])) := same_upd n0
    have f0 : (upd H p0 (.lst [])) p0 = some (.lst (nl [])) := upd_same
    generalize upd H p0 (.lst []) = H0 at *
    have s1 : Same H0 (upd H0 p1 (.lst [.ref p0])) := same_upd n1
    have f1 : (upd H0 p1 (.lst [.ref p0])) p1 = some (.lst [.ref p0]) := upd_same
    generalize upd H0 p1 (.lst [.ref p0]) = H1 at *
    have sH1 := s0.trans s1
    refine ⟨_, rfl, c, rfl, ⟨_, sH1.seq hC⟩, for_list (K := K) (a := c) (xs := ws) (fun i σ H' => ∃ pw vs v2 v3 v4 v5, σ = [some (.ref c), some (.ref pw), v2, v3, v4, v5] ∧ Same H H' ∧ H' pw = some (.lst vs) ∧ Rows H' ((cs.take i).foldl longer [[]]) vs)
      ⟨p1, _, none, none, none, none, rfl, sH1, f1, .cons (s1 _ _ f0) .nil⟩ (fun i σ H' _ ⟨_, _, _, _, _, _, _, sm, _⟩ => sm.seq hC) ?_ ?_⟩
    · rintro i x σ H2 hi ⟨pw, vs, v2, v3, v4, v5, rfl, sm, hpw, rW⟩
      obtain ⟨nums, an, hn, rfl, hnum0⟩ := rC.get hi
      have hnum := sm _ _ hnum0
      have hil := lt_of_get hn
      generalize hWd : (cs.take i).foldl longer [[]] = W at *
      have hW1 : W.length ≤ 7 ^ 5 := by
        have h1 := allWays_len (cs.take i) [[]] fun d hd => h7 d (List.mem_of_mem_take hd)
        rw [hWd] at h1
        refine Nat.le_trans h1 ?_
        rw [List.length_singleton, Nat.one_mul]
        exact Nat.pow_le_pow_right (by decide) (by rw [List.length_take]; omega)
      have hW2 : ∀ v ∈ W, v.length ≤ 6 := fun v hv => by
        rw [← hWd] at hv
        rw [allWays_way (cs.take i) [[]] 0 (by simp) v hv, List.length_take]; omega
      have hn7 : nums.length ≤ 7 := h7 _ (List.mem_of_getElem? hn)
      have h5 : (7 : Nat) ^ 5 = 16807 := by decide
      -- longer = []
      refine ⟨Nat.zero_le _, fun pl nl0 => ?_⟩
      have s2 : Same H2 (upd H2 pl (.lst [])) := same_upd nl0
      have f2 : (upd H2 pl (.lst [])) pl = some (.lst []) := upd_same
      have nplH : H pl = none := sm.free nl0
      have hpwl : pw ≠ pl := ne_of_none hpw nl0
      have hanl : an ≠ pl := ne_of_none hnum nl0
      have hrl : ∀ {a}, V.ref a ∈ vs → a ≠ pl := fun {a} ha => by
        obtain ⟨o, ho⟩ := rW.at ha
        exact ne_of_none ho nl0
      have sm3 := sm.trans s2
      have rW3 := rW.keep s2
      have hpw3 := s2 _ _ hpw
      have hnum3 := s2 _ _ hnum
      generalize upd H2 pl (.lst []) = H3 at *
      refine ⟨_, rfl, pw, rfl, ⟨_, .of hpw3⟩, for_list (K := K) (a := pw) (xs := vs) (fun j σ H' => ∃ us v4 v5, σ = [some (.ref c), some (.ref pw), some (.ref an), some (.ref pl), v4, v5] ∧ But pl H3 H' ∧ H' pl = some (.lst us) ∧ Rows H' (longer (W.take j) nums) us ∧ V.ref pl ∉ us)
        ⟨[], v4, v5, rfl, .refl pl H3, f2, .nil, by simp⟩ (fun j σ H' _ ⟨_, _, _, _, hb, _⟩ => .of (hb _ _ hpw3 hpwl)) ?_ ?_⟩
      · rintro j x σ H4 hj ⟨us, v4, v5, rfl, hb, hpl, rU, hnu⟩
        obtain ⟨way, aw, hw, rfl, haw3⟩ := rW3.get hj
        have hawl : aw ≠ pl := hrl (List.mem_of_getElem? hj)
        have hjl := lt_of_get hw
        have hwl : way.length ≤ 6 := hW2 _ (List.mem_of_getElem? hw)
        refine ⟨_, rfl, an, rfl, ⟨_, .of (hb _ _ hnum3 hanl)⟩, for_list (K := K) (a := an) (xs := nl nums) (fun m σ H' => ∃ us v5, σ = [some (.ref c), some (.ref pw), some (.ref an), some (.ref pl), some (.ref aw), v5] ∧ But pl H3 H' ∧ H' pl = some (.lst us) ∧
            Rows H' (longer (W.take j) nums ++ ((nums.take m).filter fun n => n == 0 || !way.contains n).map fun n => way ++ [n]) us ∧ V.ref pl ∉ us)
          ⟨us, v5, rfl, hb, hpl, by simpa using rU, hnu⟩ (fun m σ H' _ ⟨_, _, _, hb, _⟩ => .of (hb _ _ hnum3 hanl)) ?_ ?_⟩
        · rintro m x σ H5 hm ⟨us, v5, rfl, hb5, hpl5, rU5, hnu5⟩
          obtain ⟨n, hnm, rfl⟩ := nl_get hm
          have haw5 := hb5 _ _ haw3 hawl
          have hul : us.length ≤ 7 * 16807 := by
            rw [rU5.len, List.length_append, List.length_map]
            have h1 := longer_le (W.take j) nums hn7
            have h2 := List.length_filter_le (fun n => n == 0 || !way.contains n) (nums.take m)
            rw [List.length_take] at h1 h2
            omega
          have yes : (n == 0 || !way.contains n) = true → ∀ (H6 : Hp) (pr : Addr), Same H5 H6 → H6 pr = none → ∃ us' v5', ([some (.ref c), some (.ref pw), some (.ref an), some (.ref pl), some (.ref aw), some (.int (n : Int))] : L2.St) = [some (.ref c), some (.ref pw), some (.ref an), some (.ref pl), some (.ref aw), v5'] ∧
              But pl H3 (upd (upd H6 pr (.lst (nl way ++ [.int (n : Int)]))) pl (.lst (us ++ [.ref pr]))) ∧ (upd (upd H6 pr (.lst (nl way ++ [.int (n : Int)]))) pl (.lst (us ++ [.ref pr]))) pl = some (.lst us') ∧
              Rows (upd (upd H6 pr (.lst (nl way ++ [.int (n : Int)]))) pl (.lst (us ++ [.ref pr]))) (longer (W.take j) nums ++ ((nums.take (m + 1)).filter fun n => n == 0 || !way.contains n).map fun n => way ++ [n]) us' ∧ V.ref pl ∉ us' := fun hc H6 pr s6 nr => by
            have hpr : pr ≠ pl := (ne_of_none (s6 _ _ hpl5) nr).symm
            refine ⟨us ++ [.ref pr], _, rfl, fun b o e hbl => ?_, upd_same, ?_, ?_⟩
            · have e5 := s6 _ _ (hb5 _ _ e hbl)
              rw [upd_ne hbl, upd_ne (ne_of_none e5 nr)]
              exact e5
            · rw [take_more hnm, List.filter_append, List.filter_cons_of_pos (p := fun n => n == 0 || !way.contains n) hc, List.filter_nil, List.map_append, ← List.append_assoc]
              refine Rows.snoc (by rw [upd_ne hpr, upd_same, nl_app]; rfl) (rU5.keepB fun b hbm => ?_)
              have hbl : b ≠ pl := fun z => hnu5 (z ▸ hbm)
              obtain ⟨o, ho⟩ := rU5.at hbm
              rw [upd_ne hbl, upd_ne (ne_of_none (s6 _ _ ho) nr), ho]
              exact s6 _ _ ho
            · intro z
              rcases List.mem_append.mp z with z | z
              · exact hnu5 z
              · have : V.ref pl = V.ref pr := by simpa using z
                exact hpr (V.ref.inj this).symm
          -- number == NEW or number not in way
          refine ⟨_, rfl, rfl, _, rfl, ?_⟩
          refine iteD (fun c1 => ?_) (fun c1 => ?_)
          · have hc : (n == 0 || !way.contains n) = true := by
              have : (n : Int) = 0 := V.int.inj c1
              have : n = 0 := by omega
              rw [this]; rfl
            refine ⟨_, rfl, .inl ⟨rfl, _, .of hpl5⟩, _, rfl, _, rfl, (by show 1 ≤ sizeLine; decide), fun pq nq => ?_⟩
            have sq : Same H5 (upd H5 pq (.lst [.int (n : Int)])) := same_upd nq
            refine ⟨aw, pq, _, _, rfl, rfl, sq _ _ haw5, upd_same, ?_, fun pr nr => ?_⟩
            · rw [nl_len]; exact Nat.le_of_lt (small1000 (by show way.length + 1 ≤ 1000; omega))
            · refine ⟨pl, us, _, rfl, rfl, (same_upd nr) _ _ (sq _ _ hpl5), (by rw [sizeLine_eq]; omega), ?_⟩
              exact yes hc _ pr sq nr
          · have hc0 : (n == 0) = false := by
              have : ¬ n = 0 := fun z => c1 (by rw [z]; rfl)
              simpa using this
            refine ⟨_, rfl, _, rfl, aw, _, rfl, .inl (.of haw5), rfl, nl_flat _, _, rfl, ?_⟩
            show if (!inV (V.int (n : Int)) (nl way)) = true then _ else _
            rw [nl_in]
            refine ite2 (fun c2 => ?_) (fun c2 => ?_)
            · have hc : (n == 0 || !way.contains n) = true := by rw [c2, Bool.or_true]
              refine ⟨_, rfl, .inl ⟨rfl, _, .of hpl5⟩, _, rfl, _, rfl, (by show 1 ≤ sizeLine; decide), fun pq nq => ?_⟩
              have sq : Same H5 (upd H5 pq (.lst [.int (n : Int)])) := same_upd nq
              refine ⟨aw, pq, _, _, rfl, rfl, sq _ _ haw5, upd_same, ?_, fun pr nr => ?_⟩
              · rw [nl_len]; exact Nat.le_of_lt (small1000 (by show way.length + 1 ≤ 1000; omega))
              · refine ⟨pl, us, _, rfl, rfl, (same_upd nr) _ _ (sq _ _ hpl5), (by rw [sizeLine_eq]; omega), ?_⟩
                exact yes hc _ pr sq nr
            · refine ⟨us, _, rfl, hb5, hpl5, ?_, hnu5⟩
              have hc : ¬ (n == 0 || !way.contains n) = true := by rw [hc0, Bool.false_or]; exact c2
              rw [take_more hnm, List.filter_append, List.filter_cons_of_neg (p := fun n => n == 0 || !way.contains n) hc, List.filter_nil, List.append_nil]
              exact rU5
        · rintro σ H5 ⟨us, v5, rfl, hb5, hpl5, rU5, hnu5⟩
          rw [nl_len, List.take_length, ← longer_take hw] at rU5
          exact ⟨us, _, v5, rfl, hb5, hpl5, rU5, hnu5⟩
      · rintro σ H4 ⟨us, v4, v5, rfl, hb, hpl, rU, hnu⟩
        rw [rW3.len, List.take_length] at rU
        refine ⟨_, rfl, ?_⟩
        refine ⟨pl, us, _, _, v4, v5, rfl, fun b o e => hb _ _ (sm3 _ _ e) (ne_of_none e nplH), hpl, ?_⟩
        rw [take_more hn, List.foldl_append, hWd]
        exact rU
    · rintro σ H2 ⟨pw, vs, v2, v3, v4, v5, rfl, sm, hpw, rW⟩
      rw [hcl, List.take_length] at rW
      exact ⟨_, rfl, q _ pw sm ⟨vs, .of hpw, rW⟩⟩
end
end NK
namespace NK
open PySem PySem.Spec PyProof.Rows L2
/-! ### what is held, as a dict -/
def heldD (hs : Rl07.Holds) : List (Key × V) := hs.map fun h => (Sum.inl (h.1 : Int), V.int (h.2 : Int))
theorem heldD_len (hs : Rl07.Holds) : (heldD hs).length = hs.length := List.length_map _
theorem heldD_app (a b : Rl07.Holds) : heldD (a ++ b) = heldD a ++ heldD b := List.map_append
theorem heldD_get {hs : Rl07.Holds} {i : Nat} {x y : V} (hx : ((heldD hs)[i]?.map fun kv => kV kv.1) = some x) (hy : (heldD hs)[i]?.map Prod.snd = some y) : ∃ p, hs[i]? = some p ∧ x = .int (p.1 : Int) ∧ y = .int (p.2 : Int) := by
  unfold heldD at hx hy
  rw [List.getElem?_map] at hx hy
  cases e : hs[i]? with
  | none => rw [e] at hx; cases hx
  | some p =>
    rw [e] at hx hy
    exact ⟨p, rfl, (Option.some.inj hx).symm, (Option.some.inj hy).symm⟩
theorem heldD_val {n : Nat} : ∀ {hs : Rl07.Holds}, valV (heldD hs) (Sum.inl (n : Int) : Key) = (heldTo hs n).map fun (r : Nat) => V.int (r : Int)
  | [] => rfl
  | h :: hs => by
    show valV ((Sum.inl (h.1 : Int), V.int (h.2 : Int)) :: heldD hs) _ = _
    unfold heldTo
    rw [List.find?_cons]
    by_cases c : h.1 = n
    · rw [c, valV_pos rfl, beq_self_eq_true]; rfl
    · rw [valV_neg (inl_ne c), beq_eq_false_iff_ne.mpr c, heldD_val]; rfl
theorem heldD_has {n : Nat} {hs : Rl07.Holds} : (valV (heldD hs) (Sum.inl (n : Int) : Key)).isSome = hs.any fun h => h.1 == n := by
  rw [heldD_val]
  unfold heldTo
  rw [Option.isSome_map, Option.isSome_map]
  induction hs with
  | nil => rfl
  | cons a l ih =>
    rw [List.find?_cons, List.any_cons]
    cases a.1 == n with
    | true => rfl
    | false => rw [Bool.false_or, ← ih]
theorem heldD_none {n : Nat} {hs : Rl07.Holds} (h : n ∉ hs.map (·.1)) : valV (heldD hs) (Sum.inl (n : Int) : Key) = none := by
  have : (valV (heldD hs) (Sum.inl (n : Int) : Key)).isSome = false := by
    rw [heldD_has, ← Bool.not_eq_true]
    exact fun z => h (any_keys.mp z)
  exact Option.isNone_iff_eq_none.mp (by rw [← Option.not_isSome, this]; rfl)
theorem DGet.rd {H : Hp} {a : Addr} {kvs : List (Key × V)} {k : Key} (e : Rd H a (.dK kvs)) : DGet H a (kV k) (valV kvs k) := .inl ⟨kvs, k, e, rfl, rfl⟩
/-- all but the locked one stands: any dict can be read -/
theorem But.rd {h d : Addr} {H H' : Hp} {u : HO} {od : Obj} {kvs : List (Key × V)} (b : But h H H') (hu : H h = some u) (hl : H' h = some (.frz od u)) (hd : H d = some (.dK kvs)) : Rd H' d (.dK kvs) := by
  by_cases c : d = h
  · subst c
    rw [hu] at hd
    cases hd
    exact .inr ⟨_, hl⟩
  · exact .inl (b d _ hd c)
theorem RK.has {H : Hp} {n : Nat} : ∀ {r kvs}, RK H r kvs → (valV kvs (Sum.inl (n : Int) : Key)).isSome = r.any fun g => g.num == n
  | _, _, .nil => rfl
  | _, _, .cons (g := g) h k => by
    rw [List.any_cons]
    by_cases c : g.num = n
    · rw [c, valV_pos rfl, beq_self_eq_true]; rfl
    · rw [valV_neg (inl_ne c), k.has, beq_eq_false_iff_ne.mpr c]; rfl
theorem But.seqL {K : PySem.W.Frag} {h b : Addr} {H H' : Hp} {kvs : List (Key × V)} {xs : List V} (t : But h H H') (hh : H h = some (.dK kvs)) (s : SqL K H b xs) : SqL K H' b xs := by
  rcases s with (z | ⟨o, z⟩) | z
  · exact .inl (.inl (t _ _ z (ne_of z hh (by intro y; cases y))))
  · exact .inl (.inr ⟨o, t _ _ z (ne_of z hh (by intro y; cases y))⟩)
  · exact .inr z
section
variable {P : Program} {w : World} {K : PySem.W.Frag} {mg : Str → Option Value} {base : Heap}
/-! ### those_that_count -/
abbrev sCnt : Stmt := topS 10
theorem scCnt : FnScope ["held", "groups", "ahead", "counting", "number", "record", "records"] ["held", "groups", "ahead"] (defScope sCnt) := ⟨rfl, rfl, rfl, by decide +kernel, rfl, by decide +kernel, by decide +kernel⟩
def spCnt (K : PySem.W.Frag) : Sp := fun vs H Q _ => ∃ (h b d : Addr) (hk : Rl07.Holds) (gs : List (List Nat)) (old : Rl07.Round), vs = [.ref h, .ref b, .ref d] ∧ H h = some (.dK (heldD hk)) ∧ (hk.map (·.1)).Nodup ∧ hk.length ≤ 900 ∧ RowsAt K H b gs ∧ gs.length ≤ 900 ∧ RoundAt H d old ∧
  ∀ H' p, Same H H' → H p = none → H' p = some (.dK (heldD (counting old gs hk))) → Q (.ref p) H'
theorem counting_snoc (old : Rl07.Round) (gs : List (List Nat)) (hk : Rl07.Holds) (p : Nat × Nat) : counting old gs (hk ++ [p]) = counting old gs hk ++ if ((old.any fun o => o.num == p.1) && gs.any fun g => g.contains p.2) = true then [p] else [] := by
  unfold counting
  rw [List.filter_append]
  refine congrArg _ ?_
  by_cases c : ((old.any fun o => o.num == p.1) && gs.any fun g => g.contains p.2) = true
  · rw [if_pos c, List.filter_cons_of_pos (p := fun h : Nat × Nat => (old.any fun o => o.num == h.1) && gs.any fun g => g.contains h.2) c]; rfl
  · rw [if_neg c, List.filter_cons_of_neg (p := fun h : Nat × Nat => (old.any fun o => o.num == h.1) && gs.any fun g => g.contains h.2) c]; rfl
theorem ok_cnt {f : Addr} {fd : FuncData} {k : Nat} (F : Fun K "those_that_count" "those_that_count" sCnt f fd) (T : Txt mg) : FnOk P w K mg base CX0 (k + 1) f fd ["held", "groups", "ahead"] (spCnt K) := by
  refine F.ok scCnt (fun vs H Q E h => ?_) (fun cdv A outer s H vs Q E hr h => ?_)
  · obtain ⟨h, b, d, hk, gs, old, rfl, _⟩ := h
    rfl
  · obtain ⟨h, b, d, hk, gs, old, rfl, hH, hnd, hkl, ⟨vs, hB, rB⟩, hgl, ⟨akv, hd, ark⟩, q⟩ := h
    have hu := hu_of hr
    refine ⟨_, pss_cons (ps_set (i := 3) scCnt.nd rfl (.inl rfl) pe_dnewK)
      (pss_cons (ps_lock (ps_for PassesOwn.never rfl (pi_items (pv 0)) (pg_tup rfl (pgs_cons (pg_name (i := 4) scCnt.nd rfl (.inl rfl)) (pgs_cons (pg_name (i := 5) scCnt.nd rfl (.inr rfl)) pgs_nil)))
        (pss_one (ps_if (PW.pt (pw_and (pt_cmp (pc_din hu (pv 4) (pv 2))) (pw_and1 (pt_val (pe_callB (cr_any rfl) (by rfl) T.any (by decide +kernel) (pa_cons
          (pe_lc (own := [("records", 6)]) (g := gName 6) (tt := tYes) (te := tOp (rIn K false) (tVar 5) (tVar 6)) rfl scCnt.nd (pi_list (pv 1)) (blkOk_by (N := ["held", "groups", "ahead", "counting", "number", "record", "records"]) (sc := defScope sCnt) (by decide +kernel))
            (fun _ _ _ _ _ => pg_name (i := 6) scCnt.nd rfl (Or.inl rfl)) (fun _ _ _ _ _ => pts_nil) (fun _ _ _ _ _ => pe_cmpR op_in_seq (pv 5) (pv 6) (by rfl))) pa_nil))))))
          (pss_one (ps_dput hu (pv 3) (pv 4) (pv 5) rfl)) pss_nil))))
      (pss_one (ps_ret (pv 3)))), ?_⟩
    intro c nc
    have hch : c ≠ h := (ne_of_none hH nc).symm
    have s1 : Same H (upd H c (.dK [])) := same_upd nc
    refine ⟨h, _, s1 _ _ hH, trivial, fun od => ?_⟩
    refine ⟨_, rfl, h, od, heldD hk, rfl, upd_same, for_it walk_items (fun i σ H' => ∃ v4 v5, σ = [some (.ref h), some (.ref b), some (.ref d), some (.ref c), v4, v5, none] ∧ But h H H' ∧ H' h = some (.frz od (.dK (heldD hk))) ∧ H' c = some (.dK (heldD (counting old gs (hk.take i)))))
      ⟨none, none, rfl, fun x o e hx => by rw [upd_ne hx]; exact s1 _ _ e, upd_same, by rw [upd_ne hch, upd_same]; rfl⟩ (fun i σ H' _ ⟨_, _, _, _, z, _⟩ => z) ?_ ?_⟩
    · rintro i v σ H1 H2 hi ⟨v4, v5, rfl, hb, hl, hc⟩ ⟨Tp, a1, a2, rfl, nT, rfl, g1, g2⟩
      obtain ⟨p, e1, rfl, rfl⟩ := heldD_get g1 g2
      have hT : Same H1 (upd H1 Tp (.tup [V.int (p.1 : Int), V.int (p.2 : Int)])) := same_upd nT
      have hb2 := hb.same hT
      have hl2 := hT _ _ hl
      have hc2 := hT _ _ hc
      refine ⟨Tp, _, rfl, .of upd_same, rfl, _, _, rfl, _, _, rfl, rfl, ?_⟩
      generalize upd H1 Tp (.tup [V.int (p.1 : Int), V.int (p.2 : Int)]) = H3 at *
      have hcs := counting_snoc old gs (hk.take i) p
      rw [← take_more e1] at hcs
      refine ⟨_, rfl, _, rfl, d, _, rfl, DGet.rd (k := Sum.inl (p.1 : Int)) (hb2.rd hH hl2 hd), _, rfl, ?_⟩
      rw [ark.has]
      refine ite2 (fun c1 => ?_) (fun c1 => ?_)
      · have hB3 : SqL K H3 b vs := hb2.seqL hH hB
        refine ⟨_, rfl, b, rfl, ⟨_, hB3⟩, fun D hD => lc_list (K := K) (a := b) (xs := vs) (fun j H' => Same H3 H' ∧ H' D = some (.lst (((gs.take j).map fun g => g.contains p.2).map V.bl)))
          ⟨same_upd hD, upd_same⟩ (fun j H' _ z => z.1.seq hB3) ?_ ?_⟩
        · rintro j x H4 hj ⟨s4, h4⟩
          obtain ⟨g, a, hgj, rfl, ha⟩ := rB.get hj
          have hlt := lt_of_get hgj
          refine ⟨rfl, _, rfl, _, rfl, a, _, rfl, .inl (.of (s4 _ _ (hb2 _ _ ha (ne_of ha hH (by intro z; cases z))))), rfl, nl_flat _, ?_⟩
          rw [nl_in]
          refine ⟨_, h4, ?_, same_new s4 hD, ?_⟩
          · rw [List.length_map, List.length_map, List.length_take]
            exact small1000 (by omega)
          · rw [upd_same, take_more hgj, List.map_append, List.map_append]; rfl
        · rintro H4 ⟨s4, h4⟩
          rw [rB.len, List.take_length] at h4
          refine ⟨D, _, rfl, .of h4, _, rfl, ?_⟩
          have ea : ((gs.map fun g => g.contains p.2).any id) = gs.any fun g => g.contains p.2 := by rw [List.any_map]; rfl
          rw [ea]
          have hb4 := hb2.same s4
          have hl4 := s4 _ _ hl2
          have hc4 := s4 _ _ hc2
          refine ite2 (fun c2 => ?_) (fun c2 => ?_)
          · have hno : p.1 ∉ (counting old gs (hk.take i)).map (·.1) := fun z => by
              have hsub : p.1 ∈ (hk.take i).map (·.1) := by
                obtain ⟨y, hy, ey⟩ := List.mem_map.mp z
                exact List.mem_map.mpr ⟨y, (List.mem_filter.mp hy).1, ey⟩
              rw [split_get e1, List.map_append, List.map_cons] at hnd
              exact (List.nodup_append.mp hnd).2.2 _ hsub p.1 (by simp) rfl
            refine ⟨_, rfl, _, rfl, _, rfl, c, _, rfl, DPut.k (k := Sum.inl (p.1 : Int)) hc4 ?_, ?_⟩
            · rw [heldD_len]
              have h1 := List.length_filter_le (fun h : Nat × Nat => (old.any fun o => o.num == h.1) && gs.any fun g => g.contains h.2) (hk.take i)
              rw [List.length_take] at h1
              unfold counting
              exact small1000 (by omega)
            · refine ⟨_, _, rfl, fun x o e hx => ?_, ?_, ?_⟩
              · rw [upd_ne (ne_of_none e nc)]; exact hb4 x o e hx
              · rw [upd_ne hch.symm]; exact hl4
              · rw [upd_same, putK_new _ (heldD_none hno), hcs, if_pos (by rw [Bool.and_eq_true]; exact ⟨c1, c2⟩), heldD_app]; rfl
          · refine ⟨_, _, rfl, hb4, hl4, ?_⟩
            rw [hcs, if_neg (by rw [Bool.and_eq_true]; exact fun z => c2 z.2), List.append_nil]
            exact hc4
      · refine ⟨_, _, rfl, hb2, hl2, ?_⟩
        rw [hcs, if_neg (by rw [Bool.and_eq_true]; exact fun z => c1 z.1), List.append_nil]
        exact hc2
    · rintro σ H1 ⟨v4, v5, rfl, hb, hl, hc⟩
      refine ⟨hl, _, rfl, q _ c (hb.open hH) nc ?_⟩
      rw [upd_ne hch, hc, heldD_len, List.take_length]
end
end NK
namespace NK
open PySem PySem.Spec PyProof.Rows L2
section
variable {P : Program} {w : World} {K : PySem.W.Frag} {mg : Str → Option Value} {base : Heap}
/-! ### numbers_it_may_have -/
abbrev sMay : Stmt := topS 11
theorem scMay : FnScope ["records", "ahead", "counting", "held_to_it", "shared", "number", "record", "others"] ["records", "ahead", "counting"] (defScope sMay) := ⟨rfl, rfl, rfl, by decide +kernel, rfl, by decide +kernel, by decide +kernel⟩
def spMay (K : PySem.W.Frag) : Sp := fun vs H Q _ => ∃ (a d c : Addr) (g : List Nat) (old : Rl07.Round) (cs : Rl07.Holds) (n : Nat), vs = [.ref a, .ref d, .ref c] ∧ H a = some (.lst (nl g)) ∧ g.length ≤ 900 ∧ RoundAt H d old ∧ RoundOk n old ∧ H c = some (.dK (heldD cs)) ∧ cs.length ≤ 900 ∧
  ∀ H' p, Same H H' → H p = none → H' p = some (.lst (nl (mayC old cs g))) → Q (.ref p) H'
theorem ok_may {f : Addr} {fd : FuncData} {k : Nat} (F : Fun K "numbers_it_may_have" "numbers_it_may_have" sMay f fd) (T : Txt mg) (B : Def P w K mg base (k + 1) "how_many_in_both" ["records", "others"] (spBoth K)) : FnOk P w K mg base CX0 (k + 2) f fd ["records", "ahead", "counting"] (spMay K) := by
  obtain ⟨fb, fdb, mB, kB, bB, GB⟩ := B
  obtain ⟨tN, gN⟩ := T.new
  refine F.ok scMay (fun vs H Q E h => ?_) (fun cdv A outer s H vs Q E hr h => ?_)
  · obtain ⟨a, d, c, g, old, cs, n, rfl, _⟩ := h
    rfl
  · obtain ⟨a, d, c, g, old, cs, n, rfl, hA, hgl, ⟨kvs, hd, rk⟩, ok, hC, hcl, q⟩ := h
    have hu := hu_of hr
    refine ⟨_, pss_cons (ps_lock (ps_setLc (i := 3) (own := [("number", 5), ("record", 6)]) (g := gTup K 2 (gCons (gName 5) (gCons (gName 6) gNil))) (tt := tTest (tOp (rIn K false) (tVar 6) (tVar 0))) (te := tVar 5)
        rfl scMay.nd rfl rfl (sw_true rfl rfl rfl (by decide +kernel)) (pi_items (pv 2)) (blkOk_by (N := ["records", "ahead", "counting", "held_to_it", "shared", "number", "record", "others"]) (sc := defScope sMay) (by decide +kernel))
        (fun _ _ _ _ _ => pg_tup rfl (pgs_cons (pg_name (i := 5) scMay.nd rfl (.inl rfl)) (pgs_cons (pg_name (i := 6) scMay.nd rfl (.inl rfl)) pgs_nil)))
        (fun _ _ _ _ _ => pts_one (pt_cmpR op_in_seq (pv 6) (pv 0) (by rfl))) (fun _ _ _ _ _ => pv 5)))
      (pss_cons (ps_if (pt_cmpR op_gt (pe_callB call_len_seq (by rfl) T.len PySem.boot_len (pa_cons (pv 3) pa_nil)) pe_int (nomark _))
        (pss_one (ps_ret (pe_lst (pa_cons (pe_callB (cr_min rfl) (by rfl) T.min (by decide +kernel) (pa_cons (pv 3) pa_nil)) pa_nil)))) pss_nil)
      (pss_cons (ps_lock (ps_setLc (i := 4) (own := [("number", 5), ("others", 7)]) (g := gTup K 2 (gCons (gName 5) (gCons (gName 7) gNil))) (tt := tTest (tOp (rI0 fun i j => .bl (decide (j < i))) (tCall (spBoth K) [] E0 (tCons (tVar 0) (tCons (tVar 7) tNil))) (tC (.int 0)))) (te := tVar 5)
        rfl scMay.nd rfl rfl (sw_true rfl rfl rfl (by decide +kernel)) (pi_items (pv 1)) (blkOk_by (N := ["records", "ahead", "counting", "held_to_it", "shared", "number", "record", "others"]) (sc := defScope sMay) (by decide +kernel))
        (fun _ _ _ _ _ => pg_tup rfl (pgs_cons (pg_name (i := 5) scMay.nd rfl (.inl rfl)) (pgs_cons (pg_name (i := 7) scMay.nd rfl (.inl rfl)) pgs_nil)))
        (fun _ _ _ _ _ => pts_one (pt_cmpR op_gt (pe_call GB hr (by rfl) mB kB bB .nil pass0 (pa_cons (pv 0) (pa_cons (pv 7) pa_nil))) pe_int (nomark _))) (fun _ _ _ _ _ => pv 5)))
      (pss_one (ps_ret (pe_op op_cat (pe_callB cr_sortedI (by rfl) T.sorted (by decide +kernel) (pa_cons
        (pe_lc (own := [("number", 5)]) (g := gName 5) rfl scMay.nd (pi_list (pv 4)) (blkOk_by (N := ["records", "ahead", "counting", "held_to_it", "shared", "number", "record", "others"]) (sc := defScope sMay) (by decide +kernel))
          (fun _ _ _ _ _ => pg_name (i := 5) scMay.nd rfl (Or.inl rfl)) (fun _ _ _ _ _ => pts_one (pt_cmp (pc_dnotin hu (pv 5) (pv 2)))) (fun _ _ _ _ _ => pv 5)) pa_nil)) (pe_lst (pa_cons (pe_gi gN) pa_nil))))))), ?_⟩
    -- held_to_it
    have free : ∀ {H' : Hp} {x e : Addr} {z : HO}, (upd H' x z) e = none → H' x ≠ none → H' e = none ∧ e ≠ x := fun {H' x e z} h1 h2 => by
      have : e ≠ x := fun y => by rw [y, upd_same] at h1; cases h1
      rw [upd_ne this] at h1
      exact ⟨h1, this⟩
    refine ⟨c, _, hC, trivial, fun od => ?_⟩
    refine ⟨_, rfl, c, od, heldD cs, rfl, upd_same, fun D hD => ?_⟩
    obtain ⟨hDH, hDc⟩ := free hD (by rw [hC]; exact nofun)
    refine lc_it walk_items (fun i H' => But c H H' ∧ H' c = some (.frz od (.dK (heldD cs))) ∧ H' D = some (.lst (nl (heldToIt (cs.take i) g))))
      ⟨(But.lock c H _).same (same_upd hD), (same_upd hD) _ _ upd_same, upd_same⟩ (fun i H' _ z => z.2.1) ?_ ?_
    · rintro i v H1 H2 hi ⟨hb, hl, hp⟩ ⟨Tp, a1, a2, rfl, nT, rfl, g1, g2⟩
      obtain ⟨p, e1, rfl, rfl⟩ := heldD_get g1 g2
      have hlt := lt_of_get e1
      have hT : Same H1 (upd H1 Tp (.tup [V.int (p.1 : Int), V.int (p.2 : Int)])) := same_upd nT
      have hb2 := hb.same hT
      have hl2 := hT _ _ hl
      have hp2 := hT _ _ hp
      refine ⟨Tp, _, rfl, .of upd_same, rfl, _, _, rfl, _, _, rfl, rfl, rfl, ?_⟩
      generalize upd H1 Tp (.tup [V.int (p.1 : Int), V.int (p.2 : Int)]) = H3 at *
      refine ⟨_, rfl, _, rfl, a, _, rfl, .inl (hb2.seq hC hA), rfl, nl_flat _, _, rfl, ?_⟩
      show if inV (V.int (p.2 : Int)) (nl g) = true then _ else _
      rw [nl_in]
      have hpl : (heldToIt (cs.take i) g).length ≤ 900 := by
        unfold heldToIt
        rw [List.length_map]
        have := List.length_filter_le (fun h : Nat × Nat => g.contains h.2) (cs.take i)
        rw [List.length_take] at this
        omega
      refine ite2 (fun c1 => ?_) (fun c1 => ?_)
      · refine ⟨_, rfl, _, hp2, (by rw [nl_len]; exact small1000 (by omega)), fun x z e hx => ?_, ?_, ?_⟩
        · rw [upd_ne (ne_of_none e hDH)]
          exact hb2 _ _ e hx
        · rw [upd_ne hDc.symm]; exact hl2
        · rw [upd_same, take_more e1]
          unfold heldToIt
          rw [List.filter_append, List.filter_cons_of_pos (p := fun h : Nat × Nat => g.contains h.2) c1, List.filter_nil, List.map_append, nl_app]; rfl
      · refine ⟨hb2, hl2, ?_⟩
        rw [hp2, take_more e1]
        unfold heldToIt
        rw [List.filter_append, List.filter_cons_of_neg (p := fun h : Nat × Nat => g.contains h.2) c1, List.filter_nil, List.append_nil]
    rintro H1 ⟨hb, hl, hp⟩
    refine ⟨hl, ?_⟩
    rw [heldD_len, List.take_length] at hp
    have s1 : Same H (upd H1 c (.dK (heldD cs))) := hb.open hC
    have hp1 : (upd H1 c (.dK (heldD cs))) D = some (.lst (nl (heldToIt cs g))) := by rw [upd_ne hDc]; exact hp
    generalize upd H1 c (.dK (heldD cs)) = H2 at *
    -- if len(held_to_it) > 0
    refine ⟨_, rfl, D, _, rfl, .inl (.of hp1), _, _, rfl, rfl, _, rfl, ?_⟩
    rw [nl_len]
    refine iteD (fun c1 => ?_) (fun c1 => ?_)
    · refine ⟨_, rfl, D, (heldToIt cs g).map fun (n : Nat) => (n : Int), rfl, .of (by rw [hp1, nl_ints]), (by rw [List.length_map]; omega), fun m hm hle => ?_⟩
      obtain ⟨j, hj, rfl⟩ := List.mem_map.mp hm
      refine ⟨(by show 1 ≤ sizeLine; decide), fun p np => ?_⟩
      refine q _ p (s1.trans (same_upd np)) (s1.free np) ?_
      rw [upd_same, mayC_held hj fun y hy => by have := hle _ (List.mem_map.mpr ⟨y, hy, rfl⟩); omega]
      rfl
    have hnone : heldToIt cs g = [] := List.length_eq_zero_iff.mp (by omega)
    rw [mayC_none hnone] at q
    -- shared
    have hA2 := s1 _ _ hA
    have hd2 := s1 _ _ hd
    have rk2 := rk.keep (H' := H2) fun a xs e => s1 _ _ e
    have h6 := ok.2.2.few
    rw [List.length_map] at h6
    refine ⟨d, _, hd2, trivial, fun od2 => ?_⟩
    refine ⟨_, rfl, d, od2, kvs, rfl, upd_same, fun D2 hD2 => ?_⟩
    obtain ⟨hDH2, hDd⟩ := free hD2 (by rw [hd2]; exact nofun)
    refine lc_it walk_items (fun i H' => But d H2 H' ∧ H' d = some (.frz od2 (.dK kvs)) ∧ H' D2 = some (.lst (nl (shares (old.take i) g))))
      ⟨(But.lock d H2 _).same (same_upd hD2), (same_upd hD2) _ _ upd_same, upd_same⟩ (fun i H' _ z => z.2.1) ?_ ?_
    · rintro i v H3 H4 hi ⟨hb, hl, hp⟩ ⟨Tp, a1, a2, rfl, nT, rfl, g1, g2⟩
      obtain ⟨o, b, e1, rfl, rfl, e2⟩ := rk2.get' g1 g2
      have hT : Same H3 (upd H3 Tp (.tup [V.int (o.num : Int), V.ref b])) := same_upd nT
      have hb2 := hb.same hT
      have hl2 := hT _ _ hl
      have hp2 := hT _ _ hp
      refine ⟨Tp, _, rfl, .of upd_same, rfl, _, _, rfl, _, _, rfl, rfl, rfl, ?_⟩
      generalize upd H3 Tp (.tup [V.int (o.num : Int), V.ref b]) = H5 at *
      refine ⟨_, rfl, _, rfl, a, b, g, o.recs, rfl, hb2.seq hd2 hA2, hb2.seq hd2 e2, by omega, fun H6 s6 => ?_⟩
      have hpl : (shares (old.take i) g).length ≤ 6 := by
        unfold shares
        rw [List.length_map]
        have := List.length_filter_le (fun o : Rl07.Group => decide (0 < Rl07.common g o.recs)) (old.take i)
        rw [List.length_take] at this
        omega
      refine ⟨_, _, rfl, rfl, _, rfl, ?_⟩
      refine iteD (fun c2 => ?_) (fun c2 => ?_)
      · refine ⟨_, rfl, _, s6 _ _ hp2, (by rw [nl_len]; exact small1000 (by omega)), fun x z e hx => ?_, ?_, ?_⟩
        · rw [upd_ne (ne_of_none e hDH2)]
          exact s6 _ _ (hb2 _ _ e hx)
        · rw [upd_ne hDd.symm]; exact s6 _ _ hl2
        · have hc : decide (0 < Rl07.common g o.recs) = true := decide_eq_true (by omega)
          rw [upd_same, take_more e1]
          unfold shares
          rw [List.filter_append, List.filter_cons_of_pos (p := fun o : Rl07.Group => decide (0 < Rl07.common g o.recs)) hc, List.filter_nil, List.map_append, nl_app]; rfl
      · refine ⟨hb2.same s6, s6 _ _ hl2, ?_⟩
        have hc : ¬ decide (0 < Rl07.common g o.recs) = true := by rw [decide_eq_true_eq]; omega
        rw [s6 _ _ hp2, take_more e1]
        unfold shares
        rw [List.filter_append, List.filter_cons_of_neg (p := fun o : Rl07.Group => decide (0 < Rl07.common g o.recs)) hc, List.filter_nil, List.append_nil]
    rintro H3 ⟨hb3, hl3, hp3⟩
    refine ⟨hl3, ?_⟩
    rw [rk2.len, List.take_length] at hp3
    have s3 : Same H2 (upd H3 d (.dK kvs)) := hb3.open hd2
    have hp4 : (upd H3 d (.dK kvs)) D2 = some (.lst (nl (shares old g))) := by rw [upd_ne hDd]; exact hp3
    generalize upd H3 d (.dK kvs) = H4 at *
    have hC4 := s3 _ _ (s1 _ _ hC)
    have hshl : (shares old g).length ≤ 6 := by
      unfold shares
      rw [List.length_map]
      have := List.length_filter_le (fun o : Rl07.Group => decide (0 < Rl07.common g o.recs)) old
      omega
    -- [number for number in shared if number not in counting]
    refine ⟨_, rfl, D2, rfl, ⟨_, .of hp4⟩, fun D3 hD3 => lc_list (K := K) (a := D2) (xs := nl (shares old g)) (fun i H' => Same H4 H' ∧ H' D3 = some (.lst (nl (((shares old g).take i).filter fun n => !cs.any fun h => h.1 == n))))
      ⟨same_upd hD3, upd_same⟩ (fun i H' _ z => .of (z.1 _ _ hp4)) ?_ ?_⟩
    · rintro i x H5 hi ⟨s5, h5⟩
      obtain ⟨m, hm, rfl⟩ := nl_get hi
      have hlt := lt_of_get hm
      refine ⟨rfl, _, rfl, _, rfl, c, _, rfl, DGet.k (k := Sum.inl (m : Int)) (s5 _ _ hC4), _, rfl, ?_⟩
      rw [heldD_has]
      refine ite2 (fun c2 => ?_) (fun c2 => ?_)
      · refine ⟨_, rfl, _, h5, ?_, same_new s5 hD3, ?_⟩
        · rw [nl_len]
          have := List.length_filter_le (fun n => !cs.any fun h => h.1 == n) ((shares old g).take i)
          rw [List.length_take] at this
          exact small1000 (by omega)
        · rw [upd_same, take_more hm, List.filter_append, List.filter_cons_of_pos (p := fun n => !cs.any fun h => h.1 == n) c2, nl_app]; rfl
      · refine ⟨s5, ?_⟩
        rw [h5, take_more hm, List.filter_append, List.filter_cons_of_neg (p := fun n => !cs.any fun h => h.1 == n) c2, List.filter_nil, List.append_nil]
    rintro H5 ⟨s5, h5⟩
    rw [nl_len, List.take_length] at h5
    have h5' : H5 D3 = some (.lst (nl (openTo old cs g))) := h5
    have hond : (openTo old cs g).Nodup := by
      unfold openTo shares
      exact (ok.1.sublist (List.Sublist.map _ List.filter_sublist)).sublist List.filter_sublist
    have hol : (openTo old cs g).length ≤ 6 := by
      unfold openTo
      have := List.length_filter_le (fun n => !cs.any fun h => h.1 == n) (shares old g)
      omega
    rw [nl_ints] at h5'
    refine ⟨D3, _, rfl, .of h5', fun ys p2 hperm hsort n2 => ?_⟩
    rw [sorted_rising hond hperm hsort, ← nl_ints]
    have s6 := same_upd (o := .lst (nl (Rl07.rising (openTo old cs g)))) n2
    have f6 : (upd H5 p2 (.lst (nl (Rl07.rising (openTo old cs g))))) p2 = some _ := upd_same
    generalize upd H5 p2 (.lst (nl (Rl07.rising (openTo old cs g)))) = H6 at *
    refine ⟨(by show 1 ≤ sizeLine; decide), fun p3 n3 => ?_⟩
    have s7 := same_upd (o := .lst [V.int 0]) n3
    refine ⟨p2, p3, _, _, rfl, rfl, s7 _ _ f6, upd_same, ?_, fun p4 n4 => ?_⟩
    · rw [nl_len, (rising_perm hond).length_eq]; exact Nat.le_of_lt (small1000 (by show _ + 1 ≤ 1000; omega))
    · have sA : Same H H5 := s1.trans (s3.trans s5)
      refine q _ p4 (sA.trans (s6.trans (s7.trans (same_upd n4)))) (sA.free (s6.free (s7.free n4))) ?_
      rw [upd_same, nl_app]; rfl
end
end NK
namespace NK
open PySem PySem.Spec PyProof.Rows L2
theorem bestBy_snoc {α : Type} (f : α → Nat) (w : α) (l : List α) (x : α) : bestBy f w (l ++ [x]) = if f (bestBy f w l) < f x then x else bestBy f w l := by
  unfold bestBy
  rw [List.foldl_append]; rfl
section
variable {P : Program} {w : World} {K : PySem.W.Frag} {mg : Str → Option Value} {base : Heap}
abbrev sBest : Stmt := topS 14
theorem scBest : FnScope ["groups", "ahead", "held", "counting", "ways", "best", "way", "records"] ["groups", "ahead", "held"] (defScope sBest) := ⟨rfl, rfl, rfl, by decide +kernel, rfl, by decide +kernel, by decide +kernel⟩
def spBest (K : PySem.W.Frag) : Sp := fun vs H Q _ => ∃ (b d h : Addr) (gs : List (List Nat)) (old : Rl07.Round) (n : Nat) (hk hs : Rl07.Holds), vs = [.ref b, .ref d, .ref h] ∧ RowsAt K H b gs ∧ Groups gs ∧ RoundAt H d old ∧ RoundOk n old ∧ H h = some (.dK (heldD hk)) ∧ hk.Perm hs ∧ (hs.map (·.1)).Nodup ∧ hk.length ≤ 900 ∧
  ∀ H' p, Same H H' → H' p = some (.lst (nl ((Rl07.best old hs gs).map enc))) → Q (.ref p) H'
theorem ok_best {f : Addr} {fd : FuncData} {k : Nat} (F : Fun K "best_way" "best_way" sBest f fd) (N : Def P w K mg base (k + 2) "those_that_count" ["held", "groups", "ahead"] (spCnt K)) (M : Def P w K mg base (k + 2) "numbers_it_may_have" ["records", "ahead", "counting"] (spMay K)) (W : Def P w K mg base (k + 2) "ways_to_give" ["choices"] (spWays K))
    (Kp : Def P w K mg base (k + 2) "how_many_keep_theirs" ["way", "groups", "ahead"] (spKeep K)) : FnOk P w K mg base CX0 (k + 3) f fd ["groups", "ahead", "held"] (spBest K) := by
  obtain ⟨fn, fdn, mN, kN, bN, GN⟩ := N
  obtain ⟨fm, fdm, mM, kM, bM, GM⟩ := M
  obtain ⟨fw, fdw, mW, kW, bW, GW⟩ := W
  obtain ⟨fk, fdk, mK, kK, bK, GK⟩ := Kp
  refine F.ok scBest (fun vs H Q E h => ?_) (fun cdv A outer s H vs Q E hr h => ?_)
  · obtain ⟨b, d, h, gs, old, n, hk, hs, rfl, _⟩ := h
    rfl
  · obtain ⟨b, d, h, gs, old, n, hk, hs, rfl, ⟨vs, hB, rB⟩, hg, hd, ok, hH, hpm, hsn, hkl, q⟩ := h
    refine ⟨_, pss_cons (ps_set (i := 3) scBest.nd rfl (.inr rfl) (pe_call GN hr (by rfl) mN kN bN .nil pass0 (pa_cons (pv 2) (pa_cons (pv 0) (pa_cons (pv 1) pa_nil)))))
      (pss_cons (ps_set (i := 4) scBest.nd rfl (.inl rfl) (pe_call GW hr (by rfl) mW kW bW .nil pass0 (pa_cons
        (pe_lc (own := [("records", 7)]) (g := gName 7) (tt := tYes) (te := tCall (spMay K) [] E0 (tCons (tVar 7) (tCons (tVar 1) (tCons (tVar 3) tNil)))) rfl scBest.nd (pi_list (pv 0)) (blkOk_by (N := ["groups", "ahead", "held", "counting", "ways", "best", "way", "records"]) (sc := defScope sBest) (by decide +kernel))
          (fun _ _ _ _ _ => pg_name (i := 7) scBest.nd rfl (Or.inl rfl)) (fun _ _ _ _ _ => pts_nil) (fun _ _ _ _ _ => pe_call GM hr (by rfl) mM kM bM .nil pass0 (pa_cons (pv 7) (pa_cons (pv 1) (pa_cons (pv 3) pa_nil))))) pa_nil)))
      (pss_cons (ps_set (i := 5) scBest.nd rfl (.inl rfl) (pe_ix ix_list (pv 4) pe_int (fun _ _ => rfl)))
      (pss_cons (ps_for PassesOwn.never rfl (pi_list (pv 4)) (pg_name (i := 6) scBest.nd rfl (.inl rfl))
        (pss_one (ps_if (pt_cmpR op_gt (pe_call GK hr (by rfl) mK kK bK .nil pass0 (pa_cons (pv 6) (pa_cons (pv 0) (pa_cons (pv 1) pa_nil)))) (pe_call GK hr (by rfl) mK kK bK .nil pass0 (pa_cons (pv 5) (pa_cons (pv 0) (pa_cons (pv 1) pa_nil)))) (nomark _))
          (pss_one (ps_set (i := 5) scBest.nd rfl (.inl rfl) (pv 6))) pss_nil)))
      (pss_one (ps_ret (pv 5)))))), ?_⟩
    have h6 := hg.few
    have hlen : ∀ g ∈ gs, g.length ≤ 8 := fun g hm => by
      have h1 := hg.size
      have : g.length ≤ gs.flatten.length := by
        obtain ⟨i, hi, e⟩ := List.getElem_of_mem hm
        have := split_get (l := gs) (i := i) (x := g) (by rw [List.getElem?_eq_getElem hi, e])
        rw [this, List.flatten_append, List.flatten_cons, List.length_append, List.length_append]
        omega
      omega
    have hkn : (hk.map (·.1)).Nodup := (hpm.map _).nodup_iff.mpr hsn
    refine ⟨_, rfl, _, rfl, _, rfl, h, b, d, hk, gs, old, rfl, hH, hkn, hkl, ⟨vs, hB, rB⟩, by omega, hd, fun H0 c s0 n0 hc0 => ?_⟩
    have hcl : (counting old gs hk).length ≤ 900 := by
      unfold counting
      have := List.length_filter_le (fun h : Nat × Nat => (old.any fun o => o.num == h.1) && gs.any fun g => g.contains h.2) hk
      omega
    have hB0 := s0.seq hB
    have rB0 := rB.keep s0
    have hd0 := hd.keep s0
    refine ⟨_, rfl, b, rfl, ⟨_, hB0⟩, fun D hD => lc_list (K := K) (a := b) (xs := vs) (fun i H' => Same H0 H' ∧ ∃ us, H' D = some (.lst us) ∧ Rows H' ((gs.take i).map (mayC old (counting old gs hk))) us ∧ V.ref D ∉ us)
      ⟨same_upd hD, [], upd_same, .nil, by simp⟩ (fun i H' _ z => z.1.seq hB0) ?_ ?_⟩
    · rintro i x H1 hi ⟨s1, us, hu1, rU, hnu⟩
      obtain ⟨g, a, hgi, rfl, ha⟩ := rB0.get hi
      have hgm := List.mem_of_getElem? hgi
      refine ⟨rfl, ?_⟩
      refine ⟨_, rfl, _, rfl, _, rfl, a, d, c, g, old, _, n, rfl, s1 _ _ ha, by have := hlen g hgm; omega, hd0.keep s1, ok, s1 _ _ hc0, hcl, fun H2 p s2 n2 h2 => ?_⟩
      refine ⟨us, s2 _ _ hu1, ?_, same_new (s1.trans s2) hD, us ++ [.ref p], upd_same, ?_, ?_⟩
      · rw [rU.len, List.length_map, List.length_take]
        exact small1000 (by omega)
      · have hpD : p ≠ D := (ne_of_none hu1 n2).symm
        rw [take_more hgi, List.map_append]
        refine Rows.snoc (by rw [upd_ne hpD]; exact h2) (rU.keepB fun c hc => ?_)
        have hcD : c ≠ D := fun z => hnu (z ▸ hc)
        obtain ⟨o, ho⟩ := rU.at hc
        rw [upd_ne hcD, ho]
        exact s2 _ _ ho
      · intro z
        rcases List.mem_append.mp z with z | z
        · exact hnu z
        · have : V.ref D = V.ref p := by simpa using z
          exact (ne_of_none hu1 n2) (V.ref.inj this)
    rintro H1 ⟨s01, us, hu1, rU, hnu⟩
    have s1 := s0.trans s01
    rw [rB.len, List.take_length] at rU
    have ecs : gs.map (mayC old (counting old gs hk)) = gs.map fun g => (Rl07.mayHave old hs gs g).map enc := List.map_congr_left fun g hm => mayC_eq ok (fun x => hpm.mem_iff) hm (hg.nodup g hm)
    rw [ecs] at rU
    refine ⟨D, _, rfl, ⟨us, .of hu1, rU⟩, by rw [List.length_map]; exact h6, fun x hx => ?_, fun H2 pw s2 hW => ?_⟩
    · obtain ⟨g, _, rfl⟩ := List.mem_map.mp hx
      rw [List.length_map]
      exact mayHave_len ok hs gs g
    obtain ⟨w0, wl, ew, eb⟩ := best_code ok hsn hg
    have hway : ∀ x ∈ w0 :: wl, x.length = gs.length := fun x hx => by
      rw [← ew] at hx
      have := allWays_way _ [[]] 0 (by simp) x hx
      rw [this, List.length_map, Nat.zero_add]
    rw [ew] at hW
    obtain ⟨ws, hWs, rW⟩ := hW
    have sH2 := s1.trans s2
    obtain ⟨v0, e0⟩ : ∃ v0, ws[0]? = some v0 := by
      cases rW with
      | cons h r => exact ⟨_, rfl⟩
    obtain ⟨g0, a0, e1, rfl, ha0⟩ := rW.get e0
    have eg0 : g0 = w0 := (Option.some.inj e1).symm
    subst eg0
    refine ⟨_, rfl, pw, _, _, .ref a0, rfl, rfl, hWs, atI_nat (j := 0) e0, ?_⟩
    refine ⟨_, rfl, pw, rfl, ⟨_, hWs⟩, for_list (K := K) (a := pw) (xs := ws) (fun i σ H' => ∃ ab v4, σ = [some (.ref b), some (.ref d), some (.ref h), some (.ref c), some (.ref pw), some (.ref ab), v4, none] ∧ Same H2 H' ∧ H' ab = some (.lst (nl (bestBy (keptC old gs) g0 ((g0 :: wl).take i)))))
      ⟨a0, none, rfl, Same.refl H2, ha0⟩ (fun i σ H' _ ⟨_, _, _, sm, _⟩ => sm.seq hWs) ?_ ?_⟩
    · rintro i x σ H3 hi ⟨ab, v4, rfl, s3, hab⟩
      obtain ⟨wy, ay, hwy, rfl, hay⟩ := rW.get hi
      have hbm : bestBy (keptC old gs) g0 ((g0 :: wl).take i) ∈ g0 :: wl := by
        rcases bestBy_mem (keptC old gs) ((g0 :: wl).take i) g0 with z | z
        · rw [z]; simp
        · exact List.mem_of_mem_take z
      have sH3 := sH2.trans s3
      have hgr : ∀ H', Same H H' → RowsAt K H' b gs := fun H' z => ⟨vs, z.seq hB, rB.keep z⟩
      have hg1000 : ∀ g ∈ gs, g.length ≤ 1000 := fun g hm => by have := hlen g hm; omega
      refine ⟨_, rfl, _, rfl, _, rfl, ay, b, d, wy, gs, old, rfl, .of (s3 _ _ hay), hgr _ sH3, hd.keep sH3, hway _ (List.mem_of_getElem? hwy), by omega, hg1000, fun H4 s4 => ?_⟩
      refine ⟨_, rfl, _, rfl, _, rfl, ab, b, d, _, gs, old, rfl, .of (s4 _ _ hab), hgr _ (sH3.trans s4), hd.keep (sH3.trans s4), hway _ hbm, by omega, hg1000, fun H5 s5 => ?_⟩
      refine ⟨_, _, rfl, rfl, _, rfl, ?_⟩
      have s35 := s3.trans (s4.trans s5)
      refine iteD (fun c => ?_) (fun c => ?_)
      · refine ⟨_, rfl, ?_⟩
        refine ⟨ay, some (.ref ay), rfl, s35, ?_⟩
        rw [take_more hwy, bestBy_snoc, if_pos (by omega)]
        exact s35 _ _ hay
      · refine ⟨ab, some (.ref ay), rfl, s35, ?_⟩
        rw [take_more hwy, bestBy_snoc, if_neg (by omega)]
        exact s5 _ _ (s4 _ _ hab)
    · rintro σ H3 ⟨ab, v4, rfl, s3, hab⟩
      rw [rW.len, List.take_length, bestBy_self, eb] at hab
      exact ⟨_, rfl, q _ ab (sH2.trans s3) hab⟩
end
end NK
namespace NK
open PySem PySem.Spec PyProof.Rows L2
/-! ### fields -/
theorem lk_here {k : Str} {v : V} {r : List (Str × V)} : List.lookup k ((k, v) :: r) = some v := by
  have e : (k == k) = true := beq_self_eq_true k
  simp only [List.lookup, e]
theorem lk_past {k g : Str} {v : V} {r : List (Str × V)} (h : (k == g) = false) : List.lookup k ((g, v) :: r) = List.lookup k r := by
  simp only [List.lookup, h]
theorem put_here {f : Str} {v x : V} {r : List (Str × V)} : putF f v ((f, x) :: r) = (f, v) :: r := if_pos rfl
theorem put_past {f g : Str} {v x : V} {r : List (Str × V)} (h : ¬ g = f) : putF f v ((g, x) :: r) = (g, x) :: putF f v r := if_neg h
theorem upd_none {H : Hp} {x e : Addr} {z : HO} (h : (upd H x z) e = none) : e ≠ x ∧ H e = none := by
  have : e ≠ x := fun y => by rw [y, upd_same] at h; cases h
  rw [upd_ne this] at h
  exact ⟨this, h⟩
def flds (pr pl ph : Addr) (n : Int) : List (Str × V) := [("rounds", .ref pr), ("led", .ref pl), ("held", .ref ph), ("next_number", .int n)]
theorem fl_rounds {pr pl ph : Addr} {n : Int} : (flds pr pl ph n).lookup ("rounds" : Str) = some (.ref pr) := lk_here
theorem fl_led {pr pl ph : Addr} {n : Int} : (flds pr pl ph n).lookup ("led" : Str) = some (.ref pl) := (lk_past (by decide +kernel)).trans lk_here
theorem fl_held {pr pl ph : Addr} {n : Int} : (flds pr pl ph n).lookup ("held" : Str) = some (.ref ph) := (lk_past (by decide +kernel)).trans ((lk_past (by decide +kernel)).trans lk_here)
theorem fl_next {pr pl ph : Addr} {n : Int} : (flds pr pl ph n).lookup ("next_number" : Str) = some (.int n) := (lk_past (by decide +kernel)).trans ((lk_past (by decide +kernel)).trans ((lk_past (by decide +kernel)).trans lk_here))
theorem fl_no {pr pl ph : Addr} {n : Int} {m : Str} (h : (m == ("rounds" : Str)) = false ∧ (m == ("led" : Str)) = false ∧ (m == ("held" : Str)) = false ∧ (m == ("next_number" : Str)) = false) : (flds pr pl ph n).lookup m = none :=
  (lk_past h.1).trans ((lk_past h.2.1).trans ((lk_past h.2.2.1).trans ((lk_past h.2.2.2).trans rfl)))
theorem fl_put {pr pl ph : Addr} {n m : Int} : putF "next_number" (.int m) (flds pr pl ph n) = flds pr pl ph m := (put_past (by decide +kernel)).trans (congrArg _ ((put_past (by decide +kernel)).trans (congrArg _ ((put_past (by decide +kernel)).trans (congrArg _ put_here)))))
theorem fl_new {fs : List (Str × V)} (h : fs = [] ∨ ∃ pr pl ph n, fs = flds pr pl ph n) (pr pl ph : Addr) (n : Int) : putF "next_number" (.int n) (putF "held" (.ref ph) (putF "led" (.ref pl) (putF "rounds" (.ref pr) fs))) = flds pr pl ph n := by
  rcases h with rfl | ⟨a, b, b2, c, rfl⟩
  · have e1 : putF "rounds" (.ref pr) ([] : List (Str × V)) = [(("rounds" : Str), V.ref pr)] := rfl
    have e2 : putF "led" (.ref pl) [(("rounds" : Str), V.ref pr)] = [(("rounds" : Str), V.ref pr), ("led", V.ref pl)] := (put_past (by decide +kernel)).trans rfl
    have e3 : putF "held" (.ref ph) [(("rounds" : Str), V.ref pr), ("led", V.ref pl)] = [(("rounds" : Str), V.ref pr), ("led", V.ref pl), ("held", V.ref ph)] := (put_past (by decide +kernel)).trans (congrArg _ ((put_past (by decide +kernel)).trans rfl))
    rw [e1, e2, e3]
    exact (put_past (by decide +kernel)).trans (congrArg _ ((put_past (by decide +kernel)).trans (congrArg _ ((put_past (by decide +kernel)).trans rfl))))
  · have e1 : putF "rounds" (.ref pr) (flds a b b2 c) = flds pr b b2 c := put_here
    have e2 : putF "led" (.ref pl) (flds pr b b2 c) = flds pr pl b2 c := (put_past (by decide +kernel)).trans (congrArg _ put_here)
    have e3 : putF "held" (.ref ph) (flds pr pl b2 c) = flds pr pl ph c := (put_past (by decide +kernel)).trans (congrArg _ ((put_past (by decide +kernel)).trans (congrArg _ put_here)))
    rw [e1, e2, e3, fl_put]
theorem fl_len {pr pl ph : Addr} {n : Int} : (flds pr pl ph n).length = 4 := rfl
/-! ### the desk in the heap -/
/-- the heap without some objects -/
def minus (H : Hp) (own : List Addr) : Hp := fun b => if b ∈ own then none else H b
theorem minus_in {H : Hp} {own : List Addr} {b : Addr} (h : b ∈ own) : minus H own b = none := if_pos h
theorem minus_out {H : Hp} {own : List Addr} {b : Addr} (h : b ∉ own) : minus H own b = H b := if_neg h
theorem minus_same (H : Hp) (own : List Addr) : Same (minus H own) H := fun b o e => by
  by_cases h : b ∈ own
  · rw [minus_in h] at e; cases e
  · rw [minus_out h] at e; exact e
/-- what is not one's own stands -/
def Frm (own : List Addr) (H H' : Hp) : Prop := ∀ b o, H b = some o → b ∉ own → H' b = some o
theorem Frm.of_same {own : List Addr} {H H' : Hp} (s : Same H H') : Frm own H H' := fun b o e _ => s b o e
theorem Frm.minus {own : List Addr} {H H' : Hp} (f : Frm own H H') : Same (minus H own) (minus H' own) := fun b o e => by
  by_cases h : b ∈ own
  · rw [minus_in h] at e; cases e
  · rw [minus_out h] at e ⊢; exact f b o e h
inductive RdsAt (H : Hp) : List Rl07.Round → List Addr → Prop
  | nil : RdsAt H [] []
  | cons {r : Rl07.Round} {a : Addr} {rs : List Rl07.Round} {as : List Addr} : RoundAt H a r → RdsAt H rs as → RdsAt H (r :: rs) (a :: as)
theorem RdsAt.keep {H H' : Hp} (s : Same H H') : ∀ {rs as}, RdsAt H rs as → RdsAt H' rs as
  | _, _, .nil => .nil
  | _, _, .cons h r => .cons (h.keep s) (r.keep s)
theorem RdsAt.len {H : Hp} : ∀ {rs as}, RdsAt H rs as → as.length = rs.length
  | _, _, .nil => rfl
  | _, _, .cons _ r => by rw [List.length_cons, List.length_cons, r.len]
theorem RdsAt.get {H : Hp} : ∀ {rs as}, RdsAt H rs as → ∀ {i : Nat} {r : Rl07.Round}, rs[i]? = some r → ∃ a, as[i]? = some a ∧ RoundAt H a r
  | _, _, .nil, i, r, h => by simp at h
  | _, _, .cons h _, 0, r, e => ⟨_, rfl, by rw [← Option.some.inj e]; exact h⟩
  | _, _, .cons _ k, i + 1, r, e => k.get (i := i) e
theorem RdsAt.snoc {H : Hp} {r : Rl07.Round} {a : Addr} (h : RoundAt H a r) : ∀ {rs as}, RdsAt H rs as → RdsAt H (rs ++ [r]) (as ++ [a])
  | _, _, .nil => .cons h .nil
  | _, _, .cons h' k => .cons h' (k.snoc h)
def ledD (es : List (Nat × (Nat × Nat))) : List (Key × V) := es.map fun e => (Sum.inl (e.1 : Int), V.int (e.2.2 : Int))
structure DeskAt (C : Addr) (H : Hp) (p : Addr) (s : Rl07.St) (own av : List Addr) (dx pr pl ph : Addr) (as : List Addr) (hk : Rl07.Holds) : Prop where
  mine : own = [p, pr, pl, ph]
  ob : H p = some (.ins C dx (flds pr pl ph (s.next : Int)))
  rl : H pr = some (.lst (as.map V.ref))
  rs : RdsAt (minus H (own ++ av)) s.rounds.reverse as
  ld : H pl = some (.dK (ledD s.ended))
  hd : H ph = some (.dK (heldD hk))
  pm : hk.Perm s.holds
  two : pl ≠ ph
  aw : ∀ b ∈ av, b ∉ own ∧ ∃ o, H b = some o
def Desk (C : Addr) (H : Hp) (p : Addr) (s : Rl07.St) (own av : List Addr) : Prop := ∃ dx pr pl ph as hk, DeskAt C H p s own av dx pr pl ph as hk
section
variable {C : Addr} {H : Hp} {p : Addr} {s : Rl07.St} {own av : List Addr} {dx pr pl ph : Addr} {as : List Addr} {hk : Rl07.Holds}
theorem DeskAt.keep {H' : Hp} (d : DeskAt C H p s own av dx pr pl ph as hk) (k : Same H H') : DeskAt C H' p s own av dx pr pl ph as hk :=
  ⟨d.mine, k _ _ d.ob, k _ _ d.rl, d.rs.keep (Frm.of_same k).minus, k _ _ d.ld, k _ _ d.hd, d.pm, d.two, fun b hb => ⟨(d.aw b hb).1, let ⟨o, ho⟩ := (d.aw b hb).2; ⟨o, k _ _ ho⟩⟩⟩
theorem DeskAt.out (d : DeskAt C H p s own av dx pr pl ph as hk) {b : Addr} (h : H b = none) : b ∉ own := by
  rw [d.mine]
  intro z
  simp only [List.mem_cons, List.not_mem_nil, or_false] at z
  rcases z with z | z | z | z
  · rw [z, d.ob] at h; cases h
  · rw [z, d.rl] at h; cases h
  · rw [z, d.ld] at h; cases h
  · rw [z, d.hd] at h; cases h
theorem DeskAt.out2 (d : DeskAt C H p s own av dx pr pl ph as hk) {b : Addr} (h : H b = none) : b ∉ own ++ av := fun z => by
  rcases List.mem_append.mp z with z | z
  · exact d.out h z
  · obtain ⟨o, ho⟩ := (d.aw b z).2
    rw [ho] at h; cases h
theorem DeskAt.len (d : DeskAt C H p s own av dx pr pl ph as hk) : as.length = s.rounds.length := by rw [d.rs.len, List.length_reverse]
end
/-- what the class is -/
structure CTxt (K : PySem.W.Frag) (C : Addr) : Prop where
  cl : Cls K C
  nR : NoAttr K C "rounds"
  nL : NoAttr K C "led"
  nH : NoAttr K C "held"
  nN : NoAttr K C "next_number"
/-- a method that keeps its promise -/
def MDef (P : Program) (w : World) (K : PySem.W.Frag) (mg : Str → Option Value) (base : Heap) (C : Addr) (k : Nat) (m : Str) (ps : List Str) (sp : Sp) : Prop :=
  ∃ f fd, Meth K C m f ∧ Binds K fd ps [] ∧ FnOk P w K mg base CX0 k f fd ps sp
section
variable {P : Program} {w : World} {K : PySem.W.Frag} {mg : Str → Option Value} {base : Heap} {C : Addr}
abbrev sCls : Stmt := topS 32
/-! ### begin -/
abbrev sBegin : Stmt := inClass sCls 1
theorem scBegin : FnScope ["self"] ["self"] (defScope sBegin) := ⟨rfl, rfl, rfl, by decide +kernel, rfl, by decide +kernel, by decide +kernel⟩
def spBegin (C : Addr) : Sp := fun vs H Q _ => ∃ (p dx : Addr) (fs : List (Str × V)), vs = [.ref p] ∧ H p = some (.ins C dx fs) ∧ (fs = [] ∨ ∃ pr pl ph n, fs = flds pr pl ph n) ∧
  ∀ H' q own, (∀ av : List Addr, (∀ b ∈ av, b ≠ p ∧ ∃ o, H b = some o) → Desk C H' p Rl07.init own av) → (∀ b o, H b = some o → b ≠ p → H' b = some o) → (∀ b ∈ own, b = p ∨ H b = none) → H q = none → H' q = some (.lst [.int 0]) → Q (.ref q) H'
theorem ok_begin {f : Addr} {fd : FuncData} {k : Nat} (F : Fun K "begin" "Desk.begin" sBegin f fd) (T : CTxt K C) : FnOk P w K mg base CX0 (k + 1) f fd ["self"] (spBegin C) := by
  refine F.ok scBegin (fun vs H Q E h => ?_) (fun cdv A outer s H vs Q E hr h => ?_)
  · obtain ⟨p, dx, fs, rfl, _⟩ := h
    rfl
  · obtain ⟨p, dx, fs, rfl, hp, hfs, q⟩ := h
    refine ⟨_, pss_cons (ps_fld (pv 0) (pe_lst pa_nil) rfl) (pss_cons (ps_fld (pv 0) pe_dnewK rfl) (pss_cons (ps_fld (pv 0) pe_dnewK rfl) (pss_cons (ps_fld (pv 0) pe_int rfl) (pss_one (ps_ret (pe_lst (pa_cons pe_int pa_nil))))))), ?_⟩
    have hfl : fs.length ≤ 4 := by rcases hfs with rfl | ⟨_, _, _, _, rfl⟩ <;> simp [flds]
    have pl1 : ∀ (f : Str) (v : V) (l : List (Str × V)), (putF f v l).length ≤ l.length + 1 := by
      intro f v l
      induction l with
      | nil => exact Nat.le_refl _
      | cons x l ih =>
        show (if x.1 = f then _ else _ : List (Str × V)).length ≤ _
        by_cases c : x.1 = f
        · rw [if_pos c]; simp
        · rw [if_neg c, List.length_cons, List.length_cons]; omega
    refine ⟨Nat.zero_le _, fun pr nr => ?_⟩
    have n1 : p ≠ pr := ne_of_none hp nr
    refine ⟨_, rfl, p, C, dx, fs, rfl, (by rw [upd_ne n1]; exact hp), T.cl, T.nR, (by omega), ?_⟩
    intro pl nl'
    obtain ⟨n2, nl1⟩ := upd_none nl'
    obtain ⟨n3, nlH⟩ := upd_none nl1
    have l1 := pl1 "rounds" (.ref pr) fs
    have l2 := pl1 "led" (.ref pl) (putF "rounds" (.ref pr) fs)
    refine ⟨_, rfl, p, C, dx, _, rfl, (by rw [upd_ne n2.symm, upd_same]), T.cl, T.nL, (by omega), ?_⟩
    intro ph nh'
    obtain ⟨k1, nh1⟩ := upd_none nh'
    obtain ⟨k2, nh2⟩ := upd_none nh1
    obtain ⟨_, nh3⟩ := upd_none nh2
    obtain ⟨k3, nhH⟩ := upd_none nh3
    have l3 := pl1 "held" (.ref ph) (putF "led" (.ref pl) (putF "rounds" (.ref pr) fs))
    refine ⟨_, rfl, p, C, dx, _, rfl, (by rw [upd_ne k1.symm, upd_same]), T.cl, T.nH, (by omega), ?_⟩
    refine ⟨_, rfl, p, C, dx, _, rfl, upd_same, T.cl, T.nN, (by omega), ?_⟩
    rw [fl_new hfs]
    refine ⟨(by show 1 ≤ sizeLine; decide), fun pq nq => ?_⟩
    obtain ⟨m1, nq⟩ := upd_none nq
    obtain ⟨_, nq⟩ := upd_none nq
    obtain ⟨m4, nq⟩ := upd_none nq
    obtain ⟨_, nq⟩ := upd_none nq
    obtain ⟨m2, nq⟩ := upd_none nq
    obtain ⟨_, nq⟩ := upd_none nq
    obtain ⟨m3, nq⟩ := upd_none nq
    have frm : ∀ b o, H b = some o → b ≠ p → _ := fun b o e hb => by
      have : (upd (upd (upd (upd (upd (upd (upd (upd H pr (.lst [])) p (.ins C dx (putF "rounds" (.ref pr) fs))) pl (.dK [])) p (.ins C dx (putF "led" (.ref pl) (putF "rounds" (.ref pr) fs)))) ph (.dK [])) p (.ins C dx (putF "held" (.ref ph) (putF "led" (.ref pl) (putF "rounds" (.ref pr) fs))))) p (.ins C dx (flds pr pl ph 1))) pq (.lst [.int 0])) b = some o := by
        rw [upd_ne (ne_of_none e nq), upd_ne hb, upd_ne hb, upd_ne (ne_of_none e nhH), upd_ne hb, upd_ne (ne_of_none e nlH), upd_ne hb, upd_ne (ne_of_none e nr)]
        exact e
      exact this
    refine q _ pq [p, pr, pl, ph] (fun av hav => ⟨dx, pr, pl, ph, [], [], rfl, ?_, ?_, .nil, ?_, ?_, .refl _, k2.symm, fun b hb => ⟨fun z => ?_, ?_⟩⟩) frm ?_ nq upd_same
    · rw [upd_ne m1.symm, upd_same]; rfl
    · rw [upd_ne m3.symm, upd_ne n1.symm, upd_ne n1.symm, upd_ne k3.symm, upd_ne n1.symm, upd_ne n3.symm, upd_ne n1.symm, upd_same]; rfl
    · rw [upd_ne m2.symm, upd_ne n2, upd_ne n2, upd_ne k2.symm, upd_ne n2, upd_same]; rfl
    · rw [upd_ne m4.symm, upd_ne k1, upd_ne k1, upd_same]; rfl
    · obtain ⟨h1, o, h2⟩ := hav b hb
      simp only [List.mem_cons, List.not_mem_nil, or_false] at z
      rcases z with z | z | z | z
      · exact h1 z
      · rw [z, nr] at h2; cases h2
      · rw [z, nlH] at h2; cases h2
      · rw [z, nhH] at h2; cases h2
    · obtain ⟨h1, o, h2⟩ := hav b hb
      exact ⟨o, frm b o h2 h1⟩
    · intro b hb
      simp only [List.mem_cons, List.not_mem_nil, or_false] at hb
      rcases hb with z | z | z | z
      · exact .inl z
      · rw [z]; exact .inr nr
      · rw [z]; exact .inr nlH
      · rw [z]; exact .inr nhH
/-! ### __init__ -/
abbrev sInit : Stmt := inClass sCls 0
theorem scInit : FnScope ["self"] ["self"] (defScope sInit) := ⟨rfl, rfl, rfl, by decide +kernel, rfl, by decide +kernel, by decide +kernel⟩
def spInit (C : Addr) : Sp := fun vs H Q _ => ∃ (p dx : Addr), vs = [.ref p] ∧ H p = some (.ins C dx []) ∧
  ∀ H' own, Desk C H' p Rl07.init own [] → (∀ b o, H b = some o → b ≠ p → H' b = some o) → (∀ b ∈ own, b = p ∨ H b = none) → Q .non H'
theorem ok_init {f : Addr} {fd : FuncData} {k : Nat} (F : Fun K "__init__" "Desk.__init__" sInit f fd) (T : CTxt K C) (B : MDef P w K mg base C (k + 1) "begin" ["self"] (spBegin C)) : FnOk P w K mg base CX0 (k + 2) f fd ["self"] (spInit C) := by
  obtain ⟨fb, fdb, mB, bB, GB⟩ := B
  refine F.ok scInit (fun vs H Q E h => ?_) (fun cdv A outer s H vs Q E hr h => ?_)
  · obtain ⟨p, dx, rfl, _⟩ := h
    rfl
  · obtain ⟨p, dx, rfl, hp, q⟩ := h
    refine ⟨_, pss_one (ps_expr (pe_meth0 (pv 0) T.cl mB GB hr bB .nil pass0)), ?_⟩
    refine ⟨_, rfl, p, dx, [], rfl, hp, rfl, p, dx, [], rfl, hp, .inl rfl, fun H' q' own d fr ow _ _ => ?_⟩
    exact q H' own (d [] (by simp)) fr ow
/-! ### groups_of -/
abbrev sGof : Stmt := inClass sCls 4
theorem scGof : FnScope ["self", "which"] ["self", "which"] (defScope sGof) := ⟨rfl, rfl, rfl, by decide +kernel, rfl, by decide +kernel, by decide +kernel⟩
def spGof (C : Addr) : Sp := fun vs H Q _ => ∃ (p : Addr) (s : Rl07.St) (own av : List Addr) (m : Nat), vs = [.ref p, .int (m : Int)] ∧ Desk C H p s own av ∧ m ≤ s.rounds.length ∧
  ∀ H' d, Same H H' → RoundAt (minus H' (own ++ av)) d (rdAt s m) → Q (.ref d) H'
theorem ok_gof {f : Addr} {fd : FuncData} {k : Nat} (F : Fun K "groups_of" "Desk.groups_of" sGof f fd) (TC : CTxt K C) : FnOk P w K mg base CX0 (k + 1) f fd ["self", "which"] (spGof C) := by
  refine F.ok scGof (fun vs H Q E h => ?_) (fun cdv A outer s H vs Q E hr h => ?_)
  · obtain ⟨p, s, own, av, m, rfl, _⟩ := h
    rfl
  · obtain ⟨p, st, own, av, m, rfl, ⟨dx, pr, pl, ph, as, hk, d⟩, hm, q⟩ := h
    refine ⟨_, pss_cons (ps_if (pt_cmpR op_eq (pv 1) pe_int (nomark _)) (pss_one (ps_ret pe_dnewK)) pss_nil)
      (pss_one (ps_ret (pe_ix ix_list (pe_fld (pv 0) rfl) (pe_op op_sub (pv 1) pe_int) (fun _ _ => rfl)))), ?_⟩
    refine ⟨_, rfl, rfl, _, rfl, ?_⟩
    refine iteD (fun c => ?_) (fun c => ?_)
    · intro dn nn
      have c0 : m = 0 := by have := V.int.inj c; omega
      refine q _ dn (same_upd nn) ?_
      unfold rdAt
      rw [if_pos c0]
      exact ⟨[], by rw [minus_out (d.out2 nn), upd_same], .nil⟩
    · have c0 : m ≠ 0 := fun z => c (by rw [z]; rfl)
      have e1 := rdAt_roundAt (s := st) (m := m) (by omega) hm
      have e2 : st.rounds.reverse[m - 1]? = some (rdAt st m) := by
        unfold Rl07.roundAt at e1
        rw [if_neg c0] at e1
        exact e1
      obtain ⟨a, ha, hra⟩ := d.rs.get e2
      refine ⟨_, rfl, p, C, dx, _, _, rfl, d.ob, TC.cl, TC.nR, fl_rounds, _, rfl, _, _, rfl, rfl, pr, _, _, .ref a, rfl, rfl, .of d.rl, ?_, q _ a (Same.refl H) hra⟩
      have e : ((m : Int) - 1) = ((m - 1 : Nat) : Int) := by omega
      rw [e]
      refine atI_nat ?_
      rw [List.getElem?_map, ha]; rfl
/-! ### last_round -/
abbrev sLast : Stmt := inClass sCls 5
theorem scLast : FnScope ["self"] ["self"] (defScope sLast) := ⟨rfl, rfl, rfl, by decide +kernel, rfl, by decide +kernel, by decide +kernel⟩
def spLast (C : Addr) : Sp := fun vs H Q _ => ∃ (p : Addr) (s : Rl07.St) (own av : List Addr), vs = [.ref p] ∧ Desk C H p s own av ∧
  ∀ H' d, Same H H' → RoundAt (minus H' (own ++ av)) d (Rl07.now s) → Q (.ref d) H'
theorem ok_last {f : Addr} {fd : FuncData} {k : Nat} (F : Fun K "last_round" "Desk.last_round" sLast f fd) (T : Txt mg) (TC : CTxt K C) (B : MDef P w K mg base C (k + 1) "groups_of" ["self", "which"] (spGof C)) : FnOk P w K mg base CX0 (k + 2) f fd ["self"] (spLast C) := by
  obtain ⟨fb, fdb, mB, bB, GB⟩ := B
  refine F.ok scLast (fun vs H Q E h => ?_) (fun cdv A outer s H vs Q E hr h => ?_)
  · obtain ⟨p, s, own, av, rfl, _⟩ := h
    rfl
  · obtain ⟨p, st, own, av, rfl, hdk, q⟩ := h
    obtain ⟨dx, pr, pl, ph, as, hk, d⟩ := id hdk
    refine ⟨_, pss_one (ps_ret (pe_meth (pv 0) TC.cl mB GB hr bB .nil pass0 (pa_cons (pe_callB call_len_seq (by rfl) T.len PySem.boot_len (pa_cons (pe_fld (pv 0) rfl) pa_nil)) pa_nil))), ?_⟩
    have hl : (as.map V.ref).length = st.rounds.length := by rw [List.length_map, d.len]
    refine ⟨_, rfl, p, dx, _, rfl, d.ob, fl_no (by decide +kernel), _, rfl, p, C, dx, _, _, rfl, d.ob, TC.cl, TC.nR, fl_rounds, pr, _, rfl, .inl (.of d.rl), p, st, own, av, (as.map V.ref).length, rfl, hdk, by omega, fun H' e s1 hr1 => ?_⟩
    rw [hl, rdAt_now] at hr1
    exact q H' e s1 hr1
/-! ### there_was, was_given -/
abbrev sThere : Stmt := inClass sCls 6
theorem scThere : FnScope ["self", "which"] ["self", "which"] (defScope sThere) := ⟨rfl, rfl, rfl, by decide +kernel, rfl, by decide +kernel, by decide +kernel⟩
def spThere (C : Addr) : Sp := fun vs H Q _ => ∃ (p : Addr) (s : Rl07.St) (own av : List Addr) (m : Nat), vs = [.ref p, .int (m : Int)] ∧ Desk C H p s own av ∧ Q (.bl (decide (1 ≤ m ∧ m ≤ s.rounds.length))) H
theorem ok_there {f : Addr} {fd : FuncData} {k : Nat} (F : Fun K "there_was" "Desk.there_was" sThere f fd) (T : Txt mg) (TC : CTxt K C) : FnOk P w K mg base CX0 (k + 1) f fd ["self", "which"] (spThere C) := by
  refine F.ok scThere (fun vs H Q E h => ?_) (fun cdv A outer s H vs Q E hr h => ?_)
  · obtain ⟨p, s, own, av, m, rfl, _⟩ := h
    rfl
  · obtain ⟨p, st, own, av, m, rfl, ⟨dx, pr, pl, ph, as, hk, d⟩, q⟩ := h
    refine ⟨_, pss_one (ps_ret (pe_and (pe_cmpR op_ge (pv 1) pe_int (nomark _)) (pe_one (pe_cmpR op_le (pv 1) (pe_callB call_len_seq (by rfl) T.len PySem.boot_len (pa_cons (pe_fld (pv 0) rfl) pa_nil)) (nomark _))))), ?_⟩
    refine ⟨_, rfl, _, _, rfl, rfl, _, rfl, ?_⟩
    refine iteD (fun c => ?_) (fun c => ?_)
    · refine ⟨_, rfl, _, rfl, p, C, dx, _, _, rfl, d.ob, TC.cl, TC.nR, fl_rounds, pr, _, rfl, .inl (.of d.rl), _, _, rfl, rfl, ?_⟩
      rw [List.length_map, d.len]
      show Q (.bl (decide ((m : Int) ≤ (st.rounds.length : Int)))) H
      rw [show decide ((m : Int) ≤ (st.rounds.length : Int)) = decide (1 ≤ m ∧ m ≤ st.rounds.length) from decide_eq_decide.mpr (by omega)]
      exact q
    · rw [decide_eq_false (show ¬ (1 ≤ m ∧ m ≤ st.rounds.length) by omega)] at q
      exact q
abbrev sGiven : Stmt := inClass sCls 7
theorem scGiven : FnScope ["self", "number"] ["self", "number"] (defScope sGiven) := ⟨rfl, rfl, rfl, by decide +kernel, rfl, by decide +kernel, by decide +kernel⟩
def spGiven (C : Addr) : Sp := fun vs H Q _ => ∃ (p : Addr) (s : Rl07.St) (own av : List Addr) (n : Nat), vs = [.ref p, .int (n : Int)] ∧ Desk C H p s own av ∧ Q (.bl (decide (1 ≤ n ∧ n < s.next))) H
theorem ok_given {f : Addr} {fd : FuncData} {k : Nat} (F : Fun K "was_given" "Desk.was_given" sGiven f fd) (TC : CTxt K C) : FnOk P w K mg base CX0 (k + 1) f fd ["self", "number"] (spGiven C) := by
  refine F.ok scGiven (fun vs H Q E h => ?_) (fun cdv A outer s H vs Q E hr h => ?_)
  · obtain ⟨p, s, own, av, n, rfl, _⟩ := h
    rfl
  · obtain ⟨p, st, own, av, n, rfl, ⟨dx, pr, pl, ph, as, hk, d⟩, q⟩ := h
    refine ⟨_, pss_one (ps_ret (pe_and (pe_cmpR op_ge (pv 1) pe_int (nomark _)) (pe_one (pe_cmpR op_lt (pv 1) (pe_fld (pv 0) rfl) (nomark _))))), ?_⟩
    refine ⟨_, rfl, _, _, rfl, rfl, _, rfl, ?_⟩
    refine iteD (fun c => ?_) (fun c => ?_)
    · refine ⟨_, rfl, _, rfl, p, C, dx, _, _, rfl, d.ob, TC.cl, TC.nN, fl_next, _, _, rfl, rfl, ?_⟩
      show Q (.bl (decide ((n : Int) < (st.next : Int)))) H
      rw [show decide ((n : Int) < (st.next : Int)) = decide (1 ≤ n ∧ n < st.next) from decide_eq_decide.mpr (by omega)]
      exact q
    · rw [decide_eq_false (show ¬ (1 ≤ n ∧ n < st.next) by omega)] at q
      exact q
end
end NK
namespace NK
open PySem PySem.Spec PyProof.Rows L2
/-- what a call that changes nothing answers: a new list -/
def Says (s : Rl07.St) (c : Rl07.Call) (H : Hp) (Q : VK) : Prop := ∀ H' q, Same H H' → H q = none → H' q = some (.lst ((Rl07.step s c).2.map V.int)) → Q (.ref q) H'
theorem ints_nl (l : List Nat) : (Rl07.ints l).map V.int = nl l := by
  unfold Rl07.ints nl
  rw [List.map_map]; rfl
theorem ledD_none {n : Nat} : ∀ {es : List (Nat × (Nat × Nat))}, n ∉ es.map (·.1) → valV (ledD es) (Sum.inl (n : Int) : Key) = none
  | [], _ => rfl
  | e :: es, h => by
    simp only [List.map_cons, List.mem_cons, not_or] at h
    show valV ((Sum.inl (e.1 : Int), V.int (e.2.2 : Int)) :: ledD es) _ = _
    rw [valV_neg (inl_ne fun z => h.1 z.symm)]
    exact ledD_none h.2
theorem ledD_some {n : Nat} : ∀ {es : List (Nat × (Nat × Nat))}, n ∈ es.map (·.1) → ∃ e ∈ es, e.1 = n ∧ valV (ledD es) (Sum.inl (n : Int) : Key) = some (.int (e.2.2 : Int))
  | [], h => by simp at h
  | e :: es, h => by
    by_cases c : e.1 = n
    · refine ⟨e, by simp, c, ?_⟩
      show valV ((Sum.inl (e.1 : Int), V.int (e.2.2 : Int)) :: ledD es) _ = _
      rw [c, valV_pos rfl]
    · simp only [List.map_cons, List.mem_cons] at h
      rcases h with h | h
      · exact absurd h.symm c
      obtain ⟨d, hd, e1, e2⟩ := ledD_some h
      refine ⟨d, by simp [hd], e1, ?_⟩
      show valV ((Sum.inl (e.1 : Int), V.int (e.2.2 : Int)) :: ledD es) _ = _
      rw [valV_neg (inl_ne c)]
      exact e2
theorem roundAt_none {s : Rl07.St} {m : Nat} (h : m = 0 ∨ s.rounds.length < m) : Rl07.roundAt s m = none := by
  unfold Rl07.roundAt
  by_cases c : m = 0
  · rw [if_pos c]
  · rw [if_neg c, List.getElem?_eq_none]
    rw [List.length_reverse]; omega
theorem roundAt_some {s : Rl07.St} {m : Nat} (h1 : 1 ≤ m) (h2 : m ≤ s.rounds.length) : ∃ r, Rl07.roundAt s m = some r ∧ s.rounds.reverse[m - 1]? = some r := by
  unfold Rl07.roundAt
  rw [if_neg (by omega)]
  have hlt : m - 1 < s.rounds.reverse.length := by rw [List.length_reverse]; omega
  exact ⟨_, List.getElem?_eq_getElem hlt, List.getElem?_eq_getElem hlt⟩
theorem ledD_mem : ∀ {es : List (Nat × (Nat × Nat))}, (es.map (·.1)).Nodup → ∀ {e}, e ∈ es → valV (ledD es) (Sum.inl (e.1 : Int) : Key) = some (.int (e.2.2 : Int))
  | [], _, e, h => by simp at h
  | d :: es, hn, e, h => by
    rw [List.map_cons] at hn
    obtain ⟨h1, h2⟩ := List.nodup_cons.mp hn
    show valV ((Sum.inl (d.1 : Int), V.int (d.2.2 : Int)) :: ledD es) _ = _
    rcases List.mem_cons.mp h with z | z
    · rw [z, valV_pos rfl]
    · have hne : d.1 ≠ e.1 := fun y => h1 (by rw [y]; exact List.mem_map.mpr ⟨e, z, rfl⟩)
      rw [valV_neg (inl_ne hne)]
      exact ledD_mem h2 z
theorem goneL_snoc (a b : Rl07.Round) (g : Rl07.Group) : goneL (a ++ [g]) b = goneL a b ++ if (!b.any fun x => x.num == g.num) = true then [g.num] else [] := by
  unfold goneL
  rw [List.filter_append, List.map_append]
  refine congrArg _ ?_
  by_cases c : (!b.any fun x => x.num == g.num) = true
  · rw [if_pos c, List.filter_cons_of_pos (p := fun o : Rl07.Group => !b.any fun x => x.num == o.num) c]; rfl
  · rw [if_neg c, List.filter_cons_of_neg (p := fun o : Rl07.Group => !b.any fun x => x.num == o.num) c]; rfl
theorem goneL_len (a b : Rl07.Round) : (goneL a b).length ≤ a.length := by
  unfold goneL
  rw [List.length_map]
  exact List.length_filter_le _ _
section
variable {P : Program} {w : World} {K : PySem.W.Frag} {mg : Str → Option Value} {base : Heap} {C : Addr}
/-! ### show -/
abbrev sShow : Stmt := inClass sCls 8
theorem scShow : FnScope ["self"] ["self"] (defScope sShow) := ⟨rfl, rfl, rfl, by decide +kernel, rfl, by decide +kernel, by decide +kernel⟩
def spShow (C : Addr) : Sp := fun vs H Q _ => ∃ (p : Addr) (s : Rl07.St) (own av : List Addr), vs = [.ref p] ∧ Desk C H p s own av ∧ Ok s ∧ Says s .show_ H Q
theorem ok_show {f : Addr} {fd : FuncData} {k : Nat} (F : Fun K "show" "Desk.show" sShow f fd) (TC : CTxt K C) (B : MDef P w K mg base C (k + 1) "last_round" ["self"] (spLast C)) (G : Def P w K mg base (k + 1) "groups_in_numbers" ["groups"] (spTell K)) : FnOk P w K mg base CX0 (k + 2) f fd ["self"] (spShow C) := by
  obtain ⟨fb, fdb, mB, bB, GB⟩ := B
  obtain ⟨fg, fdg, mG, kG, bG, GG⟩ := G
  refine F.ok scShow (fun vs H Q E h => ?_) (fun cdv A outer s H vs Q E hr h => ?_)
  · obtain ⟨p, s, own, av, rfl, _⟩ := h
    rfl
  · obtain ⟨p, st, own, av, rfl, hd, ok, q⟩ := h
    obtain ⟨dx, pr, pl, ph, as, hk, d⟩ := id hd
    refine ⟨_, pss_one (ps_ret (pe_call GG hr (by rfl) mG kG bG .nil pass0 (pa_cons (pe_meth0 (pv 0) TC.cl mB GB hr bB .nil pass0) pa_nil))), ?_⟩
    refine ⟨_, rfl, p, dx, _, rfl, d.ob, fl_no (by decide +kernel), p, st, own, av, rfl, hd, fun H1 e s1 hr1 => ?_⟩
    refine ⟨e, _, _, rfl, hr1.keep (minus_same _ _), ok.now, fun H2 pq s2 n2 h2 => ?_⟩
    refine q H2 pq (s1.trans s2) (s1.free n2) ?_
    rw [h2]
    show _ = some (HO.lst ((Rl07.roundTold (Rl07.now st)).map V.int))
    unfold Rl07.roundTold
    rw [ints_nl]; rfl
/-! ### of -/
abbrev sOf : Stmt := inClass sCls 9
theorem scOf : FnScope ["self", "record"] ["self", "record"] (defScope sOf) := ⟨rfl, rfl, rfl, by decide +kernel, rfl, by decide +kernel, by decide +kernel⟩
def spOf (C : Addr) : Sp := fun vs H Q _ => ∃ (p : Addr) (s : Rl07.St) (own av : List Addr) (x : Nat), vs = [.ref p, .int (x : Int)] ∧ Desk C H p s own av ∧ Ok s ∧ Says s (.of_ x) H Q
theorem ok_of {f : Addr} {fd : FuncData} {k : Nat} (F : Fun K "of" "Desk.of" sOf f fd) (TC : CTxt K C) (B : MDef P w K mg base C (k + 1) "last_round" ["self"] (spLast C)) (G : Def P w K mg base (k + 1) "number_of" ["record", "groups"] spNum) : FnOk P w K mg base CX0 (k + 2) f fd ["self", "record"] (spOf C) := by
  obtain ⟨fb, fdb, mB, bB, GB⟩ := B
  obtain ⟨fg, fdg, mG, kG, bG, GG⟩ := G
  refine F.ok scOf (fun vs H Q E h => ?_) (fun cdv A outer s H vs Q E hr h => ?_)
  · obtain ⟨p, s, own, av, x, rfl, _⟩ := h
    rfl
  · obtain ⟨p, st, own, av, x, rfl, hd, ok, q⟩ := h
    obtain ⟨dx, pr, pl, ph, as, hk, d⟩ := id hd
    refine ⟨_, pss_one (ps_ret (pe_lst (pa_cons (pe_call GG hr (by rfl) mG kG bG .nil pass0 (pa_cons (pv 1) (pa_cons (pe_meth0 (pv 0) TC.cl mB GB hr bB .nil pass0) pa_nil))) pa_nil))), ?_⟩
    refine ⟨_, rfl, _, rfl, p, dx, _, rfl, d.ob, fl_no (by decide +kernel), p, st, own, av, rfl, hd, fun H1 e s1 hr1 => ?_⟩
    refine ⟨x, e, _, rfl, hr1.keep (minus_same _ _), fun H2 s2 => ?_⟩
    refine ⟨(by show 1 ≤ sizeLine; decide), fun pq nq => ?_⟩
    exact q _ pq (s1.trans (s2.trans (same_upd nq))) (s1.free (s2.free nq)) upd_same
/-! ### leads -/
abbrev sLeads : Stmt := inClass sCls 10
theorem scLeads : FnScope ["self", "number", "there"] ["self", "number"] (defScope sLeads) := ⟨rfl, rfl, rfl, by decide +kernel, rfl, by decide +kernel, by decide +kernel⟩
def spLeads (C : Addr) : Sp := fun vs H Q _ => ∃ (p : Addr) (s : Rl07.St) (own av : List Addr) (n : Nat), vs = [.ref p, .int (n : Int)] ∧ Desk C H p s own av ∧ Ok s ∧ Says s (.leads n) H Q
theorem ok_leads {f : Addr} {fd : FuncData} {k : Nat} (F : Fun K "leads" "Desk.leads" sLeads f fd) (TC : CTxt K C) (B : MDef P w K mg base C (k + 1) "was_given" ["self", "number"] (spGiven C)) : FnOk P w K mg base CX0 (k + 2) f fd ["self", "number"] (spLeads C) := by
  obtain ⟨fb, fdb, mB, bB, GB⟩ := B
  refine F.ok scLeads (fun vs H Q E h => ?_) (fun cdv A outer s H vs Q E hr h => ?_)
  · obtain ⟨p, s, own, av, n, rfl, _⟩ := h
    rfl
  · obtain ⟨p, st, own, av, n, rfl, hd, ok, q⟩ := h
    obtain ⟨dx, pr, pl, ph, as, hk, d⟩ := id hd
    have hu := hu_of hr
    refine ⟨_, pss_cons (ps_if (pt_not (pt_val (pe_meth (pv 0) TC.cl mB GB hr bB .nil pass0 (pa_cons (pv 1) pa_nil)))) (pss_one (ps_ret (pe_lst (pa_cons (pe_un un_neg pe_int) pa_nil)))) pss_nil)
      (pss_cons (ps_set (i := 2) scLeads.nd rfl (.inl rfl) (pv 1))
      (pss_cons (ps_while PassesOwn.never (pt_cmp (pc_din hu (pv 2) (pe_fld (pv 0) rfl))) (pss_one (ps_set (i := 2) scLeads.nd rfl (.inl rfl) (pe_dget hu (pe_fld (pv 0) rfl) (pv 2) (fun _ _ => rfl)))))
      (pss_one (ps_ret (pe_lst (pa_cons (pv 2) pa_nil)))))), ?_⟩
    have bad : n = 0 ∨ st.next ≤ n → ∀ pq, H pq = none → Q (.ref pq) (upd H pq (.lst [.int (-3)])) := fun hb pq nq => by
      refine q _ pq (same_upd nq) nq ?_
      rw [upd_same]
      show _ = some (HO.lst ((if n = 0 ∨ st.next ≤ n then [-3] else Rl07.ints [Rl07.leads st st.next n]).map V.int))
      rw [if_pos hb]; rfl
    refine ⟨_, rfl, p, dx, _, rfl, d.ob, fl_no (by decide +kernel), _, rfl, p, st, own, av, n, rfl, hd, _, rfl, ?_⟩
    by_cases c : ¬ (1 ≤ n ∧ n < st.next)
    · rw [decide_eq_false c]
      refine iteT ?_
      exact ⟨3, rfl, (by show 1 ≤ sizeLine; decide), fun pq nq => bad (by omega) pq nq⟩
    rw [decide_eq_true (Classical.not_not.mp c)]
    refine iteF ?_
    refine ⟨_, rfl, ?_⟩
    have hgood : Rl07.leads st st.next n = walkTo st.ended n := ok.leads_all (by omega) (by omega)
    refine ⟨fun m σ H' => ∃ t : Nat, σ = [some (.ref p), some (.int (n : Int)), some (.int (t : Int))] ∧ H' = H ∧ walkTo st.ended t = walkTo st.ended n ∧ m = st.ended.length - place st.ended t, ⟨_, n, rfl, rfl, rfl, rfl⟩, ?_⟩
    rintro m σ H' ⟨t, rfl, rfl, hw, rfl⟩
    refine ⟨_, rfl, _, rfl, p, C, dx, _, _, rfl, d.ob, TC.cl, TC.nL, fl_led, pl, _, rfl, DGet.k (k := Sum.inl (t : Int)) d.ld, _, rfl, ?_⟩
    by_cases c3 : t ∈ st.ended.map (·.1)
    · obtain ⟨e, he, e1, e2⟩ := ledD_some c3
      obtain ⟨s1, s2⟩ := ok.step he
      rw [e1] at s1 s2
      rw [e2]
      refine iteT ?_
      refine ⟨fun σ' H2 => ∃ t' : Nat, σ' = [some (.ref p), some (.int (n : Int)), some (.int (t' : Int))] ∧ H2 = H' ∧ walkTo st.ended t' = walkTo st.ended n ∧ place st.ended t < place st.ended t', fun σ' H2 ⟨t', a1, a2, a3, a4⟩ => ⟨st.ended.length - place st.ended t', by have := place_le st.ended t'; omega, t', a1, a2, a3, rfl⟩, ?_⟩
      refine ⟨_, rfl, p, C, dx, _, _, rfl, d.ob, TC.cl, TC.nL, fl_led, _, rfl, pl, .int (e.2.2 : Int), rfl, ?_, ?_⟩
      · have := DGet.k (k := Sum.inl (t : Int)) d.ld
        rw [e2] at this
        exact this
      · exact ⟨e.2.2, rfl, rfl, by rw [← s1]; exact hw, s2⟩
    · rw [ledD_none c3]
      refine iteF ?_
      refine ⟨_, rfl, (by show 1 ≤ sizeLine; decide), fun pq nq => ?_⟩
      refine q _ pq (same_upd nq) nq ?_
      rw [upd_same]
      show _ = some (HO.lst ((if n = 0 ∨ st.next ≤ n then [-3] else Rl07.ints [Rl07.leads st st.next n]).map V.int))
      rw [if_neg (by omega), hgood, ← hw, walkTo_none c3]; rfl
/-! ### was -/
abbrev sWas : Stmt := inClass sCls 11
theorem scWas : FnScope ["self", "which", "record"] ["self", "which", "record"] (defScope sWas) := ⟨rfl, rfl, rfl, by decide +kernel, rfl, by decide +kernel, by decide +kernel⟩
def spWas (C : Addr) : Sp := fun vs H Q _ => ∃ (p : Addr) (s : Rl07.St) (own av : List Addr) (m x : Nat), vs = [.ref p, .int (m : Int), .int (x : Int)] ∧ Desk C H p s own av ∧ Ok s ∧ Says s (.was m x) H Q
theorem ok_was {f : Addr} {fd : FuncData} {k : Nat} (F : Fun K "was" "Desk.was" sWas f fd) (TC : CTxt K C) (W : MDef P w K mg base C (k + 1) "there_was" ["self", "which"] (spThere C)) (B : MDef P w K mg base C (k + 1) "groups_of" ["self", "which"] (spGof C)) (G : Def P w K mg base (k + 1) "number_of" ["record", "groups"] spNum) : FnOk P w K mg base CX0 (k + 2) f fd ["self", "which", "record"] (spWas C) := by
  obtain ⟨fw, fdw, mW, bW, GW⟩ := W
  obtain ⟨fb, fdb, mB, bB, GB⟩ := B
  obtain ⟨fg, fdg, mG, kG, bG, GG⟩ := G
  refine F.ok scWas (fun vs H Q E h => ?_) (fun cdv A outer s H vs Q E hr h => ?_)
  · obtain ⟨p, s, own, av, m, x, rfl, _⟩ := h
    rfl
  · obtain ⟨p, st, own, av, m, x, rfl, hd, ok, q⟩ := h
    obtain ⟨dx, pr, pl, ph, as, hk, d⟩ := id hd
    refine ⟨_, pss_cons (ps_if (pt_not (pt_val (pe_meth (pv 0) TC.cl mW GW hr bW .nil pass0 (pa_cons (pv 1) pa_nil)))) (pss_one (ps_ret (pe_lst (pa_cons (pe_un un_neg pe_int) pa_nil)))) pss_nil)
      (pss_one (ps_ret (pe_lst (pa_cons (pe_call GG hr (by rfl) mG kG bG .nil pass0 (pa_cons (pv 2) (pa_cons (pe_meth (pv 0) TC.cl mB GB hr bB .nil pass0 (pa_cons (pv 1) pa_nil)) pa_nil))) pa_nil)))), ?_⟩
    refine ⟨_, rfl, p, dx, _, rfl, d.ob, fl_no (by decide +kernel), _, rfl, p, st, own, av, m, rfl, hd, _, rfl, ?_⟩
    by_cases c : ¬ (1 ≤ m ∧ m ≤ st.rounds.length)
    · rw [decide_eq_false c]
      refine iteT ?_
      refine ⟨3, rfl, (by show 1 ≤ sizeLine; decide), fun pq nq => ?_⟩
      refine q _ pq (same_upd nq) nq ?_
      rw [upd_same]
      show _ = some (HO.lst ((match Rl07.roundAt st m with
        | none => [-3]
        | some r => Rl07.ints [Rl07.numberOf r x]).map V.int))
      rw [roundAt_none (by omega)]; rfl
    have c' := Classical.not_not.mp c
    rw [decide_eq_true c']
    refine iteF ?_
    refine ⟨_, rfl, _, rfl, p, dx, _, rfl, d.ob, fl_no (by decide +kernel), _, rfl, p, st, own, av, m, rfl, hd, c'.2, fun H1 e s1 hr1 => ?_⟩
    refine ⟨x, e, _, rfl, hr1.keep (minus_same _ _), fun H2 s2 => ?_⟩
    refine ⟨(by show 1 ≤ sizeLine; decide), fun pq nq => ?_⟩
    refine q _ pq (s1.trans (s2.trans (same_upd nq))) (s1.free (s2.free nq)) ?_
    rw [upd_same]
    show _ = some (HO.lst ((match Rl07.roundAt st m with
      | none => [-3]
      | some r => Rl07.ints [Rl07.numberOf r x]).map V.int))
    rw [rdAt_roundAt c'.1 c'.2]; rfl
/-! ### counts -/
abbrev sCounts : Stmt := inClass sCls 17
theorem scCounts : FnScope ["self"] ["self"] (defScope sCounts) := ⟨rfl, rfl, rfl, by decide +kernel, rfl, by decide +kernel, by decide +kernel⟩
def spCounts (C : Addr) : Sp := fun vs H Q _ => ∃ (p : Addr) (s : Rl07.St) (own av : List Addr), vs = [.ref p] ∧ Desk C H p s own av ∧ Says s .counts H Q
theorem ok_counts {f : Addr} {fd : FuncData} {k : Nat} (F : Fun K "counts" "Desk.counts" sCounts f fd) (T : Txt mg) (TC : CTxt K C) : FnOk P w K mg base CX0 (k + 1) f fd ["self"] (spCounts C) := by
  refine F.ok scCounts (fun vs H Q E h => ?_) (fun cdv A outer s H vs Q E hr h => ?_)
  · obtain ⟨p, s, own, av, rfl, _⟩ := h
    rfl
  · obtain ⟨p, st, own, av, rfl, ⟨dx, pr, pl, ph, as, hk, d⟩, q⟩ := h
    refine ⟨_, pss_one (ps_ret (pe_lst (pa_cons (pe_callB call_len_seq (by rfl) T.len PySem.boot_len (pa_cons (pe_fld (pv 0) rfl) pa_nil)) (pa_cons (pe_fld (pv 0) rfl) (pa_cons (pe_callB call_lenD (by rfl) T.len PySem.boot_len (pa_cons (pe_fld (pv 0) rfl) pa_nil)) (pa_cons (pe_callB call_lenD (by rfl) T.len PySem.boot_len (pa_cons (pe_fld (pv 0) rfl) pa_nil)) pa_nil)))))), ?_⟩
    refine ⟨_, rfl, p, C, dx, _, _, rfl, d.ob, TC.cl, TC.nR, fl_rounds, pr, _, rfl, .inl (.of d.rl), _, rfl, p, C, dx, _, _, rfl, d.ob, TC.cl, TC.nN, fl_next, _, rfl, p, C, dx, _, _, rfl, d.ob, TC.cl, TC.nL, fl_led, pl, _, rfl, d.ld, _, rfl, p, C, dx, _, _, rfl, d.ob, TC.cl, TC.nH, fl_held, ph, _, rfl, d.hd, (by show 4 ≤ sizeLine; decide), fun pq nq => ?_⟩
    refine q _ pq (same_upd nq) nq ?_
    rw [upd_same, List.length_map, d.len, heldD_len, d.pm.length_eq]
    unfold ledD
    rw [List.length_map]
    rfl
end
end NK
namespace NK
open PySem PySem.Spec PyProof.Rows L2
theorem RK.key {H : Hp} {r : Rl07.Round} {kvs : List (Key × V)} (rk : RK H r kvs) {i : Nat} {k : Key} {v : V} (h : kvs[i]? = some (k, v)) : ∃ g, r[i]? = some g ∧ kV k = .int (g.num : Int) := by
  have hi : i < r.length := by rw [← rk.len]; exact lt_of_get h
  obtain ⟨g, a, h1, h2, _⟩ := rk.get hi
  rw [h] at h2
  have := (Prod.mk.inj (Option.some.inj h2)).1
  exact ⟨g, h1, by rw [this]; rfl⟩
/-- a round that is not one's own, as it stands in the heap -/
theorem RoundAt.out {H : Hp} {l : List Addr} {d : Addr} {r : Rl07.Round} (h : RoundAt (minus H l) d r) : ∃ kvs, H d = some (.dK kvs) ∧ RK (minus H l) r kvs := by
  obtain ⟨kvs, h1, h2⟩ := h
  exact ⟨kvs, minus_same _ _ _ _ h1, h2⟩
theorem pairs_take {es : List (Nat × (Nat × Nat))} {i : Nat} {e : Nat × (Nat × Nat)} (h : es[i]? = some e) : (es.take (i + 1)).flatMap (fun e => [e.1, e.2.2]) = (es.take i).flatMap (fun e => [e.1, e.2.2]) ++ [e.1, e.2.2] := by
  rw [take_more h, List.flatMap_append]; simp
theorem pairs_len : ∀ es : List (Nat × (Nat × Nat)), (es.flatMap fun e => [e.1, e.2.2]).length = 2 * es.length
  | [] => rfl
  | e :: es => by
    rw [List.flatMap_cons, List.length_append, pairs_len es]
    simp only [List.length_cons, List.length_nil]
    omega
section
variable {P : Program} {w : World} {K : PySem.W.Frag} {mg : Str → Option Value} {base : Heap} {C : Addr}
/-! ### ended -/
abbrev sEnded : Stmt := inClass sCls 12
theorem scEnded : FnScope ["self", "which", "now", "gone", "told", "number"] ["self", "which"] (defScope sEnded) := ⟨rfl, rfl, rfl, by decide +kernel, rfl, by decide +kernel, by decide +kernel⟩
def spEnded (C : Addr) : Sp := fun vs H Q _ => ∃ (p : Addr) (s : Rl07.St) (own av : List Addr) (m : Nat), vs = [.ref p, .int (m : Int)] ∧ Desk C H p s own av ∧ Ok s ∧ Hist s ∧ Says s (.ended m) H Q
theorem ok_ended {f : Addr} {fd : FuncData} {k : Nat} (F : Fun K "ended" "Desk.ended" sEnded f fd) (T : Txt mg) (TC : CTxt K C) (W : MDef P w K mg base C (k + 1) "there_was" ["self", "which"] (spThere C)) (B : MDef P w K mg base C (k + 1) "groups_of" ["self", "which"] (spGof C)) : FnOk P w K mg base CX0 (k + 2) f fd ["self", "which"] (spEnded C) := by
  obtain ⟨fw, fdw, mW, bW, GW⟩ := W
  obtain ⟨fb, fdb, mB, bB, GB⟩ := B
  refine F.ok scEnded (fun vs H Q E h => ?_) (fun cdv A outer s H vs Q E hr h => ?_)
  · obtain ⟨p, s, own, av, m, rfl, _⟩ := h
    rfl
  · obtain ⟨p, st, own, av, m, rfl, hd, ok, his, q⟩ := h
    obtain ⟨dx, pr, pl, ph, as, hk, d⟩ := id hd
    have hu := hu_of hr
    refine ⟨_, pss_cons (ps_if (pt_not (pt_val (pe_meth (pv 0) TC.cl mW GW hr bW .nil pass0 (pa_cons (pv 1) pa_nil)))) (pss_one (ps_ret (pe_lst (pa_cons (pe_un un_neg pe_int) pa_nil)))) pss_nil)
      (pss_cons (ps_set (i := 2) scEnded.nd rfl (.inr rfl) (pe_meth (pv 0) TC.cl mB GB hr bB .nil pass0 (pa_cons (pv 1) pa_nil)))
      (pss_cons (ps_opn (ps_setLc (i := 3) (own := [("number", 5)]) (g := gName 5) (te := tVar 5) rfl scEnded.nd rfl rfl (sw_true rfl rfl rfl (by decide +kernel))
        (pi_keysL (pe_meth (pv 0) TC.cl mB GB hr bB .nil pass0 (pa_cons (pe_op op_sub (pv 1) pe_int) pa_nil)))
        (blkOk_by (N := ["self", "which", "now", "gone", "told", "number"]) (sc := defScope sEnded) (by decide +kernel))
        (fun _ _ _ _ _ => pg_name (i := 5) scEnded.nd rfl (Or.inl rfl)) (fun _ _ _ _ _ => pts_one (pt_cmp (pc_dnotin hu (pv 5) (pv 2)))) (fun _ _ _ _ _ => pv 5)))
      (pss_cons (ps_set (i := 4) scEnded.nd rfl (.inl rfl) (pe_lst (pa_cons (pe_callB call_len_seq (by rfl) T.len PySem.boot_len (pa_cons (pv 3) pa_nil)) pa_nil)))
      (pss_cons (ps_for PassesOwn.never rfl (pi_list (pv 3)) (pg_name (i := 5) scEnded.nd rfl (.inl rfl))
        (pss_cons (ps_expr (pe_bm PySem.F.plainAttrs_list PySem.F.slot_list_append PySem.F.type_list_append mt_append (pv 4) (pa_cons (pv 5) pa_nil)))
        (pss_one (ps_expr (pe_bm PySem.F.plainAttrs_list PySem.F.slot_list_append PySem.F.type_list_append mt_append (pv 4) (pa_cons (pe_dget hu (pe_fld (pv 0) rfl) (pv 5) (fun _ _ => rfl)) pa_nil))))))
      (pss_one (ps_ret (pv 4))))))), ?_⟩
    -- if not self.there_was(which)
    refine ⟨_, rfl, p, dx, _, rfl, d.ob, fl_no (by decide +kernel), _, rfl, p, st, own, av, m, rfl, hd, _, rfl, ?_⟩
    by_cases c : ¬ (1 ≤ m ∧ m ≤ st.rounds.length)
    · rw [decide_eq_false c]
      refine iteT ?_
      refine ⟨3, rfl, (by show 1 ≤ sizeLine; decide), fun pq nq => ?_⟩
      refine q _ pq (same_upd nq) nq ?_
      rw [upd_same]
      show _ = some (HO.lst ((if m = 0 ∨ st.rounds.length < m then [-3] else _ : List Int).map V.int))
      rw [if_pos (by omega)]; rfl
    have c' := Classical.not_not.mp c
    rw [decide_eq_true c']
    refine iteF ?_
    obtain ⟨eg, _, _⟩ := his m c'.1 c'.2
    generalize hes : st.ended.filter (fun e => e.2.1 == m) = es at eg
    have hin : ∀ e ∈ es, e ∈ st.ended := fun e he => by rw [← hes] at he; exact (List.mem_filter.mp he).1
    have hgl : es.length ≤ 6 := by
      have h1 := goneL_len (rdAt st (m - 1)) (rdAt st m)
      have h2 := (ok.rdAt (m - 1)).2.2.few
      rw [List.length_map] at h2
      rw [← eg, List.length_map] at h1
      omega
    -- now = self.groups_of(which)
    refine ⟨_, rfl, p, dx, _, rfl, d.ob, fl_no (by decide +kernel), _, rfl, p, st, own, av, m, rfl, hd, c'.2, fun H2 d2 s2 hr2 => ?_⟩
    have dd2 := d.keep s2
    obtain ⟨kvs2, hd2, rk2⟩ := hr2.out
    -- gone
    have em : ((m : Int) - 1) = ((m - 1 : Nat) : Int) := by omega
    refine ⟨_, rfl, p, dx, _, rfl, dd2.ob, fl_no (by decide +kernel), _, rfl, _, _, rfl, rfl, p, st, own, av, m - 1, (by show [V.ref p, V.int ((m : Int) - 1)] = _; rw [em]), ⟨_, _, _, _, _, _, dd2⟩, by omega, fun H3 d1 s3 hr3 => ?_⟩
    obtain ⟨kvs1, hd1, rk1⟩ := hr3.out
    have hd23 := s3 _ _ hd2
    have dd3 := dd2.keep s3
    refine ⟨d1, kvs1, rfl, hd1, fun od D hD => ?_⟩
    obtain ⟨hDd1, hDH⟩ := upd_none hD
    refine lc_it walk_keys (fun i H' => But d1 H3 H' ∧ H' d1 = some (.frz od (.dK kvs1)) ∧ H' D = some (.lst (nl (goneL ((rdAt st (m - 1)).take i) (rdAt st m)))))
      ⟨(But.lock d1 H3 _).same (same_upd hD), (same_upd hD) _ _ upd_same, upd_same⟩ (fun i H' _ z => z.2.1) ?_ ?_
    · rintro i x H4 H5 hi ⟨hb, hl, hp⟩ ⟨rfl, kk, vv, hkv, rfl⟩
      obtain ⟨g, hg, ek⟩ := rk1.key hkv
      rw [ek]
      have hgs := goneL_snoc ((rdAt st (m - 1)).take i) (rdAt st m) g
      rw [← take_more hg] at hgs
      refine ⟨rfl, _, rfl, _, rfl, d2, _, rfl, DGet.rd (k := Sum.inl (g.num : Int)) (hb.rd hd1 hl hd23), _, rfl, ?_⟩
      rw [rk2.has]
      refine ite2 (fun c2 => ?_) (fun c2 => ?_)
      · refine ⟨_, rfl, _, hp, ?_, fun x o e hx => ?_, ?_, ?_⟩
        · rw [nl_len]
          have h1 := goneL_len ((rdAt st (m - 1)).take i) (rdAt st m)
          have h2 := (ok.rdAt (m - 1)).2.2.few
          rw [List.length_map] at h2
          rw [List.length_take] at h1
          exact small1000 (by omega)
        · rw [upd_ne (ne_of_none e hDH)]; exact hb x o e hx
        · rw [upd_ne hDd1.symm]; exact hl
        · rw [upd_same, hgs, if_pos c2, nl_app]; rfl
      · refine ⟨hb, hl, ?_⟩
        rw [hgs, if_neg c2, List.append_nil]; exact hp
    rintro H4 ⟨hb, hl, hp⟩
    rw [rk1.len, List.take_length, ← eg] at hp
    refine ⟨d1, od, _, hl, fun o' u' z => ?_, ?_⟩
    · rw [s3 _ _ z] at hd1; cases hd1
    have s4 : Same H3 (upd H4 d1 (.dK kvs1)) := hb.open hd1
    have hp4 : (upd H4 d1 (.dK kvs1)) D = some (.lst (nl (es.map (·.1)))) := by rw [upd_ne hDd1]; exact hp
    generalize upd H4 d1 (.dK kvs1) = H5 at *
    have dd5 := dd3.keep s4
    -- told = [len(gone)]
    refine ⟨_, rfl, D, _, rfl, .inl (.of hp4), (by show 1 ≤ sizeLine; decide), fun pt nt => ?_⟩
    rw [nl_len, List.length_map]
    have s5 := same_upd (o := .lst [V.int (es.length : Int)]) nt
    have hp5 := s5 _ _ hp4
    have f5 : (upd H5 pt (.lst [V.int (es.length : Int)])) pt = some (.lst (nl [es.length])) := upd_same
    have dd6 := dd5.keep s5
    generalize upd H5 pt (.lst [V.int (es.length : Int)]) = H6 at *
    have hDp : D ≠ pt := ne_of_none hp4 nt
    have hpp : p ≠ pt := ne_of_none dd5.ob nt
    have hpl : pl ≠ pt := ne_of_none dd5.ld nt
    -- the loop
    refine ⟨_, rfl, D, rfl, ⟨_, .of hp5⟩, for_list (K := K) (a := D) (xs := nl (es.map (·.1))) (fun i σ H' => ∃ v5, σ = [some (.ref p), some (.int (m : Int)), some (.ref d2), some (.ref D), some (.ref pt), v5] ∧ (∀ b o, H6 b = some o → b ≠ pt → H' b = some o) ∧ H' pt = some (.lst (nl (es.length :: (es.take i).flatMap fun e => [e.1, e.2.2]))))
      ⟨_, rfl, fun b o e _ => e, f5⟩ (fun i σ H' _ ⟨_, _, fr, _⟩ => .of (fr _ _ hp5 hDp)) ?_ ?_⟩
    · rintro i x σ H7 hi ⟨v5, rfl, fr, h7⟩
      obtain ⟨n, hn, rfl⟩ := nl_get hi
      rw [List.getElem?_map] at hn
      obtain ⟨e, he, rfl⟩ := Option.map_eq_some_iff.mp hn
      have hlt := lt_of_get he
      have hval := ledD_mem ok.ends (hin e (List.mem_of_getElem? he))
      have hlen : ((es.take i).flatMap fun e => [e.1, e.2.2]).length ≤ 12 := by
        rw [pairs_len, List.length_take]; omega
      refine ⟨_, rfl, .inl ⟨rfl, _, .of h7⟩, _, rfl, pt, _, _, rfl, rfl, h7, (by rw [nl_len, List.length_cons]; exact small1000 (by omega)), ?_⟩
      refine ⟨_, rfl, .inl ⟨rfl, _, .of upd_same⟩, _, rfl, p, C, dx, _, _, rfl, (by rw [upd_ne hpp]; exact fr _ _ dd6.ob hpp), TC.cl, TC.nL, fl_led, _, rfl, pl, .int (e.2.2 : Int), rfl, ?_, pt, _, _, rfl, rfl, upd_same, (by rw [List.length_append, nl_len, List.length_cons, List.length_singleton]; exact small1000 (by omega)), ?_⟩
      · have := DGet.k (k := Sum.inl (e.1 : Int)) (show (upd H7 pt (.lst (nl (es.length :: (es.take i).flatMap fun e => [e.1, e.2.2]) ++ [V.int (e.1 : Int)]))) pl = some (.dK (ledD st.ended)) by rw [upd_ne hpl]; exact fr _ _ dd6.ld hpl)
        rw [hval] at this
        exact this
      · refine ⟨_, rfl, fun b o z hb => ?_, ?_⟩
        · rw [upd_ne hb, upd_ne hb]; exact fr b o z hb
        · rw [upd_same, pairs_take he]
          unfold nl
          simp
    · rintro σ H7 ⟨v5, rfl, fr, h7⟩
      rw [nl_len, List.length_map, List.take_length] at h7
      have sA : Same H H5 := s2.trans (s3.trans s4)
      refine ⟨_, rfl, q _ pt (fun b o e => fr _ _ (s5 _ _ (sA _ _ e)) (ne_of_none (sA _ _ e) nt)) (sA.free nt) ?_⟩
      rw [h7]
      show _ = some (HO.lst ((if m = 0 ∨ st.rounds.length < m then [-3] else Rl07.ints ((st.ended.filter fun e => e.2.1 == m).length :: (st.ended.filter fun e => e.2.1 == m).flatMap fun e => [e.1, e.2.2]) : List Int).map V.int))
      rw [if_neg (by omega), hes, ints_nl]
/-! ### begun -/
abbrev sBegun : Stmt := inClass sCls 13
theorem scBegun : FnScope ["self", "which", "ahead", "fresh", "number"] ["self", "which"] (defScope sBegun) := ⟨rfl, rfl, rfl, by decide +kernel, rfl, by decide +kernel, by decide +kernel⟩
def spBegun (C : Addr) : Sp := fun vs H Q _ => ∃ (p : Addr) (s : Rl07.St) (own av : List Addr) (m : Nat), vs = [.ref p, .int (m : Int)] ∧ Desk C H p s own av ∧ Ok s ∧ Hist s ∧ Says s (.begun m) H Q
theorem ok_begun {f : Addr} {fd : FuncData} {k : Nat} (F : Fun K "begun" "Desk.begun" sBegun f fd) (T : Txt mg) (TC : CTxt K C) (W : MDef P w K mg base C (k + 1) "there_was" ["self", "which"] (spThere C)) (B : MDef P w K mg base C (k + 1) "groups_of" ["self", "which"] (spGof C)) : FnOk P w K mg base CX0 (k + 2) f fd ["self", "which"] (spBegun C) := by
  obtain ⟨fw, fdw, mW, bW, GW⟩ := W
  obtain ⟨fb, fdb, mB, bB, GB⟩ := B
  refine F.ok scBegun (fun vs H Q E h => ?_) (fun cdv A outer s H vs Q E hr h => ?_)
  · obtain ⟨p, s, own, av, m, rfl, _⟩ := h
    rfl
  · obtain ⟨p, st, own, av, m, rfl, hd, ok, his, q⟩ := h
    obtain ⟨dx, pr, pl, ph, as, hk, d⟩ := id hd
    have hu := hu_of hr
    refine ⟨_, pss_cons (ps_if (pt_not (pt_val (pe_meth (pv 0) TC.cl mW GW hr bW .nil pass0 (pa_cons (pv 1) pa_nil)))) (pss_one (ps_ret (pe_lst (pa_cons (pe_un un_neg pe_int) pa_nil)))) pss_nil)
      (pss_cons (ps_set (i := 2) scBegun.nd rfl (.inr rfl) (pe_meth (pv 0) TC.cl mB GB hr bB .nil pass0 (pa_cons (pe_op op_sub (pv 1) pe_int) pa_nil)))
      (pss_cons (ps_opn (ps_setLc (i := 3) (own := [("number", 4)]) (g := gName 4) (te := tVar 4) rfl scBegun.nd rfl rfl (sw_true rfl rfl rfl (by decide +kernel))
        (pi_keysL (pe_meth (pv 0) TC.cl mB GB hr bB .nil pass0 (pa_cons (pv 1) pa_nil)))
        (blkOk_by (N := ["self", "which", "ahead", "fresh", "number"]) (sc := defScope sBegun) (by decide +kernel))
        (fun _ _ _ _ _ => pg_name (i := 4) scBegun.nd rfl (Or.inl rfl)) (fun _ _ _ _ _ => pts_one (pt_cmp (pc_dnotin hu (pv 4) (pv 2)))) (fun _ _ _ _ _ => pv 4)))
      (pss_one (ps_ret (pe_op op_cat (pe_lst (pa_cons (pe_callB call_len_seq (by rfl) T.len PySem.boot_len (pa_cons (pv 3) pa_nil)) pa_nil)) (pe_callB cr_sortedI (by rfl) T.sorted (by decide +kernel) (pa_cons (pv 3) pa_nil))))))), ?_⟩
    -- if not self.there_was(which)
    refine ⟨_, rfl, p, dx, _, rfl, d.ob, fl_no (by decide +kernel), _, rfl, p, st, own, av, m, rfl, hd, _, rfl, ?_⟩
    by_cases c : ¬ (1 ≤ m ∧ m ≤ st.rounds.length)
    · rw [decide_eq_false c]
      refine iteT ?_
      refine ⟨3, rfl, (by show 1 ≤ sizeLine; decide), fun pq nq => ?_⟩
      refine q _ pq (same_upd nq) nq ?_
      rw [upd_same, step_begun, roundAt_none (by omega)]; rfl
    have c' := Classical.not_not.mp c
    rw [decide_eq_true c']
    refine iteF ?_
    obtain ⟨_, eg, hrise⟩ := his m c'.1 c'.2
    generalize hes : begunAt st m = es at eg hrise
    have hgl : es.length ≤ 6 := by
      have h1 := goneL_len (rdAt st m) (rdAt st (m - 1))
      have h2 := (ok.rdAt m).2.2.few
      rw [List.length_map] at h2
      rw [← eg] at h1
      omega
    -- ahead = self.groups_of(which - 1)
    have em : ((m : Int) - 1) = ((m - 1 : Nat) : Int) := by omega
    refine ⟨_, rfl, p, dx, _, rfl, d.ob, fl_no (by decide +kernel), _, rfl, _, _, rfl, rfl, p, st, own, av, m - 1, (by show [V.ref p, V.int ((m : Int) - 1)] = _; rw [em]), hd, by omega, fun H2 d2 s2 hr2 => ?_⟩
    have dd2 := d.keep s2
    obtain ⟨kvs2, hd2, rk2⟩ := hr2.out
    -- fresh
    refine ⟨_, rfl, p, dx, _, rfl, dd2.ob, fl_no (by decide +kernel), _, rfl, p, st, own, av, m, rfl, ⟨_, _, _, _, _, _, dd2⟩, c'.2, fun H3 d1 s3 hr3 => ?_⟩
    obtain ⟨kvs1, hd1, rk1⟩ := hr3.out
    have hd23 := s3 _ _ hd2
    refine ⟨d1, kvs1, rfl, hd1, fun od D hD => ?_⟩
    obtain ⟨hDd1, hDH⟩ := upd_none hD
    refine lc_it walk_keys (fun i H' => But d1 H3 H' ∧ H' d1 = some (.frz od (.dK kvs1)) ∧ H' D = some (.lst (nl (goneL ((rdAt st m).take i) (rdAt st (m - 1))))))
      ⟨(But.lock d1 H3 _).same (same_upd hD), (same_upd hD) _ _ upd_same, upd_same⟩ (fun i H' _ z => z.2.1) ?_ ?_
    · rintro i x H4 H5 hi ⟨hb, hl, hp⟩ ⟨rfl, kk, vv, hkv, rfl⟩
      obtain ⟨g, hg, ek⟩ := rk1.key hkv
      rw [ek]
      have hgs := goneL_snoc ((rdAt st m).take i) (rdAt st (m - 1)) g
      rw [← take_more hg] at hgs
      refine ⟨rfl, _, rfl, _, rfl, d2, _, rfl, DGet.rd (k := Sum.inl (g.num : Int)) (hb.rd hd1 hl hd23), _, rfl, ?_⟩
      rw [rk2.has]
      refine ite2 (fun c2 => ?_) (fun c2 => ?_)
      · refine ⟨_, rfl, _, hp, ?_, fun x o e hx => ?_, ?_, ?_⟩
        · rw [nl_len]
          have h1 := goneL_len ((rdAt st m).take i) (rdAt st (m - 1))
          have h2 := (ok.rdAt m).2.2.few
          rw [List.length_map] at h2
          rw [List.length_take] at h1
          exact small1000 (by omega)
        · rw [upd_ne (ne_of_none e hDH)]; exact hb x o e hx
        · rw [upd_ne hDd1.symm]; exact hl
        · rw [upd_same, hgs, if_pos c2, nl_app]; rfl
      · refine ⟨hb, hl, ?_⟩
        rw [hgs, if_neg c2, List.append_nil]; exact hp
    rintro H4 ⟨hb, hl, hp⟩
    rw [rk1.len, List.take_length, ← eg] at hp
    refine ⟨d1, od, _, hl, fun o' u' z => ?_, ?_⟩
    · rw [s3 _ _ z] at hd1; cases hd1
    have s4 : Same H3 (upd H4 d1 (.dK kvs1)) := hb.open hd1
    have hp4 : (upd H4 d1 (.dK kvs1)) D = some (.lst (nl es)) := by rw [upd_ne hDd1]; exact hp
    generalize upd H4 d1 (.dK kvs1) = H5 at *
    -- return [len(fresh)] + sorted(fresh)
    refine ⟨_, rfl, D, _, rfl, .inl (.of hp4), (by show 1 ≤ sizeLine; decide), fun pt nt => ?_⟩
    rw [nl_len]
    have s5 := same_upd (o := .lst [V.int (es.length : Int)]) nt
    have hp5 := s5 _ _ hp4
    have f5 : (upd H5 pt (.lst [V.int (es.length : Int)])) pt = some (.lst [V.int (es.length : Int)]) := upd_same
    generalize upd H5 pt (.lst [V.int (es.length : Int)]) = H6 at *
    rw [nl_ints] at hp5
    refine ⟨_, rfl, D, _, rfl, .of hp5, fun ys p2 hperm hsort n2 => ?_⟩
    rw [sorted_rising (nodup_of_sorted hrise) hperm hsort, rising_self hrise, ← nl_ints]
    have s6 := same_upd (o := .lst (nl es)) n2
    refine ⟨pt, p2, _, _, rfl, rfl, s6 _ _ f5, upd_same, ?_, fun p4 n4 => ?_⟩
    · rw [nl_len]; exact Nat.le_of_lt (small1000 (by show 1 + _ ≤ 1000; omega))
    · have sA : Same H H6 := s2.trans (s3.trans (s4.trans s5))
      refine q _ p4 (sA.trans (s6.trans (same_upd n4))) (sA.free (s6.free n4)) ?_
      rw [upd_same, step_begun, rdAt_roundAt c'.1 c'.2]
      show _ = some (HO.lst ((Rl07.ints ((begunAt st m).length :: begunAt st m)).map V.int))
      rw [hes, ints_nl]; rfl
end
end NK
namespace NK
open PySem PySem.Spec PyProof.Rows L2
/-! ### numbers given, group by group -/
theorem number_snoc (g : List Nat) (o : Option Nat) : ∀ (l : List (List Nat × Option Nat)) (n : Nat), Rl07.number (l ++ [(g, o)]) n = ((Rl07.number l n).1 ++ [⟨o.getD (Rl07.number l n).2, g⟩], (Rl07.number l n).2 + (if o = none then 1 else 0))
  | [], n => by cases o <;> rfl
  | (h, some k) :: l, n => by
    show ((⟨k, h⟩ : Rl07.Group) :: (Rl07.number (l ++ [(g, o)]) n).1, (Rl07.number (l ++ [(g, o)]) n).2) = _
    rw [number_snoc g o l n]; rfl
  | (h, none) :: l, n => by
    show ((⟨n, h⟩ : Rl07.Group) :: (Rl07.number (l ++ [(g, o)]) (n + 1)).1, (Rl07.number (l ++ [(g, o)]) (n + 1)).2) = _
    rw [number_snoc g o l (n + 1)]; rfl
theorem number_pre (n : Nat) : ∀ (l m : List (List Nat × Option Nat)), ∃ r, (Rl07.number (l ++ m) n).1 = (Rl07.number l n).1 ++ r := by
  intro l m
  induction m using snoc_ind with
  | h0 => exact ⟨[], by simp⟩
  | hs m a ih =>
    obtain ⟨r, hr⟩ := ih
    obtain ⟨g, o⟩ := a
    rw [← List.append_assoc, number_snoc, hr]
    exact ⟨_, List.append_assoc _ _ _⟩
theorem RK.nums {H : Hp} {n : Nat} : ∀ {r kvs}, RK H r kvs → n ∉ r.map (·.num) → valV kvs (Sum.inl (n : Int) : Key) = none
  | _, _, .nil, _ => rfl
  | _, _, .cons (g := g) h k, hn => by
    simp only [List.map_cons, List.mem_cons, not_or] at hn
    rw [valV_neg (inl_ne fun z => hn.1 z.symm)]
    exact k.nums hn.2
section
variable {P : Program} {w : World} {K : PySem.W.Frag} {mg : Str → Option Value} {base : Heap} {C : Addr}
abbrev sGive : Stmt := inClass sCls 3
theorem scGive : FnScope ["self", "groups", "ahead", "now", "way", "number", "records"] ["self", "groups", "ahead"] (defScope sGive) := ⟨rfl, rfl, rfl, by decide +kernel, rfl, by decide +kernel, by decide +kernel⟩
def newRound (s : Rl07.St) (gs : List (List Nat)) : Rl07.Round × Nat := Rl07.number (gs.zip (Rl07.best (Rl07.now s) s.holds gs)) s.next
def spGive (K : PySem.W.Frag) (C : Addr) : Sp := fun vs H Q _ => ∃ (p b d dx pr pl ph : Addr) (s : Rl07.St) (gs : List (List Nat)) (us : List V) (hk : Rl07.Holds), vs = [.ref p, .ref b, .ref d] ∧ H p = some (.ins C dx (flds pr pl ph (s.next : Int))) ∧ H ph = some (.dK (heldD hk)) ∧ hk.Perm s.holds ∧ SqL K H b us ∧ Rows H gs us ∧ Groups gs ∧ RoundAt H d (Rl07.now s) ∧ Ok s ∧
  ∀ H' e kvs, H e = none → H' e = some (.dK kvs) → RK H' (newRound s gs).1 kvs → (∀ x, x ∈ kvs.map (·.2) → x ∈ us) → H' p = some (.ins C dx (flds pr pl ph ((newRound s gs).2 : Int))) → (∀ c o, H c = some o → c ≠ p → H' c = some o) → Q (.ref e) H'
theorem ok_give {f : Addr} {fd : FuncData} {k : Nat} (F : Fun K "give_numbers" "Desk.give_numbers" sGive f fd) (T : Txt mg) (TC : CTxt K C) (B : Def P w K mg base (k + 3) "best_way" ["groups", "ahead", "held"] (spBest K)) : FnOk P w K mg base CX0 (k + 4) f fd ["self", "groups", "ahead"] (spGive K C) := by
  obtain ⟨fb, fdb, mB, kB, bB, GB⟩ := B
  obtain ⟨tN, gN⟩ := T.new
  refine F.ok scGive (fun vs H Q E h => ?_) (fun cdv A outer s H vs Q E hr h => ?_)
  · obtain ⟨p, b, d, dx, pr, pl, ph, s, gs, us, hk, rfl, _⟩ := h
    rfl
  · obtain ⟨p, b, d, dx, pr, pl, ph, st, gs, vs, hk, rfl, hp, hH, hpm, hB, rB, hg, hd, ok, q⟩ := h
    have hu := hu_of hr
    refine ⟨_, pss_cons (ps_set (i := 3) scGive.nd rfl (.inl rfl) pe_dnewK)
      (pss_cons (ps_set (i := 4) scGive.nd rfl (.inl rfl) (pe_call GB hr (by rfl) mB kB bB .nil pass0 (pa_cons (pv 1) (pa_cons (pv 2) (pa_cons (pe_fld (pv 0) rfl) pa_nil)))))
      (pss_cons (ps_for PassesOwn.never rfl (pi_zip (by rfl) T.zip (pa_cons (pv 4) (pa_cons (pv 1) pa_nil)))
          (pg_tup rfl (pgs_cons (pg_name (i := 5) scGive.nd rfl (.inl rfl)) (pgs_cons (pg_name (i := 6) scGive.nd rfl (.inl rfl)) pgs_nil)))
        (pss_one (ps_if (pt_cmpR op_eq (pv 5) (pe_gi gN) (nomark _))
          (pss_cons (ps_dput hu (pv 3) (pe_fld (pv 0) rfl) (pv 6) rfl) (pss_one (ps_fldaug (pv 0) pe_int in_add)))
          (pss_one (ps_dput hu (pv 3) (pv 5) (pv 6) rfl)))))
      (pss_one (ps_ret (pv 3))))), ?_⟩
    have hb := best_ok (old := Rl07.now st) ok.holds.1 hg.apart
    have hsp := number_spec gs _ st.next hb.len
    have hold : ∀ n ∈ (Rl07.best (Rl07.now st) st.holds gs).filterMap id, 1 ≤ n ∧ n < st.next := fun n hw => by
      obtain ⟨o, ho, e⟩ := List.mem_map.mp (hb.old n hw)
      rw [← e]
      exact ok.now.2.1 o ho
    have hnd := hsp.2.2.2 hb.nodup fun n hn => (hold n hn).2
    have hfew := hg.few
    generalize hwd : Rl07.best (Rl07.now st) st.holds gs = way at *
    have hwl := hb.len
    -- now = {}
    intro e ne
    have s1 : Same H (upd H e (.dK [])) := same_upd ne
    have f1 : (upd H e (.dK [])) e = some (.dK []) := upd_same
    generalize upd H e (.dK []) = H1 at *
    have hpe : p ≠ e := ne_of_none hp ne
    have hkl : hk.length ≤ 900 := by
      have h1 := ok.holds_len
      have h2 := ok.few
      have h3 := hpm.length_eq
      omega
    refine ⟨_, rfl, _, rfl, _, rfl, p, C, dx, _, _, rfl, s1 _ _ hp, TC.cl, TC.nH, fl_held, b, d, ph, gs, _, st.next, hk, st.holds, rfl, ⟨vs, s1.seq hB, rB.keep s1⟩, hg, hd.keep s1, ok.now, s1 _ _ hH, hpm, ok.holds.1, hkl, fun H2 pb s2 h2 => ?_⟩
    rw [hwd] at h2
    have sH2 := s1.trans s2
    have hpp : pb ≠ p := ne_of h2 (sH2 _ _ hp) (by intro z; cases z)
    have hpbe : pb ≠ e := ne_of h2 (s2 _ _ f1) (by intro z; cases z)
    have hbp : ∀ {H' : Hp}, (∀ c o, H2 c = some o → c ≠ p → c ≠ e → H' c = some o) → SqL K H' b vs := fun {H'} fr => by
      have hf : Frm [p, e] H2 H' := fun c o z hc => fr c o z (fun y => hc (by simp [y])) (fun y => hc (by simp [y]))
      rcases sH2.seq hB with (z | ⟨o, z⟩) | z
      · exact .inl (.inl (fr _ _ z (ne_of z (sH2 _ _ hp) (by intro y; cases y)) (ne_of z (s2 _ _ f1) (by intro y; cases y))))
      · exact .inl (.inr ⟨o, fr _ _ z (ne_of z (sH2 _ _ hp) (by intro y; cases y)) (ne_of z (s2 _ _ f1) (by intro y; cases y))⟩)
      · exact .inr z
    have hgl := rB.len
    refine ⟨_, rfl, _, rfl, pb, b, _, _, rfl, .of h2, sH2.seq hB, for_it (walk_zip (xs := nl (way.map enc)) (ys := vs) (n := gs.length) (by rw [nl_len, List.length_map]; omega))
      (fun i σ H' => ∃ v4 v5 kvs, σ = [some (.ref p), some (.ref b), some (.ref d), some (.ref e), some (.ref pb), v4, v5] ∧ (∀ c o, H2 c = some o → c ≠ p → c ≠ e → H' c = some o) ∧ H' p = some (.ins C dx (flds pr pl ph ((Rl07.number ((gs.zip way).take i) st.next).2 : Int))) ∧
        H' e = some (.dK kvs) ∧ RK H (Rl07.number ((gs.zip way).take i) st.next).1 kvs ∧ ∀ x, x ∈ kvs.map (·.2) → x ∈ vs)
      ⟨none, none, [], rfl, fun c o z _ _ => z, sH2 _ _ hp, s2 _ _ f1, .nil, by simp⟩ (fun i σ H' _ ⟨_, _, _, _, fr, _⟩ => ⟨.of (fr _ _ h2 hpp hpbe), hbp fr⟩) ?_ ?_⟩
    · rintro i x σ H3 H4 hi ⟨v4, v5, kvs, rfl, fr, hp3, he3, rk, hin⟩ ⟨Tp, x1, x2, rfl, nT, rfl, g1, g2⟩
      obtain ⟨n, hn, rfl⟩ := nl_get g1
      obtain ⟨g, a, hgi, rfl, ha⟩ := rB.get g2
      rw [List.getElem?_map] at hn
      obtain ⟨o, ho, rfl⟩ := Option.map_eq_some_iff.mp hn
      have hz : (gs.zip way)[i]? = some (g, o) := List.getElem?_zip_eq_some.mpr ⟨hgi, ho⟩
      have hT : Same H3 (upd H3 Tp (.tup [V.int (enc o : Int), V.ref a])) := same_upd nT
      have hp4 := hT _ _ hp3
      have he4 := hT _ _ he3
      have hrl : (Rl07.number ((gs.zip way).take i) st.next).1.length ≤ 6 := by
        have h1 : ∀ (l : List (List Nat × Option Nat)) (n : Nat), (Rl07.number l n).1.length = l.length := by
          intro l
          induction l with
          | nil => intro n; rfl
          | cons x l ih =>
            intro n
            obtain ⟨h, o⟩ := x
            cases o with
            | none => show (Rl07.number l (n + 1)).1.length + 1 = _; rw [ih]; rfl
            | some k => show (Rl07.number l n).1.length + 1 = _; rw [ih]; rfl
        rw [h1, List.length_take]
        have : (gs.zip way).length = gs.length := by rw [List.length_zip]; omega
        omega
      have hkl : kvs.length < sizeLine := small1000 (by rw [rk.len]; omega)
      -- the number is new among those given in this round
      have hnew : o.getD (Rl07.number ((gs.zip way).take i) st.next).2 ∉ (Rl07.number ((gs.zip way).take i) st.next).1.map (·.num) := by
        obtain ⟨r, hr⟩ := number_pre st.next ((gs.zip way).take (i + 1)) ((gs.zip way).drop (i + 1))
        rw [List.take_append_drop] at hr
        rw [hr, take_more hz, number_snoc, List.map_append, List.map_append] at hnd
        have h1 := (List.nodup_append.mp hnd).1
        intro z
        exact (List.nodup_append.mp h1).2.2 _ z (o.getD (Rl07.number ((gs.zip way).take i) st.next).2) (by simp) rfl
      have hin2 : ∀ (kk : Key) (x : V), x ∈ (kvs ++ [(kk, V.ref a)]).map (·.2) → x ∈ vs := fun kk x hx => by
        rw [List.map_append] at hx
        rcases List.mem_append.mp hx with z | z
        · exact hin x z
        · have : x = V.ref a := by simpa using z
          rw [this]; exact List.mem_of_getElem? g2
      have hst := number_snoc g o ((gs.zip way).take i) st.next
      rw [← take_more hz] at hst
      refine ⟨Tp, _, rfl, .of upd_same, rfl, _, _, rfl, _, _, rfl, rfl, ?_⟩
      have fr4 : ∀ c z, H2 c = some z → c ≠ p → c ≠ e → (upd H3 Tp (.tup [V.int (enc o : Int), V.ref a])) c = some z := fun c z hc h1 h2' => hT _ _ (fr c z hc h1 h2')
      generalize upd H3 Tp (.tup [V.int (enc o : Int), V.ref a]) = H4 at *
      refine ⟨_, rfl, rfl, _, rfl, ?_⟩
      cases o with
      | none =>
        refine iteD (fun _ => ?_) (fun c => absurd rfl c)
        refine ⟨_, rfl, _, rfl, _, rfl, p, C, dx, _, _, rfl, hp4, TC.cl, TC.nN, fl_next, e, _, rfl, DPut.k (k := Sum.inl ((Rl07.number ((gs.zip way).take i) st.next).2 : Int)) he4 hkl, ?_⟩
        have hp5 : ∀ z, (upd H4 e z) p = some (.ins C dx (flds pr pl ph ((Rl07.number ((gs.zip way).take i) st.next).2 : Int))) := fun z => by rw [upd_ne hpe]; exact hp4
        refine ⟨_, rfl, p, C, dx, _, _, rfl, hp5 _, TC.cl, TC.nN, fl_next, _, _, rfl, rfl, dx, _, hp5 _, (by rw [fl_len]; decide), ?_⟩
        refine ⟨_, _, _, rfl, fun c z hc h1 h2' => ?_, ?_, by rw [upd_ne hpe.symm, upd_same], ?_, ?_⟩
        · rw [upd_ne h1, upd_ne h2']; exact fr4 c z hc h1 h2'
        · rw [upd_same, hst, fl_put]; rfl
        · rw [hst, show putK kvs (Sum.inl ((Rl07.number ((gs.zip way).take i) st.next).2 : Int) : Key) (V.ref a) = _ from putK_new _ (rk.nums hnew)]
          exact rk.snoc (g := ⟨(Rl07.number ((gs.zip way).take i) st.next).2, g⟩) ha
        · rw [show putK kvs (Sum.inl ((Rl07.number ((gs.zip way).take i) st.next).2 : Int) : Key) (V.ref a) = _ from putK_new _ (rk.nums hnew)]
          exact hin2 _
      | some m =>
        have hm : m ≠ 0 := fun z => by
          have := (hold m (List.mem_filterMap.mpr ⟨some m, List.mem_of_getElem? ho, rfl⟩)).1
          omega
        refine iteD (fun c => absurd (V.int.inj c) (by show ¬ ((m : Int) = 0); omega)) (fun _ => ?_)
        refine ⟨_, rfl, _, rfl, _, rfl, e, _, rfl, DPut.k (k := Sum.inl (m : Int)) he4 hkl, ?_⟩
        refine ⟨_, _, _, rfl, fun c z hc h1 h2' => ?_, ?_, upd_same, ?_, ?_⟩
        · rw [upd_ne h2']; exact fr4 c z hc h1 h2'
        · rw [upd_ne hpe, hst]; exact hp4
        · rw [hst, show putK kvs (Sum.inl (m : Int) : Key) (V.ref a) = _ from putK_new _ (rk.nums hnew)]
          exact rk.snoc (g := ⟨m, g⟩) ha
        · rw [show putK kvs (Sum.inl (m : Int) : Key) (V.ref a) = _ from putK_new _ (rk.nums hnew)]
          exact hin2 _
    · rintro σ H3 ⟨v4, v5, kvs, rfl, fr, hp3, he3, rk, hin⟩
      have hl : (gs.zip way).length = gs.length := by rw [List.length_zip]; omega
      rw [← hl, List.take_length] at hp3 rk
      have en : newRound st gs = Rl07.number (gs.zip way) st.next := by unfold newRound; rw [hwd]
      have hfr : ∀ c z, H c = some z → c ≠ p → H3 c = some z := fun c z hc h1 => fr c z (sH2 _ _ hc) h1 (ne_of_none hc ne)
      refine ⟨_, rfl, q H3 e kvs ne he3 ?_ hin ?_ hfr⟩
      · rw [en]
        exact rk.keep fun c xs hc => hfr c _ hc (ne_of hc hp (by intro z; cases z))
      · rw [en]; exact hp3
end
end NK
namespace NK
open PySem PySem.Spec PyProof.Rows L2
theorem ledD_app (a b : List (Nat × (Nat × Nat))) : ledD (a ++ b) = ledD a ++ ledD b := List.map_append
/-- what ended among the first groups -/
def endsIn (s : Rl07.St) (r : Rl07.Round) (i : Nat) : List (Nat × (Nat × Nat)) := (((Rl07.now s).take i).filter fun o => !r.any fun g => g.num == o.num).map fun o => (o.num, (s.rounds.length + 1, Rl07.heir r o.recs))
theorem endsIn_all (s : Rl07.St) (r : Rl07.Round) : endsIn s r (Rl07.now s).length = Rl07.endings s r := by
  unfold endsIn Rl07.endings
  rw [List.take_length]
theorem RK.keepR {H H' : Hp} : ∀ {r kvs}, RK H r kvs → (∀ a, V.ref a ∈ kvs.map (·.2) → ∀ o, H a = some o → H' a = some o) → RK H' r kvs
  | _, _, .nil, _ => .nil
  | _, _, .cons h k, s => .cons (s _ (by simp) _ h) (k.keepR fun a ha => s a (by simp only [List.map_cons, List.mem_cons]; exact .inr ha))
/-- what a call does: the desk behind it, what stands, the answer -/
def Does (C : Addr) (p : Addr) (s : Rl07.St) (own av : List Addr) (c : Rl07.Call) (H : Hp) (Q : VK) : Prop :=
  ∀ H' q own', Desk C H' p (Rl07.step s c).1 own' av → Frm own H H' → (∀ b ∈ own', b ∈ own ∨ H b = none) → H q = none → H' q = some (.lst ((Rl07.step s c).2.map V.int)) → Q (.ref q) H'
theorem Desk.keep {C : Addr} {H H' : Hp} {p : Addr} {s : Rl07.St} {own av : List Addr} (k : Same H H') (d : Desk C H p s own av) : Desk C H' p s own av := let ⟨_, _, _, _, _, _, d⟩ := d; ⟨_, _, _, _, _, _, d.keep k⟩
theorem Does.same {C : Addr} {p : Addr} {s : Rl07.St} {own av : List Addr} {c : Rl07.Call} {H : Hp} {Q : VK} (d : Does C p s own av c H Q) (hd : Desk C H p s own av) {ans : List Int} (e : Rl07.step s c = (s, ans)) {H' : Hp} {q : Addr} (k : Same H H') (hq : H q = none) (hh : H' q = some (.lst (ans.map V.int))) : Q (.ref q) H' := by
  refine d H' q own ?_ (Frm.of_same k) (fun b hb => .inl hb) hq ?_
  · rw [e]; exact hd.keep k
  · rw [e]; exact hh
section
variable {P : Program} {w : World} {K : PySem.W.Frag} {mg : Str → Option Value} {base : Heap} {C : Addr}
abbrev sRound : Stmt := inClass sCls 2
theorem scRound : FnScope ["self", "told", "ahead", "now", "number", "records"] ["self", "told"] (defScope sRound) := ⟨rfl, rfl, rfl, by decide +kernel, rfl, by decide +kernel, by decide +kernel⟩
def spRound (K : PySem.W.Frag) (C : Addr) : Sp := fun vs H Q _ => ∃ (p a : Addr) (s : Rl07.St) (own av : List Addr) (l : List Nat), vs = [.ref p, .ref a] ∧ Desk C H p s own av ∧ Ok s ∧ SqL K H a (nl l) ∧ l.length ≤ 1000 ∧ Does C p s own av (.round l) H Q
theorem ok_round {f : Addr} {fd : FuncData} {k : Nat} (F : Fun K "take_round" "Desk.take_round" sRound f fd) (T : Txt mg) (TM : ∃ t, mg "MOST_ROUNDS" = some (.int 30 t)) (TC : CTxt K C)
    (dC : Def P w K mg base k "can_be_told" ["told"] (spCan K)) (dG : Def P w K mg base k "groups_told" ["told"] (spGrp K)) (dL : Def P w K mg base k "where_it_led" ["records", "now"] (spLed K)) (dT : Def P w K mg base k "groups_in_numbers" ["groups"] (spTell K))
    (mL : MDef P w K mg base C k "last_round" ["self"] (spLast C)) (mG : MDef P w K mg base C k "give_numbers" ["self", "groups", "ahead"] (spGive K C)) : FnOk P w K mg base CX0 (k + 1) f fd ["self", "told"] (spRound K C) := by
  obtain ⟨f1, fd1, m1, k1, b1, G1⟩ := dC
  obtain ⟨f2, fd2, m2, k2, b2, G2⟩ := dG
  obtain ⟨f3, fd3, m3, k3, b3, G3⟩ := dL
  obtain ⟨f4, fd4, m4, k4, b4, G4⟩ := dT
  obtain ⟨f5, fd5, m5, b5, G5⟩ := mL
  obtain ⟨f6, fd6, m6, b6, G6⟩ := mG
  obtain ⟨tM, gM⟩ := TM
  refine F.ok scRound (fun vs H Q E h => ?_) (fun cdv A outer s H vs Q E hr h => ?_)
  · obtain ⟨p, a, s, own, av, l, rfl, _⟩ := h
    rfl
  · obtain ⟨p, a, st, own, av, l, rfl, hdk, ok, hA, hl1, q⟩ := h
    have hu := hu_of hr
    refine ⟨_, pss_cons (ps_if (pt_not (pt_val (pe_call G1 hr (by rfl) m1 k1 b1 .nil pass0 (pa_cons (pv 1) pa_nil)))) (pss_one (ps_ret (pe_lst (pa_cons (pe_un un_neg pe_int) pa_nil)))) pss_nil)
      (pss_cons (ps_if (pt_cmpR op_eq (pe_callB call_len_seq (by rfl) T.len PySem.boot_len (pa_cons (pe_fld (pv 0) rfl) pa_nil)) (pe_gi gM) (nomark _)) (pss_one (ps_ret (pe_lst (pa_cons (pe_un un_neg pe_int) pa_nil)))) pss_nil)
      (pss_cons (ps_set (i := 2) scRound.nd rfl (.inl rfl) (pe_meth0 (pv 0) TC.cl m5 G5 hr b5 .nil pass0))
      (pss_cons (ps_set (i := 3) scRound.nd rfl (.inl rfl) (pe_meth (pv 0) TC.cl m6 G6 hr b6 .nil pass0 (pa_cons (pe_call G2 hr (by rfl) m2 k2 b2 .nil pass0 (pa_cons (pv 1) pa_nil)) (pa_cons (pv 2) pa_nil))))
      (pss_cons (ps_lock (ps_for PassesOwn.never rfl (pi_items (pv 2)) (pg_tup rfl (pgs_cons (pg_name (i := 4) scRound.nd rfl (.inl rfl)) (pgs_cons (pg_name (i := 5) scRound.nd rfl (.inl rfl)) pgs_nil)))
        (pss_one (ps_if (pt_cmp (pc_dnotin hu (pv 4) (pv 3))) (pss_one (ps_dput hu (pe_fld (pv 0) rfl) (pv 4) (pe_call G3 hr (by rfl) m3 k3 b3 .nil pass0 (pa_cons (pv 5) (pa_cons (pv 3) pa_nil))) rfl)) pss_nil))))
      (pss_cons (ps_expr (pe_bm PySem.F.plainAttrs_list PySem.F.slot_list_append PySem.F.type_list_append mt_append (pe_fld (pv 0) rfl) (pa_cons (pv 3) pa_nil)))
      (pss_one (ps_ret (pe_op op_cat (pe_lst (pa_cons (pe_callB call_len_seq (by rfl) T.len PySem.boot_len (pa_cons (pe_fld (pv 0) rfl) pa_nil)) pa_nil)) (pe_call G4 hr (by rfl) m4 k4 b4 .nil pass0 (pa_cons (pv 3) pa_nil)))))))))), ?_⟩
    -- if not can_be_told(told): return [-1]
    refine ⟨_, rfl, a, l, rfl, hA, hl1, fun H1 s1 => ?_⟩
    refine ⟨_, rfl, ?_⟩
    by_cases t' : ¬ Told l
    · have t := t'
      rw [told_none t]
      refine iteT ?_
      refine ⟨1, rfl, (by show 1 ≤ sizeLine; decide), fun pq nq => ?_⟩
      refine q.same hdk (ans := [-1]) ?_ (s1.trans (same_upd nq)) (s1.free nq) upd_same
      show (match Rl07.told? l with
        | none => (st, [-1])
        | some p => if 30 ≤ st.rounds.length then (st, [-6]) else
          let t := Rl07.round st p
          (t, (t.rounds.length : Int) :: Rl07.roundTold (Rl07.now t)) : Rl07.St × List Int) = _
      rw [told_none t]
    have t : Told l := Classical.not_not.mp t'
    rw [told_some t]
    refine iteF ?_
    have hstep : Rl07.step st (.round l) = if 30 ≤ st.rounds.length then (st, [-6]) else (Rl07.round st (prs l), ((Rl07.round st (prs l)).rounds.length : Int) :: Rl07.roundTold (Rl07.now (Rl07.round st (prs l)))) := by
      show (match Rl07.told? l with
        | none => (st, [-1])
        | some p => if 30 ≤ st.rounds.length then (st, [-6]) else
          let t := Rl07.round st p
          (t, (t.rounds.length : Int) :: Rl07.roundTold (Rl07.now t)) : Rl07.St × List Int) = _
      rw [told_some t]
    obtain ⟨dx, pr, pl, ph, as, hk, d⟩ := id hdk
    have d1 := d.keep s1
    have hl := d.len
    -- if len(self.rounds) == MOST_ROUNDS: return [-6]
    refine ⟨_, rfl, p, C, dx, _, _, rfl, d1.ob, TC.cl, TC.nR, fl_rounds, pr, _, rfl, .inl (.of d1.rl), rfl, _, rfl, ?_⟩
    rw [List.length_map, hl]
    have h30 := ok.many
    refine iteD (fun c => ?_) (fun c => ?_)
    · have c' : (st.rounds.length : Int) = 30 := V.int.inj c
      refine ⟨6, rfl, (by show 1 ≤ sizeLine; decide), fun pq nq => ?_⟩
      refine q.same hdk (ans := [-6]) ?_ (s1.trans (same_upd nq)) (s1.free nq) upd_same
      rw [hstep, if_pos (by omega)]
    have hlt : st.rounds.length < 30 := by
      have : ¬ (st.rounds.length : Int) = 30 := fun z => c (congrArg V.int z)
      omega
    -- ahead = self.last_round()
    refine ⟨_, rfl, p, dx, _, rfl, d1.ob, fl_no (by decide +kernel), p, st, own, av, rfl, ⟨_, _, _, _, _, _, d1⟩, fun H2 da s2 hra => ?_⟩
    have d2 := d1.keep s2
    have s12 := s1.trans s2
    -- groups_told(told)
    refine ⟨_, rfl, p, dx, _, rfl, d2.ob, fl_no (by decide +kernel), _, rfl, a, l, rfl, s12.seq hA, t, fun H3 pg us s3 n3 hSg hRg hfresh => ?_⟩
    have d3 := d2.keep s3
    have s13 := s12.trans s3
    have hra3 : RoundAt (minus H3 (own ++ av)) da (Rl07.now st) := hra.keep (Frm.of_same s3).minus
    have hgr := groups_told t
    -- give_numbers
    refine ⟨_, rfl, p, pg, da, dx, pr, pl, ph, st, _, us, hk, rfl, d3.ob, d3.hd, d3.pm, hSg, hRg, hgr, hra3.keep (minus_same _ _), ok, fun H4 e ekv n4 hekv erk hkin hp4 fr4 => ?_⟩
    obtain ⟨okr, hnx⟩ := ok.round hlt t
    have enew : newRound st (Rl07.groupsOf (prs l)) = (Rl07.now (Rl07.round st (prs l)), (Rl07.round st (prs l)).next) := rfl
    rw [enew] at erk hp4
    generalize hrd : Rl07.now (Rl07.round st (prs l)) = r at *
    have hrok : RoundOk (Rl07.round st (prs l)).next r := by rw [← hrd]; exact okr.now
    have eend : (Rl07.round st (prs l)).ended = st.ended ++ Rl07.endings st r := by rw [← hrd]; rfl
    have erd : (Rl07.round st (prs l)).rounds = r :: st.rounds := by rw [← hrd]; rfl
    have eo := d.mine
    -- where things are
    have hppr : pr ≠ p := ne_of d3.rl d3.ob (by intro z; cases z)
    have hppl : pl ≠ p := ne_of d3.ld d3.ob (by intro z; cases z)
    have hprl : pr ≠ pl := ne_of d3.rl d3.ld (by intro z; cases z)
    have hpph : ph ≠ p := ne_of d3.hd d3.ob (by intro z; cases z)
    have hprh : ph ≠ pr := (ne_of d3.rl d3.hd (by intro z; cases z)).symm
    have hplh : ph ≠ pl := d.two.symm
    have hph4 := fr4 _ _ d3.hd hpph
    have hpr4 := fr4 _ _ d3.rl hppr
    have hpl4 := fr4 _ _ d3.ld hppl
    obtain ⟨akv, hakv, ark⟩ := hra3
    have hda2 : da ∉ own ++ av := fun z => by rw [minus_in z] at hakv; cases hakv
    rw [minus_out hda2] at hakv
    have hda : da ∉ own := fun z => hda2 (List.mem_append.mpr (.inl z))
    have hdap : da ≠ p := fun z => hda (by rw [eo, z]; simp)
    have hdapl : da ≠ pl := fun z => hda (by rw [eo, z]; simp)
    have hdaph : da ≠ ph := fun z => hda (by rw [eo, z]; simp)
    have hdapr : da ≠ pr := fun z => hda (by rw [eo, z]; simp)
    have hda4 := fr4 _ _ hakv hdap
    have hde : da ≠ e := ne_of_none hakv n4
    have hep : e ≠ p := (ne_of_none d3.ob n4).symm
    have hepl : e ≠ pl := (ne_of_none d3.ld n4).symm
    have hepr : e ≠ pr := (ne_of_none d3.rl n4).symm
    -- the groups of the round ahead: lists that are not one's own
    have hls : ∀ {i : Nat} {g : Rl07.Group} {b : Addr}, (Rl07.now st)[i]? = some g → minus H3 (own ++ av) b = some (.lst (nl g.recs)) → H4 b = some (.lst (nl g.recs)) ∧ b ∉ own := fun {i g b} _ hb => by
      have hbo2 : b ∉ own ++ av := fun z => by rw [minus_in z] at hb; cases hb
      rw [minus_out hbo2] at hb
      have hbo : b ∉ own := fun z => hbo2 (List.mem_append.mpr (.inl z))
      exact ⟨fr4 _ _ hb fun z => hbo (by rw [eo, z]; simp), hbo⟩
    -- the loop over the round ahead
    refine ⟨da, _, hda4, trivial, fun od => ?_⟩
    refine ⟨_, rfl, da, od, akv, rfl, upd_same, for_it walk_items (fun i σ H' => ∃ v4 v5, σ = [some (.ref p), some (.ref a), some (.ref da), some (.ref e), v4, v5] ∧ (∀ b o, H4 b = some o → b ≠ da → b ≠ pl → H' b = some o) ∧ H' da = some (.frz od (.dK akv)) ∧ H' pl = some (.dK (ledD (st.ended ++ endsIn st r i))))
      ⟨none, none, rfl, fun b o z h1 _ => by rw [upd_ne h1]; exact z, upd_same, by rw [upd_ne hdapl.symm, hpl4]; unfold endsIn; simp⟩ (fun i σ H' _ ⟨_, _, _, _, h, _⟩ => h) ?_ ?_⟩
    · rintro i v σ H5 H6 hi ⟨v4, v5, rfl, fr, hfz, hled⟩ ⟨Tp, a1, a2, rfl, nT, rfl, g1, g2⟩
      obtain ⟨g, b, e1, rfl, rfl, e2⟩ := ark.get' g1 g2
      obtain ⟨hb4, hbo⟩ := hls e1 e2
      have hbda : b ≠ da := ne_of hb4 hda4 (by intro z; cases z)
      have hbpl : b ≠ pl := fun z => hbo (by rw [eo, z]; simp)
      have hT : Same H5 (upd H5 Tp (.tup [V.int (g.num : Int), V.ref b])) := same_upd nT
      have hfz6 := hT _ _ hfz
      have hled6 := hT _ _ hled
      have fr6 : ∀ c o, H4 c = some o → c ≠ da → c ≠ pl → (upd H5 Tp (.tup [V.int (g.num : Int), V.ref b])) c = some o := fun c o z h1 h2 => hT _ _ (fr c o z h1 h2)
      refine ⟨Tp, _, rfl, .of upd_same, rfl, _, _, rfl, _, _, rfl, rfl, ?_⟩
      generalize upd H5 Tp (.tup [V.int (g.num : Int), V.ref b]) = H6 at *
      have hekv6 := fr6 _ _ hekv hde.symm hepl
      refine ⟨_, rfl, _, rfl, e, _, rfl, DGet.k (k := Sum.inl (g.num : Int)) hekv6, _, rfl, ?_⟩
      rw [erk.has]
      have hgn : g.recs.Nodup := ok.now.2.2.nodup _ (List.mem_map.mpr ⟨g, List.mem_of_getElem? e1, rfl⟩)
      refine ite2 (fun c2 => ?_) (fun c2 => ?_)
      · have erk6 : RK H6 r ekv := erk.keep fun c xs hc => fr6 c _ hc (ne_of hc hda4 (by intro z; cases z)) (ne_of hc hpl4 (by intro z; cases z))
        have hgl : g.recs.length ≤ 1000 := by
          have h1 := ok.now.2.2.size
          have h2 := tells_len ok.now (i + 1)
          have et : tells ((Rl07.now st).take (i + 1)) = tells ((Rl07.now st).take i) ++ (g.num :: g.recs.length :: g.recs) := by
            rw [take_more e1]; unfold tells; rw [List.flatMap_append]; simp
          rw [et, List.length_append] at h2
          simp only [List.length_cons] at h2
          omega
        refine ⟨_, rfl, _, rfl, b, e, g.recs, r, rfl, fr6 _ _ hb4 hbda hbpl, hgl, ⟨ekv, hekv6, erk6⟩, fun H7 s7 => ?_⟩
        refine ⟨_, rfl, p, C, dx, _, _, rfl, s7 _ _ (fr6 _ _ hp4 hdap.symm hppl.symm), TC.cl, TC.nL, fl_led, _, rfl, pl, _, rfl, DPut.k (k := Sum.inl (g.num : Int)) (s7 _ _ hled6) ?_, ?_⟩
        · unfold ledD
          rw [List.length_map, List.length_append]
          have h1 := ok.ended_len
          have h2 := ok.fewn
          have h3 : (endsIn st r i).length ≤ 6 := by
            unfold endsIn
            rw [List.length_map]
            have := List.length_filter_le (fun o : Rl07.Group => !r.any fun g => g.num == o.num) ((Rl07.now st).take i)
            rw [List.length_take] at this
            have h6 := ok.now.2.2.few
            rw [List.length_map] at h6
            omega
          exact small1000 (by omega)
        · have hnot : g.num ∉ (st.ended ++ endsIn st r i).map (·.1) := by
            rw [List.map_append]
            intro z
            rcases List.mem_append.mp z with z | z
            · exact ok.only _ z (List.mem_map.mpr ⟨g, List.mem_of_getElem? e1, rfl⟩)
            · unfold endsIn at z
              rw [List.map_map] at z
              obtain ⟨o, ho, eo2⟩ := List.mem_map.mp z
              have hom := (List.mem_filter.mp ho).1
              have hnd := ok.now.1
              rw [split_get e1, List.map_append, List.map_cons] at hnd
              exact (List.nodup_append.mp hnd).2.2 _ (List.mem_map.mpr ⟨o, hom, rfl⟩) g.num (by simp) eo2
          refine ⟨_, _, rfl, fun c o z h1 h2 => ?_, ?_, ?_⟩
          · rw [upd_ne h2]; exact s7 _ _ (fr6 c o z h1 h2)
          · rw [upd_ne hdapl]; exact s7 _ _ hfz6
          · rw [upd_same, putK_new _ (ledD_none hnot)]
            have en : endsIn st r (i + 1) = endsIn st r i ++ [(g.num, (st.rounds.length + 1, Rl07.heir r g.recs))] := by
              unfold endsIn
              rw [take_more e1, List.filter_append, List.filter_cons_of_pos (p := fun o : Rl07.Group => !r.any fun g => g.num == o.num) c2, List.filter_nil, List.map_append]; rfl
            rw [en, ← List.append_assoc, ledD_app (st.ended ++ endsIn st r i) [_], heir_eq hrok hgn]; rfl
      · refine ⟨_, _, rfl, fr6, hfz6, ?_⟩
        have en : endsIn st r (i + 1) = endsIn st r i := by
          unfold endsIn
          rw [take_more e1, List.filter_append, List.filter_cons_of_neg (p := fun o : Rl07.Group => !r.any fun g => g.num == o.num) c2, List.filter_nil, List.append_nil]
        rw [en]; exact hled6
    rintro σ H5 ⟨v4, v5, rfl, fr, hfz, hled⟩
    refine ⟨hfz, ?_⟩
    rw [ark.len, endsIn_all, ← eend] at hled
    -- the round ahead is as it was
    have fr5 : ∀ b o, H4 b = some o → b ≠ pl → (upd H5 da (.dK akv)) b = some o := fun b o z h1 => by
      by_cases hb : b = da
      · subst hb; rw [upd_same, ← z, hda4]
      · rw [upd_ne hb]; exact fr b o z hb h1
    have hled5 : (upd H5 da (.dK akv)) pl = some (.dK (ledD (Rl07.round st (prs l)).ended)) := by rw [upd_ne hdapl.symm]; exact hled
    generalize upd H5 da (.dK akv) = H6 at *
    have hp6 := fr5 _ _ hp4 hppl.symm
    have hpr6 := fr5 _ _ hpr4 hprl
    -- self.rounds.append(now)
    refine ⟨_, rfl, p, C, dx, _, _, rfl, hp6, TC.cl, TC.nR, fl_rounds, .inl ⟨rfl, _, .of hpr6⟩, _, rfl, pr, _, _, rfl, rfl, hpr6, (by rw [List.length_map, hl]; exact small1000 (by omega)), ?_⟩
    have hp7 : ∀ z, (upd H6 pr z) p = some (.ins C dx (flds pr pl ph ((Rl07.round st (prs l)).next : Int))) := fun z => by rw [upd_ne hppr.symm]; exact hp6
    have fr7 : ∀ b o, H4 b = some o → b ≠ pl → b ≠ pr → (upd H6 pr (.lst (as.map V.ref ++ [V.ref e]))) b = some o := fun b o z h1 h2 => by rw [upd_ne h2]; exact fr5 b o z h1
    have hpr7 : (upd H6 pr (.lst (as.map V.ref ++ [V.ref e]))) pr = some (.lst (as.map V.ref ++ [V.ref e])) := upd_same
    have hpl7 : (upd H6 pr (.lst (as.map V.ref ++ [V.ref e]))) pl = some (.dK (ledD (Rl07.round st (prs l)).ended)) := by rw [upd_ne hprl.symm]; exact hled5
    have hp7' := hp7 (.lst (as.map V.ref ++ [V.ref e]))
    have hph7 := fr7 _ _ hph4 hplh hprh
    generalize upd H6 pr (.lst (as.map V.ref ++ [V.ref e])) = H7 at *
    -- return [len(self.rounds)] + groups_in_numbers(now)
    refine ⟨_, rfl, p, C, dx, _, _, rfl, hp7', TC.cl, TC.nR, fl_rounds, pr, _, rfl, .inl (.of hpr7), (by show 1 ≤ sizeLine; decide), fun p8 n8 => ?_⟩
    rw [List.length_append, List.length_map, hl, List.length_singleton]
    have s8 : Same H7 (upd H7 p8 (.lst [V.int ((st.rounds.length + 1 : Nat) : Int)])) := same_upd n8
    have f8 : (upd H7 p8 (.lst [V.int ((st.rounds.length + 1 : Nat) : Int)])) p8 = some (.lst [V.int ((st.rounds.length + 1 : Nat) : Int)]) := upd_same
    generalize upd H7 p8 (.lst [V.int ((st.rounds.length + 1 : Nat) : Int)]) = H8 at *
    have hlr : ∀ c, V.ref c ∈ ekv.map (·.2) → c ∉ own ++ av := fun c hc => d2.out2 (hfresh c (hkin _ hc))
    have hnin : ∀ {c}, c ∉ own ++ av → c ≠ p ∧ c ≠ pr ∧ c ≠ pl := fun {c} hc => by
      rw [eo] at hc
      simp only [List.cons_append, List.nil_append, List.mem_cons, not_or] at hc
      exact ⟨hc.1, hc.2.1, hc.2.2.1⟩
    have erk7 : RK H7 r ekv := erk.keepR fun c hc o z => fr7 c _ z (hnin (hlr c hc)).2.2 (hnin (hlr c hc)).2.1
    have he7 := fr7 _ _ hekv hepl hepr
    refine ⟨_, rfl, e, r, _, rfl, (RoundAt.keep s8 ⟨ekv, he7, erk7⟩), hrok, fun H9 p9 s9 n9 h9 => ?_⟩
    refine ⟨p8, p9, _, _, rfl, rfl, s9 _ _ f8, h9, ?_, fun pq nq => ?_⟩
    · rw [nl_len]
      have := tells_len hrok r.length
      rw [List.take_length] at this
      exact Nat.le_of_lt (small1000 (by simp; omega))
    have s79 : Same H7 H9 := s8.trans s9
    have s7q : Same H7 (upd H9 pq (.lst ([V.int ((st.rounds.length + 1 : Nat) : Int)] ++ nl (r.length :: tells r)))) := s79.trans (same_upd nq)
    -- all that is not one's own stands
    have frH : Frm own H H7 := fun b o z hb => by
      rw [eo] at hb
      simp only [List.mem_cons, List.not_mem_nil, or_false, not_or] at hb
      exact fr7 b o (fr4 b o (s13 _ _ z) hb.1) hb.2.2.1 hb.2.1
    refine q _ pq own ?_ (fun b o z hb => s7q _ _ (frH b o z hb)) (fun b hb => .inl hb) ?_ ?_
    · rw [hstep, if_neg (by omega)]
      refine ⟨dx, pr, pl, ph, as ++ [e], hk, eo, s7q _ _ hp7', ?_, ?_, s7q _ _ hpl7, s7q _ _ hph7, d.pm, d.two, fun b hb => ⟨(d.aw b hb).1, let ⟨o, ho⟩ := (d.aw b hb).2; ⟨o, s7q _ _ (frH _ _ ho (d.aw b hb).1)⟩⟩⟩
      · rw [List.map_append]; exact s7q _ _ hpr7
      · show RdsAt _ (Rl07.round st (prs l)).rounds.reverse _
        rw [erd, List.reverse_cons]
        refine RdsAt.snoc ⟨ekv, ?_, erk.keepR fun c hc o z => ?_⟩ ?_
        · rw [minus_out (d3.out2 n4)]
          exact s7q _ _ he7
        · have hco := hlr c hc
          rw [minus_out hco]
          exact s7q _ _ (fr7 c _ z (hnin hco).2.2 (hnin hco).2.1)
        · exact d.rs.keep (Frm.minus fun b o z hb => s7q _ _ (frH b o z fun y => hb (List.mem_append.mpr (.inl y))))
    · cases eq : H pq with
      | none => rfl
      | some o =>
        by_cases hb : pq ∈ own
        · rw [eo] at hb
          simp only [List.mem_cons, List.not_mem_nil, or_false] at hb
          rcases hb with z | z | z | z
          · rw [z, s79 _ _ hp7'] at nq; cases nq
          · rw [z, s79 _ _ hpr7] at nq; cases nq
          · rw [z, s79 _ _ hpl7] at nq; cases nq
          · rw [z, s79 _ _ hph7] at nq; cases nq
        · rw [s79 _ _ (frH _ _ eq hb)] at nq; cases nq
    · rw [upd_same, hstep, if_neg (by omega)]
      show _ = some (HO.lst ((((Rl07.round st (prs l)).rounds.length : Int) :: Rl07.roundTold r).map V.int))
      rw [erd, List.map_cons]
      unfold Rl07.roundTold
      rw [ints_nl]; rfl
end
end NK
namespace NK
open PySem PySem.Spec PyProof.Rows L2
theorem inl_iff {a b : Nat} : ((Sum.inl (a : Int) : Key) = Sum.inl (b : Int)) ↔ a = b := ⟨fun z => by have := Sum.inl.inj z; omega, fun z => by rw [z]⟩
theorem heldD_put (hk : Rl07.Holds) (n x : Nat) : putK (heldD hk) (Sum.inl (n : Int) : Key) (V.int (x : Int)) = heldD (putH hk n x) := by
  unfold putK putH
  rw [valV_any, heldD_has]
  by_cases c : (hk.any fun h => h.1 == n) = true
  · rw [if_pos c, if_pos c]
    unfold heldD
    rw [List.map_map, List.map_map]
    refine List.map_congr_left fun h _ => ?_
    show (if (Sum.inl (h.1 : Int) : Key) = Sum.inl (n : Int) then _ else _) = _
    by_cases e : h.1 = n
    · rw [if_pos (inl_iff.mpr e)]
      show _ = (fun h : Nat × Nat => ((Sum.inl (h.1 : Int) : Key), V.int (h.2 : Int))) (if h.1 = n then (h.1, x) else h)
      rw [if_pos e]
    · rw [if_neg fun z => e (inl_iff.mp z)]
      show _ = (fun h : Nat × Nat => ((Sum.inl (h.1 : Int) : Key), V.int (h.2 : Int))) (if h.1 = n then (h.1, x) else h)
      rw [if_neg e]
  · rw [if_neg c, if_neg c, heldD_app]; rfl
theorem heldD_drop (hk : Rl07.Holds) (n : Nat) : dropK (heldD hk) (Sum.inl (n : Int) : Key) = heldD (hk.filter fun h => h.1 != n) := by
  unfold dropK heldD
  rw [List.filter_map]
  refine congrArg _ (List.filter_congr fun h _ => ?_)
  show decide ((Sum.inl (h.1 : Int) : Key) ≠ Sum.inl (n : Int)) = (h.1 != n)
  by_cases e : h.1 = n
  · rw [decide_eq_false (p := (Sum.inl (h.1 : Int) : Key) ≠ Sum.inl (n : Int)) fun z => z (inl_iff.mpr e), e, bne_self_eq_false]
  · rw [decide_eq_true (p := (Sum.inl (h.1 : Int) : Key) ≠ Sum.inl (n : Int)) fun z => e (inl_iff.mp z), bne_iff_ne.mpr e]
/-- what is held changes, all else of the desk stands -/
theorem DeskAt.holds {C : Addr} {H : Hp} {p : Addr} {s : Rl07.St} {own av : List Addr} {dx pr pl ph : Addr} {as : List Addr} {hk : Rl07.Holds} (d : DeskAt C H p s own av dx pr pl ph as hk) {hk' hs' : Rl07.Holds} (pm : hk'.Perm hs') : DeskAt C (upd H ph (.dK (heldD hk'))) p { s with holds := hs' } own av dx pr pl ph as hk' := by
  have h1 : p ≠ ph := ne_of d.ob d.hd (by intro z; cases z)
  have h2 : pr ≠ ph := ne_of d.rl d.hd (by intro z; cases z)
  have fr : Frm own H (upd H ph (.dK (heldD hk'))) := fun b o e hb => by
    rw [upd_ne fun z => hb (by rw [d.mine, z]; simp)]; exact e
  refine ⟨d.mine, by rw [upd_ne h1]; exact d.ob, by rw [upd_ne h2]; exact d.rl, ?_, by rw [upd_ne d.two]; exact d.ld, upd_same, pm, d.two, fun b hb => ⟨(d.aw b hb).1, ?_⟩⟩
  · exact d.rs.keep (Frm.minus fun b o e hb => fr b o e fun z => hb (List.mem_append.mpr (.inl z)))
  · obtain ⟨o, ho⟩ := (d.aw b hb).2
    exact ⟨o, fr b o ho (d.aw b hb).1⟩
theorem DeskAt.frm {C : Addr} {H : Hp} {p : Addr} {s : Rl07.St} {own av : List Addr} {dx pr pl ph : Addr} {as : List Addr} {hk : Rl07.Holds} (d : DeskAt C H p s own av dx pr pl ph as hk) (z : HO) : Frm own H (upd H ph z) := fun b o e hb => by
  rw [upd_ne fun y => hb (by rw [d.mine, y]; simp)]; exact e
theorem kept_best {k : Nat} {old : Rl07.Round} (h : RoundOk k old) {gs : List (List Nat)} (hg : Groups gs) (w : List (Option Nat)) : Rl07.kept old gs w = keptC old gs (w.map enc) := kept_eq h hg.nodup w
section
variable {P : Program} {w : World} {K : PySem.W.Frag} {mg : Str → Option Value} {base : Heap} {C : Addr}
/-! ### hold -/
abbrev sHold : Stmt := inClass sCls 14
theorem scHold : FnScope ["self", "number", "record", "before"] ["self", "number", "record"] (defScope sHold) := ⟨rfl, rfl, rfl, by decide +kernel, rfl, by decide +kernel, by decide +kernel⟩
def spHold (C : Addr) : Sp := fun vs H Q _ => ∃ (p : Addr) (s : Rl07.St) (own av : List Addr) (n x : Nat), vs = [.ref p, .int (n : Int), .int (x : Int)] ∧ Desk C H p s own av ∧ Ok s ∧ Does C p s own av (.hold n x) H Q
theorem ok_hold {f : Addr} {fd : FuncData} {k : Nat} (F : Fun K "hold" "Desk.hold" sHold f fd) (TC : CTxt K C) (B : MDef P w K mg base C (k + 1) "was_given" ["self", "number"] (spGiven C)) (R : Def P w K mg base (k + 1) "is_a_record" ["record"] spRec) : FnOk P w K mg base CX0 (k + 2) f fd ["self", "number", "record"] (spHold C) := by
  obtain ⟨fb, fdb, mB, bB, GB⟩ := B
  obtain ⟨fr, fdr, mR, kR, bR, GR⟩ := R
  refine F.ok scHold (fun vs H Q E h => ?_) (fun cdv A outer s H vs Q E hr h => ?_)
  · obtain ⟨p, s, own, av, n, x, rfl, _⟩ := h
    rfl
  · obtain ⟨p, st, own, av, n, x, rfl, hd, ok, q⟩ := h
    obtain ⟨dx, pr, pl, ph, as, hk, d⟩ := id hd
    have hu := hu_of hr
    refine ⟨_, pss_cons (ps_if (pt_not (pt_val (pe_meth (pv 0) TC.cl mB GB hr bB .nil pass0 (pa_cons (pv 1) pa_nil)))) (pss_one (ps_ret (pe_lst (pa_cons (pe_un un_neg pe_int) pa_nil)))) pss_nil)
      (pss_cons (ps_if (pt_not (pt_val (pe_call GR hr (by rfl) mR kR bR .nil pass0 (pa_cons (pv 2) pa_nil)))) (pss_one (ps_ret (pe_lst (pa_cons (pe_un un_neg pe_int) pa_nil)))) pss_nil)
      (pss_cons (ps_set (i := 3) scHold.nd rfl (.inl rfl) (pe_dget2 hu (pe_fld (pv 0) rfl) (pv 1) pe_int ⟨rfl, rfl, rfl, rfl⟩))
      (pss_cons (ps_dput hu (pe_fld (pv 0) rfl) (pv 1) (pv 2) rfl)
      (pss_one (ps_ret (pe_lst (pa_cons (pv 3) pa_nil))))))), ?_⟩
    have hstep : Rl07.step st (.hold n x) = if n = 0 ∨ st.next ≤ n then (st, [-3]) else if x = 0 ∨ 30 < x then (st, [-1]) else ({ st with holds := (st.holds.filter fun h => h.1 != n) ++ [(n, x)] }, Rl07.ints [(heldTo st.holds n).getD 0]) := rfl
    refine ⟨_, rfl, p, dx, _, rfl, d.ob, fl_no (by decide +kernel), _, rfl, p, st, own, av, n, rfl, hd, _, rfl, ?_⟩
    by_cases c : ¬ (1 ≤ n ∧ n < st.next)
    · rw [decide_eq_false c]
      refine iteT ?_
      refine ⟨3, rfl, (by show 1 ≤ sizeLine; decide), fun pq nq => ?_⟩
      exact q.same hd (ans := [-3]) (by rw [hstep, if_pos (by omega)]) (same_upd nq) nq upd_same
    have c' := Classical.not_not.mp c
    rw [decide_eq_true c']
    refine iteF ?_
    refine ⟨_, rfl, x, rfl, _, rfl, ?_⟩
    by_cases c2 : ¬ (1 ≤ x ∧ x ≤ 30)
    · have e : isRec x = false := by
        unfold isRec
        rw [← Bool.decide_and, decide_eq_false c2]
      rw [e]
      refine iteT ?_
      refine ⟨1, rfl, (by show 1 ≤ sizeLine; decide), fun pq nq => ?_⟩
      exact q.same hd (ans := [-1]) (by rw [hstep, if_neg (by omega), if_pos (by omega)]) (same_upd nq) nq upd_same
    have c2' := Classical.not_not.mp c2
    have e : isRec x = true := by
      unfold isRec
      rw [← Bool.decide_and, decide_eq_true c2']
    rw [e]
    refine iteF ?_
    rw [if_neg (by omega), if_neg (by omega)] at hstep
    have hkn : (hk.map (·.1)).Nodup := (d.pm.map _).nodup_iff.mpr ok.holds.1
    have hkl : hk.length ≤ 900 := by
      have h1 := ok.holds_len
      have h2 := ok.few
      have h3 := d.pm.length_eq
      omega
    -- before
    refine ⟨_, rfl, p, C, dx, _, _, rfl, d.ob, TC.cl, TC.nH, fl_held, ph, rfl, .inl ⟨_, .inl d.hd⟩, _, rfl, _, DGet.k (k := Sum.inl (n : Int)) d.hd, ?_⟩
    rw [heldD_val, heldTo_perm d.pm ok.holds.1]
    have ev : ((heldTo st.holds n).map fun (r : Nat) => V.int (r : Int)).getD (.int 0) = .int (((heldTo st.holds n).getD 0 : Nat) : Int) := by
      cases heldTo st.holds n <;> rfl
    rw [ev]
    -- self.held[number] = record
    refine ⟨_, rfl, _, rfl, p, C, dx, _, _, rfl, d.ob, TC.cl, TC.nH, fl_held, _, rfl, ph, _, rfl, DPut.k (k := Sum.inl (n : Int)) d.hd (by rw [heldD_len]; exact small1000 (by omega)), ?_⟩
    rw [heldD_put]
    refine ⟨_, rfl, (by show 1 ≤ sizeLine; decide), fun pq nq => ?_⟩
    obtain ⟨hqh, nqH⟩ := upd_none nq
    have d2 := d.holds (putH_perm d.pm hkn n x)
    refine q _ pq own ?_ (fun b o z hb => same_upd nq _ _ (d.frm _ b o z hb)) (fun b hb => .inl hb) nqH ?_
    · rw [hstep]
      exact ⟨_, _, _, _, _, _, d2.keep (same_upd nq)⟩
    · rw [upd_same, hstep]; rfl
/-! ### let -/
abbrev sLet : Stmt := inClass sCls 15
theorem scLet : FnScope ["self", "number"] ["self", "number"] (defScope sLet) := ⟨rfl, rfl, rfl, by decide +kernel, rfl, by decide +kernel, by decide +kernel⟩
def spLet (C : Addr) : Sp := fun vs H Q _ => ∃ (p : Addr) (s : Rl07.St) (own av : List Addr) (n : Nat), vs = [.ref p, .int (n : Int)] ∧ Desk C H p s own av ∧ Ok s ∧ Does C p s own av (.let_ n) H Q
theorem ok_let {f : Addr} {fd : FuncData} {k : Nat} (F : Fun K "let" "Desk.let" sLet f fd) (T : Txt mg) (TC : CTxt K C) : FnOk P w K mg base CX0 (k + 1) f fd ["self", "number"] (spLet C) := by
  refine F.ok scLet (fun vs H Q E h => ?_) (fun cdv A outer s H vs Q E hr h => ?_)
  · obtain ⟨p, s, own, av, n, rfl, _⟩ := h
    rfl
  · obtain ⟨p, st, own, av, n, rfl, hd, ok, q⟩ := h
    obtain ⟨dx, pr, pl, ph, as, hk, d⟩ := id hd
    have hu := hu_of hr
    refine ⟨_, pss_cons (ps_if (pt_cmp (pc_dnotin hu (pv 1) (pe_fld (pv 0) rfl))) (pss_one (ps_ret (pe_lst (pa_cons (pe_un un_neg pe_int) pa_nil)))) pss_nil)
      (pss_cons (ps_expr (pe_dpop1 (pe_fld (pv 0) rfl) (pv 1) ⟨rfl, rfl, rfl, rfl⟩))
      (pss_one (ps_ret (pe_lst (pa_cons (pe_callB call_lenD (by rfl) T.len PySem.boot_len (pa_cons (pe_fld (pv 0) rfl) pa_nil)) pa_nil))))), ?_⟩
    have hstep : Rl07.step st (.let_ n) = if st.holds.any (fun h => h.1 == n) = false then (st, [-3]) else ({ st with holds := st.holds.filter fun h => h.1 != n }, Rl07.ints [st.holds.length - 1]) := rfl
    refine ⟨_, rfl, _, rfl, p, C, dx, _, _, rfl, d.ob, TC.cl, TC.nH, fl_held, ph, _, rfl, DGet.k (k := Sum.inl (n : Int)) d.hd, _, rfl, ?_⟩
    rw [heldD_has, any_perm d.pm]
    by_cases c : st.holds.any (fun h => h.1 == n) = false
    · rw [c]
      refine iteT ?_
      refine ⟨3, rfl, (by show 1 ≤ sizeLine; decide), fun pq nq => ?_⟩
      exact q.same hd (ans := [-3]) (by rw [hstep, if_pos c]) (same_upd nq) nq upd_same
    have c' : st.holds.any (fun h => h.1 == n) = true := by simpa using c
    rw [c']
    refine iteF ?_
    rw [if_neg c] at hstep
    have hmem : n ∈ st.holds.map (·.1) := any_keys.mp c'
    have hsm : ∃ v, valV (heldD hk) (Sum.inl (n : Int) : Key) = some v := Option.isSome_iff_exists.mp (by rw [heldD_has, any_perm d.pm, c'])
    obtain ⟨v, hv⟩ := hsm
    refine ⟨_, rfl, p, C, dx, _, _, rfl, d.ob, TC.cl, TC.nH, fl_held, ph, rfl, .inl ⟨_, .inl d.hd⟩, _, rfl, _, Sum.inl (n : Int), v, d.hd, rfl, hv, ?_⟩
    rw [heldD_drop]
    have d2 := d.holds (hk' := hk.filter fun h => h.1 != n) (d.pm.filter _)
    have f2 := d.frm (.dK (heldD (hk.filter fun h => h.1 != n)))
    generalize upd H ph (.dK (heldD (hk.filter fun h => h.1 != n))) = H2 at *
    refine ⟨_, rfl, p, C, dx, _, _, rfl, d2.ob, TC.cl, TC.nH, fl_held, ph, _, rfl, d2.hd, (by show 1 ≤ sizeLine; decide), fun pq nq => ?_⟩
    refine q _ pq own ?_ (fun b o z hb => same_upd nq _ _ (f2 b o z hb)) (fun b hb => .inl hb) ?_ ?_
    · rw [hstep]
      exact ⟨_, _, _, _, _, _, d2.keep (same_upd nq)⟩
    · cases eq : H pq with
      | none => rfl
      | some o =>
        have h1 := d2.out nq
        rw [f2 _ _ eq h1] at nq; cases nq
    · rw [upd_same, hstep, heldD_len, (d.pm.filter _).length_eq, filter_len ok.holds.1 hmem]; rfl
/-! ### would -/
abbrev sWould : Stmt := inClass sCls 16
theorem scWould : FnScope ["self", "told", "groups", "ahead", "way"] ["self", "told"] (defScope sWould) := ⟨rfl, rfl, rfl, by decide +kernel, rfl, by decide +kernel, by decide +kernel⟩
def spWould (K : PySem.W.Frag) (C : Addr) : Sp := fun vs H Q _ => ∃ (p a : Addr) (s : Rl07.St) (own av : List Addr) (l : List Nat), vs = [.ref p, .ref a] ∧ Desk C H p s own av ∧ Ok s ∧ SqL K H a (nl l) ∧ l.length ≤ 1000 ∧ Says s (.would l) H Q
theorem ok_would {f : Addr} {fd : FuncData} {k : Nat} (F : Fun K "would" "Desk.would" sWould f fd) (T : Txt mg) (TC : CTxt K C)
    (dC : Def P w K mg base k "can_be_told" ["told"] (spCan K)) (dG : Def P w K mg base k "groups_told" ["told"] (spGrp K)) (mL : MDef P w K mg base C k "last_round" ["self"] (spLast C)) (dB : Def P w K mg base k "best_way" ["groups", "ahead", "held"] (spBest K))
    (dK : Def P w K mg base k "how_many_keep_theirs" ["way", "groups", "ahead"] (spKeep K)) : FnOk P w K mg base CX0 (k + 1) f fd ["self", "told"] (spWould K C) := by
  obtain ⟨f1, fd1, m1, k1, b1, G1⟩ := dC
  obtain ⟨f2, fd2, m2, k2, b2, G2⟩ := dG
  obtain ⟨f3, fd3, m3, b3, G3⟩ := mL
  obtain ⟨f4, fd4, m4, k4, b4, G4⟩ := dB
  obtain ⟨f5, fd5, m5, k5, b5, G5⟩ := dK
  refine F.ok scWould (fun vs H Q E h => ?_) (fun cdv A outer s H vs Q E hr h => ?_)
  · obtain ⟨p, a, s, own, av, l, rfl, _⟩ := h
    rfl
  · obtain ⟨p, a, st, own, av, l, rfl, hdk, ok, hA, hl1, q⟩ := h
    obtain ⟨dx, pr, pl, ph, as, hk, d⟩ := id hdk
    refine ⟨_, pss_cons (ps_if (pt_not (pt_val (pe_call G1 hr (by rfl) m1 k1 b1 .nil pass0 (pa_cons (pv 1) pa_nil)))) (pss_one (ps_ret (pe_lst (pa_cons (pe_un un_neg pe_int) pa_nil)))) pss_nil)
      (pss_cons (ps_set (i := 2) scWould.nd rfl (.inl rfl) (pe_call G2 hr (by rfl) m2 k2 b2 .nil pass0 (pa_cons (pv 1) pa_nil)))
      (pss_cons (ps_set (i := 3) scWould.nd rfl (.inl rfl) (pe_meth0 (pv 0) TC.cl m3 G3 hr b3 .nil pass0))
      (pss_cons (ps_set (i := 4) scWould.nd rfl (.inl rfl) (pe_call G4 hr (by rfl) m4 k4 b4 .nil pass0 (pa_cons (pv 2) (pa_cons (pv 3) (pa_cons (pe_fld (pv 0) rfl) pa_nil)))))
      (pss_one (ps_ret (pe_op op_cat (pe_lst (pa_cons (pe_call G5 hr (by rfl) m5 k5 b5 .nil pass0 (pa_cons (pv 4) (pa_cons (pv 2) (pa_cons (pv 3) pa_nil)))) (pa_cons (pe_callB call_len_seq (by rfl) T.len PySem.boot_len (pa_cons (pv 4) pa_nil)) pa_nil))) (pv 4))))))), ?_⟩
    refine ⟨_, rfl, a, l, rfl, hA, hl1, fun H1 s1 => ?_⟩
    refine ⟨_, rfl, ?_⟩
    by_cases t' : ¬ Told l
    · rw [told_none t']
      refine iteT ?_
      refine ⟨1, rfl, (by show 1 ≤ sizeLine; decide), fun pq nq => ?_⟩
      refine q _ pq (s1.trans (same_upd nq)) (s1.free nq) ?_
      rw [upd_same]
      show _ = some (HO.lst ((match Rl07.told? l with
        | none => [-1]
        | some p => Rl07.ints (Rl07.kept (Rl07.now st) (Rl07.groupsOf p) (Rl07.best (Rl07.now st) st.holds (Rl07.groupsOf p)) :: (Rl07.best (Rl07.now st) st.holds (Rl07.groupsOf p)).length :: (Rl07.best (Rl07.now st) st.holds (Rl07.groupsOf p)).map fun o => o.getD 0) : List Int).map V.int))
      rw [told_none t']; rfl
    have t : Told l := Classical.not_not.mp t'
    rw [told_some t]
    refine iteF ?_
    have d1 := d.keep s1
    have hgr := groups_told t
    refine ⟨_, rfl, a, l, rfl, s1.seq hA, t, fun H2 pg us s2 n2 hSg hRg hfresh => ?_⟩
    have d2 := d1.keep s2
    refine ⟨_, rfl, p, dx, _, rfl, d2.ob, fl_no (by decide +kernel), p, st, own, av, rfl, ⟨_, _, _, _, _, _, d2⟩, fun H3 da s3 hra => ?_⟩
    have d3 := d2.keep s3
    have hra3 : RoundAt H3 da (Rl07.now st) := hra.keep (minus_same _ _)
    have hkl : hk.length ≤ 900 := by
      have h1 := ok.holds_len
      have h2 := ok.few
      have h3 := d.pm.length_eq
      omega
    have hSg3 := s3.seq hSg
    have hRg3 := hRg.keep s3
    refine ⟨_, rfl, _, rfl, _, rfl, p, C, dx, _, _, rfl, d3.ob, TC.cl, TC.nH, fl_held, pg, da, ph, _, _, st.next, hk, st.holds, rfl, ⟨us, hSg3, hRg3⟩, hgr, hra3, ok.now, d3.hd, d3.pm, ok.holds.1, hkl, fun H4 pw s4 h4 => ?_⟩
    have hb := best_ok (old := Rl07.now st) ok.holds.1 hgr.apart
    have hkept := kept_best ok.now hgr (Rl07.best (Rl07.now st) st.holds (Rl07.groupsOf (prs l)))
    have h6 := hgr.few
    have hlen : ∀ g ∈ Rl07.groupsOf (prs l), g.length ≤ 1000 := fun g hm => by
      have h1 := hgr.size
      have : g.length ≤ (Rl07.groupsOf (prs l)).flatten.length := by
        obtain ⟨i, hi, e⟩ := List.getElem_of_mem hm
        have := split_get (l := Rl07.groupsOf (prs l)) (i := i) (x := g) (by rw [List.getElem?_eq_getElem hi, e])
        rw [this, List.flatten_append, List.flatten_cons, List.length_append, List.length_append]
        omega
      omega
    refine ⟨_, rfl, _, rfl, _, rfl, pw, pg, da, _, _, _, rfl, .of h4, ⟨us, s4.seq hSg3, hRg3.keep s4⟩, hra3.keep s4, (by rw [List.length_map]; exact hb.len), by omega, hlen, fun H5 s5 => ?_⟩
    have h5 := s5 _ _ h4
    refine ⟨_, rfl, pw, _, rfl, .inl (.of h5), (by show 2 ≤ sizeLine; decide), fun p6 n6 => ?_⟩
    rw [nl_len, ← hkept]
    have s6 := same_upd (o := .lst [V.int (Rl07.kept (Rl07.now st) (Rl07.groupsOf (prs l)) (Rl07.best (Rl07.now st) st.holds (Rl07.groupsOf (prs l))) : Int), V.int (((Rl07.best (Rl07.now st) st.holds (Rl07.groupsOf (prs l))).map enc).length : Int)]) n6
    refine ⟨_, rfl, p6, pw, _, _, rfl, rfl, upd_same, s6 _ _ h5, ?_, fun pq nq => ?_⟩
    · rw [nl_len, List.length_map, hb.len]; exact Nat.le_of_lt (small1000 (by show 2 + _ ≤ 1000; omega))
    · have sA : Same H H5 := s1.trans (s2.trans (s3.trans (s4.trans s5)))
      refine q _ pq (sA.trans (s6.trans (same_upd nq))) (sA.free (s6.free nq)) ?_
      rw [upd_same]
      show _ = some (HO.lst ((match Rl07.told? l with
        | none => [-1]
        | some p => Rl07.ints (Rl07.kept (Rl07.now st) (Rl07.groupsOf p) (Rl07.best (Rl07.now st) st.holds (Rl07.groupsOf p)) :: (Rl07.best (Rl07.now st) st.holds (Rl07.groupsOf p)).length :: (Rl07.best (Rl07.now st) st.holds (Rl07.groupsOf p)).map fun o => o.getD 0) : List Int).map V.int))
      rw [told_some t]
      show _ = some (HO.lst ((Rl07.ints (Rl07.kept (Rl07.now st) (Rl07.groupsOf (prs l)) (Rl07.best (Rl07.now st) st.holds (Rl07.groupsOf (prs l))) :: (Rl07.best (Rl07.now st) st.holds (Rl07.groupsOf (prs l))).length :: (Rl07.best (Rl07.now st) st.holds (Rl07.groupsOf (prs l))).map fun o => o.getD 0)).map V.int))
      rw [ints_nl, List.length_map]; rfl
end
end NK
namespace NK
open PySem PySem.Spec PyProof.Rows L2
theorem Frm.seq {K : PySem.W.Frag} {own : List Addr} {H H' : Hp} {a : Addr} {xs : List V} (f : Frm own H H') (h : a ∉ own) (s : SqL K H a xs) : SqL K H' a xs := by
  rcases s with (z | ⟨o, z⟩) | z
  · exact .inl (.inl (f _ _ z h))
  · exact .inl (.inr ⟨o, f _ _ z h⟩)
  · exact .inr z
theorem mid_get {α : Type} (pre post : List α) (l : List α) {i : Nat} {x : α} (h : l[i]? = some x) : (pre ++ l ++ post)[pre.length + i]? = some x := by
  have hi := lt_of_get h
  rw [List.append_assoc, List.getElem?_append_right (Nat.le_add_right _ _), Nat.add_sub_cancel_left, List.getElem?_append_left hi]
  exact h
section
variable {P : Program} {w : World} {K : PySem.W.Frag} {mg : Str → Option Value} {base : Heap} {C : Addr}
/-- the table of lengths -/
structure Tbl (K : PySem.W.Frag) (mg : Str → Option Value) : Prop where
  ex : ∃ d es n, mg "NUMBERS_BEHIND" = some (.ref d) ∧ K.lookup d = some ⟨.type "dict", none, .dict es n, #[]⟩ ∧ tabOk es = true ∧
    tabAt es 0 = some 0 ∧ tabAt es 2 = some 0 ∧ tabAt es 3 = some 1 ∧ tabAt es 4 = some 1 ∧ tabAt es 5 = some 2 ∧ tabAt es 6 = some 1 ∧ tabAt es 7 = some 1 ∧ tabAt es 8 = some 2 ∧ tabAt es 9 = some 1 ∧ tabAt es 11 = some 0
structure Kinds (mg : Str → Option Value) : Prop where
  k0 : ∃ t, mg "BEGIN" = some (.int 0 t)
  k1 : ∃ t, mg "ROUND" = some (.int 1 t)
  k2 : ∃ t, mg "SHOW" = some (.int 2 t)
  k3 : ∃ t, mg "OF" = some (.int 3 t)
  k4 : ∃ t, mg "LEADS" = some (.int 4 t)
  k5 : ∃ t, mg "WAS" = some (.int 5 t)
  k6 : ∃ t, mg "ENDED" = some (.int 6 t)
  k7 : ∃ t, mg "BEGUN" = some (.int 7 t)
  k8 : ∃ t, mg "HOLD" = some (.int 8 t)
  k9 : ∃ t, mg "LET" = some (.int 9 t)
  k10 : ∃ t, mg "WOULD" = some (.int 10 t)
abbrev sEnd : Stmt := topS 33
theorem scEnd : FnScope ["calls", "start"] ["calls", "start"] (defScope sEnd) := ⟨rfl, rfl, rfl, by decide +kernel, rfl, by decide +kernel, by decide +kernel⟩
def spEnd (K : PySem.W.Frag) : Sp := fun vs H Q _ => ∃ (a : Addr) (pre post : List Nat) (c : Rl07.Call), vs = [.ref a, .int (pre.length : Int)] ∧ SqL K H a (nl (pre ++ flat c ++ post)) ∧ Q (.int ((pre.length + (flat c).length : Nat) : Int)) H
theorem ok_end {f : Addr} {fd : FuncData} {k : Nat} (F : Fun K "end_of_call" "end_of_call" sEnd f fd) (TT : Tbl K mg) (TK : Kinds mg) : FnOk P w K mg base CX0 (k + 1) f fd ["calls", "start"] (spEnd K) := by
  obtain ⟨d, es, n, md, hlk, hok, t0, t2, t3, t4, t5, t6, t7, t8, t9, t11⟩ := TT.ex
  obtain ⟨tr, gr⟩ := TK.k1
  obtain ⟨tw, gw⟩ := TK.k10
  refine F.ok scEnd (fun vs H Q E h => ?_) (fun cdv A outer s H vs Q E hr h => ?_)
  · obtain ⟨a, pre, post, c, rfl, _⟩ := h
    rfl
  · obtain ⟨a, pre, post, c, rfl, hA, q⟩ := h
    refine ⟨_, pss_cons (ps_if (PW.pt (pw_or (pt_cmpR op_eq (pe_ix ix_list (pv 0) (pv 1) (fun _ _ => rfl)) (pe_gi gr) (nomark _)) (pw_or1 (pt_cmpR op_eq (pe_ix ix_list (pv 0) (pv 1) (fun _ _ => rfl)) (pe_gi gw) (nomark _)))))
        (pss_one (ps_ret (pe_op op_add (pe_op op_add (pv 1) pe_int) (pe_ix ix_list (pv 0) (pe_op op_add (pv 1) pe_int) (fun _ _ => rfl))))) pss_nil)
      (pss_one (ps_ret (pe_op op_add (pe_op op_add (pv 1) pe_int) (pe_tab hlk hok (pe_glob (v := .ref d) rfl md rfl) (pe_ix ix_list (pv 0) (pv 1) (fun _ _ => rfl)) (fun _ _ => rfl))))), ?_⟩
    have at0 : ∀ {x : Nat}, (flat c)[0]? = some x → atI (nl (pre ++ flat c ++ post)) (pre.length : Int) = some (.int (x : Int)) := fun {x} h => by
      have := mid_get pre post (flat c) h
      rw [Nat.add_zero] at this
      exact atI_nat (nl_at this)
    have hk : (∃ (x : Nat) (l : List Nat), (x = 1 ∨ x = 10) ∧ flat c = x :: l.length :: l) ∨ ∃ x y : Nat, (flat c)[0]? = some x ∧ x ≠ 1 ∧ x ≠ 10 ∧ (flat c).length = 1 + y ∧ tabAt es (x : Int) = some (y : Int) := by
      cases c with
      | begin_ => exact .inr ⟨0, 0, rfl, by decide, by decide, rfl, t0⟩
      | round l => exact .inl ⟨1, l, .inl rfl, rfl⟩
      | show_ => exact .inr ⟨2, 0, rfl, by decide, by decide, rfl, t2⟩
      | of_ x => exact .inr ⟨3, 1, rfl, by decide, by decide, rfl, t3⟩
      | leads n => exact .inr ⟨4, 1, rfl, by decide, by decide, rfl, t4⟩
      | was m x => exact .inr ⟨5, 2, rfl, by decide, by decide, rfl, t5⟩
      | ended m => exact .inr ⟨6, 1, rfl, by decide, by decide, rfl, t6⟩
      | begun m => exact .inr ⟨7, 1, rfl, by decide, by decide, rfl, t7⟩
      | hold n x => exact .inr ⟨8, 2, rfl, by decide, by decide, rfl, t8⟩
      | let_ n => exact .inr ⟨9, 1, rfl, by decide, by decide, rfl, t9⟩
      | would l => exact .inl ⟨10, l, .inr rfl, rfl⟩
      | counts => exact .inr ⟨11, 0, rfl, by decide, by decide, rfl, t11⟩
    rcases hk with ⟨x, l, hx, efl⟩ | ⟨x, y, hx, hx1, hx10, hy, ht⟩
    · have at1 : atI (nl (pre ++ flat c ++ post)) ((pre.length : Int) + 1) = some (.int (l.length : Int)) := by
        have := mid_get pre post (flat c) (i := 1) (x := l.length) (by rw [efl]; rfl)
        exact atI_nat (j := pre.length + 1) (nl_at this)
      have e : (((pre.length : Int) + 2) + (l.length : Int)) = ((pre.length + (flat c).length : Nat) : Int) := by
        rw [efl, List.length_cons, List.length_cons]
        omega
      have fin : Q (.int (((pre.length : Int) + 2) + (l.length : Int))) H := by rw [e]; exact q
      have hA0 := at0 (x := x) (by rw [efl]; rfl)
      refine ⟨_, rfl, _, rfl, a, _, _, _, rfl, rfl, hA, hA0, rfl, _, rfl, ?_⟩
      refine iteD (fun _ => ?_) (fun z => ?_)
      · exact ⟨_, rfl, _, _, rfl, rfl, _, rfl, _, rfl, _, _, rfl, rfl, a, _, _, _, rfl, rfl, hA, at1, _, _, rfl, rfl, fin⟩
      · have hx' : x = 10 := by
          rcases hx with y | y
          · exact absurd (by rw [y]; rfl) z
          · exact y
        refine ⟨_, rfl, _, rfl, a, _, _, _, rfl, rfl, hA, hA0, rfl, _, rfl, ?_⟩
        refine iteD (fun _ => ?_) (fun z => absurd (by rw [hx']; rfl) z)
        exact ⟨_, rfl, _, _, rfl, rfl, _, rfl, _, rfl, _, _, rfl, rfl, a, _, _, _, rfl, rfl, hA, at1, _, _, rfl, rfl, fin⟩
    · refine ⟨_, rfl, _, rfl, a, _, _, _, rfl, rfl, hA, at0 hx, rfl, _, rfl, ?_⟩
      refine iteD (fun z => absurd (V.int.inj z) (by omega)) (fun _ => ?_)
      refine ⟨_, rfl, _, rfl, a, _, _, _, rfl, rfl, hA, at0 hx, rfl, _, rfl, ?_⟩
      refine iteD (fun z => absurd (V.int.inj z) (by omega)) (fun _ => ?_)
      refine ⟨_, rfl, _, _, rfl, rfl, _, rfl, _, rfl, a, _, _, _, rfl, rfl, hA, at0 hx, rfl, _, _, rfl, ht, _, _, rfl, rfl, ?_⟩
      show Q (.int (((pre.length : Int) + 1) + (y : Int))) H
      have e : (((pre.length : Int) + 1) + (y : Int)) = ((pre.length + (flat c).length : Nat) : Int) := by rw [hy]; omega
      rw [e]
      exact q
/-! ### answer_of -/
abbrev sAof : Stmt := topS 34
theorem scAof : FnScope ["desk", "call", "kind"] ["desk", "call"] (defScope sAof) := ⟨rfl, rfl, rfl, by decide +kernel, rfl, by decide +kernel, by decide +kernel⟩
def spAof (K : PySem.W.Frag) (C : Addr) : Sp := fun vs H Q _ => ∃ (p a : Addr) (s : Rl07.St) (own av : List Addr) (c : Rl07.Call), vs = [.ref p, .ref a] ∧ Desk C H p s own av ∧ Ok s ∧ Hist s ∧ SqL K H a (nl (flat c)) ∧ (rowOf c).length ≤ 40 ∧ Does C p s own av c H Q
theorem cut2 (xs : List V) (x y : V) : cutV (x :: y :: xs) (some 2) none = xs := by
  unfold cutV
  rw [show HT.sIx (x :: y :: xs).length 0 (some 2) = min 2 (x :: y :: xs).length from HT.sIx_nat _ 0 2, HT.sIx_none]
  have e : min 2 (x :: y :: xs).length = 2 := by simp only [List.length_cons]; omega
  rw [e]
  show List.take ((x :: y :: xs).length - 2) xs = xs
  exact List.take_of_length_le (by simp)
theorem ok_aof {f : Addr} {fd : FuncData} {k : Nat} (F : Fun K "answer_of" "answer_of" sAof f fd) (TK : Kinds mg) (TC : CTxt K C)
    (q0 : MDef P w K mg base C k "begin" ["self"] (spBegin C))
    (q1 : MDef P w K mg base C k "take_round" ["self", "told"] (spRound K C))
    (q2 : MDef P w K mg base C k "show" ["self"] (spShow C))
    (q3 : MDef P w K mg base C k "of" ["self", "record"] (spOf C))
    (q4 : MDef P w K mg base C k "leads" ["self", "number"] (spLeads C))
    (q5 : MDef P w K mg base C k "was" ["self", "which", "record"] (spWas C))
    (q6 : MDef P w K mg base C k "ended" ["self", "which"] (spEnded C))
    (q7 : MDef P w K mg base C k "begun" ["self", "which"] (spBegun C))
    (q8 : MDef P w K mg base C k "hold" ["self", "number", "record"] (spHold C))
    (q9 : MDef P w K mg base C k "let" ["self", "number"] (spLet C))
    (q10 : MDef P w K mg base C k "would" ["self", "told"] (spWould K C))
    (q11 : MDef P w K mg base C k "counts" ["self"] (spCounts C))
    : FnOk P w K mg base CX0 (k + 1) f fd ["desk", "call"] (spAof K C) := by
  obtain ⟨f0, fd0, m0, b0, G0⟩ := q0
  obtain ⟨f1, fd1, m1, b1, G1⟩ := q1
  obtain ⟨f2, fd2, m2, b2, G2⟩ := q2
  obtain ⟨f3, fd3, m3, b3, G3⟩ := q3
  obtain ⟨f4, fd4, m4, b4, G4⟩ := q4
  obtain ⟨f5, fd5, m5, b5, G5⟩ := q5
  obtain ⟨f6, fd6, m6, b6, G6⟩ := q6
  obtain ⟨f7, fd7, m7, b7, G7⟩ := q7
  obtain ⟨f8, fd8, m8, b8, G8⟩ := q8
  obtain ⟨f9, fd9, m9, b9, G9⟩ := q9
  obtain ⟨f10, fd10, m10, b10, G10⟩ := q10
  obtain ⟨f11, fd11, m11, b11, G11⟩ := q11
  obtain ⟨t0, g0⟩ := TK.k0
  obtain ⟨t1, g1⟩ := TK.k1
  obtain ⟨t2, g2⟩ := TK.k2
  obtain ⟨t3, g3⟩ := TK.k3
  obtain ⟨t4, g4⟩ := TK.k4
  obtain ⟨t5, g5⟩ := TK.k5
  obtain ⟨t6, g6⟩ := TK.k6
  obtain ⟨t7, g7⟩ := TK.k7
  obtain ⟨t8, g8⟩ := TK.k8
  obtain ⟨t9, g9⟩ := TK.k9
  obtain ⟨t10, g10⟩ := TK.k10
  refine F.ok scAof (fun vs H Q E h => ?_) (fun cdv A outer s H vs Q E hr h => ?_)
  · obtain ⟨p, a, s, own, av, c, rfl, _⟩ := h
    rfl
  · obtain ⟨p, a, st, own, av, c, rfl, hdk, ok, his, hA, h40, q⟩ := h
    refine ⟨_, pss_cons (ps_set (i := 2) scAof.nd rfl (.inl rfl) (pe_ix ix_list (pv 1) pe_int (fun _ _ => rfl)))
      (pss_cons (ps_if (pt_cmpR op_eq (pv 2) (pe_gi g0) (nomark _)) (pss_one (ps_ret (pe_meth0 (pv 0) TC.cl m0 G0 hr b0 .nil pass0))) pss_nil)
      (pss_cons (ps_if (pt_cmpR op_eq (pv 2) (pe_gi g1) (nomark _)) (pss_one (ps_ret (pe_meth (pv 0) TC.cl m1 G1 hr b1 .nil pass0 (pa_cons (pe_slice sl_list (pv 1) (po_some pe_int) po_none) pa_nil)))) pss_nil)
      (pss_cons (ps_if (pt_cmpR op_eq (pv 2) (pe_gi g2) (nomark _)) (pss_one (ps_ret (pe_meth0 (pv 0) TC.cl m2 G2 hr b2 .nil pass0))) pss_nil)
      (pss_cons (ps_if (pt_cmpR op_eq (pv 2) (pe_gi g3) (nomark _)) (pss_one (ps_ret (pe_meth (pv 0) TC.cl m3 G3 hr b3 .nil pass0 (pa_cons (pe_ix ix_list (pv 1) pe_int (fun _ _ => rfl)) pa_nil)))) pss_nil)
      (pss_cons (ps_if (pt_cmpR op_eq (pv 2) (pe_gi g4) (nomark _)) (pss_one (ps_ret (pe_meth (pv 0) TC.cl m4 G4 hr b4 .nil pass0 (pa_cons (pe_ix ix_list (pv 1) pe_int (fun _ _ => rfl)) pa_nil)))) pss_nil)
      (pss_cons (ps_if (pt_cmpR op_eq (pv 2) (pe_gi g5) (nomark _)) (pss_one (ps_ret (pe_meth (pv 0) TC.cl m5 G5 hr b5 .nil pass0 (pa_cons (pe_ix ix_list (pv 1) pe_int (fun _ _ => rfl)) (pa_cons (pe_ix ix_list (pv 1) pe_int (fun _ _ => rfl)) pa_nil))))) pss_nil)
      (pss_cons (ps_if (pt_cmpR op_eq (pv 2) (pe_gi g6) (nomark _)) (pss_one (ps_ret (pe_meth (pv 0) TC.cl m6 G6 hr b6 .nil pass0 (pa_cons (pe_ix ix_list (pv 1) pe_int (fun _ _ => rfl)) pa_nil)))) pss_nil)
      (pss_cons (ps_if (pt_cmpR op_eq (pv 2) (pe_gi g7) (nomark _)) (pss_one (ps_ret (pe_meth (pv 0) TC.cl m7 G7 hr b7 .nil pass0 (pa_cons (pe_ix ix_list (pv 1) pe_int (fun _ _ => rfl)) pa_nil)))) pss_nil)
      (pss_cons (ps_if (pt_cmpR op_eq (pv 2) (pe_gi g8) (nomark _)) (pss_one (ps_ret (pe_meth (pv 0) TC.cl m8 G8 hr b8 .nil pass0 (pa_cons (pe_ix ix_list (pv 1) pe_int (fun _ _ => rfl)) (pa_cons (pe_ix ix_list (pv 1) pe_int (fun _ _ => rfl)) pa_nil))))) pss_nil)
      (pss_cons (ps_if (pt_cmpR op_eq (pv 2) (pe_gi g9) (nomark _)) (pss_one (ps_ret (pe_meth (pv 0) TC.cl m9 G9 hr b9 .nil pass0 (pa_cons (pe_ix ix_list (pv 1) pe_int (fun _ _ => rfl)) pa_nil)))) pss_nil)
      (pss_cons (ps_if (pt_cmpR op_eq (pv 2) (pe_gi g10) (nomark _)) (pss_one (ps_ret (pe_meth (pv 0) TC.cl m10 G10 hr b10 .nil pass0 (pa_cons (pe_slice sl_list (pv 1) (po_some pe_int) po_none) pa_nil)))) pss_nil)
      (pss_one (ps_ret (pe_meth0 (pv 0) TC.cl m11 G11 hr b11 .nil pass0)))))))))))))), ?_⟩
    obtain ⟨dx, pr, pl, ph, as, hk, d⟩ := id hdk
    have nof : ∀ {m : Str}, ((m == ("rounds" : Str)) = false ∧ (m == ("led" : Str)) = false ∧ (m == ("held" : Str)) = false ∧ (m == ("next_number" : Str)) = false) → (flds pr pl ph (st.next : Int)).lookup m = none := fun h => fl_no h
    have rd : ∀ {cc : Rl07.Call} {H1 : Hp}, Same H H1 → cc = c → (Rl07.step st c).1 = st → Says st cc H1 Q := fun {cc H1} s1 e1 e2 H' pq k n h => by
      subst e1
      refine q H' pq own ?_ (Frm.of_same (s1.trans k)) (fun b hb => .inl hb) (s1.free n) h
      rw [e2]; exact hdk.keep (s1.trans k)
    have at0 : ∀ {i x : Nat}, (flat c)[i]? = some x → atI (nl (flat c)) (i : Int) = some (.int (x : Int)) := fun {i x} h => atI_nat (nl_at h)
    cases c with
    | begin_ =>
      refine ⟨_, rfl, a, _, _, _, rfl, rfl, hA, at0 (i := 0) (x := 0) rfl, ?_⟩
      refine ⟨_, rfl, rfl, _, rfl, ?_⟩
      refine iteD (fun _ => ?_) (fun z => absurd rfl z)
      refine ⟨_, rfl, p, dx, _, rfl, d.ob, nof (by decide +kernel), p, dx, _, rfl, d.ob, .inr ⟨_, _, _, _, rfl⟩, fun H' pq own' hd' fr ow n h => ?_⟩
      refine q H' pq own' (hd' av fun b hb => ⟨fun z => (d.aw b hb).1 (by rw [d.mine, z]; simp), (d.aw b hb).2⟩) (fun b o e hb => fr b o e fun z => hb (by rw [d.mine, z]; simp)) (fun b hb => ?_) n h
      rcases ow b hb with z | z
      · exact .inl (by rw [d.mine, z]; simp)
      · exact .inr z
    | round l =>
      refine ⟨_, rfl, a, _, _, _, rfl, rfl, hA, at0 (i := 0) (x := 1) rfl, ?_⟩
      refine ⟨_, rfl, rfl, _, rfl, ?_⟩
      refine iteD (fun z => absurd (V.int.inj z) (by decide)) (fun _ => ?_)
      refine ⟨_, rfl, rfl, _, rfl, ?_⟩
      refine iteD (fun _ => ?_) (fun z => absurd rfl z)
      refine ⟨_, rfl, p, dx, _, rfl, d.ob, nof (by decide +kernel), _, rfl, 2, rfl, a, _, rfl, hA, fun pc nc => ?_⟩
      have ecut : cutV (nl (flat (.round l))) (some 2) none = nl l := cut2 _ _ _
      rw [ecut]
      have sc := same_upd (o := .lst (nl l)) nc
      have hl40 : l.length ≤ 40 := h40
      refine ⟨p, pc, st, own, av, l, rfl, hdk.keep sc, ok, .of upd_same, by omega, ?_⟩
      intro H' pq own' hd' fr ow n h
      refine q H' pq own' hd' (fun b o e hb => fr b o (sc _ _ e) hb) (fun b hb => ?_) (sc.free n) h
      rcases ow b hb with z | z
      · exact .inl z
      · exact .inr (sc.free z)
    | show_ =>
      refine ⟨_, rfl, a, _, _, _, rfl, rfl, hA, at0 (i := 0) (x := 2) rfl, ?_⟩
      refine ⟨_, rfl, rfl, _, rfl, ?_⟩
      refine iteD (fun z => absurd (V.int.inj z) (by decide)) (fun _ => ?_)
      refine ⟨_, rfl, rfl, _, rfl, ?_⟩
      refine iteD (fun z => absurd (V.int.inj z) (by decide)) (fun _ => ?_)
      refine ⟨_, rfl, rfl, _, rfl, ?_⟩
      refine iteD (fun _ => ?_) (fun z => absurd rfl z)
      exact ⟨_, rfl, p, dx, _, rfl, d.ob, nof (by decide +kernel), p, st, own, av, rfl, hdk, ok, rd (Same.refl H) rfl rfl⟩
    | of_ x =>
      refine ⟨_, rfl, a, _, _, _, rfl, rfl, hA, at0 (i := 0) (x := 3) rfl, ?_⟩
      refine ⟨_, rfl, rfl, _, rfl, ?_⟩
      refine iteD (fun z => absurd (V.int.inj z) (by decide)) (fun _ => ?_)
      refine ⟨_, rfl, rfl, _, rfl, ?_⟩
      refine iteD (fun z => absurd (V.int.inj z) (by decide)) (fun _ => ?_)
      refine ⟨_, rfl, rfl, _, rfl, ?_⟩
      refine iteD (fun z => absurd (V.int.inj z) (by decide)) (fun _ => ?_)
      refine ⟨_, rfl, rfl, _, rfl, ?_⟩
      refine iteD (fun _ => ?_) (fun z => absurd rfl z)
      exact ⟨_, rfl, p, dx, _, rfl, d.ob, nof (by decide +kernel), _, rfl, a, _, _, _, rfl, rfl, hA, at0 (i := 1) (x := x) rfl, p, st, own, av, x, rfl, hdk, ok, rd (Same.refl H) rfl rfl⟩
    | leads x =>
      refine ⟨_, rfl, a, _, _, _, rfl, rfl, hA, at0 (i := 0) (x := 4) rfl, ?_⟩
      refine ⟨_, rfl, rfl, _, rfl, ?_⟩
      refine iteD (fun z => absurd (V.int.inj z) (by decide)) (fun _ => ?_)
      refine ⟨_, rfl, rfl, _, rfl, ?_⟩
      refine iteD (fun z => absurd (V.int.inj z) (by decide)) (fun _ => ?_)
      refine ⟨_, rfl, rfl, _, rfl, ?_⟩
      refine iteD (fun z => absurd (V.int.inj z) (by decide)) (fun _ => ?_)
      refine ⟨_, rfl, rfl, _, rfl, ?_⟩
      refine iteD (fun z => absurd (V.int.inj z) (by decide)) (fun _ => ?_)
      refine ⟨_, rfl, rfl, _, rfl, ?_⟩
      refine iteD (fun _ => ?_) (fun z => absurd rfl z)
      exact ⟨_, rfl, p, dx, _, rfl, d.ob, nof (by decide +kernel), _, rfl, a, _, _, _, rfl, rfl, hA, at0 (i := 1) (x := x) rfl, p, st, own, av, x, rfl, hdk, ok, rd (Same.refl H) rfl rfl⟩
    | was m x =>
      refine ⟨_, rfl, a, _, _, _, rfl, rfl, hA, at0 (i := 0) (x := 5) rfl, ?_⟩
      refine ⟨_, rfl, rfl, _, rfl, ?_⟩
      refine iteD (fun z => absurd (V.int.inj z) (by decide)) (fun _ => ?_)
      refine ⟨_, rfl, rfl, _, rfl, ?_⟩
      refine iteD (fun z => absurd (V.int.inj z) (by decide)) (fun _ => ?_)
      refine ⟨_, rfl, rfl, _, rfl, ?_⟩
      refine iteD (fun z => absurd (V.int.inj z) (by decide)) (fun _ => ?_)
      refine ⟨_, rfl, rfl, _, rfl, ?_⟩
      refine iteD (fun z => absurd (V.int.inj z) (by decide)) (fun _ => ?_)
      refine ⟨_, rfl, rfl, _, rfl, ?_⟩
      refine iteD (fun z => absurd (V.int.inj z) (by decide)) (fun _ => ?_)
      refine ⟨_, rfl, rfl, _, rfl, ?_⟩
      refine iteD (fun _ => ?_) (fun z => absurd rfl z)
      exact ⟨_, rfl, p, dx, _, rfl, d.ob, nof (by decide +kernel), _, rfl, a, _, _, _, rfl, rfl, hA, at0 (i := 1) (x := m) rfl, _, rfl, a, _, _, _, rfl, rfl, hA, at0 (i := 2) (x := x) rfl, p, st, own, av, m, x, rfl, hdk, ok, rd (Same.refl H) rfl rfl⟩
    | ended x =>
      refine ⟨_, rfl, a, _, _, _, rfl, rfl, hA, at0 (i := 0) (x := 6) rfl, ?_⟩
      refine ⟨_, rfl, rfl, _, rfl, ?_⟩
      refine iteD (fun z => absurd (V.int.inj z) (by decide)) (fun _ => ?_)
      refine ⟨_, rfl, rfl, _, rfl, ?_⟩
      refine iteD (fun z => absurd (V.int.inj z) (by decide)) (fun _ => ?_)
      refine ⟨_, rfl, rfl, _, rfl, ?_⟩
      refine iteD (fun z => absurd (V.int.inj z) (by decide)) (fun _ => ?_)
      refine ⟨_, rfl, rfl, _, rfl, ?_⟩
      refine iteD (fun z => absurd (V.int.inj z) (by decide)) (fun _ => ?_)
      refine ⟨_, rfl, rfl, _, rfl, ?_⟩
      refine iteD (fun z => absurd (V.int.inj z) (by decide)) (fun _ => ?_)
      refine ⟨_, rfl, rfl, _, rfl, ?_⟩
      refine iteD (fun z => absurd (V.int.inj z) (by decide)) (fun _ => ?_)
      refine ⟨_, rfl, rfl, _, rfl, ?_⟩
      refine iteD (fun _ => ?_) (fun z => absurd rfl z)
      exact ⟨_, rfl, p, dx, _, rfl, d.ob, nof (by decide +kernel), _, rfl, a, _, _, _, rfl, rfl, hA, at0 (i := 1) (x := x) rfl, p, st, own, av, x, rfl, hdk, ok, his, rd (Same.refl H) rfl rfl⟩
    | begun x =>
      refine ⟨_, rfl, a, _, _, _, rfl, rfl, hA, at0 (i := 0) (x := 7) rfl, ?_⟩
      refine ⟨_, rfl, rfl, _, rfl, ?_⟩
      refine iteD (fun z => absurd (V.int.inj z) (by decide)) (fun _ => ?_)
      refine ⟨_, rfl, rfl, _, rfl, ?_⟩
      refine iteD (fun z => absurd (V.int.inj z) (by decide)) (fun _ => ?_)
      refine ⟨_, rfl, rfl, _, rfl, ?_⟩
      refine iteD (fun z => absurd (V.int.inj z) (by decide)) (fun _ => ?_)
      refine ⟨_, rfl, rfl, _, rfl, ?_⟩
      refine iteD (fun z => absurd (V.int.inj z) (by decide)) (fun _ => ?_)
      refine ⟨_, rfl, rfl, _, rfl, ?_⟩
      refine iteD (fun z => absurd (V.int.inj z) (by decide)) (fun _ => ?_)
      refine ⟨_, rfl, rfl, _, rfl, ?_⟩
      refine iteD (fun z => absurd (V.int.inj z) (by decide)) (fun _ => ?_)
      refine ⟨_, rfl, rfl, _, rfl, ?_⟩
      refine iteD (fun z => absurd (V.int.inj z) (by decide)) (fun _ => ?_)
      refine ⟨_, rfl, rfl, _, rfl, ?_⟩
      refine iteD (fun _ => ?_) (fun z => absurd rfl z)
      exact ⟨_, rfl, p, dx, _, rfl, d.ob, nof (by decide +kernel), _, rfl, a, _, _, _, rfl, rfl, hA, at0 (i := 1) (x := x) rfl, p, st, own, av, x, rfl, hdk, ok, his, rd (Same.refl H) rfl rfl⟩
    | hold m x =>
      refine ⟨_, rfl, a, _, _, _, rfl, rfl, hA, at0 (i := 0) (x := 8) rfl, ?_⟩
      refine ⟨_, rfl, rfl, _, rfl, ?_⟩
      refine iteD (fun z => absurd (V.int.inj z) (by decide)) (fun _ => ?_)
      refine ⟨_, rfl, rfl, _, rfl, ?_⟩
      refine iteD (fun z => absurd (V.int.inj z) (by decide)) (fun _ => ?_)
      refine ⟨_, rfl, rfl, _, rfl, ?_⟩
      refine iteD (fun z => absurd (V.int.inj z) (by decide)) (fun _ => ?_)
      refine ⟨_, rfl, rfl, _, rfl, ?_⟩
      refine iteD (fun z => absurd (V.int.inj z) (by decide)) (fun _ => ?_)
      refine ⟨_, rfl, rfl, _, rfl, ?_⟩
      refine iteD (fun z => absurd (V.int.inj z) (by decide)) (fun _ => ?_)
      refine ⟨_, rfl, rfl, _, rfl, ?_⟩
      refine iteD (fun z => absurd (V.int.inj z) (by decide)) (fun _ => ?_)
      refine ⟨_, rfl, rfl, _, rfl, ?_⟩
      refine iteD (fun z => absurd (V.int.inj z) (by decide)) (fun _ => ?_)
      refine ⟨_, rfl, rfl, _, rfl, ?_⟩
      refine iteD (fun z => absurd (V.int.inj z) (by decide)) (fun _ => ?_)
      refine ⟨_, rfl, rfl, _, rfl, ?_⟩
      refine iteD (fun _ => ?_) (fun z => absurd rfl z)
      exact ⟨_, rfl, p, dx, _, rfl, d.ob, nof (by decide +kernel), _, rfl, a, _, _, _, rfl, rfl, hA, at0 (i := 1) (x := m) rfl, _, rfl, a, _, _, _, rfl, rfl, hA, at0 (i := 2) (x := x) rfl, p, st, own, av, m, x, rfl, hdk, ok, q⟩
    | let_ x =>
      refine ⟨_, rfl, a, _, _, _, rfl, rfl, hA, at0 (i := 0) (x := 9) rfl, ?_⟩
      refine ⟨_, rfl, rfl, _, rfl, ?_⟩
      refine iteD (fun z => absurd (V.int.inj z) (by decide)) (fun _ => ?_)
      refine ⟨_, rfl, rfl, _, rfl, ?_⟩
      refine iteD (fun z => absurd (V.int.inj z) (by decide)) (fun _ => ?_)
      refine ⟨_, rfl, rfl, _, rfl, ?_⟩
      refine iteD (fun z => absurd (V.int.inj z) (by decide)) (fun _ => ?_)
      refine ⟨_, rfl, rfl, _, rfl, ?_⟩
      refine iteD (fun z => absurd (V.int.inj z) (by decide)) (fun _ => ?_)
      refine ⟨_, rfl, rfl, _, rfl, ?_⟩
      refine iteD (fun z => absurd (V.int.inj z) (by decide)) (fun _ => ?_)
      refine ⟨_, rfl, rfl, _, rfl, ?_⟩
      refine iteD (fun z => absurd (V.int.inj z) (by decide)) (fun _ => ?_)
      refine ⟨_, rfl, rfl, _, rfl, ?_⟩
      refine iteD (fun z => absurd (V.int.inj z) (by decide)) (fun _ => ?_)
      refine ⟨_, rfl, rfl, _, rfl, ?_⟩
      refine iteD (fun z => absurd (V.int.inj z) (by decide)) (fun _ => ?_)
      refine ⟨_, rfl, rfl, _, rfl, ?_⟩
      refine iteD (fun z => absurd (V.int.inj z) (by decide)) (fun _ => ?_)
      refine ⟨_, rfl, rfl, _, rfl, ?_⟩
      refine iteD (fun _ => ?_) (fun z => absurd rfl z)
      exact ⟨_, rfl, p, dx, _, rfl, d.ob, nof (by decide +kernel), _, rfl, a, _, _, _, rfl, rfl, hA, at0 (i := 1) (x := x) rfl, p, st, own, av, x, rfl, hdk, ok, q⟩
    | would l =>
      refine ⟨_, rfl, a, _, _, _, rfl, rfl, hA, at0 (i := 0) (x := 10) rfl, ?_⟩
      refine ⟨_, rfl, rfl, _, rfl, ?_⟩
      refine iteD (fun z => absurd (V.int.inj z) (by decide)) (fun _ => ?_)
      refine ⟨_, rfl, rfl, _, rfl, ?_⟩
      refine iteD (fun z => absurd (V.int.inj z) (by decide)) (fun _ => ?_)
      refine ⟨_, rfl, rfl, _, rfl, ?_⟩
      refine iteD (fun z => absurd (V.int.inj z) (by decide)) (fun _ => ?_)
      refine ⟨_, rfl, rfl, _, rfl, ?_⟩
      refine iteD (fun z => absurd (V.int.inj z) (by decide)) (fun _ => ?_)
      refine ⟨_, rfl, rfl, _, rfl, ?_⟩
      refine iteD (fun z => absurd (V.int.inj z) (by decide)) (fun _ => ?_)
      refine ⟨_, rfl, rfl, _, rfl, ?_⟩
      refine iteD (fun z => absurd (V.int.inj z) (by decide)) (fun _ => ?_)
      refine ⟨_, rfl, rfl, _, rfl, ?_⟩
      refine iteD (fun z => absurd (V.int.inj z) (by decide)) (fun _ => ?_)
      refine ⟨_, rfl, rfl, _, rfl, ?_⟩
      refine iteD (fun z => absurd (V.int.inj z) (by decide)) (fun _ => ?_)
      refine ⟨_, rfl, rfl, _, rfl, ?_⟩
      refine iteD (fun z => absurd (V.int.inj z) (by decide)) (fun _ => ?_)
      refine ⟨_, rfl, rfl, _, rfl, ?_⟩
      refine iteD (fun z => absurd (V.int.inj z) (by decide)) (fun _ => ?_)
      refine ⟨_, rfl, rfl, _, rfl, ?_⟩
      refine iteD (fun _ => ?_) (fun z => absurd rfl z)
      refine ⟨_, rfl, p, dx, _, rfl, d.ob, nof (by decide +kernel), _, rfl, 2, rfl, a, _, rfl, hA, fun pc nc => ?_⟩
      have ecut : cutV (nl (flat (.would l))) (some 2) none = nl l := cut2 _ _ _
      rw [ecut]
      have sc := same_upd (o := .lst (nl l)) nc
      have hl40 : l.length ≤ 40 := h40
      exact ⟨p, pc, st, own, av, l, rfl, hdk.keep sc, ok, .of upd_same, by omega, rd sc rfl rfl⟩
    | counts =>
      refine ⟨_, rfl, a, _, _, _, rfl, rfl, hA, at0 (i := 0) (x := 11) rfl, ?_⟩
      refine ⟨_, rfl, rfl, _, rfl, ?_⟩
      refine iteD (fun z => absurd (V.int.inj z) (by decide)) (fun _ => ?_)
      refine ⟨_, rfl, rfl, _, rfl, ?_⟩
      refine iteD (fun z => absurd (V.int.inj z) (by decide)) (fun _ => ?_)
      refine ⟨_, rfl, rfl, _, rfl, ?_⟩
      refine iteD (fun z => absurd (V.int.inj z) (by decide)) (fun _ => ?_)
      refine ⟨_, rfl, rfl, _, rfl, ?_⟩
      refine iteD (fun z => absurd (V.int.inj z) (by decide)) (fun _ => ?_)
      refine ⟨_, rfl, rfl, _, rfl, ?_⟩
      refine iteD (fun z => absurd (V.int.inj z) (by decide)) (fun _ => ?_)
      refine ⟨_, rfl, rfl, _, rfl, ?_⟩
      refine iteD (fun z => absurd (V.int.inj z) (by decide)) (fun _ => ?_)
      refine ⟨_, rfl, rfl, _, rfl, ?_⟩
      refine iteD (fun z => absurd (V.int.inj z) (by decide)) (fun _ => ?_)
      refine ⟨_, rfl, rfl, _, rfl, ?_⟩
      refine iteD (fun z => absurd (V.int.inj z) (by decide)) (fun _ => ?_)
      refine ⟨_, rfl, rfl, _, rfl, ?_⟩
      refine iteD (fun z => absurd (V.int.inj z) (by decide)) (fun _ => ?_)
      refine ⟨_, rfl, rfl, _, rfl, ?_⟩
      refine iteD (fun z => absurd (V.int.inj z) (by decide)) (fun _ => ?_)
      refine ⟨_, rfl, rfl, _, rfl, ?_⟩
      refine iteD (fun z => absurd (V.int.inj z) (by decide)) (fun _ => ?_)
      exact ⟨_, rfl, p, dx, _, rfl, d.ob, nof (by decide +kernel), p, st, own, av, rfl, hdk, rd (Same.refl H) rfl rfl⟩
end
end NK
namespace NK
open PySem PySem.Spec PyProof.Rows L2
theorem cut_mid (pre x post : List Nat) : cutV (nl (pre ++ x ++ post)) (some (pre.length : Int)) (some ((pre.length + x.length : Nat) : Int)) = nl x := by
  unfold cutV
  rw [HT.sIx_nat, HT.sIx_nat, nl_len]
  have e1 : min pre.length (pre ++ x ++ post).length = pre.length := by simp only [List.length_append]; omega
  have e2 : min (pre.length + x.length) (pre ++ x ++ post).length = pre.length + x.length := by simp only [List.length_append]; omega
  rw [e1, e2, Nat.add_sub_cancel_left]
  unfold nl
  rw [← List.map_drop, ← List.map_take, List.append_assoc, List.drop_left, List.take_left]
theorem flat_pos (c : Rl07.Call) : 1 ≤ (flat c).length := by
  cases c <;> simp [flat]
/-- a list that is handed in and stands -/
def Fx (K : PySem.W.Frag) (own : List Addr) (H : Hp) (a : Addr) (xs : List V) : Prop := (a ∉ own ∧ Rd H a (.lst xs)) ∨ ∀ H', SqL K H' a xs
theorem Fx.seq {K : PySem.W.Frag} {own : List Addr} {H : Hp} {a : Addr} {xs : List V} (f : Fx K own H a xs) : SqL K H a xs := by
  rcases f with ⟨_, h⟩ | h
  · exact .inl h
  · exact h H
theorem Fx.same {K : PySem.W.Frag} {own : List Addr} {H H' : Hp} {a : Addr} {xs : List V} (f : Fx K own H a xs) (s : Same H H') : Fx K own H' a xs := by
  rcases f with ⟨h0, z | ⟨o, z⟩⟩ | h
  · exact .inl ⟨h0, .inl (s _ _ z)⟩
  · exact .inl ⟨h0, .inr ⟨o, s _ _ z⟩⟩
  · exact .inr h
theorem Fx.frm {K : PySem.W.Frag} {own own' : List Addr} {H H' : Hp} {a : Addr} {xs : List V} (f : Fx K own H a xs) (s : Frm own H H') (ow : ∀ b ∈ own', b ∈ own ∨ H b = none) : Fx K own' H' a xs := by
  have no : a ∉ own → H a ≠ none → a ∉ own' := fun h1 h2 z => by
    rcases ow a z with y | y
    · exact h1 y
    · exact h2 y
  rcases f with ⟨h0, z | ⟨o, z⟩⟩ | h
  · exact .inl ⟨no h0 (by rw [z]; exact nofun), .inl (s _ _ z h0)⟩
  · exact .inl ⟨no h0 (by rw [z]; exact nofun), .inr ⟨o, s _ _ z h0⟩⟩
  · exact .inr h
section
variable {P : Program} {w : World} {K : PySem.W.Frag} {mg : Str → Option Value} {base : Heap} {C : Addr}
abbrev sAns : Stmt := topS 35
theorem scAns : FnScope ["calls", "desk", "given", "start", "end", "answer"] ["calls"] (defScope sAns) := ⟨rfl, rfl, rfl, by decide +kernel, rfl, by decide +kernel, by decide +kernel⟩
def spAll (K : PySem.W.Frag) : Sp := fun vs H Q _ => ∃ (a : Addr) (cs : List Rl07.Call), vs = [.ref a] ∧ SqL K H a (nl (cs.flatMap flat)) ∧ (∀ c ∈ cs, (rowOf c).length ≤ 40) ∧ (PyFlat.told (play Rl07.init cs)).length ≤ 10000000 ∧
  ∀ (H' : Hp) (p : Addr), H' p = some (.lst ((PyFlat.told (play Rl07.init cs)).map V.int)) → Q (.ref p) H'
theorem ok_ans {f fI : Addr} {fd fdI : FuncData} {k : Nat} (F : Fun K "answers" "answers" sAns f fd) (T : Txt mg) (mC : mg "Desk" = some (.ref C)) (MK : Mk K C fI) (bI : Binds K fdI ["self"] []) (GI : FnOk P w K mg base CX0 k fI fdI ["self"] (spInit C))
    (dE : Def P w K mg base (k + 1) "end_of_call" ["calls", "start"] (spEnd K)) (dA : Def P w K mg base (k + 1) "answer_of" ["desk", "call"] (spAof K C)) : FnOk P w K mg base CX0 (k + 2) f fd ["calls"] (spAll K) := by
  obtain ⟨f1, fd1, m1, k1, b1, G1⟩ := dE
  obtain ⟨f2, fd2, m2, k2, b2, G2⟩ := dA
  refine F.ok scAns (fun vs H Q E h => ?_) (fun cdv A outer s H vs Q E hr h => ?_)
  · obtain ⟨a, cs, rfl, _⟩ := h
    rfl
  · obtain ⟨a, cs, rfl, hA, h40, h7, q⟩ := h
    refine ⟨_, pss_cons (ps_set (i := 1) scAns.nd rfl (.inl rfl) (pe_make0 MK GI hr rfl mC bI .nil pass0))
      (pss_cons (ps_set (i := 2) scAns.nd rfl (.inl rfl) (pe_lst pa_nil))
      (pss_cons (ps_set (i := 3) scAns.nd rfl (.inl rfl) pe_int)
      (pss_cons (ps_while PassesOwn.never (pt_cmpR op_lt (pv 3) (pe_callB call_len_seq (by rfl) T.len PySem.boot_len (pa_cons (pv 0) pa_nil)) (nomark _))
        (pss_cons (ps_set (i := 4) scAns.nd rfl (.inl rfl) (pe_call G1 hr (by rfl) m1 k1 b1 .nil pass0 (pa_cons (pv 0) (pa_cons (pv 3) pa_nil))))
        (pss_cons (ps_set (i := 5) scAns.nd rfl (.inl rfl) (pe_call G2 hr (by rfl) m2 k2 b2 .nil pass0 (pa_cons (pv 1) (pa_cons (pe_slice sl_list (pv 0) (po_some (pv 3)) (po_some (pv 4))) pa_nil))))
        (pss_cons (ps_expr (pe_bm PySem.F.plainAttrs_list PySem.F.slot_list_append PySem.F.type_list_append mt_append (pv 2) (pa_cons (pe_callB call_len_seq (by rfl) T.len PySem.boot_len (pa_cons (pv 5) pa_nil)) pa_nil)))
        (pss_cons (ps_expr (pe_bm PySem.F.plainAttrs_list PySem.F.slot_list_extend PySem.F.type_list_extend mt_extend (pv 2) (pa_cons (pv 5) pa_nil)))
        (pss_one (ps_set (i := 3) scAns.nd rfl (.inl rfl) (pv 4))))))))
      (pss_one (ps_ret (pv 2)))))), ?_⟩
    -- desk = Desk()
    intro x dx nx ndx nex
    have s0 : Same H (upd (upd H dx (.own x)) x (.ins C dx [])) := same_new (same_upd ndx) nx
    refine ⟨x, dx, rfl, upd_same, fun H1 own d1 fr1 ow1 => ⟨rfl, ?_⟩⟩
    have s1 : Same H H1 := fun b o e => fr1 b o (s0 b o e) (ne_of_none e nx)
    have hfree : ∀ b ∈ own, H b = none := fun b hb => by
      rcases ow1 b hb with z | z
      · rw [z]; exact nx
      · exact s0.free z
    have hFx : Fx K own H1 a (nl (cs.flatMap flat)) := by
      rcases hA with (z | ⟨o, z⟩) | z
      · exact .inl ⟨(fun y => by rw [hfree a y] at z; cases z), .inl (s1 _ _ z)⟩
      · exact .inl ⟨(fun y => by rw [hfree a y] at z; cases z), .inr ⟨o, s1 _ _ z⟩⟩
      · exact .inr fun H' => .inr z
    -- given = []
    refine ⟨Nat.zero_le _, fun pg ng => ?_⟩
    have sg : Same H1 (upd H1 pg (.lst [])) := same_upd ng
    have fg : (upd H1 pg (.lst [])) pg = some (.lst []) := upd_same
    have hgo : pg ∉ own := fun z => by
      obtain ⟨_, _, _, _, _, _, d⟩ := d1
      exact d.out ng z
    have hFx2 : Fx K (pg :: own) (upd H1 pg (.lst [])) a (nl (cs.flatMap flat)) := by
      have hne : ∀ {o}, H1 a = some o → a ∉ own → a ∉ pg :: own := fun {o} h1 h2 z => by
        rcases List.mem_cons.mp z with y | y
        · rw [y, ng] at h1; cases h1
        · exact h2 y
      rcases hFx with ⟨h0, z | ⟨o, z⟩⟩ | h
      · exact .inl ⟨hne z h0, .inl (sg _ _ z)⟩
      · exact .inl ⟨hne z h0, .inr ⟨o, sg _ _ z⟩⟩
      · exact .inr h
    have d2 : Desk C (upd H1 pg (.lst [])) x Rl07.init own [pg] := by
      obtain ⟨e1, e2, e3, e5, e4, e6, d⟩ := d1
      have d' := d.keep sg
      refine ⟨e1, e2, e3, e5, e4, e6, d'.mine, d'.ob, d'.rl, ?_, d'.ld, d'.hd, d'.pm, d'.two, fun b hb => ?_⟩
      · have := d'.rs.len
        have e0 : e4 = [] := List.length_eq_zero_iff.mp this
        rw [e0]; exact .nil
      · have : b = pg := by simpa using hb
        rw [this]; exact ⟨hgo, _, fg⟩
    generalize upd H1 pg (.lst []) = H2 at *
    refine ⟨fun m σ H' => ∃ i own v4 v5, i ≤ cs.length ∧ m = cs.length - i ∧ σ = [some (.ref a), some (.ref x), some (.ref pg), some (.int (((cs.take i).flatMap flat).length : Int)), v4, v5] ∧ Fx K (pg :: own) H' a (nl (cs.flatMap flat)) ∧
        Desk C H' x (after Rl07.init (cs.take i)) own [pg] ∧ pg ∉ own ∧ H' pg = some (.lst ((PyFlat.told (play Rl07.init (cs.take i))).map V.int)),
      ⟨_, 0, own, none, none, Nat.zero_le _, rfl, rfl, hFx2, d2, hgo, fg⟩, ?_⟩
    rintro m σ H3 ⟨i, own3, v4, v5, hi, rfl, rfl, hF3, d3, hg3, hp3⟩
    refine ⟨_, rfl, _, rfl, a, _, rfl, .inl hF3.seq, _, _, rfl, rfl, _, rfl, ?_⟩
    rw [nl_len]
    have hsplit : cs.flatMap flat = (cs.take i).flatMap flat ++ (cs.drop i).flatMap flat := by rw [← List.flatMap_append, List.take_append_drop]
    refine iteD (fun c => ?_) (fun c => ?_)
    · -- one call more
      have hlt : i < cs.length := by
        refine Classical.byContradiction fun z => ?_
        rw [List.take_of_length_le (by omega)] at c
        omega
      have hci : cs[i]? = some cs[i] := List.getElem?_eq_getElem hlt
      generalize hcd : cs[i] = call at hci
      have hdrop : (cs.drop i).flatMap flat = flat call ++ (cs.drop (i + 1)).flatMap flat := by
        rw [List.drop_eq_getElem_cons hlt, hcd, List.flatMap_cons]
      have hL : cs.flatMap flat = (cs.take i).flatMap flat ++ flat call ++ (cs.drop (i + 1)).flatMap flat := by rw [hsplit, hdrop, List.append_assoc]
      have hcm : call ∈ cs := List.mem_of_getElem? hci
      have hsq : SqL K H3 a (nl ((cs.take i).flatMap flat ++ flat call ++ (cs.drop (i + 1)).flatMap flat)) := by rw [← hL]; exact hF3.seq
      refine ⟨fun σ' H' => ∃ own v4 v5, σ' = [some (.ref a), some (.ref x), some (.ref pg), some (.int (((cs.take (i + 1)).flatMap flat).length : Int)), v4, v5] ∧ Fx K (pg :: own) H' a (nl (cs.flatMap flat)) ∧
          Desk C H' x (after Rl07.init (cs.take (i + 1))) own [pg] ∧ pg ∉ own ∧ H' pg = some (.lst ((PyFlat.told (play Rl07.init (cs.take (i + 1)))).map V.int)),
        fun σ' H' ⟨own, v4, v5, e1, e2, e3, e4, e5⟩ => ⟨cs.length - (i + 1), by omega, i + 1, own, v4, v5, by omega, rfl, e1, e2, e3, e4, e5⟩, ?_⟩
      -- end = end_of_call(calls, start)
      refine ⟨_, rfl, _, rfl, a, _, _, call, rfl, hsq, ?_⟩
      -- calls[start:end]
      refine ⟨_, rfl, _, rfl, _, rfl, _, rfl, _, rfl, _, rfl, a, _, rfl, hsq, fun pc nc => ?_⟩
      rw [cut_mid]
      have sc := same_upd (o := .lst (nl (flat call))) nc
      have fc : (upd H3 pc (.lst (nl (flat call)))) pc = some (.lst (nl (flat call))) := upd_same
      have d4 := d3.keep sc
      have hF4 := hF3.same sc
      have hp4 := sc _ _ hp3
      have hstep := after_snoc (cs.take i) call Rl07.init
      rw [← take_more hci] at hstep
      have hplay : play Rl07.init (cs.take (i + 1)) = play Rl07.init (cs.take i) ++ [(Rl07.step (after Rl07.init (cs.take i)) call).2] := by rw [take_more hci, play_append]; rfl
      have hlen7 : (PyFlat.told (play Rl07.init (cs.take (i + 1)))).length ≤ 10000000 := by
        have e : play Rl07.init cs = play Rl07.init (cs.take (i + 1)) ++ play (after Rl07.init (cs.take (i + 1))) (cs.drop (i + 1)) := by rw [← play_append, List.take_append_drop]
        rw [e, told_append, List.length_append] at h7
        omega
      have htold : PyFlat.told (play Rl07.init (cs.take (i + 1))) = PyFlat.told (play Rl07.init (cs.take i)) ++ (((Rl07.step (after Rl07.init (cs.take i)) call).2.length : Int) :: (Rl07.step (after Rl07.init (cs.take i)) call).2) := by
        rw [hplay, told_append]
        show _ ++ ((_ :: _) ++ []) = _
        rw [List.append_nil]
      generalize upd H3 pc (.lst (nl (flat call))) = H4 at *
      refine ⟨x, pc, _, own3, [pg], call, rfl, d4, after_ok _, after_hist _, .of fc, h40 _ hcm, fun H5 pq own5 d5 fr5 ow5 n5 h5 => ?_⟩
      rw [← hstep] at d5
      generalize hans : (Rl07.step (after Rl07.init (cs.take i)) call).2 = ans at *
      have hg5 : pg ∉ own5 := fun z => by
        rcases ow5 pg z with y | y
        · exact hg3 y
        · rw [hp4] at y; cases y
      have hp5 := fr5 _ _ hp4 hg3
      have hF5 : Fx K (pg :: own5) H5 a (nl (cs.flatMap flat)) := hF4.frm (fun b o e hb => fr5 b o e fun y => hb (List.mem_cons_of_mem _ y)) fun b hb => by
        rcases List.mem_cons.mp hb with y | y
        · exact .inl (by rw [y]; simp)
        · rcases ow5 b y with z | z
          · exact .inl (List.mem_cons_of_mem _ z)
          · exact .inr z
      have hpq : pq ≠ pg := (ne_of_none hp4 n5).symm
      have hsz : (PyFlat.told (play Rl07.init (cs.take i))).length + 1 + ans.length ≤ 10000000 := by
        rw [htold, List.length_append, List.length_cons] at hlen7
        omega
      -- given.append(len(answer))
      refine ⟨_, rfl, .inl ⟨rfl, _, .of hp5⟩, _, rfl, pq, _, rfl, .inl (.of h5), pg, _, _, rfl, rfl, hp5, (by rw [List.length_map, sizeLine_eq]; omega), ?_⟩
      -- given.extend(answer)
      refine ⟨_, rfl, .inl ⟨rfl, _, .of upd_same⟩, _, rfl, pg, pq, _, _, rfl, rfl, upd_same, (by rw [upd_ne hpq]; exact h5), (by rw [List.length_append, List.length_map, List.length_map, List.length_singleton, sizeLine_eq]; omega), ?_⟩
      -- start = end
      refine ⟨_, rfl, ?_⟩
      have frg : ∀ z1 z2 b o, H5 b = some o → b ≠ pg → (upd (upd H5 pg z1) pg z2) b = some o := fun z1 z2 b o e hb => by rw [upd_ne hb, upd_ne hb]; exact e
      refine ⟨own5, some (.int ((((cs.take i).flatMap flat).length + (flat call).length : Nat) : Int)), some (.ref pq), ?_, ?_, ?_, hg5, ?_⟩
      · rw [take_more hci, List.flatMap_append]
        have : ([call] : List Rl07.Call).flatMap flat = flat call := by simp
        rw [this, List.length_append]; rfl
      · rcases hF5 with ⟨h0, z | ⟨o, z⟩⟩ | h
        · exact .inl ⟨h0, .inl (frg _ _ _ _ z fun y => h0 (by rw [y]; simp))⟩
        · exact .inl ⟨h0, .inr ⟨o, frg _ _ _ _ z fun y => h0 (by rw [y]; simp)⟩⟩
        · exact .inr h
      · obtain ⟨q1, q2, q3, q5, q4, q6, d⟩ := d5
        have hne : ∀ {b}, b ∈ own5 → b ≠ pg := fun {b} hb z => hg5 (z ▸ hb)
        refine ⟨q1, q2, q3, q5, q4, q6, d.mine, frg _ _ _ _ d.ob (hne (by rw [d.mine]; simp)), frg _ _ _ _ d.rl (hne (by rw [d.mine]; simp)), d.rs.keep fun b o e => ?_, frg _ _ _ _ d.ld (hne (by rw [d.mine]; simp)), frg _ _ _ _ d.hd (hne (by rw [d.mine]; simp)), d.pm, d.two, fun b hb => ?_⟩
        · have hb : b ∉ own5 ++ [pg] := fun z => by rw [minus_in z] at e; cases e
          rw [minus_out hb] at e ⊢
          exact frg _ _ _ _ e fun y => hb (by rw [y]; simp)
        · have : b = pg := by simpa using hb
          rw [this]; exact ⟨hg5, _, upd_same⟩
      · rw [upd_same, htold]
        simp
    · -- the end
      have hi2 : i = cs.length := by
        refine Classical.byContradiction fun z => ?_
        have hlt : i < cs.length := by omega
        have hdrop : (cs.drop i).flatMap flat = flat cs[i] ++ (cs.drop (i + 1)).flatMap flat := by
          rw [List.drop_eq_getElem_cons hlt, List.flatMap_cons]
        have := flat_pos cs[i]
        rw [hsplit, List.length_append, hdrop, List.length_append] at c
        omega
      rw [hi2, List.take_length] at hp3
      exact ⟨_, rfl, q H3 pg hp3⟩
end
end NK
namespace NK
open PySem PySem.Spec PyProof.Rows L2
def spTop (K : PySem.W.Frag) : Sp := fun vs H Q _ => ∃ (a : Addr) (ns : List Int), vs = [.ref a] ∧ SqL K H a (ns.map V.int) ∧ (∀ x ∈ ns, 0 ≤ x ∧ x ≤ 4294967295) ∧ PyRl07.answers_asked ns = true ∧
  ∀ (H' : Hp) (p : Addr), H' p = some (.lst ((PyRl07.answers ns).map V.int)) → Q (.ref p) H'
theorem top_all {K : PySem.W.Frag} (vs : List V) (H : Hp) (Q : VK) (E : XK) (h : spTop K vs H Q E) : spAll K vs H Q E := by
  obtain ⟨a, ns, rfl, hA, h0, hask, q⟩ := h
  obtain ⟨cs, e1, e2, e3, e4, e5⟩ := read_calls h0 hask
  refine ⟨a, cs, rfl, ?_, e3, e5, fun H' p hp => q H' p (by rw [e4]; exact hp)⟩
  rw [← ints_nl, ← e1]; exact hA
theorem Def.mono {P : Program} {w : World} {K : PySem.W.Frag} {mg : Str → Option Value} {base : Heap} {j k : Nat} {x : Str} {ps : List Str} {sp : Sp} (h : j ≤ k) (d : Def P w K mg base j x ps sp) : Def P w K mg base k x ps sp := let ⟨f, fd, m, kp, b, G⟩ := d; ⟨f, fd, m, kp, b, G.mono h⟩
theorem MDef.mono {P : Program} {w : World} {K : PySem.W.Frag} {mg : Str → Option Value} {base : Heap} {C : Addr} {j k : Nat} {x : Str} {ps : List Str} {sp : Sp} (h : j ≤ k) (d : MDef P w K mg base C j x ps sp) : MDef P w K mg base C k x ps sp := let ⟨f, fd, m, b, G⟩ := d; ⟨f, fd, m, b, G.mono h⟩
theorem all_mk {P : Program} {w : World} {K : PySem.W.Frag} {h : Heap} {mg : Str → Option Value} {fa C f1 f2 f3 f4 f5 f6 f7 f8 f9 f10 f11 f12 f13 f14 f15 f16 f17 f18 f19 f20 f21 f22 f23 f24 f25 f26 f27 f28 f29 f30 f31 f32 f33 : Addr} (X : K.In h) (G : h.Ns mainGlobals mg) (hfa : mg "answers" = some (.ref fa))
    {od1 an1 : Option Addr} {sl1 : Array (Option Value)} {oc1 kV1 dc1 pm1 cd1 ct1 : Value}
    {od2 an2 : Option Addr} {sl2 : Array (Option Value)} {oc2 kV2 dc2 pm2 cd2 ct2 : Value}
    {od3 an3 : Option Addr} {sl3 : Array (Option Value)} {oc3 kV3 dc3 pm3 cd3 ct3 : Value}
    {od4 an4 : Option Addr} {sl4 : Array (Option Value)} {oc4 kV4 dc4 pm4 cd4 ct4 : Value}
    {od5 an5 : Option Addr} {sl5 : Array (Option Value)} {oc5 kV5 dc5 pm5 cd5 ct5 : Value}
    {od6 an6 : Option Addr} {sl6 : Array (Option Value)} {oc6 kV6 dc6 pm6 cd6 ct6 : Value}
    {od7 an7 : Option Addr} {sl7 : Array (Option Value)} {oc7 kV7 dc7 pm7 cd7 ct7 : Value}
    {od8 an8 : Option Addr} {sl8 : Array (Option Value)} {oc8 kV8 dc8 pm8 cd8 ct8 : Value}
    {od9 an9 : Option Addr} {sl9 : Array (Option Value)} {oc9 kV9 dc9 pm9 cd9 ct9 : Value}
    {od10 an10 : Option Addr} {sl10 : Array (Option Value)} {oc10 kV10 dc10 pm10 cd10 ct10 : Value}
    {od11 an11 : Option Addr} {sl11 : Array (Option Value)} {oc11 kV11 dc11 pm11 cd11 ct11 : Value}
    {od12 an12 : Option Addr} {sl12 : Array (Option Value)} {oc12 kV12 dc12 pm12 cd12 ct12 : Value}
    {od13 an13 : Option Addr} {sl13 : Array (Option Value)} {oc13 kV13 dc13 pm13 cd13 ct13 : Value}
    {od14 an14 : Option Addr} {sl14 : Array (Option Value)} {oc14 kV14 dc14 pm14 cd14 ct14 : Value}
    {od15 an15 : Option Addr} {sl15 : Array (Option Value)} {oc15 kV15 dc15 pm15 cd15 ct15 : Value}
    {od16 an16 : Option Addr} {sl16 : Array (Option Value)} {oc16 kV16 dc16 pm16 cd16 ct16 : Value}
    {od17 an17 : Option Addr} {sl17 : Array (Option Value)} {oc17 kV17 dc17 pm17 cd17 ct17 : Value}
    {od18 an18 : Option Addr} {sl18 : Array (Option Value)} {oc18 kV18 dc18 pm18 cd18 ct18 : Value}
    {od19 an19 : Option Addr} {sl19 : Array (Option Value)} {oc19 kV19 dc19 pm19 cd19 ct19 : Value}
    {od20 an20 : Option Addr} {sl20 : Array (Option Value)} {oc20 kV20 dc20 pm20 cd20 ct20 : Value}
    {od21 an21 : Option Addr} {sl21 : Array (Option Value)} {oc21 kV21 dc21 pm21 cd21 ct21 : Value}
    {od22 an22 : Option Addr} {sl22 : Array (Option Value)} {oc22 kV22 dc22 pm22 cd22 ct22 : Value}
    {od23 an23 : Option Addr} {sl23 : Array (Option Value)} {oc23 kV23 dc23 pm23 cd23 ct23 : Value}
    {od24 an24 : Option Addr} {sl24 : Array (Option Value)} {oc24 kV24 dc24 pm24 cd24 ct24 : Value}
    {od25 an25 : Option Addr} {sl25 : Array (Option Value)} {oc25 kV25 dc25 pm25 cd25 ct25 : Value}
    {od26 an26 : Option Addr} {sl26 : Array (Option Value)} {oc26 kV26 dc26 pm26 cd26 ct26 : Value}
    {od27 an27 : Option Addr} {sl27 : Array (Option Value)} {oc27 kV27 dc27 pm27 cd27 ct27 : Value}
    {od28 an28 : Option Addr} {sl28 : Array (Option Value)} {oc28 kV28 dc28 pm28 cd28 ct28 : Value}
    {od29 an29 : Option Addr} {sl29 : Array (Option Value)} {oc29 kV29 dc29 pm29 cd29 ct29 : Value}
    {od30 an30 : Option Addr} {sl30 : Array (Option Value)} {oc30 kV30 dc30 pm30 cd30 ct30 : Value}
    {od31 an31 : Option Addr} {sl31 : Array (Option Value)} {oc31 kV31 dc31 pm31 cd31 ct31 : Value}
    {od32 an32 : Option Addr} {sl32 : Array (Option Value)} {oc32 kV32 dc32 pm32 cd32 ct32 : Value}
    {od33 an33 : Option Addr} {sl33 : Array (Option Value)} {oc33 kV33 dc33 pm33 cd33 ct33 : Value}
    {t_MOST_RECORDS : Tok}
    {t_LAST_RECORD : Tok}
    {t_LAST_LABEL : Tok}
    {t_MOST_GROUPS : Tok}
    {t_NEW : Tok}
    {t_BEGIN : Tok}
    {t_ROUND : Tok}
    {t_SHOW : Tok}
    {t_OF : Tok}
    {t_LEADS : Tok}
    {t_WAS : Tok}
    {t_ENDED : Tok}
    {t_BEGUN : Tok}
    {t_HOLD : Tok}
    {t_LET : Tok}
    {t_WOULD : Tok}
    {t_MOST_ROUNDS : Tok}
    {d_NUMBERS_BEHIND : Addr} {es_NUMBERS_BEHIND : Array DictEntry} {en_NUMBERS_BEHIND : Nat}
    (aC : PySem.W.nsIn K mainGlobals "Desk" = some (some (.ref C)))
    (a1 : PySem.W.nsIn K mainGlobals "is_a_record" = some (some (.ref f1)))
    (l1 : K.lookup f1 = some ⟨oc1, od1, .func (PySem.W.fnOf "is_a_record" "is_a_record" (defArgs (topS 6)) (defBody (topS 6)) (defScope (topS 6)) .none kV1 dc1 pm1 an1 cd1 ct1), sl1⟩) (c1 : PySem.W.codeIn K cd1 "is_a_record" = true) (k1 : PySem.W.keepIn K (.ref f1) = true)
    (a2 : PySem.W.nsIn K mainGlobals "can_be_told" = some (some (.ref f2)))
    (l2 : K.lookup f2 = some ⟨oc2, od2, .func (PySem.W.fnOf "can_be_told" "can_be_told" (defArgs (topS 7)) (defBody (topS 7)) (defScope (topS 7)) .none kV2 dc2 pm2 an2 cd2 ct2), sl2⟩) (c2 : PySem.W.codeIn K cd2 "can_be_told" = true) (k2 : PySem.W.keepIn K (.ref f2) = true)
    (a3 : PySem.W.nsIn K mainGlobals "groups_told" = some (some (.ref f3)))
    (l3 : K.lookup f3 = some ⟨oc3, od3, .func (PySem.W.fnOf "groups_told" "groups_told" (defArgs (topS 8)) (defBody (topS 8)) (defScope (topS 8)) .none kV3 dc3 pm3 an3 cd3 ct3), sl3⟩) (c3 : PySem.W.codeIn K cd3 "groups_told" = true) (k3 : PySem.W.keepIn K (.ref f3) = true)
    (a4 : PySem.W.nsIn K mainGlobals "how_many_in_both" = some (some (.ref f4)))
    (l4 : K.lookup f4 = some ⟨oc4, od4, .func (PySem.W.fnOf "how_many_in_both" "how_many_in_both" (defArgs (topS 9)) (defBody (topS 9)) (defScope (topS 9)) .none kV4 dc4 pm4 an4 cd4 ct4), sl4⟩) (c4 : PySem.W.codeIn K cd4 "how_many_in_both" = true) (k4 : PySem.W.keepIn K (.ref f4) = true)
    (a5 : PySem.W.nsIn K mainGlobals "those_that_count" = some (some (.ref f5)))
    (l5 : K.lookup f5 = some ⟨oc5, od5, .func (PySem.W.fnOf "those_that_count" "those_that_count" (defArgs (topS 10)) (defBody (topS 10)) (defScope (topS 10)) .none kV5 dc5 pm5 an5 cd5 ct5), sl5⟩) (c5 : PySem.W.codeIn K cd5 "those_that_count" = true) (k5 : PySem.W.keepIn K (.ref f5) = true)
    (a6 : PySem.W.nsIn K mainGlobals "numbers_it_may_have" = some (some (.ref f6)))
    (l6 : K.lookup f6 = some ⟨oc6, od6, .func (PySem.W.fnOf "numbers_it_may_have" "numbers_it_may_have" (defArgs (topS 11)) (defBody (topS 11)) (defScope (topS 11)) .none kV6 dc6 pm6 an6 cd6 ct6), sl6⟩) (c6 : PySem.W.codeIn K cd6 "numbers_it_may_have" = true) (k6 : PySem.W.keepIn K (.ref f6) = true)
    (a7 : PySem.W.nsIn K mainGlobals "ways_to_give" = some (some (.ref f7)))
    (l7 : K.lookup f7 = some ⟨oc7, od7, .func (PySem.W.fnOf "ways_to_give" "ways_to_give" (defArgs (topS 12)) (defBody (topS 12)) (defScope (topS 12)) .none kV7 dc7 pm7 an7 cd7 ct7), sl7⟩) (c7 : PySem.W.codeIn K cd7 "ways_to_give" = true) (k7 : PySem.W.keepIn K (.ref f7) = true)
    (a8 : PySem.W.nsIn K mainGlobals "how_many_keep_theirs" = some (some (.ref f8)))
    (l8 : K.lookup f8 = some ⟨oc8, od8, .func (PySem.W.fnOf "how_many_keep_theirs" "how_many_keep_theirs" (defArgs (topS 13)) (defBody (topS 13)) (defScope (topS 13)) .none kV8 dc8 pm8 an8 cd8 ct8), sl8⟩) (c8 : PySem.W.codeIn K cd8 "how_many_keep_theirs" = true) (k8 : PySem.W.keepIn K (.ref f8) = true)
    (a9 : PySem.W.nsIn K mainGlobals "best_way" = some (some (.ref f9)))
    (l9 : K.lookup f9 = some ⟨oc9, od9, .func (PySem.W.fnOf "best_way" "best_way" (defArgs (topS 14)) (defBody (topS 14)) (defScope (topS 14)) .none kV9 dc9 pm9 an9 cd9 ct9), sl9⟩) (c9 : PySem.W.codeIn K cd9 "best_way" = true) (k9 : PySem.W.keepIn K (.ref f9) = true)
    (a10 : PySem.W.nsIn K mainGlobals "where_it_led" = some (some (.ref f10)))
    (l10 : K.lookup f10 = some ⟨oc10, od10, .func (PySem.W.fnOf "where_it_led" "where_it_led" (defArgs (topS 15)) (defBody (topS 15)) (defScope (topS 15)) .none kV10 dc10 pm10 an10 cd10 ct10), sl10⟩) (c10 : PySem.W.codeIn K cd10 "where_it_led" = true) (k10 : PySem.W.keepIn K (.ref f10) = true)
    (a11 : PySem.W.nsIn K mainGlobals "number_of" = some (some (.ref f11)))
    (l11 : K.lookup f11 = some ⟨oc11, od11, .func (PySem.W.fnOf "number_of" "number_of" (defArgs (topS 16)) (defBody (topS 16)) (defScope (topS 16)) .none kV11 dc11 pm11 an11 cd11 ct11), sl11⟩) (c11 : PySem.W.codeIn K cd11 "number_of" = true) (k11 : PySem.W.keepIn K (.ref f11) = true)
    (a12 : PySem.W.nsIn K mainGlobals "groups_in_numbers" = some (some (.ref f12)))
    (l12 : K.lookup f12 = some ⟨oc12, od12, .func (PySem.W.fnOf "groups_in_numbers" "groups_in_numbers" (defArgs (topS 17)) (defBody (topS 17)) (defScope (topS 17)) .none kV12 dc12 pm12 an12 cd12 ct12), sl12⟩) (c12 : PySem.W.codeIn K cd12 "groups_in_numbers" = true) (k12 : PySem.W.keepIn K (.ref f12) = true)
    (a13 : PySem.W.nsIn K mainGlobals "end_of_call" = some (some (.ref f13)))
    (l13 : K.lookup f13 = some ⟨oc13, od13, .func (PySem.W.fnOf "end_of_call" "end_of_call" (defArgs (topS 33)) (defBody (topS 33)) (defScope (topS 33)) .none kV13 dc13 pm13 an13 cd13 ct13), sl13⟩) (c13 : PySem.W.codeIn K cd13 "end_of_call" = true) (k13 : PySem.W.keepIn K (.ref f13) = true)
    (a14 : PySem.W.nsIn K mainGlobals "answer_of" = some (some (.ref f14)))
    (l14 : K.lookup f14 = some ⟨oc14, od14, .func (PySem.W.fnOf "answer_of" "answer_of" (defArgs (topS 34)) (defBody (topS 34)) (defScope (topS 34)) .none kV14 dc14 pm14 an14 cd14 ct14), sl14⟩) (c14 : PySem.W.codeIn K cd14 "answer_of" = true) (k14 : PySem.W.keepIn K (.ref f14) = true)
    (a15 : PySem.W.nsIn K mainGlobals "answers" = some (some (.ref f15)))
    (l15 : K.lookup f15 = some ⟨oc15, od15, .func (PySem.W.fnOf "answers" "answers" (defArgs (topS 35)) (defBody (topS 35)) (defScope (topS 35)) .none kV15 dc15 pm15 an15 cd15 ct15), sl15⟩) (c15 : PySem.W.codeIn K cd15 "answers" = true) (k15 : PySem.W.keepIn K (.ref f15) = true)
    (a16 : PySem.W.findIn K (.ref C) "__init__" = some (some (.ref f16))) (i16 : PySem.W.isFn K (.ref f16) = true)
    (l16 : K.lookup f16 = some ⟨oc16, od16, .func (PySem.W.fnOf "__init__" "Desk.__init__" (defArgs (inClass (topS 32) 0)) (defBody (inClass (topS 32) 0)) (defScope (inClass (topS 32) 0)) .none kV16 dc16 pm16 an16 cd16 ct16), sl16⟩) (c16 : PySem.W.codeIn K cd16 "Desk.__init__" = true) (k16 : PySem.W.keepIn K (.ref f16) = true)
    (a17 : PySem.W.findIn K (.ref C) "begin" = some (some (.ref f17))) (i17 : PySem.W.isFn K (.ref f17) = true)
    (l17 : K.lookup f17 = some ⟨oc17, od17, .func (PySem.W.fnOf "begin" "Desk.begin" (defArgs (inClass (topS 32) 1)) (defBody (inClass (topS 32) 1)) (defScope (inClass (topS 32) 1)) .none kV17 dc17 pm17 an17 cd17 ct17), sl17⟩) (c17 : PySem.W.codeIn K cd17 "Desk.begin" = true) (k17 : PySem.W.keepIn K (.ref f17) = true)
    (a18 : PySem.W.findIn K (.ref C) "take_round" = some (some (.ref f18))) (i18 : PySem.W.isFn K (.ref f18) = true)
    (l18 : K.lookup f18 = some ⟨oc18, od18, .func (PySem.W.fnOf "take_round" "Desk.take_round" (defArgs (inClass (topS 32) 2)) (defBody (inClass (topS 32) 2)) (defScope (inClass (topS 32) 2)) .none kV18 dc18 pm18 an18 cd18 ct18), sl18⟩) (c18 : PySem.W.codeIn K cd18 "Desk.take_round" = true) (k18 : PySem.W.keepIn K (.ref f18) = true)
    (a19 : PySem.W.findIn K (.ref C) "give_numbers" = some (some (.ref f19))) (i19 : PySem.W.isFn K (.ref f19) = true)
    (l19 : K.lookup f19 = some ⟨oc19, od19, .func (PySem.W.fnOf "give_numbers" "Desk.give_numbers" (defArgs (inClass (topS 32) 3)) (defBody (inClass (topS 32) 3)) (defScope (inClass (topS 32) 3)) .none kV19 dc19 pm19 an19 cd19 ct19), sl19⟩) (c19 : PySem.W.codeIn K cd19 "Desk.give_numbers" = true) (k19 : PySem.W.keepIn K (.ref f19) = true)
    (a20 : PySem.W.findIn K (.ref C) "groups_of" = some (some (.ref f20))) (i20 : PySem.W.isFn K (.ref f20) = true)
    (l20 : K.lookup f20 = some ⟨oc20, od20, .func (PySem.W.fnOf "groups_of" "Desk.groups_of" (defArgs (inClass (topS 32) 4)) (defBody (inClass (topS 32) 4)) (defScope (inClass (topS 32) 4)) .none kV20 dc20 pm20 an20 cd20 ct20), sl20⟩) (c20 : PySem.W.codeIn K cd20 "Desk.groups_of" = true) (k20 : PySem.W.keepIn K (.ref f20) = true)
    (a21 : PySem.W.findIn K (.ref C) "last_round" = some (some (.ref f21))) (i21 : PySem.W.isFn K (.ref f21) = true)
    (l21 : K.lookup f21 = some ⟨oc21, od21, .func (PySem.W.fnOf "last_round" "Desk.last_round" (defArgs (inClass (topS 32) 5)) (defBody (inClass (topS 32) 5)) (defScope (inClass (topS 32) 5)) .none kV21 dc21 pm21 an21 cd21 ct21), sl21⟩) (c21 : PySem.W.codeIn K cd21 "Desk.last_round" = true) (k21 : PySem.W.keepIn K (.ref f21) = true)
    (a22 : PySem.W.findIn K (.ref C) "there_was" = some (some (.ref f22))) (i22 : PySem.W.isFn K (.ref f22) = true)
    (l22 : K.lookup f22 = some ⟨oc22, od22, .func (PySem.W.fnOf "there_was" "Desk.there_was" (defArgs (inClass (topS 32) 6)) (defBody (inClass (topS 32) 6)) (defScope (inClass (topS 32) 6)) .none kV22 dc22 pm22 an22 cd22 ct22), sl22⟩) (c22 : PySem.W.codeIn K cd22 "Desk.there_was" = true) (k22 : PySem.W.keepIn K (.ref f22) = true)
    (a23 : PySem.W.findIn K (.ref C) "was_given" = some (some (.ref f23))) (i23 : PySem.W.isFn K (.ref f23) = true)
    (l23 : K.lookup f23 = some ⟨oc23, od23, .func (PySem.W.fnOf "was_given" "Desk.was_given" (defArgs (inClass (topS 32) 7)) (defBody (inClass (topS 32) 7)) (defScope (inClass (topS 32) 7)) .none kV23 dc23 pm23 an23 cd23 ct23), sl23⟩) (c23 : PySem.W.codeIn K cd23 "Desk.was_given" = true) (k23 : PySem.W.keepIn K (.ref f23) = true)
    (a24 : PySem.W.findIn K (.ref C) "show" = some (some (.ref f24))) (i24 : PySem.W.isFn K (.ref f24) = true)
    (l24 : K.lookup f24 = some ⟨oc24, od24, .func (PySem.W.fnOf "show" "Desk.show" (defArgs (inClass (topS 32) 8)) (defBody (inClass (topS 32) 8)) (defScope (inClass (topS 32) 8)) .none kV24 dc24 pm24 an24 cd24 ct24), sl24⟩) (c24 : PySem.W.codeIn K cd24 "Desk.show" = true) (k24 : PySem.W.keepIn K (.ref f24) = true)
    (a25 : PySem.W.findIn K (.ref C) "of" = some (some (.ref f25))) (i25 : PySem.W.isFn K (.ref f25) = true)
    (l25 : K.lookup f25 = some ⟨oc25, od25, .func (PySem.W.fnOf "of" "Desk.of" (defArgs (inClass (topS 32) 9)) (defBody (inClass (topS 32) 9)) (defScope (inClass (topS 32) 9)) .none kV25 dc25 pm25 an25 cd25 ct25), sl25⟩) (c25 : PySem.W.codeIn K cd25 "Desk.of" = true) (k25 : PySem.W.keepIn K (.ref f25) = true)
    (a26 : PySem.W.findIn K (.ref C) "leads" = some (some (.ref f26))) (i26 : PySem.W.isFn K (.ref f26) = true)
    (l26 : K.lookup f26 = some ⟨oc26, od26, .func (PySem.W.fnOf "leads" "Desk.leads" (defArgs (inClass (topS 32) 10)) (defBody (inClass (topS 32) 10)) (defScope (inClass (topS 32) 10)) .none kV26 dc26 pm26 an26 cd26 ct26), sl26⟩) (c26 : PySem.W.codeIn K cd26 "Desk.leads" = true) (k26 : PySem.W.keepIn K (.ref f26) = true)
    (a27 : PySem.W.findIn K (.ref C) "was" = some (some (.ref f27))) (i27 : PySem.W.isFn K (.ref f27) = true)
    (l27 : K.lookup f27 = some ⟨oc27, od27, .func (PySem.W.fnOf "was" "Desk.was" (defArgs (inClass (topS 32) 11)) (defBody (inClass (topS 32) 11)) (defScope (inClass (topS 32) 11)) .none kV27 dc27 pm27 an27 cd27 ct27), sl27⟩) (c27 : PySem.W.codeIn K cd27 "Desk.was" = true) (k27 : PySem.W.keepIn K (.ref f27) = true)
    (a28 : PySem.W.findIn K (.ref C) "ended" = some (some (.ref f28))) (i28 : PySem.W.isFn K (.ref f28) = true)
    (l28 : K.lookup f28 = some ⟨oc28, od28, .func (PySem.W.fnOf "ended" "Desk.ended" (defArgs (inClass (topS 32) 12)) (defBody (inClass (topS 32) 12)) (defScope (inClass (topS 32) 12)) .none kV28 dc28 pm28 an28 cd28 ct28), sl28⟩) (c28 : PySem.W.codeIn K cd28 "Desk.ended" = true) (k28 : PySem.W.keepIn K (.ref f28) = true)
    (a29 : PySem.W.findIn K (.ref C) "begun" = some (some (.ref f29))) (i29 : PySem.W.isFn K (.ref f29) = true)
    (l29 : K.lookup f29 = some ⟨oc29, od29, .func (PySem.W.fnOf "begun" "Desk.begun" (defArgs (inClass (topS 32) 13)) (defBody (inClass (topS 32) 13)) (defScope (inClass (topS 32) 13)) .none kV29 dc29 pm29 an29 cd29 ct29), sl29⟩) (c29 : PySem.W.codeIn K cd29 "Desk.begun" = true) (k29 : PySem.W.keepIn K (.ref f29) = true)
    (a30 : PySem.W.findIn K (.ref C) "hold" = some (some (.ref f30))) (i30 : PySem.W.isFn K (.ref f30) = true)
    (l30 : K.lookup f30 = some ⟨oc30, od30, .func (PySem.W.fnOf "hold" "Desk.hold" (defArgs (inClass (topS 32) 14)) (defBody (inClass (topS 32) 14)) (defScope (inClass (topS 32) 14)) .none kV30 dc30 pm30 an30 cd30 ct30), sl30⟩) (c30 : PySem.W.codeIn K cd30 "Desk.hold" = true) (k30 : PySem.W.keepIn K (.ref f30) = true)
    (a31 : PySem.W.findIn K (.ref C) "let" = some (some (.ref f31))) (i31 : PySem.W.isFn K (.ref f31) = true)
    (l31 : K.lookup f31 = some ⟨oc31, od31, .func (PySem.W.fnOf "let" "Desk.let" (defArgs (inClass (topS 32) 15)) (defBody (inClass (topS 32) 15)) (defScope (inClass (topS 32) 15)) .none kV31 dc31 pm31 an31 cd31 ct31), sl31⟩) (c31 : PySem.W.codeIn K cd31 "Desk.let" = true) (k31 : PySem.W.keepIn K (.ref f31) = true)
    (a32 : PySem.W.findIn K (.ref C) "would" = some (some (.ref f32))) (i32 : PySem.W.isFn K (.ref f32) = true)
    (l32 : K.lookup f32 = some ⟨oc32, od32, .func (PySem.W.fnOf "would" "Desk.would" (defArgs (inClass (topS 32) 16)) (defBody (inClass (topS 32) 16)) (defScope (inClass (topS 32) 16)) .none kV32 dc32 pm32 an32 cd32 ct32), sl32⟩) (c32 : PySem.W.codeIn K cd32 "Desk.would" = true) (k32 : PySem.W.keepIn K (.ref f32) = true)
    (a33 : PySem.W.findIn K (.ref C) "counts" = some (some (.ref f33))) (i33 : PySem.W.isFn K (.ref f33) = true)
    (l33 : K.lookup f33 = some ⟨oc33, od33, .func (PySem.W.fnOf "counts" "Desk.counts" (defArgs (inClass (topS 32) 17)) (defBody (inClass (topS 32) 17)) (defScope (inClass (topS 32) 17)) .none kV33 dc33 pm33 an33 cd33 ct33), sl33⟩) (c33 : PySem.W.codeIn K cd33 "Desk.counts" = true) (k33 : PySem.W.keepIn K (.ref f33) = true)
    (g_MOST_RECORDS : PySem.W.nsIn K mainGlobals "MOST_RECORDS" = some (some (.int 8 t_MOST_RECORDS)))
    (g_LAST_RECORD : PySem.W.nsIn K mainGlobals "LAST_RECORD" = some (some (.int 30 t_LAST_RECORD)))
    (g_LAST_LABEL : PySem.W.nsIn K mainGlobals "LAST_LABEL" = some (some (.int 100 t_LAST_LABEL)))
    (g_MOST_GROUPS : PySem.W.nsIn K mainGlobals "MOST_GROUPS" = some (some (.int 6 t_MOST_GROUPS)))
    (g_NEW : PySem.W.nsIn K mainGlobals "NEW" = some (some (.int 0 t_NEW)))
    (g_BEGIN : PySem.W.nsIn K mainGlobals "BEGIN" = some (some (.int 0 t_BEGIN)))
    (g_ROUND : PySem.W.nsIn K mainGlobals "ROUND" = some (some (.int 1 t_ROUND)))
    (g_SHOW : PySem.W.nsIn K mainGlobals "SHOW" = some (some (.int 2 t_SHOW)))
    (g_OF : PySem.W.nsIn K mainGlobals "OF" = some (some (.int 3 t_OF)))
    (g_LEADS : PySem.W.nsIn K mainGlobals "LEADS" = some (some (.int 4 t_LEADS)))
    (g_WAS : PySem.W.nsIn K mainGlobals "WAS" = some (some (.int 5 t_WAS)))
    (g_ENDED : PySem.W.nsIn K mainGlobals "ENDED" = some (some (.int 6 t_ENDED)))
    (g_BEGUN : PySem.W.nsIn K mainGlobals "BEGUN" = some (some (.int 7 t_BEGUN)))
    (g_HOLD : PySem.W.nsIn K mainGlobals "HOLD" = some (some (.int 8 t_HOLD)))
    (g_LET : PySem.W.nsIn K mainGlobals "LET" = some (some (.int 9 t_LET)))
    (g_WOULD : PySem.W.nsIn K mainGlobals "WOULD" = some (some (.int 10 t_WOULD)))
    (g_MOST_ROUNDS : PySem.W.nsIn K mainGlobals "MOST_ROUNDS" = some (some (.int 30 t_MOST_ROUNDS)))
    (z_all : PySem.W.nsIn K mainGlobals "all" = some none)
    (z_any : PySem.W.nsIn K mainGlobals "any" = some none)
    (z_len : PySem.W.nsIn K mainGlobals "len" = some none)
    (z_list : PySem.W.nsIn K mainGlobals "list" = some none)
    (z_min : PySem.W.nsIn K mainGlobals "min" = some none)
    (z_set : PySem.W.nsIn K mainGlobals "set" = some none)
    (z_sorted : PySem.W.nsIn K mainGlobals "sorted" = some none)
    (z_sum : PySem.W.nsIn K mainGlobals "sum" = some none)
    (z_zip : PySem.W.nsIn K mainGlobals "zip" = some none)
    (pg : PySem.W.plainGet K C Str.empty = true) (hd : PySem.W.hasDictIn K C = true) (po : PySem.W.plainOver K C = true) (sa : PySem.W.findIn K (.ref C) "__setattr__" = some (some (.builtin "object.__setattr__"))) (mk : PySem.W.makesIn K C = true) (kc : PySem.W.keepIn K (.ref C) = true)
    (n_held : PySem.W.findIn K (.ref C) "held" = some none)
    (n_led : PySem.W.findIn K (.ref C) "led" = some none)
    (n_next_number : PySem.W.findIn K (.ref C) "next_number" = some none)
    (n_rounds : PySem.W.findIn K (.ref C) "rounds" = some none)
    (b_NUMBERS_BEHIND : PySem.W.nsIn K mainGlobals "NUMBERS_BEHIND" = some (some (.ref d_NUMBERS_BEHIND))) (e_NUMBERS_BEHIND : K.lookup d_NUMBERS_BEHIND = some ⟨.type "dict", none, .dict es_NUMBERS_BEHIND en_NUMBERS_BEHIND, #[]⟩)
    (y_ok : tabOk es_NUMBERS_BEHIND = true) (y0 : tabAt es_NUMBERS_BEHIND 0 = some 0) (y2 : tabAt es_NUMBERS_BEHIND 2 = some 0) (y3 : tabAt es_NUMBERS_BEHIND 3 = some 1) (y4 : tabAt es_NUMBERS_BEHIND 4 = some 1) (y5 : tabAt es_NUMBERS_BEHIND 5 = some 2) (y6 : tabAt es_NUMBERS_BEHIND 6 = some 1) (y7 : tabAt es_NUMBERS_BEHIND 7 = some 1) (y8 : tabAt es_NUMBERS_BEHIND 8 = some 2) (y9 : tabAt es_NUMBERS_BEHIND 9 = some 1) (y11 : tabAt es_NUMBERS_BEHIND 11 = some 0)
    : ∃ fd : FuncData, (∀ (s : Shared) (us : List Value), us.length = (["calls"] : List Str).length → BindsTo s fd ⟨us, []⟩ ((["calls"] : List Str).zip us)) ∧ ∀ base : Heap, K.In base → base.Ns mainGlobals mg → FnOk P w K mg base CX0 9 fa fd ["calls"] (spTop K) := by
  have e := hfa.symm.trans (PySem.W.mg_of X G a15)
  cases e
  have T : Txt mg := ⟨PySem.W.mg_none_of X G z_len, PySem.W.mg_none_of X G z_set, PySem.W.mg_none_of X G z_any, PySem.W.mg_none_of X G z_zip, PySem.W.mg_none_of X G z_list, PySem.W.mg_none_of X G z_sum, PySem.W.mg_none_of X G z_sorted, PySem.W.mg_none_of X G z_all, PySem.W.mg_none_of X G z_min, ⟨_, PySem.W.mg_of X G g_MOST_RECORDS⟩, ⟨_, PySem.W.mg_of X G g_LAST_RECORD⟩, ⟨_, PySem.W.mg_of X G g_LAST_LABEL⟩, ⟨_, PySem.W.mg_of X G g_MOST_GROUPS⟩, ⟨_, PySem.W.mg_of X G g_NEW⟩⟩
  have TK : Kinds mg := ⟨⟨_, PySem.W.mg_of X G g_BEGIN⟩, ⟨_, PySem.W.mg_of X G g_ROUND⟩, ⟨_, PySem.W.mg_of X G g_SHOW⟩, ⟨_, PySem.W.mg_of X G g_OF⟩, ⟨_, PySem.W.mg_of X G g_LEADS⟩, ⟨_, PySem.W.mg_of X G g_WAS⟩, ⟨_, PySem.W.mg_of X G g_ENDED⟩, ⟨_, PySem.W.mg_of X G g_BEGUN⟩, ⟨_, PySem.W.mg_of X G g_HOLD⟩, ⟨_, PySem.W.mg_of X G g_LET⟩, ⟨_, PySem.W.mg_of X G g_WOULD⟩⟩
  have TT : Tbl K mg := ⟨_, _, _, PySem.W.mg_of X G b_NUMBERS_BEHIND, e_NUMBERS_BEHIND, y_ok, y0, y2, y3, y4, y5, y6, y7, y8, y9, y11⟩
  have TC : CTxt K C := ⟨⟨pg, hd, po, sa⟩, n_rounds, n_led, n_held, n_next_number⟩
  have F1 := fun_mk (st := topS 6) l1 c1 k1
  have b1 := F1.binds (ps := ["record"]) fun _ _ _ _ _ _ us hl => match us, hl with | [_], _ => rfl
  have F2 := fun_mk (st := topS 7) l2 c2 k2
  have b2 := F2.binds (ps := ["told"]) fun _ _ _ _ _ _ us hl => match us, hl with | [_], _ => rfl
  have F3 := fun_mk (st := topS 8) l3 c3 k3
  have b3 := F3.binds (ps := ["told"]) fun _ _ _ _ _ _ us hl => match us, hl with | [_], _ => rfl
  have F4 := fun_mk (st := topS 9) l4 c4 k4
  have b4 := F4.binds (ps := ["records", "others"]) fun _ _ _ _ _ _ us hl => match us, hl with | [_, _], _ => rfl
  have F5 := fun_mk (st := topS 10) l5 c5 k5
  have b5 := F5.binds (ps := ["held", "groups", "ahead"]) fun _ _ _ _ _ _ us hl => match us, hl with | [_, _, _], _ => rfl
  have F6 := fun_mk (st := topS 11) l6 c6 k6
  have b6 := F6.binds (ps := ["records", "ahead", "counting"]) fun _ _ _ _ _ _ us hl => match us, hl with | [_, _, _], _ => rfl
  have F7 := fun_mk (st := topS 12) l7 c7 k7
  have b7 := F7.binds (ps := ["choices"]) fun _ _ _ _ _ _ us hl => match us, hl with | [_], _ => rfl
  have F8 := fun_mk (st := topS 13) l8 c8 k8
  have b8 := F8.binds (ps := ["way", "groups", "ahead"]) fun _ _ _ _ _ _ us hl => match us, hl with | [_, _, _], _ => rfl
  have F9 := fun_mk (st := topS 14) l9 c9 k9
  have b9 := F9.binds (ps := ["groups", "ahead", "held"]) fun _ _ _ _ _ _ us hl => match us, hl with | [_, _, _], _ => rfl
  have F10 := fun_mk (st := topS 15) l10 c10 k10
  have b10 := F10.binds (ps := ["records", "now"]) fun _ _ _ _ _ _ us hl => match us, hl with | [_, _], _ => rfl
  have F11 := fun_mk (st := topS 16) l11 c11 k11
  have b11 := F11.binds (ps := ["record", "groups"]) fun _ _ _ _ _ _ us hl => match us, hl with | [_, _], _ => rfl
  have F12 := fun_mk (st := topS 17) l12 c12 k12
  have b12 := F12.binds (ps := ["groups"]) fun _ _ _ _ _ _ us hl => match us, hl with | [_], _ => rfl
  have F13 := fun_mk (st := topS 33) l13 c13 k13
  have b13 := F13.binds (ps := ["calls", "start"]) fun _ _ _ _ _ _ us hl => match us, hl with | [_, _], _ => rfl
  have F14 := fun_mk (st := topS 34) l14 c14 k14
  have b14 := F14.binds (ps := ["desk", "call"]) fun _ _ _ _ _ _ us hl => match us, hl with | [_, _], _ => rfl
  have F15 := fun_mk (st := topS 35) l15 c15 k15
  have b15 := F15.binds (ps := ["calls"]) fun _ _ _ _ _ _ us hl => match us, hl with | [_], _ => rfl
  have F16 := fun_mk (st := inClass (topS 32) 0) l16 c16 k16
  have b16 := F16.binds (ps := ["self"]) fun _ _ _ _ _ _ us hl => match us, hl with | [_], _ => rfl
  have F17 := fun_mk (st := inClass (topS 32) 1) l17 c17 k17
  have b17 := F17.binds (ps := ["self"]) fun _ _ _ _ _ _ us hl => match us, hl with | [_], _ => rfl
  have F18 := fun_mk (st := inClass (topS 32) 2) l18 c18 k18
  have b18 := F18.binds (ps := ["self", "told"]) fun _ _ _ _ _ _ us hl => match us, hl with | [_, _], _ => rfl
  have F19 := fun_mk (st := inClass (topS 32) 3) l19 c19 k19
  have b19 := F19.binds (ps := ["self", "groups", "ahead"]) fun _ _ _ _ _ _ us hl => match us, hl with | [_, _, _], _ => rfl
  have F20 := fun_mk (st := inClass (topS 32) 4) l20 c20 k20
  have b20 := F20.binds (ps := ["self", "which"]) fun _ _ _ _ _ _ us hl => match us, hl with | [_, _], _ => rfl
  have F21 := fun_mk (st := inClass (topS 32) 5) l21 c21 k21
  have b21 := F21.binds (ps := ["self"]) fun _ _ _ _ _ _ us hl => match us, hl with | [_], _ => rfl
  have F22 := fun_mk (st := inClass (topS 32) 6) l22 c22 k22
  have b22 := F22.binds (ps := ["self", "which"]) fun _ _ _ _ _ _ us hl => match us, hl with | [_, _], _ => rfl
  have F23 := fun_mk (st := inClass (topS 32) 7) l23 c23 k23
  have b23 := F23.binds (ps := ["self", "number"]) fun _ _ _ _ _ _ us hl => match us, hl with | [_, _], _ => rfl
  have F24 := fun_mk (st := inClass (topS 32) 8) l24 c24 k24
  have b24 := F24.binds (ps := ["self"]) fun _ _ _ _ _ _ us hl => match us, hl with | [_], _ => rfl
  have F25 := fun_mk (st := inClass (topS 32) 9) l25 c25 k25
  have b25 := F25.binds (ps := ["self", "record"]) fun _ _ _ _ _ _ us hl => match us, hl with | [_, _], _ => rfl
  have F26 := fun_mk (st := inClass (topS 32) 10) l26 c26 k26
  have b26 := F26.binds (ps := ["self", "number"]) fun _ _ _ _ _ _ us hl => match us, hl with | [_, _], _ => rfl
  have F27 := fun_mk (st := inClass (topS 32) 11) l27 c27 k27
  have b27 := F27.binds (ps := ["self", "which", "record"]) fun _ _ _ _ _ _ us hl => match us, hl with | [_, _, _], _ => rfl
  have F28 := fun_mk (st := inClass (topS 32) 12) l28 c28 k28
  have b28 := F28.binds (ps := ["self", "which"]) fun _ _ _ _ _ _ us hl => match us, hl with | [_, _], _ => rfl
  have F29 := fun_mk (st := inClass (topS 32) 13) l29 c29 k29
  have b29 := F29.binds (ps := ["self", "which"]) fun _ _ _ _ _ _ us hl => match us, hl with | [_, _], _ => rfl
  have F30 := fun_mk (st := inClass (topS 32) 14) l30 c30 k30
  have b30 := F30.binds (ps := ["self", "number", "record"]) fun _ _ _ _ _ _ us hl => match us, hl with | [_, _, _], _ => rfl
  have F31 := fun_mk (st := inClass (topS 32) 15) l31 c31 k31
  have b31 := F31.binds (ps := ["self", "number"]) fun _ _ _ _ _ _ us hl => match us, hl with | [_, _], _ => rfl
  have F32 := fun_mk (st := inClass (topS 32) 16) l32 c32 k32
  have b32 := F32.binds (ps := ["self", "told"]) fun _ _ _ _ _ _ us hl => match us, hl with | [_, _], _ => rfl
  have F33 := fun_mk (st := inClass (topS 32) 17) l33 c33 k33
  have b33 := F33.binds (ps := ["self"]) fun _ _ _ _ _ _ us hl => match us, hl with | [_], _ => rfl
  refine ⟨PySem.W.fnOf "answers" "answers" (defArgs (topS 35)) (defBody (topS 35)) (defScope (topS 35)) .none kV15 dc15 pm15 an15 cd15 ct15, fun s us hu => match us, hu with | [_], _ => .of_eq rfl, fun base _ _ => ?_⟩
  have D_is_a_record : Def P w K mg base 1 "is_a_record" ["record"] _ := ⟨_, _, PySem.W.mg_of X G a1, k1, b1, ok_rec F1 T⟩
  have D_how_many_in_both : Def P w K mg base 1 "how_many_in_both" ["records", "others"] _ := ⟨_, _, PySem.W.mg_of X G a4, k4, b4, ok_both F4 T⟩
  have D_can_be_told : Def P w K mg base 2 "can_be_told" ["told"] _ := ⟨_, _, PySem.W.mg_of X G a2, k2, b2, ok_can F2 T D_is_a_record⟩
  have D_groups_told : Def P w K mg base 1 "groups_told" ["told"] _ := ⟨_, _, PySem.W.mg_of X G a3, k3, b3, ok_grp F3 T⟩
  have D_number_of : Def P w K mg base 1 "number_of" ["record", "groups"] _ := ⟨_, _, PySem.W.mg_of X G a11, k11, b11, ok_num F11⟩
  have D_groups_in_numbers : Def P w K mg base 1 "groups_in_numbers" ["groups"] _ := ⟨_, _, PySem.W.mg_of X G a12, k12, b12, ok_tell F12 T⟩
  have D_those_that_count : Def P w K mg base 2 "those_that_count" ["held", "groups", "ahead"] _ := ⟨_, _, PySem.W.mg_of X G a5, k5, b5, (ok_cnt (k := 1) F5 T)⟩
  have D_ways_to_give : Def P w K mg base 2 "ways_to_give" ["choices"] _ := ⟨_, _, PySem.W.mg_of X G a7, k7, b7, (ok_ways (k := 1) F7 T)⟩
  have D_where_it_led : Def P w K mg base 2 "where_it_led" ["records", "now"] _ := ⟨_, _, PySem.W.mg_of X G a10, k10, b10, ok_led F10 D_how_many_in_both⟩
  have D_how_many_keep_theirs : Def P w K mg base 2 "how_many_keep_theirs" ["way", "groups", "ahead"] _ := ⟨_, _, PySem.W.mg_of X G a8, k8, b8, ok_keep F8 T D_how_many_in_both⟩
  have D_numbers_it_may_have : Def P w K mg base 2 "numbers_it_may_have" ["records", "ahead", "counting"] _ := ⟨_, _, PySem.W.mg_of X G a6, k6, b6, ok_may F6 T D_how_many_in_both⟩
  have D_best_way : Def P w K mg base 3 "best_way" ["groups", "ahead", "held"] _ := ⟨_, _, PySem.W.mg_of X G a9, k9, b9, ok_best F9 D_those_that_count D_numbers_it_may_have D_ways_to_give D_how_many_keep_theirs⟩
  have M_begin : MDef P w K mg base C 1 "begin" ["self"] _ := ⟨_, _, ⟨a17, i17, k17⟩, b17, ok_begin F17 TC⟩
  have M_groups_of : MDef P w K mg base C 1 "groups_of" ["self", "which"] _ := ⟨_, _, ⟨a20, i20, k20⟩, b20, ok_gof F20 TC⟩
  have M_last_round : MDef P w K mg base C 2 "last_round" ["self"] _ := ⟨_, _, ⟨a21, i21, k21⟩, b21, ok_last F21 T TC M_groups_of⟩
  have M_there_was : MDef P w K mg base C 1 "there_was" ["self", "which"] _ := ⟨_, _, ⟨a22, i22, k22⟩, b22, ok_there F22 T TC⟩
  have M_was_given : MDef P w K mg base C 1 "was_given" ["self", "number"] _ := ⟨_, _, ⟨a23, i23, k23⟩, b23, ok_given F23 TC⟩
  have M_leads : MDef P w K mg base C 2 "leads" ["self", "number"] _ := ⟨_, _, ⟨a26, i26, k26⟩, b26, ok_leads F26 TC M_was_given⟩
  have M_show : MDef P w K mg base C 3 "show" ["self"] _ := ⟨_, _, ⟨a24, i24, k24⟩, b24, ok_show F24 TC M_last_round (D_groups_in_numbers.mono (by decide))⟩
  have M_of : MDef P w K mg base C 3 "of" ["self", "record"] _ := ⟨_, _, ⟨a25, i25, k25⟩, b25, ok_of F25 TC M_last_round (D_number_of.mono (by decide))⟩
  have M_was : MDef P w K mg base C 2 "was" ["self", "which", "record"] _ := ⟨_, _, ⟨a27, i27, k27⟩, b27, ok_was F27 TC M_there_was M_groups_of D_number_of⟩
  have M_ended : MDef P w K mg base C 2 "ended" ["self", "which"] _ := ⟨_, _, ⟨a28, i28, k28⟩, b28, ok_ended F28 T TC M_there_was M_groups_of⟩
  have M_begun : MDef P w K mg base C 2 "begun" ["self", "which"] _ := ⟨_, _, ⟨a29, i29, k29⟩, b29, ok_begun F29 T TC M_there_was M_groups_of⟩
  have M_counts : MDef P w K mg base C 1 "counts" ["self"] _ := ⟨_, _, ⟨a33, i33, k33⟩, b33, ok_counts F33 T TC⟩
  have M_hold : MDef P w K mg base C 2 "hold" ["self", "number", "record"] _ := ⟨_, _, ⟨a30, i30, k30⟩, b30, ok_hold F30 TC M_was_given D_is_a_record⟩
  have M_let : MDef P w K mg base C 1 "let" ["self", "number"] _ := ⟨_, _, ⟨a31, i31, k31⟩, b31, ok_let F31 T TC⟩
  have M_would : MDef P w K mg base C 4 "would" ["self", "told"] _ := ⟨_, _, ⟨a32, i32, k32⟩, b32, ok_would F32 T TC (D_can_be_told.mono (by decide)) (D_groups_told.mono (by decide)) (M_last_round.mono (by decide)) D_best_way (D_how_many_keep_theirs.mono (by decide))⟩
  have M_give_numbers : MDef P w K mg base C 4 "give_numbers" ["self", "groups", "ahead"] _ := ⟨_, _, ⟨a19, i19, k19⟩, b19, ok_give F19 T TC D_best_way⟩
  have M_take_round : MDef P w K mg base C 5 "take_round" ["self", "told"] _ := ⟨_, _, ⟨a18, i18, k18⟩, b18, ok_round F18 T ⟨_, PySem.W.mg_of X G g_MOST_ROUNDS⟩ TC (D_can_be_told.mono (by decide)) (D_groups_told.mono (by decide)) (D_where_it_led.mono (by decide)) (D_groups_in_numbers.mono (by decide)) (M_last_round.mono (by decide)) M_give_numbers⟩
  have D_end_of_call : Def P w K mg base 7 "end_of_call" ["calls", "start"] _ := ⟨_, _, PySem.W.mg_of X G a13, k13, b13, (ok_end (k := 6) F13 TT TK)⟩
  have D_answer_of : Def P w K mg base 7 "answer_of" ["desk", "call"] _ := ⟨_, _, PySem.W.mg_of X G a14, k14, b14, (ok_aof (k := 6) F14 TK TC (M_begin.mono (by decide)) (M_take_round.mono (by decide)) (M_show.mono (by decide)) (M_of.mono (by decide)) (M_leads.mono (by decide)) (M_was.mono (by decide)) (M_ended.mono (by decide)) (M_begun.mono (by decide)) (M_hold.mono (by decide)) (M_let.mono (by decide)) (M_would.mono (by decide)) (M_counts.mono (by decide)))⟩
  have GI : FnOk P w K mg base CX0 6 f16 _ ["self"] (spInit C) := (ok_init (k := 4) F16 TC (M_begin.mono (by decide)))
  exact ((ok_ans (k := 6) F15 T (PySem.W.mg_of X G aC) ⟨mk, a16, i16, kc⟩ b16 GI D_end_of_call D_answer_of).imp top_all).mono (by decide)
end NK
open PySem PySem.W PyProof.Rows
set_option maxRecDepth 100000 in
set_option maxHeartbeats 8000000 in
theorem PySem.Challenge.cw_numberskept_s01_answers_holds : PySem.Challenge.rw_numberskept_s01_answers.Holds := by
  w_on; k_headS; (case hw => exact ⟨[.list [.int 0]], by decide +kernel, by decide +kernel⟩)
  k_fillS
  refine L2.walk_specK (r := PySem.Challenge.rw_numberskept_s01_answers) (k := 9) (CX := L2.CX0) (ps := ["calls"]) (sp := NK.spTop) (by decide +kernel) rfl rfl ⟨rfl, by decide, by decide⟩ (fun w h Y => PySem.W.kIn_of Y) ?F ?S (fun _ _ _ _ z => z)
  case F =>
    intro w mg fa h Y KX G hmg
    refine' NK.all_mk KX G hmg ?aC ?a1 ?l1 ?c1 ?k1 ?a2 ?l2 ?c2 ?k2 ?a3 ?l3 ?c3 ?k3 ?a4 ?l4 ?c4 ?k4 ?a5 ?l5 ?c5 ?k5 ?a6 ?l6 ?c6 ?k6 ?a7 ?l7 ?c7 ?k7 ?a8 ?l8 ?c8 ?k8 ?a9 ?l9 ?c9 ?k9 ?a10 ?l10 ?c10 ?k10 ?a11 ?l11 ?c11 ?k11 ?a12 ?l12 ?c12 ?k12 ?a13 ?l13 ?c13 ?k13 ?a14 ?l14 ?c14 ?k14 ?a15 ?l15 ?c15 ?k15 ?a16 ?i16 ?l16 ?c16 ?k16 ?a17 ?i17 ?l17 ?c17 ?k17 ?a18 ?i18 ?l18 ?c18 ?k18 ?a19 ?i19 ?l19 ?c19 ?k19 ?a20 ?i20 ?l20 ?c20 ?k20 ?a21 ?i21 ?l21 ?c21 ?k21 ?a22 ?i22 ?l22 ?c22 ?k22 ?a23 ?i23 ?l23 ?c23 ?k23 ?a24 ?i24 ?l24 ?c24 ?k24 ?a25 ?i25 ?l25 ?c25 ?k25 ?a26 ?i26 ?l26 ?c26 ?k26 ?a27 ?i27 ?l27 ?c27 ?k27 ?a28 ?i28 ?l28 ?c28 ?k28 ?a29 ?i29 ?l29 ?c29 ?k29 ?a30 ?i30 ?l30 ?c30 ?k30 ?a31 ?i31 ?l31 ?c31 ?k31 ?a32 ?i32 ?l32 ?c32 ?k32 ?a33 ?i33 ?l33 ?c33 ?k33 ?g_MOST_RECORDS ?g_LAST_RECORD ?g_LAST_LABEL ?g_MOST_GROUPS ?g_NEW ?g_BEGIN ?g_ROUND ?g_SHOW ?g_OF ?g_LEADS ?g_WAS ?g_ENDED ?g_BEGUN ?g_HOLD ?g_LET ?g_WOULD ?g_MOST_ROUNDS ?z_all ?z_any ?z_len ?z_list ?z_min ?z_set ?z_sorted ?z_sum ?z_zip ?pg ?hd ?po ?sa ?mk ?kc ?n_held ?n_led ?n_next_number ?n_rounds ?b_NUMBERS_BEHIND ?e_NUMBERS_BEHIND ?y_ok ?y0 ?y2 ?y3 ?y4 ?y5 ?y6 ?y7 ?y8 ?y9 ?y11
    (case aC => k_is)
    (case a1 => k_is)
    (case l1 => k_is)
    (case c1 => k_is)
    (case k1 => k_is)
    (case a2 => k_is)
    (case l2 => k_is)
    (case c2 => k_is)
    (case k2 => k_is)
    (case a3 => k_is)
    (case l3 => k_is)
    (case c3 => k_is)
    (case k3 => k_is)
    (case a4 => k_is)
    (case l4 => k_is)
    (case c4 => k_is)
    (case k4 => k_is)
    (case a5 => k_is)
    (case l5 => k_is)
    (case c5 => k_is)
    (case k5 => k_is)
    (case a6 => k_is)
    (case l6 => k_is)
    (case c6 => k_is)
    (case k6 => k_is)
    (case a7 => k_is)
    (case l7 => k_is)
    (case c7 => k_is)
    (case k7 => k_is)
    (case a8 => k_is)
    (case l8 => k_is)
    (case c8 => k_is)
    (case k8 => k_is)
    (case a9 => k_is)
    (case l9 => k_is)
    (case c9 => k_is)
    (case k9 => k_is)
    (case a10 => k_is)
    (case l10 => k_is)
    (case c10 => k_is)
    (case k10 => k_is)
    (case a11 => k_is)
    (case l11 => k_is)
    (case c11 => k_is)
    (case k11 => k_is)
    (case a12 => k_is)
    (case l12 => k_is)
    (case c12 => k_is)
    (case k12 => k_is)
    (case a13 => k_is)
    (case l13 => k_is)
    (case c13 => k_is)
    (case k13 => k_is)
    (case a14 => k_is)
    (case l14 => k_is)
    (case c14 => k_is)
    (case k14 => k_is)
    (case a15 => k_is)
    (case l15 => k_is)
    (case c15 => k_is)
    (case k15 => k_is)
    (case a16 => k_is)
    (case i16 => k_is)
    (case l16 => k_is)
    (case c16 => k_is)
    (case k16 => k_is)
    (case a17 => k_is)
    (case i17 => k_is)
    (case l17 => k_is)
    (case c17 => k_is)
    (case k17 => k_is)
    (case a18 => k_is)
    (case i18 => k_is)
    (case l18 => k_is)
    (case c18 => k_is)
    (case k18 => k_is)
    (case a19 => k_is)
    (case i19 => k_is)
    (case l19 => k_is)
    (case c19 => k_is)
    (case k19 => k_is)
    (case a20 => k_is)
    (case i20 => k_is)
    (case l20 => k_is)
    (case c20 => k_is)
    (case k20 => k_is)
    (case a21 => k_is)
    (case i21 => k_is)
    (case l21 => k_is)
    (case c21 => k_is)
    (case k21 => k_is)
    (case a22 => k_is)
    (case i22 => k_is)
    (case l22 => k_is)
    (case c22 => k_is)
    (case k22 => k_is)
    (case a23 => k_is)
    (case i23 => k_is)
    (case l23 => k_is)
    (case c23 => k_is)
    (case k23 => k_is)
    (case a24 => k_is)
    (case i24 => k_is)
    (case l24 => k_is)
    (case c24 => k_is)
    (case k24 => k_is)
    (case a25 => k_is)
    (case i25 => k_is)
    (case l25 => k_is)
    (case c25 => k_is)
    (case k25 => k_is)
    (case a26 => k_is)
    (case i26 => k_is)
    (case l26 => k_is)
    (case c26 => k_is)
    (case k26 => k_is)
    (case a27 => k_is)
    (case i27 => k_is)
    (case l27 => k_is)
    (case c27 => k_is)
    (case k27 => k_is)
    (case a28 => k_is)
    (case i28 => k_is)
    (case l28 => k_is)
    (case c28 => k_is)
    (case k28 => k_is)
    (case a29 => k_is)
    (case i29 => k_is)
    (case l29 => k_is)
    (case c29 => k_is)
    (case k29 => k_is)
    (case a30 => k_is)
    (case i30 => k_is)
    (case l30 => k_is)
    (case c30 => k_is)
    (case k30 => k_is)
    (case a31 => k_is)
    (case i31 => k_is)
    (case l31 => k_is)
    (case c31 => k_is)
    (case k31 => k_is)
    (case a32 => k_is)
    (case i32 => k_is)
    (case l32 => k_is)
    (case c32 => k_is)
    (case k32 => k_is)
    (case a33 => k_is)
    (case i33 => k_is)
    (case l33 => k_is)
    (case c33 => k_is)
    (case k33 => k_is)
    (case g_MOST_RECORDS => k_is)
    (case g_LAST_RECORD => k_is)
    (case g_LAST_LABEL => k_is)
    (case g_MOST_GROUPS => k_is)
    (case g_NEW => k_is)
    (case g_BEGIN => k_is)
    (case g_ROUND => k_is)
    (case g_SHOW => k_is)
    (case g_OF => k_is)
    (case g_LEADS => k_is)
    (case g_WAS => k_is)
    (case g_ENDED => k_is)
    (case g_BEGUN => k_is)
    (case g_HOLD => k_is)
    (case g_LET => k_is)
    (case g_WOULD => k_is)
    (case g_MOST_ROUNDS => k_is)
    (case z_all => k_is)
    (case z_any => k_is)
    (case z_len => k_is)
    (case z_list => k_is)
    (case z_min => k_is)
    (case z_set => k_is)
    (case z_sorted => k_is)
    (case z_sum => k_is)
    (case z_zip => k_is)
    (case pg => k_is)
    (case hd => k_is)
    (case po => k_is)
    (case sa => k_is)
    (case mk => k_is)
    (case kc => k_is)
    (case n_held => k_is)
    (case n_led => k_is)
    (case n_next_number => k_is)
    (case n_rounds => k_is)
    (case b_NUMBERS_BEHIND => k_is)
    (case e_NUMBERS_BEHIND => k_is)
    (case y_ok => decide +kernel)
    (case y0 => decide +kernel)
    (case y2 => decide +kernel)
    (case y3 => decide +kernel)
    (case y4 => decide +kernel)
    (case y5 => decide +kernel)
    (case y6 => decide +kernel)
    (case y7 => decide +kernel)
    (case y8 => decide +kernel)
    (case y9 => decide +kernel)
    (case y11 => decide +kernel)
  case S =>
    intro K H xs a hO hwi hask hx
    cases hx with
    | cons h1 h2 =>
      cases h2
      cases h1 with
      | lst hs ha =>
        have e := L2.ints_dw a.1 _ ha
        subst e
        have q : ((Codec.inLen 0 2520 a.1 && a.1.all (Codec.inInt 0 4294967295)) && true) = true := hwi
        rw [Bool.and_eq_true, Bool.and_eq_true] at q
        refine ⟨_, a.1, rfl, hs, fun x hx => ?_, hask, fun H' p hp => .lst (L2.SqL.of hp) (L2.dw_ints _)⟩
        exact Codec.inInt_iff.mp (List.all_eq_true.mp q.1.2 x hx)
