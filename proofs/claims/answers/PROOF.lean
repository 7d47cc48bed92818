import PyProof.Rows.All
import Wide.All
import OpenK.AllK
import Wide.FinOn
import Open.SpecLaws
import KE.OsGo
import HandS.ForSpec
import HandS.ForMost
import HandS.Walk
import HandS.Deep
import HandS.Lambda
import HandS.Nested
import KE.SortKeyHeap
import KE.DataFind
import KE.KNestM
import PySem.Challenge.RW_sortedcopies_s01_answers
set_option Elab.async false
set_option linter.all false
set_option maxRecDepth 100000
set_option maxHeartbeats 8000000
namespace SC
open Md50

/-- one look of the search for a next one -/
def look (rec : Nat → List Nat × Pairs → Bool × List Nat × Pairs) (i : Nat) (a : Bool × List Nat × Pairs) (j : Nat) : Bool × List Nat × Pairs :=
  if a.1 = true ∨ a.2.1.contains j = true then a else
    match partner a.2.2 j with
    | none => (true, j :: a.2.1, paired a.2.2 j i)
    | some k =>
      if (rec k (j :: a.2.1, a.2.2)).1 = true then (true, (rec k (j :: a.2.1, a.2.2)).2.1, paired (rec k (j :: a.2.1, a.2.2)).2.2 j i) else rec k (j :: a.2.1, a.2.2)

def pairG (g : Nat → List Nat) : Nat → Nat → List Nat × Pairs → Bool × List Nat × Pairs
  | 0, _, st => (false, st)
  | n + 1, i, st => (g i).foldl (look (pairG g n) i) (false, st)

theorem pairUp_eq (s : St) (right : List Nat) : ∀ n i st, pairUp s right n i st = pairG (fun i => right.filter (below s i)) n i st
  | 0, _, _ => rfl
  | n + 1, i, st => by
    unfold pairUp pairG
    rw [List.foldl_filter]
    congr 1
    funext a j
    unfold look
    cases hb : below s i j
    · simp
    · simp only [Bool.true_eq_false, false_or, if_true]
      split
      · rfl
      · cases e : partner a.2.2 j with
        | none => rfl
        | some k => simp only [pairUp_eq s right n]

def keys (p : Pairs) : List Nat := p.map (·.1)
def KN (p : Pairs) : Prop := (keys p).Nodup

theorem partner_none {p : Pairs} {j : Nat} : partner p j = none ↔ j ∉ keys p := by
  unfold partner keys
  induction p with
  | nil => simp
  | cons x r ih =>
    obtain ⟨a, b⟩ := x
    by_cases h : j = a
    · subst h; simp [List.lookup]
    · have : (j == a) = false := by simp [h]
      simp [List.lookup, this, ih, h]

theorem partner_mem {p : Pairs} {j k : Nat} (h : partner p j = some k) : (j, k) ∈ p := by
  unfold partner at h
  induction p with
  | nil => simp at h
  | cons x r ih =>
    obtain ⟨a, b⟩ := x
    by_cases e : j = a
    · subst e; simp [List.lookup] at h; simp [h]
    · have : (j == a) = false := by simp [e]
      simp [List.lookup, this] at h
      simp [ih h]

theorem partner_some_key {p : Pairs} {j k : Nat} (h : partner p j = some k) : j ∈ keys p :=
  List.mem_map_of_mem (f := (·.1)) (partner_mem h)

theorem filter_keys (p : Pairs) (j : Nat) : keys (p.filter fun x => x.1 != j) = (keys p).filter (· != j) := by
  unfold keys
  rw [List.filter_map]
  rfl

theorem paired_keys (p : Pairs) (j i : Nat) : keys (paired p j i) = j :: (keys p).filter (· != j) := by
  unfold paired
  rw [← filter_keys]; rfl

theorem KN_paired {p : Pairs} (j i : Nat) (h : KN p) : KN (paired p j i) := by
  unfold KN
  rw [paired_keys, List.nodup_cons]
  exact ⟨by simp, List.Nodup.sublist List.filter_sublist h⟩

theorem filter_ne_of_not_mem {l : List Nat} {j : Nat} (h : j ∉ l) : l.filter (· != j) = l := by
  rw [List.filter_eq_self]
  intro x hx
  have : x ≠ j := fun e => h (e ▸ hx)
  simp [this]

theorem pfilter_ne_of_not_mem {p : Pairs} {j : Nat} (h : j ∉ keys p) : (p.filter fun x => x.1 != j) = p := by
  rw [List.filter_eq_self]
  intro x hx
  have : x.1 ≠ j := fun e => h (e ▸ List.mem_map_of_mem (f := (·.1)) hx)
  simp [this]

theorem length_keys (p : Pairs) : (keys p).length = p.length := List.length_map ..

theorem paired_length_new {p : Pairs} {j : Nat} (i : Nat) (h : j ∉ keys p) : (paired p j i).length = p.length + 1 := by
  unfold paired
  rw [pfilter_ne_of_not_mem h]; rfl

theorem filter_ne_length {l : List Nat} {j : Nat} (hn : l.Nodup) (h : j ∈ l) : (l.filter (· != j)).length + 1 = l.length := by
  induction l with
  | nil => simp at h
  | cons a r ih =>
    rw [List.nodup_cons] at hn
    by_cases e : a = j
    · subst e
      simp only [List.filter_cons, bne_self_eq_false, Bool.false_eq_true, if_false, List.length_cons]
      rw [filter_ne_of_not_mem hn.1]
    · have hj : j ∈ r := by
        rcases List.mem_cons.mp h with q | q
        · exact absurd q.symm e
        · exact q
      have : (a != j) = true := by simp [e]
      simp only [List.filter_cons, this, if_true, List.length_cons]
      rw [ih hn.2 hj]

theorem paired_length_old {p : Pairs} {j : Nat} (i : Nat) (hn : KN p) (h : j ∈ keys p) : (paired p j i).length = p.length := by
  rw [← length_keys, paired_keys, List.length_cons, filter_ne_length hn h, length_keys]

theorem mem_paired_keys {p : Pairs} {j i x : Nat} (h : x ∈ keys p) : x ∈ keys (paired p j i) := by
  rw [paired_keys]
  by_cases e : x = j
  · subst e; exact List.mem_cons_self
  · exact List.mem_cons_of_mem _ (by rw [List.mem_filter]; exact ⟨h, by simp [e]⟩)

/-- what a search keeps of the pairs p -/
structure Good (p : Pairs) (a : Bool × List Nat × Pairs) : Prop where
  kn : KN a.2.2
  no : a.1 = false → a.2.2 = p
  yes : a.1 = true → a.2.2.length = p.length + 1
  sub : ∀ x ∈ keys p, x ∈ keys a.2.2

theorem look_good {rec : Nat → List Nat × Pairs → Bool × List Nat × Pairs} {i : Nat} {p : Pairs} (hrec : ∀ k v, Good p (rec k (v, p)))
    {a : Bool × List Nat × Pairs} (h : Good p a) (j : Nat) : Good p (look rec i a j) := by
  unfold look
  split
  · exact h
  · rename_i c
    rw [not_or] at c
    have ep : a.2.2 = p := h.no (by simpa using c.1)
    have kn := h.kn
    rw [ep] at kn
    rw [ep]
    split
    · rename_i e
      have hj := partner_none.mp e
      exact ⟨KN_paired _ _ kn, fun q => by simp at q, fun _ => paired_length_new i hj, fun x hx => mem_paired_keys hx⟩
    · rename_i k e
      have hj := partner_some_key e
      have B := hrec k (j :: a.2.1)
      split
      · rename_i t
        exact ⟨KN_paired _ _ B.kn, fun q => by simp at q, fun _ => by
          show (paired _ j i).length = _
          rw [paired_length_old i B.kn (B.sub j hj), B.yes t], fun x hx => mem_paired_keys (B.sub x hx)⟩
      · exact B

theorem fold_good {rec : Nat → List Nat × Pairs → Bool × List Nat × Pairs} {i : Nat} {p : Pairs} (hrec : ∀ k v, Good p (rec k (v, p))) :
    ∀ (l : List Nat) (a : Bool × List Nat × Pairs), Good p a → Good p (l.foldl (look rec i) a)
  | [], _, h => h
  | j :: r, a, h => fold_good hrec r _ (look_good hrec h j)

theorem pairG_good (g : Nat → List Nat) {p : Pairs} (kn : KN p) : ∀ n i v, Good p (pairG g n i (v, p))
  | 0, _, _ => ⟨kn, fun _ => rfl, fun q => by simp [pairG] at q, fun _ h => h⟩
  | n + 1, i, v => fold_good (fun k v => pairG_good g kn n k v) (g i) _ ⟨kn, fun _ => rfl, fun q => by simp at q, fun _ h => h⟩

/-! what has been looked at stays so -/
theorem look_vis {rec : Nat → List Nat × Pairs → Bool × List Nat × Pairs} {i : Nat} (hrec : ∀ k st, ∀ x ∈ st.1, x ∈ (rec k st).2.1)
    (a : Bool × List Nat × Pairs) (j : Nat) : ∀ x ∈ a.2.1, x ∈ (look rec i a j).2.1 := by
  intro x hx
  unfold look
  split
  · exact hx
  · split
    · exact List.mem_cons_of_mem _ hx
    · rename_i k e
      have B := hrec k (j :: a.2.1, a.2.2) x (List.mem_cons_of_mem _ hx)
      split
      · exact B
      · exact B

theorem fold_vis {rec : Nat → List Nat × Pairs → Bool × List Nat × Pairs} {i : Nat} (hrec : ∀ k st, ∀ x ∈ st.1, x ∈ (rec k st).2.1) :
    ∀ (l : List Nat) (a : Bool × List Nat × Pairs), ∀ x ∈ a.2.1, x ∈ (l.foldl (look rec i) a).2.1
  | [], _, _, h => h
  | j :: r, a, x, h => fold_vis hrec r _ x (look_vis hrec a j x h)

theorem pairG_vis (g : Nat → List Nat) : ∀ n i st, ∀ x ∈ st.1, x ∈ (pairG g n i st).2.1
  | 0, _, _, _, h => h
  | n + 1, i, st, x, h => fold_vis (fun k st => pairG_vis g n k st) (g i) (false, st) x h

/-- how many of R have not been looked at -/
def unv (R vis : List Nat) : Nat := R.countP fun x => !vis.contains x

theorem unv_mono {R v w : List Nat} (h : ∀ x ∈ v, x ∈ w) : unv R w ≤ unv R v := by
  unfold unv
  refine List.countP_mono_left fun x _ hx => ?_
  simp only [Bool.not_eq_true', List.contains_eq_mem, decide_eq_false_iff_not] at hx ⊢
  exact fun q => hx (h x q)

theorem countP_lt {p q : Nat → Bool} : ∀ {l : List Nat} {x : Nat}, x ∈ l → q x = true → p x = false → (∀ y, p y = true → q y = true) → l.countP p < l.countP q
  | a :: r, x, hx, hq, hp, h => by
    have le : r.countP p ≤ r.countP q := List.countP_mono_left fun y _ => h y
    rcases List.mem_cons.mp hx with e | e
    · subst e
      rw [List.countP_cons_of_pos hq, List.countP_cons_of_neg (by simp [hp])]
      omega
    · have ih := countP_lt e hq hp h
      by_cases c : p a = true
      · rw [List.countP_cons_of_pos c, List.countP_cons_of_pos (h a c)]; omega
      · rw [List.countP_cons_of_neg c]
        by_cases d : q a = true
        · rw [List.countP_cons_of_pos d]; omega
        · rw [List.countP_cons_of_neg d]; omega

theorem unv_lt {R v : List Nat} {j : Nat} (hj : j ∈ R) (hv : ¬ v.contains j = true) : unv R (j :: v) < unv R v := by
  unfold unv
  refine countP_lt hj (by simpa using hv) (by simp) fun y hy => ?_
  simp only [Bool.not_eq_true', List.contains_eq_mem, decide_eq_false_iff_not, List.mem_cons, not_or] at hy ⊢
  exact hy.2

/-- more fuel than is left to look at is as good as any -/
theorem pairG_fuel {g : Nat → List Nat} {R : List Nat} (hg : ∀ i, ∀ j ∈ g i, j ∈ R) : ∀ n m i st, unv R st.1 < n → unv R st.1 < m → pairG g n i st = pairG g m i st
  | 0, _, _, _, h, _ => absurd h (Nat.not_lt_zero _)
  | _ + 1, 0, _, _, _, h => absurd h (Nat.not_lt_zero _)
  | n + 1, m + 1, i, st, h1, h2 => by
    show (g i).foldl (look (pairG g n) i) (false, st) = (g i).foldl (look (pairG g m) i) (false, st)
    have key : ∀ (l : List Nat) (a : Bool × List Nat × Pairs), (∀ j ∈ l, j ∈ R) → unv R a.2.1 < n + 1 → unv R a.2.1 < m + 1 →
        l.foldl (look (pairG g n) i) a = l.foldl (look (pairG g m) i) a := by
      intro l
      induction l with
      | nil => intros; rfl
      | cons j r ih =>
        intro a hl u1 u2
        have e : look (pairG g n) i a j = look (pairG g m) i a j := by
          unfold look
          split
          · rfl
          · rename_i c
            rw [not_or] at c
            have lt := unv_lt (hl j List.mem_cons_self) c.2
            split
            · rfl
            · rename_i k _
              rw [pairG_fuel hg n m k (j :: a.2.1, a.2.2) (by show unv R (j :: a.2.1) < n; omega) (by show unv R (j :: a.2.1) < m; omega)]
        rw [List.foldl_cons, List.foldl_cons, e]
        have le : unv R (look (pairG g m) i a j).2.1 ≤ unv R a.2.1 := unv_mono (look_vis (fun k st => pairG_vis g m k st) a j)
        exact ih _ (fun x hx => hl x (List.mem_cons_of_mem _ hx)) (by omega) (by omega)
    exact key (g i) (false, st) (hg i) h1 h2

/-! pairs D that nobody of L can reach stand aside -/
def shift (D : Pairs) (a : Bool × List Nat × Pairs) : Bool × List Nat × Pairs := (a.1, a.2.1, a.2.2 ++ D)

theorem partner_append {q D : Pairs} {j : Nat} (h : j ∉ keys D) : partner (q ++ D) j = partner q j := by
  have hD : partner D j = none := partner_none.mpr h
  unfold partner at *
  induction q with
  | nil => simpa using hD
  | cons x r ih =>
    obtain ⟨a, b⟩ := x
    by_cases e : j = a
    · subst e; simp [List.lookup]
    · have : (j == a) = false := by simp [e]
      simp only [List.cons_append, List.lookup, this, ih]

theorem paired_append {q D : Pairs} {j i : Nat} (h : j ∉ keys D) : paired (q ++ D) j i = paired q j i ++ D := by
  unfold paired
  rw [List.filter_append, pfilter_ne_of_not_mem h]; rfl

def Vals (L : Nat → Prop) (q : Pairs) : Prop := ∀ x ∈ q, L x.2
theorem Vals.paired {L : Nat → Prop} {q : Pairs} {j i : Nat} (h : Vals L q) (hi : L i) : Vals L (paired q j i) := by
  intro x hx
  rcases List.mem_cons.mp hx with e | e
  · subst e; exact hi
  · exact h x (List.mem_filter.mp e).1

theorem pairG_aside {g g' : Nat → List Nat} {L : Nat → Prop} {D : Pairs} (hg : ∀ i, L i → g i = g' i) (hD : ∀ i, L i → ∀ j ∈ g i, j ∉ keys D) :
    ∀ n i vis q, L i → Vals L q → pairG g n i (vis, q ++ D) = shift D (pairG g' n i (vis, q)) ∧ Vals L (pairG g' n i (vis, q)).2.2
  | 0, _, _, _, _, hq => ⟨rfl, hq⟩
  | n + 1, i, vis, q, hi, hq => by
    show (g i).foldl (look (pairG g n) i) (false, vis, q ++ D) = shift D ((g' i).foldl (look (pairG g' n) i) (false, vis, q)) ∧ Vals L ((g' i).foldl (look (pairG g' n) i) (false, vis, q)).2.2
    rw [← hg i hi]
    have key : ∀ (l : List Nat) (a : Bool × List Nat × Pairs), (∀ j ∈ l, j ∉ keys D) → Vals L a.2.2 →
        l.foldl (look (pairG g n) i) (shift D a) = shift D (l.foldl (look (pairG g' n) i) a) ∧ Vals L (l.foldl (look (pairG g' n) i) a).2.2 := by
      intro l
      induction l with
      | nil => intro a _ h; exact ⟨rfl, h⟩
      | cons j r ih =>
        intro a hl hv
        have hj := hl j List.mem_cons_self
        have e : look (pairG g n) i (shift D a) j = shift D (look (pairG g' n) i a j) ∧ Vals L (look (pairG g' n) i a j).2.2 := by
          unfold look
          show (if a.1 = true ∨ a.2.1.contains j = true then shift D a else match partner (a.2.2 ++ D) j with
            | none => (true, j :: a.2.1, paired (a.2.2 ++ D) j i)
            | some k => if (pairG g n k (j :: a.2.1, a.2.2 ++ D)).1 = true then (true, (pairG g n k (j :: a.2.1, a.2.2 ++ D)).2.1, paired (pairG g n k (j :: a.2.1, a.2.2 ++ D)).2.2 j i) else pairG g n k (j :: a.2.1, a.2.2 ++ D)) = _ ∧ _
          by_cases c : a.1 = true ∨ a.2.1.contains j = true
          · rw [if_pos c, if_pos c]; exact ⟨rfl, hv⟩
          · rw [if_neg c, if_neg c, partner_append hj]
            split
            · rw [paired_append hj]; exact ⟨rfl, hv.paired hi⟩
            · rename_i k ek
              have hk : L k := hv _ (partner_mem ek)
              obtain ⟨e1, e2⟩ := pairG_aside hg hD n k (j :: a.2.1) a.2.2 hk hv
              rw [e1]
              show (if (pairG g' n k (j :: a.2.1, a.2.2)).1 = true then (true, (pairG g' n k (j :: a.2.1, a.2.2)).2.1, paired ((pairG g' n k (j :: a.2.1, a.2.2)).2.2 ++ D) j i) else shift D (pairG g' n k (j :: a.2.1, a.2.2))) = _ ∧ _
              by_cases t : (pairG g' n k (j :: a.2.1, a.2.2)).1 = true
              · rw [if_pos t, if_pos t, paired_append hj]; exact ⟨rfl, e2.paired hi⟩
              · rw [if_neg t, if_neg t]; exact ⟨rfl, e2⟩
        rw [List.foldl_cons, List.foldl_cons, e.1]
        exact ih _ (fun x hx => hl x (List.mem_cons_of_mem _ hx)) e.2
    exact key (g i) (false, vis, q) (hD i hi) hq
end SC
namespace SC
open Md50

def fillG (g : Nat → List Nat) (F : Nat) (l : List Nat) (p : Pairs) : Pairs := l.foldl (fun p i => (pairG g F i ([], p)).2.2) p
def rowOf (g : List (List Nat)) (i : Nat) : List Nat := g.getD i []
def mostG (g : List (List Nat)) : Nat := (fillG (rowOf g) (g.length + 1) (List.range g.length) []).length
def narrowedG (g : List (List Nat)) (one : Nat) (kept : List Nat) : List (List Nat) :=
  (List.range g.length).map fun i => if i = one then kept else (rowOf g i).filter fun x => !kept.contains x
def settledG (g : List (List Nat)) (one most : Nat) : List (List Nat) :=
  match (rowOf g one).find? fun j => mostG (narrowedG g one [j]) == most with
  | some j => narrowedG g one [j]
  | none => narrowedG g one []
def widerG (s : St) : List (List Nat) := (numbers s).map fun i => (numbers s).filter (below s i)
def linksG (s : St) : List (List Nat) := (numbers s).foldl (fun g one => settledG g one (mostG (widerG s))) (widerG s)

theorem rowOf_map {f : Nat → List Nat} {n i : Nat} (h : i < n) : rowOf ((List.range n).map f) i = f i := by
  unfold rowOf
  rw [List.getD_eq_getElem?_getD, List.getElem?_map, List.getElem?_range h]; rfl

theorem fill_aside {g g' : Nat → List Nat} {L : Nat → Prop} {D : Pairs} (hg : ∀ i, L i → g i = g' i) (hD : ∀ i, L i → ∀ j ∈ g i, j ∉ keys D) (n : Nat) :
    ∀ l q, (∀ i ∈ l, L i) → Vals L q → fillG g n l (q ++ D) = fillG g' n l q ++ D
  | [], _, _, _ => rfl
  | i :: r, q, hl, hq => by
    obtain ⟨e1, e2⟩ := pairG_aside hg hD n i [] q (hl i List.mem_cons_self) hq
    show fillG g n r (pairG g n i ([], q ++ D)).2.2 = fillG g' n r (pairG g' n i ([], q)).2.2 ++ D
    rw [e1]
    exact fill_aside hg hD n r _ (fun x hx => hl x (List.mem_cons_of_mem _ hx)) e2

theorem fill_congr {g g' : Nat → List Nat} (n : Nat) {l : List Nat} (hg : ∀ i ∈ l, g i = g' i) : fillG g n l [] = fillG g' n l [] := by
  have e := fill_aside (g := g) (g' := g') (L := fun i => i ∈ l) (D := []) hg (fun _ _ _ _ h => by simp [keys] at h) n l [] (fun _ h => h) (fun _ h => by simp at h)
  simpa using e

theorem fill_fuel {g : Nat → List Nat} {R : List Nat} (hg : ∀ i, ∀ j ∈ g i, j ∈ R) {n m : Nat} (hn : R.length < n) (hm : R.length < m) :
    ∀ l q, fillG g n l q = fillG g m l q
  | [], _ => rfl
  | i :: r, q => by
    have hu : unv R [] ≤ R.length := List.countP_le_length
    show fillG g n r (pairG g n i ([], q)).2.2 = fillG g m r (pairG g m i ([], q)).2.2
    rw [pairG_fuel hg n m i ([], q) (by show unv R [] < n; omega) (by show unv R [] < m; omega)]
    exact fill_fuel hg hn hm r _

theorem fill_kn (g : Nat → List Nat) (n : Nat) : ∀ l q, KN q → KN (fillG g n l q)
  | [], _, h => h
  | i :: r, q, h => fill_kn g n r _ (pairG_good g h n i []).kn

/-- the graph ahead of the k-th search -/
structure Inv (s : St) (n : Nat) (g : List (List Nat)) (k : Nat) (done : List (Nat × Nat)) (right : List Nat) (D : Pairs) : Prop where
  len : g.length = n
  low : ∀ i, i < k → rowOf g i = (done.lookup i).toList
  high : ∀ i, k ≤ i → i < n → rowOf g i = right.filter (below s i)
  fill : fillG (rowOf g) (n + 1) (List.range k) [] = D
  lenD : D.length = done.length
  out : ∀ j ∈ right, j ∉ keys D
  seen : ∀ x ∈ done, x.1 < k
  dk : ∀ x ∈ done, x.2 ∈ keys D
  rlen : right.length ≤ n
  kn : k ≤ n

theorem most_inv {s : St} {n k : Nat} {g : List (List Nat)} {done : List (Nat × Nat)} {right : List Nat} {D : Pairs} (I : Inv s n g k done right D) :
    mostG g = done.length + most s (List.range' k (n - k)) right := by
  have er : List.range n = List.range k ++ List.range' k (n - k) := by
    have h := List.range'_append_1 (s := 0) (m := k) (n := n - k)
    rw [Nat.zero_add, show k + (n - k) = n from by have := I.kn; omega] at h
    rw [List.range_eq_range', List.range_eq_range', h]
  unfold mostG
  rw [I.len, er]
  show (fillG (rowOf g) (n + 1) (List.range k ++ List.range' k (n - k)) []).length = _
  unfold fillG
  rw [List.foldl_append]
  show (fillG (rowOf g) (n + 1) (List.range' k (n - k)) (fillG (rowOf g) (n + 1) (List.range k) [])).length = _
  rw [I.fill]
  have hL : ∀ i, (k ≤ i ∧ i < n) → rowOf g i = (fun i => right.filter (below s i)) i := fun i h => I.high i h.1 h.2
  have e := fill_aside (g := rowOf g) (g' := fun i => right.filter (below s i)) (L := fun i => k ≤ i ∧ i < n) (D := D) hL
    (fun i h j hj => by
      rw [hL i h] at hj
      exact I.out j (List.mem_filter.mp hj).1) (n + 1) (List.range' k (n - k)) [] (fun i h => by
      rw [List.mem_range'_1] at h
      omega) (fun _ h => by simp at h)
  rw [List.nil_append] at e
  rw [e, List.length_append, I.lenD, Nat.add_comm]
  congr 1
  unfold most
  have e2 : (fun (p : Pairs) (i : Nat) => (pairUp s right (right.length + 1) i ([], p)).2.2) = fun p i => (pairG (fun i => right.filter (below s i)) (right.length + 1) i ([], p)).2.2 := by
    funext p i
    rw [pairUp_eq]
  rw [e2]
  show _ = (fillG (fun i => right.filter (below s i)) (right.length + 1) (List.range' k (n - k)) []).length
  have hr := I.rlen
  rw [fill_fuel (R := right) (fun i j hj => (List.mem_filter.mp hj).1) (n := n + 1) (m := right.length + 1) (by omega) (by omega)]

theorem lookup_append_some {l r : List (Nat × Nat)} {i j : Nat} (h : l.lookup i = some j) : (l ++ r).lookup i = some j := by
  induction l with
  | nil => simp at h
  | cons x t ih =>
    obtain ⟨a, b⟩ := x
    cases e : (i == a) with
    | true => simp only [List.cons_append, List.lookup, e] at h ⊢; exact h
    | false => simp only [List.cons_append, List.lookup, e] at h ⊢; exact ih h
theorem lookup_append_none {l r : List (Nat × Nat)} {i : Nat} (h : ∀ x ∈ l, x.1 ≠ i) : (l ++ r).lookup i = r.lookup i := by
  induction l with
  | nil => rfl
  | cons x t ih =>
    obtain ⟨a, b⟩ := x
    have ne : (i == a) = false := by
      have := h (a, b) List.mem_cons_self
      simp at this
      simp [Ne.symm this]
    simp only [List.cons_append, List.lookup, ne]
    exact ih fun x hx => h x (List.mem_cons_of_mem _ hx)
theorem lookup_append_ne {l : List (Nat × Nat)} {k j i : Nat} (h : i ≠ k) : (l ++ [(k, j)]).lookup i = l.lookup i := by
  induction l with
  | nil =>
    have ne : (i == k) = false := by simp [h]
    simp [List.lookup, ne]
  | cons x t ih =>
    obtain ⟨a, b⟩ := x
    cases e : (i == a) with
    | true => simp only [List.cons_append, List.lookup, e]
    | false => simp only [List.cons_append, List.lookup, e]; exact ih
theorem lookup_mem {l : List (Nat × Nat)} {i j : Nat} (h : l.lookup i = some j) : (i, j) ∈ l := partner_mem h

theorem row_narrowed {g : List (List Nat)} {one i : Nat} {kept : List Nat} (h : i < g.length) :
    rowOf (narrowedG g one kept) i = if i = one then kept else (rowOf g i).filter fun x => !kept.contains x := rowOf_map h

theorem fill_range_succ (g : Nat → List Nat) (F k : Nat) : fillG g F (List.range (k + 1)) [] = (pairG g F k ([], fillG g F (List.range k) [])).2.2 := by
  unfold fillG
  rw [List.range_succ, List.foldl_append]; rfl

theorem inv_none {s : St} {n k : Nat} {g : List (List Nat)} {done : List (Nat × Nat)} {right : List Nat} {D : Pairs} (I : Inv s n g k done right D) (hk : k < n) :
    Inv s n (narrowedG g k []) (k + 1) done right D := by
  have rows : ∀ i, i < n → rowOf (narrowedG g k []) i = if i = k then [] else rowOf g i := by
    intro i hi
    rw [row_narrowed (by rw [I.len]; exact hi)]
    split
    · rfl
    · rw [List.filter_eq_self]; intro a _; rfl
  refine ⟨by simp [narrowedG, I.len], ?_, ?_, ?_, I.lenD, I.out, fun x hx => Nat.lt_succ_of_lt (I.seen x hx), I.dk, I.rlen, hk⟩
  · intro i hi
    rw [rows i (by omega)]
    split
    · rename_i e
      subst e
      have : done.lookup i = none := partner_none.mpr fun q => by
        obtain ⟨x, hx, ex⟩ := List.mem_map.mp q
        have := I.seen x hx
        omega
      rw [this]; rfl
    · exact I.low i (by omega)
  · intro i h1 h2
    rw [rows i h2, if_neg (by omega)]
    exact I.high i (by omega) h2
  · rw [fill_range_succ]
    have e : fillG (rowOf (narrowedG g k [])) (n + 1) (List.range k) [] = D := by
      rw [← I.fill]
      refine fill_congr _ fun i hi => ?_
      rw [List.mem_range] at hi
      rw [rows i (by omega), if_neg (by omega)]
    rw [e]
    show ((rowOf (narrowedG g k []) k).foldl (look (pairG (rowOf (narrowedG g k [])) n) k) (false, [], D)).2.2 = D
    rw [rows k hk, if_pos rfl]
    rfl

theorem inv_some {s : St} {n k j : Nat} {g : List (List Nat)} {done : List (Nat × Nat)} {right : List Nat} {D : Pairs} (I : Inv s n g k done right D) (hk : k < n) (hj : j ∈ right) :
    Inv s n (narrowedG g k [j]) (k + 1) (done ++ [(k, j)]) (right.filter fun x => x != j) ((j, k) :: D) := by
  have hjD := I.out j hj
  have rows : ∀ i, i < n → rowOf (narrowedG g k [j]) i = if i = k then [j] else (rowOf g i).filter fun x => x != j := by
    intro i hi
    rw [row_narrowed (by rw [I.len]; exact hi)]
    split
    · rfl
    · refine List.filter_congr fun x _ => ?_
      simp only [List.contains_cons, List.contains_nil, Bool.or_false]
      rfl
  have lows : ∀ i, i < k → rowOf (narrowedG g k [j]) i = rowOf g i := by
    intro i hi
    rw [rows i (by omega), if_neg (by omega), List.filter_eq_self]
    intro x hx
    rw [I.low i hi] at hx
    have hx' : done.lookup i = some x := by simpa using hx
    have := I.dk _ (lookup_mem hx')
    have ne : x ≠ j := fun e => hjD (e ▸ this)
    simp [ne]
  refine ⟨by simp [narrowedG, I.len], ?_, ?_, ?_, by simp [I.lenD], ?_, ?_, ?_, Nat.le_trans (List.length_filter_le _ _) I.rlen, hk⟩
  · intro i hi
    by_cases e : i = k
    · subst e
      rw [rows i hk, if_pos rfl, lookup_append_none (fun x hx => Nat.ne_of_lt (I.seen x hx))]
      simp [List.lookup]
    · rw [lows i (by omega), lookup_append_ne e]
      exact I.low i (by omega)
  · intro i h1 h2
    rw [rows i h2, if_neg (by omega), I.high i (by omega) h2, List.filter_filter, List.filter_filter]
    refine List.filter_congr fun x _ => ?_
    exact Bool.and_comm ..
  · rw [fill_range_succ]
    have e : fillG (rowOf (narrowedG g k [j])) (n + 1) (List.range k) [] = D := by
      rw [← I.fill]
      refine fill_congr _ fun i hi => ?_
      rw [List.mem_range] at hi
      exact lows i hi
    rw [e]
    show ((rowOf (narrowedG g k [j]) k).foldl (look (pairG (rowOf (narrowedG g k [j])) n) k) (false, [], D)).2.2 = (j, k) :: D
    rw [rows k hk, if_pos rfl]
    show (look (pairG (rowOf (narrowedG g k [j])) n) k (false, [], D) j).2.2 = (j, k) :: D
    unfold look
    rw [if_neg (by simp)]
    show (match partner D j with
      | none => _
      | some k => _ : Bool × List Nat × Pairs).2.2 = _
    rw [partner_none.mpr hjD]
    show paired D j k = _
    unfold paired
    rw [pfilter_ne_of_not_mem hjD]
  · intro x hx
    obtain ⟨h1, h2⟩ := List.mem_filter.mp hx
    have ne : x ≠ j := by simpa using h2
    simp only [keys, List.map_cons, List.mem_cons, not_or]
    exact ⟨ne, I.out x h1⟩
  · intro x hx
    rcases List.mem_append.mp hx with q | q
    · exact Nat.lt_succ_of_lt (I.seen x q)
    · simp at q; subst q; exact Nat.lt_succ_self _
  · intro x hx
    rcases List.mem_append.mp hx with q | q
    · exact List.mem_cons_of_mem _ (I.dk x q)
    · simp at q; subst q; exact List.mem_cons_self

theorem find_congr {p q : Nat → Bool} : ∀ {l : List Nat}, (∀ x ∈ l, p x = q x) → l.find? p = l.find? q
  | [], _ => rfl
  | a :: r, h => by
    rw [List.find?_cons, List.find?_cons, h a List.mem_cons_self, find_congr fun x hx => h x (List.mem_cons_of_mem _ hx)]

theorem links_from {s : St} {n total : Nat} : ∀ (m k : Nat) (g : List (List Nat)) (done : List (Nat × Nat)) (right : List Nat) (D : Pairs), k + m = n → Inv s n g k done right D →
    ∃ D', Inv s n ((List.range' k m).foldl (fun g one => settledG g one total) g) n (done ++ nexts s total (List.range' k m) right done.length) (right.filter fun x => !(nexts s total (List.range' k m) right done.length).any fun y => y.2 == x) D'
  | 0, k, g, done, right, D, e, I => by
    have e' : k = n := by omega
    subst e'
    have h : (right.filter fun x => !(nexts s total (List.range' k 0) right done.length).any fun y => y.2 == x) = right := by
      rw [List.filter_eq_self]; intro a _; rfl
    rw [h]
    refine ⟨D, ?_⟩
    show Inv s k g k (done ++ []) right D
    rw [List.append_nil]; exact I
  | m + 1, k, g, done, right, D, e, I => by
    have hk : k < n := by omega
    have e1 : List.range' k (m + 1) = k :: List.range' (k + 1) m := rfl
    have hm : n - (k + 1) = m := by omega
    have ef : (rowOf g k).find? (fun j => mostG (narrowedG g k [j]) == total) = right.find? fun j => below s k j && done.length + 1 + most s (List.range' (k + 1) m) (right.filter fun x => x != j) == total := by
      rw [I.high k (Nat.le_refl _) hk, List.find?_filter]
      refine find_congr fun j hj => ?_
      have := most_inv (inv_some I hk hj)
      rw [hm, List.length_append] at this
      rw [this]
      cases below s k j
      · simp
      · simp
        rfl
    rw [e1, List.foldl_cons]
    unfold nexts
    show ∃ D', Inv s n ((List.range' (k + 1) m).foldl (fun g one => settledG g one total) (settledG g k total)) n _ _ D'
    unfold settledG at *
    rw [ef]
    cases hf : right.find? fun j => below s k j && done.length + 1 + most s (List.range' (k + 1) m) (right.filter fun x => x != j) == total with
    | none =>
      exact links_from m (k + 1) _ done right D (by omega) (inv_none I hk)
    | some j =>
      have hj := List.mem_of_find?_eq_some hf
      obtain ⟨D', h⟩ := links_from m (k + 1) _ (done ++ [(k, j)]) (right.filter fun x => x != j) ((j, k) :: D) (by omega) (inv_some I hk hj)
      refine ⟨D', ?_⟩
      have el : (done ++ [(k, j)]).length = done.length + 1 := by simp
      rw [el] at h
      rw [List.append_assoc] at h
      have hfilt : ((right.filter fun x => x != j).filter fun x => !(nexts s total (List.range' (k + 1) m) (right.filter fun x => x != j) (done.length + 1)).any fun y => y.2 == x) =
          right.filter fun x => !((k, j) :: nexts s total (List.range' (k + 1) m) (right.filter fun x => x != j) (done.length + 1)).any fun y => y.2 == x := by
        rw [List.filter_filter]
        refine List.filter_congr fun x _ => ?_
        simp only [List.any_cons, Bool.not_or]
        have ej : (x != j) = !(j == x) := by
          rw [bne, BEq.comm]
        rw [ej, Bool.and_comm]
      rw [hfilt] at h
      exact h

theorem wider_inv (s : St) : Inv s s.searches.length (widerG s) 0 [] (numbers s) [] := by
  refine ⟨by simp [widerG, numbers], fun i h => absurd h (Nat.not_lt_zero _), fun i _ h => ?_, rfl, rfl, fun _ _ h => by simp [keys] at h, fun _ h => by simp at h, fun _ h => by simp at h, by simp [numbers], Nat.zero_le _⟩
  exact rowOf_map h

theorem most_wider (s : St) : mostG (widerG s) = most s (numbers s) (numbers s) := by
  have := most_inv (wider_inv s)
  rw [this]
  show 0 + most s (List.range' 0 (s.searches.length - 0)) (numbers s) = _
  rw [Nat.zero_add, Nat.sub_zero, ← List.range_eq_range']
  rfl

/-- **the program's links are the specification's** -/
theorem links_inv (s : St) : ∃ D R, Inv s s.searches.length (linksG s) s.searches.length (chosen s) R D := by
  obtain ⟨D, h⟩ := links_from (s := s) (n := s.searches.length) (total := most s (numbers s) (numbers s)) s.searches.length 0 (widerG s) [] (numbers s) [] (by omega) (wider_inv s)
  refine ⟨D, ((numbers s).filter fun x => !(nexts s (most s (numbers s) (numbers s)) (List.range' 0 s.searches.length) (numbers s) 0).any fun y => y.2 == x), ?_⟩
  have e : numbers s = List.range' 0 s.searches.length := List.range_eq_range'
  unfold linksG
  rw [most_wider]
  rw [List.nil_append] at h
  unfold chosen
  have e2 : (numbers s).foldl (fun g one => settledG g one (most s (numbers s) (numbers s))) (widerG s) = (List.range' 0 s.searches.length).foldl (fun g one => settledG g one (most s (numbers s) (numbers s))) (widerG s) := by rw [← e]
  rw [e2]
  have e3 : nexts s (most s (numbers s) (numbers s)) (numbers s) (numbers s) 0 = nexts s (most s (numbers s) (numbers s)) (List.range' 0 s.searches.length) (numbers s) 0 := by rw [← e]
  rw [e3]
  exact h
end SC
namespace SC
open Md50

/-- searches as they come to be: each set once, its columns ascending, all of them columns -/
structure Ok (s : St) : Prop where
  nd : s.searches.Nodup
  asc : ∀ c ∈ s.searches, c.Pairwise (· < ·)
  col : ∀ c ∈ s.searches, ∀ x ∈ c, x < s.cols
  ten : s.searches.length ≤ 10
  sev : s.cols ≤ 7

theorem searchAt_mem {s : St} {i : Nat} (h : i < s.searches.length) : searchAt s i ∈ s.searches := by
  unfold searchAt
  rw [List.getD_eq_getElem?_getD, List.getElem?_eq_getElem h]
  exact List.getElem_mem h

theorem searchAt_get {s : St} {i : Nat} (h : i < s.searches.length) : s.searches[i]? = some (searchAt s i) := by
  unfold searchAt
  rw [List.getD_eq_getElem?_getD, List.getElem?_eq_getElem h]; rfl

theorem searchAt_inj {s : St} (O : Ok s) {i j : Nat} (hi : i < s.searches.length) (hj : j < s.searches.length) (e : searchAt s i = searchAt s j) : i = j := by
  have h1 := searchAt_get hi
  have h2 := searchAt_get hj
  rw [e] at h1
  have e' := h1.trans h2.symm
  rw [List.getElem?_eq_getElem hi, List.getElem?_eq_getElem hj, Option.some.injEq] at e'
  exact (List.getElem_inj O.nd).mp e'

theorem sorted_ext : ∀ {l1 l2 : List Nat}, l1.Pairwise (· < ·) → l2.Pairwise (· < ·) → (∀ x, x ∈ l1 ↔ x ∈ l2) → l1 = l2
  | [], [], _, _, _ => rfl
  | [], b :: t, _, _, h => by have := (h b).mpr List.mem_cons_self; simp at this
  | a :: r, [], _, _, h => by have := (h a).mp List.mem_cons_self; simp at this
  | a :: r, b :: t, p1, p2, h => by
    rw [List.pairwise_cons] at p1 p2
    have eab : a = b := by
      have h1 := (h a).mp List.mem_cons_self
      have h2 := (h b).mpr List.mem_cons_self
      rcases List.mem_cons.mp h1 with e | e
      · exact e
      · rcases List.mem_cons.mp h2 with f | f
        · exact f.symm
        · have := p2.1 a e
          have := p1.1 b f
          omega
    subst eab
    congr 1
    refine sorted_ext p1.2 p2.2 fun x => ⟨fun hx => ?_, fun hx => ?_⟩
    · have lt := p1.1 x hx
      rcases List.mem_cons.mp ((h x).mp (List.mem_cons_of_mem _ hx)) with e | e
      · omega
      · exact e
    · have lt := p2.1 x hx
      rcases List.mem_cons.mp ((h x).mpr (List.mem_cons_of_mem _ hx)) with e | e
      · omega
      · exact e

theorem sub_len : ∀ {l r : List Nat}, l.Nodup → (∀ x ∈ l, x ∈ r) → l.length ≤ r.length
  | [], _, _, _ => Nat.zero_le _
  | a :: l, r, hn, h => by
    rw [List.nodup_cons] at hn
    have ha := h a List.mem_cons_self
    have ih := sub_len (l := l) (r := r.erase a) hn.2 fun x hx => by
      have ne : x ≠ a := fun e => hn.1 (e ▸ hx)
      exact (List.mem_erase_of_ne ne).mpr (h x (List.mem_cons_of_mem _ hx))
    rw [List.length_erase_of_mem ha] at ih
    have : 0 < r.length := List.length_pos_of_mem ha
    rw [List.length_cons]
    omega

theorem asc_nodup {c : List Nat} (h : c.Pairwise (· < ·)) : c.Nodup := h.imp fun lt => Nat.ne_of_lt lt

theorem inside_iff {a b : List Nat} : inside a b = true ↔ ∀ x ∈ a, x ∈ b := by
  unfold inside
  simp [List.all_eq_true]

/-- a search that lies in another one has fewer columns -/
theorem below_len {s : St} (O : Ok s) {i j : Nat} (hi : i < s.searches.length) (hj : j < s.searches.length) (h : below s i j = true) : (searchAt s i).length < (searchAt s j).length := by
  unfold below at h
  rw [Bool.and_eq_true] at h
  have ne : i ≠ j := by simpa using h.1
  have sub := inside_iff.mp h.2
  have a1 := O.asc _ (searchAt_mem hi)
  have a2 := O.asc _ (searchAt_mem hj)
  have le := sub_len (asc_nodup a1) sub
  rcases Nat.lt_or_ge (searchAt s i).length (searchAt s j).length with q | q
  · exact q
  · exfalso
    refine ne (searchAt_inj O hi hj (sorted_ext a1 a2 fun x => ⟨sub x, fun hx => ?_⟩))
    -- as many columns: each of j's is one of i's
    refine Classical.byContradiction fun hn => ?_
    have h2 := sub_len (l := x :: searchAt s i) (r := searchAt s j) (List.nodup_cons.mpr ⟨hn, asc_nodup a1⟩) fun y hy => by
      rcases List.mem_cons.mp hy with e | e
      · subst e; exact hx
      · exact sub y e
    rw [List.length_cons] at h2
    omega

theorem nexts_mem {s : St} {total : Nat} : ∀ (l right : List Nat) (k : Nat), ∀ x ∈ nexts s total l right k, x.1 ∈ l ∧ x.2 ∈ right ∧ below s x.1 x.2 = true
  | [], _, _, x, h => by simp [nexts] at h
  | i :: rest, right, k, x, h => by
    unfold nexts at h
    cases hf : right.find? fun (j : Nat) => below s i j && k + 1 + most s rest (right.filter fun (x : Nat) => x != j) == total with
    | none =>
      rw [hf] at h
      have := nexts_mem rest right k x h
      exact ⟨List.mem_cons_of_mem _ this.1, this.2⟩
    | some j =>
      rw [hf] at h
      rcases List.mem_cons.mp h with e | e
      · subst e
        have := List.find?_some hf
        simp only [Bool.and_eq_true] at this
        exact ⟨List.mem_cons_self, List.mem_of_find?_eq_some hf, this.1⟩
      · have := nexts_mem rest _ (k + 1) x e
        exact ⟨List.mem_cons_of_mem _ this.1, (List.mem_filter.mp this.2.1).1, this.2.2⟩

theorem nexts_sub {s : St} {total : Nat} : ∀ (l right : List Nat) (k : Nat), List.Sublist ((nexts s total l right k).map (·.1)) l
  | [], _, _ => List.Sublist.refl _
  | i :: rest, right, k => by
    unfold nexts
    split
    · exact (nexts_sub rest _ _).cons_cons i
    · exact (nexts_sub rest _ _).cons i

theorem chosen_mem {s : St} {x : Nat × Nat} (h : x ∈ chosen s) : x.1 < s.searches.length ∧ x.2 < s.searches.length ∧ below s x.1 x.2 = true := by
  have := nexts_mem _ _ _ x h
  exact ⟨List.mem_range.mp this.1, List.mem_range.mp this.2.1, this.2.2⟩

theorem lookup_of_mem {l : List (Nat × Nat)} (hn : (l.map (·.1)).Nodup) {i j : Nat} (h : (i, j) ∈ l) : l.lookup i = some j := by
  induction l with
  | nil => simp at h
  | cons x t ih =>
    obtain ⟨a, b⟩ := x
    rw [List.map_cons, List.nodup_cons] at hn
    rcases List.mem_cons.mp h with e | e
    · cases e; simp [List.lookup]
    · have ne : (i == a) = false := by
        have : i ≠ a := fun q => hn.1 (q ▸ List.mem_map_of_mem (f := (·.1)) e)
        simp [this]
      simp only [List.lookup, ne]
      exact ih hn.2 e

theorem chosen_nodup (s : St) : ((chosen s).map (·.1)).Nodup := List.Nodup.sublist (nexts_sub _ _ _) List.nodup_range
theorem chosen_lookup {s : St} {i j : Nat} : (chosen s).lookup i = some j ↔ (i, j) ∈ chosen s := ⟨lookup_mem, lookup_of_mem (chosen_nodup s)⟩

/-- the row of a search among the links -/
theorem links_row (s : St) {i : Nat} (h : i < s.searches.length) : rowOf (linksG s) i = ((chosen s).lookup i).toList := by
  obtain ⟨D, R, I⟩ := links_inv s
  exact I.low i h
theorem links_len (s : St) : (linksG s).length = s.searches.length := by
  obtain ⟨D, R, I⟩ := links_inv s
  exact I.len

theorem links_has (s : St) (i : Nat) : (linksG s).contains [i] = (chosen s).any fun x => x.2 == i := by
  rw [Bool.eq_iff_iff]
  simp only [List.contains_eq_mem, decide_eq_true_eq, List.any_eq_true, beq_iff_eq]
  constructor
  · intro h
    obtain ⟨k, hk, e⟩ := List.getElem_of_mem h
    have hk' : k < s.searches.length := by rw [← links_len s]; exact hk
    have r := links_row s hk'
    unfold rowOf at r
    rw [List.getD_eq_getElem?_getD, List.getElem?_eq_getElem hk, e] at r
    have : (chosen s).lookup k = some i := by
      cases q : (chosen s).lookup k with
      | none => rw [q] at r; simp at r
      | some j => rw [q] at r; simp at r; rw [r]
    exact ⟨(k, i), chosen_lookup.mp this, rfl⟩
  · rintro ⟨⟨k, j⟩, hm, e⟩
    have e' : j = i := e
    subst e'
    have hk := (chosen_mem hm).1
    have r := links_row s hk
    rw [chosen_lookup.mpr hm] at r
    have hk2 : k < (linksG s).length := by rw [links_len]; exact hk
    unfold rowOf at r
    rw [List.getD_eq_getElem?_getD, List.getElem?_eq_getElem hk2] at r
    have r' : (linksG s)[k] = [j] := r
    rw [← r']
    exact List.getElem_mem hk2

/-- how many have more columns than search i -/
def cnt (s : St) (i : Nat) : Nat := (numbers s).countP fun k => decide ((searchAt s i).length < (searchAt s k).length)

theorem cnt_lt {s : St} (O : Ok s) {i j : Nat} (h : (chosen s).lookup i = some j) : cnt s j < cnt s i := by
  have m := chosen_mem (chosen_lookup.mp h)
  have lt : (searchAt s i).length < (searchAt s j).length := below_len O m.1 m.2.1 m.2.2
  unfold cnt
  refine countP_lt (x := j) (List.mem_range.mpr m.2.1) (by simpa using lt) (by simp) fun y hy => ?_
  simp only [decide_eq_true_eq] at hy ⊢
  omega

theorem cnt_bound {s : St} {i : Nat} (h : i < s.searches.length) : cnt s i < s.searches.length := by
  have : cnt s i < (numbers s).countP fun _ => true := countP_lt (x := i) (List.mem_range.mpr h) rfl (by simp) fun _ _ => rfl
  rw [List.countP_true] at this
  simpa [numbers] using this

theorem chain_fuel {s : St} (O : Ok s) : ∀ n m i, cnt s i < n → cnt s i < m → chain (chosen s) n i = chain (chosen s) m i
  | 0, _, _, h, _ => absurd h (Nat.not_lt_zero _)
  | _ + 1, 0, _, _, h => absurd h (Nat.not_lt_zero _)
  | n + 1, m + 1, i, h1, h2 => by
    unfold chain
    congr 1
    cases e : (chosen s).lookup i with
    | none => rfl
    | some j =>
      have := cnt_lt O e
      exact chain_fuel O n m j (by omega) (by omega)

def chainOf (s : St) (i : Nat) : List Nat := chain (chosen s) s.searches.length i
/-- what comes behind a search in its chain -/
def behind (s : St) (i : Nat) : List Nat := match (chosen s).lookup i with
  | none => []
  | some j => chainOf s j

theorem chainOf_eq {s : St} (O : Ok s) {i : Nat} (h : i < s.searches.length) : chainOf s i = i :: behind s i := by
  have c := cnt_bound h
  unfold chainOf behind
  cases n : s.searches.length with
  | zero => omega
  | succ m =>
    rw [n] at c
    show i :: (match (chosen s).lookup i with | none => [] | some j => chain (chosen s) m j) = _
    congr 1
    cases e : (chosen s).lookup i with
    | none => rfl
    | some j =>
      have := cnt_lt O e
      have hj := (chosen_mem (chosen_lookup.mp e)).2.1
      have hb := cnt_bound hj
      show chain (chosen s) m j = chain (chosen s) s.searches.length j
      exact chain_fuel O m _ j (by omega) hb

theorem behind_none {s : St} {i : Nat} (h : (chosen s).lookup i = none) : behind s i = [] := by
  unfold behind; rw [h]
theorem behind_some {s : St} (O : Ok s) {i j : Nat} (h : (chosen s).lookup i = some j) : behind s i = j :: behind s j := by
  have hj := (chosen_mem (chosen_lookup.mp h)).2.1
  unfold behind
  rw [h]
  exact chainOf_eq O hj

def firstsG (s : St) : List Nat := (numbers s).filter fun i => !(linksG s).contains [i]
theorem chains_eq (s : St) : chains s = (firstsG s).map (chainOf s) := by
  unfold chains firstsG
  have e : (fun (i : Nat) => !(chosen s).any fun (x : Nat × Nat) => x.2 == i) = fun i => !(linksG s).contains [i] := by
    funext i
    rw [links_has]
  simp only [e]
  rfl

theorem chain_mem {s : St} (O : Ok s) : ∀ (n : Nat) (f : Nat), f < s.searches.length → cnt s f < n → ∀ x ∈ chainOf s f, x < s.searches.length
  | 0, _, _, h, _, _ => absurd h (Nat.not_lt_zero _)
  | n + 1, f, hf, h, x, hx => by
    rw [chainOf_eq O hf] at hx
    rcases List.mem_cons.mp hx with e | e
    · subst e; exact hf
    · cases q : (chosen s).lookup f with
      | none => rw [behind_none q] at e; simp at e
      | some j =>
        have hj := (chosen_mem (chosen_lookup.mp q)).2.1
        have lt := cnt_lt O q
        unfold behind at e
        rw [q] at e
        exact chain_mem O n j hj (by omega) x e

theorem chain_next {s : St} (O : Ok s) {k i : Nat} (hki : (chosen s).lookup k = some i) : ∀ (n : Nat) (f : Nat), f < s.searches.length → cnt s f < n → k ∈ chainOf s f → i ∈ chainOf s f
  | 0, _, _, h, _ => absurd h (Nat.not_lt_zero _)
  | n + 1, f, hf, h, hk => by
    rw [chainOf_eq O hf] at hk ⊢
    rcases List.mem_cons.mp hk with e | e
    · subst e
      rw [behind_some O hki]
      exact List.mem_cons_of_mem _ List.mem_cons_self
    · cases q : (chosen s).lookup f with
      | none => rw [behind_none q] at e; simp at e
      | some j =>
        have hj := (chosen_mem (chosen_lookup.mp q)).2.1
        have lt := cnt_lt O q
        have eb : behind s f = chainOf s j := by unfold behind; rw [q]
        rw [eb] at e ⊢
        exact List.mem_cons_of_mem _ (chain_next O hki n j hj (by omega) e)

/-- every search stands in a chain -/
theorem chain_all {s : St} (O : Ok s) : ∀ (n : Nat) (i : Nat), i < s.searches.length → (searchAt s i).length < n → ∃ c ∈ chains s, i ∈ c
  | 0, _, _, h => absurd h (Nat.not_lt_zero _)
  | n + 1, i, hi, h => by
    by_cases q : (chosen s).any (fun x => x.2 == i) = true
    · rw [List.any_eq_true] at q
      obtain ⟨⟨k, j⟩, hm, e⟩ := q
      have e' : j = i := by simpa using e
      subst e'
      have m := chosen_mem hm
      have lt := below_len O m.1 m.2.1 m.2.2
      obtain ⟨c, hc, hk⟩ := chain_all O n k m.1 (by have : (searchAt s k).length < (searchAt s j).length := lt; omega)
      refine ⟨c, hc, ?_⟩
      rw [chains_eq] at hc
      obtain ⟨f, hf, ec⟩ := List.mem_map.mp hc
      subst ec
      have hf' : f < s.searches.length := List.mem_range.mp (List.mem_filter.mp hf).1
      exact chain_next O (chosen_lookup.mpr hm) (cnt s f + 1) f hf' (by omega) hk
    · refine ⟨chainOf s i, ?_, ?_⟩
      · rw [chains_eq]
        refine List.mem_map_of_mem (List.mem_filter.mpr ⟨List.mem_range.mpr hi, ?_⟩)
        rw [links_has, Bool.eq_false_iff.mpr q]
        rfl
      · rw [chainOf_eq O hi]; exact List.mem_cons_self

/-! the orders -/
theorem cols_filter {c : List Nat} {m : Nat} (h : c.Pairwise (· < ·)) (hm : ∀ x ∈ c, x < m) : (List.range m).filter (fun x => c.contains x) = c := by
  refine sorted_ext (List.Pairwise.sublist List.filter_sublist List.pairwise_lt_range) h fun x => ?_
  rw [List.mem_filter, List.mem_range]
  simp only [List.contains_eq_mem, decide_eq_true_eq]
  exact ⟨fun q => q.2, fun q => ⟨hm x q, q⟩⟩

theorem longer_eq {s : St} (O : Ok s) {i : Nat} (hi : i < s.searches.length) (o : List Nat) : longer s o (searchAt s i) = o ++ (searchAt s i).filter fun x => !o.contains x := by
  unfold longer
  congr 1
  have := cols_filter (O.asc _ (searchAt_mem hi)) (O.col _ (searchAt_mem hi))
  rw [← List.filter_filter, List.filter_filter]
  conv => rhs; rw [← this]
  rw [List.filter_filter]
  refine List.filter_congr fun x _ => ?_
  exact Bool.and_comm ..

theorem longer_all (s : St) (o : List Nat) : longer s o (List.range s.cols) = o ++ (List.range s.cols).filter fun x => !o.contains x := by
  unfold longer
  congr 1
  refine List.filter_congr fun x hx => ?_
  have : (List.range s.cols).contains x = true := by simpa using hx
  rw [this, Bool.true_and]

/-- an order in the making -/
def addCols (s : St) (o : List Nat) (i : Nat) : List Nat := o ++ (searchAt s i).filter fun x => !o.contains x
theorem orderOf_eq {s : St} (O : Ok s) {l : List Nat} (hl : ∀ i ∈ l, i < s.searches.length) :
    orderOf s l = (l.foldl (addCols s) []) ++ (List.range s.cols).filter fun x => !(l.foldl (addCols s) []).contains x := by
  unfold orderOf
  rw [longer_all]
  have e : ∀ (l : List Nat) (o : List Nat), (∀ i ∈ l, i < s.searches.length) → l.foldl (fun (o : List Nat) (i : Nat) => longer s o (searchAt s i)) o = l.foldl (addCols s) o := by
    intro l
    induction l with
    | nil => intros; rfl
    | cons i r ih =>
      intro o h
      rw [List.foldl_cons, List.foldl_cons, longer_eq O (h i List.mem_cons_self)]
      exact ih _ fun x hx => h x (List.mem_cons_of_mem _ hx)
  rw [e l [] hl]
end SC
namespace SC
open Md50

theorem flatMap_cong {α β : Type} {f g : α → List β} : ∀ {l : List α}, (∀ x ∈ l, f x = g x) → l.flatMap f = l.flatMap g
  | [], _ => rfl
  | a :: r, h => by
    rw [List.flatMap_cons, List.flatMap_cons, h a List.mem_cons_self, flatMap_cong fun x hx => h x (List.mem_cons_of_mem _ hx)]

/-- where a set goes on: behind its last one; from a on if it is empty -/
def stOf (a : Nat) (c : List Nat) : Nat := match c.getLast? with
  | none => a
  | some x => x + 1
def extOf (a e : Nat) (c : List Nat) : List Nat := List.range' (stOf a c) (e - stOf a c)

theorem choose_zero (l : List Nat) : choose 0 l = [[]] := by cases l <;> rfl

theorem choose_one : ∀ l : List Nat, choose 1 l = l.map fun x => [x]
  | [] => rfl
  | x :: r => by
    show (choose 0 r).map (fun l => x :: l) ++ choose 1 r = _
    rw [choose_zero, choose_one r]; rfl

theorem choose_ne : ∀ (k : Nat) (l : List Nat), ∀ c ∈ choose (k + 1) l, c ≠ []
  | _, [], _, h => by simp [choose] at h
  | k, x :: r, c, h => by
    have h' : c ∈ (choose k r).map (fun l => x :: l) ++ choose (k + 1) r := h
    rcases List.mem_append.mp h' with q | q
    · obtain ⟨d, _, e⟩ := List.mem_map.mp q
      rw [← e]; simp
    · exact choose_ne k r c q

theorem stOf_cons (a x : Nat) (c : List Nat) : stOf a (x :: c) = stOf (x + 1) c := by
  unfold stOf
  cases h : c.getLast? with
  | none =>
    rw [List.getLast?_eq_none_iff] at h
    subst h; rfl
  | some y =>
    rw [List.getLast?_cons, h]; rfl

theorem stOf_ne {a b : Nat} {c : List Nat} (h : c ≠ []) : stOf a c = stOf b c := by
  unfold stOf
  cases q : c.getLast? with
  | none => exact absurd (List.getLast?_eq_none_iff.mp q) h
  | some y => rfl

theorem choose_more : ∀ (m : Nat) (k a e : Nat), a + m = e → choose (k + 1) (List.range' a m) = (choose k (List.range' a m)).flatMap fun c => (extOf a e c).map fun x => c ++ [x]
  | m, 0, a, e, h => by
    rw [choose_one, choose_zero]
    show _ = ((extOf a e []).map fun x => [] ++ [x]) ++ []
    rw [List.append_nil]
    have : extOf a e [] = List.range' a m := by
      show List.range' a (e - a) = _
      congr 1
      omega
    rw [this]; rfl
  | 0, k + 1, a, e, _ => rfl
  | m + 1, k + 1, a, e, h => by
    have er : List.range' a (m + 1) = a :: List.range' (a + 1) m := rfl
    rw [er]
    show (choose (k + 1) (List.range' (a + 1) m)).map (fun l => a :: l) ++ choose (k + 1 + 1) (List.range' (a + 1) m) =
      ((choose k (List.range' (a + 1) m)).map (fun l => a :: l) ++ choose (k + 1) (List.range' (a + 1) m)).flatMap _
    rw [List.flatMap_append]
    congr 1
    · rw [choose_more m k (a + 1) e (by omega), List.map_flatMap, List.flatMap_map]
      congr 1
      funext c
      rw [List.map_map]
      have : extOf a e (a :: c) = extOf (a + 1) e c := by
        unfold extOf
        rw [stOf_cons]
      rw [this]
      rfl
    · rw [choose_more m (k + 1) (a + 1) e (by omega)]
      have hc : ∀ c ∈ choose (k + 1) (List.range' (a + 1) m), ((extOf (a + 1) e c).map fun x => c ++ [x]) = ((extOf a e c).map fun x => c ++ [x]) := by
        intro c hc
        have := choose_ne _ _ c hc
        unfold extOf
        rw [stOf_ne (a := a + 1) (b := a) this]
      exact flatMap_cong hc

theorem choose_len : ∀ (k : Nat) (l : List Nat), l.length < k → choose k l = []
  | 0, _, h => absurd h (Nat.not_lt_zero _)
  | _ + 1, [], _ => rfl
  | k + 1, x :: r, h => by
    rw [List.length_cons] at h
    show (choose k r).map (fun l => x :: l) ++ choose (k + 1) r = []
    rw [choose_len k r (by omega), choose_len (k + 1) r (by omega)]; rfl

theorem choose_count : ∀ (k : Nat) (l : List Nat), (choose k l).length ≤ 2 ^ l.length
  | 0, l => by
    rw [choose_zero]
    exact Nat.one_le_two_pow
  | _ + 1, [] => by show 0 ≤ _; exact Nat.zero_le _
  | k + 1, x :: r => by
    show ((choose k r).map (fun l => x :: l) ++ choose (k + 1) r).length ≤ 2 ^ (r.length + 1)
    rw [List.length_append, List.length_map, Nat.pow_succ]
    have := choose_count k r
    have := choose_count (k + 1) r
    omega

theorem choose_mem : ∀ (k : Nat) (l : List Nat), ∀ c ∈ choose k l, ∀ x ∈ c, x ∈ l
  | 0, l, c, h, x, hx => by rw [choose_zero] at h; simp at h; subst h; simp at hx
  | _ + 1, [], _, h, _, _ => by simp [choose] at h
  | k + 1, y :: r, c, h, x, hx => by
    have h' : c ∈ (choose k r).map (fun l => y :: l) ++ choose (k + 1) r := h
    rcases List.mem_append.mp h' with q | q
    · obtain ⟨d, hd, e⟩ := List.mem_map.mp q
      subst e
      rcases List.mem_cons.mp hx with f | f
      · subst f; exact List.mem_cons_self
      · exact List.mem_cons_of_mem _ (choose_mem k r d hd x f)
    · exact List.mem_cons_of_mem _ (choose_mem (k + 1) r c q x hx)

theorem choose_size : ∀ (k : Nat) (l : List Nat), ∀ c ∈ choose k l, c.length = k
  | 0, l, c, h => by rw [choose_zero] at h; simp at h; subst h; rfl
  | _ + 1, [], _, h => by simp [choose] at h
  | k + 1, y :: r, c, h => by
    have h' : c ∈ (choose k r).map (fun l => y :: l) ++ choose (k + 1) r := h
    rcases List.mem_append.mp h' with q | q
    · obtain ⟨d, hd, e⟩ := List.mem_map.mp q
      subst e
      rw [List.length_cons, choose_size k r d hd]
    · exact choose_size (k + 1) r c q

/-- a search beside chosen ones: neither lies in the other -/
def besideG (s : St) (one : Nat) (c : List Nat) : Bool := c.all fun o => !below s o one && !below s one o

theorem below_self (s : St) (i : Nat) : below s i i = false := by simp [below]

theorem apart_snoc (s : St) (c : List Nat) (x : Nat) : apart s (c ++ [x]) = (apart s c && besideG s x c) := by
  rw [Bool.eq_iff_iff, Bool.and_eq_true]
  unfold apart besideG
  simp only [List.all_eq_true, List.mem_append, List.mem_singleton, Bool.and_eq_true]
  constructor
  · intro h
    exact ⟨fun i hi j hj => h i (.inl hi) j (.inl hj), fun o ho => ⟨h o (.inl ho) x (.inr rfl), h x (.inr rfl) o (.inl ho)⟩⟩
  · rintro ⟨h1, h2⟩ i hi j hj
    rcases hi with hi | hi
    · rcases hj with hj | hj
      · exact h1 i hi j hj
      · subst hj; exact (h2 i hi).1
    · subst hi
      rcases hj with hj | hj
      · exact (h2 j hj).2
      · subst hj; rw [below_self]; rfl

/-- the sets apart of one size -/
def lvl (s : St) (k : Nat) : List (List Nat) := (choose k (numbers s)).filter (apart s)
/-- what comes out of one set -/
def grown (s : St) (c : List Nat) : List (List Nat) := ((extOf 0 s.searches.length c).filter fun x => besideG s x c).map fun x => c ++ [x]

theorem flatMap_filter_of {α β : Type} {p : α → Bool} {f : α → List β} : ∀ {l : List α}, (∀ x ∈ l, p x = false → f x = []) → l.flatMap f = (l.filter p).flatMap f
  | [], _ => rfl
  | a :: r, h => by
    have ih := flatMap_filter_of (p := p) (f := f) (l := r) fun x hx => h x (List.mem_cons_of_mem _ hx)
    cases e : p a with
    | true => rw [List.filter_cons_of_pos e, List.flatMap_cons, List.flatMap_cons, ih]
    | false => rw [List.filter_cons_of_neg (by simp [e]), List.flatMap_cons, h a List.mem_cons_self e, ih]; rfl

theorem lvl_more (s : St) (k : Nat) : lvl s (k + 1) = (lvl s k).flatMap (grown s) := by
  unfold lvl
  have en : numbers s = List.range' 0 s.searches.length := List.range_eq_range'
  rw [en, choose_more s.searches.length k 0 s.searches.length (by omega), List.filter_flatMap]
  have ef : (fun (c : List Nat) => ((extOf 0 s.searches.length c).map fun x => c ++ [x]).filter (apart s)) = fun c => if apart s c = true then grown s c else [] := by
    funext c
    rw [List.filter_map]
    have e2 : (apart s ∘ fun x => c ++ [x]) = fun x => apart s c && besideG s x c := by
      funext x
      exact apart_snoc s c x
    rw [e2]
    cases apart s c with
    | true => rw [if_pos rfl]; simp only [Bool.true_and]; rfl
    | false => rw [if_neg (by simp)]; simp
  rw [ef, flatMap_filter_of (p := apart s) (fun x _ h => by rw [h]; rfl)]
  refine flatMap_cong fun c hc => ?_
  rw [(List.mem_filter.mp hc).2]; rfl

theorem lvl_zero (s : St) : lvl s 0 = [[]] := by
  unfold lvl
  rw [choose_zero]
  rfl
theorem lvl_end {s : St} {k : Nat} (h : s.searches.length < k) : lvl s k = [] := by
  unfold lvl
  rw [choose_len k _ (by simpa [numbers] using h)]; rfl
theorem lvl_none {s : St} {k : Nat} (h : lvl s k = []) : ∀ m, lvl s (k + m) = []
  | 0 => h
  | m + 1 => by
    show lvl s (k + m + 1) = []
    rw [lvl_more, lvl_none h m]; rfl
theorem lvl_le {s : St} {k : Nat} (h : lvl s k ≠ []) : k ≤ s.searches.length := by
  rcases Nat.lt_or_ge s.searches.length k with q | q
  · exact absurd (lvl_end q) h
  · exact q

theorem head_find {p : List Nat → Bool} : ∀ (l : List (List Nat)), l.find? p = (l.filter p).head?
  | [] => rfl
  | a :: r => by
    cases e : p a with
    | true => rw [List.find?_cons_of_pos e, List.filter_cons_of_pos e]; rfl
    | false => rw [List.find?_cons_of_neg (by simp [e]), List.filter_cons_of_neg (by simp [e])]; exact head_find r

theorem flat_none {f : Nat → Option (List Nat)} : ∀ (l : List Nat), (∀ x ∈ l, f x = none) → (l.map fun k => (f k).toList).flatten = []
  | [], _ => rfl
  | a :: r, h => by
    rw [List.map_cons, List.flatten_cons, h a List.mem_cons_self, flat_none r fun x hx => h x (List.mem_cons_of_mem _ hx)]; rfl

/-- the first of the greatest sets -/
theorem widest_eq {s : St} {k : Nat} {c : List Nat} {r : List (List Nat)} (h : lvl s k = c :: r) (h1 : lvl s (k + 1) = []) : widest s = c := by
  have hk : k ≤ s.searches.length := lvl_le (by rw [h]; simp)
  unfold widest
  have ef : (fun (k : Nat) => ((choose k (numbers s)).find? (apart s)).toList) = fun k => (lvl s k).head?.toList := by
    funext k
    rw [head_find]; rfl
  rw [ef]
  have er : List.range (s.searches.length + 1) = List.range k ++ k :: List.range' (k + 1) (s.searches.length - k) := by
    have h := List.range'_append_1 (s := 0) (m := k) (n := s.searches.length - k + 1)
    rw [Nat.zero_add, show k + (s.searches.length - k + 1) = s.searches.length + 1 from by omega] at h
    rw [List.range_eq_range', ← h, List.range_eq_range']
    rfl
  rw [er, List.map_append, List.flatten_append, List.map_cons, List.flatten_cons, h]
  rw [flat_none (f := fun k => (lvl s k).head?) (List.range' (k + 1) (s.searches.length - k)) fun x hx => by
    rw [List.mem_range'_1] at hx
    have := lvl_none h1 (x - (k + 1))
    rw [show k + 1 + (x - (k + 1)) = x from by omega] at this
    rw [this]; rfl]
  show ((_ : List (List Nat)) ++ ([c] ++ [])).getLast?.getD [] = c
  rw [List.append_nil, List.getLast?_append]
  rfl

theorem lvl_count (s : St) (k : Nat) : (lvl s k).length ≤ 2 ^ s.searches.length := by
  have := choose_count k (numbers s)
  have e : (numbers s).length = s.searches.length := by simp [numbers]
  rw [e] at this
  exact Nat.le_trans (List.length_filter_le _ _) this
theorem lvl_mem {s : St} {k : Nat} {c : List Nat} (h : c ∈ lvl s k) : c.length = k ∧ ∀ x ∈ c, x < s.searches.length := by
  have h' := (List.mem_filter.mp h).1
  exact ⟨choose_size _ _ c h', fun x hx => List.mem_range.mp (choose_mem _ _ c h' x hx)⟩
end SC
namespace SC
open Md50
/-! are_columns -/
def colsFrom (cols : Nat) : Int → List Int → Bool
  | _, [] => true
  | low, x :: r => if x < low ∨ x ≥ (cols : Int) then false else colsFrom cols (x + 1) r
def colOk (cols : Nat) (x : Int) : Bool := decide (0 ≤ x) && decide (x.toNat < cols)
theorem cols_from (cols : Nat) : ∀ (l : List Int) (low : Int), 0 ≤ low → colsFrom cols low l = (l.all (colOk cols) && ascending l && match l with | [] => true | x :: _ => decide (low ≤ x))
  | [], _, _ => rfl
  | [x], low, h => by
    unfold colsFrom
    by_cases c : x < low ∨ x ≥ (cols : Int)
    · rw [if_pos c]
      rcases c with c | c
      · have : decide (low ≤ x) = false := decide_eq_false (by omega)
        simp [this]
      · have : colOk cols x = false := by
          unfold colOk
          have : decide (x.toNat < cols) = false := decide_eq_false (by omega)
          rw [this, Bool.and_false]
        simp [this]
    · rw [if_neg c]
      rw [not_or] at c
      have h1 : decide (low ≤ x) = true := decide_eq_true (by omega)
      have h2 : colOk cols x = true := by
        unfold colOk
        rw [decide_eq_true (show 0 ≤ x by omega), decide_eq_true (show x.toNat < cols by omega)]; rfl
      simp [h1, h2, ascending, colsFrom]
  | x :: y :: r, low, h => by
    have ih := cols_from cols (y :: r)
    rw [colsFrom]
    by_cases c : x < low ∨ x ≥ (cols : Int)
    · rw [if_pos c]
      rcases c with c | c
      · have : decide (low ≤ x) = false := decide_eq_false (by omega)
        simp [this]
      · have : colOk cols x = false := by
          unfold colOk
          have : decide (x.toNat < cols) = false := decide_eq_false (by omega)
          rw [this, Bool.and_false]
        simp [this]
    · rw [if_neg c]
      rw [not_or] at c
      have h1 : decide (low ≤ x) = true := decide_eq_true (by omega)
      have h2 : colOk cols x = true := by
        unfold colOk
        rw [decide_eq_true (show 0 ≤ x by omega), decide_eq_true (show x.toNat < cols by omega)]; rfl
      rw [ih (x + 1) (by omega)]
      show ((y :: r).all (colOk cols) && ascending (y :: r) && decide (x + 1 ≤ y)) = ((x :: y :: r).all (colOk cols) && (decide (x < y) && ascending (y :: r)) && decide (low ≤ x))
      rw [List.all_cons (a := x), h1, h2, Bool.true_and, Bool.and_true]
      have e : decide (x + 1 ≤ y) = decide (x < y) := by
        by_cases d : x < y
        · rw [decide_eq_true d, decide_eq_true (by omega)]
        · rw [decide_eq_false d, decide_eq_false (by omega)]
      rw [e, Bool.and_assoc, Bool.and_comm (ascending (y :: r))]
theorem cols_ok (cols : Nat) (l : List Int) : colsFrom cols 0 l = (l.all (colOk cols) && ascending l) := by
  rw [cols_from cols l 0 (Int.le_refl 0)]
  cases l with
  | nil => rfl
  | cons x r =>
    rw [List.all_cons]
    by_cases c : 0 ≤ x
    · show (colOk cols x && r.all (colOk cols) && ascending (x :: r) && decide (0 ≤ x)) = _
      rw [decide_eq_true c, Bool.and_true]
    · have : colOk cols x = false := by
        unfold colOk
        rw [decide_eq_false c]; rfl
      rw [this]; rfl
theorem asc_pairwise : ∀ (l : List Int), ascending l = true → l.Pairwise (· < ·)
  | [], _ => .nil
  | [x], _ => by simp
  | x :: y :: r, h => by
    have h' : (decide (x < y) && ascending (y :: r)) = true := h
    rw [Bool.and_eq_true] at h'
    have ih := asc_pairwise (y :: r) h'.2
    have lt : x < y := of_decide_eq_true h'.1
    rw [List.pairwise_cons]
    refine ⟨fun z hz => ?_, ih⟩
    rcases List.mem_cons.mp hz with e | e
    · omega
    · have := (List.pairwise_cons.mp ih).1 z e
      omega
theorem Ok.add {s : St} (O : Ok s) {l : List Int} (h : colsFrom s.cols 0 l = true) (hn : ¬ s.searches.contains (l.map Int.toNat) = true) (ht : s.searches.length < 10) : Ok { s with searches := s.searches ++ [l.map Int.toNat] } := by
  rw [cols_ok, Bool.and_eq_true] at h
  have hall : ∀ x ∈ l, 0 ≤ x ∧ x.toNat < s.cols := fun x hx => by
    have := List.all_eq_true.mp h.1 x hx
    unfold colOk at this
    simpa using this
  have hp := asc_pairwise l h.2
  have hp2 : (l.map Int.toNat).Pairwise (· < ·) := by
    rw [List.pairwise_map]
    refine List.Pairwise.imp_of_mem (fun {x y} hx hy lt => ?_) hp
    have := (hall x hx).1
    have := (hall y hy).1
    omega
  have hni : l.map Int.toNat ∉ s.searches := by simpa using hn
  refine ⟨?_, fun c hc => ?_, fun c hc x hx => ?_, ?_, O.sev⟩
  · show (s.searches ++ [l.map Int.toNat]).Nodup
    rw [List.nodup_append]
    refine ⟨O.nd, by simp, fun a ha b hb => ?_⟩
    simp at hb
    subst hb
    exact fun e => hni (e ▸ ha)
  · rcases List.mem_append.mp hc with q | q
    · exact O.asc c q
    · simp at q; subst q; exact hp2
  · show x < s.cols
    rcases List.mem_append.mp hc with q | q
    · exact O.col c q x hx
    · simp at q
      subst q
      obtain ⟨y, hy, e⟩ := List.mem_map.mp hx
      rw [← e]
      exact (hall y hy).2
  · show (s.searches ++ [l.map Int.toNat]).length ≤ 10
    rw [List.length_append]
    show s.searches.length + 1 ≤ 10
    omega
/-! the order of a search -/
theorem findIdx_range {p : List Nat → Bool} : ∀ (l : List (List Nat)), l.findIdx? p = (List.range l.length).find? fun k => p (rowOf l k)
  | [] => rfl
  | a :: r => by
    rw [List.findIdx?_cons, List.length_cons, List.range_succ_eq_map, List.find?_cons]
    show _ = match p a with | true => some 0 | false => _
    cases e : p a with
    | true => rfl
    | false =>
      rw [List.find?_map, findIdx_range r]
      rfl
theorem server_eq {s : St} (O : Ok s) {i : Nat} (h : i < s.searches.length) : ∃ k r, k < (chains s).length ∧ (List.range (chains s).length).filter (fun k => (rowOf (chains s) k).contains i) = k :: r ∧ server s i = k ∧ i ∈ rowOf (chains s) k := by
  obtain ⟨c, hc, hi⟩ := chain_all O _ i h (Nat.lt_succ_self _)
  obtain ⟨j, hj, ej⟩ := List.getElem_of_mem hc
  have hjr : rowOf (chains s) j = c := by
    unfold rowOf
    rw [List.getD_eq_getElem?_getD, List.getElem?_eq_getElem hj, ej]; rfl
  have hm : j ∈ (List.range (chains s).length).filter fun k => (rowOf (chains s) k).contains i := by
    rw [List.mem_filter]
    refine ⟨List.mem_range.mpr hj, ?_⟩
    rw [hjr]
    simpa using hi
  cases e : (List.range (chains s).length).filter (fun k => (rowOf (chains s) k).contains i) with
  | nil => rw [e] at hm; simp at hm
  | cons k r =>
    have hk : k ∈ (List.range (chains s).length).filter fun k => (rowOf (chains s) k).contains i := by rw [e]; exact List.mem_cons_self
    rw [List.mem_filter] at hk
    refine ⟨k, r, List.mem_range.mp hk.1, rfl, ?_, by simpa using hk.2⟩
    unfold server
    have ef : (chains s).findIdx? (fun l => l.contains i) = some k := by
      rw [findIdx_range]
      have : ∀ (l : List Nat) (p : Nat → Bool), l.find? p = (l.filter p).head? := by
        intro l p
        induction l with
        | nil => rfl
        | cons a t ih =>
          cases q : p a with
          | true => rw [List.find?_cons_of_pos q, List.filter_cons_of_pos q]; rfl
          | false => rw [List.find?_cons_of_neg (by simp [q]), List.filter_cons_of_neg (by simp [q])]; exact ih
      rw [this, e]; rfl
    rw [ef]; rfl
/-! the calls, one after another -/
theorem calls_step {shape : Int → Option (Nat × Nat)} {f : Nat} {p : Int} {r : List Int} {cs : List (List (List Int))} (h : PyFlat.calls shape f (p :: r) = some cs) :
    ∃ f' n k xs t cs', f = f' + 1 ∧ shape p = some (n, k) ∧ n ≤ r.length ∧ PyFlat.rows k (r.drop n) = some (xs, t) ∧ PyFlat.calls shape f' t = some cs' ∧ cs = ((p :: r.take n) :: xs) :: cs' := by
  cases f with
  | zero => cases h
  | succ f =>
    have h' : (match PyFlat.call shape (p :: r) with
      | none => none
      | some (c, t) => match PyFlat.calls shape f t with
        | none => none
        | some cs => some (c :: cs)) = some cs := h
    cases ec : PyFlat.call shape (p :: r) with
    | none => rw [ec] at h'; cases h'
    | some q =>
      obtain ⟨c, t⟩ := q
      rw [ec] at h'
      cases e2 : PyFlat.calls shape f t with
      | none => simp only [e2] at h'; cases h'
      | some cs' =>
        simp only [e2] at h'
        have ecs := Option.some.inj h'
        have ec' : (match shape p with
          | none => none
          | some (n, k) => if r.length < n then none else match PyFlat.rows k (r.drop n) with
            | none => none
            | some (xs, t) => some ((p :: r.take n) :: xs, t)) = some (c, t) := ec
        cases es : shape p with
        | none => rw [es] at ec'; cases ec'
        | some nk =>
          obtain ⟨n, k⟩ := nk
          rw [es] at ec'
          have ec2 : (if r.length < n then none else match PyFlat.rows k (r.drop n) with
            | none => none
            | some (xs, t) => some ((p :: r.take n) :: xs, t)) = some (c, t) := ec'
          by_cases hl : r.length < n
          · rw [if_pos hl] at ec2; cases ec2
          · rw [if_neg hl] at ec2
            cases er : PyFlat.rows k (r.drop n) with
            | none => rw [er] at ec2; cases ec2
            | some q3 =>
              obtain ⟨xs, t'⟩ := q3
              rw [er] at ec2
              have ep := Prod.mk.inj (Option.some.inj ec2)
              refine ⟨f, n, k, xs, t', cs', rfl, rfl, by omega, er, ?_, ?_⟩
              · rw [ep.2]; exact e2
              · rw [← ecs, ← ep.1]
end SC
namespace SC
open Md50
/-! rows by their values in an order's columns -/
def vals (o : List Nat) (x : Row) : List Int := o.map (valueIn x)
theorem before_eq : ∀ (o : List Nat) (x y : Row), before o x y = decide (vals o x < vals o y)
  | [], x, y => by simp [before, vals]
  | c :: r, x, y => by
    unfold before
    show _ = decide (valueIn x c :: vals r x < valueIn y c :: vals r y)
    rw [before_eq r x y]
    by_cases h1 : valueIn x c < valueIn y c
    · rw [if_pos h1]
      exact (decide_eq_true (List.cons_lt_cons_iff.mpr (.inl h1))).symm
    · rw [if_neg h1]
      by_cases h2 : valueIn y c < valueIn x c
      · rw [if_pos h2]
        refine (decide_eq_false fun z => ?_).symm
        rcases List.cons_lt_cons_iff.mp z with z | z
        · exact h1 z
        · omega
      · rw [if_neg h2]
        have e : valueIn x c = valueIn y c := by omega
        by_cases h3 : vals r x < vals r y
        · rw [decide_eq_true h3, decide_eq_true (List.cons_lt_cons_iff.mpr (.inr ⟨e, h3⟩))]
        · rw [decide_eq_false h3]
          refine (decide_eq_false fun z => ?_).symm
          rcases List.cons_lt_cons_iff.mp z with z | z
          · exact h1 z
          · exact h3 z.2
def leV (o : List Nat) (x y : Row) : Bool := decide (vals o x ≤ vals o y)
theorem leV_total (o : List Nat) (x y : Row) : (leV o x y || leV o y x) = true := by
  unfold leV
  rw [Bool.or_eq_true, decide_eq_true_eq, decide_eq_true_eq]
  exact List.le_total _ _
theorem leV_trans (o : List Nat) (x y z : Row) (h1 : leV o x y = true) (h2 : leV o y z = true) : leV o x z = true := by
  unfold leV at *
  rw [decide_eq_true_eq] at *
  exact List.le_trans h1 h2
theorem leV_before (o : List Nat) (x y : Row) : leV o x y = !before o y x := by
  rw [before_eq]
  unfold leV
  by_cases h : vals o y < vals o x
  · rw [decide_eq_true h, decide_eq_false (fun z => List.not_lt.mpr z h)]; rfl
  · rw [decide_eq_false h, decide_eq_true (List.not_lt.mp h)]; rfl
theorem before_le {o : List Nat} {x y : Row} (h : before o x y = true) : leV o x y = true := by
  unfold leV
  rw [before_eq, decide_eq_true_eq] at h
  exact decide_eq_true (List.le_of_lt h)
theorem putIn_perm (o : List Nat) (x : Row) : ∀ l : List Row, (putIn o x l).Perm (x :: l)
  | [] => .refl _
  | y :: r => by
    unfold putIn
    split
    · exact .refl _
    · exact ((putIn_perm o x r).cons y).trans (.swap x y r)
theorem putIn_sorted (o : List Nat) (x : Row) : ∀ l : List Row, l.Pairwise (fun a b => leV o a b = true) → (putIn o x l).Pairwise (fun a b => leV o a b = true)
  | [], _ => by simp [putIn]
  | y :: r, h => by
    unfold putIn
    rw [List.pairwise_cons] at h
    split
    · rename_i c
      rw [List.pairwise_cons, List.pairwise_cons]
      have xy := before_le c
      refine ⟨fun z hz => ?_, h⟩
      rcases List.mem_cons.mp hz with e | e
      · rw [e]; exact xy
      · exact leV_trans o x y z xy (h.1 z e)
    · rename_i c
      rw [List.pairwise_cons]
      refine ⟨fun z hz => ?_, putIn_sorted o x r h.2⟩
      rcases List.mem_cons.mp ((putIn_perm o x r).mem_iff.mp hz) with e | e
      · rw [e, leV_before, Bool.eq_false_iff.mpr c]; rfl
      · exact h.1 z e
theorem fold_sorted (o : List Nat) : ∀ (l u : List Row), u.Pairwise (fun a b => leV o a b = true) → (l.foldl (fun (u : List Row) (x : Row) => putIn o x u) u).Pairwise (fun a b => leV o a b = true) ∧ (l.foldl (fun (u : List Row) (x : Row) => putIn o x u) u).Perm (l ++ u)
  | [], _, h => ⟨h, .refl _⟩
  | x :: r, u, h => by
    rw [List.foldl_cons]
    obtain ⟨a, b⟩ := fold_sorted o r (putIn o x u) (putIn_sorted o x u h)
    refine ⟨a, b.trans ?_⟩
    exact ((putIn_perm o x u).append_left r).trans List.perm_middle
theorem sortedBy_sorted (o : List Nat) (l : List Row) : (sortedBy o l).Pairwise (fun a b => leV o a b = true) := (fold_sorted o l [] .nil).1
theorem sortedBy_perm (o : List Nat) (l : List Row) : (sortedBy o l).Perm l := by
  have := (fold_sorted o l [] .nil).2
  rwa [List.append_nil] at this
/-! states with rows -/
structure Rk (s : St) : Prop where
  nd : s.rows.Nodup
  len : ∀ x ∈ s.rows, x.length = s.cols
  few : s.rows.length ≤ 60
/-- an order has all columns, and no others -/
structure Full (m : Nat) (o : List Nat) : Prop where
  all : ∀ c, c < m → c ∈ o
  only : ∀ c ∈ o, c < m
theorem add_only {s : St} (O : Ok s) {o : List Nat} {i : Nat} (hi : i < s.searches.length) (h : ∀ c ∈ o, c < s.cols) : ∀ c ∈ addCols s o i, c < s.cols := fun c hc => by
  unfold addCols at hc
  rcases List.mem_append.mp hc with q | q
  · exact h c q
  · exact O.col _ (searchAt_mem hi) c (List.mem_filter.mp q).1
theorem fold_only {s : St} (O : Ok s) : ∀ (l o : List Nat), (∀ i ∈ l, i < s.searches.length) → (∀ c ∈ o, c < s.cols) → ∀ c ∈ l.foldl (addCols s) o, c < s.cols
  | [], _, _, h => h
  | i :: r, o, hl, h => by
    rw [List.foldl_cons]
    exact fold_only O r _ (fun x hx => hl x (List.mem_cons_of_mem _ hx)) (add_only O (hl i List.mem_cons_self) h)
theorem orderOf_full {s : St} (O : Ok s) {l : List Nat} (hl : ∀ i ∈ l, i < s.searches.length) : Full s.cols (orderOf s l) := by
  rw [orderOf_eq O hl]
  refine ⟨fun c hc => ?_, fun c hc => ?_⟩
  · by_cases q : c ∈ l.foldl (addCols s) []
    · exact List.mem_append_left _ q
    · refine List.mem_append_right _ (List.mem_filter.mpr ⟨List.mem_range.mpr hc, ?_⟩)
      simp [q]
  · rcases List.mem_append.mp hc with q | q
    · exact fold_only O l [] hl (fun c h => by simp at h) c q
    · exact List.mem_range.mp (List.mem_filter.mp q).1
theorem chain_in {s : St} (O : Ok s) {c : List Nat} (hc : c ∈ chains s) : ∀ i ∈ c, i < s.searches.length := by
  rw [chains_eq] at hc
  obtain ⟨f, hf, e⟩ := List.mem_map.mp hc
  have hf' : f < s.searches.length := List.mem_range.mp (List.mem_filter.mp hf).1
  intro i hi
  rw [← e] at hi
  exact chain_mem O _ f hf' (Nat.lt_succ_self _) i hi
theorem orders_full {s : St} (O : Ok s) {o : List Nat} (ho : o ∈ orders s) : Full s.cols o := by
  unfold orders at ho
  obtain ⟨c, hc, e⟩ := List.mem_map.mp ho
  rw [← e]
  exact orderOf_full O (chain_in O hc)
theorem orderAt_mem {s : St} (O : Ok s) {i : Nat} (h : i < s.searches.length) : orderAt s i ∈ orders s := by
  obtain ⟨k, r, hk, _, e, _⟩ := server_eq O h
  unfold orderAt
  rw [e]
  have hk' : k < (orders s).length := by unfold orders; rw [List.length_map]; exact hk
  rw [List.getD_eq_getElem?_getD, List.getElem?_eq_getElem hk']
  exact List.getElem_mem hk'
theorem orderAt_eq {s : St} (O : Ok s) {i : Nat} (h : i < s.searches.length) : orderAt s i = orderOf s (rowOf (chains s) (server s i)) := by
  obtain ⟨k, r, hk, _, e, _⟩ := server_eq O h
  unfold orderAt orders rowOf
  rw [e, List.getD_eq_getElem?_getD, List.getElem?_map, List.getElem?_eq_getElem hk, List.getD_eq_getElem?_getD, List.getElem?_eq_getElem hk]; rfl
theorem vals_inj {m : Nat} {o : List Nat} (F : Full m o) {x y : Row} (hx : x.length = m) (hy : y.length = m) (e : vals o x = vals o y) : x = y := by
  have all : ∀ c ∈ o, valueIn x c = valueIn y c := fun c hc => List.map_inj_left.mp e c hc
  refine List.ext_getElem (hx.trans hy.symm) fun c h1 h2 => ?_
  have := all c (F.all c (by omega))
  unfold valueIn at this
  rw [List.getD_eq_getElem?_getD, List.getD_eq_getElem?_getD, List.getElem?_eq_getElem h1, List.getElem?_eq_getElem h2] at this
  exact this
/-! what is found -/
def has (c : List Nat) (v : Row) (x : Row) : Bool := decide (vals c x = v)
theorem fits_has : ∀ (c : List Nat) (v x : Row), v.length = c.length → fits c v x = has c v x
  | [], [], x, _ => rfl
  | [], _ :: _, x, h => by simp at h
  | _ :: _, [], x, h => by simp at h
  | a :: c, b :: v, x, h => by
    have ih := fits_has c v x (by simpa using h)
    unfold fits has at *
    rw [List.zip_cons_cons, List.all_cons, ih]
    show ((valueIn x a == b) && decide (vals c x = v)) = decide (valueIn x a :: vals c x = b :: v)
    rw [Bool.eq_iff_iff]
    simp only [Bool.and_eq_true, beq_iff_eq, decide_eq_true_eq, List.cons.injEq]
def foundG (s : St) (i : Nat) (v : Row) : List Row := (s.rows.filter (has (searchAt s i) v)).mergeSort (leV (orderAt s i))
theorem found_eq {s : St} (O : Ok s) (R : Rk s) {i : Nat} (hi : i < s.searches.length) {v : Row} (hv : v.length = (searchAt s i).length) : found s i v = foundG s i v := by
  have F := orders_full O (orderAt_mem O hi)
  unfold found foundG
  have ef : fits (searchAt s i) v = has (searchAt s i) v := funext fun x => fits_has _ _ _ hv
  rw [ef]
  have p1 : ((sortedBy (orderAt s i) s.rows).filter (has (searchAt s i) v)).Perm (s.rows.filter (has (searchAt s i) v)) := (sortedBy_perm _ _).filter _
  have p2 := List.mergeSort_perm (s.rows.filter (has (searchAt s i) v)) (leV (orderAt s i))
  refine List.Perm.eq_of_pairwise (le := fun a b => leV (orderAt s i) a b = true) (fun a b ha hb h1 h2 => ?_) ((sortedBy_sorted _ _).sublist List.filter_sublist) (List.pairwise_mergeSort (fun a b c => leV_trans _ a b c) (fun a b => leV_total _ a b) _) (p1.trans p2.symm)
  have ma := (List.mem_filter.mp (p1.mem_iff.mp ha)).1
  have mb := (List.mem_filter.mp (p2.mem_iff.mp hb)).1
  unfold leV at h1 h2
  rw [decide_eq_true_eq] at h1 h2
  exact vals_inj F (R.len a ma) (R.len b mb) (List.le_antisymm h1 h2)
theorem found_mem {s : St} {i : Nat} {v : Row} {x : Row} (h : x ∈ foundG s i v) : x ∈ s.rows := (List.mem_filter.mp ((List.mergeSort_perm _ _).mem_iff.mp h)).1
theorem found_len (s : St) (i : Nat) (v : Row) : (foundG s i v).length ≤ s.rows.length := by
  unfold foundG
  rw [List.length_mergeSort]
  exact List.length_filter_le _ _
/-! rows that come and go -/
theorem Rk.add {s : St} (R : Rk s) {x : Row} (hx : x.length = s.cols) (hn : ¬ s.rows.contains x = true) (h60 : s.rows.length < 60) : Rk { s with rows := s.rows ++ [x] } := by
  have hni : x ∉ s.rows := by simpa using hn
  refine ⟨?_, fun y hy => ?_, ?_⟩
  · show (s.rows ++ [x]).Nodup
    rw [List.nodup_append]
    refine ⟨R.nd, by simp, fun a ha b hb => ?_⟩
    simp at hb
    subst hb
    exact fun e => hni (e ▸ ha)
  · rcases List.mem_append.mp hy with q | q
    · exact R.len y q
    · simp at q; subst q; exact hx
  · show (s.rows ++ [x]).length ≤ 60
    rw [List.length_append]
    show s.rows.length + 1 ≤ 60
    omega
theorem Rk.drop {s : St} (R : Rk s) (p : Row → Bool) : Rk { s with rows := s.rows.filter p } :=
  ⟨R.nd.sublist List.filter_sublist, fun x hx => R.len x (List.mem_filter.mp hx).1, Nat.le_trans (List.length_filter_le _ _) R.few⟩
theorem filter_erase : ∀ {l : List Row} {x : Row}, l.Nodup → l.filter (fun y => y != x) = l.erase x
  | [], _, _ => rfl
  | a :: r, x, h => by
    rw [List.nodup_cons] at h
    by_cases e : a = x
    · subst e
      rw [List.erase_cons_head, List.filter_cons_of_neg (by simp)]
      refine List.filter_eq_self.mpr fun y hy => ?_
      simp only [bne_iff_ne]
      exact fun z => h.1 (z ▸ hy)
    · rw [List.erase_cons_tail (by simpa using e), List.filter_cons_of_pos (by simpa using e), filter_erase h.2]
theorem filter_none {l : List Row} {x : Row} (h : ¬ l.contains x = true) : l.filter (fun y => y != x) = l := by
  refine List.filter_eq_self.mpr fun y hy => ?_
  simp only [bne_iff_ne]
  rintro rfl
  exact h (by simpa using hy)
theorem erase_at : ∀ {l : List Row} {x : Row} {j : Nat}, l[j]? = some x → (∀ m : Nat, m < j → l[m]? ≠ some x) → l.eraseIdx j = l.erase x
  | [], _, _, h, _ => by simp at h
  | a :: r, x, 0, h, _ => by
    have e : a = x := Option.some.inj h
    subst e
    rw [List.erase_cons_head]; rfl
  | a :: r, x, j + 1, h, hn => by
    have ne : a ≠ x := fun e => hn 0 (Nat.succ_pos _) (by rw [e]; rfl)
    rw [List.erase_cons_tail (by simpa using ne)]
    show a :: r.eraseIdx j = _
    rw [erase_at (l := r) (j := j) h fun m hm => hn (m + 1) (by omega)]
/-! numbers told -/
def valueOk (x : List Int) : Bool := x.all isValue
end SC
namespace SC
open PySem PySem.Spec PyProof.Rows L2
/-! ### the text -/
def top (i : Nat) : Stmt := PySem.Challenge.pw_sortedcopies_s01_answers.main.body.getD i (.Pass ⟨0, 0, 0, 0⟩)
/-! ### numbers and lists in the heap -/
def vn (n : Nat) : V := V.int (n : Int)
def nv (l : List Nat) : List V := l.map vn
theorem nv_len (l : List Nat) : (nv l).length = l.length := List.length_map ..
theorem nv_get {l : List Nat} {i : Nat} {x : V} (h : (nv l)[i]? = some x) : ∃ n, l[i]? = some n ∧ x = vn n := by
  unfold nv at h
  rw [List.getElem?_map] at h
  cases e : l[i]? with
  | none => rw [e] at h; cases h
  | some n => rw [e] at h; exact ⟨n, rfl, (Option.some.inj h).symm⟩
theorem same_new {H : Hp} {p : Addr} (h : H p = none) (o : HO) : Same H (upd H p o) := fun b u q => by rw [upd_ne (ne_of_none q h)]; exact q
/-- a list that is new in H may be changed -/
theorem same_upd {H H' : Hp} {p : Addr} (s : Same H H') (h : H p = none) (o : HO) : Same H (upd H' p o) := fun b u q => by rw [upd_ne (ne_of_none q h)]; exact s b u q
theorem same_lst {H H' : Hp} {a : Addr} {l : List V} (s : Same H H') (h : H a = some (.lst l)) : H' a = some (.lst l) := s a _ h
theorem sq {K : PySem.W.Frag} {H : Hp} {a : Addr} {l : List V} (h : H a = some (.lst l)) : SqL K H a l := SqL.of h
/-! ### comprehensions that only make new things -/
def outs (f : Nat → Option V) (i : Nat) : List V := (List.range i).filterMap f
theorem outs_succ (f : Nat → Option V) (i : Nat) : outs f (i + 1) = outs f i ++ (f i).toList := by
  unfold outs
  rw [List.range_succ, List.filterMap_append]
  congr 1
theorem outs_len (f : Nat → Option V) (i : Nat) : (outs f i).length ≤ i := by
  unfold outs
  have := List.length_filterMap_le f (List.range i)
  rwa [List.length_range] at this
def Lc (H1 : Hp) (D : Addr) (f : Nat → Option V) (i : Nat) (H : Hp) : Prop := Same H1 H ∧ H D = some (.lst (outs f i))
theorem lc_yes {H1 H H4 : Hp} {D : Addr} {f : Nat → Option V} {i : Nat} {y : V} (hD : H1 D = none) (h : Lc H1 D f i H) (s : Same H H4) (hf : f i = some y) (hi : i < 5000) :
    ∃ acc, H4 D = some (.lst acc) ∧ acc.length < sizeLine ∧ Lc H1 D f (i + 1) (upd H4 D (.lst (acc ++ [y]))) := by
  refine ⟨outs f i, s _ _ h.2, Nat.lt_of_le_of_lt (outs_len f i) (Nat.lt_of_lt_of_le hi (by decide)), same_upd (h.1.trans s) hD _, ?_⟩
  rw [upd_same, outs_succ, hf]
  rfl
theorem lc_no {H1 H H3 : Hp} {D : Addr} {f : Nat → Option V} {i : Nat} (h : Lc H1 D f i H) (s : Same H H3) (hf : f i = none) : Lc H1 D f (i + 1) H3 := by
  refine ⟨h.1.trans s, ?_⟩
  rw [outs_succ, hf]
  show _ = some (HO.lst (outs f i ++ []))
  rw [List.append_nil]
  exact s _ _ h.2
theorem lc_start {H1 : Hp} {D : Addr} {f : Nat → Option V} (hD : H1 D = none) : Lc H1 D f 0 (upd H1 D (.lst [])) := ⟨same_new hD _, upd_same⟩
/-- what a comprehension over a list of numbers makes -/
theorem outs_list {α : Type} (l : List α) (g : α → Option V) : ∀ i, i ≤ l.length → outs (fun k => (l[k]?).bind g) i = (l.take i).filterMap g
  | 0, _ => rfl
  | i + 1, h => by
    have hi : i < l.length := h
    rw [outs_succ, outs_list l g i (by omega), List.take_add_one, List.filterMap_append, List.getElem?_eq_getElem hi]
    congr 1
theorem outs_all {α : Type} (l : List α) (g : α → Option V) : outs (fun k => (l[k]?).bind g) l.length = l.filterMap g := by
  rw [outs_list l g _ (Nat.le_refl _), List.take_length]
/-! ### comparisons -/
def di (n : Nat) : PyData := .int (n : Int)
def dn (l : List Nat) : PyData := .list (l.map di)
theorem dn_dp {K : PySem.W.Frag} {H : Hp} : ∀ l : List Nat, DpAll K H (nv l) (l.map di)
  | [] => .nil
  | n :: r => .cons (.int _) (dn_dp r)
theorem dn_at {K : PySem.W.Frag} {H : Hp} {a : Addr} {l : List Nat} (h : H a = some (.lst (nv l))) : Dp K H (.ref a) (dn l) := .lst (SqL.of h) (dn_dp l)
theorem dn_lays : ∀ l : List Nat, PyData.canLayAll0 (l.map di) = true
  | [] => by simp [PyData.canLayAll0]
  | n :: r => by simp [PyData.canLayAll0, PyData.canLay0, di, dn_lays r]
theorem dn_depths : ∀ l : List Nat, PyData.depthAll (l.map di) ≤ 1
  | [] => by simp [PyData.depthAll]
  | n :: r => by
    have := dn_depths r
    simp only [List.map_cons, PyData.depthAll, di, PyData.depth]
    omega
theorem dn_shaped (l : List Nat) : SeqAt.shaped (dn l) = true := by
  have h := dn_depths l
  show ((dn l).canLay0 && decide ((dn l).depth ≤ 64)) = true
  rw [Bool.and_eq_true]
  refine ⟨?_, ?_⟩
  · simp [dn, PyData.canLay0, dn_lays l]
  · simp only [dn, PyData.depth, decide_eq_true_eq]
    omega
theorem dn_eqv : ∀ x y : List Nat, PyData.eqvAll (x.map di) (y.map di) = decide (x = y)
  | [], [] => by simp [PyData.eqvAll]
  | [], _ :: _ => by simp [PyData.eqvAll]
  | _ :: _, [] => by simp [PyData.eqvAll]
  | a :: x, b :: y => by
    simp only [List.map_cons, PyData.eqvAll, di, PyData.eqv]
    rw [show PyData.eqvAll (x.map di) (y.map di) = decide (x = y) from dn_eqv x y]
    rw [Bool.eq_iff_iff]
    simp only [Bool.and_eq_true, beq_iff_eq, decide_eq_true_eq, List.cons.injEq, Int.natCast_inj]
theorem dn_eq (x y : List Nat) : PyData.eqv (dn x) (dn y) = decide (x = y) := by
  show PyData.eqvAll _ _ = _
  exact dn_eqv x y
/-- lists of lists -/
def dns (g : List (List Nat)) : PyData := .list (g.map dn)
theorem dns_lays : ∀ g : List (List Nat), PyData.canLayAll0 (g.map dn) = true
  | [] => by simp [PyData.canLayAll0]
  | l :: r => by simp [PyData.canLayAll0, dn, PyData.canLay0, dn_lays l, dns_lays r]
theorem dns_depths : ∀ g : List (List Nat), PyData.depthAll (g.map dn) ≤ 3
  | [] => by simp [PyData.depthAll]
  | l :: r => by
    have := dns_depths r
    have := dn_depths l
    simp only [List.map_cons, PyData.depthAll, dn, PyData.depth]
    omega
theorem dns_shaped (g : List (List Nat)) : SeqAt.shaped (dns g) = true := by
  have h := dns_depths g
  show ((dns g).canLay0 && decide ((dns g).depth ≤ 64)) = true
  rw [Bool.and_eq_true]
  refine ⟨?_, ?_⟩
  · simp [dns, PyData.canLay0, dns_lays g]
  · simp only [dns, PyData.depth, decide_eq_true_eq]
    omega
theorem dns_any (g : List (List Nat)) (l : List Nat) : ((g.map dn).any fun z => PyData.eqv z (dn l)) = g.contains l := by
  rw [List.any_map]
  rw [Bool.eq_iff_iff]
  simp only [List.any_eq_true, Function.comp, dn_eq, decide_eq_true_eq, List.contains_eq_mem]
  exact ⟨fun ⟨x, hx, e⟩ => e ▸ hx, fun h => ⟨l, h, rfl⟩⟩
/-- a list of lists of numbers stands at a -/
structure LLat (H : Hp) (a : Addr) (as : List Addr) (g : List (List Nat)) : Prop where
  top : H a = some (.lst (as.map V.ref))
  len : as.length = g.length
  row : ∀ i b, as[i]? = some b → H b = some (.lst (nv (rowOf g i)))
  ne : ∀ b ∈ as, b ≠ a
def LL (H : Hp) (a : Addr) (g : List (List Nat)) : Prop := ∃ as, LLat H a as g
theorem LLat.same {H H' : Hp} {a : Addr} {as : List Addr} {g : List (List Nat)} (h : LLat H a as g) (s : Same H H') : LLat H' a as g := ⟨s _ _ h.top, h.len, fun i b e => s _ _ (h.row i b e), h.ne⟩
theorem LL.same {H H' : Hp} {a : Addr} {g : List (List Nat)} (h : LL H a g) (s : Same H H') : LL H' a g := let ⟨as, q⟩ := h; ⟨as, q.same s⟩
theorem rowOf_cons (l : List Nat) (g : List (List Nat)) (i : Nat) : rowOf (l :: g) (i + 1) = rowOf g i := rfl
theorem LLat.dps {K : PySem.W.Frag} {H : Hp} : ∀ {as : List Addr} {g : List (List Nat)}, as.length = g.length → (∀ i b, as[i]? = some b → H b = some (.lst (nv (rowOf g i)))) → DpAll K H (as.map V.ref) (g.map dn)
  | [], [], _, _ => .nil
  | [], _ :: _, h, _ => by simp at h
  | _ :: _, [], h, _ => by simp at h
  | b :: as, l :: g, h, row => .cons (dn_at (row 0 b rfl)) (LLat.dps (as := as) (g := g) (by simpa using h) fun i b' e => row (i + 1) b' e)
theorem LL.dp {K : PySem.W.Frag} {H : Hp} {a : Addr} {g : List (List Nat)} (h : LL H a g) : Dp K H (.ref a) (dns g) := let ⟨as, q⟩ := h; .lst (SqL.of q.top) (LLat.dps q.len q.row)
theorem rowOf_get {g : List (List Nat)} {i : Nat} (h : i < g.length) : g[i]? = some (rowOf g i) := by
  unfold rowOf
  rw [List.getD_eq_getElem?_getD, List.getElem?_eq_getElem h]; rfl
theorem LLat.at {H : Hp} {a : Addr} {as : List Addr} {g : List (List Nat)} (h : LLat H a as g) {i : Nat} (hi : i < g.length) : ∃ b, as[i]? = some b ∧ H b = some (.lst (nv (rowOf g i))) := by
  have hi' : i < as.length := by rw [h.len]; exact hi
  exact ⟨as[i], List.getElem?_eq_getElem hi', h.row i _ (List.getElem?_eq_getElem hi')⟩
theorem refs_get {as : List Addr} {i : Nat} {v : V} (h : (as.map V.ref)[i]? = some v) : ∃ b, as[i]? = some b ∧ v = .ref b := by
  rw [List.getElem?_map] at h
  cases e : as[i]? with
  | none => rw [e] at h; cases h
  | some b => rw [e] at h; exact ⟨b, rfl, (Option.some.inj h).symm⟩
theorem LLat.nil {H : Hp} {a : Addr} (h : H a = some (.lst [])) : LLat H a [] [] := ⟨h, rfl, fun i b e => by simp at e, fun b hb => by simp at hb⟩
theorem LLat.snoc {H : Hp} {a b : Addr} {as : List Addr} {g : List (List Nat)} {r : List Nat} (h : LLat H a as g) (hb : H b = some (.lst (nv r))) (ne : b ≠ a) :
    LLat (upd H a (.lst (as.map V.ref ++ [V.ref b]))) a (as ++ [b]) (g ++ [r]) := by
  refine ⟨?_, by simp [h.len], fun i c e => ?_, fun c hc => ?_⟩
  · rw [upd_same, List.map_append]; rfl
  · by_cases hi : i < as.length
    · rw [List.getElem?_append_left hi] at e
      have hc : c ≠ a := h.ne c (List.mem_of_getElem? e)
      rw [upd_ne hc, h.row i c e]
      have hg : i < g.length := by rw [← h.len]; exact hi
      unfold rowOf
      rw [List.getD_eq_getElem?_getD, List.getD_eq_getElem?_getD, List.getElem?_append_left hg]
    · have e2 : i = as.length := by
        have := List.getElem?_eq_some_iff.mp e
        obtain ⟨q, _⟩ := this
        rw [List.length_append] at q
        have : ([b] : List Addr).length = 1 := rfl
        omega
      subst e2
      rw [List.getElem?_append_right (Nat.le_refl _), Nat.sub_self] at e
      have e3 : b = c := Option.some.inj e
      subst e3
      rw [upd_ne ne, hb]
      unfold rowOf
      rw [h.len, List.getD_eq_getElem?_getD, List.getElem?_append_right (Nat.le_refl _), Nat.sub_self]; rfl
  · rcases List.mem_append.mp hc with q | q
    · exact h.ne c q
    · simp at q; subst q; exact ne
/-- x in a list of numbers -/
theorem flat_nv (l : List Nat) : (nv l).all flatV = true := by
  unfold nv
  rw [List.all_map, List.all_eq_true]
  intro x _
  rfl
theorem in_nv (n : Nat) (l : List Nat) : inV (vn n) (nv l) = l.contains n := by
  unfold inV nv
  rw [List.any_map, Bool.eq_iff_iff]
  simp only [List.any_eq_true, Function.comp, List.contains_eq_mem, decide_eq_true_eq]
  constructor
  · rintro ⟨x, hx, e⟩
    have e' : ((x : Int) == (n : Int)) = true := e
    rw [beq_iff_eq] at e'
    have : x = n := by omega
    exact this ▸ hx
  · intro h
    refine ⟨n, h, ?_⟩
    show ((n : Int) == (n : Int)) = true
    exact beq_self_eq_true _
theorem hu65 {k : Nat} {A : Around} (hr : Room k A) : A.units + 65 < cLine := by have := hr.un; omega
end SC
namespace SC
open PySem PySem.Spec PyProof.Rows L2
abbrev sLies : Stmt := top 32
theorem scLies : FnScope ["known", "others", "column"] ["known", "others"] (defScope sLies) := ⟨rfl, rfl, rfl, by decide +kernel, rfl, by decide +kernel, by decide +kernel⟩
def liesG (x y : List Nat) : Bool := !decide (x = y) && Md50.inside x y
def spLies : Sp := fun vs H Q _ => ∃ (a b : Addr) (x y : List Nat), vs = [.ref a, .ref b] ∧ H a = some (.lst (nv x)) ∧ H b = some (.lst (nv y)) ∧ x.length ≤ 1000 ∧
  ∀ H', Same H H' → Q (.bl (liesG x y)) H'
section
variable {P : Program} {w : World} {K : PySem.W.Frag} {mg : Str → Option Value} {base : Heap}
theorem ok_lies {f : Addr} {fd : FuncData} {k : Nat} (F : Fun K "lies_in" "lies_in" sLies f fd) (ma : mg "all" = none) : FnOk P w K mg base CX0 (k + 1) f fd ["known", "others"] spLies := by
  refine F.ok scLies (fun vs H Q E h => ?_) (fun cdv A outer s H vs Q E hr h => ?_)
  · obtain ⟨a, b, x, y, rfl, _⟩ := h
    rfl
  obtain ⟨a, b, x, y, rfl, ha, hb, hl, q⟩ := h
  refine ⟨_, pss_one (ps_ret (pe_and (pe_cmpR (op_neD hr.units) (pv 0) (pv 1) (nomark _)) (pe_one (pe_callB (cr_all rfl) (by rfl) ma (by decide +kernel) (pa_cons
    (pe_lc (own := [("column", 2)]) (g := gName 2) (tt := tYes) (te := tOp (rIn K false) (tVar 2) (tVar 1)) rfl scLies.nd (pi_list (pv 0)) (blkOk_by (own := [("column", 2)]) (N := ["known", "others", "column"]) (sc := defScope sLies) (by decide +kernel))
      (fun _ _ _ _ _ => pg_name (i := 2) scLies.nd rfl (Or.inl rfl)) (fun _ _ _ _ _ => pts_nil) (fun _ _ _ _ _ => pe_cmpR op_in_seq (pv 2) (pv 1) rfl)) pa_nil))))), ?_⟩
  refine ⟨_, rfl, _, rfl, dn x, dn y, dn_at ha, dn_at hb, dn_shaped x, dn_shaped y, _, rfl, ?_⟩
  rw [dn_eq]
  by_cases e : x = y
  · rw [decide_eq_true e]
    refine iteF ?_
    have := q H (Same.refl H)
    unfold liesG at this
    rw [decide_eq_true e] at this
    exact this
  · rw [decide_eq_false e]
    refine iteT ?_
    refine ⟨_, rfl, a, rfl, ⟨_, SqL.of ha⟩, fun D nD => ?_⟩
    refine lc_it (walk_list (xs := nv x)) (Lc H D (fun k => (x[k]?).bind fun n => some (V.bl (y.contains n)))) (lc_start nD) (fun i H1 _ h1 => h1.1.seq (SqL.of ha)) (fun i v H1 H2 hi h1 hy => ?_) (fun H1 h1 => ?_)
    · obtain ⟨rfl, hv⟩ := hy
      obtain ⟨n, hn, rfl⟩ := nv_get hv
      refine ⟨rfl, _, rfl, _, rfl, b, _, rfl, .inl (h1.1.seq (SqL.of hb)), rfl, flat_nv y, ?_⟩
      refine lc_yes nD h1 (Same.refl _) ?_ (by rw [nv_len] at hi; omega)
      rw [hn]
      show some (V.bl (y.contains n)) = some (V.bl (inV (vn n) (nv y)))
      rw [in_nv]
    · obtain ⟨s1, e1⟩ := h1
      rw [nv_len, outs_all] at e1
      have em : (x.filterMap fun n => some (V.bl (y.contains n))) = (x.map fun n => y.contains n).map V.bl := by
        rw [List.filterMap_eq_map', List.map_map]
        rfl
      rw [em] at e1
      refine ⟨D, _, rfl, SqL.of e1, ?_⟩
      have := q H1 s1
      unfold liesG at this
      rw [decide_eq_false e] at this
      have e2 : Md50.inside x y = (x.map fun n => y.contains n).all id := by
        rw [List.all_map]; rfl
      rw [e2] at this
      exact this
end
end SC
namespace SC
open PySem PySem.Spec PyProof.Rows L2
abbrev sWider : Stmt := top 33
abbrev nWider : List Str := ["searches", "wider", "known", "number", "others"]
theorem scWider : FnScope nWider ["searches"] (defScope sWider) := ⟨rfl, rfl, rfl, by decide +kernel, rfl, by decide +kernel, by decide +kernel⟩
def widerRow (ss : List (List Nat)) (x : List Nat) : List Nat := (List.range ss.length).filter fun j => liesG x (rowOf ss j)
def widerL (ss : List (List Nat)) : List (List Nat) := ss.map (widerRow ss)
def spWider : Sp := fun vs H Q _ => ∃ (a : Addr) (ss : List (List Nat)), vs = [.ref a] ∧ LL H a ss ∧ ss.length ≤ 1000 ∧ (∀ l ∈ ss, l.length ≤ 1000) ∧
  ∀ H' p, Same H H' → LL H' p (widerL ss) → Q (.ref p) H'
theorem rowOf_mem {g : List (List Nat)} {i : Nat} (h : i < g.length) : rowOf g i ∈ g := List.mem_of_getElem? (rowOf_get h)
theorem outs_range {p : Nat → Bool} {g : Nat → Nat} (n : Nat) : outs (fun i => if p i = true then some (vn (g i)) else none) n = nv (((List.range n).filter p).map g) := by
  unfold outs nv
  rw [List.map_map]
  induction List.range n with
  | nil => rfl
  | cons a r ih =>
    by_cases c : p a = true
    · rw [List.filter_cons_of_pos c, List.filterMap_cons]
      simp only [c, if_true]
      rw [List.map_cons, ih]; rfl
    · rw [List.filter_cons_of_neg c, List.filterMap_cons]
      simp only [c]
      exact ih
section
variable {P : Program} {w : World} {K : PySem.W.Frag} {mg : Str → Option Value} {base : Heap}
theorem ok_wider {f fL : Addr} {fd fdL : FuncData} {k : Nat} (F : Fun K "wider_searches" "wider_searches" sWider f fd) (GL : FnOk P w K mg base CX0 k fL fdL ["known", "others"] spLies) (bL : Binds K fdL ["known", "others"] [])
    (kL : PySem.W.keepIn K (.ref fL) = true) (mL : mg "lies_in" = some (.ref fL)) (me : mg "enumerate" = none) : FnOk P w K mg base CX0 (k + 1) f fd ["searches"] spWider := by
  refine F.ok scWider (fun vs H Q E h => ?_) (fun cdv A outer s H vs Q E hr h => ?_)
  · obtain ⟨a, ss, rfl, _⟩ := h
    rfl
  obtain ⟨a, ss, rfl, ⟨as, hA⟩, hl, hll, q⟩ := h
  refine ⟨_, pss_cons (ps_set (i := 1) scWider.nd rfl (.inl rfl) (pe_lst pa_nil))
    (pss_cons (ps_for PassesOwn.never rfl (pi_list (pv 0)) (pg_name (i := 2) scWider.nd rfl (Or.inr rfl))
      (pss_one (ps_expr (pe_bm PySem.F.plainAttrs_list PySem.F.slot_list_append PySem.F.type_list_append mt_append (pv 1) (pa_cons
        (pe_lc (own := [("number", 3), ("others", 4)]) (g := gTup K 2 (gCons (gName 3) (gCons (gName 4) gNil))) (tt := tB (tCall spLies [] E0 (tCons (tVar 2) (tCons (tVar 4) tNil)))) (te := tVar 3) rfl scWider.nd
          (pi_enum (by rfl) me (pa_cons (pv 0) pa_nil)) (blkOk_by (own := [("number", 3), ("others", 4)]) (N := nWider) (sc := defScope sWider) (by decide +kernel))
          (fun _ _ _ _ _ => pg_tup rfl (pgs_cons (pg_name (i := 3) scWider.nd rfl (Or.inl rfl)) (pgs_cons (pg_name (i := 4) scWider.nd rfl (Or.inl rfl)) pgs_nil)))
          (fun _ _ _ _ _ => pts_one (pt_val (pe_call GL hr (by rfl) mL kL bL .nil pass0 (pa_cons (pv 2) (pa_cons (pv 4) pa_nil)))))
          (fun _ _ _ _ _ => pv 3)) pa_nil)))))
    (pss_one (ps_ret (pv 1)))), ?_⟩
  refine ⟨Nat.zero_le _, fun o no => ?_⟩
  have s0 : Same H (upd H o (.lst [])) := same_new no _
  refine ⟨_, rfl, a, rfl, ⟨_, s0.seq (SqL.of hA.top)⟩, ?_⟩
  refine for_it (walk_list (xs := as.map V.ref)) (fun i σ H1 => ∃ v3, σ = [some (.ref a), some (.ref o), v3, none, none] ∧ Same H H1 ∧ LL H1 o ((widerL ss).take i)) ⟨none, rfl, s0, [], LLat.nil upd_same⟩ (fun i σ H1 _ ⟨_, _, s1, _⟩ => s1.seq (SqL.of hA.top)) ?_ ?_
  · rintro i v σ H1 H2 hi ⟨v3, rfl, s1, os, hO⟩ ⟨rfl, hv⟩
    obtain ⟨b, hb, rfl⟩ := refs_get hv
    have hil : i < ss.length := by rw [List.length_map, hA.len] at hi; exact hi
    have hbl := hA.row i b hb
    refine ⟨_, rfl, .inl ⟨rfl, _, SqL.of hO.top⟩, ?_⟩
    refine ⟨_, rfl, a, _, rfl, s1.seq (SqL.of hA.top), fun D nD => ?_⟩
    refine lc_it walk_enum (Lc H2 D (fun j => if liesG (rowOf ss i) (rowOf ss j) = true then some (vn j) else none)) (lc_start nD) (fun j H3 _ h3 => h3.1.seq (s1.seq (SqL.of hA.top))) ?_ ?_
    · rintro j u H3 H4 hj h3 ⟨T, x, y, rfl, nT, rfl, ex, ey⟩
      cases ex
      obtain ⟨c, hc, rfl⟩ := refs_get ey
      have hjl : j < ss.length := by rw [List.length_map, hA.len] at hj; exact hj
      have sT : Same H3 (upd H3 T (.tup [.int (j : Nat), .ref c])) := same_new nT _
      refine ⟨T, _, rfl, .inl (.inl upd_same), rfl, _, _, rfl, _, _, rfl, rfl, rfl, ?_⟩
      refine ⟨_, rfl, _, rfl, b, c, rowOf ss i, rowOf ss j, rfl, sT _ _ (h3.1 _ _ (s1 _ _ hbl)), sT _ _ (h3.1 _ _ (s1 _ _ (hA.row j c hc))), hll _ (rowOf_mem hil), fun H5 s5 => ⟨_, rfl, ?_⟩⟩
      by_cases e : liesG (rowOf ss i) (rowOf ss j) = true
      · rw [e]
        refine iteT ?_
        refine ⟨_, rfl, lc_yes nD h3 (sT.trans s5) (if_pos e) (by omega)⟩
      · rw [Bool.eq_false_iff.mpr e]
        exact iteF (lc_no h3 (sT.trans s5) (if_neg e))
    · rintro H3 ⟨s3, e3⟩
      rw [List.length_map, hA.len, outs_range (p := fun j => liesG (rowOf ss i) (rowOf ss j)) (g := fun j => j), List.map_id'] at e3
      have hO3 := hO.same s3
      have neD : D ≠ o := fun e => by rw [e, hO.top] at nD; cases nD
      have lt : os.length < sizeLine := by
        rw [hO.len, List.length_take]
        exact Nat.lt_of_le_of_lt (Nat.min_le_left _ _) (small1000 (by omega))
      refine ⟨o, _, _, rfl, rfl, hO3.top, by rw [List.length_map]; exact lt, some (.ref b), rfl, same_upd (s1.trans s3) no _, os ++ [D], ?_⟩
      have e4 : (widerL ss).take (i + 1) = (widerL ss).take i ++ [widerRow ss (rowOf ss i)] := by
        unfold widerL
        rw [List.take_add_one, List.getElem?_map, rowOf_get hil]
        rfl
      rw [e4]
      exact hO3.snoc e3 neD
  · rintro σ H1 ⟨v3, rfl, s1, hO⟩
    rw [List.length_map, hA.len] at hO
    refine ⟨_, rfl, q H1 o s1 ?_⟩
    have e : (widerL ss).take ss.length = widerL ss := by
      rw [show ss.length = (widerL ss).length from (List.length_map _).symm]
      exact List.take_length
    rw [e] at hO
    exact hO
end
end SC
namespace SC
open PySem PySem.Spec PyProof.Rows L2
open Md50 (Pairs partner paired)
/-! ### dicts -/
abbrev ky (n : Nat) : Key := Sum.inl (n : Int)
theorem ky_inj {a b : Nat} : ky a = ky b ↔ a = b := by
  constructor
  · intro h
    have : (a : Int) = (b : Int) := Sum.inl.inj h
    omega
  · rintro rfl; rfl
def Keep2 (p q : Addr) (H H' : Hp) : Prop := ∀ b o, H b = some o → b ≠ p → b ≠ q → H' b = some o
theorem Keep2.trans {p q : Addr} {H H1 H2 : Hp} (h1 : Keep2 p q H H1) (h2 : Keep2 p q H1 H2) : Keep2 p q H H2 := fun b o e n1 n2 => h2 b o (h1 b o e n1 n2) n1 n2
theorem Keep2.refl (p q : Addr) (H : Hp) : Keep2 p q H H := fun _ _ e _ _ => e
theorem Keep2.putL {p q : Addr} (H : Hp) (o : HO) : Keep2 p q H (upd H p o) := fun b u e n1 _ => by rw [upd_ne n1]; exact e
theorem Keep2.putR {p q : Addr} (H : Hp) (o : HO) : Keep2 p q H (upd H q o) := fun b u e _ n2 => by rw [upd_ne n2]; exact e
def isVis (kvs : List (Key × V)) (vis : List Nat) : Prop := ∀ j : Nat, (valV kvs (ky j)).isSome = vis.contains j
def isBef (kvs : List (Key × V)) (p : Pairs) : Prop := ∀ j : Nat, valV kvs (ky j) = (partner p j).map vn
def BefAt (H : Hp) (d : Addr) (p : Pairs) : Prop := ∃ kvs, H d = some (.dK kvs) ∧ isBef kvs p ∧ kvs.length = p.length
def VisAt (R : List Nat) (H : Hp) (d : Addr) (vis : List Nat) : Prop := ∃ kvs, H d = some (.dK kvs) ∧ isVis kvs vis ∧ kvs.length + unv R vis ≤ 1000
theorem LL.keep {H H' : Hp} {a p q : Addr} {g : List (List Nat)} {x y : List (Key × V)} (h : LL H a g) (k : Keep2 p q H H') (hp : H p = some (.dK x)) (hq : H q = some (.dK y)) : LL H' a g := by
  obtain ⟨as, h⟩ := h
  have n1 : ∀ {b : Addr} {l : List V}, H b = some (.lst l) → b ≠ p ∧ b ≠ q := fun e => ⟨ne_of e hp (by intro z; cases z), ne_of e hq (by intro z; cases z)⟩
  exact ⟨as, k _ _ h.top (n1 h.top).1 (n1 h.top).2, h.len, fun i b e => k _ _ (h.row i b e) (n1 (h.row i b e)).1 (n1 (h.row i b e)).2, h.ne⟩
theorem putK_len (kvs : List (Key × V)) (k : Key) (v : V) : (putK kvs k v).length = if (valV kvs k).isSome = true then kvs.length else kvs.length + 1 := by
  unfold putK
  rw [valV_any]
  split
  · rw [List.length_map]
  · rw [List.length_append]; rfl
theorem partner_paired (p : Pairs) (j i x : Nat) : partner (paired p j i) x = if x = j then some i else partner p x := by
  unfold paired partner
  by_cases h : x = j
  · subst h; simp [List.lookup]
  · rw [if_neg h]
    have ne : (x == j) = false := by simp [h]
    rw [List.lookup_cons, ne]
    show List.lookup x (p.filter fun y => y.1 != j) = List.lookup x p
    induction p with
    | nil => rfl
    | cons y r ih =>
      obtain ⟨a, b⟩ := y
      by_cases e : a = j
      · subst e
        rw [List.filter_cons_of_neg (by simp), ih, List.lookup_cons, ne]
      · rw [List.filter_cons_of_pos (by simp [e]), List.lookup_cons, List.lookup_cons, ih]
theorem BefAt.put {H : Hp} {d : Addr} {p : Pairs} {j i : Nat} {kvs : List (Key × V)} (e : isBef kvs p) (l : kvs.length = p.length) (kn : KN p) : BefAt (upd H d (.dK (putK kvs (ky j) (vn i)))) d (paired p j i) := by
  refine ⟨_, upd_same, fun x => ?_, ?_⟩
  · rw [valV_put, partner_paired]
    by_cases h : x = j
    · subst h; simp
    · rw [if_neg (fun z => h (ky_inj.mp z)), if_neg h]; exact e x
  · rw [putK_len, e j]
    cases q : partner p j with
    | none => rw [paired_length_new i (partner_none.mp q), l]; rfl
    | some k => rw [paired_length_old i kn (partner_some_key q), l]; rfl
theorem VisAt.put {R : List Nat} {H : Hp} {d : Addr} {vis : List Nat} {j : Nat} {kvs : List (Key × V)} {v : V} (e : isVis kvs vis) (l : kvs.length + unv R vis ≤ 1000) (hj : j ∈ R) (hv : ¬ vis.contains j = true) : VisAt R (upd H d (.dK (putK kvs (ky j) v))) d (j :: vis) := by
  refine ⟨_, upd_same, fun x => ?_, ?_⟩
  · rw [valV_put]
    by_cases h : x = j
    · subst h; simp
    · rw [if_neg (fun z => h (ky_inj.mp z)), e x]
      simp [h]
  · rw [putK_len, e j, if_neg hv]
    have := unv_lt hj hv
    omega
theorem fold_true {rec : Nat → List Nat × Pairs → Bool × List Nat × Pairs} {i : Nat} : ∀ (l : List Nat) (a : Bool × List Nat × Pairs), a.1 = true → l.foldl (look rec i) a = a
  | [], _, _ => rfl
  | j :: r, a, h => by
    have e : look rec i a j = a := by unfold look; rw [if_pos (Or.inl h)]
    rw [List.foldl_cons, e]
    exact fold_true r a h
theorem pairG_vals {g : Nat → List Nat} {L : Nat → Prop} {n i : Nat} {vis : List Nat} {q : Pairs} (hi : L i) (hq : Vals L q) : Vals L (pairG g n i (vis, q)).2.2 :=
  (pairG_aside (g := g) (g' := g) (D := []) (fun _ _ => rfl) (fun _ _ _ _ h => by simp [keys] at h) n i vis q hi hq).2
/-- a graph as the program has it -/
structure Gr (g : List (List Nat)) : Prop where
  few : g.length ≤ 20
  rows : ∀ i, ∀ j ∈ rowOf g i, j < g.length
  short : ∀ i, (rowOf g i).length ≤ 100
/-! ### give_next -/
abbrev sGive : Stmt := top 34
abbrev nGive : List Str := ["one", "wider", "before", "asked", "other"]
theorem scGive : FnScope nGive ["one", "wider", "before", "asked"] (defScope sGive) := ⟨rfl, rfl, rfl, by decide +kernel, rfl, by decide +kernel, by decide +kernel⟩
structure GiveAsk (n : Nat) (H : Hp) (one : Nat) (aw ab aa : Addr) (g : List (List Nat)) (vis : List Nat) (p : Pairs) : Prop where
  gr : Gr g
  ll : LL H aw g
  bef : BefAt H ab p
  vs : VisAt (List.range g.length) H aa vis
  kn : KN p
  few : p.length ≤ 500
  vals : Vals (fun i => i < g.length) p
  one : one < g.length
  ne : ab ≠ aa
  fuel : unv (List.range g.length) vis < n
def spGive (n : Nat) : Sp := fun vs H Q _ => ∃ (one : Nat) (aw ab aa : Addr) (g : List (List Nat)) (vis : List Nat) (p : Pairs), vs = [vn one, .ref aw, .ref ab, .ref aa] ∧ GiveAsk n H one aw ab aa g vis p ∧
  ∀ H', Keep2 ab aa H H' → BefAt H' ab (pairG (rowOf g) n one (vis, p)).2.2 → VisAt (List.range g.length) H' aa (pairG (rowOf g) n one (vis, p)).2.1 → Q (.bl (pairG (rowOf g) n one (vis, p)).1) H'
section
variable {P : Program} {w : World} {K : PySem.W.Frag} {mg : Str → Option Value} {base : Heap} {f : Addr} {fd : FuncData}
theorem give_none : FnOk P w K mg base CX0 0 f fd ["one", "wider", "before", "asked"] (spGive 0) := by
  have no : ∀ vs H Q E, ¬ spGive 0 vs H Q E := fun vs H Q E h => by
    obtain ⟨_, _, _, _, _, _, _, _, a, _⟩ := h
    exact absurd a.fuel (Nat.not_lt_zero _)
  exact ⟨fun vs H Q E h => absurd h (no vs H Q E), fun A outer s H args us vs Q E _ _ _ _ h => absurd h (no vs H Q E)⟩
theorem ok_give1 {n : Nat} (F : Fun K "give_next" "give_next" sGive f fd) (G : FnOk P w K mg base CX0 n f fd ["one", "wider", "before", "asked"] (spGive n)) (bG : Binds K fd ["one", "wider", "before", "asked"] [])
    (mG : mg "give_next" = some (.ref f)) : FnOk P w K mg base CX0 (n + 1) f fd ["one", "wider", "before", "asked"] (spGive (n + 1)) := by
  refine F.ok scGive (fun vs H Q E h => ?_) (fun cdv A outer s H vs Q E hr h => ?_)
  · obtain ⟨_, _, _, _, _, _, _, rfl, _⟩ := h
    rfl
  obtain ⟨one, aw, ab, aa, g, vis, p, rfl, I, q⟩ := h
  have hu := hu_of hr
  refine ⟨_, pss_cons (ps_for PassesOwn.never rfl (pi_list (pe_ix ix_list (pv 1) (pv 0) (fun _ _ => rfl))) (pg_name (i := 4) scGive.nd rfl (Or.inl rfl))
      (pss_one (ps_if (pt_cmp (pc_dnotin hu (pv 4) (pv 3)))
        (pss_cons (ps_dput hu (pv 3) (pv 4) pe_bl rfl)
        (pss_one (ps_if (PW.pt (pw_or (pt_cmp (pc_dnotin hu (pv 4) (pv 2))) (pw_or1 (pt_val (pe_call G hr (by rfl) mG F.kp bG .nil pass0 (pa_cons (pe_dget hu (pv 2) (pv 4) (fun _ _ => rfl)) (pa_cons (pv 1) (pa_cons (pv 2) (pa_cons (pv 3) pa_nil)))))))))
          (pss_cons (ps_dput hu (pv 2) (pv 4) (pv 0) rfl) (pss_one (ps_ret pe_bl))) pss_nil)))
        pss_nil)))
    (pss_one (ps_ret pe_bl)), ?_⟩
  obtain ⟨as, hW⟩ := I.ll
  obtain ⟨b, hb, hbr⟩ := hW.at I.one
  have gb : (as.map V.ref)[one]? = some (.ref b) := by rw [List.getElem?_map, hb]; rfl
  refine ⟨_, rfl, _, rfl, aw, _, _, _, rfl, rfl, SqL.of hW.top, atI_nat gb, b, rfl, ⟨_, SqL.of hbr⟩, ?_⟩
  obtain ⟨kb0, hb0, _, _⟩ := I.bef
  obtain ⟨ka0, ha0, _, _⟩ := I.vs
  have nbb : b ≠ ab := ne_of hbr hb0 (by intro z; cases z)
  have nba : b ≠ aa := ne_of hbr ha0 (by intro z; cases z)
  have good : ∀ k v, Good p (pairG (rowOf g) n k (v, p)) := fun k v => pairG_good (rowOf g) I.kn n k v
  have vis_le : ∀ l : List Nat, unv (List.range g.length) (l.foldl (look (pairG (rowOf g) n) one) (false, vis, p)).2.1 ≤ unv (List.range g.length) vis := fun l =>
    unv_mono (fold_vis (fun k st => pairG_vis (rowOf g) n k st) l (false, vis, p))
  have whole : ∀ i (a : Bool × List Nat × Pairs), ((rowOf g one).take i).foldl (look (pairG (rowOf g) n) one) (false, vis, p) = a → a.1 = true → pairG (rowOf g) (n + 1) one (vis, p) = a := by
    intro i a e t
    show (rowOf g one).foldl (look (pairG (rowOf g) n) one) (false, vis, p) = a
    rw [← List.take_append_drop i (rowOf g one), List.foldl_append, e]
    exact fold_true _ a t
  refine for_it (walk_list (xs := nv (rowOf g one))) (fun i σ H1 => ∃ v, σ = [some (vn one), some (.ref aw), some (.ref ab), some (.ref aa), v] ∧ Keep2 ab aa H H1 ∧ BefAt H1 ab p ∧
      ∃ vi, ((rowOf g one).take i).foldl (look (pairG (rowOf g) n) one) (false, vis, p) = (false, vi, p) ∧ VisAt (List.range g.length) H1 aa vi) ⟨none, rfl, Keep2.refl _ _ _, I.bef, vis, rfl, I.vs⟩
    (fun i σ H1 _ ⟨_, _, k1, _⟩ => SqL.of (k1 _ _ hbr nbb nba)) ?_ ?_
  · rintro i x σ H1 H2 hi ⟨v, rfl, k1, ⟨kb, hkb, eb, lb⟩, vi, ef, ⟨ka, hka, ea, la⟩⟩ ⟨rfl, hx⟩
    obtain ⟨j, hj, rfl⟩ := nv_get hx
    have hjr : j < g.length := I.gr.rows one j (List.mem_of_getElem? hj)
    have hjR : j ∈ List.range g.length := List.mem_range.mpr hjr
    have el : ((rowOf g one).take (i + 1)).foldl (look (pairG (rowOf g) n) one) (false, vis, p) = look (pairG (rowOf g) n) one (false, vi, p) j := by
      rw [List.take_add_one, hj, List.foldl_append, ef]; rfl
    have kal : ka.length < sizeLine := Nat.lt_of_le_of_lt (show ka.length ≤ 1000 by omega) (by decide)
    have kbl : kb.length < sizeLine := Nat.lt_of_le_of_lt (show kb.length ≤ 1000 by have := I.few; omega) (by decide)
    refine ⟨_, rfl, _, rfl, aa, _, rfl, DGet.k (k := ky j) hka, _, rfl, ?_⟩
    rw [ea j]
    by_cases c : vi.contains j = true
    · -- looked at already
      rw [c]
      refine iteF ⟨_, rfl, k1, ⟨kb, hkb, eb, lb⟩, vi, ?_, ⟨ka, hka, ea, la⟩⟩
      rw [el]
      unfold look
      rw [if_pos (Or.inr c)]
    · rw [Bool.eq_false_iff.mpr c]
      refine iteT ?_
      refine ⟨_, rfl, _, rfl, aa, _, rfl, DPut.k (k := ky j) hka kal, ?_⟩
      have hkb2 : (upd H2 aa (.dK (putK ka (ky j) (.bl true)))) ab = some (.dK kb) := by rw [upd_ne I.ne]; exact hkb
      have k2 : Keep2 ab aa H2 (upd H2 aa (.dK (putK ka (ky j) (.bl true)))) := Keep2.putR H2 _
      have V2 : VisAt (List.range g.length) (upd H2 aa (.dK (putK ka (ky j) (.bl true)))) aa (j :: vi) := VisAt.put ea la hjR c
      refine ⟨_, rfl, _, rfl, ab, _, rfl, DGet.k (k := ky j) hkb2, _, rfl, ?_⟩
      rw [eb j]
      have cl : ¬ ((false, vi, p) : Bool × List Nat × Pairs).1 = true ∧ ¬ ((false, vi, p) : Bool × List Nat × Pairs).2.1.contains j = true := ⟨by simp, c⟩
      cases ep : partner p j with
      | none =>
        refine iteT ?_
        refine iteT ?_
        refine ⟨_, rfl, _, rfl, _, rfl, ab, _, rfl, DPut.k (k := ky j) hkb2 kbl, ?_⟩
        have es : look (pairG (rowOf g) n) one (false, vi, p) j = (true, j :: vi, paired p j one) := by
          unfold look
          rw [if_neg (by rw [not_or]; exact cl)]
          show (match partner p j with
            | none => _
            | some k => _ : Bool × List Nat × Pairs) = _
          rw [ep]
        have ew := whole (i + 1) _ (el.trans es) rfl
        rw [ew] at q
        refine q _ (k1.trans (k2.trans (Keep2.putL _ _))) (BefAt.put eb lb I.kn) ?_
        obtain ⟨kx, hx1, hx2, hx3⟩ := V2
        exact ⟨kx, by rw [upd_ne I.ne.symm]; exact hx1, hx2, hx3⟩
      | some k =>
        refine iteF ?_
        have hkg : k < g.length := I.vals _ (partner_mem ep)
        have gk : DGet (upd H2 aa (.dK (putK ka (ky j) (.bl true)))) ab (vn j) (some (vn k)) := by
          have := DGet.k (k := ky j) hkb2
          rw [eb j, ep] at this
          exact this
        refine ⟨_, rfl, _, rfl, ab, _, rfl, gk, _, rfl, _, rfl, _, rfl, ?_⟩
        have LL2 : LL (upd H2 aa (.dK (putK ka (ky j) (.bl true)))) aw g := I.ll.keep (k1.trans k2) hb0 ha0
        have lt := unv_lt hjR c
        have le := vis_le ((rowOf g one).take i)
        rw [ef] at le
        have fu : unv (List.range g.length) (j :: vi) < n := by
          have := I.fuel
          have le' : unv (List.range g.length) vi ≤ unv (List.range g.length) vis := le
          omega
        refine ⟨k, aw, ab, aa, g, j :: vi, p, rfl, ⟨I.gr, LL2, ⟨kb, hkb2, eb, lb⟩, V2, I.kn, I.few, I.vals, hkg, I.ne, fu⟩, fun H3 k3 B3 V3 => ?_⟩
        have es : look (pairG (rowOf g) n) one (false, vi, p) j = if (pairG (rowOf g) n k (j :: vi, p)).1 = true then (true, (pairG (rowOf g) n k (j :: vi, p)).2.1, paired (pairG (rowOf g) n k (j :: vi, p)).2.2 j one) else pairG (rowOf g) n k (j :: vi, p) := by
          unfold look
          rw [if_neg (by rw [not_or]; exact cl)]
          show (match partner p j with
            | none => _
            | some k => _ : Bool × List Nat × Pairs) = _
          rw [ep]
        have gd := good k (j :: vi)
        refine ⟨_, rfl, ?_⟩
        cases eb3 : (pairG (rowOf g) n k (j :: vi, p)).1 with
        | true =>
          refine iteT ?_
          rw [if_pos eb3] at es
          have ew := whole (i + 1) _ (el.trans es) rfl
          rw [ew] at q
          obtain ⟨k3b, h3b, e3b, l3b⟩ := B3
          have l3 := gd.yes eb3
          refine ⟨_, rfl, _, rfl, _, rfl, ab, _, rfl, DPut.k (k := ky j) h3b (Nat.lt_of_le_of_lt (show k3b.length ≤ 1000 by have := I.few; omega) (by decide)), ?_⟩
          refine q _ (k1.trans (k2.trans (k3.trans (Keep2.putL _ _)))) (BefAt.put e3b l3b gd.kn) ?_
          obtain ⟨kx, hx1, hx2, hx3⟩ := V3
          exact ⟨kx, by rw [upd_ne I.ne.symm]; exact hx1, hx2, hx3⟩
        | false =>
          refine iteF ?_
          rw [if_neg (by rw [eb3]; simp)] at es
          have e3 := gd.no eb3
          rw [e3] at B3
          refine ⟨_, rfl, k1.trans (k2.trans k3), B3, (pairG (rowOf g) n k (j :: vi, p)).2.1, ?_, V3⟩
          rw [el, es]
          have : pairG (rowOf g) n k (j :: vi, p) = ((pairG (rowOf g) n k (j :: vi, p)).1, (pairG (rowOf g) n k (j :: vi, p)).2.1, (pairG (rowOf g) n k (j :: vi, p)).2.2) := rfl
          rw [this, eb3, e3]
  · rintro σ H1 ⟨v, rfl, k1, B1, vi, ef, V1⟩
    rw [nv_len, List.take_length] at ef
    have ew : pairG (rowOf g) (n + 1) one (vis, p) = (false, vi, p) := ef
    rw [ew] at q
    exact q H1 k1 B1 V1
theorem ok_give (F : Fun K "give_next" "give_next" sGive f fd) (bG : Binds K fd ["one", "wider", "before", "asked"] []) (mG : mg "give_next" = some (.ref f)) : ∀ n, FnOk P w K mg base CX0 n f fd ["one", "wider", "before", "asked"] (spGive n)
  | 0 => give_none
  | n + 1 => ok_give1 F (ok_give F bG mG n) bG mG
end
end SC
namespace SC
open PySem PySem.Spec PyProof.Rows L2
open Md50 (Pairs partner paired)
/-- a def as its callers need it -/
structure Df (P : Program) (w : World) (K : PySem.W.Frag) (mg : Str → Option Value) (base : Heap) (k : Nat) (x : Str) (ps : List Str) (sp : Sp) (f : Addr) (fd : FuncData) : Prop where
  ok : FnOk P w K mg base CX0 k f fd ps sp
  bi : Binds K fd ps []
  kp : PySem.W.keepIn K (.ref f) = true
  mg : mg x = some (.ref f)
/-! ### most_links -/
abbrev sMost : Stmt := top 35
abbrev nMost : List Str := ["wider", "before", "links", "one"]
theorem scMost : FnScope nMost ["wider"] (defScope sMost) := ⟨rfl, rfl, rfl, by decide +kernel, rfl, by decide +kernel, by decide +kernel⟩
def spMost : Sp := fun vs H Q _ => ∃ (aw : Addr) (g : List (List Nat)), vs = [.ref aw] ∧ LL H aw g ∧ Gr g ∧ ∀ H', Same H H' → Q (vn (mostG g)) H'
theorem LL.seq {K : PySem.W.Frag} {H : Hp} {a : Addr} {g : List (List Nat)} (h : LL H a g) : ∃ xs, SqL K H a xs ∧ xs.length = g.length := by
  obtain ⟨as, h⟩ := h
  exact ⟨_, SqL.of h.top, by rw [List.length_map, h.len]⟩
theorem mostG_eq {g : List (List Nat)} (G : Gr g) : mostG g = (fillG (rowOf g) 21 (List.range g.length) []).length := by
  unfold mostG
  rw [fill_fuel (R := List.range g.length) (fun i j hj => List.mem_range.mpr (G.rows i j hj)) (n := g.length + 1) (m := 21) (by simp) (by have := G.few; simp; omega)]
structure FillAt (g : List (List Nat)) (p : Pairs) (i : Nat) : Prop where
  kn : KN p
  few : p.length ≤ i
  vals : Vals (fun i => i < g.length) p
section
variable {P : Program} {w : World} {K : PySem.W.Frag} {mg : Str → Option Value} {base : Heap} {f : Addr} {fd : FuncData}
theorem ok_most {fG : Addr} {fdG : FuncData} (F : Fun K "most_links" "most_links" sMost f fd) (DG : Df P w K mg base 21 "give_next" ["one", "wider", "before", "asked"] (spGive 21) fG fdG) (mr : mg "range" = none) (ml : mg "len" = none) :
    FnOk P w K mg base CX0 22 f fd ["wider"] spMost := by
  refine F.ok scMost (fun vs H Q E h => ?_) (fun cdv A outer s H vs Q E hr h => ?_)
  · obtain ⟨_, _, rfl, _⟩ := h
    rfl
  obtain ⟨aw, g, rfl, hW, G, q⟩ := h
  refine ⟨_, pss_cons (ps_set (i := 1) scMost.nd rfl (.inl rfl) pe_dnewK)
    (pss_cons (ps_set (i := 2) scMost.nd rfl (.inl rfl) pe_int)
    (pss_cons (ps_for PassesOwn.never rfl (pi_range1 (by rfl) mr (pa_cons (pe_callB call_len_seq (by rfl) ml PySem.boot_len (pa_cons (pv 0) pa_nil)) pa_nil)) (pg_name (i := 3) scMost.nd rfl (Or.inl rfl))
      (pss_one (ps_if (pt_val (pe_call DG.ok hr (by rfl) DG.mg DG.kp DG.bi .nil pass0 (pa_cons (pv 3) (pa_cons (pv 0) (pa_cons (pv 1) (pa_cons pe_dnewK pa_nil))))))
        (pss_one (ps_set (i := 2) scMost.nd rfl (.inl rfl) (pe_op op_add (pv 2) pe_int))) pss_nil)))
    (pss_one (ps_ret (pv 2))))), ?_⟩
  intro ab nab
  have s0 : Same H (upd H ab (.dK [])) := same_new nab _
  obtain ⟨xs, hxs, hlen⟩ := (hW.same s0).seq (K := K)
  refine ⟨_, rfl, aw, xs, rfl, .inl hxs, _, rfl, by have := G.few; omega, by have := G.few; omega, ?_⟩
  have en : ((xs.length : Int)).toNat = g.length := by rw [hlen]; simp
  rw [en]
  refine for_range (lo := 0) (n := g.length) (fun i σ H1 => ∃ v, σ = [some (.ref aw), some (.ref ab), some (vn (fillG (rowOf g) 21 (List.range i) []).length), v] ∧ Same H H1 ∧
      BefAt H1 ab (fillG (rowOf g) 21 (List.range i) []) ∧ FillAt g (fillG (rowOf g) 21 (List.range i) []) i) ⟨none, rfl, s0, ⟨[], upd_same, fun j => rfl, rfl⟩, ⟨by simp [KN, keys, fillG], by simp [fillG], fun x h => by simp [fillG] at h⟩⟩ ?_ ?_
  · rintro i σ H1 hi ⟨v, rfl, s1, B1, W1⟩
    generalize ep : fillG (rowOf g) 21 (List.range i) [] = p at B1 W1 ⊢
    have es : fillG (rowOf g) 21 (List.range (i + 1)) [] = (pairG (rowOf g) 21 i ([], p)).2.2 := by rw [fill_range_succ, ep]
    refine ⟨_, rfl, _, rfl, _, rfl, fun aa naa => ?_⟩
    have sA : Same H1 (upd H1 aa (.dK [])) := same_new naa _
    obtain ⟨kb, hkb, eb, lb⟩ := B1
    have ne : ab ≠ aa := ne_of_none hkb naa
    have hu : unv (List.range g.length) [] ≤ g.length := by
      have := List.countP_le_length (p := fun x => !([] : List Nat).contains x) (l := List.range g.length)
      rw [List.length_range] at this
      exact this
    have few := G.few
    have w1 := W1.few
    refine ⟨i, aw, ab, aa, g, [], p, by simp [vn], ⟨G, hW.same (s1.trans sA), ⟨kb, sA _ _ hkb, eb, lb⟩, ⟨[], upd_same, fun j => rfl, by simp; omega⟩, W1.kn, by omega, W1.vals, hi, ne, by omega⟩, fun H2 k2 B2 V2 => ?_⟩
    have gd := pairG_good (rowOf g) W1.kn 21 i []
    have s2 : Same H H2 := fun b o e => by
      have n1 : b ≠ ab := ne_of_none e nab
      have n2 : b ≠ aa := ne_of_none (s1 b o e) naa
      exact k2 b o (sA b o (s1 b o e)) n1 n2
    have W2 : FillAt g (fillG (rowOf g) 21 (List.range (i + 1)) []) (i + 1) := by
      rw [es]
      refine ⟨gd.kn, ?_, pairG_vals hi W1.vals⟩
      cases e : (pairG (rowOf g) 21 i ([], p)).1 with
      | true => rw [gd.yes e]; omega
      | false => rw [gd.no e]; omega
    rw [← es] at B2
    refine ⟨_, rfl, ?_⟩
    cases e : (pairG (rowOf g) 21 i ([], p)).1 with
    | true =>
      refine iteT ⟨_, rfl, _, _, rfl, rfl, some (.int (0 + (i : Int))), ?_, s2, B2, W2⟩
      rw [es, gd.yes e]
      simp [vn, gName, List.set]
    | false =>
      refine iteF ⟨some (.int (0 + (i : Int))), ?_, s2, B2, W2⟩
      rw [es, gd.no e]
      simp [List.set]
  · rintro σ H1 ⟨v, rfl, s1, B1, W1⟩
    refine ⟨_, rfl, ?_⟩
    have := q H1 s1
    rw [mostG_eq G] at this
    exact this
end
end SC
namespace SC
open PySem PySem.Spec PyProof.Rows L2
open Md50 (Pairs partner paired)
/-! ### narrowed -/
abbrev sNar : Stmt := top 36
abbrev nNar : List Str := ["wider", "one", "kept", "narrower", "number", "others", "other"]
theorem scNar : FnScope nNar ["wider", "one", "kept"] (defScope sNar) := ⟨rfl, rfl, rfl, by decide +kernel, rfl, by decide +kernel, by decide +kernel⟩
def spNar : Sp := fun vs H Q _ => ∃ (aw ak : Addr) (one : Nat) (kept : List Nat) (g : List (List Nat)), vs = [.ref aw, vn one, .ref ak] ∧ LL H aw g ∧ H ak = some (.lst (nv kept)) ∧ g.length ≤ 1000 ∧ (∀ i, (rowOf g i).length ≤ 1000) ∧
  ∀ H' p, Same H H' → LL H' p (narrowedG g one kept) → Q (.ref p) H'
theorem outs_filter (l : List Nat) (p : Nat → Bool) : outs (fun k => (l[k]?).bind fun n => if p n = true then some (vn n) else none) l.length = nv (l.filter p) := by
  rw [outs_all]
  induction l with
  | nil => rfl
  | cons a r ih =>
    by_cases c : p a = true
    · rw [List.filter_cons_of_pos c, List.filterMap_cons]
      simp only [c, if_true]
      rw [ih]; rfl
    · rw [List.filter_cons_of_neg c, List.filterMap_cons]
      simp only [c]
      exact ih
theorem narrowed_take {g : List (List Nat)} {one i : Nat} {kept : List Nat} (hi : i < g.length) :
    (narrowedG g one kept).take (i + 1) = (narrowedG g one kept).take i ++ [if i = one then kept else (rowOf g i).filter fun x => !kept.contains x] := by
  unfold narrowedG
  rw [List.take_add_one, List.getElem?_map, List.getElem?_range hi]
  rfl
section
variable {P : Program} {w : World} {K : PySem.W.Frag} {mg : Str → Option Value} {base : Heap} {f : Addr} {fd : FuncData}
theorem ok_nar {k : Nat} (F : Fun K "narrowed" "narrowed" sNar f fd) (me : mg "enumerate" = none) : FnOk P w K mg base CX0 (k + 1) f fd ["wider", "one", "kept"] spNar := by
  refine F.ok scNar (fun vs H Q E h => ?_) (fun cdv A outer s H vs Q E hr h => ?_)
  · obtain ⟨_, _, _, _, _, rfl, _⟩ := h
    rfl
  obtain ⟨aw, ak, one, kept, g, rfl, ⟨as, hW⟩, hk, hl, hll, q⟩ := h
  refine ⟨_, pss_cons (ps_set (i := 3) scNar.nd rfl (.inl rfl) (pe_lst pa_nil))
    (pss_cons (ps_for PassesOwn.never rfl (pi_enum (by rfl) me (pa_cons (pv 0) pa_nil)) (pg_tup rfl (pgs_cons (pg_name (i := 4) scNar.nd rfl (Or.inl rfl)) (pgs_cons (pg_name (i := 5) scNar.nd rfl (Or.inl rfl)) pgs_nil)))
      (pss_one (ps_if (pt_cmpR op_eq (pv 4) (pv 1) (nomark _))
        (pss_one (ps_expr (pe_bm PySem.F.plainAttrs_list PySem.F.slot_list_append PySem.F.type_list_append mt_append (pv 3) (pa_cons (pv 2) pa_nil))))
        (pss_one (ps_expr (pe_bm PySem.F.plainAttrs_list PySem.F.slot_list_append PySem.F.type_list_append mt_append (pv 3) (pa_cons
          (pe_lc (own := [("other", 6)]) (g := gName 6) (tt := tTest (tOp (rIn K true) (tVar 6) (tVar 2))) (te := tVar 6) rfl scNar.nd (pi_list (pv 5)) (blkOk_by (own := [("other", 6)]) (N := nNar) (sc := defScope sNar) (by decide +kernel))
            (fun _ _ _ _ _ => pg_name (i := 6) scNar.nd rfl (Or.inl rfl)) (fun _ _ _ _ _ => pts_one (pt_cmpR op_notIn_seq (pv 6) (pv 2) rfl)) (fun _ _ _ _ _ => pv 6)) pa_nil)))))))
    (pss_one (ps_ret (pv 3)))), ?_⟩
  refine ⟨Nat.zero_le _, fun o no => ?_⟩
  have s0 : Same H (upd H o (.lst [])) := same_new no _
  refine ⟨_, rfl, aw, _, rfl, s0.seq (SqL.of hW.top), ?_⟩
  refine for_it walk_enum (fun i σ H1 => ∃ v4 v5, σ = [some (.ref aw), some (vn one), some (.ref ak), some (.ref o), v4, v5, none] ∧ Same H H1 ∧ LL H1 o ((narrowedG g one kept).take i)) ⟨none, none, rfl, s0, [], LLat.nil upd_same⟩ (fun i σ H1 _ ⟨_, _, _, s1, _⟩ => s1.seq (SqL.of hW.top)) ?_ ?_
  · rintro i v σ H1 H2 hi ⟨v4, v5, rfl, s1, os, hO⟩ ⟨T, x, y, rfl, nT, rfl, ex, ey⟩
    cases ex
    obtain ⟨b, hb, rfl⟩ := refs_get ey
    have hil : i < g.length := by rw [List.length_map, hW.len] at hi; exact hi
    have sT : Same H1 (upd H1 T (.tup [.int (i : Nat), .ref b])) := same_new nT _
    have hO2 := hO.same sT
    have hbl := sT _ _ (s1 _ _ (hW.row i b hb))
    have lt : (os.map V.ref).length < sizeLine := by
      rw [List.length_map, hO.len, List.length_take]
      exact Nat.lt_of_le_of_lt (Nat.min_le_left _ _) (small1000 (by omega))
    refine ⟨T, _, rfl, .inl (.inl upd_same), rfl, _, _, rfl, _, _, rfl, rfl, ?_⟩
    refine ⟨_, rfl, _, rfl, rfl, _, rfl, ?_⟩
    by_cases c : i = one
    · refine ite2 (fun _ => ?_) (fun z => absurd (decide_eq_true (by rw [c]; rfl)) z)
      refine ⟨_, rfl, .inl ⟨rfl, _, SqL.of hO2.top⟩, _, rfl, o, _, _, rfl, rfl, hO2.top, lt, some (.int (i : Nat)), some (.ref b), rfl, same_upd (s1.trans sT) no _, os ++ [ak], ?_⟩
      rw [narrowed_take hil, if_pos c]
      exact hO2.snoc (sT _ _ (s1 _ _ hk)) (ne_of_none hk no)
    · have cv : ¬ V.int (i : Nat) = vn one := fun e => c (by
        have : ((i : Nat) : Int) = (one : Int) := V.int.inj e
        omega)
      refine ite2 (fun z => absurd (of_decide_eq_true z) cv) (fun _ => ?_)
      refine ⟨_, rfl, .inl ⟨rfl, _, SqL.of hO2.top⟩, ?_⟩
      refine ⟨_, rfl, b, rfl, ⟨_, SqL.of hbl⟩, fun D nD => ?_⟩
      refine lc_it (walk_list (xs := nv (rowOf g i))) (Lc _ D (fun k => ((rowOf g i)[k]?).bind fun n => if (!kept.contains n) = true then some (vn n) else none)) (lc_start nD) (fun j H3 _ h3 => h3.1.seq (SqL.of hbl)) ?_ ?_
      · rintro j u H3 H4 hj h3 ⟨rfl, hu⟩
        obtain ⟨n, hn, rfl⟩ := nv_get hu
        refine ⟨rfl, _, rfl, _, rfl, ak, _, rfl, .inl (SqL.of (h3.1 _ _ (sT _ _ (s1 _ _ hk)))), rfl, flat_nv kept, _, rfl, ?_⟩
        have hj' : j < 5000 := by
          rw [nv_len] at hj
          have := hll i
          omega
        show if (!inV (vn n) (nv kept)) = true then _ else _
        rw [in_nv]
        by_cases e : (!kept.contains n) = true
        · rw [if_pos e]
          exact ⟨_, rfl, lc_yes nD h3 (Same.refl _) (by rw [hn]; exact if_pos e) hj'⟩
        · rw [if_neg e]
          exact lc_no h3 (Same.refl _) (by rw [hn]; exact if_neg e)
      · rintro H3 ⟨s3, e3⟩
        rw [nv_len, outs_filter] at e3
        have hO3 := hO2.same s3
        refine ⟨o, _, _, rfl, rfl, hO3.top, lt, some (.int (i : Nat)), some (.ref b), rfl, same_upd ((s1.trans sT).trans s3) no _, os ++ [D], ?_⟩
        rw [narrowed_take hil, if_neg c]
        exact hO3.snoc e3 (fun e => by rw [e, hO2.top] at nD; cases nD)
  · rintro σ H1 ⟨v4, v5, rfl, s1, hO⟩
    rw [List.length_map, hW.len] at hO
    refine ⟨_, rfl, q H1 o s1 ?_⟩
    have e : (narrowedG g one kept).take g.length = narrowedG g one kept := by
      rw [show g.length = (narrowedG g one kept).length from by simp [narrowedG]]
      exact List.take_length
    rw [e] at hO
    exact hO
end
/-! ### settled -/
abbrev sSet : Stmt := top 37
abbrev nSet : List Str := ["wider", "one", "most", "other", "narrower"]
theorem scSet : FnScope nSet ["wider", "one", "most"] (defScope sSet) := ⟨rfl, rfl, rfl, by decide +kernel, rfl, by decide +kernel, by decide +kernel⟩
def spSet : Sp := fun vs H Q _ => ∃ (aw : Addr) (one most : Nat) (g : List (List Nat)), vs = [.ref aw, vn one, vn most] ∧ LL H aw g ∧ Gr g ∧ one < g.length ∧
  ∀ H' p, Same H H' → LL H' p (settledG g one most) → Q (.ref p) H'
theorem rowOf_out {g : List (List Nat)} {i : Nat} (h : ¬ i < g.length) : rowOf g i = [] := by
  unfold rowOf
  rw [List.getD_eq_getElem?_getD, List.getElem?_eq_none (by omega)]; rfl
theorem Gr.narrowed {g : List (List Nat)} (G : Gr g) {one : Nat} {kept : List Nat} (hk : ∀ x ∈ kept, x < g.length) (hl : kept.length ≤ 100) : Gr (narrowedG g one kept) := by
  have el : (narrowedG g one kept).length = g.length := by simp [narrowedG]
  have rows : ∀ i, rowOf (narrowedG g one kept) i = [] ∨ rowOf (narrowedG g one kept) i = kept ∨ ∃ p : Nat → Bool, rowOf (narrowedG g one kept) i = (rowOf g i).filter p := by
    intro i
    by_cases h : i < g.length
    · rw [row_narrowed h]
      split
      · exact .inr (.inl rfl)
      · exact .inr (.inr ⟨_, rfl⟩)
    · exact .inl (rowOf_out (by rw [el]; exact h))
  refine ⟨by rw [el]; exact G.few, fun i j hj => ?_, fun i => ?_⟩
  · rw [el]
    rcases rows i with e | e | ⟨p, e⟩
    · rw [e] at hj; simp at hj
    · rw [e] at hj; exact hk j hj
    · rw [e] at hj; exact G.rows i j (List.mem_filter.mp hj).1
  · rcases rows i with e | e | ⟨p, e⟩
    · rw [e]; simp
    · rw [e]; exact hl
    · rw [e]; exact Nat.le_trans (List.length_filter_le _ _) (G.short i)
theorem Gr.one {g : List (List Nat)} (G : Gr g) {one i j : Nat} (hj : j ∈ rowOf g i) : Gr (narrowedG g one [j]) := G.narrowed (fun x hx => by simp at hx; subst hx; exact G.rows i x hj) (by simp)
theorem Gr.none {g : List (List Nat)} (G : Gr g) {one : Nat} : Gr (narrowedG g one []) := G.narrowed (fun x hx => by simp at hx) (by simp)
theorem Gr.settled {g : List (List Nat)} (G : Gr g) {one most : Nat} : Gr (settledG g one most) := by
  unfold settledG
  split
  · rename_i j e
    exact G.one (List.mem_of_find?_eq_some e)
  · exact G.none
theorem settled_len (g : List (List Nat)) (one most : Nat) : (settledG g one most).length = g.length := by
  unfold settledG
  split <;> simp [narrowedG]
section
variable {P : Program} {w : World} {K : PySem.W.Frag} {mg : Str → Option Value} {base : Heap} {f : Addr} {fd : FuncData}
theorem ok_set {fN fM : Addr} {fdN fdM : FuncData} (F : Fun K "settled" "settled" sSet f fd) (DN : Df P w K mg base 1 "narrowed" ["wider", "one", "kept"] spNar fN fdN) (DM : Df P w K mg base 22 "most_links" ["wider"] spMost fM fdM) :
    FnOk P w K mg base CX0 23 f fd ["wider", "one", "most"] spSet := by
  refine F.ok scSet (fun vs H Q E h => ?_) (fun cdv A outer s H vs Q E hr h => ?_)
  · obtain ⟨_, _, _, _, rfl, _⟩ := h
    rfl
  obtain ⟨aw, one, most, g, rfl, hW, G, ho, q⟩ := h
  have hr1 : Room 1 _ := hr.mono (by decide)
  refine ⟨_, pss_cons (ps_for PassesOwn.never rfl (pi_list (pe_ix ix_list (pv 0) (pv 1) (fun _ _ => rfl))) (pg_name (i := 3) scSet.nd rfl (Or.inl rfl))
      (pss_cons (ps_set (i := 4) scSet.nd rfl (.inl rfl) (pe_call DN.ok hr1 (by rfl) DN.mg DN.kp DN.bi .nil pass0 (pa_cons (pv 0) (pa_cons (pv 1) (pa_cons (pe_lst (pa_cons (pv 3) pa_nil)) pa_nil)))))
      (pss_one (ps_if (pt_cmpR op_eq (pe_call DM.ok hr (by rfl) DM.mg DM.kp DM.bi .nil pass0 (pa_cons (pv 4) pa_nil)) (pv 2) (nomark _)) (pss_one (ps_ret (pv 4))) pss_nil))))
    (pss_one (ps_ret (pe_call DN.ok hr1 (by rfl) DN.mg DN.kp DN.bi .nil pass0 (pa_cons (pv 0) (pa_cons (pv 1) (pa_cons (pe_lst pa_nil) pa_nil)))))), ?_⟩
  obtain ⟨as, hA⟩ := hW
  obtain ⟨b, hb, hbr⟩ := hA.at ho
  have gb : (as.map V.ref)[one]? = some (.ref b) := by rw [List.getElem?_map, hb]; rfl
  have few := G.few
  have short : ∀ i, (rowOf g i).length ≤ 1000 := fun i => Nat.le_trans (G.short i) (by decide)
  refine ⟨_, rfl, _, rfl, aw, _, _, _, rfl, rfl, SqL.of hA.top, atI_nat gb, b, rfl, ⟨_, SqL.of hbr⟩, ?_⟩
  refine for_it (walk_list (xs := nv (rowOf g one))) (fun i σ H1 => ∃ v3 v4, σ = [some (.ref aw), some (vn one), some (vn most), v3, v4] ∧ Same H H1 ∧ ((rowOf g one).take i).find? (fun j => mostG (narrowedG g one [j]) == most) = none)
    ⟨none, none, rfl, Same.refl _, rfl⟩ (fun i σ H1 _ ⟨_, _, _, s1, _⟩ => s1.seq (SqL.of hbr)) ?_ ?_
  · rintro i v σ H1 H2 hi ⟨v3, v4, rfl, s1, hf⟩ ⟨rfl, hv⟩
    obtain ⟨j, hj, rfl⟩ := nv_get hv
    have hjm := List.mem_of_getElem? hj
    refine ⟨_, rfl, _, rfl, _, rfl, (by show 1 ≤ sizeLine; decide), fun p np => ?_⟩
    have sp : Same H2 (upd H2 p (.lst [vn j])) := same_new np _
    refine ⟨aw, p, one, [j], g, rfl, (LL.same ⟨as, hA⟩ (s1.trans sp)), upd_same, by omega, short, fun H3 n s3 hN => ?_⟩
    refine ⟨_, rfl, n, _, rfl, hN, G.one hjm, fun H4 s4 => ?_⟩
    have s04 : Same H H4 := ((s1.trans sp).trans s3).trans s4
    refine ⟨_, rfl, rfl, _, rfl, ?_⟩
    by_cases c : mostG (narrowedG g one [j]) = most
    · refine ite2 (fun _ => ?_) (fun z => absurd (decide_eq_true (by rw [c])) z)
      refine ⟨_, rfl, q H4 n s04 ?_⟩
      have e : (rowOf g one).find? (fun j => mostG (narrowedG g one [j]) == most) = some j := by
        rw [← List.take_append_drop i (rowOf g one), List.find?_append, hf, List.drop_eq_getElem?_toList_append, hj]
        rw [Option.none_or]
        show (List.find? _ (j :: _)) = some j
        rw [List.find?_cons_of_pos (by simp [c])]
      unfold settledG
      rw [e]
      exact hN.same s4
    · have cv : ¬ vn (mostG (narrowedG g one [j])) = vn most := fun e => c (by
        have : ((mostG (narrowedG g one [j]) : Nat) : Int) = (most : Int) := V.int.inj e
        omega)
      refine ite2 (fun z => absurd (of_decide_eq_true z) cv) (fun _ => ?_)
      refine ⟨some (vn j), some (.ref n), rfl, s04, ?_⟩
      rw [List.take_add_one, List.find?_append, hf, hj]
      rw [Option.none_or]
      show List.find? _ [j] = none
      rw [List.find?_cons_of_neg (by simp [c])]
      rfl
  · rintro σ H1 ⟨v3, v4, rfl, s1, hf⟩
    rw [nv_len, List.take_length] at hf
    refine ⟨_, rfl, _, rfl, (by show 0 ≤ sizeLine; decide), fun p np => ?_⟩
    have sp : Same H1 (upd H1 p (.lst [])) := same_new np _
    refine ⟨aw, p, one, [], g, rfl, (LL.same ⟨as, hA⟩ (s1.trans sp)), upd_same, by omega, short, fun H3 n s3 hN => ?_⟩
    refine q H3 n ((s1.trans sp).trans s3) ?_
    unfold settledG
    rw [hf]
    exact hN
end
end SC
namespace SC
open PySem PySem.Spec PyProof.Rows L2
open Md50 (Pairs partner paired below numbers searchAt chosen)
theorem map_rows {α : Type} (g : List (List Nat)) (f : List Nat → α) : g.map f = (List.range g.length).map fun i => f (rowOf g i) := by
  refine List.ext_getElem? fun i => ?_
  rw [List.getElem?_map, List.getElem?_map]
  by_cases h : i < g.length
  · rw [rowOf_get h, List.getElem?_range h]; rfl
  · rw [List.getElem?_eq_none (by omega), List.getElem?_eq_none (by simp; omega)]; rfl
theorem lies_below {s : Md50.St} (O : Ok s) {i j : Nat} (hi : i < s.searches.length) (hj : j < s.searches.length) : liesG (searchAt s i) (searchAt s j) = below s i j := by
  unfold liesG below
  congr 1
  by_cases e : i = j
  · subst e; simp
  · have : ¬ searchAt s i = searchAt s j := fun q => e (searchAt_inj O hi hj q)
    rw [decide_eq_false this]
    simp [e]
theorem wider_eq {s : Md50.St} (O : Ok s) : widerL s.searches = widerG s := by
  unfold widerL widerG
  rw [map_rows]
  refine List.map_congr_left fun i hi => ?_
  have hi' := List.mem_range.mp hi
  unfold widerRow
  refine List.filter_congr fun j hj => ?_
  exact lies_below O hi' (List.mem_range.mp hj)
theorem Gr.wider {s : Md50.St} (O : Ok s) : Gr (widerG s) := by
  have el : (widerG s).length = s.searches.length := by simp [widerG, numbers]
  have ten := O.ten
  have rows : ∀ i, ∃ p : Nat → Bool, rowOf (widerG s) i = (numbers s).filter p := by
    intro i
    by_cases h : i < s.searches.length
    · exact ⟨_, rowOf_map h⟩
    · exact ⟨fun _ => false, by rw [rowOf_out (by rw [el]; exact h)]; simp⟩
  refine ⟨by omega, fun i j hj => ?_, fun i => ?_⟩
  · obtain ⟨p, e⟩ := rows i
    rw [e] at hj
    rw [el]
    exact List.mem_range.mp (List.mem_filter.mp hj).1
  · obtain ⟨p, e⟩ := rows i
    rw [e]
    refine Nat.le_trans (List.length_filter_le _ _) ?_
    simp [numbers]
    omega
theorem Ok.len7 {s : Md50.St} (O : Ok s) {l : List Nat} (h : l ∈ s.searches) : l.length ≤ 7 := by
  have := sub_len (asc_nodup (O.asc l h)) (r := List.range s.cols) fun x hx => List.mem_range.mpr (O.col l h x hx)
  rw [List.length_range] at this
  have := O.sev
  omega
/-! ### links_of -/
abbrev sLinks : Stmt := top 38
abbrev nLinks : List Str := ["searches", "links", "most", "one"]
theorem scLinks : FnScope nLinks ["searches"] (defScope sLinks) := ⟨rfl, rfl, rfl, by decide +kernel, rfl, by decide +kernel, by decide +kernel⟩
def spLinks : Sp := fun vs H Q _ => ∃ (a : Addr) (s : Md50.St), vs = [.ref a] ∧ LL H a s.searches ∧ Ok s ∧ ∀ H' p, Same H H' → LL H' p (linksG s) → Q (.ref p) H'
def linksTo (s : Md50.St) (i : Nat) : List (List Nat) := (List.range i).foldl (fun g one => settledG g one (mostG (widerG s))) (widerG s)
theorem linksTo_succ (s : Md50.St) (i : Nat) : linksTo s (i + 1) = settledG (linksTo s i) i (mostG (widerG s)) := by
  unfold linksTo
  rw [List.range_succ, List.foldl_append]; rfl
theorem linksTo_gr {s : Md50.St} (O : Ok s) : ∀ i, Gr (linksTo s i) ∧ (linksTo s i).length = s.searches.length
  | 0 => ⟨Gr.wider O, by simp [linksTo, widerG, numbers]⟩
  | i + 1 => by
    have ih := linksTo_gr O i
    rw [linksTo_succ]
    exact ⟨ih.1.settled, by rw [settled_len]; exact ih.2⟩
section
variable {P : Program} {w : World} {K : PySem.W.Frag} {mg : Str → Option Value} {base : Heap} {f : Addr} {fd : FuncData}
theorem ok_links {fW fM fS : Addr} {fdW fdM fdS : FuncData} (F : Fun K "links_of" "links_of" sLinks f fd) (DW : Df P w K mg base 2 "wider_searches" ["searches"] spWider fW fdW) (DM : Df P w K mg base 22 "most_links" ["wider"] spMost fM fdM)
    (DS : Df P w K mg base 23 "settled" ["wider", "one", "most"] spSet fS fdS) (mr : mg "range" = none) (ml : mg "len" = none) : FnOk P w K mg base CX0 24 f fd ["searches"] spLinks := by
  refine F.ok scLinks (fun vs H Q E h => ?_) (fun cdv A outer s H vs Q E hr h => ?_)
  · obtain ⟨_, _, rfl, _⟩ := h
    rfl
  obtain ⟨a, st, rfl, hA, O, q⟩ := h
  refine ⟨_, pss_cons (ps_set (i := 1) scLinks.nd rfl (.inl rfl) (pe_call DW.ok (hr.mono (by decide)) (by rfl) DW.mg DW.kp DW.bi .nil pass0 (pa_cons (pv 0) pa_nil)))
    (pss_cons (ps_set (i := 2) scLinks.nd rfl (.inl rfl) (pe_call DM.ok (hr.mono (by decide)) (by rfl) DM.mg DM.kp DM.bi .nil pass0 (pa_cons (pv 1) pa_nil)))
    (pss_cons (ps_for PassesOwn.never rfl (pi_range1 (by rfl) mr (pa_cons (pe_callB call_len_seq (by rfl) ml PySem.boot_len (pa_cons (pv 0) pa_nil)) pa_nil)) (pg_name (i := 3) scLinks.nd rfl (Or.inl rfl))
      (pss_one (ps_set (i := 1) scLinks.nd rfl (.inl rfl) (pe_call DS.ok hr (by rfl) DS.mg DS.kp DS.bi .nil pass0 (pa_cons (pv 1) (pa_cons (pv 3) (pa_cons (pv 2) pa_nil)))))))
    (pss_one (ps_ret (pv 1))))), ?_⟩
  have ten := O.ten
  refine ⟨_, rfl, a, st.searches, rfl, hA, by omega, fun l hl => Nat.le_trans (O.len7 hl) (by decide), fun H1 p1 s1 L1 => ?_⟩
  rw [wider_eq O] at L1
  refine ⟨_, rfl, p1, _, rfl, L1, Gr.wider O, fun H2 s2 => ?_⟩
  obtain ⟨xs, hxs, hlen⟩ := (hA.same (s1.trans s2)).seq (K := K)
  refine ⟨_, rfl, a, xs, rfl, .inl hxs, _, rfl, by omega, by omega, ?_⟩
  have en : ((xs.length : Int)).toNat = st.searches.length := by rw [hlen]; simp
  rw [en]
  refine for_range (lo := 0) (n := st.searches.length) (fun i σ H3 => ∃ v p, σ = [some (.ref a), some (.ref p), some (vn (mostG (widerG st))), v] ∧ Same H H3 ∧ LL H3 p (linksTo st i)) ⟨none, p1, rfl, s1.trans s2, L1.same s2⟩ ?_ ?_
  · rintro i σ H3 hi ⟨v, p, rfl, s3, L3⟩
    have G := linksTo_gr O i
    refine ⟨_, rfl, _, rfl, _, rfl, p, i, mostG (widerG st), linksTo st i, by simp [vn], L3, G.1, by rw [G.2]; exact hi, fun H4 p4 s4 L4 => ?_⟩
    refine ⟨some (.int (0 + (i : Int))), p4, rfl, s3.trans s4, ?_⟩
    rw [linksTo_succ]
    exact L4
  · rintro σ H3 ⟨v, p, rfl, s3, L3⟩
    exact ⟨_, rfl, q H3 p s3 L3⟩
end
/-! ### chain_from -/
abbrev sChain : Stmt := top 39
abbrev nChain : List Str := ["first", "links", "chain", "following"]
theorem scChain : FnScope nChain ["first", "links"] (defScope sChain) := ⟨rfl, rfl, rfl, by decide +kernel, rfl, by decide +kernel, by decide +kernel⟩
def spChain : Sp := fun vs H Q _ => ∃ (first : Nat) (al : Addr) (s : Md50.St), vs = [vn first, .ref al] ∧ LL H al (linksG s) ∧ Ok s ∧ first < s.searches.length ∧ ∀ H' p, Same H H' → H p = none → H' p = some (.lst (nv (chainOf s first))) → Q (.ref p) H'
/-- a chain has at most as many as there are -/
theorem chain_len {s : Md50.St} (O : Ok s) : ∀ (n : Nat) (f : Nat), f < s.searches.length → cnt s f < n → (chainOf s f).length ≤ n
  | 0, _, _, h => absurd h (Nat.not_lt_zero _)
  | n + 1, f, hf, h => by
    rw [chainOf_eq O hf]
    cases q : (chosen s).lookup f with
    | none => rw [behind_none q]; simp
    | some j =>
      have hj := (chosen_mem (chosen_lookup.mp q)).2.1
      have lt := cnt_lt O q
      have eb : behind s f = chainOf s j := by unfold behind; rw [q]
      rw [eb, List.length_cons]
      have := chain_len O n j hj (by omega)
      omega
theorem chain_short {s : Md50.St} (O : Ok s) {f : Nat} (h : f < s.searches.length) : (chainOf s f).length ≤ 10 := by
  have := chain_len O _ f h (cnt_bound h)
  have := O.ten
  omega
def lenAt (a : Addr) (H : Hp) : Nat := match H a with
  | some (.lst l) => l.length
  | _ => 0
theorem lenAt_eq {a : Addr} {H : Hp} {l : List V} (h : H a = some (.lst l)) : lenAt a H = l.length := by unfold lenAt; rw [h]
section
variable {P : Program} {w : World} {K : PySem.W.Frag} {mg : Str → Option Value} {base : Heap} {f : Addr} {fd : FuncData}
theorem ok_chain {k : Nat} (F : Fun K "chain_from" "chain_from" sChain f fd) : FnOk P w K mg base CX0 (k + 1) f fd ["first", "links"] spChain := by
  refine F.ok scChain (fun vs H Q E h => ?_) (fun cdv A outer s H vs Q E hr h => ?_)
  · obtain ⟨_, _, _, rfl, _⟩ := h
    rfl
  obtain ⟨first, al, st, rfl, ⟨as, hL⟩, O, hf, q⟩ := h
  refine ⟨_, pss_cons (ps_set (i := 2) scChain.nd rfl (.inl rfl) (pe_lst (pa_cons (pv 0) pa_nil)))
    (pss_cons (ps_set (i := 3) scChain.nd rfl (.inl rfl) (pe_ix ix_list (pv 1) (pv 0) (fun _ _ => rfl)))
    (pss_cons (ps_while PassesOwn.never (pt_truth (pv 3) (by intro _; rfl))
      (pss_cons (ps_expr (pe_bm PySem.F.plainAttrs_list PySem.F.slot_list_append PySem.F.type_list_append mt_append (pv 2) (pa_cons (pe_ix ix_list (pv 3) pe_int (fun _ _ => rfl)) pa_nil)))
      (pss_one (ps_set (i := 3) scChain.nd rfl (.inl rfl) (pe_ix ix_list (pv 1) (pe_ix ix_list (pv 3) pe_int (fun _ _ => rfl)) (fun _ _ => rfl))))))
    (pss_one (ps_ret (pv 2))))), ?_⟩
  have at_ : ∀ i, i < st.searches.length → ∃ b, (as.map V.ref)[i]? = some (.ref b) ∧ H b = some (.lst (nv (rowOf (linksG st) i))) := by
    intro i hi
    obtain ⟨b, hb, hbr⟩ := hL.at (i := i) (by rw [links_len]; exact hi)
    exact ⟨b, by rw [List.getElem?_map, hb]; rfl, hbr⟩
  refine ⟨_, rfl, (by show 1 ≤ sizeLine; decide), fun ac nc => ?_⟩
  have s0 : Same H (upd H ac (.lst [vn first])) := same_new nc _
  obtain ⟨b0, gb0, hb0⟩ := at_ first hf
  refine ⟨_, rfl, _, rfl, al, _, _, _, rfl, rfl, s0.seq (SqL.of hL.top), atI_nat gb0, ?_⟩
  have short := chain_short O hf
  show tWhile (fun σ H Q => tVar 3 σ H fun x H' => ∃ k, TruV K x H' k ∧ Q k H') _ _ [some (vn first), some (.ref al), some (.ref ac), some (.ref b0)] _
  refine while_by (fun σ H1 => ∃ cur b pre, σ = [some (vn first), some (.ref al), some (.ref ac), some (.ref b)] ∧ Same H H1 ∧ H1 ac = some (.lst (nv pre)) ∧ H b = some (.lst (nv (rowOf (linksG st) cur))) ∧ cur < st.searches.length ∧ chainOf st first = pre ++ behind st cur)
    (fun _ H1 => (chainOf st first).length - lenAt ac H1) ⟨first, b0, [first], rfl, s0, upd_same, hb0, hf, chainOf_eq O hf⟩ ?_ (fun σ H Q Q' h ⟨v, hv, k, ht, z⟩ => ⟨v, hv, k, ht, h _ _ z⟩)
  rintro σ H1 ⟨cur, b, pre, rfl, s1, hc, hb0, hcur, ech⟩
  have hb := s1 _ _ hb0
  refine ⟨_, rfl, _, .inl ⟨_, SqL.of hb, rfl⟩, ?_⟩
  rw [links_row st hcur] at hb
  cases el : (chosen st).lookup cur with
  | none =>
    rw [links_row st hcur, el]
    refine iteF ?_
    refine ⟨_, rfl, q H1 ac s1 nc ?_⟩
    rw [ech, behind_none el, List.append_nil]
    exact hc
  | some j =>
    rw [el] at hb
    rw [links_row st hcur, el]
    refine iteT ?_
    have hj : j < st.searches.length := (chosen_mem (chosen_lookup.mp el)).2.1
    have e2 := behind_some O el
    have lt : pre.length + 1 ≤ (chainOf st first).length := by rw [ech, e2]; simp
    have i0 : atI (nv [j]) 0 = some (vn j) := atI_nat (j := 0) rfl
    have nb : b ≠ ac := ne_of_none hb0 nc
    obtain ⟨bj, gbj, hbj⟩ := at_ j hj
    have s2 : Same H (upd H1 ac (.lst (nv pre ++ [vn j]))) := same_upd s1 nc _
    refine ⟨_, rfl, .inl ⟨rfl, _, SqL.of hc⟩, _, rfl, b, _, _, _, rfl, rfl, SqL.of hb, i0, ac, _, _, rfl, rfl, hc, ?_, ?_⟩
    · rw [nv_len]
      exact small1000 (by omega)
    · refine ⟨_, rfl, _, rfl, b, _, _, _, rfl, rfl, SqL.of (by rw [upd_ne nb]; exact hb), i0, al, _, _, _, rfl, rfl, s2.seq (SqL.of hL.top), atI_nat gbj, ?_⟩
      have e3 : nv pre ++ [vn j] = nv (pre ++ [j]) := by unfold nv; rw [List.map_append]; rfl
      refine ⟨⟨j, bj, pre ++ [j], rfl, s2, by rw [upd_same, e3], hbj, hj, by rw [ech, e2, List.append_assoc]; rfl⟩, ?_⟩
      rw [lenAt_eq hc, lenAt_eq (upd_same), e3, nv_len, nv_len, List.length_append]
      show (chainOf st first).length - (pre.length + 1) < (chainOf st first).length - pre.length
      omega
end
end SC
namespace SC
open PySem PySem.Spec PyProof.Rows L2
open Md50 (Pairs partner paired below numbers searchAt chosen)
/-! ### chains_of -/
abbrev sChains : Stmt := top 40
abbrev nChains : List Str := ["searches", "links", "chains", "one"]
theorem scChains : FnScope nChains ["searches"] (defScope sChains) := ⟨rfl, rfl, rfl, by decide +kernel, rfl, by decide +kernel, by decide +kernel⟩
def spChains : Sp := fun vs H Q _ => ∃ (a : Addr) (s : Md50.St), vs = [.ref a] ∧ LL H a s.searches ∧ Ok s ∧ ∀ H' p, Same H H' → LL H' p (Md50.chains s) → Q (.ref p) H'
def chainsTo (s : Md50.St) (i : Nat) : List (List Nat) := ((List.range i).filter fun i => !(linksG s).contains [i]).map (chainOf s)
theorem chainsTo_succ (s : Md50.St) (i : Nat) : chainsTo s (i + 1) = chainsTo s i ++ if (!(linksG s).contains [i]) = true then [chainOf s i] else [] := by
  unfold chainsTo
  rw [List.range_succ, List.filter_append, List.map_append]
  congr 1
  by_cases c : (!(linksG s).contains [i]) = true
  · rw [if_pos c, List.filter_cons_of_pos (p := fun i => !(linksG s).contains [i]) c]; rfl
  · rw [if_neg c, List.filter_cons_of_neg (p := fun i => !(linksG s).contains [i]) c]; rfl
theorem chainsTo_len (s : Md50.St) (i : Nat) : (chainsTo s i).length ≤ i := by
  unfold chainsTo
  rw [List.length_map]
  have := List.length_filter_le (fun i => !(linksG s).contains [i]) (List.range i)
  rwa [List.length_range] at this
theorem chainsTo_all (s : Md50.St) : chainsTo s s.searches.length = Md50.chains s := by rw [chains_eq]; rfl
section
variable {P : Program} {w : World} {K : PySem.W.Frag} {mg : Str → Option Value} {base : Heap} {f : Addr} {fd : FuncData}
theorem ok_chains {fL fC : Addr} {fdL fdC : FuncData} (F : Fun K "chains_of" "chains_of" sChains f fd) (DL : Df P w K mg base 24 "links_of" ["searches"] spLinks fL fdL) (DC : Df P w K mg base 1 "chain_from" ["first", "links"] spChain fC fdC)
    (mr : mg "range" = none) (ml : mg "len" = none) : FnOk P w K mg base CX0 25 f fd ["searches"] spChains := by
  refine F.ok scChains (fun vs H Q E h => ?_) (fun cdv A outer s H vs Q E hr h => ?_)
  · obtain ⟨_, _, rfl, _⟩ := h
    rfl
  obtain ⟨a, st, rfl, hA, O, q⟩ := h
  refine ⟨_, pss_cons (ps_set (i := 1) scChains.nd rfl (.inl rfl) (pe_call DL.ok hr (by rfl) DL.mg DL.kp DL.bi .nil pass0 (pa_cons (pv 0) pa_nil)))
    (pss_cons (ps_set (i := 2) scChains.nd rfl (.inl rfl) (pe_lst pa_nil))
    (pss_cons (ps_for PassesOwn.never rfl (pi_range1 (by rfl) mr (pa_cons (pe_callB call_len_seq (by rfl) ml PySem.boot_len (pa_cons (pv 0) pa_nil)) pa_nil)) (pg_name (i := 3) scChains.nd rfl (Or.inl rfl))
      (pss_one (ps_if (pt_cmpR (op_notInD (hu65 hr)) (pe_lst (pa_cons (pv 3) pa_nil)) (pv 1) rfl)
        (pss_one (ps_expr (pe_bm PySem.F.plainAttrs_list PySem.F.slot_list_append PySem.F.type_list_append mt_append (pv 2) (pa_cons (pe_call DC.ok (hr.mono (by decide)) (by rfl) DC.mg DC.kp DC.bi .nil pass0 (pa_cons (pv 3) (pa_cons (pv 1) pa_nil))) pa_nil)))) pss_nil)))
    (pss_one (ps_ret (pv 2))))), ?_⟩
  have ten := O.ten
  refine ⟨_, rfl, a, st, rfl, hA, O, fun H1 al s1 L1 => ?_⟩
  refine ⟨Nat.zero_le _, fun o no => ?_⟩
  have s2 : Same H1 (upd H1 o (.lst [])) := same_new no _
  obtain ⟨xs, hxs, hlen⟩ := (hA.same (s1.trans s2)).seq (K := K)
  refine ⟨_, rfl, a, xs, rfl, .inl hxs, _, rfl, by omega, by omega, ?_⟩
  have en : ((xs.length : Int)).toNat = st.searches.length := by rw [hlen]; simp
  rw [en]
  refine for_range (lo := 0) (n := st.searches.length) (fun i σ H3 => ∃ v, σ = [some (.ref a), some (.ref al), some (.ref o), v] ∧ Same H1 H3 ∧ LL H3 o (chainsTo st i)) ⟨none, rfl, s2, [], LLat.nil upd_same⟩ ?_ ?_
  · rintro i σ H3 hi ⟨v, rfl, s3, os, hO⟩
    refine ⟨_, rfl, (by show 1 ≤ sizeLine; decide), fun p np => ?_⟩
    have sp : Same H3 (upd H3 p (.lst [.int (0 + (i : Int))])) := same_new np _
    have ep : (upd H3 p (.lst [.int (0 + (i : Int))])) p = some (.lst (nv [i])) := by rw [upd_same]; simp [nv, vn]
    have L3 := L1.same (s3.trans sp)
    refine ⟨_, rfl, dn [i], _, dn_at ep, L3.dp, dn_shaped _, dns_shaped _, _, rfl, ?_⟩
    rw [dns_any]
    have hO3 := hO.same sp
    by_cases c : (!(linksG st).contains [i]) = true
    · rw [c]
      refine iteT ?_
      have lt : (os.map V.ref).length < sizeLine := by
        rw [List.length_map, hO.len]
        have := chainsTo_len st i
        exact small1000 (by omega)
      refine ⟨_, rfl, .inl ⟨rfl, _, SqL.of hO3.top⟩, _, rfl, _, rfl, i, al, st, by simp [vn], L3, O, hi, fun H4 pc s4 npc hpc => ?_⟩
      have hO4 := hO3.same s4
      refine ⟨o, _, _, rfl, rfl, hO4.top, lt, some (.int (0 + (i : Int))), rfl, same_upd ((s3.trans sp).trans s4) no _, os ++ [pc], ?_⟩
      rw [chainsTo_succ, if_pos c]
      exact hO4.snoc hpc (fun e => by rw [e, hO3.top] at npc; cases npc)
    · rw [Bool.eq_false_iff.mpr c]
      refine iteF ?_
      refine ⟨some (.int (0 + (i : Int))), rfl, s3.trans sp, os, ?_⟩
      rw [chainsTo_succ, if_neg c, List.append_nil]
      exact hO3
  · rintro σ H3 ⟨v, rfl, s3, hO⟩
    rw [chainsTo_all] at hO
    exact ⟨_, rfl, q H3 o (s1.trans s3) hO⟩
end
/-! ### order_of -/
abbrev sOrd : Stmt := top 42
abbrev nOrd : List Str := ["chain", "searches", "columns", "order", "one", "column"]
theorem scOrd : FnScope nOrd ["chain", "searches", "columns"] (defScope sOrd) := ⟨rfl, rfl, rfl, by decide +kernel, rfl, by decide +kernel, by decide +kernel⟩
def spOrd : Sp := fun vs H Q _ => ∃ (ac a : Addr) (l : List Nat) (s : Md50.St), vs = [.ref ac, .ref a, vn s.cols] ∧ H ac = some (.lst (nv l)) ∧ LL H a s.searches ∧ Ok s ∧ (∀ i ∈ l, i < s.searches.length) ∧ l.length ≤ 20 ∧
  ∀ H' p, Same H H' → H p = none → H' p = some (.lst (nv (Md50.orderOf s l))) → Q (.ref p) H'
theorem add_len {s : Md50.St} (O : Ok s) {o : List Nat} {i : Nat} (hi : i < s.searches.length) : (addCols s o i).length ≤ o.length + 7 := by
  unfold addCols
  rw [List.length_append]
  have := List.length_filter_le (fun x => !o.contains x) (searchAt s i)
  have := O.len7 (searchAt_mem hi)
  omega
theorem fold_len {s : Md50.St} (O : Ok s) : ∀ (l : List Nat) (o : List Nat), (∀ i ∈ l, i < s.searches.length) → (l.foldl (addCols s) o).length ≤ o.length + 7 * l.length
  | [], _, _ => by simp
  | i :: r, o, h => by
    rw [List.foldl_cons, List.length_cons]
    have h1 := add_len O (o := o) (h i List.mem_cons_self)
    have h2 := fold_len O r (addCols s o i) fun x hx => h x (List.mem_cons_of_mem _ hx)
    omega
theorem nv_append (x y : List Nat) : nv x ++ nv y = nv (x ++ y) := by unfold nv; rw [List.map_append]
section
variable {P : Program} {w : World} {K : PySem.W.Frag} {mg : Str → Option Value} {base : Heap} {f : Addr} {fd : FuncData}
theorem ok_ord {k : Nat} (F : Fun K "order_of" "order_of" sOrd f fd) (mr : mg "range" = none) : FnOk P w K mg base CX0 (k + 1) f fd ["chain", "searches", "columns"] spOrd := by
  refine F.ok scOrd (fun vs H Q E h => ?_) (fun cdv A outer s H vs Q E hr h => ?_)
  · obtain ⟨_, _, _, _, rfl, _⟩ := h
    rfl
  obtain ⟨ac, a, l, st, rfl, hc, ⟨as, hA⟩, O, hl, hl20, q⟩ := h
  refine ⟨_, pss_cons (ps_set (i := 3) scOrd.nd rfl (.inr rfl) (pe_lst pa_nil))
    (pss_cons (ps_for PassesOwn.never rfl (pi_list (pv 0)) (pg_name (i := 4) scOrd.nd rfl (Or.inl rfl))
      (pss_one (ps_set (i := 3) scOrd.nd rfl (.inr rfl) (pe_op op_cat (pv 3)
        (pe_lc (own := [("column", 5)]) (g := gName 5) (tt := tTest (tOp (rIn K true) (tVar 5) (tVar 3))) (te := tVar 5) rfl scOrd.nd (pi_list (pe_ix ix_list (pv 1) (pv 4) (fun _ _ => rfl))) (blkOk_by (own := [("column", 5)]) (N := nOrd) (sc := defScope sOrd) (by decide +kernel))
            (fun _ _ _ _ _ => pg_name (i := 5) scOrd.nd rfl (Or.inl rfl)) (fun _ _ _ _ _ => pts_one (pt_cmpR op_notIn_seq (pv 5) (pv 3) rfl)) (fun _ _ _ _ _ => pv 5))))))
    (pss_one (ps_ret (pe_op op_cat (pv 3)
        (pe_lc (own := [("column", 5)]) (g := gName 5) (tt := tTest (tOp (rIn K true) (tVar 5) (tVar 3))) (te := tVar 5) rfl scOrd.nd (pi_range1 (by rfl) mr (pa_cons (pv 2) pa_nil)) (blkOk_by (own := [("column", 5)]) (N := nOrd) (sc := defScope sOrd) (by decide +kernel))
            (fun _ _ _ _ _ => pg_name (i := 5) scOrd.nd rfl (Or.inl rfl)) (fun _ _ _ _ _ => pts_one (pt_cmpR op_notIn_seq (pv 5) (pv 3) rfl)) (fun _ _ _ _ _ => pv 5)))))), ?_⟩
  refine ⟨Nat.zero_le _, fun o0 no0 => ?_⟩
  have s0 : Same H (upd H o0 (.lst [])) := same_new no0 _
  refine ⟨_, rfl, ac, rfl, ⟨_, s0.seq (SqL.of hc)⟩, ?_⟩
  refine for_it (walk_list (xs := nv l)) (fun i σ H1 => ∃ o v, σ = [some (.ref ac), some (.ref a), some (vn st.cols), some (.ref o), v, none] ∧ Same H H1 ∧ H1 o = some (.lst (nv ((l.take i).foldl (addCols st) [])))) ⟨o0, none, rfl, s0, upd_same⟩ (fun i σ H1 _ ⟨_, _, _, s1, _⟩ => s1.seq (SqL.of hc)) ?_ ?_
  · rintro i v σ H1 H2 hi ⟨o, v4, rfl, s1, ho⟩ ⟨rfl, hv⟩
    obtain ⟨one, hone, rfl⟩ := nv_get hv
    have hone' := hl one (List.mem_of_getElem? hone)
    obtain ⟨b, hb, hbr⟩ := hA.at hone'
    have gb : (as.map V.ref)[one]? = some (.ref b) := by rw [List.getElem?_map, hb]; rfl
    have L7 := O.len7 (searchAt_mem hone')
    have len : ((l.take i).foldl (addCols st) []).length ≤ 140 := by
      have := fold_len O (l.take i) [] fun x hx => hl x (List.mem_of_mem_take hx)
      have := List.length_take_le i l
      have : (l.take i).length ≤ l.length := List.length_take_le' i l
      simp at *
      omega
    generalize eo : (l.take i).foldl (addCols st) [] = od at ho len
    refine ⟨_, rfl, _, rfl, _, rfl, a, _, _, _, rfl, rfl, s1.seq (SqL.of hA.top), atI_nat gb, b, rfl, ⟨_, s1.seq (SqL.of hbr)⟩, fun D nD => ?_⟩
    refine lc_it (walk_list (xs := nv (searchAt st one))) (Lc _ D (fun k => ((searchAt st one)[k]?).bind fun n => if (!od.contains n) = true then some (vn n) else none)) (lc_start nD) (fun j H3 _ h3 => h3.1.seq (s1.seq (SqL.of hbr))) ?_ ?_
    · rintro j u H3 H4 hj h3 ⟨rfl, hu⟩
      obtain ⟨n, hn, rfl⟩ := nv_get hu
      refine ⟨rfl, _, rfl, _, rfl, o, _, rfl, .inl (SqL.of (h3.1 _ _ ho)), rfl, flat_nv od, _, rfl, ?_⟩
      have hj' : j < 5000 := by
        rw [nv_len] at hj
        omega
      show if (!inV (vn n) (nv od)) = true then _ else _
      rw [in_nv]
      by_cases e : (!od.contains n) = true
      · rw [if_pos e]
        exact ⟨_, rfl, lc_yes nD h3 (Same.refl _) (by rw [hn]; exact if_pos e) hj'⟩
      · rw [if_neg e]
        exact lc_no h3 (Same.refl _) (by rw [hn]; exact if_neg e)
    · rintro H3 ⟨s3, e3⟩
      rw [nv_len, outs_filter] at e3
      refine ⟨o, D, _, _, rfl, rfl, s3 _ _ ho, e3, ?_, fun p np => ?_⟩
      · rw [nv_len, nv_len]
        have := List.length_filter_le (fun x => !od.contains x) (searchAt st one)
        exact Nat.le_of_lt (small1000 (by omega))
      · refine ⟨p, some (vn one), rfl, (s1.trans s3).trans (same_new np _), ?_⟩
        rw [upd_same, nv_append, List.take_add_one, hone, List.foldl_append, eo]
        rfl
  · rintro σ H1 ⟨o, v4, rfl, s1, ho⟩
    rw [nv_len, List.take_length] at ho
    have len : (l.foldl (addCols st) []).length ≤ 140 := by
      have := fold_len O l [] hl
      simp at *
      omega
    have sev := O.sev
    have eq := orderOf_eq O hl
    generalize eo : l.foldl (addCols st) [] = od at ho len eq
    refine ⟨_, rfl, _, rfl, _, rfl, by omega, by omega, fun D nD => ?_⟩
    have en : ((st.cols : Int)).toNat = st.cols := by simp
    rw [en]
    refine lc_it (walk_range (lo := 0) (n := st.cols)) (Lc _ D (fun k => if (!od.contains k) = true then some (vn k) else none)) (lc_start nD) (fun j H3 _ h3 => trivial) ?_ ?_
    · rintro j u H3 H4 hj h3 ⟨rfl, rfl⟩
      have ej : (fun i : Nat => V.int (0 + (i : Int))) j = vn j := by simp [vn]
      rw [ej]
      refine ⟨rfl, _, rfl, _, rfl, o, _, rfl, .inl (SqL.of (h3.1 _ _ ho)), rfl, flat_nv od, _, rfl, ?_⟩
      show if (!inV (vn j) (nv od)) = true then _ else _
      rw [in_nv]
      by_cases e : (!od.contains j) = true
      · rw [if_pos e]
        exact ⟨_, rfl, lc_yes nD h3 (Same.refl _) (if_pos e) (by omega)⟩
      · rw [if_neg e]
        exact lc_no h3 (Same.refl _) (if_neg e)
    · rintro H3 ⟨s3, e3⟩
      rw [outs_range (p := fun k => !od.contains k) (g := fun k => k), List.map_id'] at e3
      refine ⟨o, D, _, _, rfl, rfl, s3 _ _ ho, e3, ?_, fun p np => ?_⟩
      · rw [nv_len, nv_len]
        have := List.length_filter_le (fun x => !od.contains x) (List.range st.cols)
        rw [List.length_range] at this
        exact Nat.le_of_lt (small1000 (by omega))
      · refine q _ p ((s1.trans s3).trans (same_new np _)) ((s1.trans s3).free np) ?_
        rw [upd_same, nv_append, eq]
end
end SC
namespace SC
open PySem PySem.Spec PyProof.Rows L2
open Md50 (Pairs partner paired below numbers searchAt chosen)
theorem wider_row {s : Md50.St} {i : Nat} (h : i < s.searches.length) : rowOf (widerG s) i = (numbers s).filter (below s i) := rowOf_map h
theorem wider_has {s : Md50.St} {i j : Nat} (hi : i < s.searches.length) (hj : j < s.searches.length) : (rowOf (widerG s) i).contains j = below s i j := by
  rw [wider_row hi, Bool.eq_iff_iff]
  simp only [List.contains_eq_mem, decide_eq_true_eq, List.mem_filter]
  exact ⟨fun h => h.2, fun h => ⟨List.mem_range.mpr hj, h⟩⟩
theorem wider_len (s : Md50.St) : (widerG s).length = s.searches.length := by simp [widerG, numbers]
/-! ### is_apart -/
abbrev sApart : Stmt := top 43
abbrev nApart : List Str := ["one", "chosen", "wider", "other"]
theorem scApart : FnScope nApart ["one", "chosen", "wider"] (defScope sApart) := ⟨rfl, rfl, rfl, by decide +kernel, rfl, by decide +kernel, by decide +kernel⟩
def spApart : Sp := fun vs H Q _ => ∃ (one : Nat) (ac aw : Addr) (c : List Nat) (s : Md50.St), vs = [vn one, .ref ac, .ref aw] ∧ H ac = some (.lst (nv c)) ∧ LL H aw (widerG s) ∧ one < s.searches.length ∧ (∀ x ∈ c, x < s.searches.length) ∧ c.length ≤ 1000 ∧
  ∀ H', Same H H' → Q (.bl (besideG s one c)) H'
section
variable {P : Program} {w : World} {K : PySem.W.Frag} {mg : Str → Option Value} {base : Heap} {f : Addr} {fd : FuncData}
theorem ok_apart {k : Nat} (F : Fun K "is_apart" "is_apart" sApart f fd) (ma : mg "all" = none) : FnOk P w K mg base CX0 (k + 1) f fd ["one", "chosen", "wider"] spApart := by
  refine F.ok scApart (fun vs H Q E h => ?_) (fun cdv A outer s H vs Q E hr h => ?_)
  · obtain ⟨_, _, _, _, _, rfl, _⟩ := h
    rfl
  obtain ⟨one, ac, aw, c, st, rfl, hc, ⟨as, hW⟩, h1, hcl, hlen, q⟩ := h
  refine ⟨_, pss_one (ps_ret (pe_callB (cr_all rfl) (by rfl) ma (by decide +kernel) (pa_cons
    (pe_lc (own := [("other", 3)]) (g := gName 3) (tt := tYes) (te := tAndV (tOp (rIn K true) (tVar 0) (tOp (rIxL K) (tVar 2) (tVar 3))) (tOp (rIn K true) (tVar 3) (tOp (rIxL K) (tVar 2) (tVar 0)))) rfl scApart.nd (pi_list (pv 1))
      (blkOk_by (own := [("other", 3)]) (N := nApart) (sc := defScope sApart) (by decide +kernel))
      (fun _ _ _ _ _ => pg_name (i := 3) scApart.nd rfl (Or.inl rfl)) (fun _ _ _ _ _ => pts_nil)
      (fun _ _ _ _ _ => pe_and (pe_cmpR op_notIn_seq (pv 0) (pe_ix ix_list (pv 2) (pv 3) (fun _ _ => rfl)) rfl) (pe_one (pe_cmpR op_notIn_seq (pv 3) (pe_ix ix_list (pv 2) (pv 0) (fun _ _ => rfl)) rfl)))) pa_nil))), ?_⟩
  have at_ : ∀ i, i < st.searches.length → ∃ b, (as.map V.ref)[i]? = some (.ref b) ∧ H b = some (.lst (nv (rowOf (widerG st) i))) := by
    intro i hi
    obtain ⟨b, hb, hbr⟩ := hW.at (i := i) (by rw [wider_len]; exact hi)
    exact ⟨b, by rw [List.getElem?_map, hb]; rfl, hbr⟩
  obtain ⟨b1, gb1, hb1⟩ := at_ one h1
  refine ⟨_, rfl, ac, rfl, ⟨_, SqL.of hc⟩, fun D nD => ?_⟩
  refine lc_it (walk_list (xs := nv c)) (Lc H D (fun k => (c[k]?).bind fun o => some (V.bl (!below st o one && !below st one o)))) (lc_start nD) (fun i H1 _ h1 => h1.1.seq (SqL.of hc)) (fun i v H1 H2 hi hL hy => ?_) (fun H1 hL => ?_)
  · obtain ⟨rfl, hv⟩ := hy
    obtain ⟨o, ho, rfl⟩ := nv_get hv
    have hol := hcl o (List.mem_of_getElem? ho)
    obtain ⟨b2, gb2, hb2⟩ := at_ o hol
    have hi' : i < 5000 := by rw [nv_len] at hi; omega
    refine ⟨rfl, _, rfl, _, rfl, _, rfl, aw, _, _, _, rfl, rfl, hL.1.seq (SqL.of hW.top), atI_nat gb2, b2, _, rfl, .inl (SqL.of (hL.1 _ _ hb2)), rfl, flat_nv _, _, rfl, ?_⟩
    show if (!inV (vn one) (nv (rowOf (widerG st) o))) = true then _ else _
    rw [in_nv, wider_has hol h1]
    cases e : below st o one with
    | true =>
      refine iteF ?_
      exact lc_yes nD hL (Same.refl _) (by rw [ho]; show some _ = some _; rw [e]; rfl) hi'
    | false =>
      refine iteT ?_
      refine ⟨_, rfl, _, rfl, _, rfl, aw, _, _, _, rfl, rfl, hL.1.seq (SqL.of hW.top), atI_nat gb1, b1, _, rfl, .inl (SqL.of (hL.1 _ _ hb1)), rfl, flat_nv _, ?_⟩
      refine lc_yes nD hL (Same.refl _) ?_ hi'
      rw [ho]
      show some (V.bl (!below st o one && !below st one o)) = some (V.bl (!inV (vn o) (nv (rowOf (widerG st) one))))
      rw [in_nv, wider_has h1 hol, e]
      rfl
  · obtain ⟨s1, e1⟩ := hL
    rw [nv_len, outs_all] at e1
    have em : (c.filterMap fun o => some (V.bl (!below st o one && !below st one o))) = (c.map fun o => !below st o one && !below st one o).map V.bl := by
      rw [List.filterMap_eq_map', List.map_map]
      rfl
    rw [em] at e1
    refine ⟨D, _, rfl, SqL.of e1, ?_⟩
    have := q H1 s1
    have e2 : besideG st one c = (c.map fun o => !below st o one && !below st one o).all id := by
      rw [List.all_map]; rfl
    rw [e2] at this
    exact this
end
/-! ### one_longer -/
abbrev sLonger : Stmt := top 44
abbrev nLonger : List Str := ["sets", "wider", "longer", "chosen", "start", "one"]
theorem scLonger : FnScope nLonger ["sets", "wider"] (defScope sLonger) := ⟨rfl, rfl, rfl, by decide +kernel, rfl, by decide +kernel, by decide +kernel⟩
def spLonger : Sp := fun vs H Q _ => ∃ (a aw : Addr) (s : Md50.St) (k : Nat), vs = [.ref a, .ref aw] ∧ LL H a (lvl s k) ∧ LL H aw (widerG s) ∧ Ok s ∧ ∀ H' p, Same H H' → LL H' p (lvl s (k + 1)) → Q (.ref p) H'
def rLenQ (K : PySem.W.Frag) : List V → Hp → VK → Prop := fun xs H Q => ∃ p ys, xs = [.ref p] ∧ (SqL K H p ys ∨ SqT K H p ys) ∧ Q (.int ys.length) H
theorem grown_len (s : Md50.St) (c : List Nat) : (grown s c).length ≤ s.searches.length := by
  unfold grown extOf
  rw [List.length_map]
  refine Nat.le_trans (List.length_filter_le _ _) ?_
  rw [List.length_range']
  omega
theorem flat_len {s : Md50.St} (O : Ok s) : ∀ l : List (List Nat), (l.flatMap (grown s)).length ≤ 10 * l.length
  | [] => by simp
  | c :: r => by
    rw [List.flatMap_cons, List.length_append, List.length_cons]
    have := flat_len O r
    have := grown_len s c
    have := O.ten
    omega
theorem stOf_le {s : Md50.St} {k : Nat} {c : List Nat} (h : c ∈ lvl s k) : stOf 0 c ≤ s.searches.length := by
  unfold stOf
  split
  · exact Nat.zero_le _
  · rename_i x e
    exact (lvl_mem h).2 x (List.mem_of_getLast? e)
section
variable {P : Program} {w : World} {K : PySem.W.Frag} {mg : Str → Option Value} {base : Heap} {f : Addr} {fd : FuncData}
theorem ok_longer {fA : Addr} {fdA : FuncData} (F : Fun K "one_longer" "one_longer" sLonger f fd) (DA : Df P w K mg base 1 "is_apart" ["one", "chosen", "wider"] spApart fA fdA) (mr : mg "range" = none) (ml : mg "len" = none) : FnOk P w K mg base CX0 2 f fd ["sets", "wider"] spLonger := by
  refine F.ok scLonger (fun vs H Q E h => ?_) (fun cdv A outer s H vs Q E hr h => ?_)
  · obtain ⟨_, _, _, _, rfl, _⟩ := h
    rfl
  obtain ⟨a, aw, st, k, rfl, ⟨as, hA⟩, hW, O, q⟩ := h
  refine ⟨_, pss_cons (ps_set (i := 2) scLonger.nd rfl (.inl rfl) (pe_lst pa_nil))
    (pss_cons (ps_for PassesOwn.never rfl (pi_list (pv 0)) (pg_name (i := 3) scLonger.nd rfl (Or.inl rfl))
      (pss_cons (ps_set (i := 4) scLonger.nd rfl (.inl rfl) (pe_ifExp (pt_truth (pv 3) (by intro _; rfl)) (pe_op op_add (pe_ix ix_list (pv 3) (pe_un un_neg pe_int) (fun _ _ => rfl)) pe_int) pe_int))
      (pss_one (ps_for PassesOwn.never rfl (pi_range2 (by rfl) mr (pa_cons (pv 4) (pa_cons (pe_callB call_len_seq (by rfl) ml PySem.boot_len (pa_cons (pv 1) pa_nil)) pa_nil))) (pg_name (i := 5) scLonger.nd rfl (Or.inl rfl))
        (pss_one (ps_if (pt_val (pe_call DA.ok hr (by rfl) DA.mg DA.kp DA.bi .nil pass0 (pa_cons (pv 5) (pa_cons (pv 3) (pa_cons (pv 1) pa_nil)))))
          (pss_one (ps_expr (pe_bm PySem.F.plainAttrs_list PySem.F.slot_list_append PySem.F.type_list_append mt_append (pv 2) (pa_cons (pe_op op_cat (pv 3) (pe_lst (pa_cons (pv 5) pa_nil))) pa_nil)))) pss_nil))))))
    (pss_one (ps_ret (pv 2)))), ?_⟩
  have ten := O.ten
  have cnt : (lvl st k).length ≤ 1024 := Nat.le_trans (lvl_count st k) (Nat.le_trans (Nat.pow_le_pow_right (by decide) ten) (by decide))
  refine ⟨Nat.zero_le _, fun o no => ?_⟩
  have s0 : Same H (upd H o (.lst [])) := same_new no _
  refine ⟨_, rfl, a, rfl, ⟨_, s0.seq (SqL.of hA.top)⟩, ?_⟩
  refine for_it (walk_list (xs := as.map V.ref)) (fun i σ H1 => ∃ v3 v4 v5, σ = [some (.ref a), some (.ref aw), some (.ref o), v3, v4, v5] ∧ Same H H1 ∧ LL H1 o (((lvl st k).take i).flatMap (grown st))) ⟨none, none, none, rfl, s0, [], LLat.nil upd_same⟩
    (fun i σ H1 _ ⟨_, _, _, _, s1, _⟩ => s1.seq (SqL.of hA.top)) ?_ ?_
  · rintro i v σ H1 H2 hi ⟨v3, v4, v5, rfl, s1, hO1⟩ ⟨rfl, hv⟩
    obtain ⟨b, hb, rfl⟩ := refs_get hv
    have hil : i < (lvl st k).length := by rw [List.length_map, hA.len] at hi; exact hi
    have hbr := hA.row i b hb
    have hcm := rowOf_mem hil
    have etk : (lvl st k).take (i + 1) = (lvl st k).take i ++ [rowOf (lvl st k) i] := by rw [List.take_add_one, rowOf_get hil]; rfl
    generalize ec : rowOf (lvl st k) i = c at hbr hcm etk
    obtain ⟨hck, hcl⟩ := lvl_mem hcm
    have hst := stOf_le hcm
    have hk := lvl_le (s := st) (k := k) (by intro z; rw [z] at hil; simp at hil)
    refine ⟨_, rfl, _, .inl ⟨_, s1.seq (SqL.of hbr), rfl⟩, ?_⟩
    -- the inner loop, from where the set ends
    have inner : ∀ H3, H3 = H2 → (tFor (iRng2 (tCons (tVar 4) (tCons (tCB (rLenQ K) (tCons (tVar 1) tNil)) tNil))) (gName 5) (tIfS (tB (tCall spApart [] E0 (tCons (tVar 5) (tCons (tVar 3) (tCons (tVar 1) tNil))))) (tDrop (tBM K "list" rAppend (tVar 2) (tCons (tOp rCat (tVar 3) (tLst (tCons (tVar 5) tNil))) tNil))) tNext)) { nx := fun σ H1 => ∃ v3 v4 v5, σ = [some (.ref a), some (.ref aw), some (.ref o), v3, v4, v5] ∧ Same H H1 ∧ LL H1 o (((lvl st k).take (i + 1)).flatMap (grown st)), rt := Q, ct := fun σ H1 => ∃ v3 v4 v5, σ = [some (.ref a), some (.ref aw), some (.ref o), v3, v4, v5] ∧ Same H H1 ∧ LL H1 o (((lvl st k).take (i + 1)).flatMap (grown st)), bk := fun σ H' => tRet (tVar 2) { nx := fun _ H' => Q .non H', rt := Q } σ H' } [some (.ref a), some (.ref aw), some (.ref o), some (.ref b), some (vn (stOf 0 c)), v5] H3 := by
      rintro H3 rfl
      obtain ⟨ws, hws, hwl⟩ := (hW.same s1).seq (K := K)
      rw [wider_len] at hwl
      refine ⟨_, rfl, _, rfl, aw, ws, rfl, .inl hws, _, _, rfl, ⟨by omega, by omega, by omega, by omega⟩, ?_⟩
      have en : ((ws.length : Int) - ((stOf 0 c : Nat) : Int)).toNat = st.searches.length - stOf 0 c := by omega
      rw [en]
      refine for_range (lo := ((stOf 0 c : Nat) : Int)) (n := st.searches.length - stOf 0 c) (fun j σ H4 => ∃ v5, σ = [some (.ref a), some (.ref aw), some (.ref o), some (.ref b), some (vn (stOf 0 c)), v5] ∧ Same H H4 ∧
        LL H4 o (((lvl st k).take i).flatMap (grown st) ++ ((List.range' (stOf 0 c) j).filter fun x => besideG st x c).map fun x => c ++ [x])) ⟨v5, rfl, s1, by simpa using hO1⟩ ?_ ?_
      · rintro j σ H4 hj ⟨v5, rfl, s4, os, hO⟩
        have ej : V.int ((stOf 0 c : Nat) + (j : Int)) = vn (stOf 0 c + j) := by simp [vn]
        rw [ej]
        have er : List.range' (stOf 0 c) (j + 1) = List.range' (stOf 0 c) j ++ [stOf 0 c + j] := by rw [List.range'_concat]; simp
        refine ⟨_, rfl, _, rfl, _, rfl, stOf 0 c + j, b, aw, c, st, rfl, s4 _ _ hbr, hW.same s4, by omega, hcl, by omega, fun H5 s5 => ⟨_, rfl, ?_⟩⟩
        have hO5 := hO.same s5
        cases e : besideG st (stOf 0 c + j) c with
        | false =>
          refine iteF ⟨some (vn (stOf 0 c + j)), rfl, s4.trans s5, os, ?_⟩
          rw [er, List.filter_append, List.filter_cons_of_neg (p := fun x => besideG st x c) (by rw [e]; simp)]
          simp only [List.filter_nil, List.append_nil]
          exact hO5
        | true =>
          refine iteT ?_
          refine ⟨_, rfl, .inl ⟨rfl, _, SqL.of hO5.top⟩, _, rfl, _, rfl, (by show 1 ≤ sizeLine; decide), fun p np => ?_⟩
          have sp : Same H5 (upd H5 p (.lst [vn (stOf 0 c + j)])) := same_new np _
          refine ⟨b, p, _, _, rfl, rfl, sp _ _ (s5 _ _ (s4 _ _ hbr)), upd_same, ?_, fun t nt => ?_⟩
          · rw [nv_len]
            show c.length + 1 ≤ sizeLine
            exact Nat.le_of_lt (small1000 (by omega))
          have stt : Same (upd H5 p (.lst [vn (stOf 0 c + j)])) (upd (upd H5 p (.lst [vn (stOf 0 c + j)])) t (.lst (nv c ++ [vn (stOf 0 c + j)]))) := same_new nt _
          have hOt := hO5.same (sp.trans stt)
          have lt : (os.map V.ref).length < sizeLine := by
            rw [List.length_map, hO.len, List.length_append, List.length_map]
            have l1 := flat_len O ((lvl st k).take i)
            have l2 := List.length_filter_le (fun x => besideG st x c) (List.range' (stOf 0 c) j)
            rw [List.length_range'] at l2
            rw [List.length_take] at l1
            have : min i (lvl st k).length ≤ 1024 := by omega
            exact Nat.lt_of_le_of_lt (show _ ≤ 20000 by omega) (by decide)
          refine ⟨o, _, _, rfl, rfl, hOt.top, lt, some (vn (stOf 0 c + j)), rfl, same_upd ((s4.trans s5).trans (sp.trans stt)) no _, os ++ [t], ?_⟩
          rw [er, List.filter_append, List.filter_cons_of_pos (p := fun x => besideG st x c) e, List.map_append, ← List.append_assoc]
          have et : (upd (upd H5 p (.lst [vn (stOf 0 c + j)])) t (.lst (nv c ++ [vn (stOf 0 c + j)]))) t = some (.lst (nv (c ++ [stOf 0 c + j]))) := by
            rw [upd_same, show ([vn (stOf 0 c + j)] : List V) = nv [stOf 0 c + j] from rfl, nv_append]
          exact hOt.snoc et (fun z => by rw [z, (hO5.same sp).top] at nt; cases nt)
      · rintro σ H4 ⟨v5, rfl, s4, hO⟩
        refine ⟨_, _, _, rfl, s4, ?_⟩
        rw [etk, List.flatMap_append]
        have : ([c] : List (List Nat)).flatMap (grown st) = ((List.range' (stOf 0 c) (st.searches.length - stOf 0 c)).filter fun x => besideG st x c).map fun x => c ++ [x] := by
          rw [List.flatMap_cons]; simp [grown, extOf]
        rw [this]
        exact hO
    -- start
    cases hc0 : c.getLast? with
    | none =>
      have : c = [] := List.getLast?_eq_none_iff.mp hc0
      subst this
      refine iteF ?_
      exact inner _ rfl
    | some x =>
      have e1 : stOf 0 c = x + 1 := by unfold stOf; rw [hc0]
      obtain ⟨d, hd⟩ : ∃ d, c = d ++ [x] := ⟨c.dropLast, by
        rw [List.getLast?_eq_some_iff] at hc0
        obtain ⟨ys, e⟩ := hc0
        rw [e]; simp⟩
      have e2 : (!(nv c).isEmpty) = true := by rw [hd]; simp [nv]
      rw [e2]
      refine iteT ?_
      have hat : atI (nv c) (-1) = some (vn x) := by
        rw [hd, ← nv_append]
        exact atI_last _ _
      refine ⟨_, rfl, _, rfl, b, _, _, _, rfl, rfl, s1.seq (SqL.of hbr), hat, _, _, rfl, rfl, ?_⟩
      have := inner _ rfl
      rw [e1] at this
      exact this
  · rintro σ H1 ⟨v3, v4, v5, rfl, s1, hO⟩
    rw [List.length_map, hA.len, List.take_length, ← lvl_more] at hO
    exact ⟨_, rfl, q H1 o s1 hO⟩
end
end SC
namespace SC
open PySem PySem.Spec PyProof.Rows L2
open Md50 (Pairs partner paired below numbers searchAt chosen)
theorem while_m {c : TT} {tb : TS} {D : Ends} {σ : L2.St} {H : Hp} (W : Nat → L2.St → Hp → Prop) (m0 : Nat) (h0 : W m0 σ H)
    (hs : ∀ m σ H, W m σ H → c σ H fun b H1 => if b = true then tb { D with nx := fun σ' H' => ∃ m', m' < m ∧ W m' σ' H', ct := fun σ' H' => ∃ m', m' < m ∧ W m' σ' H', bk := D.nx } σ H1 else D.nx σ H1)
    (mono : ∀ σ H Q Q', (∀ b H1, Q b H1 → Q' b H1) → c σ H Q → c σ H Q') : tWhile c tb D σ H := by
  refine ⟨W, ⟨m0, h0⟩, fun m σ H w => ?_⟩
  refine mono σ H _ _ (fun b H1 q => ?_) (hs m σ H w)
  cases b with
  | true => exact ⟨_, fun σ' H' z => z, q⟩
  | false => exact q
/-! ### first_greatest_apart -/
abbrev sGreat : Stmt := top 45
abbrev nGreat : List Str := ["searches", "wider", "sets", "longer"]
theorem scGreat : FnScope nGreat ["searches"] (defScope sGreat) := ⟨rfl, rfl, rfl, by decide +kernel, rfl, by decide +kernel, by decide +kernel⟩
def spGreat : Sp := fun vs H Q _ => ∃ (a : Addr) (s : Md50.St), vs = [.ref a] ∧ LL H a s.searches ∧ Ok s ∧ ∀ H' p, Same H H' → H' p = some (.lst (nv (Md50.widest s))) → (Md50.widest s).length ≤ 10 → Q (.ref p) H'
section
variable {P : Program} {w : World} {K : PySem.W.Frag} {mg : Str → Option Value} {base : Heap} {f : Addr} {fd : FuncData}
theorem ok_great {fW fL : Addr} {fdW fdL : FuncData} (F : Fun K "first_greatest_apart" "first_greatest_apart" sGreat f fd) (DW : Df P w K mg base 2 "wider_searches" ["searches"] spWider fW fdW) (DL : Df P w K mg base 2 "one_longer" ["sets", "wider"] spLonger fL fdL) :
    FnOk P w K mg base CX0 3 f fd ["searches"] spGreat := by
  refine F.ok scGreat (fun vs H Q E h => ?_) (fun cdv A outer s H vs Q E hr h => ?_)
  · obtain ⟨_, _, rfl, _⟩ := h
    rfl
  obtain ⟨a, st, rfl, hA, O, q⟩ := h
  refine ⟨_, pss_cons (ps_set (i := 1) scGreat.nd rfl (.inl rfl) (pe_call DW.ok hr (by rfl) DW.mg DW.kp DW.bi .nil pass0 (pa_cons (pv 0) pa_nil)))
    (pss_cons (ps_set (i := 2) scGreat.nd rfl (.inl rfl) (pe_lst (pa_cons (pe_lst pa_nil) pa_nil)))
    (pss_cons (ps_set (i := 3) scGreat.nd rfl (.inl rfl) (pe_call DL.ok hr (by rfl) DL.mg DL.kp DL.bi .nil pass0 (pa_cons (pv 2) (pa_cons (pv 1) pa_nil))))
    (pss_cons (ps_while PassesOwn.never (pt_truth (pv 3) (by intro _; rfl))
      (pss_cons (ps_set (i := 2) scGreat.nd rfl (.inl rfl) (pv 3))
      (pss_one (ps_set (i := 3) scGreat.nd rfl (.inl rfl) (pe_call DL.ok hr (by rfl) DL.mg DL.kp DL.bi .nil pass0 (pa_cons (pv 2) (pa_cons (pv 1) pa_nil)))))))
    (pss_one (ps_ret (pe_ix ix_list (pv 2) pe_int (fun _ _ => rfl))))))), ?_⟩
  have ten := O.ten
  refine ⟨_, rfl, a, st.searches, rfl, hA, by omega, fun l hl => Nat.le_trans (O.len7 hl) (by decide), fun H1 aw s1 L1 => ?_⟩
  rw [wider_eq O] at L1
  refine ⟨Nat.zero_le _, fun p1 np1 => ⟨(by show 1 ≤ sizeLine; decide), fun p2 np2 => ?_⟩⟩
  have t1 : Same H1 (upd H1 p1 (.lst [])) := same_new np1 _
  have t2 : Same (upd H1 p1 (.lst [])) (upd (upd H1 p1 (.lst [])) p2 (.lst [.ref p1])) := same_new np2 _
  have n12 : p1 ≠ p2 := ne_of_none (upd_same) np2
  have L2 : LL (upd (upd H1 p1 (.lst [])) p2 (.lst [.ref p1])) p2 (lvl st 0) := by
    rw [lvl_zero]
    refine ⟨[p1], upd_same, rfl, fun i b e => ?_, fun b hb => ?_⟩
    · cases i with
      | zero =>
        have : p1 = b := Option.some.inj e
        subst this
        rw [upd_ne n12]
        exact upd_same
      | succ i => simp at e
    · simp at hb; subst hb; exact n12
  refine ⟨_, rfl, _, rfl, p2, aw, st, 0, rfl, L2, L1.same (t1.trans t2), O, fun H3 p3 s3 L3 => ?_⟩
  show tWhile (fun σ H Q => tVar 3 σ H fun x H' => ∃ k, TruV K x H' k ∧ Q k H') _ _ [some (.ref a), some (.ref aw), some (.ref p2), some (.ref p3)] _
  refine while_m (fun m σ H4 => ∃ k ps pl, σ = [some (.ref a), some (.ref aw), some (.ref ps), some (.ref pl)] ∧ Same H1 H4 ∧ LL H4 ps (lvl st k) ∧ LL H4 pl (lvl st (k + 1)) ∧ lvl st k ≠ [] ∧ m + k = st.searches.length + 1)
    (st.searches.length + 1) ⟨0, p2, p3, rfl, (t1.trans t2).trans s3, L2.same s3, L3, by rw [lvl_zero]; simp, rfl⟩ ?_ (fun σ H Q Q' h ⟨v, hv, k, ht, z⟩ => ⟨v, hv, k, ht, h _ _ z⟩)
  rintro m σ H4 ⟨k, ps, pl, rfl, s4, ⟨as, hS⟩, ⟨bs, hL⟩, ne, em⟩
  refine ⟨_, rfl, _, .inl ⟨_, SqL.of hL.top, rfl⟩, ?_⟩
  cases eb : bs with
  | nil =>
    refine iteF ?_
    have e1 : lvl st (k + 1) = [] := by
      have := hL.len
      rw [eb] at this
      exact List.eq_nil_of_length_eq_zero this.symm
    cases el : lvl st k with
    | nil => exact absurd el ne
    | cons c r =>
      obtain ⟨b, hb, hbr⟩ := hS.at (i := 0) (by rw [el]; simp)
      have gb : (as.map V.ref)[0]? = some (.ref b) := by rw [List.getElem?_map, hb]; rfl
      have ew := widest_eq el e1
      have er : rowOf (lvl st k) 0 = c := by rw [el]; rfl
      have hk := lvl_le ne
      have hc := (lvl_mem (s := st) (k := k) (c := c) (by rw [el]; exact List.mem_cons_self)).1
      refine ⟨_, rfl, ps, _, _, _, rfl, rfl, SqL.of hS.top, atI_nat (j := 0) gb, ?_⟩
      refine q H4 b (s1.trans s4) ?_ (by rw [ew]; omega)
      rw [hbr, er, ew]
  | cons b0 bs' =>
    refine iteT ?_
    have ne1 : lvl st (k + 1) ≠ [] := fun e => by
      have := hL.len
      rw [eb, e] at this
      simp at this
    have hk := lvl_le ne1
    refine ⟨_, rfl, _, rfl, _, rfl, pl, aw, st, k + 1, rfl, ⟨bs, hL⟩, L1.same s4, O, fun H5 p5 s5 L5 => ?_⟩
    exact ⟨m - 1, by omega, k + 1, pl, p5, rfl, s4.trans s5, LL.same ⟨bs, hL⟩ s5, L5, ne1, by omega⟩
end
/-! ### are_columns -/
abbrev sCols : Stmt := top 31
abbrev nCols : List Str := ["known", "columns", "lowest", "column"]
theorem scCols : FnScope nCols ["known", "columns"] (defScope sCols) := ⟨rfl, rfl, rfl, by decide +kernel, rfl, by decide +kernel, by decide +kernel⟩
def spCols : Sp := fun vs H Q _ => ∃ (a : Addr) (ns : List Int) (cols : Nat), vs = [.ref a, vn cols] ∧ H a = some (.lst (ns.map V.int)) ∧ ∀ H', Same H H' → Q (.bl (colsFrom cols 0 ns)) H'
section
variable {P : Program} {w : World} {K : PySem.W.Frag} {mg : Str → Option Value} {base : Heap} {f : Addr} {fd : FuncData}
theorem ints_get {l : List Int} {i : Nat} {x : V} (h : (l.map V.int)[i]? = some x) : ∃ n, l[i]? = some n ∧ x = .int n := by
  rw [List.getElem?_map] at h
  cases e : l[i]? with
  | none => rw [e] at h; cases h
  | some n => rw [e] at h; exact ⟨n, rfl, (Option.some.inj h).symm⟩
theorem ok_cols {k : Nat} (F : Fun K "are_columns" "are_columns" sCols f fd) : FnOk P w K mg base CX0 (k + 1) f fd ["known", "columns"] spCols := by
  refine F.ok scCols (fun vs H Q E h => ?_) (fun cdv A outer s H vs Q E hr h => ?_)
  · obtain ⟨_, _, _, rfl, _⟩ := h
    rfl
  obtain ⟨a, ns, cols, rfl, ha, q⟩ := h
  refine ⟨_, pss_cons (ps_set (i := 2) scCols.nd rfl (.inl rfl) pe_int)
    (pss_cons (ps_for PassesOwn.never rfl (pi_list (pv 0)) (pg_name (i := 3) scCols.nd rfl (Or.inl rfl))
      (pss_cons (ps_if (PW.pt (pw_or (pt_cmpR op_lt (pv 3) (pv 2) (nomark _)) (pw_or1 (pt_cmpR op_ge (pv 3) (pv 1) (nomark _))))) (pss_one (ps_ret pe_bl)) pss_nil)
      (pss_one (ps_set (i := 2) scCols.nd rfl (.inl rfl) (pe_op op_add (pv 3) pe_int)))))
    (pss_one (ps_ret pe_bl))), ?_⟩
  refine ⟨_, rfl, a, rfl, ⟨_, SqL.of ha⟩, ?_⟩
  refine for_it (walk_list (xs := ns.map V.int)) (fun i σ H1 => ∃ low v, σ = [some (.ref a), some (vn cols), some (.int low), v] ∧ Same H H1 ∧ colsFrom cols 0 ns = colsFrom cols low (ns.drop i)) ⟨0, none, rfl, Same.refl _, rfl⟩ (fun i σ H1 _ ⟨_, _, _, s1, _⟩ => s1.seq (SqL.of ha)) ?_ ?_
  · rintro i v σ H1 H2 hi ⟨low, v3, rfl, s1, e1⟩ ⟨rfl, hv⟩
    obtain ⟨x, hx, rfl⟩ := ints_get hv
    have ed : ns.drop i = x :: ns.drop (i + 1) := by
      obtain ⟨hi', ex⟩ := List.getElem?_eq_some_iff.mp hx
      rw [List.drop_eq_getElem_cons hi', ex]
    rw [ed] at e1
    refine ⟨_, rfl, _, rfl, _, _, rfl, rfl, _, rfl, ?_⟩
    refine ite2 (fun c => ?_) (fun c => ?_)
    · have c' := of_decide_eq_true c
      have := q H2 s1
      rw [e1, colsFrom, if_pos (Or.inl c')] at this
      exact iteT this
    · have c' : ¬ x < low := fun z => c (decide_eq_true z)
      refine ⟨_, rfl, _, rfl, _, _, rfl, rfl, _, rfl, ?_⟩
      refine ite2 (fun d => ?_) (fun d => ?_)
      · have d' := of_decide_eq_true d
        have := q H2 s1
        rw [e1, colsFrom, if_pos (Or.inr d')] at this
        exact this
      · have d' : ¬ x ≥ (cols : Int) := fun z => d (decide_eq_true z)
        refine ⟨_, rfl, _, _, rfl, rfl, x + 1, some (.int x), rfl, s1, ?_⟩
        rw [e1, colsFrom, if_neg (by rw [not_or]; exact ⟨c', d'⟩)]
  · rintro σ H1 ⟨low, v3, rfl, s1, e1⟩
    rw [List.length_map, List.drop_length] at e1
    have := q H1 s1
    rw [e1] at this
    exact this
end
end SC
namespace SC
open PySem PySem.Spec PyProof.Rows L2
/-! ### objects -/
theorem lk_here {k : Str} {v : V} {r : List (Str × V)} : List.lookup k ((k, v) :: r) = some v := by
  have e : (k == k) = true := beq_self_eq_true k
  simp only [List.lookup, e]
theorem lk_past {k g : Str} {v : V} {r : List (Str × V)} (h : (k == g) = false) : List.lookup k ((g, v) :: r) = List.lookup k r := by
  simp only [List.lookup, h]
theorem put_here {f : Str} {v x : V} {r : List (Str × V)} : putF f v ((f, x) :: r) = (f, v) :: r := if_pos rfl
theorem put_past {f g : Str} {v x : V} {r : List (Str × V)} (h : ¬ g = f) : putF f v ((g, x) :: r) = (g, x) :: putF f v r := if_neg h
/-- all but one object stands as it was -/
def Keep (p : Addr) (H H' : Hp) : Prop := ∀ b o, H b = some o → b ≠ p → H' b = some o
theorem Keep.refl (p : Addr) (H : Hp) : Keep p H H := fun _ _ e _ => e
theorem Keep.trans {p : Addr} {H H1 H2 : Hp} (h1 : Keep p H H1) (h2 : Keep p H1 H2) : Keep p H H2 := fun b o e n => h2 b o (h1 b o e n) n
theorem Keep.put {p : Addr} (H : Hp) (o : HO) : Keep p H (upd H p o) := fun b u e n => by rw [upd_ne n]; exact e
theorem Keep.of {p : Addr} {H H' : Hp} (s : Same H H') : Keep p H H' := fun b o e _ => s b o e
theorem Keep.seq {K : PySem.W.Frag} {p a : Addr} {H H' : Hp} {xs : List V} {C dx : Addr} {fs : List (Str × V)} (k : Keep p H H') (hp : H p = some (.ins C dx fs)) (h : SqL K H a xs) : SqL K H' a xs := by
  rcases h with (h | ⟨o, h⟩) | h
  · exact .inl (.inl (k _ _ h (ne_of h hp (by intro z; cases z))))
  · exact .inl (.inr ⟨o, k _ _ h (ne_of h hp (by intro z; cases z))⟩)
  · exact .inr h
/-! ### CallReader -/
abbrev sRInit : Stmt := inClass (top 25) 0
abbrev sRHas : Stmt := inClass (top 25) 1
abbrev sRNum : Stmt := inClass (top 25) 2
abbrev sRNums : Stmt := inClass (top 25) 3
abbrev sRLists : Stmt := inClass (top 25) 4
def rdF (ca : Addr) (at_ : Nat) : List (Str × V) := [("calls", .ref ca), ("at", vn at_)]
def RdAt (C : Addr) (H : Hp) (a ca : Addr) (at_ : Nat) : Prop := ∃ dx, H a = some (.ins C dx (rdF ca at_))
theorem rdF_calls (ca : Addr) (n : Nat) : (rdF ca n).lookup ("calls" : Str) = some (.ref ca) := lk_here
theorem rdF_at (ca : Addr) (n : Nat) : (rdF ca n).lookup ("at" : Str) = some (vn n) := (lk_past (by decide +kernel)).trans lk_here
theorem rdF_put (ca : Addr) (n m : Nat) : putF "at" (vn m) (rdF ca n) = rdF ca m := (put_past (by decide +kernel)).trans (congrArg _ put_here)
theorem rdF_new (ca : Addr) : putF "at" (.int 0) (putF "calls" (.ref ca) []) = rdF ca 0 := (put_past (by decide +kernel)).trans rfl
theorem rdF_none (ca : Addr) (n : Nat) {m : Str} (h1 : (m == ("calls" : Str)) = false) (h2 : (m == ("at" : Str)) = false) : (rdF ca n).lookup m = none := (lk_past h1).trans ((lk_past h2).trans rfl)
/-- what the top has written of the class -/
structure RdTxt (K : PySem.W.Frag) (C : Addr) : Prop where
  cl : Cls K C
  nC : NoAttr K C "calls"
  nA : NoAttr K C "at"
def spRInit (C : Addr) : Sp := fun vs H Q _ => ∃ (p dx ca : Addr), vs = [.ref p, .ref ca] ∧ H p = some (.ins C dx []) ∧ ∀ H', RdAt C H' p ca 0 → Keep p H H' → Q .non H'
def spRHas (K : PySem.W.Frag) (C : Addr) : Sp := fun vs H Q _ => ∃ (a ca : Addr) (n : Nat) (ns : List Int), vs = [.ref a] ∧ RdAt C H a ca n ∧ SqL K H ca (ns.map V.int) ∧ Q (.bl (decide (n < ns.length))) H
def spRNum (K : PySem.W.Frag) (C : Addr) : Sp := fun vs H Q _ => ∃ (a ca : Addr) (n : Nat) (ns : List Int) (z : Int), vs = [.ref a] ∧ RdAt C H a ca n ∧ SqL K H ca (ns.map V.int) ∧ ns[n]? = some z ∧
  ∀ H', RdAt C H' a ca (n + 1) → Keep a H H' → Q (.int z) H'
def spRNums (K : PySem.W.Frag) (C : Addr) : Sp := fun vs H Q _ => ∃ (a ca : Addr) (n m : Nat) (ns : List Int), vs = [.ref a, vn m] ∧ RdAt C H a ca n ∧ SqL K H ca (ns.map V.int) ∧ n + m ≤ ns.length ∧
  ∀ H' p, RdAt C H' a ca (n + m) → Keep a H H' → H p = none → H' p = some (.lst (((ns.drop n).take m).map V.int)) → Q (.ref p) H'
/-- lists of numbers, all new since H -/
structure LIat (H H' : Hp) (p : Addr) (bs : List Addr) (xs : List (List Int)) : Prop where
  top : H' p = some (.lst (bs.map V.ref))
  len : bs.length = xs.length
  row : ∀ (i : Nat) (b : Addr) (x : List Int), bs[i]? = some b → xs[i]? = some x → H' b = some (.lst (x.map V.int))
  new : ∀ b ∈ bs, H b = none
  ne : ∀ b ∈ bs, b ≠ p
def spRLists (K : PySem.W.Frag) (C : Addr) : Sp := fun vs H Q _ => ∃ (a ca : Addr) (n k : Nat) (ns rest : List Int) (xs : List (List Int)), vs = [.ref a, vn k] ∧ RdAt C H a ca n ∧ SqL K H ca (ns.map V.int) ∧ n ≤ ns.length ∧ k ≤ 100 ∧ PyFlat.rows k (ns.drop n) = some (xs, rest) ∧
  ∀ H' p bs m, RdAt C H' a ca m → m ≤ ns.length → ns.drop m = rest → Keep a H H' → H p = none → LIat H H' p bs xs → Q (.ref p) H'
theorem cut_nat (xs : List V) (n m : Nat) (h : n + m ≤ xs.length) : cutV xs (some (n : Int)) (some ((n : Int) + (m : Int))) = (xs.drop n).take m := by
  unfold cutV
  rw [show ((n : Int) + (m : Int)) = ((n + m : Nat) : Int) by omega, HT.sIx_nat, HT.sIx_nat, Nat.min_eq_left h, Nat.min_eq_left (by omega)]
  congr 1
  omega
section
variable {P : Program} {w : World} {K : PySem.W.Frag} {mg : Str → Option Value} {base : Heap} {C : Addr}
theorem scRInit : FnScope ["self", "calls"] ["self", "calls"] (defScope sRInit) := ⟨rfl, rfl, rfl, by decide +kernel, rfl, by decide +kernel, by decide +kernel⟩
theorem ok_rinit {f : Addr} {fd : FuncData} (F : Fun K "__init__" "CallReader.__init__" sRInit f fd) (T : RdTxt K C) : FnOk P w K mg base CX0 1 f fd ["self", "calls"] (spRInit C) := by
  refine F.ok scRInit (fun vs H Q E h => ?_) (fun cdv A outer s H vs Q E hr h => ?_)
  · obtain ⟨_, _, _, rfl, _⟩ := h
    rfl
  obtain ⟨p, dx, ca, rfl, hp, q⟩ := h
  refine ⟨_, pss_cons (ps_fld (pv 0) (pv 1) rfl) (pss_one (ps_fld (pv 0) pe_int rfl)), ?_⟩
  refine ⟨_, rfl, _, rfl, p, C, dx, [], rfl, hp, T.cl, T.nC, (by show 0 < 1000; decide), ?_⟩
  refine ⟨_, rfl, p, C, dx, _, rfl, upd_same, T.cl, T.nA, (by show 1 < 1000; decide), ?_⟩
  refine q _ ⟨dx, ?_⟩ ((Keep.put _ _).trans (Keep.put _ _))
  rw [upd_same, rdF_new]
theorem scRHas : FnScope ["self"] ["self"] (defScope sRHas) := ⟨rfl, rfl, rfl, by decide +kernel, rfl, by decide +kernel, by decide +kernel⟩
theorem ok_rhas {f : Addr} {fd : FuncData} {k : Nat} (F : Fun K "has_more" "CallReader.has_more" sRHas f fd) (T : RdTxt K C) (ml : mg "len" = none) : FnOk P w K mg base CX0 (k + 1) f fd ["self"] (spRHas K C) := by
  refine F.ok scRHas (fun vs H Q E h => ?_) (fun cdv A outer s H vs Q E hr h => ?_)
  · obtain ⟨_, _, _, _, rfl, _⟩ := h
    rfl
  obtain ⟨a, ca, n, ns, rfl, ⟨dx, ha⟩, hs, q⟩ := h
  refine ⟨_, pss_one (ps_ret (pe_cmpR op_lt (pe_fld (pv 0) rfl) (pe_callB call_len_seq (by rfl) ml PySem.boot_len (pa_cons (pe_fld (pv 0) rfl) pa_nil)) (nomark _))), ?_⟩
  refine ⟨_, rfl, a, C, dx, _, _, rfl, ha, T.cl, T.nA, rdF_at ca n, _, rfl, a, C, dx, _, _, rfl, ha, T.cl, T.nC, rdF_calls ca n, ca, _, rfl, .inl hs, _, _, rfl, rfl, ?_⟩
  have e : decide ((n : Int) < (((ns.map V.int).length : Nat) : Int)) = decide (n < ns.length) := by
    rw [List.length_map]
    by_cases c : n < ns.length
    · rw [decide_eq_true c, decide_eq_true (by omega)]
    · rw [decide_eq_false c, decide_eq_false (by omega)]
  rw [← e] at q
  exact q
theorem scRNum : FnScope ["self", "number"] ["self"] (defScope sRNum) := ⟨rfl, rfl, rfl, by decide +kernel, rfl, by decide +kernel, by decide +kernel⟩
theorem ok_rnum {f : Addr} {fd : FuncData} {k : Nat} (F : Fun K "take_number" "CallReader.take_number" sRNum f fd) (T : RdTxt K C) : FnOk P w K mg base CX0 (k + 1) f fd ["self"] (spRNum K C) := by
  refine F.ok scRNum (fun vs H Q E h => ?_) (fun cdv A outer s H vs Q E hr h => ?_)
  · obtain ⟨_, _, _, _, _, rfl, _⟩ := h
    rfl
  obtain ⟨a, ca, n, ns, z, rfl, ⟨dx, ha⟩, hs, hz, q⟩ := h
  refine ⟨_, pss_cons (ps_set (i := 1) scRNum.nd rfl (.inl rfl) (pe_ix ix_list (pe_fld (pv 0) rfl) (pe_fld (pv 0) rfl) (fun _ _ => rfl)))
    (pss_cons (ps_fld (pv 0) (pe_op op_add (pe_fld (pv 0) rfl) pe_int) rfl)
    (pss_one (ps_ret (pv 1)))), ?_⟩
  have gz : (ns.map V.int)[n]? = some (.int z) := by rw [List.getElem?_map, hz]; rfl
  refine ⟨_, rfl, a, C, dx, _, _, rfl, ha, T.cl, T.nC, rdF_calls ca n, _, rfl, a, C, dx, _, _, rfl, ha, T.cl, T.nA, rdF_at ca n, ca, _, _, _, rfl, rfl, hs, atI_nat gz, ?_⟩
  refine ⟨_, rfl, a, C, dx, _, _, rfl, ha, T.cl, T.nA, rdF_at ca n, _, _, rfl, rfl, _, rfl, a, C, dx, _, rfl, ha, T.cl, T.nA, (by show 2 < 1000; decide), _, rfl, ?_⟩
  exact q _ ⟨dx, by rw [upd_same]; exact congrArg (fun z => some (HO.ins C dx z)) (rdF_put ca n (n + 1))⟩ (Keep.put _ _)
theorem scRNums : FnScope ["self", "how_many", "numbers"] ["self", "how_many"] (defScope sRNums) := ⟨rfl, rfl, rfl, by decide +kernel, rfl, by decide +kernel, by decide +kernel⟩
theorem ok_rnums {f : Addr} {fd : FuncData} {k : Nat} (F : Fun K "take_numbers" "CallReader.take_numbers" sRNums f fd) (T : RdTxt K C) : FnOk P w K mg base CX0 (k + 1) f fd ["self", "how_many"] (spRNums K C) := by
  refine F.ok scRNums (fun vs H Q E h => ?_) (fun cdv A outer s H vs Q E hr h => ?_)
  · obtain ⟨_, _, _, _, _, rfl, _⟩ := h
    rfl
  obtain ⟨a, ca, n, m, ns, rfl, ⟨dx, ha⟩, hs, hl, q⟩ := h
  refine ⟨_, pss_cons (ps_set (i := 2) scRNums.nd rfl (.inl rfl) (pe_slice sl_list (pe_fld (pv 0) rfl) (po_some (pe_fld (pv 0) rfl)) (po_some (pe_op op_add (pe_fld (pv 0) rfl) (pv 1)))))
    (pss_cons (ps_fld (pv 0) (pe_op op_add (pe_fld (pv 0) rfl) (pv 1)) rfl)
    (pss_one (ps_ret (pv 2)))), ?_⟩
  refine ⟨_, rfl, a, C, dx, _, _, rfl, ha, T.cl, T.nC, rdF_calls ca n, _, rfl, a, C, dx, _, _, rfl, ha, T.cl, T.nA, rdF_at ca n, _, rfl, _, rfl, a, C, dx, _, _, rfl, ha, T.cl, T.nA, rdF_at ca n, _, rfl, _, _, rfl, rfl, _, rfl, ca, _, rfl, hs, fun p np => ?_⟩
  rw [cut_nat _ n m (by rw [List.length_map]; exact hl)]
  have sp : Same H (upd H p (.lst (((ns.map V.int).drop n).take m))) := same_new np _
  have ha2 := sp _ _ ha
  have npa : p ≠ a := fun e => by rw [e, ha] at np; cases np
  refine ⟨_, rfl, a, C, dx, _, _, rfl, ha2, T.cl, T.nA, rdF_at ca n, _, rfl, _, _, rfl, rfl, _, rfl, a, C, dx, _, rfl, ha2, T.cl, T.nA, (by show 2 < 1000; decide), _, rfl, ?_⟩
  refine q _ p ⟨dx, by rw [upd_same]; exact congrArg (fun z => some (HO.ins C dx z)) (rdF_put ca n (n + m))⟩ ((Keep.of sp).trans (Keep.put _ _)) np ?_
  rw [upd_ne npa, upd_same, List.map_take, List.map_drop]
theorem scRLists : FnScope ["self", "how_many", "lists", "turn"] ["self", "how_many"] (defScope sRLists) := ⟨rfl, rfl, rfl, by decide +kernel, rfl, by decide +kernel, by decide +kernel⟩
/-- rows read from the left, one after another -/
theorem rows_split : ∀ (k : Nat) (l : List Int) (xs : List (List Int)) (rest : List Int), PyFlat.rows k l = some (xs, rest) → ∀ i, i < k → ∃ (r : List Int) (n : Nat) (x : List Int), PyFlat.rows i l = some (xs.take i, r) ∧ r = (n : Int) :: x ∧ n ≤ x.length ∧ xs[i]? = some (x.take n) ∧ PyFlat.rows (i + 1) l = some (xs.take (i + 1), x.drop n)
  | 0, _, _, _, _, i, hi => absurd hi (Nat.not_lt_zero _)
  | k + 1, l, xs, rest, h, i, hi => by
    unfold PyFlat.rows at h
    cases e : PyFlat.row l with
    | none => rw [e] at h; cases h
    | some q =>
      obtain ⟨y, t⟩ := q
      rw [e] at h
      cases e2 : PyFlat.rows k t with
      | none => simp only [e2] at h; cases h
      | some q2 =>
        obtain ⟨ys, u⟩ := q2
        simp only [e2] at h
        cases h
        cases i with
        | zero =>
          cases l with
          | nil => cases e
          | cons z r =>
            have e' : (if 0 ≤ z ∧ z.toNat ≤ r.length then some (r.take z.toNat, r.drop z.toNat) else none) = some (y, t) := e
            by_cases c : 0 ≤ z ∧ z.toNat ≤ r.length
            · rw [if_pos c] at e'
              cases e'
              refine ⟨z :: r, z.toNat, r, rfl, by rw [Int.toNat_of_nonneg c.1], c.2, rfl, ?_⟩
              unfold PyFlat.rows
              rw [e]
              rfl
            · rw [if_neg c] at e'; cases e'
        | succ i =>
          obtain ⟨r, n, x, h1, h2, h3, h4, h5⟩ := rows_split k t ys rest e2 i (by omega)
          refine ⟨r, n, x, ?_, h2, h3, h4, ?_⟩
          · unfold PyFlat.rows
            rw [e]
            simp only [h1]
            rfl
          · unfold PyFlat.rows
            rw [e]
            simp only [h5]
            rfl
theorem ok_rlists {f fN fM : Addr} {fd fdN fdM : FuncData} (F : Fun K "take_lists" "CallReader.take_lists" sRLists f fd) (T : RdTxt K C) (mr : mg "range" = none)
    (GN : FnOk P w K mg base CX0 1 fN fdN ["self"] (spRNum K C)) (bN : Binds K fdN ["self"] []) (mN : Meth K C "take_number" fN)
    (GM : FnOk P w K mg base CX0 1 fM fdM ["self", "how_many"] (spRNums K C)) (bM : Binds K fdM ["self", "how_many"] []) (mM : Meth K C "take_numbers" fM) : FnOk P w K mg base CX0 2 f fd ["self", "how_many"] (spRLists K C) := by
  refine F.ok scRLists (fun vs H Q E h => ?_) (fun cdv A outer s H vs Q E hr h => ?_)
  · obtain ⟨_, _, _, _, _, _, _, rfl, _⟩ := h
    rfl
  obtain ⟨a, ca, n, k, ns, rest, xs, rfl, hR, hs, hn, hk, hrows, q⟩ := h
  refine ⟨_, pss_cons (ps_set (i := 2) scRLists.nd rfl (.inl rfl) (pe_lst pa_nil))
    (pss_cons (ps_for PassesOwn.never rfl (pi_range1 (by rfl) mr (pa_cons (pv 1) pa_nil)) (pg_name (i := 3) scRLists.nd rfl (Or.inl rfl))
      (pss_one (ps_expr (pe_bm PySem.F.plainAttrs_list PySem.F.slot_list_append PySem.F.type_list_append mt_append (pv 2) (pa_cons (pe_meth (pv 0) T.cl mM GM hr bM .nil pass0 (pa_cons (pe_meth0 (pv 0) T.cl mN GN hr bN .nil pass0) pa_nil)) pa_nil)))))
    (pss_one (ps_ret (pv 2)))), ?_⟩
  refine ⟨Nat.zero_le _, fun o no => ?_⟩
  have s0 : Same H (upd H o (.lst [])) := same_new no _
  obtain ⟨dx, ha⟩ := hR
  have noa : o ≠ a := fun e => by rw [e, ha] at no; cases no
  refine ⟨_, rfl, _, rfl, by omega, by omega, ?_⟩
  rw [show ((k : Int)).toNat = k by simp]
  refine for_range (lo := 0) (n := k) (fun i σ H1 => ∃ v m bs, σ = [some (.ref a), some (vn k), some (.ref o), v] ∧ RdAt C H1 a ca m ∧ m ≤ ns.length ∧ PyFlat.rows i (ns.drop n) = some (xs.take i, ns.drop m) ∧ Keep a H H1 ∧ LIat H H1 o bs (xs.take i))
    ⟨none, n, [], rfl, ⟨dx, s0 _ _ ha⟩, hn, rfl, Keep.of s0, ⟨upd_same, rfl, fun i b x e => by simp at e, fun b hb => by simp at hb, fun b hb => by simp at hb⟩⟩ ?_ ?_
  · rintro i σ H1 hi ⟨v, m, bs, rfl, ⟨d1, h1⟩, hm, hr1, k1, L⟩
    obtain ⟨r, c, x, e1, e2, e3, e4, e5⟩ := rows_split k _ _ _ hrows i hi
    rw [hr1] at e1
    have er : ns.drop m = (c : Int) :: x := by
      have := (Prod.mk.inj (Option.some.inj e1)).2
      rw [this]; exact e2
    have hz : ns[m]? = some (c : Int) := by
      have : (ns.drop m)[0]? = some (c : Int) := by rw [er]; rfl
      rwa [List.getElem?_drop, Nat.add_zero] at this
    have ex : ns.drop (m + 1) = x := by
      have : (ns.drop m).drop 1 = x := by rw [er]; rfl
      rwa [List.drop_drop] at this
    have hml : m + 1 + c ≤ ns.length := by
      have : (ns.drop (m + 1)).length = x.length := by rw [ex]
      rw [List.length_drop] at this
      have : m < ns.length := by
        obtain ⟨z, _⟩ := List.getElem?_eq_some_iff.mp hz
        exact z
      omega
    have hs1 := k1.seq ha hs
    refine ⟨_, rfl, .inl ⟨rfl, _, SqL.of L.top⟩, ?_⟩
    refine ⟨_, rfl, a, d1, _, rfl, h1, rdF_none ca m (by decide +kernel) (by decide +kernel), ?_⟩
    refine ⟨_, rfl, a, d1, _, rfl, h1, rdF_none ca m (by decide +kernel) (by decide +kernel), a, ca, m, ns, (c : Int), rfl, ⟨d1, h1⟩, hs1, hz, fun H2 hR2 k2 => ?_⟩
    have hs2 := k2.seq h1 hs1
    refine ⟨a, ca, m + 1, c, ns, rfl, hR2, hs2, hml, fun H3 p hR3 k3 np hp => ?_⟩
    rw [ex] at hp
    have hoH1 := L.top
    have k13 : Keep a H1 H3 := k2.trans k3
    have hoH3 := k13 _ _ hoH1 noa
    have hpo : p ≠ o := fun e => by
      rw [e, k2 _ _ hoH1 noa] at np
      cases np
    have hpH : H p = none := by
      cases z : H p with
      | none => rfl
      | some u =>
        by_cases pa : p = a
        · obtain ⟨d2, h2⟩ := hR2
          rw [pa, h2] at np
          cases np
        · rw [k2 _ _ (k1 _ _ z pa) pa] at np
          cases np
    have hil : i < xs.length := by
      obtain ⟨z, _⟩ := List.getElem?_eq_some_iff.mp e4
      exact z
    have bl : bs.length = i := by rw [L.len, List.length_take]; omega
    have lt : (bs.map V.ref).length < sizeLine := by
      rw [List.length_map, bl]
      exact small1000 (by omega)
    refine ⟨o, _, _, rfl, rfl, hoH3, lt, some (.int (0 + (i : Int))), m + 1 + c, bs ++ [p], rfl, ?_, hml, ?_, ?_, ?_⟩
    · obtain ⟨d3, h3⟩ := hR3
      exact ⟨d3, by rw [upd_ne noa.symm]; exact h3⟩
    · rw [e5, ← ex, List.drop_drop]
    · exact fun b u e ne => by
        have nbo : b ≠ o := ne_of_none e no
        rw [upd_ne nbo]
        exact k13 _ _ (k1 _ _ e ne) ne
    · refine ⟨by rw [upd_same, List.map_append]; rfl, by rw [List.length_append, bl, List.length_take]; simp; omega, fun j b y hb hy => ?_, fun b hb => ?_, fun b hb => ?_⟩
      · by_cases hj : j < i
        · rw [List.getElem?_append_left (by rw [bl]; exact hj)] at hb
          have nbo := L.ne b (List.mem_of_getElem? hb)
          have nba : b ≠ a := fun e => by
            have := L.new b (List.mem_of_getElem? hb)
            rw [e, ha] at this
            cases this
          rw [upd_ne nbo]
          refine k13 _ _ (L.row j b y hb ?_) nba
          rw [List.getElem?_take_of_lt hj]
          rw [List.getElem?_take_of_lt (by omega)] at hy
          exact hy
        · have ej : j = i := by
            obtain ⟨z, _⟩ := List.getElem?_eq_some_iff.mp hb
            rw [List.length_append, bl] at z
            have : ([p] : List Addr).length = 1 := rfl
            omega
          subst ej
          rw [List.getElem?_append_right (by rw [bl]; exact Nat.le_refl _), bl, Nat.sub_self] at hb
          have eb : p = b := Option.some.inj hb
          subst eb
          rw [List.getElem?_take_of_lt (by omega), e4] at hy
          have ey := Option.some.inj hy
          subst ey
          rw [upd_ne hpo]
          exact hp
      · rcases List.mem_append.mp hb with z | z
        · exact L.new b z
        · simp at z; subst z; exact hpH
      · rcases List.mem_append.mp hb with z | z
        · exact L.ne b z
        · simp at z; subst z; exact hpo
  · rintro σ H1 ⟨v, m, bs, rfl, hR1, hm, hr1, k1, L⟩
    rw [hrows] at hr1
    have e := Prod.mk.inj (Option.some.inj hr1)
    rw [← e.1] at L
    exact ⟨_, rfl, q H1 o bs m hR1 hm e.2.symm k1 no L⟩
end
end SC
namespace SC
open PySem PySem.Spec PyProof.Rows L2
/-! ### lists of ints in the heap -/
def iv (l : List Int) : List V := l.map V.int
theorem iv_len (l : List Int) : (iv l).length = l.length := List.length_map ..
theorem iv_get {l : List Int} {i : Nat} {x : V} (h : (iv l)[i]? = some x) : ∃ n, l[i]? = some n ∧ x = .int n := by
  unfold iv at h
  rw [List.getElem?_map] at h
  cases e : l[i]? with
  | none => rw [e] at h; cases h
  | some n => rw [e] at h; exact ⟨n, rfl, (Option.some.inj h).symm⟩
def dii (l : List Int) : PyData := .list (l.map .int)
theorem dii_dp {K : PySem.W.Frag} {H : Hp} : ∀ l : List Int, DpAll K H (iv l) (l.map .int)
  | [] => .nil
  | n :: r => .cons (.int _) (dii_dp r)
theorem dii_at {K : PySem.W.Frag} {H : Hp} {a : Addr} {l : List Int} (h : SqL K H a (iv l)) : Dp K H (.ref a) (dii l) := .lst h (dii_dp l)
theorem dii_depth (l : List Int) : (dii l).depth = 1 := by
  show PyData.depth (.list (l.map .int)) = 1
  rw [PyData.depth, PySem.W.depth_ints]
theorem dii_alike (x y : List Int) : PySem.W.alike (dii x) (dii y) = true := by
  show PySem.W.alike (.list _) (.list _) = true
  rw [PySem.W.alike]
  exact PySem.W.alike_ints x y
theorem dii_lt (x y : List Int) : PySem.W.dataLt (dii x) (dii y) = decide (x < y) := by
  show PySem.W.dataLt (.list _) (.list _) = _
  rw [PySem.W.dataLt_list]
  exact PySem.W.dataLt_ints x y
theorem diis_lays : ∀ l : List Int, PyData.canLayAll0 (l.map .int) = true
  | [] => by simp [PyData.canLayAll0]
  | n :: r => by simp [PyData.canLayAll0, PyData.canLay0, diis_lays r]
theorem dii_shaped (l : List Int) : SeqAt.shaped (dii l) = true := by
  have h := dii_depth l
  show ((dii l).canLay0 && decide ((dii l).depth ≤ 64)) = true
  rw [Bool.and_eq_true]
  exact ⟨by simp [dii, PyData.canLay0, diis_lays l], decide_eq_true (by omega)⟩
theorem diis_eqv : ∀ x y : List Int, PyData.eqvAll (x.map .int) (y.map .int) = decide (x = y)
  | [], [] => by simp [PyData.eqvAll]
  | [], _ :: _ => by simp [PyData.eqvAll]
  | _ :: _, [] => by simp [PyData.eqvAll]
  | a :: x, b :: y => by
    simp only [List.map_cons, PyData.eqvAll, PyData.eqv]
    rw [diis_eqv x y, Bool.eq_iff_iff]
    simp only [Bool.and_eq_true, beq_iff_eq, decide_eq_true_eq, List.cons.injEq]
theorem dii_eq (x y : List Int) : PyData.eqv (dii x) (dii y) = decide (x = y) := by
  show PyData.eqvAll _ _ = _
  exact diis_eqv x y
def diiss (g : List (List Int)) : PyData := .list (g.map dii)
theorem diiss_lays : ∀ g : List (List Int), PyData.canLayAll0 (g.map dii) = true
  | [] => by simp [PyData.canLayAll0]
  | l :: r => by simp [PyData.canLayAll0, dii, PyData.canLay0, diis_lays l, diiss_lays r]
theorem diiss_depths : ∀ g : List (List Int), PyData.depthAll (g.map dii) ≤ 3
  | [] => by simp [PyData.depthAll]
  | l :: r => by
    have h1 := diiss_depths r
    have h2 := dii_depth l
    simp only [List.map_cons, PyData.depthAll]
    omega
theorem diiss_shaped (g : List (List Int)) : SeqAt.shaped (diiss g) = true := by
  have h := diiss_depths g
  show ((diiss g).canLay0 && decide ((diiss g).depth ≤ 64)) = true
  rw [Bool.and_eq_true]
  refine ⟨by simp [diiss, PyData.canLay0, diiss_lays g], ?_⟩
  simp only [diiss, PyData.depth, decide_eq_true_eq]
  omega
theorem diiss_any (g : List (List Int)) (l : List Int) : ((g.map dii).any fun z => PyData.eqv z (dii l)) = g.contains l := by
  rw [List.any_map, Bool.eq_iff_iff]
  simp only [List.any_eq_true, Function.comp, dii_eq, decide_eq_true_eq, List.contains_eq_mem]
  exact ⟨fun ⟨x, hx, e⟩ => e ▸ hx, fun h => ⟨l, h, rfl⟩⟩
section
variable {X : Cx}
/-- xs < ys, lists of ints -/
def rLtL (K : PySem.W.Frag) : R2 := fun x y H Q => ∃ a b ns ms, x = .ref a ∧ y = .ref b ∧ SqL K H a (iv ns) ∧ SqL K H b (iv ms) ∧ Q (.bl (decide (ns < ms))) H
theorem op_ltL (hu : X.A.units + 64 < cLine) : OpR X (compareOp .Lt) (rLtL X.K) := by
  intro pins s σ H x y v u Q I rx ry h
  obtain ⟨a, b, ns, ms, rfl, rfl, ha, hb, q⟩ := h
  obtain ⟨as, r1⟩ := Dp.reads I (dii ns) _ v (dii_at ha) rx
  obtain ⟨bs, r2⟩ := Dp.reads I (dii ms) _ u (dii_at hb) ry
  have hd := dii_depth ns
  have L := PySem.W.rcLt_alike (dii ns) (dii ms) X.A s v u as bs r1 r2 (dii_alike ns ms) (by intro z; cases z) (by rw [hd]; omega)
  rw [dii_lt] at L
  exact L X.prog X.w X.xe _ ⟨.bl _, H, I, rfl, q⟩
/-- rows.remove(row), where it is there -/
def rRemL (K : PySem.W.Frag) : V → List V → Hp → VK → Prop := fun x xs H Q => ∃ (l b : Addr) (vs : List V) (g : List (List Int)) (r : List Int) (j : Nat), x = .ref l ∧ xs = [.ref b] ∧ H l = some (.lst vs) ∧ DpAll K H vs (g.map dii) ∧ SqL K H b (iv r) ∧
  g[j]? = some r ∧ (∀ m : Nat, m < j → g[m]? ≠ some r) ∧ Q .non (upd H l (.lst (vs.eraseIdx j)))
theorem diiss_plain : ∀ g : List (List Int), PyData.plainAll (g.map dii) = true
  | [] => by simp [PyData.plainAll]
  | l :: r => by
    have e : ∀ l : List Int, PyData.plainAll (l.map .int) = true := by
      intro l
      induction l with
      | nil => simp [PyData.plainAll]
      | cons n t ih => simp [PyData.plainAll, PyData.plain, ih]
    simp [PyData.plainAll, dii, PyData.plain, e l, diiss_plain r]
theorem dii_plain (l : List Int) : (dii l).plain = true := by
  have := diiss_plain [l]
  simpa [PyData.plainAll] using this
theorem dp_len {K : PySem.W.Frag} {H : Hp} : ∀ {vs : List V} {ds : List PyData}, DpAll K H vs ds → vs.length = ds.length
  | _, _, .nil => rfl
  | _, _, .cons _ t => congrArg (· + 1) (dp_len t)
theorem mt_remL (hu : X.A.units + 64 < cLine) : MtM X "list.remove" (rRemL X.K) := by
  intro pins s σ H x xs v us Q I rx rxs h
  obtain ⟨l, b, vs, g, r, j, rfl, rfl, hH, hg, hb, hj, hno, q⟩ := h
  cases rx
  obtain ⟨u, rfl, ru⟩ := rxs.one
  obtain ⟨z, its, n, rv, hl, e⟩ := I.lstM hH
  obtain ⟨as, rs⟩ := Dp.readsAll I (g.map dii) vs its hg rv
  obtain ⟨bs, rb⟩ := Dp.reads I (dii r) _ u (dii_at hb) ru
  have hd := dii_depth r
  have hpl : SeqAt.dataPlace (g.map dii) (dii r) = some j := by
    unfold SeqAt.dataPlace
    obtain ⟨hjl, hje⟩ := List.getElem?_eq_some_iff.mp hj
    rw [List.findIdx?_eq_some_iff_getElem]
    refine ⟨by rw [List.length_map]; exact hjl, ?_, fun m hm => ?_⟩
    · rw [List.getElem_map, dii_eq, hje]; simp
    · have hml : m < g.length := by omega
      rw [List.getElem_map, dii_eq]
      have := hno m hm
      rw [List.getElem?_eq_getElem hml] at this
      simpa using this
  refine SeqAt.remove_list_data (vs := its.toArray) (xs := g.map dii) (d := dii r) (as := as) (bs := bs) ⟨_, e, rfl, _, rfl⟩ rs rb (diiss_plain g) (dii_plain r) (by omega) hpl (by rw [List.size_toArray, ← hl]; exact z) ?_
  refine ⟨.non, _, I.lset (its' := its.eraseIdx j) (t' := s.toks) hH e ?_ (rv.eraseIdx j) ?_, rfl, q⟩
  · show its.toArray.eraseIdxIfInBounds j = (its.eraseIdx j).toArray
    rw [List.eraseIdxIfInBounds_toArray]
  · have : (vs.eraseIdx j).length ≤ vs.length := List.length_eraseIdx_le _ _
    omega
end
end SC
namespace SR
open PySem PySem.Spec PyProof.Rows L2
open SC (iv dii)
open PySem.W (EachIs AllAlike Sortable keyH_end KeepsBut)
theorem vals_refs : ∀ {ks : List Addr} {us : List Value}, Vals (ks.map V.ref) us → us = ks.map Value.ref
  | [], _, h => by cases h; rfl
  | k :: ks, _, h => by
    cases h with
    | cons r t =>
      rw [vals_refs t, show _ = Value.ref k from r]; rfl
theorem each_vals : ∀ {xs : List V} {us : List Value}, Vals xs us → EachIs (fun u x => RelV x u) us xs
  | _, _, .nil => .nil
  | _, _, .cons r t => .cons r (each_vals t)
theorem vals_each : ∀ {xs : List V} {us : List Value}, EachIs (fun u x => RelV x u) us xs → Vals xs us
  | _, _, .nil => .nil
  | _, _, .cons r t => .cons r (vals_each t)
/-- what is tracked, but for one object -/
def gone (H : Hp) (a : Addr) : Hp := fun b => if b = a then none else H b
theorem gone_same {H : Hp} {a : Addr} : gone H a a = none := if_pos rfl
theorem gone_ne {H : Hp} {a b : Addr} (h : b ≠ a) : gone H a b = H b := if_neg h
/-- what a call of the key's function must come to: a new list of ints -/
def KeyEnds (X : Cx) (pins : List (Addr × Obj)) (σ : L2.St) (H : Hp) (k : List Int) (u : Value) (s' : Shared) : Prop :=
  ∃ (r : Addr) (H' : Hp), Inv X pins σ H' s' ∧ Same H H' ∧ u = .ref r ∧ H r = none ∧ H' r = some (.lst (iv k))
section
variable {X : Cx} {pins : List (Addr × Obj)} {σ : L2.St} {H : Hp} {s : Shared}
theorem Inv.sorted {h' : Heap} {t' : Nat} {a kS : Addr} {xs : List V} {ks : List V} {us : List Value} {c : Nat} (I : Inv X pins σ H s) (hk : H kS = some (.lst ks)) (ha : H a = none) (nak : kS ≠ a) (big : ∀ b, (b = a ∨ b = kS) → X.s_0.heap.objs.size ≤ b ∧ b ≠ X.env.locals ∧ (∀ x c, X.env.cells.lookup x = some c → c ≠ b) ∧ ∀ p ∈ X.pn ++ pins, p.1 ≠ b)
    (kp : ∀ b o, b ≠ a → b ≠ kS → s.heap.get? b = some o → h'.get? b = some o) (hat : h'.get? a = some (seqObj "list" us.toArray c)) (rv : Vals xs us) (hz : xs.length ≤ sizeLine) :
    Inv X pins σ (upd (gone H kS) a (.lst xs)) { s with heap := h', toks := t' } := by
  have at_ : ∀ b, b ≠ a → b ≠ kS → upd (gone H kS) a (.lst xs) b = H b := fun b h1 h2 => by rw [upd_ne h1, gone_ne h2]
  have neA : ∀ b u, H b = some u → b ≠ a := fun b u e => ne_of_none e ha
  have neK : ∀ b u, H b = some u → (∀ l, u ≠ .lst l) → b ≠ kS := fun b u e n z => by
    rw [z, hk] at e
    exact n _ (Option.some.inj e).symm
  refine I.step (g' := s.gens) (d' := s.drawn) (ch := [a, kS]) (fun b hb => ?_) (fun b o _ _ hc e n => kp b o (fun z => hc (by rw [z]; simp)) (fun z => hc (by rw [z]; simp)) e)
    (fun b o _ _ hc e n => ⟨o.slots, kp b o (fun z => hc (by rw [z]; simp)) (fun z => hc (by rw [z]; simp)) e⟩) (fun b o hc e n => ?_) (fun b o hc e => ⟨o, kp b o (fun z => hc (by rw [z]; simp)) (fun z => hc (by rw [z]; simp)) e⟩)
    (fun b l e => ?_) (fun b o u e => ?_) (fun b ps e => ?_) (fun m hn => ?_) (fun b u e => ?_) I.bare
  · have hb' : b = a ∨ b = kS := by simpa using hb
    obtain ⟨h1, h2⟩ := big b hb'
    exact ⟨.inr h1, h2⟩
  · have n1 : b ≠ a := fun z => hc (by rw [z]; simp)
    have n2 : b ≠ kS := fun z => hc (by rw [z]; simp)
    rw [at_ b n1 n2]; exact n
  · rw [at_ b (neA b _ e) (neK b _ e fun l z => by cases z)]; exact e
  · rw [at_ b (neA b _ e) (neK b _ e fun l z => by cases z)]; exact e
  · rw [at_ b (neA b _ e) (neK b _ e fun l z => by cases z), e]
    exact ⟨#[], by simp⟩
  · obtain ⟨o, es, ep, e, r⟩ := hn
    exact ⟨o, es, ep, kp _ o (fun z => (big a (.inl rfl)).2.1 z.symm) (fun z => (big kS (.inr rfl)).2.1 z.symm) e, r⟩
  · by_cases hb : b = a
    · subst hb
      rw [upd_same] at e
      cases e
      exact ⟨hz, us, c, rv, hat⟩
    · rw [upd_ne hb] at e
      by_cases hb2 : b = kS
      · rw [hb2, gone_same] at e; cases e
      · rw [gone_ne hb2] at e
        refine (I.hok b u e).stay (fun d v hd q => ?_) (fun d q => by rw [at_ d (neA d _ q) (neK d _ q fun l z => by cases z)]; exact q) fun d l q => by rw [at_ d (neA d _ q) (neK d _ q fun l z => by cases z)]; exact q
        rcases hd with z | z
        · exact kp d v (by rw [z]; exact hb) (by rw [z]; exact hb2) q
        · exact kp d v (neA d _ z) (neK d _ z fun l z => by cases z) q
/-- sorted(xs, key=f): f's calls keep all that is tracked, and give new lists of ints -/
theorem sorted_key_lists {l q : Addr} {xs : List V} {Q : VK} (I : Inv X pins σ H s) (hs : SqL X.K H l xs) (kf : V → List Int) (hu : X.A.units + 64 < cLine)
    (turn : ∀ (x : V) (u : Value), x ∈ xs → RelV x u → ∀ (pins' : List (Addr × Obj)) (H' : Hp) (s' : Shared), (∀ p ∈ pins, p ∈ pins') → Inv X pins' σ H' s' → Same H H' →
      wpAny (model X.prog X.w) X.A.in1.in1 (call (.ref q) [u]) (KeyEnds X pins' σ H' (kf x)) (fun _ _ => False) s')
    (h : ∀ (H' : Hp) (p : Addr), Same H H' → H p = none → H' p = some (.lst (xs.mergeSort fun x y => decide (kf x ≤ kf y))) → Q (.ref p) H') :
    wpAny (model X.prog X.w) X.A (call (.builtin "sorted") [.ref l] [(Str.ofString "key", .ref q)]) (EP X pins σ Q) X.xe s := by
  obtain ⟨vs, rv, hl, hz⟩ := I.list hs
  have hvl := rv.length
  have hZ : vs.length ≤ sizeLine := by rw [← hvl]; exact hz
  refine PySem.W.sorted_of_sort hl.isList hZ (ksk_s1 _ _) (fun _ => ksk_l1 _ _) fun E' => ?_
  rw [ksk_t1]
  have ha : s.heap.objs.size + 1 < (PySem.W.copyHeap s.heap vs).objs.size := Heap.lt_size (PySem.W.copyHeap_at s.heap vs)
  have ho := PySem.W.copyHeap_at s.heap vs
  obtain ⟨e1, ho1⟩ : ∃ e1, ((PySem.W.copyHeap s.heap vs).update (s.heap.objs.size + 1) (Obj.mapSeq fun _ => (#[] : Array Value))).get? (s.heap.objs.size + 1) = some (seqObj "list" #[] e1) := ⟨_, get?_update_seq ho fun _ => #[]⟩
  unfold ksk_tree
  refine wpAny_bind (listItems_at ho rfl ?_)
  refine wpAny_bind (listUpdate_at ho rfl ?_ (by rw [List.size_toArray]; exact hZ) (Nat.zero_le _))
  refine wpAny_bind (seqEpoch_at ho1 rfl ?_)
  refine wpAny_bind (wpAny_newTuple ?_ (by show vs.length ≤ _; exact hZ))
  refine wpAny_bind (wpAny_newList ?_ (Nat.zero_le _))
  refine wpAny_holding ?_
  generalize eh2 : ((PySem.W.copyHeap s.heap vs).update (s.heap.objs.size + 1) (Obj.mapSeq fun _ => (#[] : Array Value))).push (seqObj "tuple" vs.toArray 0) = h2
  have keep2 : ∀ b o, s.heap.get? b = some o → h2.get? b = some o := fun b o e => by
    rw [← eh2]
    have lt := Heap.lt_size e
    exact Heap.get?_push_of_some _ ((Heap.get?_update_ne _ _ _ _ (Nat.ne_of_lt (Nat.lt_succ_of_lt lt))).trans (PySem.W.copyHeap_old e))
  have size2 : s.heap.objs.size + 2 ≤ h2.objs.size := by
    rw [← eh2, size_push', Heap.size_update]
    omega
  have at2 : h2.get? (s.heap.objs.size + 1) = some (seqObj "list" #[] e1) := by
    rw [← eh2]
    exact Heap.get?_push_of_some _ ho1
  have fresh0 : ∀ b, s.heap.objs.size ≤ b → H b = none := fun b hb => I.hok.fresh hb
  have far : ∀ b, s.heap.objs.size ≤ b → X.s_0.heap.objs.size ≤ b ∧ b ≠ X.env.locals ∧ (∀ x c, X.env.cells.lookup x = some c → c ≠ b) ∧ ∀ p ∈ X.pn ++ pins, p.1 ≠ b := fun b hb => by
    have lt := I.lt
    refine ⟨Nat.le_trans I.sz hb, Nat.ne_of_gt (Nat.lt_of_lt_of_le lt hb), fun x c e => ?_, fun p hp => ?_⟩
    · obtain ⟨v, o, ho, _⟩ := I.cell x c e
      exact Nat.ne_of_lt (Nat.lt_of_lt_of_le (Heap.lt_size ho) hb)
    · exact Nat.ne_of_lt (Nat.lt_of_lt_of_le (Heap.lt_size (I.pin p hp).1) hb)
  have nak : h2.objs.size ≠ s.heap.objs.size + 1 := by omega
  have kSbig : s.heap.objs.size ≤ h2.objs.size := by omega
  have nkS : H h2.objs.size = none := fresh0 _ kSbig
  have I5 : Inv X pins σ (upd H h2.objs.size (.lst [])) { s with heap := h2.push (seqObj "list" #[] 0) } :=
    I.laid (t' := s.toks) (fun b u e => Heap.get?_push_of_some _ (keep2 b u e)) kSbig ⟨Nat.zero_le _, [], 0, .nil, Heap.get?_push_size _ rfl⟩
  have I6 : Inv X ((s.heap.objs.size + 1, seqObj "list" #[] e1) :: pins) σ (upd H h2.objs.size (.lst [])) { s with heap := h2.push (seqObj "list" #[] 0) } := I5.pins_of fun p hp => by
    rcases List.mem_cons.mp hp with e | e
    · subst e
      refine ⟨Heap.get?_push_of_some _ at2, ?_, (far _ (Nat.le_succ _)).2.1, I.nofs (Nat.le_succ _), fun v z => by cases z⟩
      rw [upd_ne (Ne.symm nak)]
      exact fresh0 _ (Nat.le_succ _)
    · exact I5.pin p (List.mem_append_right _ e)
  have S5 : Same H (upd H h2.objs.size (.lst [])) := SC.same_new nkS _
  unfold ksk_rest
  refine wpAny_bind (wpAny_rule ?_)
  rw [List.forIn_toArray]
  refine wpAny_bind (ksk_fold (fun i s' => ∃ (H' : Hp) (ks : List Addr), Inv X ((s.heap.objs.size + 1, seqObj "list" #[] e1) :: pins) σ H' s' ∧ Same H H' ∧ H' h2.objs.size = some (.lst (ks.map V.ref)) ∧ ks.length = i ∧
      ∀ (j : Nat) (r : Addr), ks[j]? = some r → r ≠ h2.objs.size ∧ ∃ x, xs[j]? = some x ∧ H' r = some (.lst (iv (kf x)))) vs 0 _ ⟨_, [], I6, S5, upd_same, rfl, fun j r e => by simp at e⟩ ?step ?done)
  case step =>
    rintro j u s' hx ⟨H', ks, I', S', hkS, hkl, hks⟩
    simp only [Nat.zero_add] at hkl ⊢
    obtain ⟨x, hxj, rx⟩ : ∃ x, xs[j]? = some x ∧ RelV x u := by
      have hj : j < vs.length := (List.getElem?_eq_some_iff.mp hx).1
      have hj' : j < xs.length := by omega
      obtain ⟨u', hu', r'⟩ := rv.get (List.getElem?_eq_getElem hj')
      rw [hx] at hu'
      cases hu'
      exact ⟨_, List.getElem?_eq_getElem hj', r'⟩
    have hjn : j < vs.length := (List.getElem?_eq_some_iff.mp hx).1
    refine wpAny_bind (wpAny_attempt (wpAny_mono (turn x u (List.mem_of_getElem? hxj) rx _ H' s' (fun p hp => List.mem_cons_of_mem _ hp) I' S') (fun v s'' he => ?_) fun _ _ hF => hF.elim))
    obtain ⟨r, H'', I'', S'', rfl, nr, hr⟩ := he
    try dsimp only
    have hkS2 := S'' _ _ hkS
    obtain ⟨z, its, n, rt, hlt, e⟩ := I''.lstM hkS2
    have nrk : r ≠ h2.objs.size := fun z => by rw [z, hkS] at nr; cases nr
    have li : its.length = j := by rw [← hlt, List.length_map, hkl]
    refine wpAny_bind (listUpdate_at (f := (·.push (.ref r))) e rfl ?_ (by rw [List.size_toArray]; omega) (by rw [Array.size_push, List.size_toArray]; omega))
    refine wpAny_pure ⟨rfl, upd H'' h2.objs.size (.lst (ks.map V.ref ++ [V.ref r])), ks ++ [r], ?_, ?_, ?_, ?_, ?_⟩
    · refine I''.lset (its' := its ++ [.ref r]) (t' := s''.toks) hkS2 e ?_ ?_ ?_
      · simp
      · exact rt.append (.cons rfl .nil)
      · rw [List.length_append, List.length_map, hkl]
        show j + 1 ≤ sizeLine
        omega
    · exact SC.same_upd (S'.trans S'') nkS _
    · rw [upd_same, List.map_append]; rfl
    · rw [List.length_append, hkl]; rfl
    · intro i b hb
      by_cases hi : i < ks.length
      · rw [List.getElem?_append_left hi] at hb
        obtain ⟨nb, y, hy, hby⟩ := hks i b hb
        refine ⟨nb, y, hy, ?_⟩
        rw [upd_ne nb]
        exact S'' _ _ hby
      · have ei : i = ks.length := by
          obtain ⟨q, _⟩ := List.getElem?_eq_some_iff.mp hb
          rw [List.length_append] at q
          have : ([r] : List Addr).length = 1 := rfl
          omega
        subst ei
        rw [List.getElem?_append_right (Nat.le_refl _), Nat.sub_self] at hb
        have eb : r = b := Option.some.inj hb
        subst eb
        refine ⟨nrk, x, by rw [hkl]; exact hxj, ?_⟩
        rw [upd_ne nrk]
        exact hr
  case done =>
    rintro s' ⟨H', ks, I', S', hkS, hkl, hks⟩
    simp only [Nat.zero_add] at hkl
    obtain ⟨z, its, n, rt, hlt, e⟩ := I'.lstM hkS
    have eits := vals_refs rt
    have li : its.length = vs.length := by rw [← hlt, List.length_map, hkl]
    try dsimp only
    refine wpAny_bind (listItems_at e rfl ?_)
    obtain ⟨G, g1, g2⟩ := restrict s'.heap fun b => decide (b ≠ h2.objs.size)
    have gk : ∀ b o, b ≠ h2.objs.size → s'.heap.get? b = some o → G.get? b = some o := fun b o hb q => (g1 b (decide_eq_true hb)).trans q
    have gn : G.get? h2.objs.size = none := g2 _ (by simp)
    have pa := I'.pin (s.heap.objs.size + 1, seqObj "list" #[] e1) (List.mem_append_right _ List.mem_cons_self)
    have each : EachIs (fun v k => ∃ as, Reads s'.heap v k as) its (xs.map fun x => dii (kf x)) := by
      refine EachIs.of_zip (by rw [List.length_map, li, hvl]) fun p hp => ?_
      obtain ⟨i, hi⟩ := List.mem_iff_getElem?.mp hp
      rw [List.getElem?_zip_eq_some] at hi
      obtain ⟨h1, h2'⟩ := hi
      rw [eits, List.getElem?_map] at h1
      cases ek : ks[i]? with
      | none => rw [ek] at h1; cases h1
      | some r =>
        rw [ek] at h1
        have e1 : Value.ref r = p.1 := Option.some.inj h1
        obtain ⟨_, x, hx, hr⟩ := hks i r ek
        rw [List.getElem?_map, hx] at h2'
        have e2 : dii (kf x) = p.2 := Option.some.inj h2'
        rw [← e1, ← e2]
        exact Dp.reads I' (dii (kf x)) (.ref r) (.ref r) (SC.dii_at (SqL.of hr)) rfl
    have hal : AllAlike (xs.map fun x => dii (kf x)) := AllAlike.of fun b b' => SC.dii_alike _ _
    have hsk : Sortable (xs.map fun x => dii (kf x)) := Sortable.others fun b => ⟨(fun z => by cases z), fun l z => by cases z⟩
    refine keyH_end (κ := PySem.W.dataKind s'.heap (xs.map fun x => dii (kf x))) (h₁ := G) (a := s.heap.objs.size + 1) (fun b o _ q => ?_) gn e pa.1 nak (PySem.W.SortsAt.data each hal hsk fun d hd => ?_) (by rw [List.size_toArray]; exact li) hZ fun h' tk c kp hat => ⟨rfl, ?_⟩
    · by_cases hb : b = h2.objs.size
      · rw [hb, gn] at q; cases q
      · rw [← g1 b (decide_eq_true hb)]; exact q
    · obtain ⟨x, _, ex⟩ := List.mem_map.mp hd
      rw [← ex, SC.dii_depth]
      show X.A.units + 1 + 1 + 1 < cLine
      omega
    · have I0 : Inv X pins σ H' s' := I'.pins_of fun p hp => I'.pin p (List.mem_append_right _ (List.mem_cons_of_mem _ hp))
      have ko : EachIs (fun u x => RelV x u) (PySem.W.sortVals (PySem.W.dataKind s'.heap (xs.map fun x => dii (kf x))) false its vs) (xs.mergeSort (PySem.W.dataLe false fun x => dii (kf x))) :=
        PySem.W.keyedOut_each (fun x => dii (kf x)) ⟨s'.heap, its, hal, rfl, each⟩ (each_vals rv)
      have ele : PySem.W.dataLe false (fun x => dii (kf x)) = fun x y => decide (kf x ≤ kf y) := PySem.W.dataLe_rows kf
      rw [ele] at ko
      have na : H' (s.heap.objs.size + 1) = none := pa.2.1
      refine ⟨.ref (s.heap.objs.size + 1), _, SR.Inv.sorted (t' := tk) I0 hkS na nak (fun b hb => ?_) (fun b o n1 n2 q => kp b o n1 (gk b o n2 q)) hat (vals_each ko) ?_, rfl, h _ _ (fun b o q => ?_) (fresh0 _ (Nat.le_succ _)) upd_same⟩
      · rcases hb with e | e
        · rw [e]; exact far _ (Nat.le_succ _)
        · rw [e]; exact far _ kSbig
      · rw [List.length_mergeSort]; exact hz
      · have n1 : b ≠ s.heap.objs.size + 1 := ne_of_none q (fresh0 _ (Nat.le_succ _))
        have n2 : b ≠ h2.objs.size := ne_of_none q nkS
        rw [upd_ne n1, gone_ne n2]
        exact S' b o q
end
end SR
namespace SR
open PySem PySem.Spec PyProof.Rows L2 LamX NdefX
open SC (iv)
/-- a lambda as a made function: its body, an expression, stands apart -/
abbrev lamF (q : Str) (params : Arguments) (scope : Scope) (cl : List (Str × Addr)) (c : Addr) : NF := ⟨"<lambda>", q, params, [], scope, cl, c⟩
/-- sorted(xs, key=lambda a: ..): the table of code objects may grow; the key of an item is a new list of ints -/
def tSortLam (K : PySem.W.Frag) (T : List (Addr × Str)) (js : List Nat) (te : TE) (tb : TE) : TE := fun σ H Q => te σ H fun x H1 => ∃ l : Addr, x = .ref l ∧ Tabs T H1 ∧ ∀ H2, ExtN H1 H2 → Tabs T H2 →
  ∃ (xs : List V) (kf : V → List Int), SqL K H2 l xs ∧ (∀ y ∈ xs, ∀ H3, Same H2 H3 → tb (some y :: js.map (slotAt σ)) H3 fun z H4 => Same H3 H4 ∧ ∃ r, z = .ref r ∧ H3 r = none ∧ H4 r = some (.lst (iv (kf y)))) ∧
    ∀ H5 p, Same H2 H5 → H2 p = none → H5 p = some (.lst (xs.mergeSort fun x y => decide (kf x ≤ kf y))) → Q (.ref p) H5
section
variable {X : Cx}
theorem pe_sortLam {T : List (Addr × Str)} {c P : Addr} {k : Nat} {a : Str} {N fr : List Str} {js : List Nat} {e : Expr} {params : Arguments} {body : Expr} {scope : Scope} {te tb : TE} {p lpos kpos pos : Pos}
    (hg : Gl X "sorted") (hm : X.mg "sorted" = none) (hv : bootBuiltins "sorted" = some (.builtin "sorted")) (ha : PE X e te)
    (TB : TabB X.base X.mg c P) (hcode : X.env.code = .ref c) (hmT : (P, X.env.qual ++ "<lambda>") ∈ T) (huT : ∀ p ∈ T, p.1 = P → p.2 = X.env.qual ++ "<lambda>") (hr : Room (k + 3) X.A)
    (S : NScope N [a] fr scope) (hN : N.length = fr.length + 1) (hfree : ∀ y ∈ scope.names, y.2 = .free → X.env.scope.names.lookup y.1 = some .cell ∨ X.env.scope.names.lookup y.1 = some .free) (hfr : ∀ y ∈ fr, (y, NameKind.free) ∈ scope.names) (hjs : js.map (fun j => X.N[j]?) = fr.map some)
    (hdef : defaultsOf params X.env = ([], []))
    (hbind : ∀ (q : Str) (cl : List (Str × Addr)) (pm cv ctv u : Value), bindArgs (PySem.W.kla_fn "<lambda>" q params body scope cl pm cv ctv) ⟨[u], []⟩ = pure [(a, u)])
    (hbody : ∀ (A : Around) (outer : List Env) (s : Shared) (H : Hp) (f c' : Addr), Room k (A.deeper (envF (lamF (X.env.qual ++ "<lambda>") params scope (cloFrom X.env.cells scope.names []) c') f s.heap.objs.size)) →
      PE (ncx CX0 X.prog X.w X.K X.mg X.base N (lamF (X.env.qual ++ "<lambda>") params scope (cloFrom X.env.cells scope.names []) c') f A outer s H E0) body tb)
    (hst : starEach [e] X.env = (false, eval e X.env) :: starEach [] X.env := by rfl)
    (hbt : backTo pos (starEach [e] X.env) = (false, eval e X.env) :: backTo pos (starEach [] X.env) := by rfl) (hpl : (backTo pos (starEach [e] X.env)).any (·.1) = false := by rfl)
    (hall : (backToKw pos (keywordEach [⟨some "key", .Lambda params body scope lpos, kpos⟩] X.env)).all (·.1.isSome) = true := by rfl) (hnone : (backToKw pos (keywordEach [⟨some "key", .Lambda params body scope lpos, kpos⟩] X.env)).any (·.1.isNone) = false := by rfl)
    (hks : (backToKw pos (keywordEach [⟨some "key", .Lambda params body scope lpos, kpos⟩] X.env)).filterMap (·.1) = [Str.ofString "key"] := by rfl) :
    PE X (.Call (.Name "sorted" p) [e] [⟨some "key", .Lambda params body scope lpos, kpos⟩] pos) (tSortLam X.K T js te tb) := by
  refine ⟨fun pins s σ H Q I h => ?_⟩
  refine wpAny_Call_Name_kw (ld_blt I hg hm hv ?_ (by decide) (by decide))
  refine PyProof.Rows.callWith_kw ?_ hbt hpl hall hnone
  rw [hbt, hks]
  refine Calls.spliced_cons (thn (ha.run pins s σ H _ I h) fun u s1 ⟨x, H1, I1, r1, l, ex, hT, q1⟩ => ?_)
  subst ex
  obtain rfl : u = Value.ref l := r1
  refine Calls.spliced_nil ?_
  show wpAny _ _ (evalAll ((do let v ← eval (.Lambda params body scope lpos) X.env; standAt pos; pure v) :: [])) _ _ s1
  have hcl : ∀ y ∈ scope.names, y.2 = .free → ∃ c, X.env.cells.lookup y.1 = some c := fun y hy z => (hfree y hy z).elim (fun z => I.ok.has _ (.inl z)) fun z => I.ok.has _ (.inr z)
  refine wpAny_evalAll_cons (wpAny_bind (lam_make2 I1 TB hcode hmT huT hT hdef hcl fun f c' pm ctv H2 s2 I2 eN T2 hf hfn hfrs hco => ?_))
  refine wpAny_bind (wpAny_standAt (wpAny_pure (wpAny_evalAll_nil ?_)))
  obtain ⟨xs, kf, hs, hb, hq⟩ := q1 H2 eN T2
  have nfs : f ∉ X.fs := fun z => hfrs (by
    rcases I.ok.stk with e | ⟨e, _⟩
    · rw [e]; exact z
    · rw [e]
      unfold frs
      rw [List.filterMap_cons]
      cases X.env.frame with
      | none => exact z
      | some b => exact List.mem_cons_of_mem _ z)
  have nloc : f ≠ X.env.locals := fun z => by
    obtain ⟨m, ⟨o, es, ep, ho, hd, _⟩, _⟩ := I2.loc
    rw [← z, hf] at ho
    cases ho
    cases hd
  have I3 : Inv X ((f, PySem.W.kla_obj "<lambda>" (X.env.qual ++ "<lambda>") params body scope (cloFrom X.env.cells scope.names []) pm c' ctv) :: pins) σ H2 s2 := I2.pins_of fun q hq => by
    rcases List.mem_cons.mp hq with e | e
    · subst e
      exact ⟨hf, hfn, nloc, nfs, fun v z => by cases z⟩
    · exact I2.pin q (List.mem_append_right _ e)
  have hw : js.length = fr.length := by
    have q := congrArg List.length hjs
    rwa [List.length_map, List.length_map] at q
  refine thn (sorted_key_lists (Q := Q) I3 hs kf hr.units (fun y u hy ry pins' H' s' hp I' S' => ?_) hq) fun v s3 ⟨w', H5, I5, rv, q5⟩ => ⟨w', H5, I5.pins_of fun q hq => I5.pin q (List.mem_append_right _ (List.mem_cons_of_mem _ hq)), rv, q5⟩
  have of1 := (I'.pin _ (List.mem_append_right _ (hp _ List.mem_cons_self))).1
  have hr2 : Room (k + 1) X.A.in1.in1 := hr.in1.in1
  have rc : codeAny (model X.prog X.w) X.A.in1.in1 (.call (.ref f) ⟨[u], []⟩) (CR CX0 X.stack X.prog X.w H' s' (fun z H4 => Same H' H4 ∧ ∃ r, z = .ref r ∧ H' r = none ∧ H4 r = some (.lst (iv (kf y)))) E0) s' := by
    refine PySem.W.kla_callFunE hr2.depth of1 rfl S.co S.gen rfl (codeO_at I'.hok (S' _ _ hco)) ?_
    rw [hbind]
    refine wpAny_pure (wpAny_newFunctionEnv S.nocell (fun z hz => ?_) (fun h₁ hns hsb => ⟨I'.nolimit.fresh _ hsb, ?_⟩) S.kind)
    · rw [List.mem_singleton.mp hz]
      exact S.par a List.mem_cons_self
    show codeAny _ _ (.expr body (envF (lamF (X.env.qual ++ "<lambda>") params scope (cloFrom X.env.cells scope.names []) c') f s'.heap.objs.size)) _ _
    have kp : ∀ b o, s'.heap.get? b = some o → h₁.get? b = some o := fun b o e => hsb.extBut b o (Nat.ne_of_lt (Heap.lt_size e)) (Heap.get?_push_of_some _ e)
    have J : Inv (ncx CX0 X.prog X.w X.K X.mg X.base N (lamF (X.env.qual ++ "<lambda>") params scope (cloFrom X.env.cells scope.names []) c') f X.A.in1.in1 X.stack s' H' E0) [] (startF N [y] (js.map (slotAt σ))) H' { s' with heap := h₁, toks := s'.toks + ([(a, u)] : List (Str × Value)).length } :=
      inv_startN (ps := [a]) (us := [u]) (fr := fr) S hr2.hd I'.env0.in1.in1 rfl (.cons ry .nil) (cells_of I' (Caps.made I'.ok hfree hfr hjs)) hns kp
    have es : startF N [y] (js.map (slotAt σ)) = some y :: js.map (slotAt σ) := by
      unfold startF
      rw [List.length_map, hw, hN]
      simp
    rw [es] at J
    refine PySem.W.kla_codeExpr (wpAny_mono ((hbody X.A.in1.in1 X.stack s' H' f c' (hr2.deeper _)).run [] _ _ H' _ J (hb y hy H' S')) (fun v s'' hq2 => ?_) fun e s'' hq2 => hq2)
    obtain ⟨w', H4, J4, rv4, q4⟩ := hq2
    exact ⟨w', H4, J4.os, J4.bare, J4.base, J4.hok, rv4, q4⟩
  refine wpAny_call (codeAny_mono rc fun r s'' hq2 => ?_)
  cases r with
  | error e => exact hq2.elim
  | ok fl =>
    cases fl with
    | ret z =>
      obtain ⟨v, H4, I4, rv4, S4, r, rfl, nr, hr4⟩ := I'.after hq2
      exact ⟨r, H4, I4, S4, rv4, nr, hr4⟩
    | next => exact False.elim hq2
    | brk => exact False.elim hq2
    | cont => exact False.elim hq2
end
end SR
namespace SR
open PySem PySem.Spec PyProof.Rows L2 LamX NdefX
open PySem.W (WData Codec OpenSpec Well WellAll ReadsW)
/-- the call of a def with one list of ints, where one def makes lambdas: c its code object, P the table of that -/
theorem spec_callT {Pr : Program} {w : World} {K : PySem.W.Frag} {mg mb : Str → Option Value} {k : Nat} {fa c P : Addr} {fd : FuncData} {x : Str} {sp : Sp} {s1 : Shared} {vals : List Value} {ns : List Int} {R : PySem.W.WRecords} {cl : Str → Option Addr} {d0 : WData}
    (KX : K.In s1.heap) (hns : s1.heap.Ns mainGlobals mg) (hb : s1.heap.Ns builtinsNs mb) (hbb : ∀ x : Str, x ≠ "__name__" → mb x = bootBuiltins x) (hlim : s1.heap.NoLimit) (hg : s1.gens = #[])
    (hT : s1.heap.get? P = some { cls := .none, data := .fields #[] }) (nT : K.lookup P = none) (C : PySem.W.CodeHd s1.heap c P)
    (hbm : ∃ (bm : Addr) (ob : Obj), mg "__builtins__" = some (.ref bm) ∧ bm ≠ builtinsNs ∧ s1.heap.get? bm = some ob ∧ ob.cls = .type "module" ∧ ob.dict = some builtinsNs ∧ ob.data = .plain)
    (hwl : WellAll w.params s1.heap vals [.list (ns.map WData.int)]) (hpl : plWs [.list (ns.map WData.int)] = true) (hwt : ∀ d ∈ [WData.list (ns.map WData.int)], d.weight ≤ 1048576) (hr : Room k callerA)
    (F : ∀ base : Heap, K.In base → base.Ns mainGlobals mg → TabB base mg c P → FnOk Pr w K mg base CX0 k fa fd [x] sp) (hbind : ∀ (s : Shared) (u : Value), BindsTo s fd ⟨[u], []⟩ [(x, u)])
    (hsp : ∀ (H : Hp) (a : Addr), H P = some (.tbl #[]) → ((∃ o, H a = some (.frz o (.lst (ns.map V.int)))) ∨ ∀ H', SqL K H' a (ns.map V.int)) → sp [.ref a] H (fun v H' => Dw K H' v d0) fun _ _ _ => False) :
    codeAny (model Pr w) callerA (.call (.ref fa) ⟨vals, []⟩) (fun r s' => ∃ u as, r = .ok (.ret u) ∧ ReadsW R cl s'.heap u d0 as ∧ OldK s1.heap s'.heap ∧ s'.os = s1.os ∧ AllBare s'.gens) s1 := by
  obtain ⟨A, ho, ar⟩ := area_all _ vals hwl hpl hwt
  have hO : OnlyF (argH K s1.heap A) := argH_only ar
  have hok : HOk Pr w (argH K s1.heap A) s1.heap := argH_ok ar
  have hS := dw_all KX ar _ vals hwl hpl ho
  have hV := vals_toV ho
  have hK : ∀ b u, argH K s1.heap A b = some u → K.lookup b = none := fun b u q => (argH_is ar q).1
  have seqA : ∀ {b : Addr} {o : Obj} {u : HO}, s1.heap.get? b = some o → argH K s1.heap A b = some u → ∃ vs : List Value, o.data = .seq vs.toArray := fun {b o u} e q => by
    obtain ⟨_, vs, _, _, ⟨e2, _⟩ | ⟨e2, _⟩⟩ := argH_is ar q
    · rw [e2] at e
      cases e
      exact ⟨vs, rfl⟩
    · rw [e2] at e
      cases e
      exact ⟨vs, rfl⟩
  generalize argH K s1.heap A = H0 at hO hok hS hK seqA
  have nP0 : H0 P = none := by
    cases q : H0 P with
    | none => rfl
    | some u =>
      obtain ⟨vs, z⟩ := seqA hT q
      cases z
  -- the table beside the argument
  have HS : Same H0 (upd H0 P (.tbl #[])) := SC.same_new nP0 _
  have hokT : HOk Pr w (upd H0 P (.tbl #[])) s1.heap := fun b u e => by
    by_cases hbP : b = P
    · rw [hbP, upd_same] at e
      cases e
      rw [hbP]
      exact hT
    · rw [upd_ne hbP] at e
      exact (hok b u e).stay (fun _ _ _ q => q) (fun d q => HS d _ q) fun d l q => HS d _ q
  have free_of : ∀ {b : Addr} {o : Obj}, s1.heap.get? b = some o → (∀ vs : List Value, o.data ≠ .seq vs.toArray) → o.data ≠ .fields #[] → upd H0 P (.tbl #[]) b = none := fun {b o} e n1 n2 => by
    have hbP : b ≠ P := fun z => by
      rw [z, hT] at e
      cases e
      exact n2 rfl
    rw [upd_ne hbP]
    cases q : H0 b with
    | none => rfl
    | some u =>
      obtain ⟨vs, z⟩ := seqA e q
      exact absurd z (n1 vs)
  have base_of : ∀ {b : Addr} {o : Obj}, s1.heap.get? b = some o → upd H0 P (.tbl #[]) b = none → (hidT s1.heap (upd H0 P (.tbl #[]))).get? b = some o := fun e n => hidT_get e n
  have nsK : ∀ {b : Addr} {m : Str → Option Value}, s1.heap.Ns b m → (hidT s1.heap (upd H0 P (.tbl #[]))).Ns b m := fun {b m} ⟨o, es, ep, e, d, r⟩ =>
    ⟨o, es, ep, base_of e (free_of e (fun vs z => by rw [d] at z; cases z) fun z => by rw [d] at z; cases z), d, r⟩
  have hKb : K.In (hidT s1.heap (upd H0 P (.tbl #[]))) := fun b o e => base_of (KX b o e) (by
    have hbP : b ≠ P := fun z => by rw [z, nT] at e; cases e
    rw [upd_ne hbP]
    cases q : H0 b with
    | none => rfl
    | some u =>
      rw [hK b u q] at e
      cases e)
  have hM : Mod K mg (hidT s1.heap (upd H0 P (.tbl #[]))) := ⟨hKb, nsK hns, ⟨mb, nsK hb, hbb⟩, let ⟨mc, h1, h2⟩ := hlim; ⟨mc, nsK h1, h2⟩⟩
  have TB : TabB (hidT s1.heap (upd H0 P (.tbl #[]))) mg c P := by
    refine ⟨?_, ?_, fun z => ?_⟩
    · obtain ⟨o, us, file, tf, flags, tg, inF, text, tt, e1, r1, r2, r3, rest⟩ := C
      refine ⟨o, us, file, tf, flags, tg, inF, text, tt, base_of e1 (free_of e1 (fun vs z => ?_) fun z => ?_), r1, r2, r3, rest⟩
      · rw [r2] at z
        cases z
      · rw [r2] at z
        cases z
        simp at r3
    · obtain ⟨bm, ob, b1, b2, b3, b4, b5, b6⟩ := hbm
      have nG : bm ≠ mainGlobals := fun q => by
        obtain ⟨o, es, ep, e, hd, _⟩ := hns
        rw [q, e] at b3
        cases b3
        rw [hd] at b6
        cases b6
      have nP : bm ≠ P := fun q => by
        rw [q, hT] at b3
        cases b3
        cases b6
      exact ⟨bm, ob, b1, b2, nG, nP, base_of b3 (free_of b3 (fun vs z => by rw [b6] at z; cases z) fun z => by rw [b6] at z; cases z), b4, b5, b6⟩
    · obtain ⟨o, es, ep, e, hd, _⟩ := hns
      rw [z, hT] at e
      cases e
      cases hd
  have e0 : Env0 Pr w K mg (hidT s1.heap (upd H0 P (.tbl #[]))) callerA [] s1 (upd H0 P (.tbl #[])) :=
    ⟨rfl, hM, fun b o e => of_hidT e, Nat.le_of_eq (hidT_size _ _), trivial, fun b hb => absurd (show b ∈ ([] : List Addr) from hb) (by simp), hokT, .of_eq hg⟩
  -- the one argument
  obtain ⟨a, xs, eV, hs, ex⟩ : ∃ (a : Addr) (xs : List V), vals.map toV = [.ref a] ∧ SqL K H0 a xs ∧ xs = ns.map V.int := by
    generalize vals.map toV = ws at hS
    cases hS with
    | cons h1 h2 =>
      cases h2
      cases h1 with
      | lst hs ha => exact ⟨_, _, rfl, hs, ints_dw ns _ ha⟩
  subst ex
  obtain ⟨u, rfl⟩ : ∃ u, vals = [u] := by
    cases vals with
    | nil => cases eV
    | cons u r =>
      cases r with
      | nil => exact ⟨u, rfl⟩
      | cons v r => simp at eV
  have hfz : (∃ o, upd H0 P (.tbl #[]) a = some (.frz o (.lst (ns.map V.int)))) ∨ ∀ H', SqL K H' a (ns.map V.int) := by
    rcases hs with (h | ⟨o, h⟩) | h
    · rcases hO a with z | ⟨ob, u3, z⟩
      · rw [h] at z; cases z
      · rw [h] at z; cases z
    · exact .inl ⟨o, HS _ _ h⟩
    · exact .inr fun H' => .inr h
  have hb1 : BindsTo s1 fd ⟨[u], []⟩ (([x] : List Str).zip [u]) := hbind s1 u
  rw [eV] at hV
  refine codeAny_mono ((F _ hKb (nsK hns) TB).run callerA [] s1 (upd H0 P (.tbl #[])) ⟨[u], []⟩ [u] [.ref a] _ _ hr e0 hb1 hV (hsp _ a upd_same hfz)) fun r s' z => ?_
  cases r with
  | error e => exact z.elim
  | ok fl =>
    cases fl with
    | next => exact False.elim z
    | brk => exact False.elim z
    | cont => exact False.elim z
    | ret v =>
      obtain ⟨v', H', os, bare, un, hok', r', q⟩ := z
      have key : ∀ b o, b ≠ P → s1.heap.get? b = some o → s'.heap.get? b = some o := fun b o nb e => by
        cases q2 : H0 b with
        | none => exact un.keep b o e (by rw [upd_ne nb]; exact q2) (by intro z; exact absurd (show b ∈ ([] : List Addr) from z) (by simp)) (by simp)
        | some u2 =>
          rcases hO b with z | ⟨ob, u3, z⟩
          · rw [q2] at z
            cases z
          · have z2 := un.frzs b ob _ (HS b _ z)
            obtain ⟨e1, _⟩ := hok b _ z
            obtain ⟨e2, _⟩ := hok' b _ z2
            rw [e] at e1
            cases e1
            exact e2
      obtain ⟨more, hmore⟩ : ∃ more : Array Value, s'.heap.get? P = some { cls := .none, data := .fields more } := by
        obtain ⟨more, z⟩ := un.tbls P #[] upd_same
        exact ⟨_, hok' P _ z⟩
      have KX' : K.In s'.heap := fun b o e => key b o (fun z => by rw [z, nT] at e; cases e) (KX b o e)
      obtain ⟨as, hrd⟩ := Dw.reads (R := R) (cl := cl) hok' KX' d0 v' v q r'
      refine ⟨v, as, rfl, hrd, ⟨fun b o e => ?_, fun b o e => ?_⟩, os, bare⟩
      · by_cases hbP : b = P
        · subst hbP
          rw [hT] at e
          cases e
          exact .inr (.inl ⟨(C.tab hT).isCodeTable, rfl, #[], more, rfl, by rw [Array.empty_append]; exact hmore⟩)
        · exact .inl (key b o hbP e)
      · by_cases hbP : b = P
        · subst hbP
          exact ⟨_, hmore⟩
        · exact ⟨o, key b o hbP e⟩
/-- the end of a Spec row whose def takes one list of ints -/
theorem walk_specT {r : OpenSpec} {k : Nat} {q : Program} {loose : List Str} {XP : (Str → Option Value) → Heap → Prop} {YP : World → Heap → Prop} {d : DefRec} {K : Params → PySem.W.Frag} {c P : Addr} {x : Str} {sp : PySem.W.Frag → Sp}
    (hwell : r.wellSaid = true) (hr : Room k callerA) (hY : ∀ (w : World) (h : Heap), YP w h → (K w.params).In h ∧ h.get? P = some { cls := .none, data := .fields #[] })
    (nT : ∀ w : World, (K w.params).lookup P = none) (hC : ∀ w : World, PySem.W.codeHdIn (K w.params) c P = true)
    (F : ∀ (w : World) (mg : Str → Option Value) (fa : Addr) (h : Heap), (K w.params).In h → h.Ns mainGlobals mg → mg d.name = some (.ref fa) →
      ∃ fd : FuncData, (∀ (s : Shared) (u : Value), BindsTo s fd ⟨[u], []⟩ [(x, u)]) ∧
        ∀ base : Heap, (K w.params).In base → base.Ns mainGlobals mg → TabB base mg c P → FnOk r.prog w (K w.params) mg base CX0 k fa fd [x] (sp (K w.params)))
    (hsp : ∀ (K : PySem.W.Frag) (a : Codec.denoteAll r.args), Codec.withinAll r.args a = true → Codec.app r.args r.asked a = true →
      ∃ ns : List Int, Codec.encAll r.args a = [.list (ns.map WData.int)] ∧ ∀ (H : Hp) (l : Addr), H P = some (.tbl #[]) → ((∃ o, H l = some (.frz o (.lst (ns.map V.int)))) ∨ ∀ H', SqL K H' l (ns.map V.int)) → sp K [.ref l] H (fun v H' => Dw K H' v (r.ret.enc (Codec.app r.args r.f a))) fun _ _ _ => False) :
    PySem.W.WalkOS q loose XP YP r d [] (fun f vs => PySem.call f vs) := by
  intro w s0 s1 mg mb G Y fa o pm cd doc dV kV ho hd hcd hD hmg hg args vals as hpre hlay hrd hwl hlo
  obtain ⟨a, e1, e2⟩ := PySem.W.os_pre_some hpre
  obtain ⟨e3, hwi⟩ := Codec.encAll_of_decAll r.args args a e1
  subst e3
  obtain ⟨KX, hT⟩ := hY w _ Y
  obtain ⟨fd, hb, hF⟩ := F w mg fa _ KX G.T.g hmg
  obtain ⟨ns, en, hs⟩ := hsp (K w.params) a hwi e2
  have hpl := pl_encAll r.args a
  have hwt := layable_weight hlay
  rw [en] at hwl hpl hwt
  refine PySem.W.enter_call (codeAny_mono (spec_callT (R := []) (cl := classAt s0.heap) (d0 := r.ret.enc (Codec.app r.args r.f a)) KX G.T.g G.T.b G.T.builtins G.T.nolimit hg hT (nT w) (PySem.W.codeHd_of_K KX (hC w)) G.T.bmain hwl hpl hwt hr hF hb hs) fun r' s' hq => ?_)
  obtain ⟨u, as', rfl, h1, h2, h3, h4⟩ := hq
  exact ⟨.inl ⟨u, _, as', rfl, fun _ => rfl, h1, (OpenSpec.post_iff hwell hwi _ _).mpr rfl, fun z => Bool.noConfusion (show false = true from z)⟩, h2, h3, h4⟩
end SR
namespace SC
open PySem PySem.Spec PyProof.Rows L2
open Md50 (searchAt valueIn isValue)
theorem ivsnoc (x y : List Int) : iv x ++ iv y = iv (x ++ y) := by unfold iv; rw [List.map_append]
theorem nv_iv (l : List Nat) : nv l = iv (Md50.nums l) := by
  unfold nv iv Md50.nums
  rw [List.map_map]; rfl
/-! ### values_in -/
abbrev sVals : Stmt := top 29
abbrev nVals : List Str := ["row", "columns", "column"]
theorem scVals : FnScope nVals ["row", "columns"] (defScope sVals) := ⟨rfl, rfl, rfl, by decide +kernel, rfl, by decide +kernel, by decide +kernel⟩
def spVals : Sp := fun vs H Q _ => ∃ (a b : Addr) (x : List Int) (o : List Nat), vs = [.ref a, .ref b] ∧ H a = some (.lst (iv x)) ∧ H b = some (.lst (nv o)) ∧ (∀ c ∈ o, c < x.length) ∧ o.length ≤ 1000 ∧
  ∀ H' p, Same H H' → H p = none → H' p = some (.lst (iv (vals o x))) → Q (.ref p) H'
section
variable {P : Program} {w : World} {K : PySem.W.Frag} {mg : Str → Option Value} {base : Heap}
theorem ok_vals {f : Addr} {fd : FuncData} {k : Nat} (F : Fun K "values_in" "values_in" sVals f fd) : FnOk P w K mg base CX0 (k + 1) f fd ["row", "columns"] spVals := by
  refine F.ok scVals (fun vs H Q E h => ?_) (fun cdv A outer s H vs Q E hr h => ?_)
  · obtain ⟨_, _, _, _, rfl, _⟩ := h
    rfl
  obtain ⟨a, b, x, o, rfl, ha, hb, hc, hl, q⟩ := h
  refine ⟨_, pss_one (ps_ret (pe_lc (own := [("column", 2)]) (g := gName 2) (tt := tYes) (te := tOp (rIxL K) (tVar 0) (tVar 2)) rfl scVals.nd (pi_list (pv 1)) (blkOk_by (own := [("column", 2)]) (N := nVals) (sc := defScope sVals) (by decide +kernel))
      (fun _ _ _ _ _ => pg_name (i := 2) scVals.nd rfl (Or.inl rfl)) (fun _ _ _ _ _ => pts_nil) (fun _ _ _ _ _ => pe_ix ix_list (pv 0) (pv 2) (fun _ _ => rfl)))), ?_⟩
  refine ⟨_, rfl, b, rfl, ⟨_, SqL.of hb⟩, fun D nD => ?_⟩
  refine lc_it (walk_list (xs := nv o)) (Lc H D (fun k => (o[k]?).bind fun c => some (V.int (valueIn x c)))) (lc_start nD) (fun i H1 _ h1 => h1.1.seq (SqL.of hb)) (fun i v H1 H2 hi h1 hy => ?_) (fun H1 h1 => ?_)
  · obtain ⟨rfl, hv⟩ := hy
    obtain ⟨c, hcg, rfl⟩ := nv_get hv
    have hcl := hc c (List.mem_of_getElem? hcg)
    have gx : (iv x)[c]? = some (.int (valueIn x c)) := by
      unfold iv valueIn
      rw [List.getElem?_map, List.getElem?_eq_getElem hcl, List.getD_eq_getElem?_getD, List.getElem?_eq_getElem hcl]; rfl
    refine ⟨rfl, _, rfl, _, rfl, a, _, _, _, rfl, rfl, h1.1.seq (SqL.of ha), atI_nat gx, ?_⟩
    refine lc_yes nD h1 (Same.refl _) ?_ (by rw [nv_len] at hi; omega)
    rw [hcg]; rfl
  · obtain ⟨s1, e1⟩ := h1
    rw [nv_len, outs_all] at e1
    have em : (o.filterMap fun c => some (V.int (valueIn x c))) = iv (vals o x) := by
      unfold iv vals
      rw [List.filterMap_eq_map', List.map_map]
      rfl
    rw [em] at e1
    exact q H1 D s1 nD e1
end
/-! ### stands_ahead -/
abbrev sAhead : Stmt := top 30
abbrev nAhead : List Str := ["row", "other", "order"]
theorem scAhead : FnScope nAhead ["row", "other", "order"] (defScope sAhead) := ⟨rfl, rfl, rfl, by decide +kernel, rfl, by decide +kernel, by decide +kernel⟩
def spAhead : Sp := fun vs H Q _ => ∃ (a b c : Addr) (x y : List Int) (o : List Nat), vs = [.ref a, .ref b, .ref c] ∧ H a = some (.lst (iv x)) ∧ H b = some (.lst (iv y)) ∧ H c = some (.lst (nv o)) ∧ (∀ c ∈ o, c < x.length) ∧ (∀ c ∈ o, c < y.length) ∧ o.length ≤ 1000 ∧
  ∀ H', Same H H' → Q (.bl (Md50.before o x y)) H'
section
variable {P : Program} {w : World} {K : PySem.W.Frag} {mg : Str → Option Value} {base : Heap}
theorem ok_ahead {f fV : Addr} {fd fdV : FuncData} (F : Fun K "stands_ahead" "stands_ahead" sAhead f fd) (DV : Df P w K mg base 1 "values_in" ["row", "columns"] spVals fV fdV) : FnOk P w K mg base CX0 2 f fd ["row", "other", "order"] spAhead := by
  refine F.ok scAhead (fun vs H Q E h => ?_) (fun cdv A outer s H vs Q E hr h => ?_)
  · obtain ⟨_, _, _, _, _, _, rfl, _⟩ := h
    rfl
  obtain ⟨a, b, c, x, y, o, rfl, ha, hb, hc, hx, hy, hl, q⟩ := h
  refine ⟨_, pss_one (ps_ret (pe_cmpR (op_ltL hr.units) (pe_call DV.ok hr (by rfl) DV.mg DV.kp DV.bi .nil pass0 (pa_cons (pv 0) (pa_cons (pv 2) pa_nil))) (pe_call DV.ok hr (by rfl) DV.mg DV.kp DV.bi .nil pass0 (pa_cons (pv 1) (pa_cons (pv 2) pa_nil))) (nomark _))), ?_⟩
  refine ⟨_, rfl, _, rfl, a, c, x, o, rfl, ha, hc, hx, hl, fun H1 p1 s1 n1 h1 => ?_⟩
  refine ⟨_, rfl, _, rfl, b, c, y, o, rfl, s1 _ _ hb, s1 _ _ hc, hy, hl, fun H2 p2 s2 n2 h2 => ?_⟩
  refine ⟨p1, p2, _, _, rfl, rfl, SqL.of (s2 _ _ h1), SqL.of h2, ?_⟩
  rw [← before_eq]
  exact q H2 (s1.trans s2)
end
/-! ### are_values -/
abbrev sAre : Stmt := top 28
abbrev nAre : List Str := ["numbers", "how_many", "number"]
theorem scAre : FnScope nAre ["numbers", "how_many"] (defScope sAre) := ⟨rfl, rfl, rfl, by decide +kernel, rfl, by decide +kernel, by decide +kernel⟩
def spAre : Sp := fun vs H Q _ => ∃ (a : Addr) (x : List Int) (n : Nat), vs = [.ref a, vn n] ∧ H a = some (.lst (iv x)) ∧ x.length ≤ 1000 ∧ ∀ H', Same H H' → Q (.bl (decide (x.length = n) && x.all isValue)) H'
section
variable {P : Program} {w : World} {K : PySem.W.Frag} {mg : Str → Option Value} {base : Heap}
theorem ok_are {f : Addr} {fd : FuncData} {k : Nat} {t1 t2 : Tok} (F : Fun K "are_values" "are_values" sAre f fd) (ml : mg "len" = none) (ma : mg "all" = none) (mL : mg "LEAST_VALUE" = some (.int (-1000000000) t1)) (mG : mg "GREATEST_VALUE" = some (.int 1000000000 t2)) :
    FnOk P w K mg base CX0 (k + 1) f fd ["numbers", "how_many"] spAre := by
  refine F.ok scAre (fun vs H Q E h => ?_) (fun cdv A outer s H vs Q E hr h => ?_)
  · obtain ⟨_, _, _, rfl, _⟩ := h
    rfl
  obtain ⟨a, x, n, rfl, ha, hl, q⟩ := h
  refine ⟨_, pss_cons (ps_if (pt_cmpR op_ne (pe_callB call_len_seq (by rfl) ml PySem.boot_len (pa_cons (pv 0) pa_nil)) (pv 1) (nomark _)) (pss_one (ps_ret pe_bl)) pss_nil)
    (pss_one (ps_ret (pe_callB (cr_all rfl) (by rfl) ma (by decide +kernel) (pa_cons
    (pe_lc (own := [("number", 2)]) (g := gName 2) (tt := tYes) (te := tAndV (tOp (rI0 fun i j => .bl (decide (j ≤ i))) (tVar 2) (tC (.int (-1000000000)))) (tOp (rI0 fun i j => .bl (decide (i ≤ j))) (tVar 2) (tC (.int 1000000000)))) rfl scAre.nd (pi_list (pv 0))
      (blkOk_by (own := [("number", 2)]) (N := nAre) (sc := defScope sAre) (by decide +kernel))
      (fun _ _ _ _ _ => pg_name (i := 2) scAre.nd rfl (Or.inl rfl)) (fun _ _ _ _ _ => pts_nil)
      (fun _ _ _ _ _ => pe_and (pe_cmpR op_ge (pv 2) (pe_glob rfl mL ⟨_, rfl⟩) (nomark _)) (pe_one (pe_cmpR op_le (pv 2) (pe_glob rfl mG ⟨_, rfl⟩) (nomark _))))) pa_nil)))), ?_⟩
  refine ⟨_, rfl, a, _, rfl, .inl (SqL.of ha), _, rfl, rfl, _, rfl, ?_⟩
  rw [iv_len]
  by_cases c : x.length = n
  · refine ite2 (fun z => ?_) (fun _ => ?_)
    · exfalso
      rw [c] at z
      simp [vn] at z
    refine ⟨_, rfl, a, rfl, ⟨_, SqL.of ha⟩, fun D nD => ?_⟩
    refine lc_it (walk_list (xs := iv x)) (Lc H D (fun k => (x[k]?).bind fun z => some (V.bl (isValue z)))) (lc_start nD) (fun i H1 _ h1 => h1.1.seq (SqL.of ha)) (fun i v H1 H2 hi h1 hy => ?_) (fun H1 h1 => ?_)
    · obtain ⟨rfl, hv⟩ := hy
      obtain ⟨z, hz, rfl⟩ := iv_get hv
      have hi' : i < 5000 := by rw [iv_len] at hi; omega
      refine ⟨rfl, _, rfl, _, _, rfl, rfl, _, rfl, ?_⟩
      refine ite2 (fun d => ?_) (fun d => ?_)
      · have c1 : (-1000000000 : Int) ≤ z := of_decide_eq_true d
        refine ⟨_, rfl, _, _, rfl, rfl, ?_⟩
        refine lc_yes nD h1 (Same.refl _) ?_ hi'
        rw [hz]
        show some (V.bl (isValue z)) = _
        unfold isValue
        rw [decide_eq_true c1]; rfl
      · have c1 : ¬ (-1000000000 : Int) ≤ z := fun z => d (decide_eq_true z)
        refine lc_yes nD h1 (Same.refl _) ?_ hi'
        rw [hz]
        show some (V.bl (isValue z)) = _
        unfold isValue
        rw [decide_eq_false c1]; rfl
    · obtain ⟨s1, e1⟩ := h1
      rw [iv_len, outs_all] at e1
      have em : (x.filterMap fun z => some (V.bl (isValue z))) = (x.map isValue).map V.bl := by
        rw [List.filterMap_eq_map', List.map_map]; rfl
      rw [em] at e1
      refine ⟨D, _, rfl, SqL.of e1, ?_⟩
      have := q H1 s1
      rw [decide_eq_true c] at this
      have e2 : (x.map isValue).all id = x.all isValue := by rw [List.all_map]; rfl
      rw [e2]
      exact this
  · refine ite2 (fun _ => ?_) (fun z => ?_)
    · have := q H (Same.refl H)
      rw [decide_eq_false c] at this
      exact this
    · exfalso
      apply z
      simp [vn]
      omega
end
end SC
namespace SC
open PySem PySem.Spec PyProof.Rows L2
open Md50 (searchAt valueIn isValue chains server nums num)
/-! ### a list of lists of ints -/
structure LJat (H : Hp) (a : Addr) (as : List Addr) (g : List (List Int)) : Prop where
  top : H a = some (.lst (as.map V.ref))
  len : as.length = g.length
  row : ∀ (i : Nat) (b : Addr) (x : List Int), as[i]? = some b → g[i]? = some x → H b = some (.lst (iv x))
  ne : ∀ b ∈ as, b ≠ a
def LJ (H : Hp) (a : Addr) (g : List (List Int)) : Prop := ∃ as, LJat H a as g
theorem LJat.same {H H' : Hp} {a : Addr} {as : List Addr} {g : List (List Int)} (h : LJat H a as g) (s : Same H H') : LJat H' a as g := ⟨s _ _ h.top, h.len, fun i b x e1 e2 => s _ _ (h.row i b x e1 e2), h.ne⟩
theorem LJ.same {H H' : Hp} {a : Addr} {g : List (List Int)} (h : LJ H a g) (s : Same H H') : LJ H' a g := let ⟨as, q⟩ := h; ⟨as, q.same s⟩
theorem LJat.nil {H : Hp} {a : Addr} (h : H a = some (.lst [])) : LJat H a [] [] := ⟨h, rfl, fun i b x e => by simp at e, fun b hb => by simp at hb⟩
theorem LJat.at {H : Hp} {a : Addr} {as : List Addr} {g : List (List Int)} (h : LJat H a as g) {i : Nat} {b : Addr} (hb : as[i]? = some b) : ∃ x, g[i]? = some x ∧ H b = some (.lst (iv x)) := by
  obtain ⟨hi, _⟩ := List.getElem?_eq_some_iff.mp hb
  have hi' : i < g.length := by rw [← h.len]; exact hi
  exact ⟨g[i], List.getElem?_eq_getElem hi', h.row i b _ hb (List.getElem?_eq_getElem hi')⟩
theorem LJat.get {H : Hp} {a : Addr} {as : List Addr} {g : List (List Int)} (h : LJat H a as g) {i : Nat} {x : List Int} (hx : g[i]? = some x) : ∃ b, as[i]? = some b ∧ H b = some (.lst (iv x)) := by
  obtain ⟨hi, _⟩ := List.getElem?_eq_some_iff.mp hx
  have hi' : i < as.length := by rw [h.len]; exact hi
  exact ⟨as[i], List.getElem?_eq_getElem hi', h.row i _ x (List.getElem?_eq_getElem hi') hx⟩
theorem lj_dps {K : PySem.W.Frag} {H : Hp} : ∀ {as : List Addr} {g : List (List Int)}, as.length = g.length → (∀ (i : Nat) (b : Addr) (x : List Int), as[i]? = some b → g[i]? = some x → H b = some (.lst (iv x))) → DpAll K H (as.map V.ref) (g.map dii)
  | [], [], _, _ => .nil
  | [], _ :: _, h, _ => by simp at h
  | _ :: _, [], h, _ => by simp at h
  | b :: as, l :: g, h, row => .cons (dii_at (SqL.of (row 0 b l rfl rfl))) (lj_dps (as := as) (g := g) (by simpa using h) fun i b' x e1 e2 => row (i + 1) b' x e1 e2)
theorem LJ.dp {K : PySem.W.Frag} {H : Hp} {a : Addr} {g : List (List Int)} (h : LJ H a g) : Dp K H (.ref a) (diiss g) := let ⟨as, q⟩ := h; .lst (SqL.of q.top) (lj_dps q.len q.row)
theorem LL.lj {H : Hp} {a : Addr} {g : List (List Nat)} (h : LL H a g) : LJ H a (g.map nums) := by
  obtain ⟨as, h⟩ := h
  refine ⟨as, h.top, by rw [List.length_map]; exact h.len, fun i b x e1 e2 => ?_, h.ne⟩
  have hi : i < g.length := by
    obtain ⟨q, _⟩ := List.getElem?_eq_some_iff.mp e1
    rw [← h.len]; exact q
  rw [List.getElem?_map, rowOf_get hi] at e2
  have e3 : nums (rowOf g i) = x := Option.some.inj e2
  rw [h.row i b e1, nv_iv, e3]
theorem LJat.snoc {H : Hp} {a b : Addr} {as : List Addr} {g : List (List Int)} {r : List Int} (h : LJat H a as g) (hb : H b = some (.lst (iv r))) (ne : b ≠ a) :
    LJat (upd H a (.lst (as.map V.ref ++ [V.ref b]))) a (as ++ [b]) (g ++ [r]) := by
  refine ⟨?_, by simp [h.len], fun i c x e1 e2 => ?_, fun c hc => ?_⟩
  · rw [upd_same, List.map_append]; rfl
  · by_cases hi : i < as.length
    · rw [List.getElem?_append_left hi] at e1
      rw [List.getElem?_append_left (by rw [← h.len]; exact hi)] at e2
      rw [upd_ne (h.ne c (List.mem_of_getElem? e1))]
      exact h.row i c x e1 e2
    · have e3 : i = as.length := by
        obtain ⟨q, _⟩ := List.getElem?_eq_some_iff.mp e1
        rw [List.length_append] at q
        have : ([b] : List Addr).length = 1 := rfl
        omega
      subst e3
      rw [List.getElem?_append_right (Nat.le_refl _), Nat.sub_self] at e1
      rw [h.len, List.getElem?_append_right (Nat.le_refl _), Nat.sub_self] at e2
      have e4 : b = c := Option.some.inj e1
      have e5 : r = x := Option.some.inj e2
      subst e4
      subst e5
      rw [upd_ne ne, hb]
  · rcases List.mem_append.mp hc with q | q
    · exact h.ne c q
    · simp at q; subst q; exact ne
/-! ### counted -/
abbrev sCnt : Stmt := top 27
abbrev nCnt : List Str := ["lists", "numbers", "one"]
theorem scCnt : FnScope nCnt ["lists"] (defScope sCnt) := ⟨rfl, rfl, rfl, by decide +kernel, rfl, by decide +kernel, by decide +kernel⟩
def spCnt : Sp := fun vs H Q _ => ∃ (a : Addr) (g : List (List Int)), vs = [.ref a] ∧ LJ H a g ∧ g.length ≤ 100 ∧ (∀ x ∈ g, x.length ≤ 100) ∧
  ∀ H' p, Same H H' → H p = none → H' p = some (.lst (iv ((g.length : Int) :: g.flatten))) → Q (.ref p) H'
theorem flat_le : ∀ g : List (List Int), (∀ x ∈ g, x.length ≤ 100) → g.flatten.length ≤ 100 * g.length
  | [], _ => by simp
  | x :: r, h => by
    have h1 := h x List.mem_cons_self
    have h2 := flat_le r fun y hy => h y (List.mem_cons_of_mem _ hy)
    rw [List.flatten_cons, List.length_append, List.length_cons]
    omega
section
variable {P : Program} {w : World} {K : PySem.W.Frag} {mg : Str → Option Value} {base : Heap}
theorem ok_cnt {f : Addr} {fd : FuncData} {k : Nat} (F : Fun K "counted" "counted" sCnt f fd) (ml : mg "len" = none) : FnOk P w K mg base CX0 (k + 1) f fd ["lists"] spCnt := by
  refine F.ok scCnt (fun vs H Q E h => ?_) (fun cdv A outer s H vs Q E hr h => ?_)
  · obtain ⟨_, _, rfl, _⟩ := h
    rfl
  obtain ⟨a, g, rfl, ⟨as, hA⟩, hl, hll, q⟩ := h
  refine ⟨_, pss_cons (ps_set (i := 1) scCnt.nd rfl (.inl rfl) (pe_lst (pa_cons (pe_callB call_len_seq (by rfl) ml PySem.boot_len (pa_cons (pv 0) pa_nil)) pa_nil)))
    (pss_cons (ps_for PassesOwn.never rfl (pi_list (pv 0)) (pg_name (i := 2) scCnt.nd rfl (Or.inl rfl))
      (pss_one (ps_expr (pe_bm PySem.F.plainAttrs_list PySem.F.slot_list_extend PySem.F.type_list_extend mt_extend (pv 1) (pa_cons (pv 2) pa_nil)))))
    (pss_one (ps_ret (pv 1)))), ?_⟩
  refine ⟨_, rfl, a, _, rfl, .inl (SqL.of hA.top), (by show 1 ≤ sizeLine; decide), fun p np => ?_⟩
  have s0 : Same H (upd H p (.lst [.int ((as.map V.ref).length : Nat)])) := same_new np _
  have e0 : (upd H p (.lst [.int ((as.map V.ref).length : Nat)])) p = some (.lst (iv ((g.length : Int) :: (g.take 0).flatten))) := by
    rw [upd_same, List.length_map, hA.len]; rfl
  refine ⟨_, rfl, a, rfl, ⟨_, s0.seq (SqL.of hA.top)⟩, ?_⟩
  refine for_it (walk_list (xs := as.map V.ref)) (fun i σ H1 => ∃ v2, σ = [some (.ref a), some (.ref p), v2] ∧ Same H H1 ∧ H1 p = some (.lst (iv ((g.length : Int) :: (g.take i).flatten)))) ⟨none, rfl, s0, e0⟩ (fun i σ H1 _ ⟨_, _, s1, _⟩ => s1.seq (SqL.of hA.top)) ?_ ?_
  · rintro i v σ H1 H2 hi ⟨v2, rfl, s1, h1⟩ ⟨rfl, hv⟩
    obtain ⟨b, hb, rfl⟩ := refs_get hv
    obtain ⟨x, hx, hbr⟩ := hA.at hb
    have lx := hll x (List.mem_of_getElem? hx)
    have lf := flat_le (g.take i) fun y hy => hll y (List.mem_of_mem_take hy)
    have lt : (g.take i).length ≤ g.length := List.length_take_le' i g
    refine ⟨_, rfl, .inl ⟨rfl, _, SqL.of h1⟩, _, rfl, p, b, _, _, rfl, rfl, h1, s1 _ _ hbr, ?_, some (.ref b), rfl, same_upd s1 np _, ?_⟩
    · rw [iv_len, iv_len, List.length_cons]
      exact Nat.le_trans (show _ ≤ 20000 by omega) (by decide)
    · rw [upd_same, ivsnoc, List.take_add_one, hx, List.flatten_append]
      show some (HO.lst (iv ((g.length : Int) :: ((g.take i).flatten ++ x)))) = some (HO.lst (iv ((g.length : Int) :: ((g.take i).flatten ++ (x ++ [])))))
      rw [List.append_nil]
  · rintro σ H1 ⟨v2, rfl, s1, h1⟩
    rw [List.length_map, hA.len, List.take_length] at h1
    exact ⟨_, rfl, q H1 p s1 np h1⟩
end
/-! ### chain_with -/
abbrev sWith : Stmt := top 41
abbrev nWith : List Str := ["which", "chains", "holding", "number", "chain"]
theorem scWith : FnScope nWith ["which", "chains"] (defScope sWith) := ⟨rfl, rfl, rfl, by decide +kernel, rfl, by decide +kernel, by decide +kernel⟩
def spWith : Sp := fun vs H Q _ => ∃ (a : Addr) (i : Nat) (s : Md50.St), vs = [vn i, .ref a] ∧ LL H a (chains s) ∧ Ok s ∧ i < s.searches.length ∧ ∀ H', Same H H' → Q (vn (server s i)) H'
theorem chains_len (s : Md50.St) : (chains s).length ≤ s.searches.length := by
  rw [← chainsTo_all]
  exact chainsTo_len s _
section
variable {P : Program} {w : World} {K : PySem.W.Frag} {mg : Str → Option Value} {base : Heap}
theorem ok_with {f : Addr} {fd : FuncData} {k : Nat} (F : Fun K "chain_with" "chain_with" sWith f fd) (me : mg "enumerate" = none) : FnOk P w K mg base CX0 (k + 1) f fd ["which", "chains"] spWith := by
  refine F.ok scWith (fun vs H Q E h => ?_) (fun cdv A outer s H vs Q E hr h => ?_)
  · obtain ⟨_, _, _, rfl, _⟩ := h
    rfl
  obtain ⟨a, i, st, rfl, ⟨as, hA⟩, O, hi, q⟩ := h
  refine ⟨_, pss_cons (ps_setLc (i := 2) (own := [("number", 3), ("chain", 4)]) (g := gTup K 2 (gCons (gName 3) (gCons (gName 4) gNil))) (tt := tTest (tOp (rIn K false) (tVar 0) (tVar 4))) (te := tVar 3) rfl scWith.nd rfl rfl (sw_true rfl rfl rfl (by decide +kernel))
          (pi_enum (by rfl) me (pa_cons (pv 1) pa_nil)) (blkOk_by (own := [("number", 3), ("chain", 4)]) (N := nWith) (sc := defScope sWith) (by decide +kernel))
          (fun _ _ _ _ _ => pg_tup rfl (pgs_cons (pg_name (i := 3) scWith.nd rfl (Or.inl rfl)) (pgs_cons (pg_name (i := 4) scWith.nd rfl (Or.inl rfl)) pgs_nil)))
          (fun _ _ _ _ _ => pts_one (pt_cmpR op_in_seq (pv 0) (pv 4) rfl))
          (fun _ _ _ _ _ => pv 3))
    (pss_one (ps_ret (pe_ix ix_list (pv 2) pe_int (fun _ _ => rfl)))), ?_⟩
  have ten := O.ten
  have cl := chains_len st
  refine ⟨_, rfl, a, _, rfl, SqL.of hA.top, fun D nD => ?_⟩
  refine lc_it walk_enum (Lc H D (fun j => if (rowOf (chains st) j).contains i = true then some (vn j) else none)) (lc_start nD) (fun j H3 _ h3 => h3.1.seq (SqL.of hA.top)) ?_ ?_
  · rintro j u H3 H4 hj h3 ⟨T, x, y, rfl, nT, rfl, ex, ey⟩
    cases ex
    obtain ⟨c, hc, rfl⟩ := refs_get ey
    have hjl : j < (chains st).length := by rw [List.length_map, hA.len] at hj; exact hj
    have sT : Same H3 (upd H3 T (.tup [.int (j : Nat), .ref c])) := same_new nT _
    refine ⟨T, _, rfl, .inl (.inl upd_same), rfl, _, _, rfl, _, _, rfl, rfl, rfl, ?_⟩
    refine ⟨_, rfl, _, rfl, c, _, rfl, .inl (SqL.of (sT _ _ (h3.1 _ _ (hA.row j c hc)))), rfl, flat_nv _, _, rfl, ?_⟩
    show if (inV (vn i) (nv (rowOf (chains st) j))) = true then _ else _
    rw [in_nv]
    by_cases e : (rowOf (chains st) j).contains i = true
    · rw [if_pos e]
      exact ⟨_, rfl, lc_yes nD h3 sT (if_pos e) (by omega)⟩
    · rw [if_neg e]
      exact lc_no h3 sT (if_neg e)
  · rintro H3 ⟨s3, e3⟩
    rw [List.length_map, hA.len, outs_range (p := fun j => (rowOf (chains st) j).contains i) (g := fun j => j), List.map_id'] at e3
    obtain ⟨k, r, hk, ef, es, _⟩ := server_eq O hi
    rw [ef] at e3
    rw [es] at q
    exact ⟨_, rfl, D, _, _, _, rfl, rfl, SqL.of e3, atI_nat (j := 0) rfl, q H3 s3⟩
end
end SC
namespace SC
open PySem PySem.Spec PyProof.Rows L2
open LamX (Tabs ExtN)
open Md50 (searchAt valueIn isValue chains server nums num known rowOk valuesOk)
/-! ### Relation: its fields, what it holds -/
abbrev mRel (i : Nat) : Stmt := inClass (top 26) i
def rlF (n : Nat) (sa ra : Addr) : List (Str × V) := [("columns", vn n), ("searches", .ref sa), ("rows", .ref ra)]
theorem rlF_c (n : Nat) (sa ra : Addr) : (rlF n sa ra).lookup ("columns" : Str) = some (vn n) := lk_here
theorem rlF_s (n : Nat) (sa ra : Addr) : (rlF n sa ra).lookup ("searches" : Str) = some (.ref sa) := (lk_past (by decide +kernel)).trans lk_here
theorem rlF_r (n : Nat) (sa ra : Addr) : (rlF n sa ra).lookup ("rows" : Str) = some (.ref ra) := (lk_past (by decide +kernel)).trans ((lk_past (by decide +kernel)).trans lk_here)
theorem rlF_none (n : Nat) (sa ra : Addr) {m : Str} (h1 : (m == ("columns" : Str)) = false) (h2 : (m == ("searches" : Str)) = false) (h3 : (m == ("rows" : Str)) = false) : (rlF n sa ra).lookup m = none :=
  (lk_past h1).trans ((lk_past h2).trans ((lk_past h3).trans rfl))
theorem rlF_pc (n m : Nat) (sa ra : Addr) : putF "columns" (vn m) (rlF n sa ra) = rlF m sa ra := put_here
theorem rlF_ps (n : Nat) (sa ra sb : Addr) : putF "searches" (.ref sb) (rlF n sa ra) = rlF n sb ra := (put_past (by decide +kernel)).trans (congrArg _ put_here)
theorem rlF_pr (n : Nat) (sa ra rb : Addr) : putF "rows" (.ref rb) (rlF n sa ra) = rlF n sa rb := (put_past (by decide +kernel)).trans (congrArg _ ((put_past (by decide +kernel)).trans (congrArg _ put_here)))
theorem rlF_n2 (n : Nat) (sa : Addr) : putF "searches" (.ref sa) [(("columns" : Str), vn n)] = [(("columns" : Str), vn n), ("searches", .ref sa)] := (put_past (by decide +kernel)).trans rfl
theorem rlF_n3 (n : Nat) (sa ra : Addr) : putF "rows" (.ref ra) [(("columns" : Str), vn n), ("searches", .ref sa)] = rlF n sa ra := (put_past (by decide +kernel)).trans (congrArg _ ((put_past (by decide +kernel)).trans rfl))
structure RlTxt (K : PySem.W.Frag) (C : Addr) : Prop where
  cl : Cls K C
  nC : NoAttr K C "columns"
  nS : NoAttr K C "searches"
  nR : NoAttr K C "rows"
/-- the relation at a is s: its searches at sa, its rows at ra; none of these is the list at g -/
structure RS (C : Addr) (H : Hp) (a sa ra g : Addr) (s : Md50.St) : Prop where
  ins : ∃ dx, H a = some (.ins C dx (rlF s.cols sa ra))
  se : ∃ ss, LLat H sa ss s.searches ∧ ∀ b ∈ ss, b ≠ ra ∧ b ≠ g
  ro : ∃ rs, LJat H ra rs s.rows ∧ ∀ b ∈ rs, b ≠ sa ∧ b ≠ g
  ne : sa ≠ ra
  sg : sa ≠ g
  rg : ra ≠ g
/-- a relation as calls come to it -/
structure GoodS (s : Md50.St) : Prop where
  ok : Ok s
  rk : Rk s
theorem RS.same {C : Addr} {H H' : Hp} {a sa ra g : Addr} {s : Md50.St} (h : RS C H a sa ra g s) (e : Same H H') : RS C H' a sa ra g s := by
  obtain ⟨⟨dx, h1⟩, ⟨ss, h2, h3⟩, ⟨rs, h4, h5⟩, h6, h7, h8⟩ := h
  exact ⟨⟨dx, e _ _ h1⟩, ⟨ss, h2.same e, h3⟩, ⟨rs, h4.same e, h5⟩, h6, h7, h8⟩
theorem RS.extN {C : Addr} {H H' : Hp} {a sa ra g : Addr} {s : Md50.St} (h : RS C H a sa ra g s) (e : ExtN H H') : RS C H' a sa ra g s := by
  obtain ⟨⟨dx, h1⟩, ⟨ss, h2, h3⟩, ⟨rs, h4, h5⟩, h6, h7, h8⟩ := h
  have el : ∀ {b : Addr} {l : List V}, H b = some (.lst l) → H' b = some (.lst l) := fun q => e _ _ q fun ps z => by cases z
  exact ⟨⟨dx, e _ _ h1 fun ps z => by cases z⟩, ⟨ss, ⟨el h2.top, h2.len, fun i b q => el (h2.row i b q), h2.ne⟩, h3⟩, ⟨rs, ⟨el h4.top, h4.len, fun i b x q1 q2 => el (h4.row i b x q1 q2), h4.ne⟩, h5⟩, h6, h7, h8⟩
theorem RS.ll {C : Addr} {H : Hp} {a sa ra g : Addr} {s : Md50.St} (h : RS C H a sa ra g s) : LL H sa s.searches := let ⟨ss, q, _⟩ := h.se; ⟨ss, q⟩
theorem RS.lj {C : Addr} {H : Hp} {a sa ra g : Addr} {s : Md50.St} (h : RS C H a sa ra g s) : LJ H ra s.rows := let ⟨rs, q, _⟩ := h.ro; ⟨rs, q⟩
/-- all but the relation's own objects (and the tables) stand as they were -/
def Eff (a sa ra : Addr) (H H' : Hp) : Prop := ∀ b o, H b = some o → b ≠ a → b ≠ sa → b ≠ ra → (∀ ps, o ≠ .tbl ps) → H' b = some o
theorem Eff.same {a sa ra : Addr} {H H' : Hp} (s : Same H H') : Eff a sa ra H H' := fun b o e _ _ _ _ => s b o e
theorem Eff.extN {a sa ra : Addr} {H H' : Hp} (s : ExtN H H') : Eff a sa ra H H' := fun b o e _ _ _ n => s b o e n
theorem Eff.before {a sa ra : Addr} {H H1 H2 : Hp} (s : Same H H1) (e : Eff a sa ra H1 H2) : Eff a sa ra H H2 := fun b o q n1 n2 n3 n4 => e b o (s b o q) n1 n2 n3 n4
theorem Eff.behind {a sa ra : Addr} {H H1 H2 : Hp} (e : Eff a sa ra H H1) (s : Same H1 H2) : Eff a sa ra H H2 := fun b o q n1 n2 n3 n4 => s b o (e b o q n1 n2 n3 n4)
/-- nothing stands there, but a table perhaps -/
def NewT (H : Hp) (p : Addr) : Prop := ∀ o, H p = some o → ∃ ps, o = .tbl ps
theorem NewT.of {H : Hp} {p : Addr} (h : H p = none) : NewT H p := fun o e => by rw [h] at e; cases e
theorem NewT.extN {H H' : Hp} {p : Addr} (e : ExtN H H') (h : NewT H' p) : NewT H p := fun o q => by
  by_cases c : ∃ ps, o = .tbl ps
  · exact c
  · exact h o (e p o q fun ps z => c ⟨ps, z⟩)
/-- what a call's method promises: the relation then, its answer in a new list -/
def Fin (C : Addr) (T : List (Addr × Str)) (a sa ra g : Addr) (r : Md50.St × List Int) (H : Hp) (Q : VK) : Prop :=
  ∀ (H' : Hp) (p sb rb : Addr), RS C H' a sb rb g r.1 → (sb = sa ∨ H sb = none) → (rb = ra ∨ H rb = none) → Eff a sa ra H H' → Tabs T H' → NewT H p → H' p = some (.lst (iv r.2)) → Q (.ref p) H'
theorem Fin.read {C : Addr} {T : List (Addr × Str)} {a sa ra g : Addr} {s : Md50.St} {l : List Int} {H H' : Hp} {Q : VK} {p : Addr} (f : Fin C T a sa ra g (s, l) H Q) (R : RS C H a sa ra g s) (t : Tabs T H) (e : Same H H') (np : H p = none) (hp : H' p = some (.lst (iv l))) : Q (.ref p) H' :=
  f H' p sa ra (R.same e) (.inl rfl) (.inl rfl) (.same e) (t.ext e) (.of np) hp
/-- a short answer, made behind what is told -/
theorem Fin.short {C : Addr} {T : List (Addr × Str)} {a sa ra g : Addr} {s : Md50.St} {l : List Int} {H H' : Hp} {Q : VK} (f : Fin C T a sa ra g (s, l) H Q) (R : RS C H a sa ra g s) (t : Tabs T H) (e : Same H H') : ∀ p, H' p = none → Q (.ref p) (upd H' p (.lst (iv l))) :=
  fun p np => f.read R t (e.trans (same_new np _)) (e.free np) upd_same
/-- a method as its callers need it -/
structure Dm (P : Program) (w : World) (K : PySem.W.Frag) (mg : Str → Option Value) (base : Heap) (k : Nat) (C : Addr) (x : Str) (ps : List Str) (sp : Sp) (f : Addr) (fd : FuncData) : Prop where
  ok : FnOk P w K mg base CX0 k f fd ps sp
  bi : Binds K fd ps []
  me : Meth K C x f
def spInit (C : Addr) : Sp := fun vs H Q _ => ∃ (p dx g : Addr), vs = [.ref p] ∧ H p = some (.ins C dx []) ∧ H g ≠ none ∧ ∀ (H' : Hp) (sa ra : Addr), RS C H' p sa ra g Md50.start → H sa = none → H ra = none → Keep p H H' → Q .non H'
def spThere (C : Addr) : Sp := fun vs H Q _ => ∃ (a sa ra g : Addr) (s : Md50.St), vs = [.ref a] ∧ RS C H a sa ra g s ∧ Q (.bl (decide (0 < s.cols))) H
def spHas (C : Addr) : Sp := fun vs H Q _ => ∃ (a sa ra g : Addr) (s : Md50.St) (i : Int), vs = [.ref a, .int i] ∧ RS C H a sa ra g s ∧ Q (.bl (known s i)) H
def spHasV (C : Addr) : Sp := fun vs H Q _ => ∃ (a sa ra g b : Addr) (s : Md50.St) (i : Nat) (v : List Int), vs = [.ref a, vn i, .ref b] ∧ RS C H a sa ra g s ∧ i < s.searches.length ∧ H b = some (.lst (iv v)) ∧ v.length ≤ 1000 ∧
  ∀ H', Same H H' → Q (.bl (valuesOk s (i : Int) v)) H'
def spIsRow (C : Addr) : Sp := fun vs H Q _ => ∃ (a sa ra g b : Addr) (s : Md50.St) (x : List Int), vs = [.ref a, .ref b] ∧ RS C H a sa ra g s ∧ H b = some (.lst (iv x)) ∧ x.length ≤ 1000 ∧
  ∀ H', Same H H' → Q (.bl (rowOk s x)) H'
section
variable {P : Program} {w : World} {K : PySem.W.Frag} {mg : Str → Option Value} {base : Heap} {C : Addr}
theorem scInit : FnScope ["self"] ["self"] (defScope (mRel 0)) := ⟨rfl, rfl, rfl, by decide +kernel, rfl, by decide +kernel, by decide +kernel⟩
theorem ok_init {f : Addr} {fd : FuncData} (F : Fun K "__init__" "Relation.__init__" (mRel 0) f fd) (T : RlTxt K C) : FnOk P w K mg base CX0 1 f fd ["self"] (spInit C) := by
  refine F.ok scInit (fun vs H Q E h => ?_) (fun cdv A outer s H vs Q E hr h => ?_)
  · obtain ⟨_, _, _, rfl, _⟩ := h
    rfl
  obtain ⟨p, dx, g, rfl, hp, hg, q⟩ := h
  refine ⟨_, pss_cons (ps_fld (pv 0) pe_int rfl) (pss_cons (ps_fld (pv 0) (pe_lst pa_nil) rfl) (pss_one (ps_fld (pv 0) (pe_lst pa_nil) rfl))), ?_⟩
  refine ⟨_, rfl, p, C, dx, [], rfl, hp, T.cl, T.nC, (by show 0 < 1000; decide), ?_⟩
  refine ⟨Nat.zero_le _, fun sa nsa => ?_⟩
  have np1 : sa ≠ p := fun z => by rw [z, upd_same] at nsa; cases nsa
  have nsa0 : H sa = none := by rw [upd_ne np1] at nsa; exact nsa
  refine ⟨_, rfl, p, C, dx, _, rfl, (by rw [upd_ne np1.symm]; exact upd_same), T.cl, T.nS, (by show 1 < 1000; decide), ?_⟩
  refine ⟨Nat.zero_le _, fun ra nra => ?_⟩
  have np2 : ra ≠ p := fun z => by rw [z, upd_same] at nra; cases nra
  have nsr : ra ≠ sa := fun z => by rw [z, upd_ne np1, upd_same] at nra; cases nra
  have nra0 : H ra = none := by rw [upd_ne np2, upd_ne nsr, upd_ne np2] at nra; exact nra
  refine ⟨_, rfl, p, C, dx, _, rfl, (by rw [upd_ne np2.symm]; exact upd_same), T.cl, T.nR, (by show 2 < 1000; decide), ?_⟩
  refine q _ sa ra ⟨⟨dx, ?_⟩, ⟨[], LLat.nil ?_, fun b hb => by simp at hb⟩, ⟨[], LJat.nil ?_, fun b hb => by simp at hb⟩, nsr.symm, fun z => hg (z ▸ nsa0), fun z => hg (z ▸ nra0)⟩ nsa0 nra0 (fun b o e n => ?_)
  · rw [upd_same]
    have e1 : putF "columns" (V.int 0) [] = [(("columns" : Str), vn 0)] := rfl
    rw [e1, rlF_n2, rlF_n3]; rfl
  · rw [upd_ne np1, upd_ne nsr.symm, upd_ne np1, upd_same]
  · rw [upd_ne np2, upd_same]
  · have n1 : b ≠ sa := ne_of_none e nsa0
    have n2 : b ≠ ra := ne_of_none e nra0
    rw [upd_ne n, upd_ne n2, upd_ne n, upd_ne n1, upd_ne n]
    exact e
theorem scThere : FnScope ["self"] ["self"] (defScope (mRel 1)) := ⟨rfl, rfl, rfl, by decide +kernel, rfl, by decide +kernel, by decide +kernel⟩
theorem ok_there {f : Addr} {fd : FuncData} {k : Nat} (F : Fun K "is_there" "Relation.is_there" (mRel 1) f fd) (T : RlTxt K C) : FnOk P w K mg base CX0 (k + 1) f fd ["self"] (spThere C) := by
  refine F.ok scThere (fun vs H Q E h => ?_) (fun cdv A outer s H vs Q E hr h => ?_)
  · obtain ⟨_, _, _, _, _, rfl, _⟩ := h
    rfl
  obtain ⟨a, sa, ra, g, st, rfl, R, q⟩ := h
  obtain ⟨dx, ha⟩ := R.ins
  refine ⟨_, pss_one (ps_ret (pe_cmpR op_gt (pe_fld (pv 0) rfl) pe_int (nomark _))), ?_⟩
  refine ⟨_, rfl, a, C, dx, _, _, rfl, ha, T.cl, T.nC, rlF_c _ _ _, _, _, rfl, rfl, ?_⟩
  have e : decide ((0 : Int) < (st.cols : Int)) = decide (0 < st.cols) := by
    by_cases c : 0 < st.cols
    · rw [decide_eq_true c, decide_eq_true (by omega)]
    · rw [decide_eq_false c, decide_eq_false (by omega)]
  rw [← e] at q
  exact q
theorem scHas : FnScope ["self", "which"] ["self", "which"] (defScope (mRel 2)) := ⟨rfl, rfl, rfl, by decide +kernel, rfl, by decide +kernel, by decide +kernel⟩
theorem ok_has {f : Addr} {fd : FuncData} {k : Nat} (F : Fun K "has_search" "Relation.has_search" (mRel 2) f fd) (T : RlTxt K C) (ml : mg "len" = none) : FnOk P w K mg base CX0 (k + 1) f fd ["self", "which"] (spHas C) := by
  refine F.ok scHas (fun vs H Q E h => ?_) (fun cdv A outer s H vs Q E hr h => ?_)
  · obtain ⟨_, _, _, _, _, _, rfl, _⟩ := h
    rfl
  obtain ⟨a, sa, ra, g, st, i, rfl, R, q⟩ := h
  obtain ⟨dx, ha⟩ := R.ins
  obtain ⟨ss, hS, _⟩ := R.se
  refine ⟨_, pss_one (ps_ret (pe_and (pe_cmpR op_ge (pv 1) pe_int (nomark _)) (pe_one (pe_cmpR op_lt (pv 1) (pe_callB call_len_seq (by rfl) ml PySem.boot_len (pa_cons (pe_fld (pv 0) rfl) pa_nil)) (nomark _))))), ?_⟩
  refine ⟨_, rfl, _, _, rfl, rfl, _, rfl, ?_⟩
  unfold known at q
  refine ite2 (fun d => ?_) (fun d => ?_)
  · have c : (0 : Int) ≤ i := of_decide_eq_true d
    refine ⟨_, rfl, _, rfl, a, C, dx, _, _, rfl, ha, T.cl, T.nS, rlF_s _ _ _, sa, _, rfl, .inl (SqL.of hS.top), _, _, rfl, rfl, ?_⟩
    rw [List.length_map, hS.len]
    have e : decide (i < ((st.searches.length : Nat) : Int)) = decide (i.toNat < st.searches.length) := by
      by_cases c2 : i.toNat < st.searches.length
      · rw [decide_eq_true c2, decide_eq_true (by omega)]
      · rw [decide_eq_false c2, decide_eq_false (by omega)]
    rw [decide_eq_true c, Bool.true_and, ← e] at q
    exact q
  · have c : ¬ (0 : Int) ≤ i := fun z => d (decide_eq_true z)
    rw [decide_eq_false c, Bool.false_and] at q
    exact q
theorem scHasV : FnScope ["self", "which", "wanted"] ["self", "which", "wanted"] (defScope (mRel 3)) := ⟨rfl, rfl, rfl, by decide +kernel, rfl, by decide +kernel, by decide +kernel⟩
theorem ok_hasv {f fA : Addr} {fd fdA : FuncData} (F : Fun K "has_values" "Relation.has_values" (mRel 3) f fd) (T : RlTxt K C) (ml : mg "len" = none) (DA : Df P w K mg base 1 "are_values" ["numbers", "how_many"] spAre fA fdA) : FnOk P w K mg base CX0 2 f fd ["self", "which", "wanted"] (spHasV C) := by
  refine F.ok scHasV (fun vs H Q E h => ?_) (fun cdv A outer s H vs Q E hr h => ?_)
  · obtain ⟨_, _, _, _, _, _, _, _, rfl, _⟩ := h
    rfl
  obtain ⟨a, sa, ra, g, b, st, i, v, rfl, R, hi, hb, hv, q⟩ := h
  obtain ⟨dx, ha⟩ := R.ins
  obtain ⟨ss, hS, _⟩ := R.se
  obtain ⟨c, hc, hcr⟩ := hS.at hi
  have gc : (ss.map V.ref)[i]? = some (.ref c) := by rw [List.getElem?_map, hc]; rfl
  refine ⟨_, pss_one (ps_ret (pe_call DA.ok hr (by rfl) DA.mg DA.kp DA.bi .nil pass0 (pa_cons (pv 2) (pa_cons (pe_callB call_len_seq (by rfl) ml PySem.boot_len (pa_cons (pe_ix ix_list (pe_fld (pv 0) rfl) (pv 1) (fun _ _ => rfl)) pa_nil)) pa_nil)))), ?_⟩
  refine ⟨_, rfl, _, rfl, a, C, dx, _, _, rfl, ha, T.cl, T.nS, rlF_s _ _ _, _, rfl, sa, _, _, _, rfl, rfl, SqL.of hS.top, atI_nat gc, c, _, rfl, .inl (SqL.of hcr), ?_⟩
  rw [nv_len]
  exact ⟨b, v, _, rfl, hb, hv, fun H' s' => q H' s'⟩
theorem scIsRow : FnScope ["self", "row"] ["self", "row"] (defScope (mRel 4)) := ⟨rfl, rfl, rfl, by decide +kernel, rfl, by decide +kernel, by decide +kernel⟩
theorem ok_isrow {f fA : Addr} {fd fdA : FuncData} (F : Fun K "is_row" "Relation.is_row" (mRel 4) f fd) (T : RlTxt K C) (DA : Df P w K mg base 1 "are_values" ["numbers", "how_many"] spAre fA fdA) : FnOk P w K mg base CX0 2 f fd ["self", "row"] (spIsRow C) := by
  refine F.ok scIsRow (fun vs H Q E h => ?_) (fun cdv A outer s H vs Q E hr h => ?_)
  · obtain ⟨_, _, _, _, _, _, _, rfl, _⟩ := h
    rfl
  obtain ⟨a, sa, ra, g, b, st, x, rfl, R, hb, hv, q⟩ := h
  obtain ⟨dx, ha⟩ := R.ins
  refine ⟨_, pss_one (ps_ret (pe_call DA.ok hr (by rfl) DA.mg DA.kp DA.bi .nil pass0 (pa_cons (pv 1) (pa_cons (pe_fld (pv 0) rfl) pa_nil)))), ?_⟩
  exact ⟨_, rfl, _, rfl, a, C, dx, _, _, rfl, ha, T.cl, T.nC, rlF_c _ _ _, b, x, _, rfl, hb, hv, fun H' s' => q H' s'⟩
end
end SC
namespace SC
open PySem PySem.Spec PyProof.Rows L2
open LamX (Tabs TabS ExtN CodeO)
open Md50 (searchAt valueIn isValue chains server nums num known rowOk valuesOk)
theorem pe_num {X : Cx} {x : Str} {i : Int} {t : Tok} {pos : Pos} (hg : Gl X x) (hm : X.mg x = some (.int i t)) (hd : (x == ("__debug__" : Str)) = false := by decide) : PE X (.Name x pos) (tC (.int i)) := pe_glob hg hm ⟨t, rfl⟩ hd
theorem tabs_keep {T : List (Addr × Str)} {H H' : Hp} (t : Tabs T H) (k : ∀ b o, H b = some o → (∀ l, o ≠ .lst l) → (∀ C dx fs, o ≠ .ins C dx fs) → H' b = some o) : Tabs T H' := fun p hp => by
  obtain ⟨ps, h1, h2, h3⟩ := t p hp
  refine ⟨ps, k _ _ h1 (fun l z => by cases z) (fun C dx fs z => by cases z), h2, fun pos cv hc => ?_⟩
  obtain ⟨c, e1, e2⟩ := h3 pos cv hc
  exact ⟨c, e1, k _ _ e2 (fun l z => by unfold CodeO at z; cases z) (fun C dx fs z => by unfold CodeO at z; cases z)⟩
theorem LLat.put {H : Hp} {a c : Addr} {as : List Addr} {g : List (List Nat)} {o : HO} (h : LLat H a as g) (n : a ≠ c) (nr : ∀ b ∈ as, b ≠ c) : LLat (upd H c o) a as g :=
  ⟨by rw [upd_ne n]; exact h.top, h.len, fun i b e => by rw [upd_ne (nr b (List.mem_of_getElem? e))]; exact h.row i b e, h.ne⟩
theorem LJat.put {H : Hp} {a c : Addr} {as : List Addr} {g : List (List Int)} {o : HO} (h : LJat H a as g) (n : a ≠ c) (nr : ∀ b ∈ as, b ≠ c) : LJat (upd H c o) a as g :=
  ⟨by rw [upd_ne n]; exact h.top, h.len, fun i b x e1 e2 => by rw [upd_ne (nr b (List.mem_of_getElem? e1))]; exact h.row i b x e1 e2, h.ne⟩
theorem RS.ns {C : Addr} {H : Hp} {a sa ra g : Addr} {s : Md50.St} (h : RS C H a sa ra g s) : a ≠ sa ∧ a ≠ ra := by
  obtain ⟨dx, ha⟩ := h.ins
  obtain ⟨ss, hS, _⟩ := h.se
  obtain ⟨rs, hR, _⟩ := h.ro
  exact ⟨ne_of ha hS.top (by intro z; cases z), ne_of ha hR.top (by intro z; cases z)⟩
theorem int_cols {l : List Int} (h : ∀ x ∈ l, 0 ≤ x) : iv l = nv (l.map Int.toNat) := by
  unfold iv nv
  rw [List.map_map]
  refine List.map_congr_left fun x hx => ?_
  show V.int x = V.int ((x.toNat : Nat) : Int)
  rw [Int.toNat_of_nonneg (h x hx)]
/-! ### begin -/
def spBegin (C : Addr) (T : List (Addr × Str)) : Sp := fun vs H Q _ => ∃ (a sa ra g : Addr) (s : Md50.St) (n : Int), vs = [.ref a, .int n] ∧ RS C H a sa ra g s ∧ H g ≠ none ∧ Tabs T H ∧ Fin C T a sa ra g (Md50.spec s (.begin_ n)) H Q
section
variable {P : Program} {w : World} {K : PySem.W.Frag} {mg : Str → Option Value} {base : Heap} {C : Addr} {T : List (Addr × Str)}
theorem scBegin : FnScope ["self", "columns"] ["self", "columns"] (defScope (mRel 5)) := ⟨rfl, rfl, rfl, by decide +kernel, rfl, by decide +kernel, by decide +kernel⟩
theorem ok_begin {f : Addr} {fd : FuncData} {k : Nat} {t1 t2 : Tok} (F : Fun K "begin" "Relation.begin" (mRel 5) f fd) (X : RlTxt K C) (mM : mg "MOST_COLUMNS" = some (.int 7 t1)) (mW : mg "WRONG" = some (.int (-1) t2)) : FnOk P w K mg base CX0 (k + 1) f fd ["self", "columns"] (spBegin C T) := by
  refine F.ok scBegin (fun vs H Q E h => ?_) (fun cdv A outer s H vs Q E hr h => ?_)
  · obtain ⟨_, _, _, _, _, _, rfl, _⟩ := h
    rfl
  obtain ⟨a, sa, ra, g, st, n, rfl, R, hg, tb, q⟩ := h
  obtain ⟨dx, ha⟩ := R.ins
  refine ⟨_, pss_cons (ps_if (PW.pt (pw_or (pt_cmpR op_lt (pv 1) pe_int (nomark _)) (pw_or1 (pt_cmpR op_gt (pv 1) (pe_num rfl mM) (nomark _))))) (pss_one (ps_ret (pe_lst (pa_cons (pe_num rfl mW) pa_nil)))) pss_nil)
    (pss_cons (ps_fld (pv 0) (pv 1) rfl) (pss_cons (ps_fld (pv 0) (pe_lst pa_nil) rfl) (pss_cons (ps_fld (pv 0) (pe_lst pa_nil) rfl) (pss_one (ps_ret (pe_lst (pa_cons pe_int pa_nil))))))), ?_⟩
  have wrong : (n < 1 ∨ 7 < n) → ∀ p, H p = none → Q (.ref p) (upd H p (.lst [.int (-1)])) := fun c => by
    have e : Md50.spec st (.begin_ n) = (st, [-1]) := if_pos c
    rw [e] at q
    exact q.short R tb (Same.refl H)
  refine ⟨_, rfl, _, _, rfl, rfl, _, rfl, ?_⟩
  refine ite2 (fun d => ?_) (fun d => ?_)
  · exact iteT ⟨(by show 1 ≤ sizeLine; decide), wrong (.inl (of_decide_eq_true d))⟩
  · have c1 : ¬ n < 1 := fun z => d (decide_eq_true z)
    refine ⟨_, rfl, _, _, rfl, rfl, _, rfl, ?_⟩
    refine ite2 (fun d2 => ?_) (fun d2 => ?_)
    · exact ⟨(by show 1 ≤ sizeLine; decide), wrong (.inr (of_decide_eq_true d2))⟩
    · have c2 : ¬ 7 < n := fun z => d2 (decide_eq_true z)
      have e : Md50.spec st (.begin_ n) = (⟨n.toNat, [], []⟩, [0]) := if_neg (by omega)
      rw [e] at q
      have en : V.int n = vn n.toNat := by unfold vn; rw [Int.toNat_of_nonneg (by omega)]
      obtain ⟨na, nr⟩ := R.ns
      refine ⟨_, rfl, _, rfl, a, C, dx, _, rfl, ha, X.cl, X.nC, (by show 3 < 1000; decide), ?_⟩
      rw [en, rlF_pc]
      refine ⟨Nat.zero_le _, fun sb nsb => ?_⟩
      have np1 : sb ≠ a := fun z => by rw [z, upd_same] at nsb; cases nsb
      have nsb0 : H sb = none := by rw [upd_ne np1] at nsb; exact nsb
      refine ⟨_, rfl, a, C, dx, _, rfl, (by rw [upd_ne np1.symm]; exact upd_same), X.cl, X.nS, (by show 3 < 1000; decide), ?_⟩
      rw [rlF_ps]
      refine ⟨Nat.zero_le _, fun rb nrb => ?_⟩
      have np2 : rb ≠ a := fun z => by rw [z, upd_same] at nrb; cases nrb
      have nsr : rb ≠ sb := fun z => by rw [z, upd_ne np1, upd_same] at nrb; cases nrb
      have nrb0 : H rb = none := by rw [upd_ne np2, upd_ne nsr, upd_ne np2] at nrb; exact nrb
      refine ⟨_, rfl, a, C, dx, _, rfl, (by rw [upd_ne np2.symm]; exact upd_same), X.cl, X.nR, (by show 3 < 1000; decide), ?_⟩
      rw [rlF_pr]
      refine ⟨(by show 1 ≤ sizeLine; decide), fun p np => ?_⟩
      have npa : p ≠ a := fun z => by rw [z, upd_same] at np; cases np
      have npr : p ≠ rb := fun z => by rw [z, upd_ne np2, upd_same] at np; cases np
      have nps : p ≠ sb := fun z => by rw [z, upd_ne np1, upd_ne nsr.symm, upd_ne np1, upd_same] at np; cases np
      have np0 : H p = none := by rw [upd_ne npa, upd_ne npr, upd_ne npa, upd_ne nps, upd_ne npa] at np; exact np
      have far : ∀ b o, H b = some o → b ≠ a → (upd (upd (upd (upd (upd (upd H a (.ins C dx (rlF n.toNat sa ra))) sb (.lst [])) a (.ins C dx (rlF n.toNat sb ra))) rb (.lst [])) a (.ins C dx (rlF n.toNat sb rb))) p (.lst [.int 0])) b = some o := fun b o e n1 => by
        rw [upd_ne (ne_of_none e np0), upd_ne n1, upd_ne (ne_of_none e nrb0), upd_ne n1, upd_ne (ne_of_none e nsb0), upd_ne n1]
        exact e
      refine q _ p sb rb ⟨⟨dx, ?_⟩, ⟨[], LLat.nil ?_, fun b hb => by simp at hb⟩, ⟨[], LJat.nil ?_, fun b hb => by simp at hb⟩, nsr.symm, fun z => hg (z ▸ nsb0), fun z => hg (z ▸ nrb0)⟩ (.inr nsb0) (.inr nrb0) (fun b o e n1 _ _ _ => far b o e n1) (tabs_keep tb fun b o e _ ni => far b o e fun z => ?_) (.of np0) upd_same
      · rw [upd_ne npa.symm, upd_same]
      · rw [upd_ne nps.symm, upd_ne np1, upd_ne nsr.symm, upd_ne np1, upd_same]
      · rw [upd_ne npr.symm, upd_ne np2, upd_same]
      · rw [z, ha] at e
        exact ni _ _ _ (Option.some.inj e).symm
end
/-! ### search -/
def spSearch (C : Addr) (T : List (Addr × Str)) : Sp := fun vs H Q _ => ∃ (a sa ra g b : Addr) (s : Md50.St) (l : List Int), vs = [.ref a, .ref b] ∧ RS C H a sa ra g s ∧ Ok s ∧ s.cols ≠ 0 ∧ H b = some (.lst (iv l)) ∧ b ≠ sa ∧ b ≠ ra ∧ b ≠ g ∧ Tabs T H ∧ Fin C T a sa ra g (Md50.spec s (.search l)) H Q
section
variable {s : Md50.St}
theorem spec_search (h : s.cols ≠ 0) (l : List Int) : Md50.spec s (.search l) = if l.all (fun (x : Int) => decide (0 ≤ x) && decide (x.toNat < s.cols)) = false ∨ Md50.ascending l = false then (s, [-1]) else if s.searches.contains (l.map Int.toNat) = true then (s, [-3]) else if 10 ≤ s.searches.length then (s, [-6]) else ({ s with searches := s.searches ++ [l.map Int.toNat] }, [num s.searches.length]) := if_neg h
theorem spec_orders (h : s.cols ≠ 0) : Md50.spec s .orders_ = (s, num (Md50.orders s).length :: nums (Md50.orders s).flatten) := if_neg h
theorem spec_serves (h : s.cols ≠ 0) (i : Int) : Md50.spec s (.serves i) = if known s i = false then (s, [-2]) else (s, [num (server s i.toNat), num (searchAt s i.toNat).length]) := if_neg h
theorem spec_apart (h : s.cols ≠ 0) : Md50.spec s .apart_ = (s, num (Md50.widest s).length :: nums (Md50.widest s)) := if_neg h
theorem spec_put (h : s.cols ≠ 0) (x : List Int) : Md50.spec s (.put x) = if rowOk s x = false then (s, [-1]) else if s.rows.contains x = true then (s, [0]) else if 60 ≤ s.rows.length then (s, [-6]) else ({ s with rows := s.rows ++ [x] }, [1]) := if_neg h
theorem spec_take (h : s.cols ≠ 0) (x : List Int) : Md50.spec s (.take_ x) = if rowOk s x = false then (s, [-1]) else ({ s with rows := s.rows.filter fun (y : Md50.Row) => y != x }, [if s.rows.contains x = true then 1 else 0]) := if_neg h
theorem spec_find (h : s.cols ≠ 0) (i : Int) (v : List Int) : Md50.spec s (.find i v) = if known s i = false then (s, [-2]) else if valuesOk s i v = false then (s, [-1]) else (s, Md50.toldRows (Md50.found s i.toNat v)) := if_neg h
theorem spec_next (h : s.cols ≠ 0) (i : Int) (v x : List Int) : Md50.spec s (.next i v x) = if known s i = false then (s, [-2]) else if valuesOk s i v = false ∨ rowOk s x = false then (s, [-1]) else match (Md50.found s i.toNat v).find? fun (y : Md50.Row) => Md50.before (Md50.orderAt s i.toNat) x y with
      | none => (s, [-4])
      | some y => (s, (y.length : Int) :: y) := if_neg h
theorem spec_place (h : s.cols ≠ 0) (o : Int) (x : List Int) : Md50.spec s (.place o x) = if o < 0 ∨ (Md50.orders s).length ≤ o.toNat then (s, [-2]) else if rowOk s x = false then (s, [-1]) else (s, [if s.rows.contains x = true then 1 else 0, num ((s.rows.filter fun (y : Md50.Row) => Md50.before ((Md50.orders s).getD o.toNat []) y x).length)]) := if_neg h
end
section
variable {P : Program} {w : World} {K : PySem.W.Frag} {mg : Str → Option Value} {base : Heap} {C : Addr} {T : List (Addr × Str)}
theorem scSearch : FnScope ["self", "known"] ["self", "known"] (defScope (mRel 6)) := ⟨rfl, rfl, rfl, by decide +kernel, rfl, by decide +kernel, by decide +kernel⟩
theorem ok_search {f fA : Addr} {fd fdA : FuncData} {t1 t2 t3 t4 : Tok} (F : Fun K "search" "Relation.search" (mRel 6) f fd) (X : RlTxt K C) (ml : mg "len" = none) (mW : mg "WRONG" = some (.int (-1) t1)) (mA : mg "THERE_ALREADY" = some (.int (-3) t2)) (mM : mg "MOST_SEARCHES" = some (.int 10 t3)) (mF : mg "FULL" = some (.int (-6) t4))
    (DA : Df P w K mg base 1 "are_columns" ["known", "columns"] spCols fA fdA) : FnOk P w K mg base CX0 2 f fd ["self", "known"] (spSearch C T) := by
  refine F.ok scSearch (fun vs H Q E h => ?_) (fun cdv A outer s H vs Q E hr h => ?_)
  · obtain ⟨_, _, _, _, _, _, _, rfl, _⟩ := h
    rfl
  obtain ⟨a, sa, ra, g, b, st, l, rfl, R, O, nz, hb, nbs, nbr, nbg, tb, q⟩ := h
  obtain ⟨dx, ha⟩ := R.ins
  refine ⟨_, pss_cons (ps_if (pt_not (pt_val (pe_call DA.ok hr (by rfl) DA.mg DA.kp DA.bi .nil pass0 (pa_cons (pv 1) (pa_cons (pe_fld (pv 0) rfl) pa_nil))))) (pss_one (ps_ret (pe_lst (pa_cons (pe_num rfl mW) pa_nil)))) pss_nil)
    (pss_cons (ps_if (pt_cmpR (op_inD (hu65 hr)) (pv 1) (pe_fld (pv 0) rfl) rfl) (pss_one (ps_ret (pe_lst (pa_cons (pe_num rfl mA) pa_nil)))) pss_nil)
    (pss_cons (ps_if (pt_cmpR op_eq (pe_callB call_len_seq (by rfl) ml PySem.boot_len (pa_cons (pe_fld (pv 0) rfl) pa_nil)) (pe_num rfl mM) (nomark _)) (pss_one (ps_ret (pe_lst (pa_cons (pe_num rfl mF) pa_nil)))) pss_nil)
    (pss_cons (ps_expr (pe_bm PySem.F.plainAttrs_list PySem.F.slot_list_append PySem.F.type_list_append mt_append (pe_fld (pv 0) rfl) (pa_cons (pv 1) pa_nil)))
    (pss_one (ps_ret (pe_lst (pa_cons (pe_op op_sub (pe_callB call_len_seq (by rfl) ml PySem.boot_len (pa_cons (pe_fld (pv 0) rfl) pa_nil)) pe_int) pa_nil))))))), ?_⟩
  rw [spec_search nz] at q
  refine ⟨_, rfl, _, rfl, a, C, dx, _, _, rfl, ha, X.cl, X.nC, rlF_c _ _ _, b, l, st.cols, rfl, hb, fun H1 s1 => ⟨_, rfl, ?_⟩⟩
  have ec := cols_ok st.cols l
  have R1 := R.same s1
  have ha1 := s1 _ _ ha
  cases e1 : colsFrom st.cols 0 l with
  | false =>
    refine iteT ⟨(by show 1 ≤ sizeLine; decide), ?_⟩
    have c : l.all (fun (x : Int) => decide (0 ≤ x) && decide (x.toNat < st.cols)) = false ∨ Md50.ascending l = false := by
      rw [e1] at ec
      exact Bool.and_eq_false_iff.mp ec.symm
    rw [if_pos c] at q
    exact q.short R tb s1
  | true =>
    refine iteF ?_
    have c : ¬ (l.all (fun (x : Int) => decide (0 ≤ x) && decide (x.toNat < st.cols)) = false ∨ Md50.ascending l = false) := by
      rw [e1] at ec
      have := Bool.and_eq_true_iff.mp ec.symm
      rintro (z | z)
      · have := this.1
        unfold colOk at this
        rw [z] at this
        cases this
      · rw [this.2] at z; cases z
    have hpos : ∀ x ∈ l, 0 ≤ x := fun x hx => by
      have h1 : l.all (colOk st.cols) = true := by
        rw [e1] at ec
        exact (Bool.and_eq_true_iff.mp ec.symm).1
      have := List.all_eq_true.mp h1 x hx
      unfold colOk at this
      exact of_decide_eq_true (Bool.and_eq_true_iff.mp this).1
    rw [if_neg c] at q
    have hb1 := s1 _ _ hb
    rw [int_cols hpos] at hb1
    refine ⟨_, rfl, _, rfl, a, C, dx, _, _, rfl, ha1, X.cl, X.nS, rlF_s _ _ _, dn (l.map Int.toNat), _, dn_at hb1, R1.ll.dp, dn_shaped _, dns_shaped _, _, rfl, ?_⟩
    rw [dns_any]
    cases e2 : st.searches.contains (l.map Int.toNat) with
    | true =>
      refine iteT ⟨(by show 1 ≤ sizeLine; decide), ?_⟩
      rw [if_pos e2] at q
      exact q.short R tb s1
    | false =>
      refine iteF ?_
      have e2' : ¬ st.searches.contains (l.map Int.toNat) = true := by rw [e2]; simp
      rw [if_neg e2'] at q
      obtain ⟨ss, hS, hSn⟩ := R1.se
      refine ⟨_, rfl, a, C, dx, _, _, rfl, ha1, X.cl, X.nS, rlF_s _ _ _, sa, _, rfl, .inl (SqL.of hS.top), rfl, _, rfl, ?_⟩
      rw [List.length_map, hS.len]
      have ten := O.ten
      by_cases c3 : st.searches.length = 10
      · refine ite2 (fun _ => ?_) (fun z => absurd (decide_eq_true (by rw [c3]; rfl)) z)
        refine ⟨(by show 1 ≤ sizeLine; decide), ?_⟩
        rw [if_pos (by omega)] at q
        exact q.short R tb s1
      · have c3' : ¬ V.int ((st.searches.length : Nat) : Int) = V.int 10 := fun z => c3 (by
          have : ((st.searches.length : Nat) : Int) = 10 := V.int.inj z
          omega)
        refine ite2 (fun z => absurd (of_decide_eq_true z) c3') (fun _ => ?_)
        rw [if_neg (by omega)] at q
        have lt : (ss.map V.ref).length < sizeLine := by
          rw [List.length_map, hS.len]
          exact small1000 (by omega)
        refine ⟨_, rfl, a, C, dx, _, _, rfl, ha1, X.cl, X.nS, rlF_s _ _ _, .inl ⟨rfl, _, SqL.of hS.top⟩, _, rfl, sa, _, _, rfl, rfl, hS.top, lt, ?_⟩
        obtain ⟨na, nr⟩ := R.ns
        have hS2 := hS.snoc hb1 nbs
        have ha2 : upd H1 sa (.lst (ss.map V.ref ++ [V.ref b])) a = some (.ins C dx (rlF st.cols sa ra)) := by rw [upd_ne na]; exact ha1
        refine ⟨_, rfl, a, C, dx, _, _, rfl, ha2, X.cl, X.nS, rlF_s _ _ _, sa, _, rfl, .inl (SqL.of hS2.top), _, _, rfl, rfl, (by show 1 ≤ sizeLine; decide), fun p np => ?_⟩
        have nps : p ≠ sa := fun z => by rw [z, upd_same] at np; cases np
        have np1 : H1 p = none := by rw [upd_ne nps] at np; exact np
        obtain ⟨rs, hR, hRn⟩ := R1.ro
        have sp : Same (upd H1 sa (.lst (ss.map V.ref ++ [V.ref b]))) (upd (upd H1 sa (.lst (ss.map V.ref ++ [V.ref b]))) p (.lst [.int ((((ss ++ [b]).map V.ref).length : Nat) - 1)])) := same_new np _
        have R2 : RS C (upd H1 sa (.lst (ss.map V.ref ++ [V.ref b]))) a sa ra g { st with searches := st.searches ++ [l.map Int.toNat] } := by
          refine ⟨⟨dx, ha2⟩, ⟨_, hS2, fun c hc => ?_⟩, ⟨rs, hR.put R.ne.symm fun c hc => (hRn c hc).1, hRn⟩, R.ne, R.sg, R.rg⟩
          rcases List.mem_append.mp hc with z | z
          · exact hSn c z
          · simp at z; subst z; exact ⟨nbr, nbg⟩
        have far : ∀ c o, H c = some o → c ≠ sa → (upd (upd H1 sa (.lst (ss.map V.ref ++ [V.ref b]))) p (.lst [.int ((((ss ++ [b]).map V.ref).length : Nat) - 1)])) c = some o := fun c o e n1 => sp c o (by rw [upd_ne n1]; exact s1 c o e)
        refine q _ p sa ra (R2.same sp) (.inl rfl) (.inl rfl) (fun c o e _ n1 _ _ => far c o e n1) (tabs_keep tb fun c o e nl _ => far c o e fun z => ?_) (.of (s1.free np1)) ?_
        · obtain ⟨ss0, hS0, _⟩ := R.se
          rw [z, hS0.top] at e
          exact nl _ (Option.some.inj e).symm
        · rw [upd_same, List.length_map, List.length_append, hS.len]
          show some (HO.lst [V.int (((st.searches.length + 1 : Nat) : Int) - 1)]) = some (HO.lst [V.int (num st.searches.length)])
          have : ((st.searches.length + 1 : Nat) : Int) - 1 = num st.searches.length := by unfold num; omega
          rw [this]
end
end SC
namespace SC
open PySem PySem.Spec PyProof.Rows L2
open LamX (Tabs TabS ExtN CodeO)
open Md50 (searchAt valueIn isValue chains server nums num known rowOk valuesOk orders orderOf orderAt)
theorem first_idx : ∀ {g : List (List Int)} {x : List Int}, x ∈ g → ∃ j, g[j]? = some x ∧ ∀ m : Nat, m < j → g[m]? ≠ some x
  | [], _, h => by simp at h
  | a :: r, x, h => by
    by_cases e : a = x
    · exact ⟨0, by rw [e]; rfl, fun m hm => absurd hm (Nat.not_lt_zero _)⟩
    · have hr : x ∈ r := (List.mem_cons.mp h).elim (fun z => absurd z.symm e) id
      obtain ⟨j, h1, h2⟩ := first_idx hr
      refine ⟨j + 1, h1, fun m hm => ?_⟩
      cases m with
      | zero => exact fun z => e (Option.some.inj z)
      | succ m => exact h2 m (by omega)
theorem map_erase {α β : Type} (f : α → β) : ∀ (l : List α) (j : Nat), (l.map f).eraseIdx j = (l.eraseIdx j).map f
  | [], _ => rfl
  | _ :: _, 0 => rfl
  | a :: r, j + 1 => by
    show f a :: (r.map f).eraseIdx j = f a :: (r.eraseIdx j).map f
    rw [map_erase f r j]
theorem LJat.erase {H : Hp} {a : Addr} {as : List Addr} {g : List (List Int)} (h : LJat H a as g) (j : Nat) : LJat (upd H a (.lst ((as.map V.ref).eraseIdx j))) a (as.eraseIdx j) (g.eraseIdx j) := by
  refine ⟨by rw [upd_same, map_erase], by rw [List.length_eraseIdx, List.length_eraseIdx, h.len], fun i b x e1 e2 => ?_, fun b hb => h.ne b (List.mem_of_mem_eraseIdx hb)⟩
  have hb : b ∈ as := List.mem_of_mem_eraseIdx (List.mem_of_getElem? e1)
  rw [upd_ne (h.ne b hb)]
  rw [List.getElem?_eraseIdx] at e1 e2
  by_cases c : i < j
  · rw [if_pos c] at e1 e2
    exact h.row i b x e1 e2
  · rw [if_neg c] at e1 e2
    exact h.row (i + 1) b x e1 e2
/-! ### put -/
def spPut (C : Addr) (T : List (Addr × Str)) : Sp := fun vs H Q _ => ∃ (a sa ra g b : Addr) (s : Md50.St) (x : List Int), vs = [.ref a, .ref b] ∧ RS C H a sa ra g s ∧ Rk s ∧ s.cols ≠ 0 ∧ H b = some (.lst (iv x)) ∧ x.length ≤ 1000 ∧ b ≠ sa ∧ b ≠ ra ∧ b ≠ g ∧ Tabs T H ∧ Fin C T a sa ra g (Md50.spec s (.put x)) H Q
section
variable {P : Program} {w : World} {K : PySem.W.Frag} {mg : Str → Option Value} {base : Heap} {C : Addr} {T : List (Addr × Str)}
theorem scPut : FnScope ["self", "row"] ["self", "row"] (defScope (mRel 10)) := ⟨rfl, rfl, rfl, by decide +kernel, rfl, by decide +kernel, by decide +kernel⟩
theorem ok_put {f fI : Addr} {fd fdI : FuncData} {t1 t3 t4 : Tok} (F : Fun K "put" "Relation.put" (mRel 10) f fd) (X : RlTxt K C) (ml : mg "len" = none) (mW : mg "WRONG" = some (.int (-1) t1)) (mM : mg "MOST_ROWS" = some (.int 60 t3)) (mF : mg "FULL" = some (.int (-6) t4))
    (DI : Dm P w K mg base 2 C "is_row" ["self", "row"] (spIsRow C) fI fdI) : FnOk P w K mg base CX0 3 f fd ["self", "row"] (spPut C T) := by
  refine F.ok scPut (fun vs H Q E h => ?_) (fun cdv A outer s H vs Q E hr h => ?_)
  · obtain ⟨_, _, _, _, _, _, _, rfl, _⟩ := h
    rfl
  obtain ⟨a, sa, ra, g, b, st, x, rfl, R, RK, nz, hb, hx, nbs, nbr, nbg, tb, q⟩ := h
  obtain ⟨dx, ha⟩ := R.ins
  refine ⟨_, pss_cons (ps_if (pt_not (pt_val (pe_meth (pv 0) X.cl DI.me DI.ok hr DI.bi .nil pass0 (pa_cons (pv 1) pa_nil)))) (pss_one (ps_ret (pe_lst (pa_cons (pe_num rfl mW) pa_nil)))) pss_nil)
    (pss_cons (ps_if (pt_cmpR (op_inD (hu65 hr)) (pv 1) (pe_fld (pv 0) rfl) rfl) (pss_one (ps_ret (pe_lst (pa_cons pe_int pa_nil)))) pss_nil)
    (pss_cons (ps_if (pt_cmpR op_eq (pe_callB call_len_seq (by rfl) ml PySem.boot_len (pa_cons (pe_fld (pv 0) rfl) pa_nil)) (pe_num rfl mM) (nomark _)) (pss_one (ps_ret (pe_lst (pa_cons (pe_num rfl mF) pa_nil)))) pss_nil)
    (pss_cons (ps_expr (pe_bm PySem.F.plainAttrs_list PySem.F.slot_list_append PySem.F.type_list_append mt_append (pe_fld (pv 0) rfl) (pa_cons (pv 1) pa_nil)))
    (pss_one (ps_ret (pe_lst (pa_cons pe_int pa_nil))))))), ?_⟩
  rw [spec_put nz] at q
  refine ⟨_, rfl, a, dx, _, rfl, ha, rlF_none _ _ _ (by decide +kernel) (by decide +kernel) (by decide +kernel), _, rfl, a, sa, ra, g, b, st, x, rfl, R, hb, hx, fun H1 s1 => ⟨_, rfl, ?_⟩⟩
  have R1 := R.same s1
  have ha1 := s1 _ _ ha
  have hb1 := s1 _ _ hb
  cases e1 : rowOk st x with
  | false =>
    refine iteT ⟨(by show 1 ≤ sizeLine; decide), ?_⟩
    rw [if_pos e1] at q
    exact q.short R tb s1
  | true =>
    refine iteF ?_
    rw [if_neg (by rw [e1]; simp)] at q
    refine ⟨_, rfl, _, rfl, a, C, dx, _, _, rfl, ha1, X.cl, X.nR, rlF_r _ _ _, dii x, _, dii_at (SqL.of hb1), R1.lj.dp, dii_shaped _, diiss_shaped _, _, rfl, ?_⟩
    rw [diiss_any]
    cases e2 : st.rows.contains x with
    | true =>
      refine iteT ⟨(by show 1 ≤ sizeLine; decide), ?_⟩
      rw [if_pos e2] at q
      exact q.short R tb s1
    | false =>
      refine iteF ?_
      rw [if_neg (by rw [e2]; simp)] at q
      obtain ⟨rs, hR, hRn⟩ := R1.ro
      refine ⟨_, rfl, a, C, dx, _, _, rfl, ha1, X.cl, X.nR, rlF_r _ _ _, ra, _, rfl, .inl (SqL.of hR.top), rfl, _, rfl, ?_⟩
      rw [List.length_map, hR.len]
      have few := RK.few
      by_cases c3 : st.rows.length = 60
      · refine ite2 (fun _ => ?_) (fun z => absurd (decide_eq_true (by rw [c3]; rfl)) z)
        refine ⟨(by show 1 ≤ sizeLine; decide), ?_⟩
        rw [if_pos (by omega)] at q
        exact q.short R tb s1
      · have c3' : ¬ V.int ((st.rows.length : Nat) : Int) = V.int 60 := fun z => c3 (by
          have : ((st.rows.length : Nat) : Int) = 60 := V.int.inj z
          omega)
        refine ite2 (fun z => absurd (of_decide_eq_true z) c3') (fun _ => ?_)
        rw [if_neg (by omega)] at q
        have lt : (rs.map V.ref).length < sizeLine := by
          rw [List.length_map, hR.len]
          exact small1000 (by omega)
        refine ⟨_, rfl, a, C, dx, _, _, rfl, ha1, X.cl, X.nR, rlF_r _ _ _, .inl ⟨rfl, _, SqL.of hR.top⟩, _, rfl, ra, _, _, rfl, rfl, hR.top, lt, ?_⟩
        obtain ⟨na, nr⟩ := R.ns
        have hR2 := hR.snoc hb1 nbr
        refine ⟨(by show 1 ≤ sizeLine; decide), fun p np => ?_⟩
        have npr : p ≠ ra := fun z => by rw [z, upd_same] at np; cases np
        have np1 : H1 p = none := by rw [upd_ne npr] at np; exact np
        obtain ⟨ss, hS, hSn⟩ := R1.se
        have sp : Same (upd H1 ra (.lst (rs.map V.ref ++ [V.ref b]))) (upd (upd H1 ra (.lst (rs.map V.ref ++ [V.ref b]))) p (.lst [.int 1])) := same_new np _
        have R2 : RS C (upd H1 ra (.lst (rs.map V.ref ++ [V.ref b]))) a sa ra g { st with rows := st.rows ++ [x] } := by
          refine ⟨⟨dx, by rw [upd_ne nr]; exact ha1⟩, ⟨ss, hS.put R.ne fun c hc => (hSn c hc).1, hSn⟩, ⟨_, hR2, fun c hc => ?_⟩, R.ne, R.sg, R.rg⟩
          rcases List.mem_append.mp hc with z | z
          · exact hRn c z
          · simp at z; subst z; exact ⟨nbs, nbg⟩
        have far : ∀ c o, H c = some o → c ≠ ra → (upd (upd H1 ra (.lst (rs.map V.ref ++ [V.ref b]))) p (.lst [.int 1])) c = some o := fun c o e n1 => sp c o (by rw [upd_ne n1]; exact s1 c o e)
        refine q _ p sa ra (R2.same sp) (.inl rfl) (.inl rfl) (fun c o e _ _ n1 _ => far c o e n1) (tabs_keep tb fun c o e nl _ => far c o e fun z => ?_) (.of (s1.free np1)) upd_same
        obtain ⟨rs0, hR0, _⟩ := R.ro
        rw [z, hR0.top] at e
        exact nl _ (Option.some.inj e).symm
end
/-! ### take -/
def spTake (C : Addr) (T : List (Addr × Str)) : Sp := fun vs H Q _ => ∃ (a sa ra g b : Addr) (s : Md50.St) (x : List Int), vs = [.ref a, .ref b] ∧ RS C H a sa ra g s ∧ Rk s ∧ s.cols ≠ 0 ∧ H b = some (.lst (iv x)) ∧ x.length ≤ 1000 ∧ Tabs T H ∧ Fin C T a sa ra g (Md50.spec s (.take_ x)) H Q
section
variable {P : Program} {w : World} {K : PySem.W.Frag} {mg : Str → Option Value} {base : Heap} {C : Addr} {T : List (Addr × Str)}
theorem scTake : FnScope ["self", "row"] ["self", "row"] (defScope (mRel 11)) := ⟨rfl, rfl, rfl, by decide +kernel, rfl, by decide +kernel, by decide +kernel⟩
theorem ok_take {f fI : Addr} {fd fdI : FuncData} {t1 : Tok} (F : Fun K "take" "Relation.take" (mRel 11) f fd) (X : RlTxt K C) (mW : mg "WRONG" = some (.int (-1) t1))
    (DI : Dm P w K mg base 2 C "is_row" ["self", "row"] (spIsRow C) fI fdI) : FnOk P w K mg base CX0 3 f fd ["self", "row"] (spTake C T) := by
  refine F.ok scTake (fun vs H Q E h => ?_) (fun cdv A outer s H vs Q E hr h => ?_)
  · obtain ⟨_, _, _, _, _, _, _, rfl, _⟩ := h
    rfl
  obtain ⟨a, sa, ra, g, b, st, x, rfl, R, RK, nz, hb, hx, tb, q⟩ := h
  obtain ⟨dx, ha⟩ := R.ins
  refine ⟨_, pss_cons (ps_if (pt_not (pt_val (pe_meth (pv 0) X.cl DI.me DI.ok hr DI.bi .nil pass0 (pa_cons (pv 1) pa_nil)))) (pss_one (ps_ret (pe_lst (pa_cons (pe_num rfl mW) pa_nil)))) pss_nil)
    (pss_cons (ps_if (pt_cmpR (op_notInD (hu65 hr)) (pv 1) (pe_fld (pv 0) rfl) rfl) (pss_one (ps_ret (pe_lst (pa_cons pe_int pa_nil)))) pss_nil)
    (pss_cons (ps_expr (pe_bm PySem.F.plainAttrs_list PySem.F.slot_list_remove PySem.F.type_list_remove (mt_remL hr.units) (pe_fld (pv 0) rfl) (pa_cons (pv 1) pa_nil)))
    (pss_one (ps_ret (pe_lst (pa_cons pe_int pa_nil)))))), ?_⟩
  rw [spec_take nz] at q
  refine ⟨_, rfl, a, dx, _, rfl, ha, rlF_none _ _ _ (by decide +kernel) (by decide +kernel) (by decide +kernel), _, rfl, a, sa, ra, g, b, st, x, rfl, R, hb, hx, fun H1 s1 => ⟨_, rfl, ?_⟩⟩
  have R1 := R.same s1
  have ha1 := s1 _ _ ha
  have hb1 := s1 _ _ hb
  cases e1 : rowOk st x with
  | false =>
    refine iteT ⟨(by show 1 ≤ sizeLine; decide), ?_⟩
    rw [if_pos e1] at q
    exact q.short R tb s1
  | true =>
    refine iteF ?_
    rw [if_neg (by rw [e1]; simp)] at q
    refine ⟨_, rfl, _, rfl, a, C, dx, _, _, rfl, ha1, X.cl, X.nR, rlF_r _ _ _, dii x, _, dii_at (SqL.of hb1), R1.lj.dp, dii_shaped _, diiss_shaped _, _, rfl, ?_⟩
    rw [diiss_any]
    cases e2 : st.rows.contains x with
    | false =>
      refine iteT ⟨(by show 1 ≤ sizeLine; decide), ?_⟩
      have ne2 : ¬ st.rows.contains x = true := by rw [e2]; simp
      rw [filter_none ne2, if_neg ne2] at q
      exact q.short R tb s1
    | true =>
      refine iteF ?_
      rw [if_pos e2, filter_erase RK.nd] at q
      obtain ⟨j, hj, hjn⟩ := first_idx (show x ∈ st.rows by simpa using e2)
      rw [← erase_at hj hjn] at q
      obtain ⟨rs, hR, hRn⟩ := R1.ro
      obtain ⟨na, nr⟩ := R.ns
      refine ⟨_, rfl, a, C, dx, _, _, rfl, ha1, X.cl, X.nR, rlF_r _ _ _, .inl ⟨rfl, _, SqL.of hR.top⟩, _, rfl, ra, b, _, st.rows, x, j, rfl, rfl, hR.top, lj_dps hR.len hR.row, SqL.of hb1, hj, hjn, ?_⟩
      have hR2 := hR.erase j
      refine ⟨(by show 1 ≤ sizeLine; decide), fun p np => ?_⟩
      have npr : p ≠ ra := fun z => by rw [z, upd_same] at np; cases np
      have np1 : H1 p = none := by rw [upd_ne npr] at np; exact np
      obtain ⟨ss, hS, hSn⟩ := R1.se
      have sp : Same (upd H1 ra (.lst ((rs.map V.ref).eraseIdx j))) (upd (upd H1 ra (.lst ((rs.map V.ref).eraseIdx j))) p (.lst [.int 1])) := same_new np _
      have R2 : RS C (upd H1 ra (.lst ((rs.map V.ref).eraseIdx j))) a sa ra g { st with rows := st.rows.eraseIdx j } :=
        ⟨⟨dx, by rw [upd_ne nr]; exact ha1⟩, ⟨ss, hS.put R.ne fun c hc => (hSn c hc).1, hSn⟩, ⟨_, hR2, fun c hc => hRn c (List.mem_of_mem_eraseIdx hc)⟩, R.ne, R.sg, R.rg⟩
      have far : ∀ c o, H c = some o → c ≠ ra → (upd (upd H1 ra (.lst ((rs.map V.ref).eraseIdx j))) p (.lst [.int 1])) c = some o := fun c o e n1 => sp c o (by rw [upd_ne n1]; exact s1 c o e)
      refine q _ p sa ra (R2.same sp) (.inl rfl) (.inl rfl) (fun c o e _ _ n1 _ => far c o e n1) (tabs_keep tb fun c o e nl _ => far c o e fun z => ?_) (.of (s1.free np1)) upd_same
      obtain ⟨rs0, hR0, _⟩ := R.ro
      rw [z, hR0.top] at e
      exact nl _ (Option.some.inj e).symm
end
end SC
namespace SC
open PySem PySem.Spec PyProof.Rows L2
open LamX (Tabs TabS ExtN CodeO)
open Md50 (searchAt valueIn isValue chains server nums num known rowOk valuesOk orders orderOf orderAt)
theorem chains_short {s : Md50.St} (O : Ok s) {c : List Nat} (hc : c ∈ chains s) : c.length ≤ 10 := by
  rw [chains_eq] at hc
  obtain ⟨f, hf, e⟩ := List.mem_map.mp hc
  have hf' : f < s.searches.length := List.mem_range.mp (List.mem_filter.mp hf).1
  rw [← e]
  exact chain_short O hf'
theorem orders_take {s : Md50.St} {i : Nat} (h : i < (chains s).length) : (orders s).take (i + 1) = (orders s).take i ++ [orderOf s (rowOf (chains s) i)] := by
  unfold orders
  rw [List.take_add_one, List.getElem?_map, rowOf_get h]; rfl
theorem orders_len (s : Md50.St) : (orders s).length = (chains s).length := List.length_map ..
/-! ### all_orders -/
def spAll (C : Addr) : Sp := fun vs H Q _ => ∃ (a sa ra g : Addr) (s : Md50.St), vs = [.ref a] ∧ RS C H a sa ra g s ∧ Ok s ∧ ∀ H' p, Same H H' → H p = none → LL H' p (orders s) → Q (.ref p) H'
section
variable {P : Program} {w : World} {K : PySem.W.Frag} {mg : Str → Option Value} {base : Heap} {C : Addr} {T : List (Addr × Str)}
theorem scAll : FnScope ["self", "chain"] ["self"] (defScope (mRel 15)) := ⟨rfl, rfl, rfl, by decide +kernel, rfl, by decide +kernel, by decide +kernel⟩
theorem ok_all {f fC fO : Addr} {fd fdC fdO : FuncData} (F : Fun K "all_orders" "Relation.all_orders" (mRel 15) f fd) (X : RlTxt K C) (DC : Df P w K mg base 25 "chains_of" ["searches"] spChains fC fdC) (DO : Df P w K mg base 1 "order_of" ["chain", "searches", "columns"] spOrd fO fdO) :
    FnOk P w K mg base CX0 26 f fd ["self"] (spAll C) := by
  refine F.ok scAll (fun vs H Q E h => ?_) (fun cdv A outer s H vs Q E hr h => ?_)
  · obtain ⟨_, _, _, _, _, rfl, _⟩ := h
    rfl
  obtain ⟨a, sa, ra, g, st, rfl, R, O, q⟩ := h
  obtain ⟨dx, ha⟩ := R.ins
  refine ⟨_, pss_one (ps_ret (pe_lc (own := [("chain", 1)]) (g := gName 1) (tt := tYes) (te := tCall spOrd [] E0 (tCons (tVar 1) (tCons (tFld K (tVar 0) "searches") (tCons (tFld K (tVar 0) "columns") tNil)))) rfl scAll.nd
      (pi_list (pe_call DC.ok hr (by rfl) DC.mg DC.kp DC.bi .nil pass0 (pa_cons (pe_fld (pv 0) rfl) pa_nil))) (blkOk_by (own := [("chain", 1)]) (N := ["self", "chain"]) (sc := defScope (mRel 15)) (by decide +kernel))
      (fun _ _ _ _ _ => pg_name (i := 1) scAll.nd rfl (Or.inl rfl)) (fun _ _ _ _ _ => pts_nil)
      (fun _ _ _ _ _ => pe_call DO.ok (hr.mono (by decide)) (by rfl) DO.mg DO.kp DO.bi .nil pass0 (pa_cons (pv 1) (pa_cons (pe_fld (pv 0) rfl) (pa_cons (pe_fld (pv 0) rfl) pa_nil)))))), ?_⟩
  refine ⟨_, rfl, a, C, dx, _, _, rfl, ha, X.cl, X.nS, rlF_s _ _ _, sa, st, rfl, R.ll, O, fun H1 pc s1 L1 => ?_⟩
  obtain ⟨cs, hC⟩ := L1
  have ten := O.ten
  have cl := chains_len st
  refine ⟨pc, rfl, ⟨_, SqL.of hC.top⟩, fun D nD => ?_⟩
  refine lc_it (walk_list (xs := cs.map V.ref)) (fun i H2 => Same H1 H2 ∧ LL H2 D ((orders st).take i)) ⟨same_new nD _, [], LLat.nil upd_same⟩ (fun i H2 _ h2 => h2.1.seq (SqL.of hC.top)) ?_ ?_
  · rintro i v H2 H3 hi ⟨s2, os, hO⟩ ⟨rfl, hv⟩
    obtain ⟨b, hb, rfl⟩ := refs_get hv
    have hil : i < (chains st).length := by rw [List.length_map, hC.len] at hi; exact hi
    have hm := rowOf_mem hil
    have R2 := (R.same s1).same s2
    obtain ⟨dx2, ha2⟩ := R2.ins
    refine ⟨rfl, _, rfl, _, rfl, a, C, dx2, _, _, rfl, ha2, X.cl, X.nS, rlF_s _ _ _, _, rfl, a, C, dx2, _, _, rfl, ha2, X.cl, X.nC, rlF_c _ _ _, b, sa, rowOf (chains st) i, st, rfl, s2 _ _ (hC.row i b hb), R2.ll, O, chain_in O hm, Nat.le_trans (chains_short O hm) (by decide), fun H4 p4 s4 n4 h4 => ?_⟩
    have hO4 := hO.same s4
    refine ⟨_, hO4.top, ?_, same_upd (s2.trans s4) nD _, os ++ [p4], ?_⟩
    · rw [List.length_map, hO.len, List.length_take]
      exact Nat.lt_of_le_of_lt (Nat.min_le_left _ _) (small1000 (by omega))
    · rw [orders_take hil]
      exact hO4.snoc h4 (fun z => by rw [z, hO.top] at n4; cases n4)
  · rintro H2 ⟨s2, hO⟩
    rw [List.length_map, hC.len, ← orders_len, List.take_length] at hO
    exact q H2 D (s1.trans s2) (s1.free nD) hO
/-! ### order_with -/
def spOW (C : Addr) : Sp := fun vs H Q _ => ∃ (a sa ra g : Addr) (s : Md50.St) (i : Nat), vs = [.ref a, vn i] ∧ RS C H a sa ra g s ∧ Ok s ∧ i < s.searches.length ∧ ∀ H' p, Same H H' → H p = none → H' p = some (.lst (nv (orderAt s i))) → Q (.ref p) H'
theorem scOW : FnScope ["self", "which", "chains"] ["self", "which"] (defScope (mRel 16)) := ⟨rfl, rfl, rfl, by decide +kernel, rfl, by decide +kernel, by decide +kernel⟩
theorem ok_ow {f fC fO fW : Addr} {fd fdC fdO fdW : FuncData} (F : Fun K "order_with" "Relation.order_with" (mRel 16) f fd) (X : RlTxt K C) (DC : Df P w K mg base 25 "chains_of" ["searches"] spChains fC fdC) (DO : Df P w K mg base 1 "order_of" ["chain", "searches", "columns"] spOrd fO fdO)
    (DW : Df P w K mg base 1 "chain_with" ["which", "chains"] spWith fW fdW) : FnOk P w K mg base CX0 26 f fd ["self", "which"] (spOW C) := by
  refine F.ok scOW (fun vs H Q E h => ?_) (fun cdv A outer s H vs Q E hr h => ?_)
  · obtain ⟨_, _, _, _, _, _, rfl, _⟩ := h
    rfl
  obtain ⟨a, sa, ra, g, st, i, rfl, R, O, hi, q⟩ := h
  obtain ⟨dx, ha⟩ := R.ins
  have hr1 : Room 1 _ := hr.mono (by decide)
  refine ⟨_, pss_cons (ps_set (i := 2) scOW.nd rfl (.inl rfl) (pe_call DC.ok hr (by rfl) DC.mg DC.kp DC.bi .nil pass0 (pa_cons (pe_fld (pv 0) rfl) pa_nil)))
    (pss_one (ps_ret (pe_call DO.ok hr1 (by rfl) DO.mg DO.kp DO.bi .nil pass0 (pa_cons (pe_ix ix_list (pv 2) (pe_call DW.ok hr1 (by rfl) DW.mg DW.kp DW.bi .nil pass0 (pa_cons (pv 1) (pa_cons (pv 2) pa_nil))) (fun _ _ => rfl)) (pa_cons (pe_fld (pv 0) rfl) (pa_cons (pe_fld (pv 0) rfl) pa_nil)))))), ?_⟩
  refine ⟨_, rfl, a, C, dx, _, _, rfl, ha, X.cl, X.nS, rlF_s _ _ _, sa, st, rfl, R.ll, O, fun H1 pc s1 L1 => ?_⟩
  obtain ⟨k, r, hk, _, es, _⟩ := server_eq O hi
  refine ⟨_, rfl, _, rfl, _, rfl, pc, i, st, rfl, L1, O, hi, fun H2 s2 => ?_⟩
  obtain ⟨cs, hC⟩ := L1.same s2
  obtain ⟨b, hb, hbr⟩ := hC.at (i := server st i) (by rw [es]; exact hk)
  have gb : (cs.map V.ref)[server st i]? = some (.ref b) := by rw [List.getElem?_map, hb]; rfl
  have R2 := (R.same s1).same s2
  obtain ⟨dx2, ha2⟩ := R2.ins
  have hm := rowOf_mem (g := chains st) (i := server st i) (by rw [es]; exact hk)
  refine ⟨pc, _, _, _, rfl, rfl, SqL.of hC.top, atI_nat gb, _, rfl, a, C, dx2, _, _, rfl, ha2, X.cl, X.nS, rlF_s _ _ _, _, rfl, a, C, dx2, _, _, rfl, ha2, X.cl, X.nC, rlF_c _ _ _, b, sa, rowOf (chains st) (server st i), st, rfl, hbr, R2.ll, O, chain_in O hm, Nat.le_trans (chains_short O hm) (by decide), fun H3 p3 s3 n3 h3 => ?_⟩
  rw [← orderAt_eq O hi] at h3
  exact q H3 p3 ((s1.trans s2).trans s3) ((s1.trans s2).free n3) h3
/-! ### orders -/
def spOrders (C : Addr) (T : List (Addr × Str)) : Sp := fun vs H Q _ => ∃ (a sa ra g : Addr) (s : Md50.St), vs = [.ref a] ∧ RS C H a sa ra g s ∧ Ok s ∧ s.cols ≠ 0 ∧ Tabs T H ∧ Fin C T a sa ra g (Md50.spec s .orders_) H Q
theorem scOrders : FnScope ["self"] ["self"] (defScope (mRel 7)) := ⟨rfl, rfl, rfl, by decide +kernel, rfl, by decide +kernel, by decide +kernel⟩
theorem nums_flat (g : List (List Nat)) : nums g.flatten = (g.map nums).flatten := by
  unfold nums
  rw [List.map_flatten]
theorem orderOf_len {s : Md50.St} (O : Ok s) {l : List Nat} (hl : ∀ i ∈ l, i < s.searches.length) (h : l.length ≤ 10) : (orderOf s l).length ≤ 77 := by
  rw [orderOf_eq O hl, List.length_append]
  have h1 := fold_len O l [] hl
  have h2 := List.length_filter_le (fun x => !(l.foldl (addCols s) []).contains x) (List.range s.cols)
  rw [List.length_range] at h2
  have := O.sev
  simp at h1
  omega
theorem orders_short {s : Md50.St} (O : Ok s) {o : List Nat} (h : o ∈ orders s) : o.length ≤ 77 := by
  unfold orders at h
  obtain ⟨c, hc, e⟩ := List.mem_map.mp h
  rw [← e]
  exact orderOf_len O (chain_in O hc) (chains_short O hc)
theorem ok_orders {f fA fN : Addr} {fd fdA fdN : FuncData} (F : Fun K "orders" "Relation.orders" (mRel 7) f fd) (X : RlTxt K C) (DA : Dm P w K mg base 26 C "all_orders" ["self"] (spAll C) fA fdA) (DN : Df P w K mg base 1 "counted" ["lists"] spCnt fN fdN) : FnOk P w K mg base CX0 27 f fd ["self"] (spOrders C T) := by
  refine F.ok scOrders (fun vs H Q E h => ?_) (fun cdv A outer s H vs Q E hr h => ?_)
  · obtain ⟨_, _, _, _, _, rfl, _⟩ := h
    rfl
  obtain ⟨a, sa, ra, g, st, rfl, R, O, nz, tb, q⟩ := h
  obtain ⟨dx, ha⟩ := R.ins
  rw [spec_orders nz] at q
  refine ⟨_, pss_one (ps_ret (pe_call DN.ok (hr.mono (by decide)) (by rfl) DN.mg DN.kp DN.bi .nil pass0 (pa_cons (pe_meth0 (pv 0) X.cl DA.me DA.ok hr DA.bi .nil pass0) pa_nil))), ?_⟩
  refine ⟨_, rfl, a, dx, _, rfl, ha, rlF_none _ _ _ (by decide +kernel) (by decide +kernel) (by decide +kernel), a, sa, ra, g, st, rfl, R, O, fun H1 p1 s1 n1 L1 => ?_⟩
  have ten := O.ten
  have cl := chains_len st
  refine ⟨p1, _, rfl, L1.lj, by rw [List.length_map, orders_len]; omega, fun x hx => ?_, fun H2 p2 s2 n2 h2 => ?_⟩
  · obtain ⟨o, ho, e⟩ := List.mem_map.mp hx
    rw [← e]
    show (o.map num).length ≤ 100
    rw [List.length_map]
    exact Nat.le_trans (orders_short O ho) (by decide)
  · refine q.read R tb (s1.trans s2) (s1.free n2) ?_
    rw [h2, List.length_map, ← nums_flat]; rfl
/-! ### serves -/
def spServes (C : Addr) (T : List (Addr × Str)) : Sp := fun vs H Q _ => ∃ (a sa ra g : Addr) (s : Md50.St) (i : Int), vs = [.ref a, .int i] ∧ RS C H a sa ra g s ∧ Ok s ∧ s.cols ≠ 0 ∧ Tabs T H ∧ Fin C T a sa ra g (Md50.spec s (.serves i)) H Q
theorem scServes : FnScope ["self", "which"] ["self", "which"] (defScope (mRel 8)) := ⟨rfl, rfl, rfl, by decide +kernel, rfl, by decide +kernel, by decide +kernel⟩
theorem known_iff {s : Md50.St} {i : Int} (h : known s i = true) : 0 ≤ i ∧ i.toNat < s.searches.length := by
  unfold known at h
  rw [Bool.and_eq_true] at h
  exact ⟨of_decide_eq_true h.1, of_decide_eq_true h.2⟩
theorem ok_serves {f fH fC fW : Addr} {fd fdH fdC fdW : FuncData} {t1 : Tok} (F : Fun K "serves" "Relation.serves" (mRel 8) f fd) (X : RlTxt K C) (ml : mg "len" = none) (mN : mg "NO_SUCH" = some (.int (-2) t1)) (DH : Dm P w K mg base 1 C "has_search" ["self", "which"] (spHas C) fH fdH)
    (DC : Df P w K mg base 25 "chains_of" ["searches"] spChains fC fdC) (DW : Df P w K mg base 1 "chain_with" ["which", "chains"] spWith fW fdW) : FnOk P w K mg base CX0 26 f fd ["self", "which"] (spServes C T) := by
  refine F.ok scServes (fun vs H Q E h => ?_) (fun cdv A outer s H vs Q E hr h => ?_)
  · obtain ⟨_, _, _, _, _, _, rfl, _⟩ := h
    rfl
  obtain ⟨a, sa, ra, g, st, i, rfl, R, O, nz, tb, q⟩ := h
  obtain ⟨dx, ha⟩ := R.ins
  have hr1 : Room 1 _ := hr.mono (by decide)
  rw [spec_serves nz] at q
  refine ⟨_, pss_cons (ps_if (pt_not (pt_val (pe_meth (pv 0) X.cl DH.me DH.ok hr1 DH.bi .nil pass0 (pa_cons (pv 1) pa_nil)))) (pss_one (ps_ret (pe_lst (pa_cons (pe_num rfl mN) pa_nil)))) pss_nil)
    (pss_one (ps_ret (pe_lst (pa_cons (pe_call DW.ok hr1 (by rfl) DW.mg DW.kp DW.bi .nil pass0 (pa_cons (pv 1) (pa_cons (pe_call DC.ok hr (by rfl) DC.mg DC.kp DC.bi .nil pass0 (pa_cons (pe_fld (pv 0) rfl) pa_nil)) pa_nil)))
      (pa_cons (pe_callB call_len_seq (by rfl) ml PySem.boot_len (pa_cons (pe_ix ix_list (pe_fld (pv 0) rfl) (pv 1) (fun _ _ => rfl)) pa_nil)) pa_nil))))), ?_⟩
  refine ⟨_, rfl, a, dx, _, rfl, ha, rlF_none _ _ _ (by decide +kernel) (by decide +kernel) (by decide +kernel), _, rfl, a, sa, ra, g, st, i, rfl, R, ⟨_, rfl, ?_⟩⟩
  cases e1 : known st i with
  | false =>
    refine iteT ⟨(by show 1 ≤ sizeLine; decide), ?_⟩
    rw [if_pos e1] at q
    exact q.short R tb (Same.refl H)
  | true =>
    refine iteF ?_
    rw [if_neg (by rw [e1]; simp)] at q
    obtain ⟨i0, hi⟩ := known_iff e1
    have ei : V.int i = vn i.toNat := by unfold vn; rw [Int.toNat_of_nonneg i0]
    rw [ei]
    refine ⟨_, rfl, _, rfl, a, C, dx, _, _, rfl, ha, X.cl, X.nS, rlF_s _ _ _, sa, st, rfl, R.ll, O, fun H1 pc s1 L1 => ?_⟩
    refine ⟨pc, i.toNat, st, rfl, L1, O, hi, fun H2 s2 => ?_⟩
    have R2 := (R.same s1).same s2
    obtain ⟨dx2, ha2⟩ := R2.ins
    obtain ⟨ss, hS, _⟩ := R2.se
    obtain ⟨c, hc, hcr⟩ := hS.at hi
    have gc : (ss.map V.ref)[i.toNat]? = some (.ref c) := by rw [List.getElem?_map, hc]; rfl
    refine ⟨_, rfl, a, C, dx2, _, _, rfl, ha2, X.cl, X.nS, rlF_s _ _ _, _, rfl, sa, _, _, _, rfl, rfl, SqL.of hS.top, atI_nat gc, c, _, rfl, .inl (SqL.of hcr), (by show 2 ≤ sizeLine; decide), ?_⟩
    rw [nv_len]
    exact q.short R tb (s1.trans s2)
/-! ### apart -/
def spApartM (C : Addr) (T : List (Addr × Str)) : Sp := fun vs H Q _ => ∃ (a sa ra g : Addr) (s : Md50.St), vs = [.ref a] ∧ RS C H a sa ra g s ∧ Ok s ∧ s.cols ≠ 0 ∧ Tabs T H ∧ Fin C T a sa ra g (Md50.spec s .apart_) H Q
theorem scApartM : FnScope ["self", "chosen"] ["self"] (defScope (mRel 9)) := ⟨rfl, rfl, rfl, by decide +kernel, rfl, by decide +kernel, by decide +kernel⟩
theorem ok_apartm {f fG : Addr} {fd fdG : FuncData} (F : Fun K "apart" "Relation.apart" (mRel 9) f fd) (X : RlTxt K C) (ml : mg "len" = none) (DG : Df P w K mg base 3 "first_greatest_apart" ["searches"] spGreat fG fdG) : FnOk P w K mg base CX0 4 f fd ["self"] (spApartM C T) := by
  refine F.ok scApartM (fun vs H Q E h => ?_) (fun cdv A outer s H vs Q E hr h => ?_)
  · obtain ⟨_, _, _, _, _, rfl, _⟩ := h
    rfl
  obtain ⟨a, sa, ra, g, st, rfl, R, O, nz, tb, q⟩ := h
  obtain ⟨dx, ha⟩ := R.ins
  rw [spec_apart nz] at q
  refine ⟨_, pss_cons (ps_set (i := 1) scApartM.nd rfl (.inl rfl) (pe_call DG.ok hr (by rfl) DG.mg DG.kp DG.bi .nil pass0 (pa_cons (pe_fld (pv 0) rfl) pa_nil)))
    (pss_one (ps_ret (pe_op op_cat (pe_lst (pa_cons (pe_callB call_len_seq (by rfl) ml PySem.boot_len (pa_cons (pv 1) pa_nil)) pa_nil)) (pv 1)))), ?_⟩
  refine ⟨_, rfl, a, C, dx, _, _, rfl, ha, X.cl, X.nS, rlF_s _ _ _, sa, st, rfl, R.ll, O, fun H1 p1 s1 h1 l1 => ?_⟩
  refine ⟨_, rfl, p1, _, rfl, .inl (SqL.of h1), (by show 1 ≤ sizeLine; decide), fun p2 n2 => ?_⟩
  have s2 : Same H1 (upd H1 p2 (.lst [.int ((nv (Md50.widest st)).length : Nat)])) := same_new n2 _
  refine ⟨_, rfl, p2, p1, _, _, rfl, rfl, upd_same, s2 _ _ h1, ?_, fun p3 n3 => ?_⟩
  · rw [nv_len]
    show 1 + _ ≤ sizeLine
    exact Nat.le_of_lt (small1000 (by omega))
  · refine q.read R tb ((s1.trans s2).trans (same_new n3 _)) ((s1.trans s2).free n3) ?_
    rw [upd_same, nv_iv, iv_len]
    show some (HO.lst ([V.int ((nums (Md50.widest st)).length : Nat)] ++ iv (nums (Md50.widest st)))) = _
    have : (nums (Md50.widest st)).length = (Md50.widest st).length := List.length_map ..
    rw [this]; rfl
end
end SC
namespace SC
open PySem PySem.Spec PyProof.Rows L2
open LamX (Tabs TabS ExtN CodeO)
open Md50 (searchAt valueIn isValue chains server nums num known rowOk valuesOk orders orderOf orderAt before)
theorem getD_get {α : Type} {l : List α} {i : Nat} {x d : α} (h : l[i]? = some x) : l.getD i d = x := by
  rw [List.getD_eq_getElem?_getD, h]; rfl
theorem outs_count {α : Type} (l : List α) (d : α) (p : α → Bool) (v : Nat → V) : ∀ n, n ≤ l.length → (outs (fun k => if p (l.getD k d) = true then some (v k) else none) n).length = ((l.take n).filter p).length
  | 0, _ => rfl
  | n + 1, h => by
    have hn : n < l.length := h
    rw [outs_succ, List.length_append, outs_count l d p v n (by omega), List.take_add_one, List.getElem?_eq_getElem hn, List.filter_append, List.length_append]
    congr 1
    have e : l.getD n d = l[n] := getD_get (List.getElem?_eq_getElem hn)
    show (if p (l.getD n d) = true then some (v n) else none).toList.length = (([l[n]] : List α).filter p).length
    rw [e]
    by_cases c : p l[n] = true
    · rw [if_pos c, List.filter_cons_of_pos c]; rfl
    · rw [if_neg c, List.filter_cons_of_neg c]; rfl
/-! ### place -/
def spPlace (C : Addr) (T : List (Addr × Str)) : Sp := fun vs H Q _ => ∃ (a sa ra g b : Addr) (s : Md50.St) (o : Int) (x : List Int), vs = [.ref a, .int o, .ref b] ∧ RS C H a sa ra g s ∧ Ok s ∧ Rk s ∧ s.cols ≠ 0 ∧ H b = some (.lst (iv x)) ∧ x.length ≤ 1000 ∧ Tabs T H ∧ Fin C T a sa ra g (Md50.spec s (.place o x)) H Q
abbrev nPlace : List Str := ["self", "number", "row", "orders", "ahead", "other"]
section
variable {P : Program} {w : World} {K : PySem.W.Frag} {mg : Str → Option Value} {base : Heap} {C : Addr} {T : List (Addr × Str)}
theorem scPlace : FnScope nPlace ["self", "number", "row"] (defScope (mRel 14)) := ⟨rfl, rfl, rfl, by decide +kernel, rfl, by decide +kernel, by decide +kernel⟩
theorem ok_place {f fA fI fS : Addr} {fd fdA fdI fdS : FuncData} {t1 t2 : Tok} (F : Fun K "place" "Relation.place" (mRel 14) f fd) (X : RlTxt K C) (ml : mg "len" = none) (mN : mg "NO_SUCH" = some (.int (-2) t1)) (mW : mg "WRONG" = some (.int (-1) t2))
    (DA : Dm P w K mg base 26 C "all_orders" ["self"] (spAll C) fA fdA) (DI : Dm P w K mg base 2 C "is_row" ["self", "row"] (spIsRow C) fI fdI) (DS : Df P w K mg base 2 "stands_ahead" ["row", "other", "order"] spAhead fS fdS) : FnOk P w K mg base CX0 27 f fd ["self", "number", "row"] (spPlace C T) := by
  refine F.ok scPlace (fun vs H Q E h => ?_) (fun cdv A outer s H vs Q E hr h => ?_)
  · obtain ⟨_, _, _, _, _, _, _, _, rfl, _⟩ := h
    rfl
  obtain ⟨a, sa, ra, g, b, st, o, x, rfl, R, O, RK, nz, hb, hx, tb, q⟩ := h
  obtain ⟨dx, ha⟩ := R.ins
  have hr2 : Room 2 _ := hr.mono (by decide)
  rw [spec_place nz] at q
  refine ⟨_, pss_cons (ps_set (i := 3) scPlace.nd rfl (.inr rfl) (pe_meth0 (pv 0) X.cl DA.me DA.ok hr DA.bi .nil pass0))
    (pss_cons (ps_if (PW.pt (pw_or (pt_cmpR op_lt (pv 1) pe_int (nomark _)) (pw_or1 (pt_cmpR op_ge (pv 1) (pe_callB call_len_seq (by rfl) ml PySem.boot_len (pa_cons (pv 3) pa_nil)) (nomark _))))) (pss_one (ps_ret (pe_lst (pa_cons (pe_num rfl mN) pa_nil)))) pss_nil)
    (pss_cons (ps_if (pt_not (pt_val (pe_meth (pv 0) X.cl DI.me DI.ok hr2 DI.bi .nil pass0 (pa_cons (pv 2) pa_nil)))) (pss_one (ps_ret (pe_lst (pa_cons (pe_num rfl mW) pa_nil)))) pss_nil)
    (pss_cons (ps_setLc (i := 4) (own := [("other", 5)]) (g := gName 5) (tt := tB (tCall spAhead [] E0 (tCons (tVar 5) (tCons (tVar 2) (tCons (tOp (rIxL K) (tVar 3) (tVar 1)) tNil))))) (te := tVar 5) rfl scPlace.nd rfl rfl (sw_true rfl rfl rfl (by decide +kernel))
        (pi_list (pe_fld (pv 0) rfl)) (blkOk_by (own := [("other", 5)]) (N := nPlace) (sc := defScope (mRel 14)) (by decide +kernel))
        (fun _ _ _ _ _ => pg_name (i := 5) scPlace.nd rfl (Or.inl rfl)) (fun _ _ _ _ _ => pts_one (pt_val (pe_call DS.ok hr2 (by rfl) DS.mg DS.kp DS.bi .nil pass0 (pa_cons (pv 5) (pa_cons (pv 2) (pa_cons (pe_ix ix_list (pv 3) (pv 1) (fun _ _ => rfl)) pa_nil))))))
        (fun _ _ _ _ _ => pv 5))
    (pss_one (ps_ret (pe_lst (pa_cons (pe_ifExp (pt_cmpR (op_inD (hu65 hr)) (pv 2) (pe_fld (pv 0) rfl) rfl) pe_int pe_int) (pa_cons (pe_callB call_len_seq (by rfl) ml PySem.boot_len (pa_cons (pv 4) pa_nil)) pa_nil)))))))), ?_⟩
  refine ⟨_, rfl, a, dx, _, rfl, ha, rlF_none _ _ _ (by decide +kernel) (by decide +kernel) (by decide +kernel), a, sa, ra, g, st, rfl, R, O, fun H1 p1 s1 n1 L1 => ?_⟩
  have noSuch : (o < 0 ∨ (orders st).length ≤ o.toNat) → ∀ p, H1 p = none → Q (.ref p) (upd H1 p (.lst [.int (-2)])) := fun c => by
    rw [if_pos c] at q
    exact q.short R tb s1
  refine ⟨_, rfl, _, _, rfl, rfl, _, rfl, ?_⟩
  refine ite2 (fun d => ?_) (fun d => ?_)
  · exact iteT ⟨(by show 1 ≤ sizeLine; decide), noSuch (.inl (of_decide_eq_true d))⟩
  have c1 : ¬ o < 0 := fun z => d (decide_eq_true z)
  obtain ⟨os, hO⟩ := L1
  refine ⟨_, rfl, _, rfl, p1, _, rfl, .inl (SqL.of hO.top), _, _, rfl, rfl, _, rfl, ?_⟩
  rw [List.length_map, hO.len]
  refine ite2 (fun d2 => ?_) (fun d2 => ?_)
  · have : ((orders st).length : Int) ≤ o := of_decide_eq_true d2
    exact ⟨(by show 1 ≤ sizeLine; decide), noSuch (.inr (by omega))⟩
  have c2 : ¬ ((orders st).length : Int) ≤ o := fun z => d2 (decide_eq_true z)
  have ho : o.toNat < (orders st).length := by omega
  rw [if_neg (by omega)] at q
  have R1 := R.same s1
  obtain ⟨dx1, ha1⟩ := R1.ins
  refine ⟨_, rfl, a, dx1, _, rfl, ha1, rlF_none _ _ _ (by decide +kernel) (by decide +kernel) (by decide +kernel), _, rfl, a, sa, ra, g, b, st, x, rfl, R1, s1 _ _ hb, hx, fun H2 s2 => ⟨_, rfl, ?_⟩⟩
  cases e1 : rowOk st x with
  | false =>
    refine iteT ⟨(by show 1 ≤ sizeLine; decide), ?_⟩
    rw [if_pos e1] at q
    exact q.short R tb (s1.trans s2)
  | true =>
    refine iteF ?_
    rw [if_neg (by rw [e1]; simp)] at q
    have s12 := s1.trans s2
    have R2 := R.same s12
    obtain ⟨dx2, ha2⟩ := R2.ins
    obtain ⟨rs, hR, _⟩ := R2.ro
    have hO2 := hO.same s2
    have hb2 := s12 _ _ hb
    have eo : V.int o = vn o.toNat := by unfold vn; rw [Int.toNat_of_nonneg (by omega)]
    rw [eo]
    have hlx : x.length = st.cols := by
      unfold rowOk at e1
      rw [Bool.and_eq_true] at e1
      exact of_decide_eq_true e1.1
    obtain ⟨oa, hoa, hor⟩ := hO2.at ho
    have goa : (os.map V.ref)[o.toNat]? = some (.ref oa) := by rw [List.getElem?_map, hoa]; rfl
    have od_eq : (orders st).getD o.toNat [] = rowOf (orders st) o.toNat := rfl
    rw [od_eq] at q
    have Fl := orders_full O (rowOf_mem ho)
    have sh := orders_short O (rowOf_mem ho)
    generalize rowOf (orders st) o.toNat = od at q hor Fl sh
    have few := RK.few
    refine ⟨_, rfl, a, C, dx2, _, _, rfl, ha2, X.cl, X.nR, rlF_r _ _ _, ra, rfl, ⟨_, SqL.of hR.top⟩, fun D nD => ?_⟩
    refine lc_it (walk_list (xs := rs.map V.ref)) (Lc H2 D (fun k => if before od (st.rows.getD k []) x = true then some (V.ref (rs.getD k 0)) else none)) (lc_start nD) (fun i H3 _ h3 => h3.1.seq (SqL.of hR.top)) ?_ ?_
    · rintro i v H3 H4 hi h3 ⟨rfl, hv⟩
      obtain ⟨c, hc, rfl⟩ := refs_get hv
      obtain ⟨y, hy, hcr⟩ := hR.at hc
      have hyl := RK.len y (List.mem_of_getElem? hy)
      have hil : i < st.rows.length := by rw [List.length_map, hR.len] at hi; exact hi
      have ey : st.rows.getD i [] = y := getD_get hy
      have ec : rs.getD i 0 = c := getD_get hc
      refine ⟨rfl, _, rfl, _, rfl, _, rfl, _, rfl, p1, _, _, _, rfl, rfl, h3.1.seq (SqL.of hO2.top), atI_nat goa, c, b, oa, y, x, od, rfl, h3.1 _ _ hcr, h3.1 _ _ hb2, h3.1 _ _ hor, fun z hz => by rw [hyl]; exact Fl.only z hz, fun z hz => by rw [hlx]; exact Fl.only z hz, by omega, fun H5 s5 => ⟨_, rfl, ?_⟩⟩
      cases e2 : before od y x with
      | true =>
        refine iteT ⟨_, rfl, lc_yes nD h3 s5 ?_ (by omega)⟩
        show (if before od (st.rows.getD i []) x = true then some (V.ref (rs.getD i 0)) else none) = some (V.ref c)
        rw [ey, ec, if_pos e2]
      | false =>
        refine iteF (lc_no h3 s5 ?_)
        show (if before od (st.rows.getD i []) x = true then some (V.ref (rs.getD i 0)) else none) = none
        rw [ey, if_neg (by rw [e2]; simp)]
    · rintro H3 ⟨s3, e3⟩
      have R3 := R2.same s3
      obtain ⟨dx3, ha3⟩ := R3.ins
      have hlen : (outs (fun k => if before od (st.rows.getD k []) x = true then some (V.ref (rs.getD k 0)) else none) (rs.map V.ref).length).length = (st.rows.filter fun y => before od y x).length := by
        rw [List.length_map, hR.len, outs_count st.rows [] (fun y => before od y x) (fun k => V.ref (rs.getD k 0)) _ (Nat.le_refl _), List.take_length]
      refine ⟨_, rfl, _, rfl, a, C, dx3, _, _, rfl, ha3, X.cl, X.nR, rlF_r _ _ _, dii x, _, dii_at (SqL.of (s3 _ _ hb2)), R3.lj.dp, dii_shaped _, diiss_shaped _, _, rfl, ?_⟩
      rw [diiss_any]
      have s13 := s12.trans s3
      cases e2 : st.rows.contains x with
      | true =>
        refine iteT ⟨_, rfl, D, _, rfl, .inl (SqL.of e3), (by show 2 ≤ sizeLine; decide), ?_⟩
        rw [hlen]
        rw [if_pos e2] at q
        exact q.short R tb s13
      | false =>
        refine iteF ⟨_, rfl, D, _, rfl, .inl (SqL.of e3), (by show 2 ≤ sizeLine; decide), ?_⟩
        rw [hlen]
        rw [if_neg (by rw [e2]; simp)] at q
        exact q.short R tb s13
end
end SC
namespace SC
open PySem PySem.Spec PyProof.Rows L2
open LamX (Tabs TabS TabB ExtN CodeO)
open Md50 (searchAt valueIn isValue chains server nums num known rowOk valuesOk orders orderOf orderAt before)
/-! ### rows_with -/
def intOf : V → Int
  | .int i => i
  | _ => 0
/-- the row that a value stands for -/
def rowOfV (H : Hp) : V → List Int
  | .ref b => match H b with
    | some (.lst l) => l.map intOf
    | _ => []
  | _ => []
theorem rowOfV_at {H : Hp} {b : Addr} {x : List Int} (h : H b = some (.lst (iv x))) : rowOfV H (.ref b) = x := by
  show (match H b with | some (.lst l) => l.map intOf | _ => []) = x
  rw [h]
  show (iv x).map intOf = x
  unfold iv
  rw [List.map_map]
  have : (intOf ∘ V.int) = id := rfl
  rw [this, List.map_id]
abbrev qLam : Str := ("Relation.rows_with" : Str) ++ (".<locals>." : Str) ++ ("<lambda>" : Str)
abbrev nRW : List Str := ["self", "which", "wanted", "found", "order", "row"]
theorem scRW : FnScope nRW ["self", "which", "wanted"] (defScope (mRel 17)) := ⟨rfl, rfl, rfl, by decide +kernel, rfl, by decide +kernel, by decide +kernel⟩
def spRW (C Pt : Addr) : Sp := fun vs H Q _ => ∃ (a sa ra g b : Addr) (s : Md50.St) (i : Nat) (v : List Int), vs = [.ref a, vn i, .ref b] ∧ RS C H a sa ra g s ∧ Ok s ∧ Rk s ∧ i < s.searches.length ∧ H b = some (.lst (iv v)) ∧ Tabs [(Pt, qLam)] H ∧
  ∀ H' p, ExtN H H' → Tabs [(Pt, qLam)] H' → NewT H p → LJ H' p (foundG s i v) → Q (.ref p) H'
section
variable {P : Program} {w : World} {K : PySem.W.Frag} {mg : Str → Option Value} {base : Heap} {C Pt c : Addr}
theorem ok_rw {f fO fV : Addr} {fdO fdV : FuncData} {oc : Value} {od an : Option Addr} {osl : Array (Option Value)} {kV doc pm ct : Value}
    (lk : K.lookup f = some ⟨oc, od, .func (PySem.W.fnOf "rows_with" "Relation.rows_with" (defArgs (mRel 17)) (defBody (mRel 17)) (defScope (mRel 17)) .none kV doc pm an (.ref c) ct), osl⟩) (hcd : PySem.W.codeIn K (.ref c) "Relation.rows_with" = true) (X : RlTxt K C) (TB : TabB base mg c Pt) (ms : mg "sorted" = none)
    (DO : Dm P w K mg base 26 C "order_with" ["self", "which"] (spOW C) fO fdO) (DV : Df P w K mg base 1 "values_in" ["row", "columns"] spVals fV fdV) : FnOk P w K mg base CX0 27 f (PySem.W.fnOf "rows_with" "Relation.rows_with" (defArgs (mRel 17)) (defBody (mRel 17)) (defScope (mRel 17)) .none kV doc pm an (.ref c) ct) ["self", "which", "wanted"] (spRW C Pt) := by
  refine fn_of lk hcd scRW (fun vs H Q E h => ?_) fun A outer s H vs Q E hr h => ?_
  · obtain ⟨_, _, _, _, _, _, _, _, rfl, _⟩ := h
    rfl
  obtain ⟨a, sa, ra, g, b, st, i, v, rfl, R, O, RK, hi, hb, tb, q⟩ := h
  obtain ⟨dx, ha⟩ := R.ins
  have hr1 : Room 1 _ := hr.mono (by decide)
  have hr4 : Room (1 + 3) _ := hr.mono (by decide)
  suffices hh : ∃ t, PSs (cxOf CX0 P w K mg base nRW "Relation.rows_with" (defScope (mRel 17)) f (.ref c) A outer s H E).nox (defBody (mRel 17)) t ∧ t { nx := fun _ H' => Q .non H', rt := Q } (L2.start nRW [.ref a, vn i, .ref b]) H by
    obtain ⟨t, h1, h2⟩ := hh
    exact ⟨t, h1.nox, h2⟩
  refine ⟨_, pss_cons (ps_set (i := 4) scRW.nd rfl (.inr rfl) (pe_meth (pv 0) X.cl DO.me DO.ok hr DO.bi .nil pass0 (pa_cons (pv 1) pa_nil)))
    (pss_cons (ps_setLc (i := 3) (own := [("row", 5)]) (g := gName 5) (tt := tTest (tOp (rEqD K) (tCall spVals [] E0 (tCons (tVar 5) (tCons (tOp (rIxL K) (tFld K (tVar 0) "searches") (tVar 1)) tNil))) (tVar 2))) (te := tVar 5) rfl scRW.nd rfl rfl (sw_true rfl rfl rfl (by decide +kernel))
        (pi_list (pe_fld (pv 0) rfl)) (blkOk_by (own := [("row", 5)]) (N := nRW) (sc := defScope (mRel 17)) (by decide +kernel))
        (fun _ _ _ _ _ => pg_name (i := 5) scRW.nd rfl (Or.inl rfl)) (fun _ _ _ _ _ => pts_one (pt_cmpR (op_eqD hr.units) (pe_call DV.ok hr1 (by rfl) DV.mg DV.kp DV.bi .nil pass0 (pa_cons (pv 5) (pa_cons (pe_ix ix_list (pe_fld (pv 0) rfl) (pv 1) (fun _ _ => rfl)) pa_nil))) (pv 2) (nomark _)))
        (fun _ _ _ _ _ => pv 5))
    (pss_one (ps_ret (SR.pe_sortLam (T := [(Pt, qLam)]) (c := c) (P := Pt) (k := 1) (a := "row") (N := ["row", "order"]) (fr := ["order"]) (js := [4]) (tb := tCall spVals [] E0 (tCons (tVar 0) (tCons (tVar 1) tNil))) rfl ms (by decide +kernel) (pv 3) TB rfl
      (List.mem_singleton.mpr rfl) (fun p hp _ => by rw [List.mem_singleton.mp hp]; rfl) hr4 (NdefX.nscope_by (by decide +kernel)) rfl (NdefX.ndef_free (sc := defScope (mRel 17)) (fr := ["order"]) (by decide +kernel)) (NdefX.ndef_fr (sc := defScope (mRel 17)) (by decide +kernel)) rfl rfl (fun _ _ _ _ _ _ => rfl)
      (fun A outer s H f c' hr0 => pe_call DV.ok hr0 (by rfl) DV.mg DV.kp DV.bi .nil pass0 (pa_cons (pv 0) (pa_cons (pv 1) pa_nil))))))), ?_⟩
  refine ⟨_, rfl, a, dx, _, rfl, ha, rlF_none _ _ _ (by decide +kernel) (by decide +kernel) (by decide +kernel), _, rfl, a, sa, ra, g, st, i, rfl, R, O, hi, fun H1 oa s1 n1 h1 => ?_⟩
  have R1 := R.same s1
  obtain ⟨dx1, ha1⟩ := R1.ins
  obtain ⟨rs, hR, _⟩ := R1.ro
  obtain ⟨ss, hS, _⟩ := R1.se
  obtain ⟨cs, hcs, hcr⟩ := hS.at hi
  have gcs : (ss.map V.ref)[i]? = some (.ref cs) := by rw [List.getElem?_map, hcs]; rfl
  have eS : rowOf st.searches i = searchAt st i := rfl
  rw [eS] at hcr
  have Fl := orders_full O (orderAt_mem O hi)
  have sho := orders_short O (orderAt_mem O hi)
  have colS := O.col _ (searchAt_mem hi)
  have lenS := O.len7 (searchAt_mem hi)
  have few := RK.few
  have hzl : (rs.zip st.rows).length = st.rows.length := by rw [List.length_zip, hR.len, Nat.min_self]
  have zin : ∀ p ∈ rs.zip st.rows, H1 p.1 = some (.lst (iv p.2)) ∧ p.2.length = st.cols := fun p hp => by
    obtain ⟨j, hj⟩ := List.mem_iff_getElem?.mp hp
    rw [List.getElem?_zip_eq_some] at hj
    exact ⟨hR.row j p.1 p.2 hj.1 hj.2, RK.len _ (List.mem_of_getElem? hj.2)⟩
  refine ⟨_, rfl, a, C, dx1, _, _, rfl, ha1, X.cl, X.nR, rlF_r _ _ _, ra, rfl, ⟨_, SqL.of hR.top⟩, fun D nD => ?_⟩
  refine lc_it (walk_list (xs := rs.map V.ref)) (Lc H1 D (fun k => ((rs.zip st.rows)[k]?).bind fun p => if has (searchAt st i) v p.2 = true then some (V.ref p.1) else none)) (lc_start nD) (fun j H2 _ h2 => h2.1.seq (SqL.of hR.top)) ?_ ?_
  · rintro j u H2 H3 hj h2 ⟨rfl, hu⟩
    obtain ⟨rb, hrb, rfl⟩ := refs_get hu
    obtain ⟨y, hy, hrr⟩ := hR.at hrb
    have hyl := RK.len y (List.mem_of_getElem? hy)
    have ez : (rs.zip st.rows)[j]? = some (rb, y) := by rw [List.getElem?_zip_eq_some]; exact ⟨hrb, hy⟩
    have hj' : j < 5000 := by rw [List.length_map, hR.len] at hj; omega
    have ha2 := h2.1 _ _ ha1
    refine ⟨rfl, _, rfl, _, rfl, a, C, dx1, _, _, rfl, ha2, X.cl, X.nS, rlF_s _ _ _, _, rfl, sa, _, _, _, rfl, rfl, h2.1.seq (SqL.of hS.top), atI_nat gcs, rb, cs, y, searchAt st i, rfl, h2.1 _ _ hrr, h2.1 _ _ hcr, fun z hz => by rw [hyl]; exact colS z hz, by omega, fun H4 kp s4 n4 h4 => ?_⟩
    refine ⟨_, rfl, dii (vals (searchAt st i) y), dii v, dii_at (SqL.of h4), dii_at (SqL.of (s4 _ _ (h2.1 _ _ (s1 _ _ hb)))), dii_shaped _, dii_shaped _, _, rfl, ?_⟩
    rw [dii_eq]
    show if has (searchAt st i) v y = true then _ else _
    by_cases e : has (searchAt st i) v y = true
    · rw [if_pos e]
      exact ⟨_, rfl, lc_yes nD h2 s4 (by rw [ez]; exact if_pos e) hj'⟩
    · rw [if_neg e]
      exact lc_no h2 s4 (by rw [ez]; exact if_neg e)
  · rintro H2 ⟨s2, e2⟩
    have en : (rs.map V.ref).length = (rs.zip st.rows).length := by rw [List.length_map, hR.len, hzl]
    rw [en, outs_all] at e2
    have ef : ((rs.zip st.rows).filterMap fun p => if has (searchAt st i) v p.2 = true then some (V.ref p.1) else none) = ((rs.zip st.rows).filter fun p => has (searchAt st i) v p.2).map fun p => V.ref p.1 := by
      induction rs.zip st.rows with
      | nil => rfl
      | cons p r ih =>
        by_cases e : has (searchAt st i) v p.2 = true
        · rw [List.filter_cons_of_pos (p := fun p : Addr × Md50.Row => has (searchAt st i) v p.2) e, List.filterMap_cons]
          simp only [e, if_true]
          rw [ih]; rfl
        · rw [List.filter_cons_of_neg (p := fun p : Addr × Md50.Row => has (searchAt st i) v p.2) e, List.filterMap_cons]
          simp only [e]
          exact ih
    rw [ef] at e2
    have zsub : ∀ p ∈ (rs.zip st.rows).filter (fun p => has (searchAt st i) v p.2), p ∈ rs.zip st.rows := fun p hp => (List.mem_filter.mp hp).1
    have esnd : ((rs.zip st.rows).filter fun p => has (searchAt st i) v p.2).map Prod.snd = st.rows.filter (has (searchAt st i) v) := by
      have h1 : st.rows = (rs.zip st.rows).map Prod.snd := by rw [List.map_snd_zip (by rw [hR.len]; exact Nat.le_refl _)]
      conv => rhs; rw [h1]
      rw [List.filter_map]; rfl
    generalize (rs.zip st.rows).filter (fun p => has (searchAt st i) v p.2) = zs at e2 zsub esnd
    have h12 := h1
    refine ⟨_, rfl, D, rfl, tb.ext (s1.trans s2), fun H3 x3 T3 => ?_⟩
    have l3 : ∀ {b : Addr} {l : List V}, H2 b = some (.lst l) → H3 b = some (.lst l) := fun q => x3 _ _ q fun ps z => by cases z
    have zat : ∀ p ∈ zs, H3 p.1 = some (.lst (iv p.2)) ∧ p.2.length = st.cols := fun p hp => ⟨l3 (s2 _ _ (zin p (zsub p hp)).1), (zin p (zsub p hp)).2⟩
    refine ⟨_, fun y => vals (orderAt st i) (rowOfV H3 y), SqL.of (l3 e2), fun y hy H4 s4 => ?_, fun H5 p s5 n5 h5 => ?_⟩
    · obtain ⟨z, hz, ey⟩ := List.mem_map.mp hy
      subst ey
      obtain ⟨h6, h7⟩ := zat z hz
      refine ⟨_, rfl, _, rfl, z.1, oa, z.2, orderAt st i, rfl, s4 _ _ h6, s4 _ _ (l3 (s2 _ _ h1)), fun x hx => by rw [h7]; exact Fl.only x hx, by omega, fun H5 p5 s5 n5 h5 => ⟨s5, p5, rfl, n5, ?_⟩⟩
      show H5 p5 = some (.lst (iv (vals (orderAt st i) (rowOfV H3 (.ref z.1)))))
      rw [rowOfV_at h6]
      exact h5
    · have eN := ExtN.trans (ExtN.of (s1.trans s2)) (ExtN.trans x3 (ExtN.of s5))
      have nH : NewT H p := NewT.extN (ExtN.trans (ExtN.of (s1.trans s2)) x3) (NewT.of n5)
      have e1 : ((zs.mergeSort fun p q => leV (orderAt st i) p.2 q.2).map fun p => V.ref p.1) = (zs.map fun p => V.ref p.1).mergeSort fun x y => decide (vals (orderAt st i) (rowOfV H3 x) ≤ vals (orderAt st i) (rowOfV H3 y)) := by
        refine PySem.W.sort_maps (fun p : Addr × List Int => V.ref p.1) fun p hp q' hq' => ?_
        show leV (orderAt st i) p.2 q'.2 = decide (vals (orderAt st i) (rowOfV H3 (.ref p.1)) ≤ vals (orderAt st i) (rowOfV H3 (.ref q'.1)))
        rw [rowOfV_at (zat p hp).1, rowOfV_at (zat q' hq').1]; rfl
      have e3 : (zs.mergeSort fun p q => leV (orderAt st i) p.2 q.2).map Prod.snd = foundG st i v := by
        unfold foundG
        rw [← esnd]
        exact PySem.W.sort_maps Prod.snd fun p hp q' hq' => rfl
      rw [← e1] at h5
      refine q H5 p eN (T3.ext s5) nH ⟨(zs.mergeSort fun p q => leV (orderAt st i) p.2 q.2).map Prod.fst, ?_, ?_, ?_, ?_⟩
      · rw [h5, List.map_map]; rfl
      · rw [← e3, List.length_map, List.length_map]
      · intro j b' x' hb' hx'
        rw [← e3, List.getElem?_map] at hx'
        rw [List.getElem?_map] at hb'
        cases ej : (zs.mergeSort fun p q => leV (orderAt st i) p.2 q.2)[j]? with
        | none => rw [ej] at hb'; cases hb'
        | some pp =>
          rw [ej] at hb' hx'
          have k1 : pp.1 = b' := Option.some.inj hb'
          have k2 : pp.2 = x' := Option.some.inj hx'
          have hm : pp ∈ zs := (List.mergeSort_perm _ _).mem_iff.mp (List.mem_of_getElem? ej)
          rw [← k1, ← k2]
          exact s5 _ _ (zat pp hm).1
      · intro b' hb'
        obtain ⟨pp, hpp, k1⟩ := List.mem_map.mp hb'
        have hm : pp ∈ zs := (List.mergeSort_perm _ _).mem_iff.mp hpp
        rw [← k1]
        exact fun z => by
          have := (zat pp hm).1
          rw [z, n5] at this
          cases this
end
end SC
namespace SC
open PySem PySem.Spec PyProof.Rows L2
open LamX (Tabs TabS TabB ExtN CodeO)
open Md50 (searchAt valueIn isValue chains server nums num known rowOk valuesOk orders orderOf orderAt before)
theorem values_len {s : Md50.St} {i : Int} {v : List Int} (h : valuesOk s i v = true) : v.length = (searchAt s i.toNat).length := by
  unfold valuesOk at h
  rw [Bool.and_eq_true] at h
  exact of_decide_eq_true h.1
theorem row_len {s : Md50.St} {x : List Int} (h : rowOk s x = true) : x.length = s.cols := by
  unfold rowOk at h
  rw [Bool.and_eq_true] at h
  exact of_decide_eq_true h.1
theorem extN_lst {H H' : Hp} {b : Addr} {l : List V} (e : ExtN H H') (q : H b = some (.lst l)) : H' b = some (.lst l) := e _ _ q fun ps z => by cases z
/-! ### find_rows -/
def spFind (C Pt : Addr) : Sp := fun vs H Q _ => ∃ (a sa ra g b : Addr) (s : Md50.St) (i : Int) (v : List Int), vs = [.ref a, .int i, .ref b] ∧ RS C H a sa ra g s ∧ Ok s ∧ Rk s ∧ s.cols ≠ 0 ∧ H b = some (.lst (iv v)) ∧ v.length ≤ 1000 ∧ Tabs [(Pt, qLam)] H ∧ Fin C [(Pt, qLam)] a sa ra g (Md50.spec s (.find i v)) H Q
section
variable {P : Program} {w : World} {K : PySem.W.Frag} {mg : Str → Option Value} {base : Heap} {C Pt : Addr}
theorem scFind : FnScope ["self", "which", "wanted"] ["self", "which", "wanted"] (defScope (mRel 12)) := ⟨rfl, rfl, rfl, by decide +kernel, rfl, by decide +kernel, by decide +kernel⟩
theorem ok_find {f fH fV fR fN : Addr} {fd fdH fdV fdR fdN : FuncData} {t1 t2 : Tok} (F : Fun K "find_rows" "Relation.find_rows" (mRel 12) f fd) (X : RlTxt K C) (mN : mg "NO_SUCH" = some (.int (-2) t1)) (mW : mg "WRONG" = some (.int (-1) t2))
    (DH : Dm P w K mg base 1 C "has_search" ["self", "which"] (spHas C) fH fdH) (DV : Dm P w K mg base 2 C "has_values" ["self", "which", "wanted"] (spHasV C) fV fdV) (DR : Dm P w K mg base 27 C "rows_with" ["self", "which", "wanted"] (spRW C Pt) fR fdR) (DN : Df P w K mg base 1 "counted" ["lists"] spCnt fN fdN) :
    FnOk P w K mg base CX0 28 f fd ["self", "which", "wanted"] (spFind C Pt) := by
  refine F.ok scFind (fun vs H Q E h => ?_) (fun cdv A outer s H vs Q E hr h => ?_)
  · obtain ⟨_, _, _, _, _, _, _, _, rfl, _⟩ := h
    rfl
  obtain ⟨a, sa, ra, g, b, st, i, v, rfl, R, O, RK, nz, hb, hv, tb, q⟩ := h
  obtain ⟨dx, ha⟩ := R.ins
  have hr1 : Room 1 _ := hr.mono (by decide)
  have hr2 : Room 2 _ := hr.mono (by decide)
  rw [spec_find nz] at q
  refine ⟨_, pss_cons (ps_if (pt_not (pt_val (pe_meth (pv 0) X.cl DH.me DH.ok hr1 DH.bi .nil pass0 (pa_cons (pv 1) pa_nil)))) (pss_one (ps_ret (pe_lst (pa_cons (pe_num rfl mN) pa_nil)))) pss_nil)
    (pss_cons (ps_if (pt_not (pt_val (pe_meth (pv 0) X.cl DV.me DV.ok hr2 DV.bi .nil pass0 (pa_cons (pv 1) (pa_cons (pv 2) pa_nil))))) (pss_one (ps_ret (pe_lst (pa_cons (pe_num rfl mW) pa_nil)))) pss_nil)
    (pss_one (ps_ret (pe_call DN.ok hr1 (by rfl) DN.mg DN.kp DN.bi .nil pass0 (pa_cons (pe_meth (pv 0) X.cl DR.me DR.ok hr DR.bi .nil pass0 (pa_cons (pv 1) (pa_cons (pv 2) pa_nil))) pa_nil))))), ?_⟩
  refine ⟨_, rfl, a, dx, _, rfl, ha, rlF_none _ _ _ (by decide +kernel) (by decide +kernel) (by decide +kernel), _, rfl, a, sa, ra, g, st, i, rfl, R, ⟨_, rfl, ?_⟩⟩
  cases e1 : known st i with
  | false =>
    refine iteT ⟨(by show 1 ≤ sizeLine; decide), ?_⟩
    rw [if_pos e1] at q
    exact q.short R tb (Same.refl H)
  | true =>
    refine iteF ?_
    rw [if_neg (by rw [e1]; simp)] at q
    obtain ⟨i0, hi⟩ := known_iff e1
    have ei : V.int i = vn i.toNat := by unfold vn; rw [Int.toNat_of_nonneg i0]
    have ei2 : ((i.toNat : Nat) : Int) = i := Int.toNat_of_nonneg i0
    rw [ei]
    refine ⟨_, rfl, a, dx, _, rfl, ha, rlF_none _ _ _ (by decide +kernel) (by decide +kernel) (by decide +kernel), _, rfl, _, rfl, a, sa, ra, g, b, st, i.toNat, v, rfl, R, hi, hb, hv, fun H1 s1 => ⟨_, rfl, ?_⟩⟩
    rw [ei2]
    have R1 := R.same s1
    obtain ⟨dx1, ha1⟩ := R1.ins
    cases e2 : valuesOk st i v with
    | false =>
      refine iteT ⟨(by show 1 ≤ sizeLine; decide), ?_⟩
      rw [if_pos e2] at q
      exact q.short R tb s1
    | true =>
      refine iteF ?_
      rw [if_neg (by rw [e2]; simp), found_eq O RK hi (values_len e2)] at q
      refine ⟨_, rfl, a, dx1, _, rfl, ha1, rlF_none _ _ _ (by decide +kernel) (by decide +kernel) (by decide +kernel), _, rfl, _, rfl, a, sa, ra, g, b, st, i.toNat, v, rfl, R1, O, RK, hi, s1 _ _ hb, tb.ext s1, fun H2 p2 x2 T2 n2 L2 => ?_⟩
      have few := RK.few
      have fl := found_len st i.toNat v
      have sev := O.sev
      refine ⟨p2, _, rfl, L2, by omega, fun x hx => by rw [RK.len x (found_mem hx)]; omega, fun H3 p3 s3 n3 h3 => ?_⟩
      have eN : ExtN H H3 := ExtN.trans (ExtN.of s1) (ExtN.trans x2 (ExtN.of s3))
      refine q H3 p3 sa ra (R.extN eN) (.inl rfl) (.inl rfl) (.extN eN) (T2.ext s3) (NewT.extN (ExtN.trans (ExtN.of s1) x2) (.of n3)) ?_
      rw [h3]; rfl
/-! ### next_row -/
def spNext (C Pt : Addr) : Sp := fun vs H Q _ => ∃ (a sa ra g b d : Addr) (s : Md50.St) (i : Int) (v x : List Int), vs = [.ref a, .int i, .ref b, .ref d] ∧ RS C H a sa ra g s ∧ Ok s ∧ Rk s ∧ s.cols ≠ 0 ∧ H b = some (.lst (iv v)) ∧ v.length ≤ 1000 ∧ H d = some (.lst (iv x)) ∧ x.length ≤ 1000 ∧ Tabs [(Pt, qLam)] H ∧ Fin C [(Pt, qLam)] a sa ra g (Md50.spec s (.next i v x)) H Q
abbrev nNext : List Str := ["self", "which", "wanted", "row", "order", "other"]
theorem scNext : FnScope nNext ["self", "which", "wanted", "row"] (defScope (mRel 13)) := ⟨rfl, rfl, rfl, by decide +kernel, rfl, by decide +kernel, by decide +kernel⟩
theorem find_take {l : List (List Int)} {p : List Int → Bool} {i : Nat} {y : List Int} (h : (l.take i).find? p = none) (hy : l[i]? = some y) : (p y = true → l.find? p = some y) ∧ (p y = false → (l.take (i + 1)).find? p = none) := by
  have e : l = l.take i ++ l.drop i := (List.take_append_drop i l).symm
  obtain ⟨hi, ey⟩ := List.getElem?_eq_some_iff.mp hy
  have ed : l.drop i = y :: l.drop (i + 1) := by rw [List.drop_eq_getElem_cons hi, ey]
  refine ⟨fun c => ?_, fun c => ?_⟩
  · rw [e, List.find?_append, h, ed, List.find?_cons_of_pos c]; rfl
  · rw [List.take_add_one, hy, List.find?_append, h]
    show ([y].find? p) = none
    rw [List.find?_cons_of_neg (by rw [c]; simp)]; rfl
theorem ok_next {f fH fV fI fO fR fS : Addr} {fd fdH fdV fdI fdO fdR fdS : FuncData} {t1 t2 t3 : Tok} (F : Fun K "next_row" "Relation.next_row" (mRel 13) f fd) (X : RlTxt K C) (mN : mg "NO_SUCH" = some (.int (-2) t1)) (mW : mg "WRONG" = some (.int (-1) t2)) (mR : mg "NO_ROW" = some (.int (-4) t3))
    (DH : Dm P w K mg base 1 C "has_search" ["self", "which"] (spHas C) fH fdH) (DV : Dm P w K mg base 2 C "has_values" ["self", "which", "wanted"] (spHasV C) fV fdV) (DI : Dm P w K mg base 2 C "is_row" ["self", "row"] (spIsRow C) fI fdI) (DO : Dm P w K mg base 26 C "order_with" ["self", "which"] (spOW C) fO fdO)
    (DR : Dm P w K mg base 27 C "rows_with" ["self", "which", "wanted"] (spRW C Pt) fR fdR) (DS : Df P w K mg base 2 "stands_ahead" ["row", "other", "order"] spAhead fS fdS) :
    FnOk P w K mg base CX0 28 f fd ["self", "which", "wanted", "row"] (spNext C Pt) := by
  refine F.ok scNext (fun vs H Q E h => ?_) (fun cdv A outer s H vs Q E hr h => ?_)
  · obtain ⟨_, _, _, _, _, _, _, _, _, _, rfl, _⟩ := h
    rfl
  obtain ⟨a, sa, ra, g, b, d, st, i, v, x, rfl, R, O, RK, nz, hb, hv, hd, hx, tb, q⟩ := h
  obtain ⟨dx, ha⟩ := R.ins
  have hr1 : Room 1 _ := hr.mono (by decide)
  have hr2 : Room 2 _ := hr.mono (by decide)
  have hr26 : Room 26 _ := hr.mono (by decide)
  rw [spec_next nz] at q
  refine ⟨_, pss_cons (ps_if (pt_not (pt_val (pe_meth (pv 0) X.cl DH.me DH.ok hr1 DH.bi .nil pass0 (pa_cons (pv 1) pa_nil)))) (pss_one (ps_ret (pe_lst (pa_cons (pe_num rfl mN) pa_nil)))) pss_nil)
    (pss_cons (ps_if (PW.pt (pw_or (pt_not (pt_val (pe_meth (pv 0) X.cl DV.me DV.ok hr2 DV.bi .nil pass0 (pa_cons (pv 1) (pa_cons (pv 2) pa_nil))))) (pw_or1 (pt_not (pt_val (pe_meth (pv 0) X.cl DI.me DI.ok hr2 DI.bi .nil pass0 (pa_cons (pv 3) pa_nil))))))) (pss_one (ps_ret (pe_lst (pa_cons (pe_num rfl mW) pa_nil)))) pss_nil)
    (pss_cons (ps_set (i := 4) scNext.nd rfl (.inl rfl) (pe_meth (pv 0) X.cl DO.me DO.ok hr26 DO.bi .nil pass0 (pa_cons (pv 1) pa_nil)))
    (pss_cons (ps_for PassesOwn.never rfl (pi_list (pe_meth (pv 0) X.cl DR.me DR.ok hr DR.bi .nil pass0 (pa_cons (pv 1) (pa_cons (pv 2) pa_nil)))) (pg_name (i := 5) scNext.nd rfl (Or.inl rfl))
      (pss_one (ps_if (pt_val (pe_call DS.ok hr2 (by rfl) DS.mg DS.kp DS.bi .nil pass0 (pa_cons (pv 3) (pa_cons (pv 5) (pa_cons (pv 4) pa_nil)))))
        (pss_one (ps_ret (pe_op op_cat (pe_lst (pa_cons (pe_fld (pv 0) rfl) pa_nil)) (pv 5)))) pss_nil)))
    (pss_one (ps_ret (pe_lst (pa_cons (pe_num rfl mR) pa_nil))))))), ?_⟩
  refine ⟨_, rfl, a, dx, _, rfl, ha, rlF_none _ _ _ (by decide +kernel) (by decide +kernel) (by decide +kernel), _, rfl, a, sa, ra, g, st, i, rfl, R, ⟨_, rfl, ?_⟩⟩
  cases e1 : known st i with
  | false =>
    refine iteT ⟨(by show 1 ≤ sizeLine; decide), ?_⟩
    rw [if_pos e1] at q
    exact q.short R tb (Same.refl H)
  | true =>
    refine iteF ?_
    rw [if_neg (by rw [e1]; simp)] at q
    obtain ⟨i0, hi⟩ := known_iff e1
    have ei : V.int i = vn i.toNat := by unfold vn; rw [Int.toNat_of_nonneg i0]
    have ei2 : ((i.toNat : Nat) : Int) = i := Int.toNat_of_nonneg i0
    rw [ei]
    refine ⟨_, rfl, a, dx, _, rfl, ha, rlF_none _ _ _ (by decide +kernel) (by decide +kernel) (by decide +kernel), _, rfl, _, rfl, a, sa, ra, g, b, st, i.toNat, v, rfl, R, hi, hb, hv, fun H1 s1 => ⟨_, rfl, ?_⟩⟩
    rw [ei2]
    have R1 := R.same s1
    obtain ⟨dx1, ha1⟩ := R1.ins
    cases e2 : valuesOk st i v with
    | false =>
      refine iteT (iteT ⟨(by show 1 ≤ sizeLine; decide), ?_⟩)
      rw [if_pos (.inl e2)] at q
      exact q.short R tb s1
    | true =>
      refine iteF ?_
      refine ⟨_, rfl, a, dx1, _, rfl, ha1, rlF_none _ _ _ (by decide +kernel) (by decide +kernel) (by decide +kernel), _, rfl, a, sa, ra, g, d, st, x, rfl, R1, s1 _ _ hd, hx, fun H2 s2 => ⟨_, rfl, ?_⟩⟩
      have s12 := s1.trans s2
      have R2 := R.same s12
      obtain ⟨dx2, ha2⟩ := R2.ins
      cases e3 : rowOk st x with
      | false =>
        refine iteT ⟨(by show 1 ≤ sizeLine; decide), ?_⟩
        rw [if_pos (.inr e3)] at q
        exact q.short R tb s12
      | true =>
        refine iteF ?_
        rw [if_neg (by rw [e2, e3]; simp), found_eq O RK hi (values_len e2)] at q
        refine ⟨_, rfl, a, dx2, _, rfl, ha2, rlF_none _ _ _ (by decide +kernel) (by decide +kernel) (by decide +kernel), _, rfl, a, sa, ra, g, st, i.toNat, rfl, R2, O, hi, fun H3 oa s3 n3 h3 => ?_⟩
        have s13 := s12.trans s3
        have R3 := R.same s13
        obtain ⟨dx3, ha3⟩ := R3.ins
        refine ⟨_, rfl, a, dx3, _, rfl, ha3, rlF_none _ _ _ (by decide +kernel) (by decide +kernel) (by decide +kernel), _, rfl, _, rfl, a, sa, ra, g, b, st, i.toNat, v, rfl, R3, O, RK, hi, s13 _ _ hb, tb.ext s13, fun H4 p4 x4 T4 n4 L4 => ?_⟩
        have eN4 : ExtN H H4 := ExtN.trans (ExtN.of s13) x4
        have R4 := R.extN eN4
        obtain ⟨fs, hF⟩ := L4
        have Fl := orders_full O (orderAt_mem O hi)
        have sho := orders_short O (orderAt_mem O hi)
        have hlx := row_len e3
        have sev := O.sev
        refine ⟨p4, rfl, ⟨_, SqL.of hF.top⟩, ?_⟩
        refine for_it (walk_list (xs := fs.map V.ref)) (fun j σ H5 => ∃ u, σ = [some (.ref a), some (vn i.toNat), some (.ref b), some (.ref d), some (.ref oa), u] ∧ Same H4 H5 ∧ ((foundG st i.toNat v).take j).find? (fun y => before (orderAt st i.toNat) x y) = none) ⟨none, rfl, Same.refl _, rfl⟩ (fun j σ H5 _ ⟨_, _, s5, _⟩ => s5.seq (SqL.of hF.top)) ?_ ?_
        · rintro j u σ H5 H6 hj ⟨u5, rfl, s5, hn⟩ ⟨rfl, hu⟩
          obtain ⟨c, hc, rfl⟩ := refs_get hu
          obtain ⟨y, hy, hcr⟩ := hF.at hc
          have hyl := RK.len y (found_mem (List.mem_of_getElem? hy))
          obtain ⟨ft, ff⟩ := find_take hn hy
          refine ⟨_, rfl, _, rfl, _, rfl, d, c, oa, x, y, orderAt st i.toNat, rfl, s5 _ _ (extN_lst eN4 hd), s5 _ _ hcr, s5 _ _ (extN_lst x4 h3), fun z hz => by rw [hlx]; exact Fl.only z hz, fun z hz => by rw [hyl]; exact Fl.only z hz, by omega, fun H7 s7 => ⟨_, rfl, ?_⟩⟩
          cases e4 : before (orderAt st i.toNat) x y with
          | true =>
            refine iteT ?_
            rw [ft e4] at q
            have s57 := s5.trans s7
            have R7 := R4.same s57
            obtain ⟨dx7, ha7⟩ := R7.ins
            refine ⟨_, rfl, a, C, dx7, _, _, rfl, ha7, X.cl, X.nC, rlF_c _ _ _, (by show 1 ≤ sizeLine; decide), fun p8 n8 => ?_⟩
            have s8 : Same H7 (upd H7 p8 (.lst [vn st.cols])) := same_new n8 _
            refine ⟨_, rfl, p8, c, _, _, rfl, rfl, upd_same, s8 _ _ (s57 _ _ hcr), ?_, fun p9 n9 => ?_⟩
            · rw [iv_len]
              show 1 + _ ≤ sizeLine
              exact Nat.le_of_lt (small1000 (by omega))
            · have s59 := (s57.trans s8).trans (same_new n9 (.lst ([vn st.cols] ++ iv y)))
              have eN9 : ExtN H _ := ExtN.trans eN4 (ExtN.of s59)
              refine q _ p9 sa ra (R.extN eN9) (.inl rfl) (.inl rfl) (.extN eN9) (T4.ext s59) (NewT.extN eN4 (.of ((s57.trans s8).free n9))) ?_
              rw [upd_same]
              show some (HO.lst (V.int (st.cols : Int) :: iv y)) = some (HO.lst (V.int (y.length : Int) :: iv y))
              rw [hyl]
          | false =>
            exact iteF ⟨some (.ref c), rfl, s5.trans s7, ff e4⟩
        · rintro σ H5 ⟨u5, rfl, s5, hn⟩
          rw [List.length_map, hF.len, List.take_length] at hn
          rw [hn] at q
          refine ⟨(by show 1 ≤ sizeLine; decide), fun p6 n6 => ?_⟩
          have s56 := s5.trans (same_new n6 (.lst [.int (-4)]))
          have eN6 : ExtN H _ := ExtN.trans eN4 (ExtN.of s56)
          exact q _ p6 sa ra (R.extN eN6) (.inl rfl) (.inl rfl) (.extN eN6) (T4.ext s56) (NewT.extN eN4 (.of (s5.free n6))) upd_same
end
end SC
namespace SC
open PySem PySem.Spec PyProof.Rows L2
open LamX (Tabs TabS TabB ExtN CodeO)
open Md50 (searchAt valueIn isValue chains server nums num known rowOk valuesOk orders orderOf orderAt before)
/-- what the reader and the relation promise, and the constants -/
structure Kit (P : Program) (w : World) (K : PySem.W.Frag) (mg : Str → Option Value) (base : Heap) (CR CL Pt : Addr) : Prop where
  rcl : RdTxt K CR
  lcl : RlTxt K CL
  has : ∃ f fd, Dm P w K mg base 1 CR "has_more" ["self"] (spRHas K CR) f fd
  num : ∃ f fd, Dm P w K mg base 1 CR "take_number" ["self"] (spRNum K CR) f fd
  nums : ∃ f fd, Dm P w K mg base 1 CR "take_numbers" ["self", "how_many"] (spRNums K CR) f fd
  lists : ∃ f fd, Dm P w K mg base 2 CR "take_lists" ["self", "how_many"] (spRLists K CR) f fd
  there : ∃ f fd, Dm P w K mg base 1 CL "is_there" ["self"] (spThere CL) f fd
  begin_ : ∃ f fd, Dm P w K mg base 1 CL "begin" ["self", "columns"] (spBegin CL [(Pt, qLam)]) f fd
  search : ∃ f fd, Dm P w K mg base 2 CL "search" ["self", "known"] (spSearch CL [(Pt, qLam)]) f fd
  orders : ∃ f fd, Dm P w K mg base 27 CL "orders" ["self"] (spOrders CL [(Pt, qLam)]) f fd
  serves : ∃ f fd, Dm P w K mg base 26 CL "serves" ["self", "which"] (spServes CL [(Pt, qLam)]) f fd
  apart : ∃ f fd, Dm P w K mg base 4 CL "apart" ["self"] (spApartM CL [(Pt, qLam)]) f fd
  put : ∃ f fd, Dm P w K mg base 3 CL "put" ["self", "row"] (spPut CL [(Pt, qLam)]) f fd
  take : ∃ f fd, Dm P w K mg base 3 CL "take" ["self", "row"] (spTake CL [(Pt, qLam)]) f fd
  find : ∃ f fd, Dm P w K mg base 28 CL "find_rows" ["self", "which", "wanted"] (spFind CL Pt) f fd
  next : ∃ f fd, Dm P w K mg base 28 CL "next_row" ["self", "which", "wanted", "row"] (spNext CL Pt) f fd
  place : ∃ f fd, Dm P w K mg base 27 CL "place" ["self", "number", "row"] (spPlace CL [(Pt, qLam)]) f fd
  cN : ∃ a, mg "CALL_NUMBERS" = some (.ref a) ∧ ∀ H, SqT K H a (iv [1, 0, 0, 1, 0, 0, 0, 1, 1, 1])
  cL : ∃ a, mg "CALL_LISTS" = some (.ref a) ∧ ∀ H, SqT K H a (iv [0, 1, 0, 0, 0, 1, 1, 1, 2, 1])
  c0 : ∃ t, mg "BEGIN" = some (.int 0 t)
  c1 : ∃ t, mg "SEARCH" = some (.int 1 t)
  c2 : ∃ t, mg "ORDERS" = some (.int 2 t)
  c3 : ∃ t, mg "SERVES" = some (.int 3 t)
  c4 : ∃ t, mg "APART" = some (.int 4 t)
  c5 : ∃ t, mg "PUT" = some (.int 5 t)
  c6 : ∃ t, mg "TAKE" = some (.int 6 t)
  c7 : ∃ t, mg "FIND" = some (.int 7 t)
  c8 : ∃ t, mg "NEXT" = some (.int 8 t)
  c9 : ∃ t, mg "NO_RELATION" = some (.int (-9) t)
theorem pe_gref {X : Cx} {x : Str} {a : Addr} {pos : Pos} (hg : Gl X x) (hm : X.mg x = some (.ref a)) (hd : (x == ("__debug__" : Str)) = false := by decide) : PE X (.Name x pos) (tC (.ref a)) := pe_glob hg hm rfl hd
/-- the list of calls as it was handed in: locked, or written -/
def CaOk (K : PySem.W.Frag) (H : Hp) (ca : Addr) (ns : List Int) : Prop := (∃ o, H ca = some (.frz o (.lst (iv ns)))) ∨ ∀ H', SqL K H' ca (iv ns)
theorem CaOk.sq {K : PySem.W.Frag} {H : Hp} {ca : Addr} {ns : List Int} (h : CaOk K H ca ns) : SqL K H ca (iv ns) := by
  rcases h with ⟨o, h⟩ | h
  · exact .inl (.inr ⟨o, h⟩)
  · exact h H
theorem CaOk.keep {K : PySem.W.Frag} {H H' : Hp} {ca : Addr} {ns : List Int} (h : CaOk K H ca ns) (k : ∀ o u, H ca = some (.frz o u) → H' ca = some (.frz o u)) : CaOk K H' ca ns := by
  rcases h with ⟨o, h⟩ | h
  · exact .inl ⟨o, k _ _ h⟩
  · exact .inr h
theorem rows_len : ∀ (k : Nat) (l : List Int) (xs : List (List Int)) (t : List Int), PyFlat.rows k l = some (xs, t) → xs.length = k
  | 0, l, xs, t, h => by
    have h' : some (([] : List (List Int)), l) = some (xs, t) := h
    cases h'; rfl
  | k + 1, l, xs, t, h => by
    unfold PyFlat.rows at h
    cases e : PyFlat.row l with
    | none => rw [e] at h; cases h
    | some q =>
      obtain ⟨y, u⟩ := q
      rw [e] at h
      cases e2 : PyFlat.rows k u with
      | none => simp only [e2] at h; cases h
      | some q2 =>
        obtain ⟨ys, v⟩ := q2
        simp only [e2] at h
        cases h
        rw [List.length_cons, rows_len k u ys _ e2]
theorem shape_cases {p : Int} {n k : Nat} (h : PyMd50.shape p = some (n, k)) : (p = 0 ∧ n = 1 ∧ k = 0) ∨ (p = 1 ∧ n = 0 ∧ k = 1) ∨ (p = 2 ∧ n = 0 ∧ k = 0) ∨ (p = 3 ∧ n = 1 ∧ k = 0) ∨ (p = 4 ∧ n = 0 ∧ k = 0) ∨ (p = 5 ∧ n = 0 ∧ k = 1) ∨ (p = 6 ∧ n = 0 ∧ k = 1) ∨ (p = 7 ∧ n = 1 ∧ k = 1) ∨ (p = 8 ∧ n = 1 ∧ k = 2) ∨ (p = 9 ∧ n = 1 ∧ k = 1) := by
  unfold PyMd50.shape at h
  split at h
  · cases h; exact .inl ⟨by assumption, rfl, rfl⟩
  split at h
  · cases h; exact .inr (.inl ⟨by assumption, rfl, rfl⟩)
  split at h
  · cases h; exact .inr (.inr (.inl ⟨by assumption, rfl, rfl⟩))
  split at h
  · cases h; exact .inr (.inr (.inr (.inl ⟨by assumption, rfl, rfl⟩)))
  split at h
  · cases h; exact .inr (.inr (.inr (.inr (.inl ⟨by assumption, rfl, rfl⟩))))
  split at h
  · cases h; exact .inr (.inr (.inr (.inr (.inr (.inl ⟨by assumption, rfl, rfl⟩)))))
  split at h
  · cases h; exact .inr (.inr (.inr (.inr (.inr (.inr (.inl ⟨by assumption, rfl, rfl⟩))))))
  split at h
  · cases h; exact .inr (.inr (.inr (.inr (.inr (.inr (.inr (.inl ⟨by assumption, rfl, rfl⟩)))))))
  split at h
  · cases h; exact .inr (.inr (.inr (.inr (.inr (.inr (.inr (.inr (.inl ⟨by assumption, rfl, rfl⟩))))))))
  split at h
  · cases h; exact .inr (.inr (.inr (.inr (.inr (.inr (.inr (.inr (.inr ⟨by assumption, rfl, rfl⟩))))))))
  · cases h
theorem test_no {p c : Int} {A B : Prop} (h : p ≠ c) (hb : B) : if decide (V.int p = V.int c) = true then A else B := by
  rw [if_neg (by rw [decide_eq_true_eq]; exact fun z => h (V.int.inj z))]
  exact hb
theorem test_yes {p c : Int} {A B : Prop} (h : p = c) (ha : A) : if decide (V.int p = V.int c) = true then A else B := by
  rw [if_pos (by rw [h]; exact decide_eq_true rfl)]
  exact ha
/-! ### answer_call -/
abbrev sCall : Stmt := top 24
abbrev nCall : List Str := ["reader", "relation", "call", "numbers", "lists"]
theorem scCall : FnScope nCall ["reader", "relation"] (defScope sCall) := ⟨rfl, rfl, rfl, by decide +kernel, rfl, by decide +kernel, by decide +kernel⟩
def spCall (K : PySem.W.Frag) (CR CL Pt : Addr) : Sp := fun vs H Q _ => ∃ (rd ca a sa ra g : Addr) (s : Md50.St) (ns acc : List Int) (n nn k : Nat) (p : Int) (r t : List Int) (xs : List (List Int)), vs = [.ref rd, .ref a] ∧ RdAt CR H rd ca n ∧ CaOk K H ca ns ∧ RS CL H a sa ra g s ∧ GoodS s ∧ H g = some (.lst (iv acc)) ∧ Tabs [(Pt, qLam)] H ∧
  ns.drop n = p :: r ∧ PyMd50.shape p = some (nn, k) ∧ nn ≤ r.length ∧ PyFlat.rows k (r.drop nn) = some (xs, t) ∧ (∀ x ∈ xs, x.length ≤ 1000) ∧
  ∀ (H' : Hp) (q sb rb : Addr) (m : Nat), RdAt CR H' rd ca m → m ≤ ns.length → n < m → ns.drop m = t → CaOk K H' ca ns → RS CL H' a sb rb g (Md50Neutral.step s (PyMd50.whole ((p :: r.take nn) :: xs))).1 → H' g = some (.lst (iv acc)) → Tabs [(Pt, qLam)] H' → q ≠ g →
    H' q = some (.lst (iv (Md50Neutral.step s (PyMd50.whole ((p :: r.take nn) :: xs))).2)) → Q (.ref q) H'
theorem rd_ne {CR CL dx dx' ca sa ra : Addr} {n m : Nat} : HO.ins CR dx (rdF ca n) ≠ HO.ins CL dx' (rlF m sa ra) := fun z => by
  injection z with _ _ z3
  have := congrArg List.length z3
  simp [rdF, rlF] at this
theorem RS.keep {C : Addr} {H H' : Hp} {a sa ra g rd CR dx : Addr} {s : Md50.St} {ca : Addr} {n : Nat} (h : RS C H a sa ra g s) (k : Keep rd H H') (hr : H rd = some (.ins CR dx (rdF ca n))) : RS C H' a sa ra g s := by
  obtain ⟨⟨dx', h1⟩, ⟨ss, h2, h3⟩, ⟨rs, h4, h5⟩, h6, h7, h8⟩ := h
  have el : ∀ {b : Addr} {l : List V}, H b = some (.lst l) → H' b = some (.lst l) := fun q => k _ _ q (ne_of q hr (by intro z; cases z))
  exact ⟨⟨dx', k _ _ h1 (ne_of h1 hr (fun z => rd_ne z.symm))⟩, ⟨ss, ⟨el h2.top, h2.len, fun i b q => el (h2.row i b q), h2.ne⟩, h3⟩, ⟨rs, ⟨el h4.top, h4.len, fun i b x q1 q2 => el (h4.row i b x q1 q2), h4.ne⟩, h5⟩, h6, h7, h8⟩
theorem tabs_rd {T : List (Addr × Str)} {H H' : Hp} {rd CR dx ca : Addr} {n : Nat} (t : Tabs T H) (k : Keep rd H H') (hr : H rd = some (.ins CR dx (rdF ca n))) : Tabs T H' :=
  tabs_keep t fun b o e _ ni => k b o e fun z => ni _ _ _ (Option.some.inj ((z ▸ e).symm.trans hr))
theorem ca_rd {K : PySem.W.Frag} {H H' : Hp} {rd CR dx ca cb : Addr} {n : Nat} {ns : List Int} (h : CaOk K H ca ns) (k : Keep rd H H') (hr : H rd = some (.ins CR dx (rdF cb n))) : CaOk K H' ca ns :=
  h.keep fun o u e => k _ _ e (ne_of e hr (by intro z; cases z))
end SC
namespace SC
open PySem PySem.Spec PyProof.Rows L2
open LamX (Tabs TabS TabB ExtN CodeO)
open Md50 (searchAt valueIn isValue chains server nums num known rowOk valuesOk orders orderOf orderAt before)
theorem one_of {α : Type} {l : List α} (h : l.length = 1) : ∃ y, l = [y] := by
  cases l with
  | nil => simp at h
  | cons y r =>
    cases r with
    | nil => exact ⟨y, rfl⟩
    | cons z r => simp at h
theorem two_of {α : Type} {l : List α} (h : l.length = 2) : ∃ y z, l = [y, z] := by
  cases l with
  | nil => simp at h
  | cons y r =>
    obtain ⟨z, rfl⟩ := one_of (l := r) (by simpa using h)
    exact ⟨y, z, rfl⟩
/-- a call's own form, by its number -/
inductive Form : Int → List Int → List (List Int) → Md50.Call → Prop
  | begin_ (y : Int) : Form 0 [y] [] (.begin_ y)
  | search (l : List Int) : Form 1 [] [l] (.search l)
  | orders : Form 2 [] [] .orders_
  | serves (y : Int) : Form 3 [y] [] (.serves y)
  | apart : Form 4 [] [] .apart_
  | put (l : List Int) : Form 5 [] [l] (.put l)
  | take (l : List Int) : Form 6 [] [l] (.take_ l)
  | find (y : Int) (l : List Int) : Form 7 [y] [l] (.find y l)
  | next (y : Int) (l x : List Int) : Form 8 [y] [l, x] (.next y l x)
  | place (y : Int) (l : List Int) : Form 9 [y] [l] (.place y l)
theorem form_of {p : Int} {nn k : Nat} {r : List Int} {xs : List (List Int)} (hs : PyMd50.shape p = some (nn, k)) (hn : nn ≤ r.length) (hx : xs.length = k) : ∃ c, Form p (r.take nn) xs c := by
  have t1 : ∀ {r : List Int}, 1 ≤ r.length → ∃ y, r.take 1 = [y] := fun {r} h => one_of (by rw [List.length_take]; omega)
  rcases shape_cases hs with h | h | h | h | h | h | h | h | h | h <;> obtain ⟨rfl, rfl, rfl⟩ := h
  · obtain ⟨y, e⟩ := t1 hn
    rw [e, List.eq_nil_of_length_eq_zero hx]
    exact ⟨_, .begin_ y⟩
  · obtain ⟨l, rfl⟩ := one_of hx
    exact ⟨_, .search l⟩
  · rw [List.eq_nil_of_length_eq_zero hx]
    exact ⟨_, .orders⟩
  · obtain ⟨y, e⟩ := t1 hn
    rw [e, List.eq_nil_of_length_eq_zero hx]
    exact ⟨_, .serves y⟩
  · rw [List.eq_nil_of_length_eq_zero hx]
    exact ⟨_, .apart⟩
  · obtain ⟨l, rfl⟩ := one_of hx
    exact ⟨_, .put l⟩
  · obtain ⟨l, rfl⟩ := one_of hx
    exact ⟨_, .take l⟩
  · obtain ⟨y, e⟩ := t1 hn
    obtain ⟨l, rfl⟩ := one_of hx
    rw [e]
    exact ⟨_, .find y l⟩
  · obtain ⟨y, e⟩ := t1 hn
    obtain ⟨l, x, rfl⟩ := two_of hx
    rw [e]
    exact ⟨_, .next y l x⟩
  · obtain ⟨y, e⟩ := t1 hn
    obtain ⟨l, rfl⟩ := one_of hx
    rw [e]
    exact ⟨_, .place y l⟩
theorem Form.step {p : Int} {u : List Int} {xs : List (List Int)} {c : Md50.Call} (h : Form p u xs c) (s : Md50.St) : Md50Neutral.step s (PyMd50.whole ((p :: u) :: xs)) = Md50.spec s c := by cases h <;> rfl
theorem Form.nine {p : Int} {u : List Int} {xs : List (List Int)} {c : Md50.Call} (h : Form p u xs c) (hp : p ≠ 0) {s : Md50.St} (hs : s.cols = 0) : Md50.spec s c = (s, [-9]) := by
  cases h <;> first | exact absurd rfl hp | exact if_pos hs
section
variable {P : Program} {w : World} {K : PySem.W.Frag} {mg : Str → Option Value} {base : Heap} {CR CL Pt : Addr}
theorem ok_call {f : Addr} {fd : FuncData} (F : Fun K "answer_call" "answer_call" sCall f fd) (X : Kit P w K mg base CR CL Pt) : FnOk P w K mg base CX0 29 f fd ["reader", "relation"] (spCall K CR CL Pt) := by
  refine F.ok scCall (fun vs H Q E h => ?_) (fun cdv A outer s H vs Q E hr h => ?_)
  · obtain ⟨_, _, _, _, _, _, _, _, _, _, _, _, _, _, _, _, rfl, _⟩ := h
    rfl
  obtain ⟨rd, ca, a, sa, ra, g, st, ns, acc, n, nn, k, p, r, t, xs, rfl, ⟨dr, hrd⟩, hca, R, GS, hg, tb, hdrop, hshape, hnn, hrows, hlen, q⟩ := h
  obtain ⟨f1, d1, DNum⟩ := X.num
  obtain ⟨f2, d2, DNums⟩ := X.nums
  obtain ⟨f3, d3, DLists⟩ := X.lists
  obtain ⟨f4, d4, DThere⟩ := X.there
  obtain ⟨f5, d5, DBegin⟩ := X.begin_
  obtain ⟨f6, d6, DSearch⟩ := X.search
  obtain ⟨f7, d7, DOrders⟩ := X.orders
  obtain ⟨f8, d8, DServes⟩ := X.serves
  obtain ⟨f9, d9, DApart⟩ := X.apart
  obtain ⟨f10, d10, DPut⟩ := X.put
  obtain ⟨f11, d11, DTake⟩ := X.take
  obtain ⟨f12, d12, DFind⟩ := X.find
  obtain ⟨f13, d13, DNext⟩ := X.next
  obtain ⟨f14, d14, DPlace⟩ := X.place
  obtain ⟨aN, mN, hN⟩ := X.cN
  obtain ⟨aL, mL, hL⟩ := X.cL
  obtain ⟨_, m0⟩ := X.c0
  obtain ⟨_, m1⟩ := X.c1
  obtain ⟨_, m2⟩ := X.c2
  obtain ⟨_, m3⟩ := X.c3
  obtain ⟨_, m4⟩ := X.c4
  obtain ⟨_, m5⟩ := X.c5
  obtain ⟨_, m6⟩ := X.c6
  obtain ⟨_, m7⟩ := X.c7
  obtain ⟨_, m8⟩ := X.c8
  obtain ⟨_, m9⟩ := X.c9
  have rm : ∀ j, j ≤ 28 → Room j (A.deeper (envOfC "answer_call" (defScope sCall) s.heap.objs.size f cdv)) := fun j hj => hr.mono hj
  refine ⟨_, pss_cons (ps_set (i := 2) scCall.nd rfl (.inl rfl) (pe_meth0 (pv 0) X.rcl.cl DNum.me DNum.ok (rm 1 (by decide)) DNum.bi .nil pass0))
    (pss_cons (ps_set (i := 3) scCall.nd rfl (.inl rfl) (pe_meth (pv 0) X.rcl.cl DNums.me DNums.ok (rm 1 (by decide)) DNums.bi .nil pass0 (pa_cons (pe_ix ix_tup (pe_gref rfl mN) (pv 2) (fun _ _ => rfl)) pa_nil)))
    (pss_cons (ps_set (i := 4) scCall.nd rfl (.inl rfl) (pe_meth (pv 0) X.rcl.cl DLists.me DLists.ok (rm 2 (by decide)) DLists.bi .nil pass0 (pa_cons (pe_ix ix_tup (pe_gref rfl mL) (pv 2) (fun _ _ => rfl)) pa_nil)))
    (pss_cons (ps_if (pt_cmpR op_eq (pv 2) (pe_num rfl m0) (nomark _)) (pss_one (ps_ret (pe_meth (pv 1) X.lcl.cl DBegin.me DBegin.ok (rm 1 (by decide)) DBegin.bi .nil pass0 (pa_cons (pe_ix ix_list (pv 3) pe_int (fun _ _ => rfl)) pa_nil)))) pss_nil)
    (pss_cons (ps_if (pt_not (pt_val (pe_meth0 (pv 1) X.lcl.cl DThere.me DThere.ok (rm 1 (by decide)) DThere.bi .nil pass0))) (pss_one (ps_ret (pe_lst (pa_cons (pe_num rfl m9) pa_nil)))) pss_nil)
    (pss_cons (ps_if (pt_cmpR op_eq (pv 2) (pe_num rfl m1) (nomark _)) (pss_one (ps_ret (pe_meth (pv 1) X.lcl.cl DSearch.me DSearch.ok (rm 2 (by decide)) DSearch.bi .nil pass0 (pa_cons (pe_ix ix_list (pv 4) pe_int (fun _ _ => rfl)) pa_nil)))) pss_nil)
    (pss_cons (ps_if (pt_cmpR op_eq (pv 2) (pe_num rfl m2) (nomark _)) (pss_one (ps_ret (pe_meth0 (pv 1) X.lcl.cl DOrders.me DOrders.ok (rm 27 (by decide)) DOrders.bi .nil pass0))) pss_nil)
    (pss_cons (ps_if (pt_cmpR op_eq (pv 2) (pe_num rfl m3) (nomark _)) (pss_one (ps_ret (pe_meth (pv 1) X.lcl.cl DServes.me DServes.ok (rm 26 (by decide)) DServes.bi .nil pass0 (pa_cons (pe_ix ix_list (pv 3) pe_int (fun _ _ => rfl)) pa_nil)))) pss_nil)
    (pss_cons (ps_if (pt_cmpR op_eq (pv 2) (pe_num rfl m4) (nomark _)) (pss_one (ps_ret (pe_meth0 (pv 1) X.lcl.cl DApart.me DApart.ok (rm 4 (by decide)) DApart.bi .nil pass0))) pss_nil)
    (pss_cons (ps_if (pt_cmpR op_eq (pv 2) (pe_num rfl m5) (nomark _)) (pss_one (ps_ret (pe_meth (pv 1) X.lcl.cl DPut.me DPut.ok (rm 3 (by decide)) DPut.bi .nil pass0 (pa_cons (pe_ix ix_list (pv 4) pe_int (fun _ _ => rfl)) pa_nil)))) pss_nil)
    (pss_cons (ps_if (pt_cmpR op_eq (pv 2) (pe_num rfl m6) (nomark _)) (pss_one (ps_ret (pe_meth (pv 1) X.lcl.cl DTake.me DTake.ok (rm 3 (by decide)) DTake.bi .nil pass0 (pa_cons (pe_ix ix_list (pv 4) pe_int (fun _ _ => rfl)) pa_nil)))) pss_nil)
    (pss_cons (ps_if (pt_cmpR op_eq (pv 2) (pe_num rfl m7) (nomark _)) (pss_one (ps_ret (pe_meth (pv 1) X.lcl.cl DFind.me DFind.ok (rm 28 (by decide)) DFind.bi .nil pass0 (pa_cons (pe_ix ix_list (pv 3) pe_int (fun _ _ => rfl)) (pa_cons (pe_ix ix_list (pv 4) pe_int (fun _ _ => rfl)) pa_nil))))) pss_nil)
    (pss_cons (ps_if (pt_cmpR op_eq (pv 2) (pe_num rfl m8) (nomark _)) (pss_one (ps_ret (pe_meth (pv 1) X.lcl.cl DNext.me DNext.ok (rm 28 (by decide)) DNext.bi .nil pass0 (pa_cons (pe_ix ix_list (pv 3) pe_int (fun _ _ => rfl)) (pa_cons (pe_ix ix_list (pv 4) pe_int (fun _ _ => rfl)) (pa_cons (pe_ix ix_list (pv 4) pe_int (fun _ _ => rfl)) pa_nil)))))) pss_nil)
    (pss_one (ps_ret (pe_meth (pv 1) X.lcl.cl DPlace.me DPlace.ok (rm 27 (by decide)) DPlace.bi .nil pass0 (pa_cons (pe_ix ix_list (pv 3) pe_int (fun _ _ => rfl)) (pa_cons (pe_ix ix_list (pv 4) pe_int (fun _ _ => rfl)) pa_nil))))))))))))))))), ?_⟩
  have hz : ns[n]? = some p := by
    have : (ns.drop n)[0]? = some p := by rw [hdrop]; rfl
    rwa [List.getElem?_drop, Nat.add_zero] at this
  have hnl : n < ns.length := (List.getElem?_eq_some_iff.mp hz).1
  have er : ns.drop (n + 1) = r := by
    have : (ns.drop n).drop 1 = r := by rw [hdrop]; rfl
    rwa [List.drop_drop] at this
  have rl : r.length = ns.length - (n + 1) := by rw [← er, List.length_drop]
  have noR : ∀ (m : Str) (c : Addr) (j : Nat), (m == ("calls" : Str)) = false → (m == ("at" : Str)) = false → (rdF c j).lookup m = none := fun m c j h1 h2 => rdF_none c j h1 h2
  have hp9 : 0 ≤ p ∧ p ≤ 9 ∧ (iv [1, 0, 0, 1, 0, 0, 0, 1, 1, 1])[p.toNat]? = some (vn nn) ∧ (iv [0, 1, 0, 0, 0, 1, 1, 1, 2, 1])[p.toNat]? = some (vn k) ∧ k ≤ 100 := by
    rcases shape_cases hshape with h | h | h | h | h | h | h | h | h | h <;> (obtain ⟨rfl, rfl, rfl⟩ := h; exact ⟨by decide, by decide, rfl, rfl, by decide⟩)
  obtain ⟨p0, p9, gN, gL, k100⟩ := hp9
  have ep : p = ((p.toNat : Nat) : Int) := (Int.toNat_of_nonneg p0).symm
  have iN : atI (iv [1, 0, 0, 1, 0, 0, 0, 1, 1, 1]) p = some (vn nn) := by rw [ep]; exact atI_nat gN
  have iL : atI (iv [0, 1, 0, 0, 0, 1, 1, 1, 2, 1]) p = some (vn k) := by rw [ep]; exact atI_nat gL
  -- the call's number
  refine ⟨_, rfl, rd, dr, _, rfl, hrd, noR _ _ _ (by decide +kernel) (by decide +kernel), rd, ca, n, ns, p, rfl, ⟨dr, hrd⟩, hca.sq, hz, fun H1 hR1 k1 => ?_⟩
  obtain ⟨dr1, hrd1⟩ := hR1
  have hca1 := ca_rd hca k1 hrd
  -- its numbers
  refine ⟨_, rfl, rd, dr1, _, rfl, hrd1, noR _ _ _ (by decide +kernel) (by decide +kernel), _, rfl, aN, _, _, _, rfl, rfl, hN _, iN, rd, ca, n + 1, nn, ns, rfl, ⟨dr1, hrd1⟩, hca1.sq, by omega, fun H2 pN hR2 k2 nN hpN => ?_⟩
  obtain ⟨dr2, hrd2⟩ := hR2
  have hca2 := ca_rd hca1 k2 hrd1
  rw [er] at hpN
  have ed : ns.drop (n + 1 + nn) = r.drop nn := by rw [← er, List.drop_drop]
  -- its lists
  refine ⟨_, rfl, rd, dr2, _, rfl, hrd2, noR _ _ _ (by decide +kernel) (by decide +kernel), _, rfl, aL, _, _, _, rfl, rfl, hL _, iL, rd, ca, n + 1 + nn, k, ns, t, xs, rfl, ⟨dr2, hrd2⟩, hca2.sq, by omega, k100, by rw [ed]; exact hrows, fun H3 pL bs m hR3 hm hdm k3 nL LI => ?_⟩
  obtain ⟨dr3, hrd3⟩ := hR3
  have hca3 := ca_rd hca2 k3 hrd2
  have R2 := (R.keep k1 hrd).keep k2 hrd1
  have R3 := R2.keep k3 hrd2
  have tb3 := tabs_rd (tabs_rd (tabs_rd tb k1 hrd) k2 hrd1) k3 hrd2
  have lk : ∀ {b : Addr} {l : List V}, H2 b = some (.lst l) → H3 b = some (.lst l) := fun q => k3 _ _ q (ne_of q hrd2 (by intro z; cases z))
  have hg2 : H2 g = some (.lst (iv acc)) := k2 _ _ (k1 _ _ hg (ne_of hg hrd (by intro z; cases z))) (ne_of (k1 _ _ hg (ne_of hg hrd (by intro z; cases z))) hrd1 (by intro z; cases z))
  have hg3 := lk hg2
  have hpN3 := lk hpN
  obtain ⟨dx, ha3⟩ := R3.ins
  have nsr := R3.ns
  have xl := rows_len k _ _ _ hrows
  -- what the lists are, and that they are no one's else
  have far : ∀ b ∈ bs, b ≠ sa ∧ b ≠ ra ∧ b ≠ g := fun b hb => by
    have nb := LI.new b hb
    obtain ⟨ss, hS, _⟩ := R2.se
    obtain ⟨rs, hR, _⟩ := R2.ro
    exact ⟨fun z => (by rw [z, hS.top] at nb; cases nb), fun z => (by rw [z, hR.top] at nb; cases nb), fun z => (by rw [z, hg2] at nb; cases nb)⟩
  have hml : n < m := by
    have h1 : (ns.drop m).length = t.length := by rw [hdm]
    have h2 : t.length ≤ (r.drop nn).length := by
      have : ∀ (k : Nat) (l : List Int) (xs : List (List Int)) (t : List Int), PyFlat.rows k l = some (xs, t) → t.length ≤ l.length := by
        intro k
        induction k with
        | zero =>
          intro l xs t h
          have h' : some (([] : List (List Int)), l) = some (xs, t) := h
          cases h'
          exact Nat.le_refl _
        | succ k ih =>
          intro l xs t h
          unfold PyFlat.rows at h
          cases e : PyFlat.row l with
          | none => rw [e] at h; cases h
          | some q =>
            obtain ⟨y, u⟩ := q
            rw [e] at h
            cases e2 : PyFlat.rows k u with
            | none => simp only [e2] at h; cases h
            | some q2 =>
              obtain ⟨ys, v⟩ := q2
              simp only [e2] at h
              cases h
              have h3 := ih u ys _ e2
              have h4 : u.length ≤ l.length := by
                cases l with
                | nil => cases e
                | cons z l' =>
                  have e' : (if 0 ≤ z ∧ z.toNat ≤ l'.length then some (l'.take z.toNat, l'.drop z.toNat) else none) = some (y, u) := e
                  by_cases c : 0 ≤ z ∧ z.toNat ≤ l'.length
                  · rw [if_pos c] at e'
                    cases e'
                    rw [List.length_drop, List.length_cons]
                    omega
                  · rw [if_neg c] at e'; cases e'
              omega
      exact this k _ _ _ hrows
    rw [List.length_drop] at h1 h2
    omega
  have fin : Fin CL [(Pt, qLam)] a sa ra g (Md50Neutral.step st (PyMd50.whole ((p :: r.take nn) :: xs))) H3 Q := fun H' pn sb rb RS' _ _ eff tabs new hp => by
    have nrs : rd ≠ sa ∧ rd ≠ ra := by
      obtain ⟨ss, hS, _⟩ := R3.se
      obtain ⟨rs, hR, _⟩ := R3.ro
      exact ⟨ne_of hrd3 hS.top (by intro z; cases z), ne_of hrd3 hR.top (by intro z; cases z)⟩
    have hrd' := eff rd _ hrd3 (ne_of hrd3 ha3 rd_ne) nrs.1 nrs.2 (fun ps z => by cases z)
    have hg' := eff g _ hg3 (ne_of hg3 ha3 (by intro z; cases z)) R3.sg.symm R3.rg.symm (fun ps z => by cases z)
    refine q H' pn sb rb m ⟨dr3, hrd'⟩ hm hml hdm (hca3.keep fun o u e => ?_) RS' hg' tabs (fun z => ?_) hp
    · obtain ⟨ss, hS, _⟩ := R3.se
      obtain ⟨rs, hR, _⟩ := R3.ro
      exact eff ca _ e (ne_of e ha3 (by intro z; cases z)) (ne_of e hS.top (by intro z; cases z)) (ne_of e hR.top (by intro z; cases z)) (fun ps z => by cases z)
    · obtain ⟨ps, e⟩ := new _ (z ▸ hg3)
      cases e
  have no : ∀ (x : Str), (x == ("columns" : Str)) = false → (x == ("searches" : Str)) = false → (x == ("rows" : Str)) = false → (rlF st.cols sa ra).lookup x = none := fun x h1 h2 h3 => rlF_none _ _ _ h1 h2 h3
  refine ⟨_, rfl, rfl, _, rfl, ?_⟩
  have cx : ∀ {b0 : Addr} {y : List Int}, bs[0]? = some b0 → xs[0]? = some y → (bs.map V.ref)[0]? = some (.ref b0) ∧ H3 b0 = some (.lst (iv y)) ∧ y.length ≤ 1000 ∧ b0 ∈ bs := fun {b0 y} e1 e2 => ⟨by rw [List.getElem?_map, e1]; rfl, LI.row 0 b0 y e1 e2, hlen y (List.mem_of_getElem? e2), List.mem_of_getElem? e1⟩
  obtain ⟨cc, fo⟩ := form_of hshape hnn xl
  rw [fo.step] at fin
  have hpN4 : H3 pN = some (.lst (iv (r.take nn))) := hpN3
  generalize r.take nn = u at fo hpN4
  have bl := LI.len
  by_cases c0 : p = 0
  · refine test_yes c0 ?_
    cases fo with
    | begin_ y => exact ⟨_, rfl, a, dx, _, rfl, ha3, no _ (by decide +kernel) (by decide +kernel) (by decide +kernel), _, rfl, pN, _, _, _, rfl, rfl, SqL.of hpN4, atI_nat (j := 0) rfl, a, sa, ra, g, st, y, rfl, R3, by rw [hg3]; simp, tb3, fin⟩
    | _ => exact absurd c0 (by decide)
  refine test_no c0 ?_
  refine ⟨_, rfl, a, dx, _, rfl, ha3, no _ (by decide +kernel) (by decide +kernel) (by decide +kernel), a, sa, ra, g, st, rfl, R3, ⟨_, rfl, ?_⟩⟩
  by_cases cz : st.cols = 0
  · have e0 : decide (0 < st.cols) = false := decide_eq_false (by omega)
    rw [e0]
    refine iteT ⟨(by show 1 ≤ sizeLine; decide), ?_⟩
    rw [fo.nine c0 cz] at fin
    exact fin.short R3 tb3 (Same.refl _)
  have e0 : decide (0 < st.cols) = true := decide_eq_true (by omega)
  rw [e0]
  refine iteF ?_
  have OK := GS.ok
  have RK := GS.rk
  cases fo with
  | begin_ y => exact absurd rfl c0
  | search l =>
    obtain ⟨b0, rfl⟩ := one_of (l := bs) bl
    obtain ⟨k1', k2', k3', k4'⟩ := cx (b0 := b0) (y := l) rfl rfl
    obtain ⟨n1, n2, n3⟩ := far b0 k4'
    refine ⟨_, rfl, rfl, _, rfl, test_yes rfl ?_⟩
    exact ⟨_, rfl, a, dx, _, rfl, ha3, no _ (by decide +kernel) (by decide +kernel) (by decide +kernel), _, rfl, pL, _, _, _, rfl, rfl, SqL.of LI.top, atI_nat (j := 0) k1', a, sa, ra, g, b0, st, l, rfl, R3, OK, cz, k2', n1, n2, n3, tb3, fin⟩
  | orders =>
    refine ⟨_, rfl, rfl, _, rfl, test_no (by decide) ⟨_, rfl, rfl, _, rfl, test_yes rfl ?_⟩⟩
    exact ⟨_, rfl, a, dx, _, rfl, ha3, no _ (by decide +kernel) (by decide +kernel) (by decide +kernel), a, sa, ra, g, st, rfl, R3, OK, cz, tb3, fin⟩
  | serves y =>
    refine ⟨_, rfl, rfl, _, rfl, test_no (by decide) ⟨_, rfl, rfl, _, rfl, test_no (by decide) ⟨_, rfl, rfl, _, rfl, test_yes rfl ?_⟩⟩⟩
    exact ⟨_, rfl, a, dx, _, rfl, ha3, no _ (by decide +kernel) (by decide +kernel) (by decide +kernel), _, rfl, pN, _, _, _, rfl, rfl, SqL.of hpN4, atI_nat (j := 0) rfl, a, sa, ra, g, st, y, rfl, R3, OK, cz, tb3, fin⟩
  | apart =>
    refine ⟨_, rfl, rfl, _, rfl, test_no (by decide) ⟨_, rfl, rfl, _, rfl, test_no (by decide) ⟨_, rfl, rfl, _, rfl, test_no (by decide) ⟨_, rfl, rfl, _, rfl, test_yes rfl ?_⟩⟩⟩⟩
    exact ⟨_, rfl, a, dx, _, rfl, ha3, no _ (by decide +kernel) (by decide +kernel) (by decide +kernel), a, sa, ra, g, st, rfl, R3, OK, cz, tb3, fin⟩
  | put l =>
    obtain ⟨b0, rfl⟩ := one_of (l := bs) bl
    obtain ⟨k1', k2', k3', k4'⟩ := cx (b0 := b0) (y := l) rfl rfl
    obtain ⟨n1, n2, n3⟩ := far b0 k4'
    refine ⟨_, rfl, rfl, _, rfl, test_no (by decide) ⟨_, rfl, rfl, _, rfl, test_no (by decide) ⟨_, rfl, rfl, _, rfl, test_no (by decide) ⟨_, rfl, rfl, _, rfl, test_no (by decide) ⟨_, rfl, rfl, _, rfl, test_yes rfl ?_⟩⟩⟩⟩⟩
    exact ⟨_, rfl, a, dx, _, rfl, ha3, no _ (by decide +kernel) (by decide +kernel) (by decide +kernel), _, rfl, pL, _, _, _, rfl, rfl, SqL.of LI.top, atI_nat (j := 0) k1', a, sa, ra, g, b0, st, l, rfl, R3, RK, cz, k2', k3', n1, n2, n3, tb3, fin⟩
  | take l =>
    obtain ⟨b0, rfl⟩ := one_of (l := bs) bl
    obtain ⟨k1', k2', k3', k4'⟩ := cx (b0 := b0) (y := l) rfl rfl
    refine ⟨_, rfl, rfl, _, rfl, test_no (by decide) ⟨_, rfl, rfl, _, rfl, test_no (by decide) ⟨_, rfl, rfl, _, rfl, test_no (by decide) ⟨_, rfl, rfl, _, rfl, test_no (by decide) ⟨_, rfl, rfl, _, rfl, test_no (by decide) ⟨_, rfl, rfl, _, rfl, test_yes rfl ?_⟩⟩⟩⟩⟩⟩
    exact ⟨_, rfl, a, dx, _, rfl, ha3, no _ (by decide +kernel) (by decide +kernel) (by decide +kernel), _, rfl, pL, _, _, _, rfl, rfl, SqL.of LI.top, atI_nat (j := 0) k1', a, sa, ra, g, b0, st, l, rfl, R3, RK, cz, k2', k3', tb3, fin⟩
  | find y l =>
    obtain ⟨b0, rfl⟩ := one_of (l := bs) bl
    obtain ⟨k1', k2', k3', k4'⟩ := cx (b0 := b0) (y := l) rfl rfl
    refine ⟨_, rfl, rfl, _, rfl, test_no (by decide) ⟨_, rfl, rfl, _, rfl, test_no (by decide) ⟨_, rfl, rfl, _, rfl, test_no (by decide) ⟨_, rfl, rfl, _, rfl, test_no (by decide) ⟨_, rfl, rfl, _, rfl, test_no (by decide) ⟨_, rfl, rfl, _, rfl, test_no (by decide) ⟨_, rfl, rfl, _, rfl, test_yes rfl ?_⟩⟩⟩⟩⟩⟩⟩
    exact ⟨_, rfl, a, dx, _, rfl, ha3, no _ (by decide +kernel) (by decide +kernel) (by decide +kernel), _, rfl, pN, _, _, _, rfl, rfl, SqL.of hpN4, atI_nat (j := 0) rfl, _, rfl, pL, _, _, _, rfl, rfl, SqL.of LI.top, atI_nat (j := 0) k1', a, sa, ra, g, b0, st, y, l, rfl, R3, OK, RK, cz, k2', k3', tb3, fin⟩
  | next y l x =>
    obtain ⟨b0, b1, rfl⟩ := two_of (l := bs) bl
    obtain ⟨k1', k2', k3', k4'⟩ := cx (b0 := b0) (y := l) rfl rfl
    have j1 : H3 b1 = some (.lst (iv x)) := LI.row 1 b1 x rfl rfl
    have j2 := hlen x (by simp)
    refine ⟨_, rfl, rfl, _, rfl, test_no (by decide) ⟨_, rfl, rfl, _, rfl, test_no (by decide) ⟨_, rfl, rfl, _, rfl, test_no (by decide) ⟨_, rfl, rfl, _, rfl, test_no (by decide) ⟨_, rfl, rfl, _, rfl, test_no (by decide) ⟨_, rfl, rfl, _, rfl, test_no (by decide) ⟨_, rfl, rfl, _, rfl, test_no (by decide) ⟨_, rfl, rfl, _, rfl, test_yes rfl ?_⟩⟩⟩⟩⟩⟩⟩⟩
    exact ⟨_, rfl, a, dx, _, rfl, ha3, no _ (by decide +kernel) (by decide +kernel) (by decide +kernel), _, rfl, pN, _, _, _, rfl, rfl, SqL.of hpN4, atI_nat (j := 0) rfl, _, rfl, pL, _, _, _, rfl, rfl, SqL.of LI.top, atI_nat (j := 0) k1', _, rfl, pL, _, _, _, rfl, rfl, SqL.of LI.top, atI_nat (j := 1) rfl, a, sa, ra, g, b0, b1, st, y, l, x, rfl, R3, OK, RK, cz, k2', k3', j1, j2, tb3, fin⟩
  | place y l =>
    obtain ⟨b0, rfl⟩ := one_of (l := bs) bl
    obtain ⟨k1', k2', k3', k4'⟩ := cx (b0 := b0) (y := l) rfl rfl
    refine ⟨_, rfl, rfl, _, rfl, test_no (by decide) ⟨_, rfl, rfl, _, rfl, test_no (by decide) ⟨_, rfl, rfl, _, rfl, test_no (by decide) ⟨_, rfl, rfl, _, rfl, test_no (by decide) ⟨_, rfl, rfl, _, rfl, test_no (by decide) ⟨_, rfl, rfl, _, rfl, test_no (by decide) ⟨_, rfl, rfl, _, rfl, test_no (by decide) ⟨_, rfl, rfl, _, rfl, test_no (by decide) ?_⟩⟩⟩⟩⟩⟩⟩⟩
    exact ⟨_, rfl, a, dx, _, rfl, ha3, no _ (by decide +kernel) (by decide +kernel) (by decide +kernel), _, rfl, pN, _, _, _, rfl, rfl, SqL.of hpN4, atI_nat (j := 0) rfl, _, rfl, pL, _, _, _, rfl, rfl, SqL.of LI.top, atI_nat (j := 0) k1', a, sa, ra, g, b0, st, y, l, rfl, R3, OK, RK, cz, k2', k3', tb3, fin⟩
end
end SC
namespace SC
open PySem PySem.Spec PyProof.Rows L2
open LamX (Tabs TabS TabB ExtN CodeO)
open Md50 (searchAt valueIn isValue chains server nums num known rowOk valuesOk orders orderOf orderAt before)
theorem GoodS.fresh {n : Nat} (h : n ≤ 7) : GoodS ⟨n, [], []⟩ :=
  ⟨⟨.nil, fun c z => (nomatch z), fun c z => (nomatch z), Nat.zero_le _, h⟩, ⟨.nil, fun c z => (nomatch z), Nat.zero_le _⟩⟩
theorem spec_zero {s : Md50.St} (h : s.cols = 0) {c : Md50.Call} (nb : ∀ n, c ≠ .begin_ n) : Md50.spec s c = (s, [-9]) := by
  cases c with
  | begin_ n => exact absurd rfl (nb n)
  | _ => exact if_pos h
theorem GoodS.spec {s : Md50.St} (G : GoodS s) (c : Md50.Call) : GoodS (Md50.spec s c).1 := by
  by_cases hb : ∃ n, c = .begin_ n
  · obtain ⟨n, rfl⟩ := hb
    show GoodS (if n < 1 ∨ 7 < n then ((s, [-1]) : Md50.St × List Int) else (⟨n.toNat, [], []⟩, [0])).1
    split
    · exact G
    · rename_i d
      exact GoodS.fresh (by omega)
  by_cases h : s.cols = 0
  · rw [spec_zero h fun n z => hb ⟨n, z⟩]
    exact G
  · cases c with
    | begin_ n => exact absurd ⟨n, rfl⟩ hb
    | search l =>
      rw [spec_search h]
      split
      · exact G
      split
      · exact G
      split
      · exact G
      · rename_i d1 d2 d3
        refine ⟨G.ok.add ?_ d2 (by omega), ⟨G.rk.nd, G.rk.len, G.rk.few⟩⟩
        rw [cols_ok]
        rw [not_or] at d1
        have e1 : l.all (colOk s.cols) = true := by
          cases e : l.all (colOk s.cols) with
          | true => rfl
          | false => exact absurd e d1.1
        have e2 : Md50.ascending l = true := by
          cases e : Md50.ascending l with
          | true => rfl
          | false => exact absurd e d1.2
        rw [e1, e2]; rfl
    | orders_ => rw [spec_orders h]; exact G
    | serves i => rw [spec_serves h]; split <;> exact G
    | apart_ => rw [spec_apart h]; exact G
    | put x =>
      rw [spec_put h]
      split
      · exact G
      split
      · exact G
      split
      · exact G
      · rename_i d1 d2 d3
        have d1' : rowOk s x = true := by
          cases e : rowOk s x with
          | true => rfl
          | false => exact absurd e d1
        exact ⟨⟨G.ok.nd, G.ok.asc, G.ok.col, G.ok.ten, G.ok.sev⟩, G.rk.add (row_len d1') d2 (by omega)⟩
    | take_ x =>
      rw [spec_take h]
      split
      · exact G
      · exact ⟨⟨G.ok.nd, G.ok.asc, G.ok.col, G.ok.ten, G.ok.sev⟩, G.rk.drop _⟩
    | find i v =>
      rw [spec_find h]
      split
      · exact G
      split <;> exact G
    | next i v x =>
      rw [spec_next h]
      split
      · exact G
      split
      · exact G
      split <;> exact G
    | place o x =>
      rw [spec_place h]
      split
      · exact G
      split <;> exact G
theorem GoodS.step {s : Md50.St} (G : GoodS s) (c : List (List Int)) : GoodS (Md50Neutral.step s c).1 := by
  unfold Md50Neutral.step
  split
  · exact G.spec _
  · exact G
theorem RS.put {C : Addr} {H : Hp} {a sa ra g : Addr} {s : Md50.St} {l : List V} {o : HO} (h : RS C H a sa ra g s) (hg : H g = some (.lst l)) : RS C (upd H g o) a sa ra g s := by
  obtain ⟨⟨dx, h1⟩, ⟨ss, h2, h3⟩, ⟨rs, h4, h5⟩, h6, h7, h8⟩ := h
  exact ⟨⟨dx, by rw [upd_ne (ne_of h1 hg (by intro z; cases z))]; exact h1⟩, ⟨ss, h2.put h7 fun b hb => (h3 b hb).2, h3⟩, ⟨rs, h4.put h8 fun b hb => (h5 b hb).2, h5⟩, h6, h7, h8⟩
/-- another list to keep apart from: one that is new -/
theorem RS.other {C : Addr} {H : Hp} {a sa ra g g' : Addr} {s : Md50.St} (h : RS C H a sa ra g s) (n : H g' = none) : RS C H a sa ra g' s := by
  obtain ⟨⟨dx, h1⟩, ⟨ss, h2, h3⟩, ⟨rs, h4, h5⟩, h6, h7, h8⟩ := h
  refine ⟨⟨dx, h1⟩, ⟨ss, h2, fun b hb => ⟨(h3 b hb).1, ?_⟩⟩, ⟨rs, h4, fun b hb => ⟨(h5 b hb).1, ?_⟩⟩, h6, ne_of_none h2.top n, ne_of_none h4.top n⟩
  · obtain ⟨i, hi⟩ := List.mem_iff_getElem?.mp hb
    exact ne_of_none (h2.row i b hi) n
  · obtain ⟨i, hi⟩ := List.mem_iff_getElem?.mp hb
    obtain ⟨x, _, hx⟩ := h4.at hi
    exact ne_of_none hx n
theorem tabs_put {T : List (Addr × Str)} {H : Hp} {g : Addr} {l : List V} {o : HO} (t : Tabs T H) (hg : H g = some (.lst l)) : Tabs T (upd H g o) :=
  tabs_keep t fun b u e nl _ => by
    rw [upd_ne (fun z => nl l (by rw [z, hg] at e; exact (Option.some.inj e).symm))]
    exact e
/-! ### answers -/
abbrev sAns : Stmt := top 23
abbrev nAns : List Str := ["calls", "reader", "relation", "given", "answer"]
theorem scAns : FnScope nAns ["calls"] (defScope sAns) := ⟨rfl, rfl, rfl, by decide +kernel, rfl, by decide +kernel, by decide +kernel⟩
/-- a list that may be handed in -/
structure Fair (ns : List Int) (cs : List (List (List Int))) : Prop where
  calls : PyFlat.calls PyMd50.shape ns.length ns = some cs
  short : ∀ c ∈ cs, ∀ x ∈ c.tail, x.length ≤ 1000
  small : (PyMd50.answers ns).length ≤ 10000000
def spAns (K : PySem.W.Frag) (Pt : Addr) : Sp := fun vs H Q _ => ∃ (ca : Addr) (ns : List Int) (cs : List (List (List Int))), vs = [.ref ca] ∧ CaOk K H ca ns ∧ Tabs [(Pt, qLam)] H ∧ Fair ns cs ∧
  ∀ H' p, H' p = some (.lst (iv (PyMd50.answers ns))) → Q (.ref p) H'
theorem Fair.eq {ns : List Int} {cs : List (List (List Int))} (F : Fair ns cs) : PyMd50.answers ns = PyFlat.told (PyFlat.played Md50Neutral.step Md50.start (cs.map PyMd50.whole)) := by
  unfold PyMd50.answers PyMd50.calls
  rw [F.calls]; rfl
theorem told_cons (s : Md50.St) (c : List (List Int)) (r : List (List (List Int))) : PyFlat.told (PyFlat.played Md50Neutral.step s (c :: r)) = ((Md50Neutral.step s c).2.length : Int) :: ((Md50Neutral.step s c).2 ++ PyFlat.told (PyFlat.played Md50Neutral.step (Md50Neutral.step s c).1 r)) := by
  show PyFlat.told ((Md50Neutral.step s c).2 :: PyFlat.played Md50Neutral.step (Md50Neutral.step s c).1 r) = _
  unfold PyFlat.told
  rw [List.flatMap_cons]; rfl
section
variable {P : Program} {w : World} {K : PySem.W.Frag} {mg : Str → Option Value} {base : Heap} {CR CL Pt : Addr}
theorem ok_answers {f fA fI fJ : Addr} {fd fdA fdI fdJ : FuncData} (F : Fun K "answers" "answers" sAns f fd) (X : Kit P w K mg base CR CL Pt) (ml : mg "len" = none) (DA : Df P w K mg base 29 "answer_call" ["reader", "relation"] (spCall K CR CL Pt) fA fdA)
    (MR : Mk K CR fI) (GI : FnOk P w K mg base CX0 1 fI fdI ["self", "calls"] (spRInit CR)) (bI : Binds K fdI ["self", "calls"] []) (gR : mg "CallReader" = some (.ref CR))
    (ML : Mk K CL fJ) (GJ : FnOk P w K mg base CX0 1 fJ fdJ ["self"] (spInit CL)) (bJ : Binds K fdJ ["self"] []) (gL : mg "Relation" = some (.ref CL)) : FnOk P w K mg base CX0 30 f fd ["calls"] (spAns K Pt) := by
  refine F.ok scAns (fun vs H Q E h => ?_) (fun cdv A outer s H vs Q E hr h => ?_)
  · obtain ⟨_, _, _, rfl, _⟩ := h
    rfl
  obtain ⟨ca, ns, cs, rfl, hca, tb, Fa, q⟩ := h
  obtain ⟨f1, d1, DHas⟩ := X.has
  refine ⟨_, pss_cons (ps_set (i := 1) scAns.nd rfl (.inl rfl) (pe_make MR GI (hr.mono (by decide)) (by rfl) gR bI .nil pass0 (pa_cons (pv 0) pa_nil)))
    (pss_cons (ps_set (i := 2) scAns.nd rfl (.inl rfl) (pe_make0 ML GJ (hr.mono (by decide)) (by rfl) gL bJ .nil pass0))
    (pss_cons (ps_set (i := 3) scAns.nd rfl (.inl rfl) (pe_lst pa_nil))
    (pss_cons (ps_while PassesOwn.never (pt_val (pe_meth0 (pv 1) X.rcl.cl DHas.me DHas.ok (hr.mono (by decide)) DHas.bi .nil pass0))
      (pss_cons (ps_set (i := 4) scAns.nd rfl (.inl rfl) (pe_call DA.ok hr (by rfl) DA.mg DA.kp DA.bi .nil pass0 (pa_cons (pv 1) (pa_cons (pv 2) pa_nil))))
      (pss_cons (ps_expr (pe_bm PySem.F.plainAttrs_list PySem.F.slot_list_append PySem.F.type_list_append mt_append (pv 3) (pa_cons (pe_callB call_len_seq (by rfl) ml PySem.boot_len (pa_cons (pv 4) pa_nil)) pa_nil)))
      (pss_one (ps_expr (pe_bm PySem.F.plainAttrs_list PySem.F.slot_list_extend PySem.F.type_list_extend mt_extend (pv 3) (pa_cons (pv 4) pa_nil)))))))
    (pss_one (ps_ret (pv 3)))))), ?_⟩
  refine ⟨_, rfl, fun rd dr nrd ndr nne => ⟨rd, dr, ca, rfl, upd_same, fun H1 hR1 k1 => ⟨rfl, ?_⟩⟩⟩
  have old1 : ∀ b o, H b = some o → H1 b = some o := fun b o e => k1 b o (by rw [upd_ne (ne_of_none e nrd), upd_ne (ne_of_none e ndr)]; exact e) (ne_of_none e nrd)
  have hca1 : CaOk K H1 ca ns := hca.keep fun o u e => old1 _ _ e
  have tb1 : Tabs [(Pt, qLam)] H1 := tb.ext old1
  obtain ⟨dr1, hrd1⟩ := hR1
  refine fun a da na nda nne2 => ⟨a, da, rd, rfl, upd_same, ?_, fun H2 sa ra R2 nsa nra k2 => ⟨rfl, ?_⟩⟩
  · rw [upd_ne (ne_of_none hrd1 na), upd_ne (ne_of_none hrd1 nda), hrd1]
    simp
  have old2 : ∀ b o, H1 b = some o → H2 b = some o := fun b o e => k2 b o (by rw [upd_ne (ne_of_none e na), upd_ne (ne_of_none e nda)]; exact e) (ne_of_none e na)
  refine ⟨Nat.zero_le _, fun gv ngv => ?_⟩
  have s3 : Same H2 (upd H2 gv (.lst [])) := same_new ngv _
  show tWhile (tB (tMeth CR "has_more" (spRHas K CR) [] E0 (tVar 1) tNil)) _ _ [some (.ref ca), some (.ref rd), some (.ref a), some (.ref gv), none] _
  refine while_m (fun m σ H4 => ∃ (n : Nat) (sb rb : Addr) (st : Md50.St) (r : List (List (List Int))) (acc : List Int) (v : Option V) (fu : Nat), σ = [some (.ref ca), some (.ref rd), some (.ref a), some (.ref gv), v] ∧ RdAt CR H4 rd ca n ∧ n ≤ ns.length ∧ m = ns.length - n ∧ CaOk K H4 ca ns ∧ RS CL H4 a sb rb gv st ∧ GoodS st ∧
      H4 gv = some (.lst (iv acc)) ∧ Tabs [(Pt, qLam)] H4 ∧ PyFlat.calls PyMd50.shape fu (ns.drop n) = some r ∧ (∀ c ∈ r, ∀ x ∈ c.tail, x.length ≤ 1000) ∧ PyMd50.answers ns = acc ++ PyFlat.told (PyFlat.played Md50Neutral.step st (r.map PyMd50.whole)))
    (ns.length - 0) ⟨0, sa, ra, Md50.start, cs, [], none, ns.length, rfl, ⟨dr1, s3 _ _ (old2 _ _ hrd1)⟩, Nat.zero_le _, rfl, (hca1.keep fun o u e => old2 _ _ e).keep fun o u e => s3 _ _ e, (R2.other ngv).same s3, GoodS.fresh (by decide), upd_same, (tb1.ext old2).ext s3, Fa.calls, Fa.short, by rw [Fa.eq]; rfl⟩ ?_
    (fun σ H Q Q' h ⟨v, hv, a, dx, fs, e1, e2, e3, a', ca', n', ns', e4, e5, e6, b, e7, z⟩ => ⟨v, hv, a, dx, fs, e1, e2, e3, a', ca', n', ns', e4, e5, e6, b, e7, h _ _ z⟩)
  rintro m σ H4 ⟨n, sb, rb, st, r, acc, v, fu, rfl, ⟨dr4, hrd4⟩, hn, rfl, hca4, R4, G4, hg4, tb4, hcalls, hshort, heq⟩
  refine ⟨_, rfl, rd, dr4, _, rfl, hrd4, rdF_none _ _ (by decide +kernel) (by decide +kernel), rd, ca, n, ns, rfl, ⟨dr4, hrd4⟩, hca4.sq, ⟨_, rfl, ?_⟩⟩
  have small := Fa.small
  by_cases c : n < ns.length
  · rw [decide_eq_true c]
    refine iteT ?_
    have ed : ns.drop n = ns[n] :: ns.drop (n + 1) := List.drop_eq_getElem_cons c
    rw [ed] at hcalls
    obtain ⟨f', nn, k, xs, t, cs', e1, e2, e3, e4, e5, e6⟩ := calls_step hcalls
    subst e6
    have hx : ∀ x ∈ xs, x.length ≤ 1000 := fun x hx => hshort _ List.mem_cons_self x hx
    rw [List.map_cons, told_cons] at heq
    refine ⟨_, rfl, _, rfl, rd, ca, a, sb, rb, gv, st, ns, acc, n, nn, k, ns[n], ns.drop (n + 1), t, xs, rfl, ⟨dr4, hrd4⟩, hca4, R4, G4, hg4, tb4, ed, e2, e3, e4, hx, fun H5 qa sc rc m' hR5 hm hnm hdm hca5 R5 hg5 tb5 nq hq => ?_⟩
    have G5 := G4.step (PyMd50.whole ((ns[n] :: (ns.drop (n + 1)).take nn) :: xs))
    generalize Md50Neutral.step st (PyMd50.whole ((ns[n] :: (ns.drop (n + 1)).take nn) :: xs)) = ru at heq R5 hq G5
    have hlen : acc.length + (ru.2.length + 1) ≤ 10000000 := by
      have := congrArg List.length heq
      rw [List.length_append, List.length_cons, List.length_append] at this
      omega
    have lt1 : (iv acc).length < sizeLine := by rw [iv_len]; exact Nat.lt_of_le_of_lt (show _ ≤ 10000000 by omega) (by decide)
    refine ⟨_, rfl, .inl ⟨rfl, _, SqL.of hg5⟩, _, rfl, qa, _, rfl, .inl (SqL.of hq), gv, _, _, rfl, rfl, hg5, lt1, ?_⟩
    rw [iv_len]
    have hg6 : upd H5 gv (.lst (iv acc ++ [V.int (ru.2.length : Nat)])) gv = some (.lst (iv (acc ++ [(ru.2.length : Int)]))) := by rw [upd_same, ← ivsnoc]; rfl
    have hq6 : upd H5 gv (.lst (iv acc ++ [V.int (ru.2.length : Nat)])) qa = some (.lst (iv ru.2)) := by rw [upd_ne nq]; exact hq
    refine ⟨_, rfl, .inl ⟨rfl, _, SqL.of hg6⟩, _, rfl, gv, qa, _, _, rfl, rfl, hg6, hq6, ?_, ?_⟩
    · rw [iv_len, iv_len, List.length_append]
      show acc.length + 1 + ru.2.length ≤ sizeLine
      exact Nat.le_trans (show _ ≤ 10000000 by omega) (by decide)
    · obtain ⟨dr5, hrd5⟩ := hR5
      have nrg : rd ≠ gv := ne_of hrd5 hg5 (by intro z; cases z)
      refine ⟨ns.length - m', by omega, m', sc, rc, ru.1, cs', acc ++ [(ru.2.length : Int)] ++ ru.2, some (.ref qa), f', rfl, ⟨dr5, ?_⟩, hm, rfl, ?_, (R5.put hg5).put hg6, G5, ?_, tabs_put (tabs_put tb5 hg5) hg6, by rw [hdm]; exact e5, fun c hc => hshort c (List.mem_cons_of_mem _ hc), ?_⟩
      · rw [upd_ne nrg, upd_ne nrg]; exact hrd5
      · refine hca5.keep fun o u e => ?_
        have nc : ca ≠ gv := ne_of e hg5 (by intro z; cases z)
        rw [upd_ne nc, upd_ne nc]; exact e
      · rw [upd_same, ivsnoc]
      · rw [heq]
        simp
  · rw [decide_eq_false c]
    refine iteF ?_
    have en : ns.drop n = [] := List.drop_eq_nil_of_le (by omega)
    rw [en] at hcalls
    have er : r = [] := by
      cases fu with
      | zero => cases hcalls; rfl
      | succ fu => cases hcalls; rfl
    subst er
    refine ⟨_, rfl, q H4 gv ?_⟩
    rw [hg4, heq]
    show some (HO.lst (iv acc)) = some (HO.lst (iv (acc ++ [])))
    rw [List.append_nil]
end
end SC
namespace SC
open PySem PySem.Spec PyProof.Rows L2
open LamX (Tabs TabS TabB ExtN CodeO)
/-! ### what the top has written -/
/-- a def of the top, by its name -/
def FnG (K : PySem.W.Frag) (x : Str) (st : Stmt) : Prop := ∃ f fd, PySem.W.nsIn K mainGlobals x = some (some (.ref f)) ∧ Fun K x x st f fd
/-- a method -/
def FnM (K : PySem.W.Frag) (C : Addr) (x qual : Str) (st : Stmt) : Prop := ∃ f fd, Meth K C x f ∧ Fun K x qual st f fd
/-- the method whose code object is known -/
def FnC (K : PySem.W.Frag) (C c : Addr) (x qual : Str) (st : Stmt) : Prop := ∃ (f : Addr) (oc : Value) (od an : Option Addr) (osl : Array (Option Value)) (kV doc pm ct : Value), Meth K C x f ∧
  K.lookup f = some ⟨oc, od, .func (PySem.W.fnOf x qual (defArgs st) (defBody st) (defScope st) .none kV doc pm an (.ref c) ct), osl⟩ ∧ PySem.W.codeIn K (.ref c) qual = true
def IntG (K : PySem.W.Frag) (x : Str) (i : Int) : Prop := ∃ t, PySem.W.nsIn K mainGlobals x = some (some (.int i t))
def NonG (K : PySem.W.Frag) (x : Str) : Prop := PySem.W.nsIn K mainGlobals x = some none
section
variable {K : PySem.W.Frag} {x qual : Str} {st : Stmt} {f C c : Addr} {oc kV dc pm cd ct : Value} {od an : Option Addr} {sl : Array (Option Value)}
theorem fnG_mk (a : PySem.W.nsIn K mainGlobals x = some (some (.ref f))) (l : K.lookup f = some ⟨oc, od, .func (PySem.W.fnOf x x (defArgs st) (defBody st) (defScope st) .none kV dc pm an cd ct), sl⟩) (cc : PySem.W.codeIn K cd x = true) (k : PySem.W.keepIn K (.ref f) = true) : FnG K x st :=
  ⟨f, _, a, fun_mk l cc k⟩
theorem fnM_mk (a : PySem.W.findIn K (.ref C) x = some (some (.ref f))) (i : PySem.W.isFn K (.ref f) = true) (l : K.lookup f = some ⟨oc, od, .func (PySem.W.fnOf x qual (defArgs st) (defBody st) (defScope st) .none kV dc pm an cd ct), sl⟩) (cc : PySem.W.codeIn K cd qual = true) (k : PySem.W.keepIn K (.ref f) = true) : FnM K C x qual st :=
  ⟨f, _, ⟨a, i, k⟩, fun_mk l cc k⟩
theorem fnC_mk (a : PySem.W.findIn K (.ref C) x = some (some (.ref f))) (i : PySem.W.isFn K (.ref f) = true) (l : K.lookup f = some ⟨oc, od, .func (PySem.W.fnOf x qual (defArgs st) (defBody st) (defScope st) .none kV dc pm an (.ref c) ct), sl⟩) (cc : PySem.W.codeIn K (.ref c) qual = true) (k : PySem.W.keepIn K (.ref f) = true) : FnC K C c x qual st :=
  ⟨f, oc, od, an, sl, kV, dc, pm, ct, ⟨a, i, k⟩, l, cc⟩
end
/-- a class without more than its defs -/
structure ClF (K : PySem.W.Frag) (C : Addr) : Prop where
  pg : PySem.W.plainGet K C Str.empty = true
  hd : PySem.W.hasDictIn K C = true
  po : PySem.W.plainOver K C = true
  sa : PySem.W.findIn K (.ref C) "__setattr__" = some (some (.builtin "object.__setattr__"))
  ms : PySem.W.makesIn K C = true
  kc : PySem.W.keepIn K (.ref C) = true
structure RdAll (K : PySem.W.Frag) (C : Addr) : Prop where
  cl : ClF K C
  nC : PySem.W.findIn K (.ref C) "calls" = some none
  nA : PySem.W.findIn K (.ref C) "at" = some none
  i : FnM K C "__init__" "CallReader.__init__" sRInit
  h : FnM K C "has_more" "CallReader.has_more" sRHas
  n : FnM K C "take_number" "CallReader.take_number" sRNum
  ns : FnM K C "take_numbers" "CallReader.take_numbers" sRNums
  l : FnM K C "take_lists" "CallReader.take_lists" sRLists
structure RlAll (K : PySem.W.Frag) (C c : Addr) : Prop where
  cl : ClF K C
  nC : PySem.W.findIn K (.ref C) "columns" = some none
  nS : PySem.W.findIn K (.ref C) "searches" = some none
  nR : PySem.W.findIn K (.ref C) "rows" = some none
  m0 : FnM K C "__init__" "Relation.__init__" (mRel 0)
  m1 : FnM K C "is_there" "Relation.is_there" (mRel 1)
  m2 : FnM K C "has_search" "Relation.has_search" (mRel 2)
  m3 : FnM K C "has_values" "Relation.has_values" (mRel 3)
  m4 : FnM K C "is_row" "Relation.is_row" (mRel 4)
  m5 : FnM K C "begin" "Relation.begin" (mRel 5)
  m6 : FnM K C "search" "Relation.search" (mRel 6)
  m7 : FnM K C "orders" "Relation.orders" (mRel 7)
  m8 : FnM K C "serves" "Relation.serves" (mRel 8)
  m9 : FnM K C "apart" "Relation.apart" (mRel 9)
  m10 : FnM K C "put" "Relation.put" (mRel 10)
  m11 : FnM K C "take" "Relation.take" (mRel 11)
  m12 : FnM K C "find_rows" "Relation.find_rows" (mRel 12)
  m13 : FnM K C "next_row" "Relation.next_row" (mRel 13)
  m14 : FnM K C "place" "Relation.place" (mRel 14)
  m15 : FnM K C "all_orders" "Relation.all_orders" (mRel 15)
  m16 : FnM K C "order_with" "Relation.order_with" (mRel 16)
  m17 : FnC K C c "rows_with" "Relation.rows_with" (mRel 17)
def TupG (K : PySem.W.Frag) (x : Str) (l : List Int) : Prop := ∃ a, PySem.W.nsIn K mainGlobals x = some (some (.ref a)) ∧ ∀ H, SqT K H a (iv l)
structure All (K : PySem.W.Frag) (c : Addr) : Prop where
  rd : ∃ C, PySem.W.nsIn K mainGlobals "CallReader" = some (some (.ref C)) ∧ RdAll K C
  rl : ∃ C, PySem.W.nsIn K mainGlobals "Relation" = some (some (.ref C)) ∧ RlAll K C c
  g23 : FnG K "answers" sAns
  g24 : FnG K "answer_call" sCall
  g27 : FnG K "counted" sCnt
  g28 : FnG K "are_values" sAre
  g29 : FnG K "values_in" sVals
  g30 : FnG K "stands_ahead" sAhead
  g31 : FnG K "are_columns" sCols
  g32 : FnG K "lies_in" sLies
  g33 : FnG K "wider_searches" sWider
  g34 : FnG K "give_next" sGive
  g35 : FnG K "most_links" sMost
  g36 : FnG K "narrowed" sNar
  g37 : FnG K "settled" sSet
  g38 : FnG K "links_of" sLinks
  g39 : FnG K "chain_from" sChain
  g40 : FnG K "chains_of" sChains
  g41 : FnG K "chain_with" sWith
  g42 : FnG K "order_of" sOrd
  g43 : FnG K "is_apart" sApart
  g44 : FnG K "one_longer" sLonger
  g45 : FnG K "first_greatest_apart" sGreat
  z1 : NonG K "range"
  z2 : NonG K "len"
  z3 : NonG K "enumerate"
  z4 : NonG K "all"
  z5 : NonG K "sorted"
  i0 : IntG K "BEGIN" 0
  i1 : IntG K "SEARCH" 1
  i2 : IntG K "ORDERS" 2
  i3 : IntG K "SERVES" 3
  i4 : IntG K "APART" 4
  i5 : IntG K "PUT" 5
  i6 : IntG K "TAKE" 6
  i7 : IntG K "FIND" 7
  i8 : IntG K "NEXT" 8
  i9 : IntG K "MOST_COLUMNS" 7
  i10 : IntG K "MOST_SEARCHES" 10
  i11 : IntG K "MOST_ROWS" 60
  i12 : IntG K "LEAST_VALUE" (-1000000000)
  i13 : IntG K "GREATEST_VALUE" 1000000000
  i14 : IntG K "WRONG" (-1)
  i15 : IntG K "NO_SUCH" (-2)
  i16 : IntG K "THERE_ALREADY" (-3)
  i17 : IntG K "NO_ROW" (-4)
  i18 : IntG K "FULL" (-6)
  i19 : IntG K "NO_RELATION" (-9)
  t1 : TupG K "CALL_NUMBERS" [1, 0, 0, 1, 0, 0, 0, 1, 1, 1]
  t2 : TupG K "CALL_LISTS" [0, 1, 0, 0, 0, 1, 1, 1, 2, 1]
section
variable {P : Program} {w : World} {K : PySem.W.Frag} {mg : Str → Option Value} {base : Heap} {h : Heap}
theorem FnG.df {k : Nat} {x : Str} {st : Stmt} {ps : List Str} {sp : Sp} (X : K.In h) (G : h.Ns mainGlobals mg) (g : FnG K x st)
    (b : ∀ (kV doc pm : Value) (an : Option Addr) (cdv ct : Value) (us : List Value), us.length = ps.length → bindArgs (PySem.W.fnOf x x (defArgs st) (defBody st) (defScope st) .none kV doc pm an cdv ct) ⟨us, []⟩ = pure (ps.zip us))
    (ok : ∀ f fd, Fun K x x st f fd → Binds K fd ps [] → mg x = some (.ref f) → FnOk P w K mg base CX0 k f fd ps sp) : ∃ f fd, Df P w K mg base k x ps sp f fd := by
  obtain ⟨f, fd, a, F⟩ := g
  have m := PySem.W.mg_of X G a
  exact ⟨f, fd, ok f fd F (F.binds b) m, F.binds b, F.kp, m⟩
theorem FnM.dm {k : Nat} {C : Addr} {x qual : Str} {st : Stmt} {ps : List Str} {sp : Sp} (g : FnM K C x qual st)
    (b : ∀ (kV doc pm : Value) (an : Option Addr) (cdv ct : Value) (us : List Value), us.length = ps.length → bindArgs (PySem.W.fnOf x qual (defArgs st) (defBody st) (defScope st) .none kV doc pm an cdv ct) ⟨us, []⟩ = pure (ps.zip us))
    (ok : ∀ f fd, Fun K x qual st f fd → FnOk P w K mg base CX0 k f fd ps sp) : ∃ f fd, Dm P w K mg base k C x ps sp f fd := by
  obtain ⟨f, fd, m, F⟩ := g
  exact ⟨f, fd, ok f fd F, F.binds b, m⟩
theorem ClF.cls {C : Addr} (c : ClF K C) : Cls K C := ⟨c.pg, c.hd, c.po, c.sa⟩
theorem all_mk {c Pt fa : Addr} (X : K.In h) (G : h.Ns mainGlobals mg) (hfa : mg "answers" = some (.ref fa)) (A : All K c) :
    ∃ fd : FuncData, (∀ (s : Shared) (u : Value), BindsTo s fd ⟨[u], []⟩ [("calls", u)]) ∧ ∀ base : Heap, K.In base → base.Ns mainGlobals mg → TabB base mg c Pt → FnOk P w K mg base CX0 30 fa fd ["calls"] (spAns K Pt) := by
  obtain ⟨fA, fdA, aA, FA⟩ := A.g23
  have e := hfa.symm.trans (PySem.W.mg_of X G aA)
  cases e
  have bA : ∀ (s : Shared) (u : Value), BindsTo s fdA ⟨[u], []⟩ [("calls", u)] := fun s u => by
    obtain ⟨oc, od, kV, doc, pm, an, cdv, ct, osl, rfl, lk, hcd⟩ := FA.ex
    exact .of_eq rfl
  refine ⟨fdA, bA, fun base _ _ TB => ?_⟩
  obtain ⟨CR, aR, rd⟩ := A.rd
  obtain ⟨CL, aL, rl⟩ := A.rl
  have XR : RdTxt K CR := ⟨rd.cl.cls, rd.nC, rd.nA⟩
  have XL : RlTxt K CL := ⟨rl.cl.cls, rl.nC, rl.nS, rl.nR⟩
  have z1 := PySem.W.mg_none_of X G A.z1
  have z2 := PySem.W.mg_none_of X G A.z2
  have z3 := PySem.W.mg_none_of X G A.z3
  have z4 := PySem.W.mg_none_of X G A.z4
  have z5 := PySem.W.mg_none_of X G A.z5
  have ig : ∀ {x : Str} {i : Int}, IntG K x i → ∃ t, mg x = some (.int i t) := fun ⟨t, e⟩ => ⟨t, PySem.W.mg_of X G e⟩
  have tg : ∀ {x : Str} {l : List Int}, TupG K x l → ∃ a, mg x = some (.ref a) ∧ ∀ H, SqT K H a (iv l) := fun ⟨a, e, q⟩ => ⟨a, PySem.W.mg_of X G e, q⟩
  obtain ⟨_, i9⟩ := ig A.i9
  obtain ⟨_, i10⟩ := ig A.i10
  obtain ⟨_, i11⟩ := ig A.i11
  obtain ⟨_, i12⟩ := ig A.i12
  obtain ⟨_, i13⟩ := ig A.i13
  obtain ⟨_, i14⟩ := ig A.i14
  obtain ⟨_, i15⟩ := ig A.i15
  obtain ⟨_, i16⟩ := ig A.i16
  obtain ⟨_, i17⟩ := ig A.i17
  obtain ⟨_, i18⟩ := ig A.i18
  -- the defs
  obtain ⟨_, _, dLies⟩ := A.g32.df (P := P) (w := w) (base := base) (k := 1) (ps := ["known", "others"]) (sp := spLies) X G (fun _ _ _ _ _ _ us hl => match us, hl with | [_, _], _ => rfl) fun f fd F _ _ => ok_lies F z4
  obtain ⟨_, _, dWider⟩ := A.g33.df (P := P) (w := w) (base := base) (k := 2) (ps := ["searches"]) (sp := spWider) X G (fun _ _ _ _ _ _ us hl => match us, hl with | [_], _ => rfl) fun f fd F _ _ => ok_wider F dLies.ok dLies.bi dLies.kp dLies.mg z3
  obtain ⟨_, _, dGive⟩ := A.g34.df (P := P) (w := w) (base := base) (k := 21) (ps := ["one", "wider", "before", "asked"]) (sp := spGive 21) X G (fun _ _ _ _ _ _ us hl => match us, hl with | [_, _, _, _], _ => rfl) fun f fd F b m => ok_give F b m 21
  obtain ⟨_, _, dMost⟩ := A.g35.df (P := P) (w := w) (base := base) (k := 22) (ps := ["wider"]) (sp := spMost) X G (fun _ _ _ _ _ _ us hl => match us, hl with | [_], _ => rfl) fun f fd F _ _ => ok_most F dGive z1 z2
  obtain ⟨_, _, dNar⟩ := A.g36.df (P := P) (w := w) (base := base) (k := 1) (ps := ["wider", "one", "kept"]) (sp := spNar) X G (fun _ _ _ _ _ _ us hl => match us, hl with | [_, _, _], _ => rfl) fun f fd F _ _ => ok_nar F z3
  obtain ⟨_, _, dSet⟩ := A.g37.df (P := P) (w := w) (base := base) (k := 23) (ps := ["wider", "one", "most"]) (sp := spSet) X G (fun _ _ _ _ _ _ us hl => match us, hl with | [_, _, _], _ => rfl) fun f fd F _ _ => ok_set F dNar dMost
  obtain ⟨_, _, dLinks⟩ := A.g38.df (P := P) (w := w) (base := base) (k := 24) (ps := ["searches"]) (sp := spLinks) X G (fun _ _ _ _ _ _ us hl => match us, hl with | [_], _ => rfl) fun f fd F _ _ => ok_links F dWider dMost dSet z1 z2
  obtain ⟨_, _, dChain⟩ := A.g39.df (P := P) (w := w) (base := base) (k := 1) (ps := ["first", "links"]) (sp := spChain) X G (fun _ _ _ _ _ _ us hl => match us, hl with | [_, _], _ => rfl) fun f fd F _ _ => ok_chain F
  obtain ⟨_, _, dChains⟩ := A.g40.df (P := P) (w := w) (base := base) (k := 25) (ps := ["searches"]) (sp := spChains) X G (fun _ _ _ _ _ _ us hl => match us, hl with | [_], _ => rfl) fun f fd F _ _ => ok_chains F dLinks dChain z1 z2
  obtain ⟨_, _, dWith⟩ := A.g41.df (P := P) (w := w) (base := base) (k := 1) (ps := ["which", "chains"]) (sp := spWith) X G (fun _ _ _ _ _ _ us hl => match us, hl with | [_, _], _ => rfl) fun f fd F _ _ => ok_with F z3
  obtain ⟨_, _, dOrd⟩ := A.g42.df (P := P) (w := w) (base := base) (k := 1) (ps := ["chain", "searches", "columns"]) (sp := spOrd) X G (fun _ _ _ _ _ _ us hl => match us, hl with | [_, _, _], _ => rfl) fun f fd F _ _ => ok_ord F z1
  obtain ⟨_, _, dApart⟩ := A.g43.df (P := P) (w := w) (base := base) (k := 1) (ps := ["one", "chosen", "wider"]) (sp := spApart) X G (fun _ _ _ _ _ _ us hl => match us, hl with | [_, _, _], _ => rfl) fun f fd F _ _ => ok_apart F z4
  obtain ⟨_, _, dLonger⟩ := A.g44.df (P := P) (w := w) (base := base) (k := 2) (ps := ["sets", "wider"]) (sp := spLonger) X G (fun _ _ _ _ _ _ us hl => match us, hl with | [_, _], _ => rfl) fun f fd F _ _ => ok_longer F dApart z1 z2
  obtain ⟨_, _, dGreat⟩ := A.g45.df (P := P) (w := w) (base := base) (k := 3) (ps := ["searches"]) (sp := spGreat) X G (fun _ _ _ _ _ _ us hl => match us, hl with | [_], _ => rfl) fun f fd F _ _ => ok_great F dWider dLonger
  obtain ⟨_, _, dCols⟩ := A.g31.df (P := P) (w := w) (base := base) (k := 1) (ps := ["known", "columns"]) (sp := spCols) X G (fun _ _ _ _ _ _ us hl => match us, hl with | [_, _], _ => rfl) fun f fd F _ _ => ok_cols F
  obtain ⟨_, _, dVals⟩ := A.g29.df (P := P) (w := w) (base := base) (k := 1) (ps := ["row", "columns"]) (sp := spVals) X G (fun _ _ _ _ _ _ us hl => match us, hl with | [_, _], _ => rfl) fun f fd F _ _ => ok_vals F
  obtain ⟨_, _, dAhead⟩ := A.g30.df (P := P) (w := w) (base := base) (k := 2) (ps := ["row", "other", "order"]) (sp := spAhead) X G (fun _ _ _ _ _ _ us hl => match us, hl with | [_, _, _], _ => rfl) fun f fd F _ _ => ok_ahead F dVals
  obtain ⟨_, _, dAre⟩ := A.g28.df (P := P) (w := w) (base := base) (k := 1) (ps := ["numbers", "how_many"]) (sp := spAre) X G (fun _ _ _ _ _ _ us hl => match us, hl with | [_, _], _ => rfl) fun f fd F _ _ => ok_are F z2 z4 i12 i13
  obtain ⟨_, _, dCnt⟩ := A.g27.df (P := P) (w := w) (base := base) (k := 1) (ps := ["lists"]) (sp := spCnt) X G (fun _ _ _ _ _ _ us hl => match us, hl with | [_], _ => rfl) fun f fd F _ _ => ok_cnt F z2
  -- the reader
  obtain ⟨_, _, rI⟩ := rd.i.dm (P := P) (w := w) (mg := mg) (base := base) (k := 1) (ps := ["self", "calls"]) (sp := spRInit CR) (fun _ _ _ _ _ _ us hl => match us, hl with | [_, _], _ => rfl) fun f fd F => ok_rinit F XR
  have rH := rd.h.dm (P := P) (w := w) (mg := mg) (base := base) (k := 1) (ps := ["self"]) (sp := spRHas K CR) (fun _ _ _ _ _ _ us hl => match us, hl with | [_], _ => rfl) fun f fd F => ok_rhas F XR z2
  have rN := rd.n.dm (P := P) (w := w) (mg := mg) (base := base) (k := 1) (ps := ["self"]) (sp := spRNum K CR) (fun _ _ _ _ _ _ us hl => match us, hl with | [_], _ => rfl) fun f fd F => ok_rnum F XR
  have rNs := rd.ns.dm (P := P) (w := w) (mg := mg) (base := base) (k := 1) (ps := ["self", "how_many"]) (sp := spRNums K CR) (fun _ _ _ _ _ _ us hl => match us, hl with | [_, _], _ => rfl) fun f fd F => ok_rnums F XR
  have rL := rd.l.dm (P := P) (w := w) (mg := mg) (base := base) (k := 2) (ps := ["self", "how_many"]) (sp := spRLists K CR) (fun _ _ _ _ _ _ us hl => match us, hl with | [_, _], _ => rfl) fun f fd F => by
    obtain ⟨_, _, d1⟩ := rN
    obtain ⟨_, _, d2⟩ := rNs
    exact ok_rlists F XR z1 d1.ok d1.bi d1.me d2.ok d2.bi d2.me
  -- the relation
  obtain ⟨_, _, lI⟩ := rl.m0.dm (P := P) (w := w) (mg := mg) (base := base) (k := 1) (ps := ["self"]) (sp := spInit CL) (fun _ _ _ _ _ _ us hl => match us, hl with | [_], _ => rfl) fun f fd F => ok_init F XL
  have lThere := rl.m1.dm (P := P) (w := w) (mg := mg) (base := base) (k := 1) (ps := ["self"]) (sp := spThere CL) (fun _ _ _ _ _ _ us hl => match us, hl with | [_], _ => rfl) fun f fd F => ok_there F XL
  obtain ⟨_, _, lHas⟩ := rl.m2.dm (P := P) (w := w) (mg := mg) (base := base) (k := 1) (ps := ["self", "which"]) (sp := spHas CL) (fun _ _ _ _ _ _ us hl => match us, hl with | [_, _], _ => rfl) fun f fd F => ok_has F XL z2
  obtain ⟨_, _, lHasV⟩ := rl.m3.dm (P := P) (w := w) (mg := mg) (base := base) (k := 2) (ps := ["self", "which", "wanted"]) (sp := spHasV CL) (fun _ _ _ _ _ _ us hl => match us, hl with | [_, _, _], _ => rfl) fun f fd F => ok_hasv F XL z2 dAre
  obtain ⟨_, _, lRow⟩ := rl.m4.dm (P := P) (w := w) (mg := mg) (base := base) (k := 2) (ps := ["self", "row"]) (sp := spIsRow CL) (fun _ _ _ _ _ _ us hl => match us, hl with | [_, _], _ => rfl) fun f fd F => ok_isrow F XL dAre
  have lBegin := rl.m5.dm (P := P) (w := w) (mg := mg) (base := base) (k := 1) (ps := ["self", "columns"]) (sp := spBegin CL [(Pt, qLam)]) (fun _ _ _ _ _ _ us hl => match us, hl with | [_, _], _ => rfl) fun f fd F => ok_begin F XL i9 i14
  have lSearch := rl.m6.dm (P := P) (w := w) (mg := mg) (base := base) (k := 2) (ps := ["self", "known"]) (sp := spSearch CL [(Pt, qLam)]) (fun _ _ _ _ _ _ us hl => match us, hl with | [_, _], _ => rfl) fun f fd F => ok_search F XL z2 i14 i16 i10 i18 dCols
  obtain ⟨_, _, lAll⟩ := rl.m15.dm (P := P) (w := w) (mg := mg) (base := base) (k := 26) (ps := ["self"]) (sp := spAll CL) (fun _ _ _ _ _ _ us hl => match us, hl with | [_], _ => rfl) fun f fd F => ok_all F XL dChains dOrd
  obtain ⟨_, _, lOW⟩ := rl.m16.dm (P := P) (w := w) (mg := mg) (base := base) (k := 26) (ps := ["self", "which"]) (sp := spOW CL) (fun _ _ _ _ _ _ us hl => match us, hl with | [_, _], _ => rfl) fun f fd F => ok_ow F XL dChains dOrd dWith
  have lOrders := rl.m7.dm (P := P) (w := w) (mg := mg) (base := base) (k := 27) (ps := ["self"]) (sp := spOrders CL [(Pt, qLam)]) (fun _ _ _ _ _ _ us hl => match us, hl with | [_], _ => rfl) fun f fd F => ok_orders F XL lAll dCnt
  have lServes := rl.m8.dm (P := P) (w := w) (mg := mg) (base := base) (k := 26) (ps := ["self", "which"]) (sp := spServes CL [(Pt, qLam)]) (fun _ _ _ _ _ _ us hl => match us, hl with | [_, _], _ => rfl) fun f fd F => ok_serves F XL z2 i15 lHas dChains dWith
  have lApart := rl.m9.dm (P := P) (w := w) (mg := mg) (base := base) (k := 4) (ps := ["self"]) (sp := spApartM CL [(Pt, qLam)]) (fun _ _ _ _ _ _ us hl => match us, hl with | [_], _ => rfl) fun f fd F => ok_apartm F XL z2 dGreat
  have lPut := rl.m10.dm (P := P) (w := w) (mg := mg) (base := base) (k := 3) (ps := ["self", "row"]) (sp := spPut CL [(Pt, qLam)]) (fun _ _ _ _ _ _ us hl => match us, hl with | [_, _], _ => rfl) fun f fd F => ok_put F XL z2 i14 i11 i18 lRow
  have lTake := rl.m11.dm (P := P) (w := w) (mg := mg) (base := base) (k := 3) (ps := ["self", "row"]) (sp := spTake CL [(Pt, qLam)]) (fun _ _ _ _ _ _ us hl => match us, hl with | [_, _], _ => rfl) fun f fd F => ok_take F XL i14 lRow
  have lPlace := rl.m14.dm (P := P) (w := w) (mg := mg) (base := base) (k := 27) (ps := ["self", "number", "row"]) (sp := spPlace CL [(Pt, qLam)]) (fun _ _ _ _ _ _ us hl => match us, hl with | [_, _, _], _ => rfl) fun f fd F => ok_place F XL z2 i15 i14 lAll lRow dAhead
  obtain ⟨fR, oc, od, an, osl, kV, doc, pm, ct, meR, lkR, cdR⟩ := rl.m17
  have lRW : Dm P w K mg base 27 CL "rows_with" ["self", "which", "wanted"] (spRW CL Pt) fR _ := ⟨ok_rw lkR cdR XL TB z5 lOW dVals, .all fun us hl => match us, hl with | [_, _, _], _ => rfl, meR⟩
  have lFind := rl.m12.dm (P := P) (w := w) (mg := mg) (base := base) (k := 28) (ps := ["self", "which", "wanted"]) (sp := spFind CL Pt) (fun _ _ _ _ _ _ us hl => match us, hl with | [_, _, _], _ => rfl) fun f fd F => ok_find F XL i15 i14 lHas lHasV lRW dCnt
  have lNext := rl.m13.dm (P := P) (w := w) (mg := mg) (base := base) (k := 28) (ps := ["self", "which", "wanted", "row"]) (sp := spNext CL Pt) (fun _ _ _ _ _ _ us hl => match us, hl with | [_, _, _, _], _ => rfl) fun f fd F => ok_next F XL i15 i14 i17 lHas lHasV lRow lOW lRW dAhead
  have kit : Kit P w K mg base CR CL Pt := ⟨XR, XL, rH, rN, rNs, rL, lThere, lBegin, lSearch, lOrders, lServes, lApart, lPut, lTake, lFind, lNext, lPlace, tg A.t1, tg A.t2, ig A.i0, ig A.i1, ig A.i2, ig A.i3, ig A.i4, ig A.i5, ig A.i6, ig A.i7, ig A.i8, ig A.i19⟩
  obtain ⟨_, _, dCall⟩ := A.g24.df (P := P) (w := w) (base := base) (k := 29) (ps := ["reader", "relation"]) (sp := spCall K CR CL Pt) X G (fun _ _ _ _ _ _ us hl => match us, hl with | [_, _], _ => rfl) fun f fd F _ _ => ok_call F kit
  exact ok_answers FA kit z2 dCall ⟨rd.cl.ms, rI.me.at_, rI.me.fn, rd.cl.kc⟩ rI.ok rI.bi (PySem.W.mg_of X G aR) ⟨rl.cl.ms, lI.me.at_, lI.me.fn, rl.cl.kc⟩ lI.ok lI.bi (PySem.W.mg_of X G aL)
end
end SC
namespace SC
open PySem PySem.Spec PyProof.Rows L2
open LamX (Tabs TabS TabB ExtN CodeO)
theorem forms_of : ∀ (f : Nat) (l : List Int) (cs : List (List (List Int))), PyFlat.calls PyMd50.shape f l = some cs → ∀ c ∈ cs, ∃ p u xs cc, c = (p :: u) :: xs ∧ Form p u xs cc
  | f, [], cs, h, c, hc => by
    have : cs = [] := by
      cases f with
      | zero => cases h; rfl
      | succ f => cases h; rfl
    rw [this] at hc
    cases hc
  | 0, p :: r, cs, h, c, hc => by cases h
  | f + 1, p :: r, cs, h, c, hc => by
    obtain ⟨f', n, k, xs, t, cs', e1, e2, e3, e4, e5, e6⟩ := calls_step h
    obtain rfl : f = f' := by omega
    subst e6
    rcases List.mem_cons.mp hc with z | z
    · obtain ⟨cc, fo⟩ := form_of e2 e3 (rows_len k _ _ _ e4)
      exact ⟨p, _, xs, cc, z, fo⟩
    · exact forms_of f t cs' e5 c z
theorem row_30 {l : List Int} (h : Md50Neutral.row l = true) : l.length ≤ 1000 := by
  unfold Md50Neutral.row at h
  rw [Bool.and_eq_true] at h
  have := of_decide_eq_true h.2
  omega
theorem Form.short {p : Int} {u : List Int} {xs : List (List Int)} {cc : Md50.Call} (fo : Form p u xs cc) (h : Md50Neutral.asked1 (PyMd50.whole ((p :: u) :: xs)) = true) : ∀ x ∈ xs, x.length ≤ 1000 := by
  cases fo with
  | begin_ y => intro x hx; cases hx
  | search l =>
    have h' : Md50Neutral.row l = true := h
    intro x hx
    rw [List.mem_singleton.mp hx]
    exact row_30 h'
  | orders => intro x hx; cases hx
  | serves y => intro x hx; cases hx
  | apart => intro x hx; cases hx
  | put l =>
    have h' : Md50Neutral.row l = true := h
    intro x hx
    rw [List.mem_singleton.mp hx]
    exact row_30 h'
  | take l =>
    have h' : Md50Neutral.row l = true := h
    intro x hx
    rw [List.mem_singleton.mp hx]
    exact row_30 h'
  | find y l =>
    have h' : (Md50Neutral.num y && Md50Neutral.row l) = true := h
    rw [Bool.and_eq_true] at h'
    intro x hx
    rw [List.mem_singleton.mp hx]
    exact row_30 h'.2
  | next y l m =>
    have h' : (Md50Neutral.num y && (Md50Neutral.row l && Md50Neutral.row m)) = true := h
    rw [Bool.and_eq_true, Bool.and_eq_true] at h'
    intro x hx
    rcases List.mem_cons.mp hx with z | z
    · rw [z]; exact row_30 h'.2.1
    · rw [List.mem_singleton.mp z]; exact row_30 h'.2.2
  | place y l =>
    have h' : (Md50Neutral.num y && Md50Neutral.row l) = true := h
    rw [Bool.and_eq_true] at h'
    intro x hx
    rw [List.mem_singleton.mp hx]
    exact row_30 h'.2
theorem fair_of {ns : List Int} (h : PyMd50.answers_asked ns = true) : ∃ cs, Fair ns cs := by
  unfold PyMd50.answers_asked at h
  cases e : PyFlat.calls PyMd50.shape ns.length ns with
  | none => rw [e] at h; cases h
  | some raw =>
    rw [e] at h
    have h' : (!raw.isEmpty && PyFlat.atMost 60 raw && PyInside.calls PyMd50.bound raw && Md50Neutral.asked (raw.map PyMd50.whole) && PyFlat.short 10000000 (PyMd50.answers ns)) = true := h
    rw [Bool.and_eq_true, Bool.and_eq_true] at h'
    obtain ⟨⟨_, h1⟩, h2⟩ := h'
    refine ⟨raw, e, fun c hc => ?_, of_decide_eq_true h2⟩
    obtain ⟨p, u, xs, cc, ec, fo⟩ := forms_of _ _ _ e c hc
    have h3 : (raw.map PyMd50.whole).all Md50Neutral.asked1 = true := by
      unfold Md50Neutral.asked at h1
      rw [Bool.and_eq_true] at h1
      exact h1.1
    rw [List.all_map] at h3
    have h4 := List.all_eq_true.mp h3 c hc
    rw [ec] at h4 ⊢
    exact fo.short h4
theorem tupG_mk {K : PySem.W.Frag} {x : Str} {a : Addr} {od : Option Addr} {sl : Array (Option Value)} {n : Nat} {l : List Int} {us : List Value} (h : PySem.W.nsIn K mainGlobals x = some (some (.ref a))) (hl : K.lookup a = some ⟨.type "tuple", od, .seq us.toArray n, sl⟩) (hv : L2.Vals (iv l) us) (hz : us.length ≤ 1000) : TupG K x l :=
  ⟨a, h, fun H => .inr ⟨_, us.toArray, n, hl, rfl, rfl, by rw [List.size_toArray]; exact Nat.le_of_lt (small1000 hz), by simpa using hv⟩⟩
theorem intG_mk {K : PySem.W.Frag} {x : Str} {i : Int} {t : Tok} (a : PySem.W.nsIn K mainGlobals x = some (some (.int i t))) : IntG K x i := ⟨t, a⟩
theorem rd_mk {K : PySem.W.Frag} {C : Addr} (a : PySem.W.nsIn K mainGlobals "CallReader" = some (some (.ref C))) (r : RdAll K C) : ∃ C, PySem.W.nsIn K mainGlobals "CallReader" = some (some (.ref C)) ∧ RdAll K C := ⟨C, a, r⟩
theorem rl_mk {K : PySem.W.Frag} {C c : Addr} (a : PySem.W.nsIn K mainGlobals "Relation" = some (some (.ref C))) (r : RlAll K C c) : ∃ C, PySem.W.nsIn K mainGlobals "Relation" = some (some (.ref C)) ∧ RlAll K C c := ⟨C, a, r⟩
theorem ans_ok {K : PySem.W.Frag} {H : Hp} {l Pt : Addr} {ns : List Int} (hask : PyMd50.answers_asked ns = true) (hP : H Pt = some (.tbl #[])) (hl : (∃ o, H l = some (.frz o (.lst (ns.map V.int)))) ∨ ∀ H', SqL K H' l (ns.map V.int)) :
    spAns K Pt [.ref l] H (fun v H' => Dw K H' v (.list ((PyMd50.answers ns).map PySem.W.WData.int))) fun _ _ _ => False := by
  obtain ⟨cs, Fa⟩ := fair_of hask
  refine ⟨l, ns, cs, rfl, hl, fun p hp => ?_, Fa, fun H' p hp => .lst (SqL.of hp) (dw_ints _)⟩
  rw [List.mem_singleton.mp hp]
  exact TabS.nil hP
end SC
open PySem PySem.W PyProof.Rows
local macro_rules | `(tactic| o_headS ($_:ident $k $a $e)) => `(tactic| o_headS (PySem.W.kmHook $k $a $e [203]))
set_option maxHeartbeats 8000000 in
theorem PySem.Challenge.cw_sortedcopies_s01_answers_holds : PySem.Challenge.rw_sortedcopies_s01_answers.Holds := by
  w_on; k_headS; (case hw => exact ⟨[.list [.int 2]], by decide +kernel, by decide +kernel⟩)
  k_fillS
  refine SR.walk_specT (r := PySem.Challenge.rw_sortedcopies_s01_answers) (k := 30) (c := 205) (P := 203) (x := "calls") (sp := fun K => SC.spAns K 203) (by decide +kernel) ⟨rfl, by decide, by decide⟩ (fun w h Y => ⟨PySem.W.km_in_of Y, PySem.W.km_tabs_of Y 203 List.mem_cons_self⟩) ?nT ?hC ?F ?S
  case nT => intro w; kernel_rfl
  case hC => intro w; kernel_rfl
  case F =>
    intro w mg fa h KX G hmg
    refine SC.all_mk (c := 205) (Pt := 203) KX G hmg ?A
    refine' ⟨?rd, ?rl, ?g23, ?g24, ?g27, ?g28, ?g29, ?g30, ?g31, ?g32, ?g33, ?g34, ?g35, ?g36, ?g37, ?g38, ?g39, ?g40, ?g41, ?g42, ?g43, ?g44, ?g45, ?z1, ?z2, ?z3, ?z4, ?z5, ?i0, ?i1, ?i2, ?i3, ?i4, ?i5, ?i6, ?i7, ?i8, ?i9, ?i10, ?i11, ?i12, ?i13, ?i14, ?i15, ?i16, ?i17, ?i18, ?i19, ?t1, ?t2⟩
    case rd =>
      refine' SC.rd_mk ?raC ?rr
      case raC => k_is
      refine' ⟨?rcl, ?rnC, ?rnA, ?ri, ?rh, ?rn, ?rns, ?rl_⟩
      case rcl => (refine' ⟨?x1pg, ?x1hd, ?x1po, ?x1sa, ?x1ms, ?x1kc⟩; (case x1pg => k_is); (case x1hd => k_is); (case x1po => k_is); (case x1sa => k_is); (case x1ms => k_is); (case x1kc => k_is))
      case rnC => k_is
      case rnA => k_is
      case ri => (refine' SC.fnM_mk ?x2a ?x2i ?x2l ?x2c ?x2k; (case x2a => k_is); (case x2i => k_is); (case x2l => k_is); (case x2c => k_is); (case x2k => k_is))
      case rh => (refine' SC.fnM_mk ?x3a ?x3i ?x3l ?x3c ?x3k; (case x3a => k_is); (case x3i => k_is); (case x3l => k_is); (case x3c => k_is); (case x3k => k_is))
      case rn => (refine' SC.fnM_mk ?x4a ?x4i ?x4l ?x4c ?x4k; (case x4a => k_is); (case x4i => k_is); (case x4l => k_is); (case x4c => k_is); (case x4k => k_is))
      case rns => (refine' SC.fnM_mk ?x5a ?x5i ?x5l ?x5c ?x5k; (case x5a => k_is); (case x5i => k_is); (case x5l => k_is); (case x5c => k_is); (case x5k => k_is))
      case rl_ => (refine' SC.fnM_mk ?x6a ?x6i ?x6l ?x6c ?x6k; (case x6a => k_is); (case x6i => k_is); (case x6l => k_is); (case x6c => k_is); (case x6k => k_is))
    case rl =>
      refine' SC.rl_mk ?laC ?lr
      case laC => k_is
      refine' ⟨?cl, ?nC, ?nS, ?nR, ?m0, ?m1, ?m2, ?m3, ?m4, ?m5, ?m6, ?m7, ?m8, ?m9, ?m10, ?m11, ?m12, ?m13, ?m14, ?m15, ?m16, ?m17⟩
      case cl => (refine' ⟨?x7pg, ?x7hd, ?x7po, ?x7sa, ?x7ms, ?x7kc⟩; (case x7pg => k_is); (case x7hd => k_is); (case x7po => k_is); (case x7sa => k_is); (case x7ms => k_is); (case x7kc => k_is))
      case nC => k_is
      case nS => k_is
      case nR => k_is
      case m0 => (refine' SC.fnM_mk ?x8a ?x8i ?x8l ?x8c ?x8k; (case x8a => k_is); (case x8i => k_is); (case x8l => k_is); (case x8c => k_is); (case x8k => k_is))
      case m1 => (refine' SC.fnM_mk ?x9a ?x9i ?x9l ?x9c ?x9k; (case x9a => k_is); (case x9i => k_is); (case x9l => k_is); (case x9c => k_is); (case x9k => k_is))
      case m2 => (refine' SC.fnM_mk ?x10a ?x10i ?x10l ?x10c ?x10k; (case x10a => k_is); (case x10i => k_is); (case x10l => k_is); (case x10c => k_is); (case x10k => k_is))
      case m3 => (refine' SC.fnM_mk ?x11a ?x11i ?x11l ?x11c ?x11k; (case x11a => k_is); (case x11i => k_is); (case x11l => k_is); (case x11c => k_is); (case x11k => k_is))
      case m4 => (refine' SC.fnM_mk ?x12a ?x12i ?x12l ?x12c ?x12k; (case x12a => k_is); (case x12i => k_is); (case x12l => k_is); (case x12c => k_is); (case x12k => k_is))
      case m5 => (refine' SC.fnM_mk ?x13a ?x13i ?x13l ?x13c ?x13k; (case x13a => k_is); (case x13i => k_is); (case x13l => k_is); (case x13c => k_is); (case x13k => k_is))
      case m6 => (refine' SC.fnM_mk ?x14a ?x14i ?x14l ?x14c ?x14k; (case x14a => k_is); (case x14i => k_is); (case x14l => k_is); (case x14c => k_is); (case x14k => k_is))
      case m7 => (refine' SC.fnM_mk ?x15a ?x15i ?x15l ?x15c ?x15k; (case x15a => k_is); (case x15i => k_is); (case x15l => k_is); (case x15c => k_is); (case x15k => k_is))
      case m8 => (refine' SC.fnM_mk ?x16a ?x16i ?x16l ?x16c ?x16k; (case x16a => k_is); (case x16i => k_is); (case x16l => k_is); (case x16c => k_is); (case x16k => k_is))
      case m9 => (refine' SC.fnM_mk ?x17a ?x17i ?x17l ?x17c ?x17k; (case x17a => k_is); (case x17i => k_is); (case x17l => k_is); (case x17c => k_is); (case x17k => k_is))
      case m10 => (refine' SC.fnM_mk ?x18a ?x18i ?x18l ?x18c ?x18k; (case x18a => k_is); (case x18i => k_is); (case x18l => k_is); (case x18c => k_is); (case x18k => k_is))
      case m11 => (refine' SC.fnM_mk ?x19a ?x19i ?x19l ?x19c ?x19k; (case x19a => k_is); (case x19i => k_is); (case x19l => k_is); (case x19c => k_is); (case x19k => k_is))
      case m12 => (refine' SC.fnM_mk ?x20a ?x20i ?x20l ?x20c ?x20k; (case x20a => k_is); (case x20i => k_is); (case x20l => k_is); (case x20c => k_is); (case x20k => k_is))
      case m13 => (refine' SC.fnM_mk ?x21a ?x21i ?x21l ?x21c ?x21k; (case x21a => k_is); (case x21i => k_is); (case x21l => k_is); (case x21c => k_is); (case x21k => k_is))
      case m14 => (refine' SC.fnM_mk ?x22a ?x22i ?x22l ?x22c ?x22k; (case x22a => k_is); (case x22i => k_is); (case x22l => k_is); (case x22c => k_is); (case x22k => k_is))
      case m15 => (refine' SC.fnM_mk ?x23a ?x23i ?x23l ?x23c ?x23k; (case x23a => k_is); (case x23i => k_is); (case x23l => k_is); (case x23c => k_is); (case x23k => k_is))
      case m16 => (refine' SC.fnM_mk ?x24a ?x24i ?x24l ?x24c ?x24k; (case x24a => k_is); (case x24i => k_is); (case x24l => k_is); (case x24c => k_is); (case x24k => k_is))
      case m17 => (refine' SC.fnC_mk ?x25a ?x25i ?x25l ?x25c ?x25k; (case x25a => k_is); (case x25i => k_is); (case x25l => k_is); (case x25c => k_is); (case x25k => k_is))
    case g23 => (refine' SC.fnG_mk ?x26a ?x26l ?x26c ?x26k; (case x26a => k_is); (case x26l => k_is); (case x26c => k_is); (case x26k => k_is))
    case g24 => (refine' SC.fnG_mk ?x27a ?x27l ?x27c ?x27k; (case x27a => k_is); (case x27l => k_is); (case x27c => k_is); (case x27k => k_is))
    case g27 => (refine' SC.fnG_mk ?x28a ?x28l ?x28c ?x28k; (case x28a => k_is); (case x28l => k_is); (case x28c => k_is); (case x28k => k_is))
    case g28 => (refine' SC.fnG_mk ?x29a ?x29l ?x29c ?x29k; (case x29a => k_is); (case x29l => k_is); (case x29c => k_is); (case x29k => k_is))
    case g29 => (refine' SC.fnG_mk ?x30a ?x30l ?x30c ?x30k; (case x30a => k_is); (case x30l => k_is); (case x30c => k_is); (case x30k => k_is))
    case g30 => (refine' SC.fnG_mk ?x31a ?x31l ?x31c ?x31k; (case x31a => k_is); (case x31l => k_is); (case x31c => k_is); (case x31k => k_is))
    case g31 => (refine' SC.fnG_mk ?x32a ?x32l ?x32c ?x32k; (case x32a => k_is); (case x32l => k_is); (case x32c => k_is); (case x32k => k_is))
    case g32 => (refine' SC.fnG_mk ?x33a ?x33l ?x33c ?x33k; (case x33a => k_is); (case x33l => k_is); (case x33c => k_is); (case x33k => k_is))
    case g33 => (refine' SC.fnG_mk ?x34a ?x34l ?x34c ?x34k; (case x34a => k_is); (case x34l => k_is); (case x34c => k_is); (case x34k => k_is))
    case g34 => (refine' SC.fnG_mk ?x35a ?x35l ?x35c ?x35k; (case x35a => k_is); (case x35l => k_is); (case x35c => k_is); (case x35k => k_is))
    case g35 => (refine' SC.fnG_mk ?x36a ?x36l ?x36c ?x36k; (case x36a => k_is); (case x36l => k_is); (case x36c => k_is); (case x36k => k_is))
    case g36 => (refine' SC.fnG_mk ?x37a ?x37l ?x37c ?x37k; (case x37a => k_is); (case x37l => k_is); (case x37c => k_is); (case x37k => k_is))
    case g37 => (refine' SC.fnG_mk ?x38a ?x38l ?x38c ?x38k; (case x38a => k_is); (case x38l => k_is); (case x38c => k_is); (case x38k => k_is))
    case g38 => (refine' SC.fnG_mk ?x39a ?x39l ?x39c ?x39k; (case x39a => k_is); (case x39l => k_is); (case x39c => k_is); (case x39k => k_is))
    case g39 => (refine' SC.fnG_mk ?x40a ?x40l ?x40c ?x40k; (case x40a => k_is); (case x40l => k_is); (case x40c => k_is); (case x40k => k_is))
    case g40 => (refine' SC.fnG_mk ?x41a ?x41l ?x41c ?x41k; (case x41a => k_is); (case x41l => k_is); (case x41c => k_is); (case x41k => k_is))
    case g41 => (refine' SC.fnG_mk ?x42a ?x42l ?x42c ?x42k; (case x42a => k_is); (case x42l => k_is); (case x42c => k_is); (case x42k => k_is))
    case g42 => (refine' SC.fnG_mk ?x43a ?x43l ?x43c ?x43k; (case x43a => k_is); (case x43l => k_is); (case x43c => k_is); (case x43k => k_is))
    case g43 => (refine' SC.fnG_mk ?x44a ?x44l ?x44c ?x44k; (case x44a => k_is); (case x44l => k_is); (case x44c => k_is); (case x44k => k_is))
    case g44 => (refine' SC.fnG_mk ?x45a ?x45l ?x45c ?x45k; (case x45a => k_is); (case x45l => k_is); (case x45c => k_is); (case x45k => k_is))
    case g45 => (refine' SC.fnG_mk ?x46a ?x46l ?x46c ?x46k; (case x46a => k_is); (case x46l => k_is); (case x46c => k_is); (case x46k => k_is))
    case z1 => (unfold SC.NonG; k_is)
    case z2 => (unfold SC.NonG; k_is)
    case z3 => (unfold SC.NonG; k_is)
    case z4 => (unfold SC.NonG; k_is)
    case z5 => (unfold SC.NonG; k_is)
    case i0 => (refine' SC.intG_mk ?x47a; (case x47a => k_is))
    case i1 => (refine' SC.intG_mk ?x48a; (case x48a => k_is))
    case i2 => (refine' SC.intG_mk ?x49a; (case x49a => k_is))
    case i3 => (refine' SC.intG_mk ?x50a; (case x50a => k_is))
    case i4 => (refine' SC.intG_mk ?x51a; (case x51a => k_is))
    case i5 => (refine' SC.intG_mk ?x52a; (case x52a => k_is))
    case i6 => (refine' SC.intG_mk ?x53a; (case x53a => k_is))
    case i7 => (refine' SC.intG_mk ?x54a; (case x54a => k_is))
    case i8 => (refine' SC.intG_mk ?x55a; (case x55a => k_is))
    case i9 => (refine' SC.intG_mk ?x56a; (case x56a => k_is))
    case i10 => (refine' SC.intG_mk ?x57a; (case x57a => k_is))
    case i11 => (refine' SC.intG_mk ?x58a; (case x58a => k_is))
    case i12 => (refine' SC.intG_mk ?x59a; (case x59a => k_is))
    case i13 => (refine' SC.intG_mk ?x60a; (case x60a => k_is))
    case i14 => (refine' SC.intG_mk ?x61a; (case x61a => k_is))
    case i15 => (refine' SC.intG_mk ?x62a; (case x62a => k_is))
    case i16 => (refine' SC.intG_mk ?x63a; (case x63a => k_is))
    case i17 => (refine' SC.intG_mk ?x64a; (case x64a => k_is))
    case i18 => (refine' SC.intG_mk ?x65a; (case x65a => k_is))
    case i19 => (refine' SC.intG_mk ?x66a; (case x66a => k_is))
    case t1 => (refine' SC.tupG_mk ?x67a ?x67l ?x67v ?x67z; (case x67a => k_is); (case x67l => k_is); (case x67v => exact .cons ⟨_, rfl⟩ (.cons ⟨_, rfl⟩ (.cons ⟨_, rfl⟩ (.cons ⟨_, rfl⟩ (.cons ⟨_, rfl⟩ (.cons ⟨_, rfl⟩ (.cons ⟨_, rfl⟩ (.cons ⟨_, rfl⟩ (.cons ⟨_, rfl⟩ (.cons ⟨_, rfl⟩ (.nil))))))))))); (case x67z => decide))
    case t2 => (refine' SC.tupG_mk ?x68a ?x68l ?x68v ?x68z; (case x68a => k_is); (case x68l => k_is); (case x68v => exact .cons ⟨_, rfl⟩ (.cons ⟨_, rfl⟩ (.cons ⟨_, rfl⟩ (.cons ⟨_, rfl⟩ (.cons ⟨_, rfl⟩ (.cons ⟨_, rfl⟩ (.cons ⟨_, rfl⟩ (.cons ⟨_, rfl⟩ (.cons ⟨_, rfl⟩ (.cons ⟨_, rfl⟩ (.nil))))))))))); (case x68z => decide))
  case S =>
    intro K a hwi hask
    exact ⟨a.1, rfl, fun H l hP hl => SC.ans_ok hask hP hl⟩
#print axioms PySem.Challenge.cw_sortedcopies_s01_answers_holds
