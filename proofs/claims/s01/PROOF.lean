import PyProof.Rows.All
import Wide.All
import OpenK.AllK
import Wide.FinOn
import Open.SpecLaws
import KE.OsGo
import HandS.ForSpec
import HandS.Comp
import HandS.Iter
import HandS.Walk
import HandS.Zip
import HandS.SetFor
import HandS.Strs
import HandS.SortKw
import KE.SortKeyHeap
import PySem.Challenge.RW_canonways_s01_answers
set_option Elab.async false
set_option linter.all false
set_option maxHeartbeats 1000000
/-! The mathematics of two voices: where they meet, what that costs. Plain lists. -/
namespace CW
abbrev Ev3 := Int × Int × Option Int
/-- a line laid in time: begins, over, step -/
def laid : Int → Cp07.Line → List Ev3
  | _, [] => []
  | t, e :: l => (t, t + (e.len : Int), e.n) :: laid (t + (e.len : Int)) l
/-- the step that is on -/
def on : List Ev3 → Int → Option Int
  | [], _ => none
  | e :: r, t => if t < e.2.1 then (if t < e.1 then none else e.2.2) else on r t
theorem laid_length : ∀ (l : Cp07.Line) (t : Int), (laid t l).length = l.length
  | [], _ => rfl
  | e :: l, t => congrArg (· + 1) (laid_length l (t + (e.len : Int)))
theorem on_laid : ∀ (l : Cp07.Line) (s t : Nat), on (laid (s : Int) l) (t : Int) = (Cp07.sounding (s, l) t).map (fun x => x.1)
  | [], _, _ => rfl
  | e :: l, s, t => by
    have ih := on_laid l (s + e.len) t
    unfold Cp07.sounding at ih ⊢
    simp only [laid, on, Cp07.at_]
    by_cases h : t < s + e.len
    · have h' : (t : Int) < (s : Int) + (e.len : Int) := by omega
      rw [if_pos h, if_pos h']
      by_cases g : t < s
      · have g' : (t : Int) < (s : Int) := by omega
        rw [if_pos g, if_pos g']
        rfl
      · have g' : ¬ (t : Int) < (s : Int) := by omega
        rw [if_neg g, if_neg g']
        cases e.n <;> rfl
    · have h' : ¬ (t : Int) < (s : Int) + (e.len : Int) := by omega
      rw [if_neg h, if_neg h']
      have c : ((s + e.len : Nat) : Int) = (s : Int) + (e.len : Int) := by omega
      rw [c] at ih
      exact ih
theorem laid_begins : ∀ (l : Cp07.Line) (s : Nat), (laid (s : Int) l).map (fun e => e.1) = (Cp07.begins s l).map Int.ofNat
  | [], _ => rfl
  | e :: l, s => by
    have ih := laid_begins l (s + e.len)
    have c : ((s + e.len : Nat) : Int) = (s : Int) + (e.len : Int) := by omega
    rw [c] at ih
    simp only [laid, Cp07.begins, List.map_cons, ih]
    rfl
/-! ### the moments -/
theorem dedup_mem : ∀ (l acc : List Nat) (k : Nat), k ∈ l.foldl (fun l t => if l.contains t then l else l ++ [t]) acc ↔ k ∈ acc ∨ k ∈ l
  | [], acc, k => by simp
  | t :: r, acc, k => by
    rw [List.foldl_cons, dedup_mem r]
    by_cases h : acc.contains t = true
    · rw [if_pos h]
      have h2 : t ∈ acc := by simpa using h
      constructor
      · rintro (a | a)
        · exact .inl a
        · exact .inr (List.mem_cons_of_mem _ a)
      · rintro (a | a)
        · exact .inl a
        · rcases List.mem_cons.mp a with e | e
          · exact .inl (e ▸ h2)
          · exact .inr e
    · rw [if_neg h]
      simp only [List.mem_append, List.mem_cons, List.not_mem_nil, or_false]
      constructor
      · rintro ((a | a) | a)
        · exact .inl a
        · exact .inr (.inl a)
        · exact .inr (.inr a)
      · rintro (a | a | a)
        · exact .inl (.inl a)
        · exact .inl (.inr a)
        · exact .inr a
theorem dedup_nodup : ∀ (l acc : List Nat), acc.Nodup → (l.foldl (fun l t => if l.contains t then l else l ++ [t]) acc).Nodup
  | [], _, h => h
  | t :: r, acc, h => by
    rw [List.foldl_cons]
    refine dedup_nodup r _ ?_
    by_cases c : acc.contains t = true
    · rw [if_pos c]; exact h
    · rw [if_neg c]
      have c2 : t ∉ acc := by simpa using c
      rw [List.nodup_append]
      exact ⟨h, by simp, by
        intro x hx y hy
        rw [List.mem_singleton] at hy
        exact fun e => c2 (hy ▸ e ▸ hx)⟩
theorem moments_mem (a b : Cp07.Voice) (k : Nat) : k ∈ Cp07.moments a b ↔ k ∈ Cp07.begins a.1 a.2 ∨ k ∈ Cp07.begins b.1 b.2 := by
  unfold Cp07.moments
  rw [List.mem_mergeSort, dedup_mem]
  simp
theorem moments_lt (a b : Cp07.Voice) : (Cp07.moments a b).Pairwise (· < ·) := by
  have hs : (Cp07.moments a b).Pairwise (fun x y => decide (x ≤ y) = true) := by
    unfold Cp07.moments
    refine List.pairwise_mergeSort ?_ ?_ _
    · intro x y z h1 h2
      simp only [decide_eq_true_eq] at *
      omega
    · intro x y
      simp only [Bool.or_eq_true, decide_eq_true_eq]
      omega
  have hn : (Cp07.moments a b).Nodup := by
    unfold Cp07.moments
    exact (List.mergeSort_perm _ _).nodup_iff.mpr (dedup_nodup _ _ List.nodup_nil)
  refine List.Pairwise.imp₂ ?_ hs hn
  intro x y h1 h2
  simp only [decide_eq_true_eq] at h1
  omega
theorem sorted_same : ∀ {l m : List Int}, l.Pairwise (· < ·) → m.Pairwise (· < ·) → (∀ k, k ∈ l ↔ k ∈ m) → l = m
  | [], [], _, _, _ => rfl
  | [], y :: m, _, _, h => absurd ((h y).mpr List.mem_cons_self) (by simp)
  | x :: l, [], _, _, h => absurd ((h x).mp List.mem_cons_self) (by simp)
  | x :: l, y :: m, hl, hm, h => by
    obtain ⟨l1, l2⟩ := List.pairwise_cons.mp hl
    obtain ⟨m1, m2⟩ := List.pairwise_cons.mp hm
    have e : x = y := by
      rcases List.mem_cons.mp ((h x).mp List.mem_cons_self) with a | a
      · exact a
      · rcases List.mem_cons.mp ((h y).mpr List.mem_cons_self) with b | b
        · exact b.symm
        · have := m1 x a; have := l1 y b; omega
    subst e
    rw [sorted_same l2 m2 fun k => ?_]
    constructor
    · intro hk
      rcases List.mem_cons.mp ((h k).mp (List.mem_cons_of_mem _ hk)) with a | a
      · have := l1 k hk; omega
      · exact a
    · intro hk
      rcases List.mem_cons.mp ((h k).mpr (List.mem_cons_of_mem _ hk)) with a | a
      · have := m1 k hk; omega
      · exact a
/-- a rising list of the beginnings is the moments -/
theorem moments_same {a b : Cp07.Voice} {ns : List Int} (h1 : ns.Pairwise (· < ·)) (h2 : ∀ k, k ∈ ns ↔ k ∈ (laid (a.1 : Int) a.2).map (fun e => e.1) ++ (laid (b.1 : Int) b.2).map (fun e => e.1)) : ns = (Cp07.moments a b).map Int.ofNat := by
  refine sorted_same h1 ?_ fun k => ?_
  · rw [List.pairwise_map]
    exact (moments_lt a b).imp fun h => by show Int.ofNat _ < Int.ofNat _; exact Int.ofNat_lt.mpr h
  · rw [h2, laid_begins, laid_begins, ← List.map_append]
    simp only [List.mem_map, List.mem_append, moments_mem]
/-! ### what the meetings cost -/
def par (q : Cp07.Table) : Option (Int × Int) → Int → Int → Nat
  | none, _, _ => 0
  | some p, x, y => Cp07.parallels q (0, p.1, p.2) (0, x, y)
/-- of each meeting, in order: its time, what it costs -/
def mc (q : Cp07.Table) (a b : Cp07.Voice) : Option (Int × Int) → List Nat → List (Nat × Nat)
  | _, [] => []
  | bf, t :: ts => match (Cp07.sounding a t).map (fun x => x.1), (Cp07.sounding b t).map (fun x => x.1) with
    | some x, some y => (t, Cp07.price q (t, x, y) + par q bf x y) :: mc q a b (some (x, y)) ts
    | _, _ => mc q a b none ts
def meet (a b : Cp07.Voice) (t : Nat) : Option (Nat × Int × Int) := match Cp07.sounding a t, Cp07.sounding b t with
  | some x, some y => some (t, x.1, y.1)
  | _, _ => none
theorem meetings_eq (a b : Cp07.Voice) : Cp07.meetings a b = (Cp07.moments a b).filterMap (meet a b) := rfl
theorem meet_time {a b : Cp07.Voice} {t : Nat} {m : Nat × Int × Int} (h : meet a b t = some m) : m.1 = t := by
  unfold meet at h
  split at h
  · cases h; rfl
  · cases h
theorem zip_next {l : List Nat} {x y : Nat} : (x, y) ∈ l.zip (l.drop 1) ↔ ∃ i, l[i]? = some x ∧ l[i + 1]? = some y := by
  rw [List.mem_iff_getElem?]
  constructor
  · rintro ⟨i, h⟩
    rw [List.getElem?_zip_eq_some] at h
    refine ⟨i, h.1, ?_⟩
    have := h.2
    rw [List.getElem?_drop] at this
    rw [Nat.add_comm]
    exact this
  · rintro ⟨i, h1, h2⟩
    refine ⟨i, ?_⟩
    rw [List.getElem?_zip_eq_some]
    refine ⟨h1, ?_⟩
    rw [List.getElem?_drop, Nat.add_comm]
    exact h2
theorem nodup_at {l : List Nat} (h : l.Nodup) {i j : Nat} {x : Nat} (h1 : l[i]? = some x) (h2 : l[j]? = some x) : i = j := by
  obtain ⟨a1, e1⟩ := List.getElem?_eq_some_iff.mp h1
  obtain ⟨a2, e2⟩ := List.getElem?_eq_some_iff.mp h2
  exact (List.getElem_inj h).mp (e1.trans e2.symm)
/-- behind the moments pre: the meeting at the last of them -/
def lastM (a b : Cp07.Voice) (pre : List Nat) : Option (Nat × Int × Int) := pre.getLast?.bind (meet a b)
def cell (q : Cp07.Table) (ms : List Nat) (l : List (Nat × Int × Int)) (m : (Nat × Int × Int) × Nat) : Nat × Nat :=
  (m.1.1, Cp07.price q m.1 + match (if m.2 = 0 then none else l[m.2 - 1]?) with
    | some p => if (ms.zip (ms.drop 1)).contains (p.1, m.1.1) then Cp07.parallels q p m.1 else 0
    | none => 0)
theorem badness_eq (q : Cp07.Table) (a b : Cp07.Voice) : Cp07.badness q a b = ((Cp07.meetings a b).zipIdx.map (cell q (Cp07.moments a b) (Cp07.meetings a b))).filter fun x => x.2 != 0 := rfl
theorem filterMap_snoc {α β : Type} (f : α → Option β) (l : List α) (x : α) : (l ++ [x]).filterMap f = l.filterMap f ++ (f x).toList := by
  rw [List.filterMap_append]
  cases h : f x <;> simp [h]
theorem par_free (q : Cp07.Table) (t u : Nat) (x y z w : Int) : Cp07.parallels q (t, x, y) (u, z, w) = Cp07.parallels q (0, x, y) (0, z, w) := rfl
theorem cells_mc (q : Cp07.Table) (a b : Cp07.Voice) (ms : List Nat) (hn : ms.Nodup) : ∀ (suf pre : List Nat), ms = pre ++ suf →
    ((suf.filterMap (meet a b)).zipIdx (pre.filterMap (meet a b)).length).map (cell q ms (ms.filterMap (meet a b))) = mc q a b ((lastM a b pre).map fun m => m.2) suf
  | [], pre, _ => rfl
  | t :: suf, pre, e => by
    have ih := cells_mc q a b ms hn suf (pre ++ [t]) (by rw [e, List.append_assoc]; rfl)
    have hl : lastM a b (pre ++ [t]) = meet a b t := by
      unfold lastM
      rw [List.getLast?_append]
      rfl
    rw [hl, filterMap_snoc] at ih
    have hm : meet a b t = (match (Cp07.sounding a t).map (fun x => x.1), (Cp07.sounding b t).map (fun x => x.1) with
        | some x, some y => some (t, x, y)
        | _, _ => none) := by
      unfold meet
      cases Cp07.sounding a t <;> cases Cp07.sounding b t <;> rfl
    rw [List.filterMap_cons]
    simp only [mc]
    cases h1 : (Cp07.sounding a t).map (fun x => x.1) with
    | none =>
      rw [h1] at hm
      have hm' : meet a b t = none := hm
      rw [hm'] at ih ⊢
      simpa using ih
    | some x =>
      cases h2 : (Cp07.sounding b t).map (fun x => x.1) with
      | none =>
        rw [h1, h2] at hm
        have hm' : meet a b t = none := hm
        rw [hm'] at ih ⊢
        simpa using ih
      | some y =>
        rw [h1, h2] at hm
        have hm' : meet a b t = some (t, x, y) := hm
        rw [hm'] at ih ⊢
        simp only [Option.toList_some, List.length_append, List.length_singleton] at ih
        simp only [List.zipIdx_cons, List.map_cons]
        rw [ih]
        have hcell : cell q ms (ms.filterMap (meet a b)) ((t, x, y), (pre.filterMap (meet a b)).length) = (t, Cp07.price q (t, x, y) + par q ((lastM a b pre).map fun m => m.2) x y) := by
          unfold cell
          refine Prod.ext rfl (congrArg (Cp07.price q (t, x, y) + ·) ?_)
          show (match (if (pre.filterMap (meet a b)).length = 0 then none else (ms.filterMap (meet a b))[(pre.filterMap (meet a b)).length - 1]?) with
            | some p => if (ms.zip (ms.drop 1)).contains (p.1, t) then Cp07.parallels q p (t, x, y) else 0
            | none => 0) = _
          have hms : ms.filterMap (meet a b) = pre.filterMap (meet a b) ++ (t :: suf).filterMap (meet a b) := by rw [e, List.filterMap_append]
          rcases List.eq_nil_or_concat pre with hp | ⟨pre', u, hp⟩
          · subst hp
            rfl
          · rw [List.concat_eq_append] at hp
            have hlast : lastM a b pre = meet a b u := by
              rw [hp]
              unfold lastM
              rw [List.getLast?_append]
              rfl
            have hpre : pre.filterMap (meet a b) = pre'.filterMap (meet a b) ++ (meet a b u).toList := by rw [hp, filterMap_snoc]
            have iu : ms[pre'.length]? = some u := by
              rw [e, hp]
              simp
            have it : ms[pre'.length + 1]? = some t := by
              rw [e, hp]
              simp
            rw [hlast]
            cases hu : meet a b u with
            | some p =>
              have hpt := meet_time hu
              rw [hu] at hpre
              have hlen : (pre.filterMap (meet a b)).length = (pre'.filterMap (meet a b)).length + 1 := by rw [hpre]; simp
              have hget : (ms.filterMap (meet a b))[(pre.filterMap (meet a b)).length - 1]? = some p := by
                rw [hlen, hms, hpre]
                simp
              rw [if_neg (by omega), hget]
              have hc : (ms.zip (ms.drop 1)).contains (p.1, t) = true := by
                rw [List.contains_iff_mem, zip_next]
                exact ⟨pre'.length, by rw [hpt]; exact iu, it⟩
              simp only [hc, if_true]
              exact par_free q p.1 t p.2.1 p.2.2 x y
            | none =>
              rw [hu] at hpre
              by_cases h0 : (pre.filterMap (meet a b)).length = 0
              · rw [if_pos h0]
                rfl
              · rw [if_neg h0]
                cases hg : (ms.filterMap (meet a b))[(pre.filterMap (meet a b)).length - 1]? with
                | none => rfl
                | some p =>
                  have hc : ¬ (ms.zip (ms.drop 1)).contains (p.1, t) = true := by
                    rw [List.contains_iff_mem, zip_next]
                    rintro ⟨i, g1, g2⟩
                    have ei : i + 1 = pre'.length + 1 := nodup_at hn g2 it
                    have ei' : i = pre'.length := by omega
                    rw [ei', iu] at g1
                    have hpu : p.1 = u := (Option.some.inj g1).symm
                    have hlt : (pre.filterMap (meet a b)).length - 1 < (pre.filterMap (meet a b)).length := by omega
                    rw [hms, List.getElem?_append_left hlt] at hg
                    have hmem : p ∈ pre.filterMap (meet a b) := List.mem_of_getElem? hg
                    rw [hpre] at hmem
                    simp only [Option.toList_none, List.append_nil] at hmem
                    obtain ⟨u', hu', hmu⟩ := List.mem_filterMap.mp hmem
                    have := meet_time hmu
                    rw [this] at hpu
                    subst hpu
                    rw [hmu] at hu
                    cases hu
                  have hc' : (ms.zip (ms.drop 1)).contains (p.1, t) = false := by simpa using hc
                  simp only [hc', Bool.false_eq_true, if_false]
                  rfl
        rw [hcell]
        rfl
theorem badness_mc (q : Cp07.Table) (a b : Cp07.Voice) : Cp07.badness q a b = (mc q a b none (Cp07.moments a b)).filter fun x => x.2 != 0 := by
  rw [badness_eq, meetings_eq]
  have hn : (Cp07.moments a b).Nodup := (moments_lt a b).imp fun h => Nat.ne_of_lt h
  have e := cells_mc q a b (Cp07.moments a b) hn (Cp07.moments a b) [] rfl
  rw [show (mc q a b none (Cp07.moments a b)) = _ from e.symm]
  rfl
theorem foldl_add (l : List Nat) : ∀ (z : Nat), l.foldl (· + ·) z = z + l.sum := by
  induction l with
  | nil => intro z; simp
  | cons x r ih => intro z; rw [List.foldl_cons, ih, List.sum_cons]; omega
theorem sum_filter (l : List (Nat × Nat)) : ((l.filter fun x => x.2 != 0).map fun x => x.2).sum = (l.map fun x => x.2).sum := by
  induction l with
  | nil => rfl
  | cons x r ih =>
    by_cases h : x.2 = 0
    · have hb : (x.2 != 0) = false := by simp [h]
      rw [List.filter_cons, hb]
      simp [ih, h]
    · have hb : (x.2 != 0) = true := by simp [h]
      rw [List.filter_cons, hb]
      simp [ih]
theorem cost_mc (q : Cp07.Table) (a b : Cp07.Voice) : Cp07.cost q a b = ((mc q a b none (Cp07.moments a b)).map fun x => x.2).sum := by
  unfold Cp07.cost
  rw [foldl_add, badness_mc, sum_filter]
  omega
end CW

set_option maxHeartbeats 1000000
/-! The mathematics of what is handed in: events, ways, calls. Plain lists. -/
namespace CW
/-! ### the step that is on, from a place on -/
theorem on_drop {v : List Ev3} {t : Int} : ∀ (p : Nat), (∀ (i : Nat) (e : Ev3), i < p → v[i]? = some e → e.2.1 ≤ t) → on v t = on (v.drop p) t := by
  induction v with
  | nil => intro p _; simp
  | cons e r ih =>
    intro p h
    cases p with
    | zero => rfl
    | succ p =>
      have h0 := h 0 e (Nat.succ_pos _) rfl
      rw [List.drop_succ_cons, ← ih p fun i x hi hx => h (i + 1) x (by omega) (by simpa using hx)]
      show (if t < e.2.1 then _ else on r t) = on r t
      rw [if_neg (by omega)]
theorem on_here {v : List Ev3} {t : Int} {p : Nat} {e : Ev3} (h : v[p]? = some e) (ht : t < e.2.1) : on (v.drop p) t = if t < e.1 then none else e.2.2 := by
  obtain ⟨hp, he⟩ := List.getElem?_eq_some_iff.mp h
  rw [List.drop_eq_getElem_cons hp, he]
  show (if t < e.2.1 then _ else _) = _
  rw [if_pos ht]
/-! ### events as numbers -/
def enc (e : Cp07.Event) : List Int := match e.n with
  | none => [0, (e.len : Int)]
  | some z => [1, z, (e.len : Int)]
theorem told_enc (l : Cp07.Line) : (l.flatMap fun e => match e.n with
    | none => [0, (e.len : Int)]
    | some z => [1, z, (e.len : Int)]) = l.flatMap enc := rfl
/-- numbers within ranges, as many -/
def allIn : List Int → List (Int × Int) → Bool
  | [], [] => true
  | x :: xs, r :: rs => (decide (r.1 ≤ x) && decide (x ≤ r.2)) && allIn xs rs
  | _, _ => false
theorem allIn_zip : ∀ (xs : List Int) (rs : List (Int × Int)), allIn xs rs = (decide (xs.length = rs.length) && ((xs.zip rs).map fun p => decide (p.2.1 ≤ p.1) && decide (p.1 ≤ p.2.2)).all id)
  | [], [] => rfl
  | [], r :: rs => by simp [allIn]
  | x :: xs, [] => by simp [allIn]
  | x :: xs, r :: rs => by
    have ih := allIn_zip xs rs
    have e : decide ((x :: xs).length = (r :: rs).length) = decide (xs.length = rs.length) := by simp
    simp only [allIn, ih, e, List.zip_cons_cons, List.map_cons, List.all_cons, id]
    cases decide (xs.length = rs.length) <;> simp
def restR : List (Int × Int) := [(0, 0), (1, 512)]
def noteR : List (Int × Int) := [(1, 1), (0, 69), (1, 512)]
def rangesOf (z : Int) : List (Int × Int) := if z = 1 then noteR else restR
/-- one event read off the front -/
theorem events_step (z : Int) (r : List Int) : Cp07.events (z :: r) =
    if allIn ((z :: r).take (rangesOf z).length) (rangesOf z) = true then
      (Cp07.events ((z :: r).drop (rangesOf z).length)).map fun l => (if z = 1 then ⟨some (r.getD 0 0), (r.getD 1 0).toNat⟩ else ⟨none, (r.getD 0 0).toNat⟩) :: l
    else none := by
  by_cases h1 : z = 1
  · subst h1
    unfold rangesOf
    rw [if_pos rfl]
    match r with
    | [] => rfl
    | [d] => simp [Cp07.events, allIn, noteR]
    | d :: n :: q =>
      simp only [Cp07.events, allIn, noteR, List.length_cons, List.length_nil, List.take_succ_cons, List.take_zero, List.drop_succ_cons, List.drop_zero, Cp07.isIn]
      simp
  · unfold rangesOf
    rw [if_neg h1]
    match r with
    | [] =>
      by_cases h0 : z = 0
      · subst h0; simp [Cp07.events, allIn, restR]
      · simp [Cp07.events, allIn, restR, h0, h1]
    | n :: q =>
      by_cases h0 : z = 0
      · subst h0
        simp only [Cp07.events, allIn, restR, List.length_cons, List.length_nil, List.take_succ_cons, List.take_zero, List.drop_succ_cons, List.drop_zero, Cp07.isIn]
        simp
      · have : ¬ (0 ≤ z ∧ z ≤ 0) := by omega
        simp [Cp07.events, allIn, restR, h0, h1]
        omega
/-- what a line is as it is handed in -/
def Fine (e : Cp07.Event) : Prop := 1 ≤ e.len ∧ e.len ≤ 512 ∧ ∀ z, e.n = some z → 0 ≤ z ∧ z ≤ 69
theorem enc_of_allIn {z : Int} {r : List Int} (h : allIn ((z :: r).take (rangesOf z).length) (rangesOf z) = true) :
    (z :: r).take (rangesOf z).length = enc (if z = 1 then ⟨some (r.getD 0 0), (r.getD 1 0).toNat⟩ else ⟨none, (r.getD 0 0).toNat⟩) ∧ Fine (if z = 1 then ⟨some (r.getD 0 0), (r.getD 1 0).toNat⟩ else ⟨none, (r.getD 0 0).toNat⟩) ∧ (rangesOf z).length ≤ (z :: r).length := by
  by_cases h1 : z = 1
  · subst h1
    unfold rangesOf at h ⊢
    rw [if_pos rfl] at h ⊢
    match r, h with
    | [], h => simp [allIn, noteR] at h
    | [_], h => simp [allIn, noteR] at h
    | d :: n :: q, h =>
      simp only [allIn, noteR, List.length_cons, List.length_nil, List.take_succ_cons, List.take_zero, Bool.and_eq_true, decide_eq_true_eq] at h
      rw [if_pos rfl]
      refine ⟨?_, ⟨?_, ?_, ?_⟩, by simp [noteR]⟩
      · show [1, d, n] = [1, d, ((n.toNat : Nat) : Int)]
        rw [Int.toNat_of_nonneg (by omega)]
      · show 1 ≤ n.toNat; omega
      · show n.toNat ≤ 512; omega
      · intro w hw
        cases hw
        show 0 ≤ d ∧ d ≤ 69
        omega
  · unfold rangesOf at h ⊢
    rw [if_neg h1] at h ⊢
    match r, h with
    | [], h => simp [allIn, restR] at h
    | n :: q, h =>
      simp only [allIn, restR, List.length_cons, List.length_nil, List.take_succ_cons, List.take_zero, Bool.and_eq_true, decide_eq_true_eq] at h
      rw [if_neg h1]
      have z0 : z = 0 := by omega
      refine ⟨?_, ⟨?_, ?_, ?_⟩, by simp [restR]⟩
      · show [z, n] = [0, ((n.toNat : Nat) : Int)]
        rw [Int.toNat_of_nonneg (by omega), z0]
      · show 1 ≤ n.toNat; omega
      · show n.toNat ≤ 512; omega
      · intro w hw
        cases hw
/-! ### ways -/
def wayR : List (Int × Int) := [(0, 4096), (-28, 28), (0, 1), (0, 1), (1, 3)]
theorem wayOf_eq (l : List Int) : Cp07.wayOf l = if allIn l wayR = true then some ⟨(l.getD 0 0).toNat, l.getD 1 0, l.getD 2 0 == 1, l.getD 3 0 == 1, (l.getD 4 0).toNat⟩ else none := by
  match l with
  | [] => rfl
  | [_] => simp [Cp07.wayOf, allIn, wayR]
  | [_, _] => simp [Cp07.wayOf, allIn, wayR]
  | [_, _, _] => simp [Cp07.wayOf, allIn, wayR]
  | [_, _, _, _] => simp [Cp07.wayOf, allIn, wayR]
  | [t, u, o, b, z] =>
    simp only [Cp07.wayOf, allIn, wayR, Cp07.isIn, Bool.and_true]
    rfl
  | _ :: _ :: _ :: _ :: _ :: _ :: _ => simp [Cp07.wayOf, allIn, wayR]
def evBy (f : Int) (w : Cp07.Way) (e : Cp07.Event) : Cp07.Event :=
  ⟨e.n.map fun z => (if w.over then 2 * f - z else z) + w.up, if w.size = 2 then 2 * e.len else if w.size = 3 then e.len / 2 else e.len⟩
theorem voiced_eq (l : Cp07.Line) (w : Cp07.Way) : Cp07.voiced l w = if w.size = 3 ∧ Cp07.halves l = false then none else
    some (if w.back then (l.map (evBy (Cp07.firstNote l) w)).reverse else l.map (evBy (Cp07.firstNote l) w)) := by
  unfold Cp07.voiced
  by_cases h : w.size = 3 ∧ Cp07.halves l = false
  · simp only [if_pos h]
  · simp only [if_neg h]
    cases w.back
    · rfl
    · show some (l.reverse.map _) = some ((l.map _).reverse)
      rw [List.map_reverse]
      rfl
theorem firstNote_cons (e : Cp07.Event) (l : Cp07.Line) : Cp07.firstNote (e :: l) = match e.n with
    | some z => z
    | none => Cp07.firstNote l := by
  unfold Cp07.firstNote
  rw [List.findSome?_cons]
  cases e.n <;> rfl
theorem length_eq (l : Cp07.Line) : (Cp07.length l : Int) = (l.map fun e => (e.len : Int)).sum := by
  unfold Cp07.length
  rw [foldl_add]
  induction l with
  | nil => rfl
  | cons e r ih =>
    simp only [List.map_cons, List.sum_cons] at *
    omega
/-! ### prices -/
def priceR : List (Int × Int) := List.replicate 15 (0, 100) ++ [(1, 512)]
theorem allIn_append : ∀ (a b : List Int) (r s : List (Int × Int)), a.length = r.length → allIn (a ++ b) (r ++ s) = (allIn a r && allIn b s)
  | [], b, [], s, _ => by simp [allIn]
  | x :: a, b, y :: r, s, h => by
    have ih := allIn_append a b r s (by simpa using h)
    simp only [List.cons_append, allIn, ih, Bool.and_assoc]
  | [], _, _ :: _, _, h => by simp at h
  | _ :: _, _, [], _, h => by simp at h
theorem allIn_rep : ∀ (a : List Int) (n : Nat) (x y : Int), a.length = n → allIn a (List.replicate n (x, y)) = a.all fun z => decide (x ≤ z) && decide (z ≤ y)
  | [], 0, _, _, _ => rfl
  | z :: a, n + 1, x, y, h => by
    rw [List.replicate_succ]
    simp only [allIn, List.all_cons, allIn_rep a n x y (by simpa using h)]
  | [], _ + 1, _, _, h => by simp at h
  | _ :: _, 0, _, _, h => by simp at h
theorem allIn_len : ∀ (a : List Int) (r : List (Int × Int)), allIn a r = true → a.length = r.length
  | [], [], _ => rfl
  | x :: a, y :: r, h => by
    simp only [allIn, Bool.and_eq_true] at h
    exact congrArg (· + 1) (allIn_len a r h.2)
  | [], _ :: _, h => by simp [allIn] at h
  | _ :: _, [], h => by simp [allIn] at h
end CW

set_option maxHeartbeats 1000000
/-! The calls as they stand in the list. -/
namespace CW
/-- a call without lists: its number, its numbers -/
def flat1 (c : Int × List Int) : List Int := c.1 :: (c.2.length : Int) :: (c.2 ++ [0])
def wide (c : Int × List Int) : List (List Int) := [c.1 :: c.2]
theorem row_split {l x s : List Int} (h : PyFlat.row l = some (x, s)) : l = (x.length : Int) :: (x ++ s) := by
  cases l with
  | nil => cases h
  | cons n r =>
    unfold PyFlat.row at h
    dsimp only at h
    by_cases c : 0 ≤ n ∧ n.toNat ≤ r.length
    · rw [if_pos c] at h
      cases h
      rw [List.take_append_drop, List.length_take, Nat.min_eq_left c.2, Int.toNat_of_nonneg c.1]
    · rw [if_neg c] at h
      cases h
theorem rows_none {k : Nat} {l s : List Int} (h : PyFlat.rows k l = some ([], s)) : k = 0 ∧ l = s := by
  cases k with
  | zero => cases h; exact ⟨rfl, rfl⟩
  | succ k =>
    unfold PyFlat.rows at h
    split at h
    · cases h
    · split at h
      · cases h
      · cases h
theorem call_split {l u : List Int} {c : Int × List Int} (h : PyWide.call l = some (wide c, u)) : l = flat1 c ++ u := by
  cases l with
  | nil => cases h
  | cons p r =>
    unfold PyWide.call at h
    simp only at h
    split at h
    · cases h
    · cases h
    · rename_i ns k t hr
      by_cases h0 : 0 ≤ k
      · rw [if_pos h0] at h
        split at h
        · cases h
        · rename_i xs v hx
          cases h
          obtain ⟨a, b⟩ := rows_none hx
          have hk : k = 0 := by omega
          rw [row_split hr, hk, b]
          simp [flat1]
      · rw [if_neg h0] at h
        cases h
theorem calls_split : ∀ (f : Nat) (l : List Int) (cs : List (Int × List Int)), PyWide.calls f l = some (cs.map wide) → l = cs.flatMap flat1
  | f, [], cs, h => by
    have e : some ([] : List (List (List Int))) = some (cs.map wide) := by
      cases f <;> exact h
    have e2 := Option.some.inj e
    cases cs with
    | nil => rfl
    | cons c r => cases e2
  | 0, _ :: _, _, h => by cases h
  | f + 1, p :: r, cs, h => by
    unfold PyWide.calls at h
    split at h
    · cases h
    · rename_i c t hc
      split at h
      · cases h
      · rename_i ds hd
        have e := Option.some.inj h
        cases cs with
        | nil => cases e
        | cons d rest =>
          rw [List.map_cons] at e
          obtain ⟨e1, e2⟩ := List.cons.inj e
          subst e1
          subst e2
          rw [List.flatMap_cons, ← calls_split f t rest hd]
          exact call_split hc
theorem form_rows {p : Int} {a : List (Int × Int)} {m : Nat × Nat × Int × Int} {r : List (Int × Int × Nat × Nat)} {k : Nat × Nat × Nat × Int × Int × Nat × Nat} (h : PyCp07.form p = some (a, m, r, k)) : r = [] ∧ k = (0, 0, 0, 0, 0, 0, 0) := by
  unfold PyCp07.form at h
  repeat' split at h
  all_goals first
    | (cases h; exact ⟨rfl, rfl⟩)
    | cases h
theorem fits_wide {c : List (List Int)} (h : PyCp07.fits c = true) : ∃ d : Int × List Int, c = wide d := by
  unfold PyCp07.fits at h
  split at h
  · rename_i p xs rows
    cases hf : PyCp07.form p with
    | none => rw [hf] at h; cases h
    | some q =>
      obtain ⟨a, ⟨m1, m2, lo, hi⟩, r, ⟨k, n1, n2, llo, lhi, l1, l2⟩⟩ := q
      obtain ⟨e1, e2⟩ := form_rows hf
      cases e2
      subst e1
      rw [hf] at h
      simp only [Bool.and_eq_true, decide_eq_true_eq] at h
      have h1 := h.1.1.2
      simp only [List.drop_zero, List.length_nil, Nat.sub_zero, List.take_length] at h1
      have : rows = [] := List.length_eq_zero_iff.mp (by omega)
      subst this
      exact ⟨(p, xs), rfl⟩
  · cases h
/-- what a list of calls that may be handed in is -/
structure Asked (l : List Int) (cs : List (Int × List Int)) : Prop where
  flat : l = cs.flatMap flat1
  due : PyCp07.answers l = PyFlat.told (PyFlat.played Cp07Neutral.step Cp07Neutral.start (cs.map wide))
  call : ∀ c ∈ cs, (Cp07Neutral.callOf (c.1 :: c.2)).isSome = true ∧ c.2.length ≤ 59
  short : (PyCp07.answers l).length ≤ 10000000
theorem asked_of {l : List Int} (h : PyCp07.answers_asked l = true) : ∃ cs, Asked l cs := by
  unfold PyCp07.answers_asked at h
  split at h
  · cases h
  · rename_i cs hc
    simp only [Bool.and_eq_true] at h
    obtain ⟨⟨⟨⟨h1, h2⟩, h3⟩, h4⟩, h5⟩ := h
    have hw : ∀ (ds : List (List (List Int))), ds.all PyCp07.fits = true → ∃ es : List (Int × List Int), ds = es.map wide := by
      intro ds
      induction ds with
      | nil => intro _; exact ⟨[], rfl⟩
      | cons d r ih =>
        intro hd
        rw [List.all_cons, Bool.and_eq_true] at hd
        obtain ⟨e, he⟩ := fits_wide hd.1
        obtain ⟨es, hes⟩ := ih hd.2
        exact ⟨e :: es, by rw [he, hes]; rfl⟩
    obtain ⟨es, hes⟩ := hw cs h2
    subst hes
    refine ⟨es, calls_split _ _ _ hc, ?_, fun c hm => ?_, ?_⟩
    · unfold PyCp07.answers
      rw [hc]
    · unfold Cp07Neutral.asked at h4
      rw [Bool.and_eq_true] at h4
      have q := List.all_eq_true.mp h4.1 (wide c) (List.mem_map_of_mem hm)
      unfold Cp07Neutral.asked1 at q
      simp only [Bool.and_eq_true] at q
      refine ⟨q.2.2.2, ?_⟩
      have q2 : ((wide c).headD []).length ≤ 60 := of_decide_eq_true q.2.2.1
      have q3 : c.2.length + 1 ≤ 60 := q2
      omega
    · unfold PyFlat.short at h5
      simpa using h5
end CW

set_option maxHeartbeats 1000000
/-! Stable sorts, ways that are tried. -/
namespace CW
/-! ### a stable sort is one -/
theorem sorted_classes {α : Type} (k : α → Nat) : ∀ {l m : List α}, l.Pairwise (fun x y => k x ≤ k y) → m.Pairwise (fun x y => k x ≤ k y) → (∀ c, l.filter (fun x => k x == c) = m.filter (fun x => k x == c)) → l = m
  | [], [], _, _, _ => rfl
  | [], y :: m, _, _, h => by
    have := h (k y)
    simp at this
  | x :: l, [], _, _, h => by
    have := h (k x)
    simp at this
  | x :: l, y :: m, hl, hm, h => by
    obtain ⟨l1, l2⟩ := List.pairwise_cons.mp hl
    obtain ⟨m1, m2⟩ := List.pairwise_cons.mp hm
    have kxy : k x = k y := by
      have hx : x ∈ (y :: m).filter (fun z => k z == k x) := by
        rw [← h (k x)]
        exact List.mem_filter.mpr ⟨List.mem_cons_self, by simp⟩
      have hy : y ∈ (x :: l).filter (fun z => k z == k y) := by
        rw [h (k y)]
        exact List.mem_filter.mpr ⟨List.mem_cons_self, by simp⟩
      have a : k y ≤ k x := by
        rcases List.mem_cons.mp (List.mem_filter.mp hx).1 with e | e
        · rw [e]; exact Nat.le_refl _
        · exact m1 x e
      have b : k x ≤ k y := by
        rcases List.mem_cons.mp (List.mem_filter.mp hy).1 with e | e
        · rw [e]; exact Nat.le_refl _
        · exact l1 y e
      omega
    have e := h (k x)
    rw [List.filter_cons, List.filter_cons, if_pos (by simp), if_pos (by simp [kxy])] at e
    obtain ⟨e1, e2⟩ := List.cons.inj e
    subst e1
    rw [sorted_classes k l2 m2 fun c => ?_]
    have := h c
    rw [List.filter_cons, List.filter_cons] at this
    by_cases hc : (k x == c) = true
    · rw [if_pos hc, if_pos hc] at this
      exact (List.cons.inj this).2
    · rw [if_neg hc, if_neg hc] at this
      exact this
theorem mergeSort_classes {α : Type} (k : α → Nat) (l : List α) (c : Nat) : (l.mergeSort fun x y => decide (k x ≤ k y)).filter (fun x => k x == c) = l.filter (fun x => k x == c) := by
  have tr : ∀ a b c : α, decide (k a ≤ k b) = true → decide (k b ≤ k c) = true → decide (k a ≤ k c) = true := by
    intro a b c h1 h2
    simp only [decide_eq_true_eq] at *
    omega
  have to : ∀ a b : α, (decide (k a ≤ k b) || decide (k b ≤ k a)) = true := by
    intro a b
    simp only [Bool.or_eq_true, decide_eq_true_eq]
    omega
  have sub : (l.filter (fun x => k x == c)).Sublist (l.mergeSort fun x y => decide (k x ≤ k y)) := by
    refine List.sublist_mergeSort tr to ?_ List.filter_sublist
    rw [List.pairwise_iff_forall_sublist]
    intro a b hab
    have ha : a ∈ l.filter (fun x => k x == c) := hab.subset (by simp)
    have hb : b ∈ l.filter (fun x => k x == c) := hab.subset (by simp)
    have ea : k a = c := by simpa using (List.mem_filter.mp ha).2
    have eb : k b = c := by simpa using (List.mem_filter.mp hb).2
    simp [ea, eb]
  have sub2 : (l.filter (fun x => k x == c)).Sublist ((l.mergeSort fun x y => decide (k x ≤ k y)).filter (fun x => k x == c)) := by
    have := sub.filter (fun x => k x == c)
    rwa [List.filter_filter, show (fun a : α => (k a == c) && (k a == c)) = (fun x => k x == c) from funext fun a => Bool.and_self _] at this
  exact (sub2.eq_of_length ((List.mergeSort_perm l _).filter _).length_eq.symm).symm
theorem stable_sort {α : Type} (k : α → Nat) {l m : List α} (h1 : m.Pairwise (fun x y => k x ≤ k y)) (h2 : ∀ c, m.filter (fun x => k x == c) = l.filter (fun x => k x == c)) : m = l.mergeSort fun x y => decide (k x ≤ k y) := by
  refine sorted_classes k h1 ?_ fun c => (h2 c).trans (mergeSort_classes k l c).symm
  have := List.pairwise_mergeSort (le := fun x y => decide (k x ≤ k y)) (l := l) (by intro a b c h1 h2; simp only [decide_eq_true_eq] at *; omega) (by intro a b; simp only [Bool.or_eq_true, decide_eq_true_eq]; omega)
  exact this.imp fun h => by simpa using h
/-! ### ways that are tried -/
theorem sum_twelve {α : Type} : ∀ l : List α, (l.map fun _ => 12).sum = l.length * 12
  | [] => rfl
  | a :: l => by
    rw [List.map_cons, List.sum_cons, sum_twelve l, List.length_cons]
    omega
theorem tried_length (ls : List Nat) (us : List Int) : (Cp07.tried ls us).length = ls.length * us.length * 12 := by
  unfold Cp07.tried
  rw [List.length_flatMap]
  have h1 : ∀ t : Nat, ((us.flatMap fun u => [false, true].flatMap fun o => [false, true].flatMap fun b => [1, 2, 3].map fun z => (⟨t, u, o, b, z⟩ : Cp07.Way))).length = us.length * 12 := by
    intro t
    rw [List.length_flatMap]
    have : (us.map fun a => ([false, true].flatMap fun o => [false, true].flatMap fun b => [1, 2, 3].map fun z => (⟨t, a, o, b, z⟩ : Cp07.Way)).length) = us.map fun _ => 12 := rfl
    rw [this]
    exact sum_twelve us
  induction ls with
  | nil => simp
  | cons t r ih =>
    rw [List.map_cons, List.sum_cons, ih, h1, List.length_cons, Nat.add_mul, Nat.one_mul, Nat.add_mul]
    omega
/-! ### what all two voices cost -/
theorem total_cons (q : Cp07.Table) (v : Cp07.Voice) (r : List Cp07.Voice) : Cp07.total q (v :: r) = (r.map (Cp07.cost q v)).sum + Cp07.total q r := by
  show (r.map (Cp07.cost q v)).foldl (· + ·) 0 + Cp07.total q r = _
  rw [foldl_add]
  omega
theorem total_nil (q : Cp07.Table) : Cp07.total q [] = 0 := rfl
/-- a voice behind the others costs what it does against each of them -/
theorem total_snoc (q : Cp07.Table) (v : Cp07.Voice) : ∀ l : List Cp07.Voice, Cp07.total q (l ++ [v]) = Cp07.total q l + (l.map fun u => Cp07.cost q u v).sum
  | [] => by
    rw [List.nil_append, total_cons]
    simp [Cp07.total]
  | u :: l => by
    rw [List.cons_append, total_cons, total_cons, total_snoc q v l]
    simp
    omega
end CW

set_option maxHeartbeats 1000000
/-! Two voices either way round; all two voices; ways by their numbers. -/
namespace CW
theorem left_swap (x y : Int) : Cp07.left x y = Cp07.left y x := by
  unfold Cp07.left
  have : (x - y).natAbs = (y - x).natAbs := by omega
  rw [this]
theorem price_swap (q : Cp07.Table) (t : Nat) (x y : Int) : Cp07.price q (t, x, y) = Cp07.price q (t, y, x) := by
  unfold Cp07.price
  simp only [left_swap x y]
theorem par_swap (q : Cp07.Table) (bf : Option (Int × Int)) (x y : Int) : par q bf x y = par q (bf.map fun p => (p.2, p.1)) y x := by
  cases bf with
  | none => rfl
  | some p =>
    show Cp07.parallels q (0, p.1, p.2) (0, x, y) = Cp07.parallels q (0, p.2, p.1) (0, y, x)
    unfold Cp07.parallels
    simp only [left_swap p.1 p.2, left_swap x y, Int.mul_comm (x - p.1) (y - p.2)]
theorem mc_swap (q : Cp07.Table) (a b : Cp07.Voice) : ∀ (ms : List Nat) (bf : Option (Int × Int)), mc q a b bf ms = mc q b a (bf.map fun p => (p.2, p.1)) ms
  | [], _ => rfl
  | t :: ts, bf => by
    simp only [mc]
    cases (Cp07.sounding a t).map (fun x => x.1) with
    | none =>
      cases (Cp07.sounding b t).map (fun x => x.1) with
      | none => exact mc_swap q a b ts none
      | some y => exact mc_swap q a b ts none
    | some x =>
      cases (Cp07.sounding b t).map (fun x => x.1) with
      | none => exact mc_swap q a b ts none
      | some y =>
        show _ :: _ = _ :: _
        rw [price_swap, par_swap, mc_swap q a b ts (some (x, y))]
        rfl
theorem moments_swap (a b : Cp07.Voice) : Cp07.moments a b = Cp07.moments b a := by
  have e : (Cp07.moments a b).map Int.ofNat = (Cp07.moments b a).map Int.ofNat := by
    refine sorted_same ?_ ?_ fun k => ?_
    · rw [List.pairwise_map]
      exact (moments_lt a b).imp fun h => by show Int.ofNat _ < Int.ofNat _; exact Int.ofNat_lt.mpr h
    · rw [List.pairwise_map]
      exact (moments_lt b a).imp fun h => by show Int.ofNat _ < Int.ofNat _; exact Int.ofNat_lt.mpr h
    · simp only [List.mem_map, moments_mem, Or.comm]
  exact List.map_inj_right (fun x y h => Int.ofNat.inj h) |>.mp e
theorem mcs_swap (q : Cp07.Table) (a b : Cp07.Voice) : mc q a b none (Cp07.moments a b) = mc q b a none (Cp07.moments b a) := by
  rw [mc_swap, moments_swap]
  rfl
theorem badness_swap (q : Cp07.Table) (a b : Cp07.Voice) : Cp07.badness q a b = Cp07.badness q b a := by
  rw [badness_mc, badness_mc, mcs_swap]
/-! ### all two voices -/
def abv (q : Cp07.Table) (vs : List Cp07.Voice) (v : Cp07.Voice) : Nat := (vs.map fun u => Cp07.cost q u v).sum
def ab0 (q : Cp07.Table) (vs : List Cp07.Voice) (i : Nat) : List Nat := (List.range i).map fun j => abv q (vs.take j) (vs.getD j (0, []))
theorem ab0_succ {q : Cp07.Table} {vs : List Cp07.Voice} {i : Nat} {v : Cp07.Voice} (h : vs[i]? = some v) : ab0 q vs (i + 1) = ab0 q vs i ++ [abv q (vs.take i) v] := by
  unfold ab0
  rw [List.range_succ, List.map_append, List.map_singleton]
  have : vs.getD i (0, []) = v := by rw [List.getD_eq_getElem?_getD, h]; rfl
  rw [this]
theorem ab0_len (q : Cp07.Table) (vs : List Cp07.Voice) (i : Nat) : (ab0 q vs i).length = i := by
  unfold ab0
  simp
theorem ab0_sum (q : Cp07.Table) (vs : List Cp07.Voice) : ∀ i, i ≤ vs.length → (ab0 q vs i).sum = Cp07.total q (vs.take i)
  | 0, _ => by simp [ab0, Cp07.total]
  | i + 1, h => by
    have hi : vs[i]? = some vs[i] := List.getElem?_eq_getElem (by omega)
    have t : vs.take (i + 1) = vs.take i ++ [vs[i]] := by rw [List.take_add_one, hi]; rfl
    rw [ab0_succ hi, t, total_snoc, List.sum_append, ab0_sum q vs i (by omega)]
    unfold abv
    simp
theorem ab0_total (q : Cp07.Table) (vs : List Cp07.Voice) : (ab0 q vs vs.length).sum = Cp07.total q vs := by
  rw [ab0_sum q vs _ (Nat.le_refl _), List.take_length]
/-! ### ways that are tried, by their numbers -/
def shapes : List (List Int) := [[0, 0, 1], [0, 0, 2], [0, 0, 3], [0, 1, 1], [0, 1, 2], [0, 1, 3], [1, 0, 1], [1, 0, 2], [1, 0, 3], [1, 1, 1], [1, 1, 2], [1, 1, 3]]
def triedU (t : Int) (us : List Int) : List (List Int) := us.flatMap fun u => shapes.map fun s => [t, u] ++ s
def triedN (ls us : List Int) : List (List Int) := ls.flatMap fun t => triedU t us
theorem tried_told (us : List Int) : ∀ ls : List Nat, (Cp07.tried ls us).map Cp07.wayTold = triedN (ls.map fun (n : Nat) => (n : Int)) us
  | [] => rfl
  | t :: ls => by
    have ih := tried_told us ls
    have e : Cp07.tried (t :: ls) us = (us.flatMap fun u => [false, true].flatMap fun o => [false, true].flatMap fun b => [1, 2, 3].map fun z => (⟨t, u, o, b, z⟩ : Cp07.Way)) ++ Cp07.tried ls us := by
      unfold Cp07.tried
      rw [List.flatMap_cons]
    rw [e, List.map_append, ih]
    show _ = triedU (t : Int) us ++ triedN (ls.map fun (n : Nat) => (n : Int)) us
    congr 1
    unfold triedU
    rw [List.map_flatMap]
    rfl
theorem triedU_snoc (t : Int) (us : List Int) (u : Int) : triedU t (us ++ [u]) = triedU t us ++ shapes.map fun s => [t, u] ++ s := by
  unfold triedU
  rw [List.flatMap_append, List.flatMap_cons, List.flatMap_nil, List.append_nil]
theorem triedN_snoc (ls : List Int) (t : Int) (us : List Int) : triedN (ls ++ [t]) us = triedN ls us ++ triedU t us := by
  unfold triedN
  rw [List.flatMap_append, List.flatMap_cons, List.flatMap_nil, List.append_nil]
theorem tried_mem {ls : List Nat} {us : List Int} {w : Cp07.Way} (h : w ∈ Cp07.tried ls us) : w.late ∈ ls ∧ w.up ∈ us ∧ (w.size = 1 ∨ w.size = 2 ∨ w.size = 3) := by
  unfold Cp07.tried at h
  obtain ⟨t, ht, h⟩ := List.mem_flatMap.mp h
  obtain ⟨u, hu, h⟩ := List.mem_flatMap.mp h
  obtain ⟨o, _, h⟩ := List.mem_flatMap.mp h
  obtain ⟨b, _, h⟩ := List.mem_flatMap.mp h
  obtain ⟨z, hz, rfl⟩ := List.mem_map.mp h
  refine ⟨ht, hu, ?_⟩
  simpa using hz
theorem told_in {w : Cp07.Way} (h1 : w.late ≤ 4096) (h2 : -28 ≤ w.up ∧ w.up ≤ 28) (h3 : w.size = 1 ∨ w.size = 2 ∨ w.size = 3) : allIn (Cp07.wayTold w) wayR = true := by
  unfold Cp07.wayTold wayR
  simp only [allIn, Bool.and_eq_true, decide_eq_true_eq, Bool.and_true]
  refine ⟨by omega, h2, ?_, ?_, by omega⟩
  · cases w.over <;> simp
  · cases w.back <;> simp
theorem triedN_len (ls us : List Int) : (triedN ls us).length = ls.length * us.length * 12 := by
  have h1 : ∀ t : Int, (triedU t us).length = us.length * 12 := by
    intro t
    unfold triedU
    rw [List.length_flatMap]
    have : (us.map fun u => (shapes.map fun s => [t, u] ++ s).length) = us.map fun _ => 12 := rfl
    rw [this]
    exact sum_twelve us
  unfold triedN
  induction ls with
  | nil => simp
  | cons t r ih =>
    rw [List.flatMap_cons, List.length_append, ih, h1, List.length_cons, Nat.add_mul, Nat.one_mul, Nat.add_mul]
    omega
end CW

set_option Elab.async false
set_option linter.all false
set_option maxRecDepth 100000
set_option maxHeartbeats 2000000
/-! Rules that the layer lacks: zip of a list or a tuple with a list or a tuple. -/
namespace CWX
open PySem PySem.Spec PyProof.Rows L2
/-! ### a sequence: a list (false) or a tuple (true) -/
def GIter (t : Bool) (h : Heap) (it l : Addr) (i : Nat) : Prop := match t with
  | false => h.IsListIter it l i
  | true => h.IsTupleIter it l i
def GSeq (t : Bool) (h : Heap) (l : Addr) (xs : Array Value) : Prop := match t with
  | false => h.IsList l xs
  | true => h.IsTuple l xs
def SqG (t : Bool) (K : PySem.W.Frag) (H : Hp) (a : Addr) (xs : List V) : Prop := match t with
  | false => SqL K H a xs
  | true => SqT K H a xs
theorem GIter.to {t : Bool} {h g : Heap} {it l : Addr} {i : Nat} (x : GIter t h it l i) (e : ∀ o, h.get? it = some o → g.get? it = some o) : GIter t g it l i := by
  cases t
  · exact Heap.IsListIter.at x e
  · exact Heap.IsTupleIter.at x e
theorem GIter.there {t : Bool} {h : Heap} {it l : Addr} {i : Nat} (x : GIter t h it l i) : ∃ o, h.get? it = some o ∧ ∀ v, o.data ≠ .cell v := by
  cases t
  · obtain ⟨o, e, _, d⟩ := x
    exact ⟨o, e, fun v q => by rw [d] at q; cases q⟩
  · obtain ⟨o, e, _, d⟩ := x
    exact ⟨o, e, fun v q => by rw [d] at q; cases q⟩
theorem GIter.lt {t : Bool} {h : Heap} {it l : Addr} {i : Nat} (x : GIter t h it l i) : it < h.objs.size := by
  obtain ⟨o, e, _⟩ := x.there
  exact Heap.lt_size e
theorem GSeq.to {t : Bool} {h g : Heap} {l : Addr} {xs : Array Value} (x : GSeq t h l xs) (e : ∀ o, h.get? l = some o → g.get? l = some o) : GSeq t g l xs := by
  cases t
  · exact Heap.IsList.at x e
  · exact Heap.IsTuple.at x e
theorem GSeq.lt {t : Bool} {h : Heap} {l : Addr} {xs : Array Value} (x : GSeq t h l xs) : l < h.objs.size := by
  cases t
  · obtain ⟨o, e, _⟩ := x
    exact Heap.lt_size e
  · obtain ⟨o, e, _⟩ := x
    exact Heap.lt_size e
theorem sqG_in {X : Cx} {pins : List (Addr × Obj)} {σ : L2.St} {H : Hp} {s : Shared} {t : Bool} {a : Addr} {xs : List V} (I : Inv X pins σ H s) (h : SqG t X.K H a xs) : ∃ its : List Value, Vals xs its ∧ GSeq t s.heap a its.toArray ∧ xs.length ≤ sizeLine := by
  cases t
  · obtain ⟨its, r, p, z⟩ := I.list h
    exact ⟨its, r, p.isList, z⟩
  · obtain ⟨its, r, p, z⟩ := I.tuple h
    exact ⟨its, r, p, z⟩
theorem sqG_inj {X : Cx} {pins : List (Addr × Obj)} {σ : L2.St} {H : Hp} {s : Shared} {t : Bool} {a : Addr} {xs ys : List V} (I : Inv X pins σ H s) (h : SqG t X.K H a xs) (h' : SqG t X.K H a ys) : xs = ys := by
  cases t
  · exact I.list_inj h h'
  · exact I.tuple_inj h h'
section
variable {prog : Program} {w : World} {A : Around} {E : Value → Shared → Prop} {s : Shared}
theorem drawG {t : Bool} {it l : Addr} {i : Nat} {items : Array Value} {x : Value} {Q : Value → Shared → Prop} (hit : GIter t s.heap it l i) (hl : GSeq t s.heap l items) (hx : items[i]? = some x)
    (hQ : ∀ h', GIter t h' it l (i + 1) → Heap.SameBut it s.heap h' → Q x { s with heap := h' }) : wpAny (model prog w) A (Builtin.SmallTypes.nextOf (.ref it)) Q E s := by
  cases t
  · exact wpAny_nextOf_list_item hit hl hx hQ
  · exact RZ.nextOf_tuple_item hit hl hx hQ
theorem dryG {t : Bool} {it l : Addr} {i : Nat} {items : Array Value} {Q : Value → Shared → Prop} (hh : A.handled = none) (hit : GIter t s.heap it l i) (hl : GSeq t s.heap l items) (hx : items[i]? = none)
    (hE : ∀ h' e, Heap.ExtBut it s.heap h' → (∃ o, h'.get? e = some o ∧ o.cls = .type "StopIteration") → E (.ref e) { s with heap := h' }) : wpAny (model prog w) A (Builtin.SmallTypes.nextOf (.ref it)) Q E s := by
  cases t
  · exact wpAny_nextOf_list_end hh hit hl hx hE
  · exact RZ.nextOf_tuple_end hh hit hl hx hE
theorem iterG {t : Bool} {l : Addr} {items : Array Value} {Q : Value → Shared → Prop} (hl : GSeq t s.heap l items)
    (h : ∀ h', GIter t h' s.heap.objs.size l 0 → h'.objs.size = s.heap.objs.size + 1 → (∀ c o, s.heap.get? c = some o → h'.get? c = some o) → Q (.ref s.heap.objs.size) { s with heap := h' }) :
    wpAny (model prog w) A (pyIter (.ref l)) Q E s := by
  cases t
  · exact wpAny_pyIter_list hl (h _ ⟨_, Heap.get?_push_size _ rfl, rfl, rfl⟩ (Heap.size_push ..) fun c o e => Heap.get?_push_of_some _ e)
  · exact wpAny_pyIter_tuple hl (h _ ⟨_, Heap.get?_push_size _ rfl, rfl, rfl⟩ (Heap.size_push ..) fun c o e => Heap.get?_push_of_some _ e)
/-! ### zip of two: the next pair -/
theorem zip2_pull {t1 t2 : Bool} {z TI TO i1 i2 l1 l2 : Addr} {k1 k2 : Nat} {xs ys : Array Value} {x y a b : Value} {Q : Value → Shared → Prop} (D : ZipApart z TI TO i1 i2 l1 l2)
    (hz : IsZip s.heap z TI TO .none) (hTI : IsPair s.heap TI (.ref i1) (.ref i2)) (hTO : IsPair s.heap TO a b)
    (g1 : GIter t1 s.heap i1 l1 k1) (g2 : GIter t2 s.heap i2 l2 k2) (q1 : GSeq t1 s.heap l1 xs) (q2 : GSeq t2 s.heap l2 ys) (hx : xs[k1]? = some x) (hy : ys[k2]? = some y)
    (hQ : ∀ h', IsZip h' z TI TO (rawInt s.heap.objs.size) → IsPair h' TO x y → GIter t1 h' i1 l1 (k1 + 1) → GIter t2 h' i2 l2 (k2 + 1) → IsPair h' s.heap.objs.size x y →
      (∀ c o, c ≠ z → c ≠ TO → c ≠ i1 → c ≠ i2 → s.heap.get? c = some o → h'.get? c = some o) → Q (.ref s.heap.objs.size) { s with heap := h' }) :
    wpAny (model prog w) A (Builtin.«zip.__next__» ⟨[.ref z], []⟩) (fun fin s' => ∃ v, fin = .done (.ret v) ∧ Q v s') E s := by
  show wpAny _ _ (field (.ref z) 2 >>= _) _ _ s
  refine wpAny_bind (wpAny_field hz rfl (x := .bool false) rfl ?_)
  show wpAny _ _ (field (.ref z) 3 >>= _) _ _ s
  refine wpAny_bind (wpAny_field hz rfl (x := .ref TI) rfl (wpAny_bind (wpAny_seqItems hTI rfl ?_)))
  show wpAny _ _ (Builtin.SmallTypes.ownedTupleIsFree (.ref z) >>= _) _ _ s
  unfold Builtin.SmallTypes.ownedTupleIsFree
  refine wpAny_bind (wpAny_bind (wpAny_field hz rfl (x := .none) rfl (wpAny_pure ?_)))
  simp only [if_true]
  refine wpAny_bind (wpAny_rule (wpAny_bind (wpAny_field hz rfl (x := .ref TO) rfl ?_)))
  refine wpAny_bind (wpAny_setField_rec hz (by simp) fun ha za sa => ?_)
  have za : IsZip ha z TI TO .ellipsis := za
  refine wpAny_bind ?_
  simp only [List.zipIdx_cons, List.zipIdx_nil, List.forIn_cons, List.forIn_nil]
  -- the first
  refine wpAny_bind (wpAny_bind (wpAny_onRaise ?_))
  show wpAny _ _ (Builtin.SmallTypes.nextOf (.ref i1) >>= _) _ _ { s with heap := ha }
  refine wpAny_bind (drawG (g1.to fun o e => sa.extBut _ _ D.i1z e) (q1.to fun o e => sa.extBut _ _ D.l1z e) hx fun hb gb sb => wpAny_pure ?_)
  have Tb : IsPair hb TO a b := sb.extBut _ _ D.TOi1 (sa.extBut _ _ D.TOz hTO)
  refine wpAny_bind (wpAny_seqItems Tb rfl (wpAny_bind (wpAny_updateSeq_pair Tb fun hc Tc sc => ?_)))
  have Tc : IsPair hc TO x b := Tc
  refine wpAny_bind (wpAny_letGo (wpAny_pure ?_))
  -- the second
  refine wpAny_bind (wpAny_bind (wpAny_onRaise ?_))
  show wpAny _ _ (Builtin.SmallTypes.nextOf (.ref i2) >>= _) _ _ { s with heap := hc }
  refine wpAny_bind (drawG (g2.to fun o e => sc.extBut _ _ D.TOi2.symm (sb.extBut _ _ D.i12.symm (sa.extBut _ _ D.i2z e))) (q2.to fun o e => sc.extBut _ _ D.l2TO (sb.extBut _ _ D.l2i1 (sa.extBut _ _ D.l2z e))) hy fun hd gd sd => wpAny_pure ?_)
  have Td : IsPair hd TO x b := sd.extBut _ _ D.TOi2 Tc
  refine wpAny_bind (wpAny_seqItems Td rfl (wpAny_bind (wpAny_updateSeq_pair Td fun he Te se => ?_)))
  have Te : IsPair he TO x y := Te
  refine wpAny_bind (wpAny_letGo (wpAny_pure (wpAny_pure ?_)))
  refine wpAny_bind (wpAny_seqItems Te rfl (wpAny_bind (wpAny_newTuple ?_)))
  have size : he.objs.size = s.heap.objs.size := by rw [se.1, sd.1, sc.1, sb.1, sa.1]
  have ze : IsZip he z TI TO .ellipsis := se.extBut _ _ D.TOz.symm (sd.extBut _ _ D.i2z.symm (sc.extBut _ _ D.TOz.symm (sb.extBut _ _ D.i1z.symm za)))
  have ke : ∀ c o, c ≠ z → c ≠ TO → c ≠ i1 → c ≠ i2 → s.heap.get? c = some o → he.get? c = some o := fun c o c1 c2 c3 c4 e =>
    se.extBut _ _ c2 (sd.extBut _ _ c4 (sc.extBut _ _ c2 (sb.extBut _ _ c3 (sa.extBut _ _ c1 e))))
  have ge : GIter t1 he i1 l1 (k1 + 1) := gb.to fun o e => se.extBut _ _ D.TOi1.symm (sd.extBut _ _ D.i12 (sc.extBut _ _ D.TOi1.symm e))
  have gf : GIter t2 he i2 l2 (k2 + 1) := gd.to fun o e => se.extBut _ _ D.TOi2.symm e
  have zlt : z < he.objs.size := Heap.lt_size ze
  show wpAny _ _ (Builtin.SmallTypes.ownedTupleHandOut (.ref z) (.ref he.objs.size) >>= _) _ _ _
  unfold Builtin.SmallTypes.ownedTupleHandOut
  have zp : IsZip (he.push { cls := .type "tuple", data := .seq #[x, y] }) z TI TO .ellipsis := Heap.get?_push_of_some _ ze
  refine wpAny_bind (wpAny_bind (wpAny_setField_rec zp (by simp) fun hf zf sf => ?_))
  have zf : IsZip hf z TI TO (rawInt he.objs.size) := zf
  refine wpAny_setField_rec zf (by simp) fun hg zg sg => ?_
  have zg : IsZip hg z TI TO (rawInt he.objs.size) := zg
  have up : ∀ c o, c ≠ z → he.get? c = some o → hg.get? c = some o := fun c o c1 e => sg.extBut _ _ c1 (sf.extBut _ _ c1 (Heap.get?_push_of_some _ e))
  have Tg : IsPair hg he.objs.size x y := sg.extBut _ _ (Nat.ne_of_gt zlt) (sf.extBut _ _ (Nat.ne_of_gt zlt) (Heap.get?_push_size _ rfl))
  rw [size] at zg Tg
  refine wpAny_pure ⟨_, rfl, ?_⟩
  show Q (.ref he.objs.size) _
  rw [size]
  exact hQ hg zg (up _ _ D.TOz Te) (ge.to fun o e => up _ o D.i1z e) (gf.to fun o e => up _ o D.i2z e) Tg fun c o c1 c2 c3 c4 e => up c o c1 (ke c o c1 c2 c3 c4 e)
theorem zip2_dry {t1 t2 : Bool} {z TI TO i1 i2 l1 l2 : Addr} {k1 k2 : Nat} {xs ys : Array Value} {a b : Value} {Q : Fin → Shared → Prop} (hh : A.handled = none) (D : ZipApart z TI TO i1 i2 l1 l2)
    (hz : IsZip s.heap z TI TO .none) (hTI : IsPair s.heap TI (.ref i1) (.ref i2)) (hTO : IsPair s.heap TO a b)
    (g1 : GIter t1 s.heap i1 l1 k1) (g2 : GIter t2 s.heap i2 l2 k2) (q1 : GSeq t1 s.heap l1 xs) (q2 : GSeq t2 s.heap l2 ys) (hend : xs[k1]? = none ∨ ys[k2]? = none)
    (hE : ∀ h' e, (∀ c o, c ≠ z → c ≠ TO → c ≠ i1 → c ≠ i2 → s.heap.get? c = some o → h'.get? c = some o) → (∃ o, h'.get? e = some o ∧ o.cls = .type "StopIteration") → E (.ref e) { s with heap := h' }) :
    wpAny (model prog w) A (Builtin.«zip.__next__» ⟨[.ref z], []⟩) Q E s := by
  show wpAny _ _ (field (.ref z) 2 >>= _) _ _ s
  refine wpAny_bind (wpAny_field hz rfl (x := .bool false) rfl ?_)
  show wpAny _ _ (field (.ref z) 3 >>= _) _ _ s
  refine wpAny_bind (wpAny_field hz rfl (x := .ref TI) rfl (wpAny_bind (wpAny_seqItems hTI rfl ?_)))
  show wpAny _ _ (Builtin.SmallTypes.ownedTupleIsFree (.ref z) >>= _) _ _ s
  unfold Builtin.SmallTypes.ownedTupleIsFree
  refine wpAny_bind (wpAny_bind (wpAny_field hz rfl (x := .none) rfl (wpAny_pure ?_)))
  simp only [if_true]
  refine wpAny_bind (wpAny_rule (wpAny_bind (wpAny_field hz rfl (x := .ref TO) rfl ?_)))
  refine wpAny_bind (wpAny_setField_rec hz (by simp) fun ha za sa => ?_)
  have za : IsZip ha z TI TO .ellipsis := za
  refine wpAny_bind ?_
  simp only [List.zipIdx_cons, List.zipIdx_nil, List.forIn_cons, List.forIn_nil]
  refine wpAny_bind (wpAny_bind (wpAny_onRaise ?_))
  show wpAny _ _ (Builtin.SmallTypes.nextOf (.ref i1) >>= _) _ _ { s with heap := ha }
  have g1' : GIter t1 ha i1 l1 k1 := g1.to fun o e => sa.extBut _ _ D.i1z e
  have q1' : GSeq t1 ha l1 xs := q1.to fun o e => sa.extBut _ _ D.l1z e
  cases hx : xs[k1]? with
  | none =>
    refine wpAny_bind (dryG hh g1' q1' hx fun hb e sb he => ?_)
    obtain ⟨oe, hoe, hce⟩ := he
    have zb : IsZip hb z TI TO .ellipsis := sb _ _ D.i1z.symm za
    have ez : e ≠ z := fun x => by subst x; rw [zb] at hoe; cases hoe; simp at hce
    refine wpAny_setField_rec zb (by simp) fun hc _ sc => hE hc e (fun c o c1 _ c3 _ x => sc.extBut _ _ c1 (sb _ _ c3 (sa.extBut _ _ c1 x))) ⟨oe, sc.extBut _ _ ez hoe, hce⟩
  | some x =>
    have hy : ys[k2]? = none := by
      rcases hend with h | h
      · rw [hx] at h; cases h
      · exact h
    refine wpAny_bind (drawG g1' q1' hx fun hb gb sb => wpAny_pure ?_)
    have Tb : IsPair hb TO a b := sb.extBut _ _ D.TOi1 (sa.extBut _ _ D.TOz hTO)
    refine wpAny_bind (wpAny_seqItems Tb rfl (wpAny_bind (wpAny_updateSeq_pair Tb fun hc Tc sc => ?_)))
    refine wpAny_bind (wpAny_letGo (wpAny_pure (wpAny_bind (wpAny_bind (wpAny_onRaise ?_)))))
    show wpAny _ _ (Builtin.SmallTypes.nextOf (.ref i2) >>= _) _ _ { s with heap := hc }
    refine wpAny_bind (dryG hh (g2.to fun o e => sc.extBut _ _ D.TOi2.symm (sb.extBut _ _ D.i12.symm (sa.extBut _ _ D.i2z e))) (q2.to fun o e => sc.extBut _ _ D.l2TO (sb.extBut _ _ D.l2i1 (sa.extBut _ _ D.l2z e))) hy fun hd e sd he => ?_)
    obtain ⟨oe, hoe, hce⟩ := he
    have zd : IsZip hd z TI TO .ellipsis := sd _ _ D.i2z.symm (sc.extBut _ _ D.TOz.symm (sb.extBut _ _ D.i1z.symm za))
    have ez : e ≠ z := fun x => by subst x; rw [zd] at hoe; cases hoe; simp at hce
    refine wpAny_setField_rec zd (by simp) fun hf _ sf => hE hf e (fun c o c1 c2 c3 c4 x => sf.extBut _ _ c1 (sd _ _ c4 (sc.extBut _ _ c2 (sb.extBut _ _ c3 (sa.extBut _ _ c1 x))))) ⟨oe, sf.extBut _ _ ez hoe, hce⟩
end
end CWX

set_option Elab.async false
set_option linter.all false
set_option maxRecDepth 100000
set_option maxHeartbeats 2000000
/-! zip of two sequences: its making, its turns, the rule. -/
namespace CWX
open PySem PySem.Spec PyProof.Rows L2
/-! ### zip(list, tuple): its making -/
def itObL (l : Addr) : Obj := { cls := .type "list_iterator", data := .fields #[.ref l, .int 0 0] }
def itObT (l : Addr) : Obj := { cls := .type "tuple_iterator", data := .fields #[.ref l, .int 0 0] }
abbrev mixA (h : Heap) (l : Addr) : Heap := h.push { cls := .type "list_iterator", data := .fields #[.ref l, .int 0 0] }
abbrev mixB (h : Heap) (l m : Addr) : Heap := (mixA h l).push { cls := .type "tuple_iterator", data := .fields #[.ref m, .int 0 0] }
abbrev mixC (h : Heap) (l m : Addr) : Heap := (mixB h l m).push { cls := .type "tuple", data := .seq #[.ref h.objs.size, .ref (mixA h l).objs.size] }
abbrev mixD (h : Heap) (l m : Addr) : Heap := (mixC h l m).push { cls := .type "tuple", data := .seq #[.none, .none] }
abbrev mixE (h : Heap) (l m : Addr) : Heap := (mixD h l m).push { cls := .type "zip", data := .fields #[.none, .bool false, .bool false, .ref (mixB h l m).objs.size, .ref (mixC h l m).objs.size] }
theorem meets_mix (l m : Addr) (xs ys : Array Value) : Meets (Builtin.«zip.__new__» ⟨[.type "zip", .ref l, .ref m], []⟩)
    (fun _ R s => s.heap.IsList l xs ∧ s.heap.IsTuple m ys ∧ R (.ok (.ret (.ref (mixD s.heap l m).objs.size))) { s with heap := mixE s.heap l m }) :=
  .of_wp fun prog w A R s h => by
    obtain ⟨hp, g, d, tk, os⟩ := s
    obtain ⟨a1, a2, h⟩ := h
    have hsub := sub_zip
    have b1 : Heap.IsList (Shared.heap ⟨hp, g, d, tk, os⟩) l xs := a1
    have b2 : Heap.IsTuple (Shared.heap ⟨hp.push { cls := .type "list_iterator", data := .fields #[.ref l, .int 0 0] }, g, d, tk, os⟩) m ys := Heap.IsTuple.push a2 _
    wp_walk using wpAny_pyIter_list b1, wpAny_pyIter_tuple b2
    exact ⟨_, rfl, h⟩
/-- which kinds may be zipped: not a tuple with a list behind it -/
def kinds (t1 t2 : Bool) : Bool := !t1 || t2
section
variable {prog : Program} {w : World} {A : Around} {E : Value → Shared → Prop} {s : Shared}
theorem call_mix {l m : Addr} {xs ys : Array Value} {Q : Value → Shared → Prop} (a1 : s.heap.IsList l xs) (a2 : s.heap.IsTuple m ys)
    (h : ∀ h', IsZip h' (s.heap.objs.size + 4) (s.heap.objs.size + 2) (s.heap.objs.size + 3) .none → IsPair h' (s.heap.objs.size + 2) (.ref s.heap.objs.size) (.ref (s.heap.objs.size + 1)) →
      IsPair h' (s.heap.objs.size + 3) .none .none → h'.IsListIter s.heap.objs.size l 0 → h'.IsTupleIter (s.heap.objs.size + 1) m 0 →
      (∀ c o, s.heap.get? c = some o → h'.get? c = some o) → Q (.ref (s.heap.objs.size + 4)) { s with heap := h' }) :
    wpAny (model prog w) A (call (.type "zip") [.ref l, .ref m]) Q E s := by
  refine callType_new F.called_zip (by decide) (F.typeCall_zip_2 _ _) (F.newCall_zip_2 _ _) (fun obj => F.args_object_init_3 obj _ _) F.entry_zip_new (meets_mix l m xs ys) ⟨a1, a2, ?_⟩
  have nA : (mixA s.heap l).objs.size = s.heap.objs.size + 1 := Heap.size_push ..
  have nB : (mixB s.heap l m).objs.size = s.heap.objs.size + 2 := by rw [Heap.size_push, nA]
  have nC : (mixC s.heap l m).objs.size = s.heap.objs.size + 3 := by rw [Heap.size_push, nB]
  have nD : (mixD s.heap l m).objs.size = s.heap.objs.size + 4 := by rw [Heap.size_push, nC]
  have old : ∀ (g : Heap) (o : Obj) (c : Addr) (u : Obj), g.get? c = some u → (g.push o).get? c = some u := fun g o c u e => Heap.get?_push_of_some _ e
  have eE : (mixE s.heap l m).get? (mixD s.heap l m).objs.size = some _ := Heap.get?_push_size _ rfl
  have eD : (mixE s.heap l m).get? (mixC s.heap l m).objs.size = some _ := old _ _ _ _ (Heap.get?_push_size _ rfl)
  have eC : (mixE s.heap l m).get? (mixB s.heap l m).objs.size = some _ := old _ _ _ _ (old _ _ _ _ (Heap.get?_push_size _ rfl))
  have eB : (mixE s.heap l m).get? (mixA s.heap l).objs.size = some _ := old _ _ _ _ (old _ _ _ _ (old _ _ _ _ (Heap.get?_push_size _ rfl)))
  have eA : (mixE s.heap l m).get? s.heap.objs.size = some _ := old _ _ _ _ (old _ _ _ _ (old _ _ _ _ (old _ _ _ _ (Heap.get?_push_size _ rfl))))
  rw [nB, nC, nD] at eE
  rw [nC] at eD
  rw [nB, nA] at eC
  rw [nA] at eB
  show _ ∧ _
  rw [nD]
  exact ⟨⟨_, eE, rfl⟩, h _ eE eC eD ⟨_, eA, rfl, rfl⟩ ⟨_, eB, rfl, rfl⟩ fun c o x => old _ _ _ _ (old _ _ _ _ (old _ _ _ _ (old _ _ _ _ (old _ _ _ _ x))))⟩
theorem call_zipG {t1 t2 : Bool} {l m : Addr} {xs ys : Array Value} {Q : Value → Shared → Prop} (kd : kinds t1 t2 = true) (a1 : GSeq t1 s.heap l xs) (a2 : GSeq t2 s.heap m ys)
    (h : ∀ h', IsZip h' (s.heap.objs.size + 4) (s.heap.objs.size + 2) (s.heap.objs.size + 3) .none → IsPair h' (s.heap.objs.size + 2) (.ref s.heap.objs.size) (.ref (s.heap.objs.size + 1)) →
      IsPair h' (s.heap.objs.size + 3) .none .none → GIter t1 h' s.heap.objs.size l 0 → GIter t2 h' (s.heap.objs.size + 1) m 0 →
      (∀ c o, s.heap.get? c = some o → h'.get? c = some o) → Q (.ref (s.heap.objs.size + 4)) { s with heap := h' }) :
    wpAny (model prog w) A (call (.type "zip") [.ref l, .ref m]) Q E s := by
  cases t1 <;> cases t2
  · exact call_zip_2 a1 a2 fun h' b1 b2 b3 b4 b5 _ b6 => h h' b1 b2 b3 b4 b5 b6
  · exact call_mix a1 a2 h
  · cases kd
  · exact RZ.call_zipT a1 a2 fun h' b1 b2 b3 b4 b5 _ b6 => h h' b1 b2 b3 b4 b5 b6
theorem next_zipG {t1 t2 : Bool} {z TI TO i1 i2 l1 l2 : Addr} {k1 k2 : Nat} {xs ys : Array Value} {x y a b : Value} {Q : Option Value → Shared → Prop} (D : ZipApart z TI TO i1 i2 l1 l2)
    (hz : IsZip s.heap z TI TO .none) (hTI : IsPair s.heap TI (.ref i1) (.ref i2)) (hTO : IsPair s.heap TO a b)
    (g1 : GIter t1 s.heap i1 l1 k1) (g2 : GIter t2 s.heap i2 l2 k2) (q1 : GSeq t1 s.heap l1 xs) (q2 : GSeq t2 s.heap l2 ys) (hx : xs[k1]? = some x) (hy : ys[k2]? = some y)
    (hQ : ∀ h', IsZip h' z TI TO (rawInt s.heap.objs.size) → IsPair h' TO x y → GIter t1 h' i1 l1 (k1 + 1) → GIter t2 h' i2 l2 (k2 + 1) → IsPair h' s.heap.objs.size x y →
      (∀ c o, c ≠ z → c ≠ TO → c ≠ i1 → c ≠ i2 → s.heap.get? c = some o → h'.get? c = some o) → Q (some (.ref s.heap.objs.size)) { s with heap := h' }) :
    wpAny (model prog w) A (pyNext (.ref z)) Q E s := by
  have ty : s.TypeIs (.ref z) "zip" := ⟨_, hz, rfl⟩
  unfold pyNext
  exact wpAny_bind (wpAny_attempt (wpAny_callSpecial?_slot (name := Str.ofString "__next__") ty F.slot_zip_next (wpAny_call_entry F.slot_zip_next ty F.entry_zip_next
    (zip2_pull D hz hTI hTO g1 g2 q1 q2 hx hy fun h' b1 b2 b3 b4 b5 b6 => wpAny_pure (hQ h' b1 b2 b3 b4 b5 b6)) (F.args_zip_next_1 _))))
theorem end_zipG {t1 t2 : Bool} {z TI TO i1 i2 l1 l2 : Addr} {k1 k2 : Nat} {xs ys : Array Value} {a b : Value} {Q : Option Value → Shared → Prop} (hh : A.handled = none) (D : ZipApart z TI TO i1 i2 l1 l2)
    (hz : IsZip s.heap z TI TO .none) (hTI : IsPair s.heap TI (.ref i1) (.ref i2)) (hTO : IsPair s.heap TO a b)
    (g1 : GIter t1 s.heap i1 l1 k1) (g2 : GIter t2 s.heap i2 l2 k2) (q1 : GSeq t1 s.heap l1 xs) (q2 : GSeq t2 s.heap l2 ys) (hend : xs[k1]? = none ∨ ys[k2]? = none)
    (hQ : ∀ h', (∀ c o, c ≠ z → c ≠ TO → c ≠ i1 → c ≠ i2 → s.heap.get? c = some o → h'.get? c = some o) → Q none { s with heap := h' }) : wpAny (model prog w) A (pyNext (.ref z)) Q E s := by
  have ty : s.TypeIs (.ref z) "zip" := ⟨_, hz, rfl⟩
  unfold pyNext
  refine wpAny_bind (wpAny_attempt (wpAny_callSpecial?_slot (name := Str.ofString "__next__") ty F.slot_zip_next (wpAny_call_entry F.slot_zip_next ty F.entry_zip_next
    (zip2_dry hh D hz hTI hTO g1 g2 q1 q2 hend fun h' e hk he => ?_) (F.args_zip_next_1 _))))
  obtain ⟨o, ho, hc⟩ := he
  exact wpAny_bind (wpAny_isInstance (T := "StopIteration") (b := true) ⟨o, ho, hc⟩ isSubtype_stop (wpAny_pure (hQ _ hk)))
end
/-- the sequences at a and b as they stand at each turn, their items in new pairs -/
def ItG (t1 t2 : Bool) (K : PySem.W.Frag) (a b : Addr) : It :=
  ⟨fun i H => ∃ (xs ys : List V) (x y : V), SqG t1 K H a xs ∧ SqG t2 K H b ys ∧ xs[i]? = some x ∧ ys[i]? = some y,
    fun i H v H' => ∃ T x y, v = .ref T ∧ H T = none ∧ H' = upd H T (.tup [x, y]) ∧ (∀ xs, SqG t1 K H a xs → xs[i]? = some x) ∧ ∀ ys, SqG t2 K H b ys → ys[i]? = some y,
    fun i H => ∃ xs ys : List V, SqG t1 K H a xs ∧ SqG t2 K H b ys ∧ (xs.length ≤ i ∨ ys.length ≤ i)⟩
theorem mem5 {c z TI TO i1 i2 : Addr} (h : c ∈ [z, TI, TO, i1, i2]) : c = z ∨ c = TI ∨ c = TO ∨ c = i1 ∨ c = i2 := by simpa using h
theorem out5 {c z TI TO i1 i2 : Addr} (h : c ∉ [z, TI, TO, i1, i2]) : c ≠ z ∧ c ≠ TI ∧ c ≠ TO ∧ c ≠ i1 ∧ c ≠ i2 := by simpa using h
theorem turnG {P : Program} {w : World} {K : PySem.W.Frag} {elts : List Expr} {kk : Nat} {tpos : Pos} {t1 t2 : Bool} {a b z TI TO i1 i2 : Addr} (D : ZipApart z TI TO i1 i2 a b) :
    Turn P w K (.Tuple elts kk tpos) (ItG t1 t2 K a b) [z, TI, TO, i1, i2] z (fun i h => IsZip h z TI TO .none ∧ IsPair h TI (.ref i1) (.ref i2) ∧ (∃ x y, IsPair h TO x y) ∧ GIter t1 h i1 a i ∧ GIter t2 h i2 b i) where
  mem := by simp
  obj := fun i h st c hc => by
    obtain ⟨hz, hTI, ⟨x, y, hTO⟩, g1, g2⟩ := st
    rcases mem5 hc with rfl | rfl | rfl | rfl | rfl
    · exact ⟨_, hz, fun v q => nomatch q⟩
    · exact ⟨_, hTI, fun v q => nomatch q⟩
    · exact ⟨_, hTO, fun v q => nomatch q⟩
    · exact g1.there
    · exact g2.there
  keep := fun i h h' st k => by
    obtain ⟨hz, hTI, ⟨x, y, hTO⟩, g1, g2⟩ := st
    exact ⟨k _ (by simp) _ hz, k _ (by simp) _ hTI, ⟨x, y, k _ (by simp) _ hTO⟩, g1.to (k _ (by simp)), g2.to (k _ (by simp))⟩
  item := by
    intro X hP hw hK hc i pins s σ H E I hf st hg
    subst hP hw hK
    obtain ⟨hz, hTI, ⟨x0, y0, hTO⟩, g1, g2⟩ := st
    obtain ⟨xs, ys, x, y, sx, sy, hx, hy⟩ := hg
    obtain ⟨its, rv, p, _⟩ := sqG_in I sx
    obtain ⟨its2, rv2, p2, _⟩ := sqG_in I sy
    obtain ⟨u, hu, ru⟩ := rv.get hx
    obtain ⟨u2, hu2, ru2⟩ := rv2.get hy
    have zl : z < s.heap.objs.size := Heap.lt_size hz
    refine next_zipG D hz hTI hTO g1 g2 p p2 (x := u) (y := u2) (by simpa using hu) (by simpa using hu2) fun h' z' TO' g1' g2' hT hk => ?_
    refine ⟨_, rfl, wpAny_letOwnedTupleGo_zip (s := { s with heap := h' }) z' fun h'' z'' sb => ?_⟩
    have hT2 : h''.get? s.heap.objs.size = some { cls := .type "tuple", data := .seq #[u, u2] } := (sb.2 _ (Nat.ne_of_gt zl)).trans hT
    have new : ObjOk X.prog X.w (upd H s.heap.objs.size (.tup [x, y])) h'' s.heap.objs.size (.tup [x, y]) :=
      ⟨by show 2 ≤ sizeLine; decide, [u, u2], .cons ru (.cons ru2 .nil), ⟨_, hT2, rfl, _, rfl⟩⟩
    have I1 : Inv X pins σ (upd H s.heap.objs.size (.tup [x, y])) { s with heap := h'' } :=
      I.turnedNew (t' := s.toks) (ch := [z, TI, TO, i1, i2]) (fun c o hb q => by
        obtain ⟨n1, _, n3, n4, n5⟩ := out5 hb
        exact (sb.2 c n1).trans (hk c o n1 n3 n4 n5 q)) hf (Nat.le_refl _) new
    refine ⟨.ref s.heap.objs.size, _, I1, rfl, ⟨_, x, y, rfl, I.hok.fresh (Nat.le_refl _), rfl, fun l hl => by rw [sqG_inj I hl sx]; exact hx, fun l hl => by rw [sqG_inj I hl sy]; exact hy⟩,
      ⟨z'', (sb.2 _ D.TIz).trans (hk _ _ D.TIz D.TITO D.TIi1 D.TIi2 hTI), ⟨u, u2, (sb.2 _ D.TOz).trans TO'⟩, g1'.to fun o q => (sb.2 _ D.i1z).trans q, g2'.to fun o q => (sb.2 _ D.i2z).trans q⟩, fun c hcm => ?_⟩
    have lt : c < s.heap.objs.size := by
      rcases mem5 hcm with q | q | q | q | q
      · rw [q]; exact zl
      · rw [q]; exact Heap.lt_size hTI
      · rw [q]; exact Heap.lt_size hTO
      · rw [q]; exact g1.lt
      · rw [q]; exact g2.lt
    rw [upd_ne (Nat.ne_of_lt lt)]
    exact (hf c hcm).1
  done := by
    intro X hP hw hK hc i pins s σ H E I hf st hg
    subst hP hw hK
    obtain ⟨hz, hTI, ⟨x0, y0, hTO⟩, g1, g2⟩ := st
    obtain ⟨xs, ys, sx, sy, hend⟩ := hg
    obtain ⟨its, rv, p, _⟩ := sqG_in I sx
    obtain ⟨its2, rv2, p2, _⟩ := sqG_in I sy
    have n1 := rv.length
    have n2 := rv2.length
    have he : its.toArray[i]? = none ∨ its2.toArray[i]? = none := by
      rcases hend with q | q
      · exact .inl (by simp; omega)
      · exact .inr (by simp; omega)
    exact end_zipG (I.ok.hd hc) D hz hTI hTO g1 g2 p p2 he fun h' hk => ⟨rfl, I.turnedL (t' := s.toks) (ch := [z, TI, TO, i1, i2]) (fun c o hb q => by
      obtain ⟨n1, _, n3, n4, n5⟩ := out5 hb
      exact hk c o n1 n3 n4 n5 q) hf⟩
  self := fun A i s Q E st h => wpAny_pyIter_zip st.1 h
def iZipG (K : PySem.W.Frag) (ta : TA) : TI := fun σ H R => ta σ H fun vs H1 => ∃ a b t1 t2 xs ys, vs = [.ref a, .ref b] ∧ kinds t1 t2 = true ∧ SqG t1 K H1 a xs ∧ SqG t2 K H1 b ys ∧ R (ItG t1 t2 K a b) H1
theorem pi_zipG {X : Cx} {e e2 : Expr} {ta : TA} {p pos tpos : Pos} {elts : List Expr} {kk : Nat} (hg : Gl X "zip") (hm : X.mg "zip" = none) (ha : PA X [e, e2] ta)
    (hs : starEach [e, e2] X.env = (false, eval e X.env) :: starEach [e2] X.env := by rfl) (hpl : (backTo pos (starEach [e2] X.env)).any (·.1) = false := by rfl) :
    PI X (.Tuple elts kk tpos) (.Call (.Name "zip" p) [e, e2] [] pos) (iZipG X.K ta) := by
  refine ⟨fun pins s σ H R I h => ?_⟩
  refine Call_ (ld_blt I hg hm PyProof.Rows.boot_zip (PyProof.Rows.callWith_type1 (thn (ha.run pos pins s σ H _ I h) fun us s1 ⟨vs, H1, I1, r1, q1⟩ => ?_) hs hpl))
  obtain ⟨a, b, t1, t2, xs, ys, rfl, kd, sx, sy, q⟩ := q1
  cases r1 with
  | cons r rr =>
    cases rr with
    | cons r' rr =>
      cases rr
      cases r
      cases r'
      obtain ⟨its, rv, p1, _⟩ := sqG_in I1 sx
      obtain ⟨its2, rv2, p2, _⟩ := sqG_in I1 sy
      refine call_zipG kd p1 p2 fun h' hz hTI hTO g1 g2 hk => wpAny_pyIter_zip hz ?_
      have I2 : Inv X pins σ H1 { s1 with heap := h' } := I1.kept (t' := s1.toks) hk
      refine ⟨s1.heap.objs.size + 4, [s1.heap.objs.size + 4, s1.heap.objs.size + 2, s1.heap.objs.size + 3, s1.heap.objs.size, s1.heap.objs.size + 1], _, _, H1, rfl, I2,
        turnG (PySem.W.ktu_apart s1.heap.objs.size a b p1.lt p2.lt), ⟨hz, hTI, ⟨_, _, hTO⟩, g1, g2⟩, fun c hcm => ?_, q⟩
      have hle : s1.heap.objs.size ≤ c := by
        rcases mem5 hcm with v | v | v | v | v <;> rw [v]
        · exact Nat.le_add_right _ _
        · exact Nat.le_add_right _ _
        · exact Nat.le_add_right _ _
        · exact Nat.le_refl _
        · exact Nat.le_add_right _ _
      exact I1.fpOk hle (I1.hok.fresh hle)
theorem walk_zipG {K : PySem.W.Frag} {a b : Addr} {xs ys : List V} {t1 t2 : Bool} {n : Nat} (hn : n = min xs.length ys.length) : Walk (ItG t1 t2 K a b) n (fun H => SqG t1 K H a xs ∧ SqG t2 K H b ys) (YPair (fun i => xs[i]?) (fun i => ys[i]?)) := by
  subst hn
  refine ⟨fun i _ hi q => ?_, fun _ q => ⟨xs, ys, q.1, q.2, by omega⟩, fun i H v H' _ q y => ?_⟩
  · have h1 : i < xs.length := by omega
    have h2 : i < ys.length := by omega
    exact ⟨xs, ys, xs[i], ys[i], q.1, q.2, by simp [h1], by simp [h2]⟩
  · obtain ⟨T, x, z, h1, h2, h3, h4, h5⟩ := y
    exact ⟨T, x, z, h1, h2, h3, h4 xs q.1, h5 ys q.2⟩
end CWX

set_option Elab.async false
set_option linter.all false
set_option maxRecDepth 100000
set_option maxHeartbeats 2000000
/-! zip of three lists. -/
namespace CWX
open PySem PySem.Spec PyProof.Rows L2
abbrev IsTrip (h : Heap) (T : Addr) (a b c : Value) : Prop := h.get? T = some { cls := .type "tuple", data := .seq #[a, b, c] }
/-- z: the zip; TI, TO: its tuples; i: the iterators; l: the lists -/
structure Apart3 (z TI TO i1 i2 i3 l1 l2 l3 : Addr) : Prop where
  TIz : TI ≠ z
  TOz : TO ≠ z
  a1z : i1 ≠ z
  a2z : i2 ≠ z
  a3z : i3 ≠ z
  TITO : TI ≠ TO
  TI1 : TI ≠ i1
  TI2 : TI ≠ i2
  TI3 : TI ≠ i3
  TO1 : TO ≠ i1
  TO2 : TO ≠ i2
  TO3 : TO ≠ i3
  a12 : i1 ≠ i2
  a13 : i1 ≠ i3
  a23 : i2 ≠ i3
  l1z : l1 ≠ z
  l2z : l2 ≠ z
  l2TO : l2 ≠ TO
  l21 : l2 ≠ i1
  l3z : l3 ≠ z
  l3TO : l3 ≠ TO
  l31 : l3 ≠ i1
  l32 : l3 ≠ i2
theorem apart3 (n l1 l2 l3 : Nat) (h1 : l1 < n) (h2 : l2 < n) (h3 : l3 < n) : Apart3 (n + 5) (n + 3) (n + 4) n (n + 1) (n + 2) l1 l2 l3 := by
  constructor <;> (intro e; have e' : (_ : Nat) = _ := e; omega)
theorem typeCall3 (a b c : Value) : checkTypeCall "zip" ⟨[a, b, c], []⟩ = pure () := by kernel_rfl
theorem newCall3 (a b c : Value) : checkBuiltinCall "zip.__new__" ⟨[.type "zip", a, b, c], []⟩ = pure () := by kernel_rfl
open PySem.F in
theorem objInit4 (a b c d : Value) : argsOk "object.__init__" ⟨[a, b, c, d], []⟩ := by
  unfold argsOk; rw [signature?_of (id := "object.__init__") (n := ['_', '_', 't', 'i', 'n', 'i', '_', '_']) (o := ['t', 'c', 'e', 'j', 'b', 'o']) (by kernel_rfl) F.owner_object]; kernel_rfl
section
variable {prog : Program} {w : World} {A : Around} {E : Value → Shared → Prop} {s : Shared}
theorem put_trip {T : Addr} {a b c x : Value} {k : Nat} {Q : Unit → Shared → Prop} (hT : IsTrip s.heap T a b c)
    (h : ∀ h', h'.get? T = some { cls := .type "tuple", data := .seq ((#[a, b, c] : Array Value).setIfInBounds k x) } → Heap.SameBut T s.heap h' → Q () { s with heap := h' }) :
    wpAny (model prog w) A (updateSeq T (·.setIfInBounds k x)) Q E s := by
  refine wpAny_updateSeq hT rfl (h _ ?_ (Heap.SameBut.update ..))
  rw [Heap.get?_update_self _ hT rfl]
  simp [Obj.mapSeq]
theorem zip3_pull {z TI TO i1 i2 i3 l1 l2 l3 : Addr} {k : Nat} {xs ys us : Array Value} {x y u a b c : Value} {Q : Value → Shared → Prop} (D : Apart3 z TI TO i1 i2 i3 l1 l2 l3)
    (hz : IsZip s.heap z TI TO .none) (hTI : IsTrip s.heap TI (.ref i1) (.ref i2) (.ref i3)) (hTO : IsTrip s.heap TO a b c)
    (g1 : GIter false s.heap i1 l1 k) (g2 : GIter false s.heap i2 l2 k) (g3 : GIter false s.heap i3 l3 k) (q1 : GSeq false s.heap l1 xs) (q2 : GSeq false s.heap l2 ys) (q3 : GSeq false s.heap l3 us)
    (hx : xs[k]? = some x) (hy : ys[k]? = some y) (hu : us[k]? = some u)
    (hQ : ∀ h', IsZip h' z TI TO (rawInt s.heap.objs.size) → IsTrip h' TO x y u → GIter false h' i1 l1 (k + 1) → GIter false h' i2 l2 (k + 1) → GIter false h' i3 l3 (k + 1) → IsTrip h' s.heap.objs.size x y u →
      (∀ d o, d ≠ z → d ≠ TO → d ≠ i1 → d ≠ i2 → d ≠ i3 → s.heap.get? d = some o → h'.get? d = some o) → Q (.ref s.heap.objs.size) { s with heap := h' }) :
    wpAny (model prog w) A (Builtin.«zip.__next__» ⟨[.ref z], []⟩) (fun fin s' => ∃ v, fin = .done (.ret v) ∧ Q v s') E s := by
  show wpAny _ _ (field (.ref z) 2 >>= _) _ _ s
  refine wpAny_bind (wpAny_field hz rfl (x := .bool false) rfl ?_)
  show wpAny _ _ (field (.ref z) 3 >>= _) _ _ s
  refine wpAny_bind (wpAny_field hz rfl (x := .ref TI) rfl (wpAny_bind (wpAny_seqItems hTI rfl ?_)))
  show wpAny _ _ (Builtin.SmallTypes.ownedTupleIsFree (.ref z) >>= _) _ _ s
  unfold Builtin.SmallTypes.ownedTupleIsFree
  refine wpAny_bind (wpAny_bind (wpAny_field hz rfl (x := .none) rfl (wpAny_pure ?_)))
  simp only [if_true]
  refine wpAny_bind (wpAny_rule (wpAny_bind (wpAny_field hz rfl (x := .ref TO) rfl ?_)))
  refine wpAny_bind (wpAny_setField_rec hz (by simp) fun ha za sa => ?_)
  have za : IsZip ha z TI TO .ellipsis := za
  refine wpAny_bind ?_
  simp only [List.zipIdx_cons, List.zipIdx_nil, List.forIn_cons, List.forIn_nil]
  -- the first
  refine wpAny_bind (wpAny_bind (wpAny_onRaise ?_))
  show wpAny _ _ (Builtin.SmallTypes.nextOf (.ref i1) >>= _) _ _ { s with heap := ha }
  refine wpAny_bind (drawG (g1.to fun o e => sa.extBut _ _ D.a1z e) (q1.to fun o e => sa.extBut _ _ D.l1z e) hx fun hb gb sb => wpAny_pure ?_)
  have Tb : IsTrip hb TO a b c := sb.extBut _ _ D.TO1 (sa.extBut _ _ D.TOz hTO)
  refine wpAny_bind (wpAny_seqItems Tb rfl (wpAny_bind (put_trip Tb fun hc Tc sc => ?_)))
  have Tc : IsTrip hc TO x b c := Tc
  refine wpAny_bind (wpAny_letGo (wpAny_pure ?_))
  -- the second
  refine wpAny_bind (wpAny_bind (wpAny_onRaise ?_))
  show wpAny _ _ (Builtin.SmallTypes.nextOf (.ref i2) >>= _) _ _ { s with heap := hc }
  refine wpAny_bind (drawG (g2.to fun o e => sc.extBut _ _ D.TO2.symm (sb.extBut _ _ D.a12.symm (sa.extBut _ _ D.a2z e))) (q2.to fun o e => sc.extBut _ _ D.l2TO (sb.extBut _ _ D.l21 (sa.extBut _ _ D.l2z e))) hy fun hd gd sd => wpAny_pure ?_)
  have Td : IsTrip hd TO x b c := sd.extBut _ _ D.TO2 Tc
  refine wpAny_bind (wpAny_seqItems Td rfl (wpAny_bind (put_trip Td fun he Te se => ?_)))
  have Te : IsTrip he TO x y c := Te
  refine wpAny_bind (wpAny_letGo (wpAny_pure ?_))
  -- the third
  refine wpAny_bind (wpAny_bind (wpAny_onRaise ?_))
  show wpAny _ _ (Builtin.SmallTypes.nextOf (.ref i3) >>= _) _ _ { s with heap := he }
  refine wpAny_bind (drawG (g3.to fun o e => se.extBut _ _ D.TO3.symm (sd.extBut _ _ D.a23.symm (sc.extBut _ _ D.TO3.symm (sb.extBut _ _ D.a13.symm (sa.extBut _ _ D.a3z e)))))
    (q3.to fun o e => se.extBut _ _ D.l3TO (sd.extBut _ _ D.l32 (sc.extBut _ _ D.l3TO (sb.extBut _ _ D.l31 (sa.extBut _ _ D.l3z e))))) hu fun hm gm sm => wpAny_pure ?_)
  have Tm : IsTrip hm TO x y c := sm.extBut _ _ D.TO3 Te
  refine wpAny_bind (wpAny_seqItems Tm rfl (wpAny_bind (put_trip Tm fun hn Tn sn => ?_)))
  have Tn : IsTrip hn TO x y u := Tn
  refine wpAny_bind (wpAny_letGo (wpAny_pure (wpAny_pure ?_)))
  refine wpAny_bind (wpAny_seqItems Tn rfl (wpAny_bind (wpAny_newTuple ?_)))
  have size : hn.objs.size = s.heap.objs.size := by rw [sn.1, sm.1, se.1, sd.1, sc.1, sb.1, sa.1]
  have zn : IsZip hn z TI TO .ellipsis := sn.extBut _ _ D.TOz.symm (sm.extBut _ _ D.a3z.symm (se.extBut _ _ D.TOz.symm (sd.extBut _ _ D.a2z.symm (sc.extBut _ _ D.TOz.symm (sb.extBut _ _ D.a1z.symm za)))))
  have kn : ∀ d o, d ≠ z → d ≠ TO → d ≠ i1 → d ≠ i2 → d ≠ i3 → s.heap.get? d = some o → hn.get? d = some o := fun d o d1 d2 d3 d4 d5 e =>
    sn.extBut _ _ d2 (sm.extBut _ _ d5 (se.extBut _ _ d2 (sd.extBut _ _ d4 (sc.extBut _ _ d2 (sb.extBut _ _ d3 (sa.extBut _ _ d1 e))))))
  have e1 : GIter false hn i1 l1 (k + 1) := gb.to fun o e => sn.extBut _ _ D.TO1.symm (sm.extBut _ _ D.a13 (se.extBut _ _ D.TO1.symm (sd.extBut _ _ D.a12 (sc.extBut _ _ D.TO1.symm e))))
  have e2 : GIter false hn i2 l2 (k + 1) := gd.to fun o e => sn.extBut _ _ D.TO2.symm (sm.extBut _ _ D.a23 (se.extBut _ _ D.TO2.symm e))
  have e3 : GIter false hn i3 l3 (k + 1) := gm.to fun o e => sn.extBut _ _ D.TO3.symm e
  have zlt : z < hn.objs.size := Heap.lt_size zn
  show wpAny _ _ (Builtin.SmallTypes.ownedTupleHandOut (.ref z) (.ref hn.objs.size) >>= _) _ _ _
  unfold Builtin.SmallTypes.ownedTupleHandOut
  have zp : IsZip (hn.push { cls := .type "tuple", data := .seq #[x, y, u] }) z TI TO .ellipsis := Heap.get?_push_of_some _ zn
  refine wpAny_bind (wpAny_bind (wpAny_setField_rec zp (by simp) fun hf zf sf => ?_))
  have zf : IsZip hf z TI TO (rawInt hn.objs.size) := zf
  refine wpAny_setField_rec zf (by simp) fun hg zg sg => ?_
  have zg : IsZip hg z TI TO (rawInt hn.objs.size) := zg
  have up : ∀ d o, d ≠ z → hn.get? d = some o → hg.get? d = some o := fun d o d1 e => sg.extBut _ _ d1 (sf.extBut _ _ d1 (Heap.get?_push_of_some _ e))
  have Tg : IsTrip hg hn.objs.size x y u := sg.extBut _ _ (Nat.ne_of_gt zlt) (sf.extBut _ _ (Nat.ne_of_gt zlt) (Heap.get?_push_size _ rfl))
  rw [size] at zg Tg
  refine wpAny_pure ⟨_, rfl, ?_⟩
  show Q (.ref hn.objs.size) _
  rw [size]
  exact hQ hg zg (up _ _ D.TOz Tn) (e1.to fun o e => up _ o D.a1z e) (e2.to fun o e => up _ o D.a2z e) (e3.to fun o e => up _ o D.a3z e) Tg fun d o d1 d2 d3 d4 d5 e => up d o d1 (kn d o d1 d2 d3 d4 d5 e)
/-- lists of one length: all end at once -/
theorem zip3_dry {z TI TO i1 i2 i3 l1 : Addr} {k : Nat} {xs : Array Value} {Q : Fin → Shared → Prop} (hh : A.handled = none) (n1 : i1 ≠ z) (n2 : l1 ≠ z)
    (hz : IsZip s.heap z TI TO .none) (hTI : IsTrip s.heap TI (.ref i1) (.ref i2) (.ref i3))
    (g1 : GIter false s.heap i1 l1 k) (q1 : GSeq false s.heap l1 xs) (hx : xs[k]? = none)
    (hE : ∀ h' e, (∀ d o, d ≠ z → d ≠ i1 → s.heap.get? d = some o → h'.get? d = some o) → (∃ o, h'.get? e = some o ∧ o.cls = .type "StopIteration") → E (.ref e) { s with heap := h' }) :
    wpAny (model prog w) A (Builtin.«zip.__next__» ⟨[.ref z], []⟩) Q E s := by
  show wpAny _ _ (field (.ref z) 2 >>= _) _ _ s
  refine wpAny_bind (wpAny_field hz rfl (x := .bool false) rfl ?_)
  show wpAny _ _ (field (.ref z) 3 >>= _) _ _ s
  refine wpAny_bind (wpAny_field hz rfl (x := .ref TI) rfl (wpAny_bind (wpAny_seqItems hTI rfl ?_)))
  show wpAny _ _ (Builtin.SmallTypes.ownedTupleIsFree (.ref z) >>= _) _ _ s
  unfold Builtin.SmallTypes.ownedTupleIsFree
  refine wpAny_bind (wpAny_bind (wpAny_field hz rfl (x := .none) rfl (wpAny_pure ?_)))
  simp only [if_true]
  refine wpAny_bind (wpAny_rule (wpAny_bind (wpAny_field hz rfl (x := .ref TO) rfl ?_)))
  refine wpAny_bind (wpAny_setField_rec hz (by simp) fun ha za sa => ?_)
  have za : IsZip ha z TI TO .ellipsis := za
  refine wpAny_bind ?_
  simp only [List.zipIdx_cons, List.zipIdx_nil, List.forIn_cons, List.forIn_nil]
  refine wpAny_bind (wpAny_bind (wpAny_onRaise ?_))
  show wpAny _ _ (Builtin.SmallTypes.nextOf (.ref i1) >>= _) _ _ { s with heap := ha }
  refine wpAny_bind (dryG hh (g1.to fun o e => sa.extBut _ _ n1 e) (q1.to fun o e => sa.extBut _ _ n2 e) hx fun hb e sb he => ?_)
  obtain ⟨oe, hoe, hce⟩ := he
  have zb : IsZip hb z TI TO .ellipsis := sb _ _ n1.symm za
  have ez : e ≠ z := fun x => by subst x; rw [zb] at hoe; cases hoe; simp at hce
  exact wpAny_setField_rec zb (by simp) fun hc _ sc => hE hc e (fun d o d1 d3 x => sc.extBut _ _ d1 (sb _ _ d3 (sa.extBut _ _ d1 x))) ⟨oe, sc.extBut _ _ ez hoe, hce⟩
end
/-! ### its making -/
abbrev triA (h : Heap) (l : Addr) : Heap := h.push { cls := .type "list_iterator", data := .fields #[.ref l, .int 0 0] }
abbrev triD (h : Heap) (l m n : Addr) : Heap := (triA (triA (triA h l) m) n).push { cls := .type "tuple", data := .seq #[.ref h.objs.size, .ref (triA h l).objs.size, .ref (triA (triA h l) m).objs.size] }
abbrev triE (h : Heap) (l m n : Addr) : Heap := (triD h l m n).push { cls := .type "tuple", data := .seq #[.none, .none, .none] }
abbrev triF (h : Heap) (l m n : Addr) : Heap := (triE h l m n).push { cls := .type "zip", data := .fields #[.none, .bool false, .bool false, .ref (triA (triA (triA h l) m) n).objs.size, .ref (triD h l m n).objs.size] }
theorem meets_tri (l m n : Addr) (xs ys us : Array Value) : Meets (Builtin.«zip.__new__» ⟨[.type "zip", .ref l, .ref m, .ref n], []⟩)
    (fun _ R s => s.heap.IsList l xs ∧ s.heap.IsList m ys ∧ s.heap.IsList n us ∧ R (.ok (.ret (.ref (triE s.heap l m n).objs.size))) { s with heap := triF s.heap l m n }) :=
  .of_wp fun prog w A R s h => by
    obtain ⟨hp, g, d, tk, os⟩ := s
    obtain ⟨a1, a2, a3, h⟩ := h
    have hsub := sub_zip
    have b1 : Heap.IsList (Shared.heap ⟨hp, g, d, tk, os⟩) l xs := a1
    have b2 : Heap.IsList (Shared.heap ⟨hp.push { cls := .type "list_iterator", data := .fields #[.ref l, .int 0 0] }, g, d, tk, os⟩) m ys := Heap.IsList.push a2 _
    have b3 : Heap.IsList (Shared.heap ⟨(hp.push { cls := .type "list_iterator", data := .fields #[.ref l, .int 0 0] }).push { cls := .type "list_iterator", data := .fields #[.ref m, .int 0 0] }, g, d, tk, os⟩) n us := Heap.IsList.push (Heap.IsList.push a3 _) _
    wp_walk using wpAny_pyIter_list b1, wpAny_pyIter_list b2, wpAny_pyIter_list b3
    exact ⟨_, rfl, h⟩
end CWX

set_option Elab.async false
set_option linter.all false
set_option maxRecDepth 100000
set_option maxHeartbeats 2000000
/-! zip of three lists: the rule. -/
namespace CWX
open PySem PySem.Spec PyProof.Rows L2
section
variable {prog : Program} {w : World} {A : Around} {E : Value → Shared → Prop} {s : Shared}
theorem call_zip3 {l m n : Addr} {xs ys us : Array Value} {Q : Value → Shared → Prop} (a1 : s.heap.IsList l xs) (a2 : s.heap.IsList m ys) (a3 : s.heap.IsList n us)
    (h : ∀ h', IsZip h' (s.heap.objs.size + 5) (s.heap.objs.size + 3) (s.heap.objs.size + 4) .none → IsTrip h' (s.heap.objs.size + 3) (.ref s.heap.objs.size) (.ref (s.heap.objs.size + 1)) (.ref (s.heap.objs.size + 2)) →
      IsTrip h' (s.heap.objs.size + 4) .none .none .none → GIter false h' s.heap.objs.size l 0 → GIter false h' (s.heap.objs.size + 1) m 0 → GIter false h' (s.heap.objs.size + 2) n 0 →
      (∀ c o, s.heap.get? c = some o → h'.get? c = some o) → Q (.ref (s.heap.objs.size + 5)) { s with heap := h' }) :
    wpAny (model prog w) A (call (.type "zip") [.ref l, .ref m, .ref n]) Q E s := by
  refine callType_new F.called_zip (by decide) (typeCall3 _ _ _) (newCall3 _ _ _) (fun obj => objInit4 obj _ _ _) F.entry_zip_new (meets_tri l m n xs ys us) ⟨a1, a2, a3, ?_⟩
  have nA : (triA s.heap l).objs.size = s.heap.objs.size + 1 := Heap.size_push ..
  have nB : (triA (triA s.heap l) m).objs.size = s.heap.objs.size + 2 := by rw [Heap.size_push, nA]
  have nC : (triA (triA (triA s.heap l) m) n).objs.size = s.heap.objs.size + 3 := by rw [Heap.size_push, nB]
  have nD : (triD s.heap l m n).objs.size = s.heap.objs.size + 4 := by rw [Heap.size_push, nC]
  have nE : (triE s.heap l m n).objs.size = s.heap.objs.size + 5 := by rw [Heap.size_push, nD]
  have old : ∀ (g : Heap) (o : Obj) (c : Addr) (u : Obj), g.get? c = some u → (g.push o).get? c = some u := fun g o c u e => Heap.get?_push_of_some _ e
  have eF : (triF s.heap l m n).get? (triE s.heap l m n).objs.size = some _ := Heap.get?_push_size _ rfl
  have eE : (triF s.heap l m n).get? (triD s.heap l m n).objs.size = some _ := old _ _ _ _ (Heap.get?_push_size _ rfl)
  have eD : (triF s.heap l m n).get? (triA (triA (triA s.heap l) m) n).objs.size = some _ := old _ _ _ _ (old _ _ _ _ (Heap.get?_push_size _ rfl))
  have eC : (triF s.heap l m n).get? (triA (triA s.heap l) m).objs.size = some _ := old _ _ _ _ (old _ _ _ _ (old _ _ _ _ (Heap.get?_push_size _ rfl)))
  have eB : (triF s.heap l m n).get? (triA s.heap l).objs.size = some _ := old _ _ _ _ (old _ _ _ _ (old _ _ _ _ (old _ _ _ _ (Heap.get?_push_size _ rfl))))
  have eA : (triF s.heap l m n).get? s.heap.objs.size = some _ := old _ _ _ _ (old _ _ _ _ (old _ _ _ _ (old _ _ _ _ (old _ _ _ _ (Heap.get?_push_size _ rfl)))))
  rw [nC, nD, nE] at eF
  rw [nD] at eE
  rw [nC, nB, nA] at eD
  rw [nB] at eC
  rw [nA] at eB
  show _ ∧ _
  rw [nE]
  exact ⟨⟨_, eF, rfl⟩, h _ eF eD eE ⟨_, eA, rfl, rfl⟩ ⟨_, eB, rfl, rfl⟩ ⟨_, eC, rfl, rfl⟩ fun c o x => old _ _ _ _ (old _ _ _ _ (old _ _ _ _ (old _ _ _ _ (old _ _ _ _ (old _ _ _ _ x)))))⟩
theorem next_zip3 {z TI TO i1 i2 i3 l1 l2 l3 : Addr} {k : Nat} {xs ys us : Array Value} {x y u a b c : Value} {Q : Option Value → Shared → Prop} (D : Apart3 z TI TO i1 i2 i3 l1 l2 l3)
    (hz : IsZip s.heap z TI TO .none) (hTI : IsTrip s.heap TI (.ref i1) (.ref i2) (.ref i3)) (hTO : IsTrip s.heap TO a b c)
    (g1 : GIter false s.heap i1 l1 k) (g2 : GIter false s.heap i2 l2 k) (g3 : GIter false s.heap i3 l3 k) (q1 : GSeq false s.heap l1 xs) (q2 : GSeq false s.heap l2 ys) (q3 : GSeq false s.heap l3 us)
    (hx : xs[k]? = some x) (hy : ys[k]? = some y) (hu : us[k]? = some u)
    (hQ : ∀ h', IsZip h' z TI TO (rawInt s.heap.objs.size) → IsTrip h' TO x y u → GIter false h' i1 l1 (k + 1) → GIter false h' i2 l2 (k + 1) → GIter false h' i3 l3 (k + 1) → IsTrip h' s.heap.objs.size x y u →
      (∀ d o, d ≠ z → d ≠ TO → d ≠ i1 → d ≠ i2 → d ≠ i3 → s.heap.get? d = some o → h'.get? d = some o) → Q (some (.ref s.heap.objs.size)) { s with heap := h' }) :
    wpAny (model prog w) A (pyNext (.ref z)) Q E s := by
  have ty : s.TypeIs (.ref z) "zip" := ⟨_, hz, rfl⟩
  unfold pyNext
  exact wpAny_bind (wpAny_attempt (wpAny_callSpecial?_slot (name := Str.ofString "__next__") ty F.slot_zip_next (wpAny_call_entry F.slot_zip_next ty F.entry_zip_next
    (zip3_pull D hz hTI hTO g1 g2 g3 q1 q2 q3 hx hy hu fun h' b1 b2 b3 b4 b5 b6 b7 => wpAny_pure (hQ h' b1 b2 b3 b4 b5 b6 b7)) (F.args_zip_next_1 _))))
theorem end_zip3 {z TI TO i1 i2 i3 l1 : Addr} {k : Nat} {xs : Array Value} {Q : Option Value → Shared → Prop} (hh : A.handled = none) (n1 : i1 ≠ z) (n2 : l1 ≠ z)
    (hz : IsZip s.heap z TI TO .none) (hTI : IsTrip s.heap TI (.ref i1) (.ref i2) (.ref i3)) (g1 : GIter false s.heap i1 l1 k) (q1 : GSeq false s.heap l1 xs) (hx : xs[k]? = none)
    (hQ : ∀ h', (∀ d o, d ≠ z → d ≠ i1 → s.heap.get? d = some o → h'.get? d = some o) → Q none { s with heap := h' }) : wpAny (model prog w) A (pyNext (.ref z)) Q E s := by
  have ty : s.TypeIs (.ref z) "zip" := ⟨_, hz, rfl⟩
  unfold pyNext
  refine wpAny_bind (wpAny_attempt (wpAny_callSpecial?_slot (name := Str.ofString "__next__") ty F.slot_zip_next (wpAny_call_entry F.slot_zip_next ty F.entry_zip_next
    (zip3_dry hh n1 n2 hz hTI g1 q1 hx fun h' e hk he => ?_) (F.args_zip_next_1 _))))
  obtain ⟨o, ho, hc⟩ := he
  exact wpAny_bind (wpAny_isInstance (T := "StopIteration") (b := true) ⟨o, ho, hc⟩ isSubtype_stop (wpAny_pure (hQ _ hk)))
end
/-- the lists at a, b, c as they stand at each turn, their items in new tuples of three -/
def It3 (K : PySem.W.Frag) (a b c : Addr) : It :=
  ⟨fun i H => ∃ (xs ys us : List V) (x y u : V), SqL K H a xs ∧ SqL K H b ys ∧ SqL K H c us ∧ xs[i]? = some x ∧ ys[i]? = some y ∧ us[i]? = some u,
    fun i H v H' => ∃ T x y u, v = .ref T ∧ H T = none ∧ H' = upd H T (.tup [x, y, u]) ∧ (∀ xs, SqL K H a xs → xs[i]? = some x) ∧ (∀ ys, SqL K H b ys → ys[i]? = some y) ∧ ∀ us, SqL K H c us → us[i]? = some u,
    fun i H => ∃ xs : List V, SqL K H a xs ∧ xs.length ≤ i⟩
theorem mem6 {c z TI TO i1 i2 i3 : Addr} (h : c ∈ [z, TI, TO, i1, i2, i3]) : c = z ∨ c = TI ∨ c = TO ∨ c = i1 ∨ c = i2 ∨ c = i3 := by simpa using h
theorem out6 {c z TI TO i1 i2 i3 : Addr} (h : c ∉ [z, TI, TO, i1, i2, i3]) : c ≠ z ∧ c ≠ TI ∧ c ≠ TO ∧ c ≠ i1 ∧ c ≠ i2 ∧ c ≠ i3 := by simpa using h
theorem turn3 {P : Program} {w : World} {K : PySem.W.Frag} {elts : List Expr} {kk : Nat} {tpos : Pos} {a b c z TI TO i1 i2 i3 : Addr} (D : Apart3 z TI TO i1 i2 i3 a b c) :
    Turn P w K (.Tuple elts kk tpos) (It3 K a b c) [z, TI, TO, i1, i2, i3] z (fun i h => IsZip h z TI TO .none ∧ IsTrip h TI (.ref i1) (.ref i2) (.ref i3) ∧ (∃ x y u, IsTrip h TO x y u) ∧ GIter false h i1 a i ∧ GIter false h i2 b i ∧ GIter false h i3 c i) where
  mem := by simp
  obj := fun i h st d hd => by
    obtain ⟨hz, hTI, ⟨x, y, u, hTO⟩, g1, g2, g3⟩ := st
    rcases mem6 hd with rfl | rfl | rfl | rfl | rfl | rfl
    · exact ⟨_, hz, fun v q => nomatch q⟩
    · exact ⟨_, hTI, fun v q => nomatch q⟩
    · exact ⟨_, hTO, fun v q => nomatch q⟩
    · exact g1.there
    · exact g2.there
    · exact g3.there
  keep := fun i h h' st k => by
    obtain ⟨hz, hTI, ⟨x, y, u, hTO⟩, g1, g2, g3⟩ := st
    exact ⟨k _ (by simp) _ hz, k _ (by simp) _ hTI, ⟨x, y, u, k _ (by simp) _ hTO⟩, g1.to (k _ (by simp)), g2.to (k _ (by simp)), g3.to (k _ (by simp))⟩
  item := by
    intro X hP hw hK hc i pins s σ H E I hf st hg
    subst hP hw hK
    obtain ⟨hz, hTI, ⟨x0, y0, u0, hTO⟩, g1, g2, g3⟩ := st
    obtain ⟨xs, ys, us, x, y, u, sx, sy, su, hx, hy, hu⟩ := hg
    obtain ⟨its, rv, p, _⟩ := sqG_in (t := false) I sx
    obtain ⟨its2, rv2, p2, _⟩ := sqG_in (t := false) I sy
    obtain ⟨its3, rv3, p3, _⟩ := sqG_in (t := false) I su
    obtain ⟨v1, e1, r1⟩ := rv.get hx
    obtain ⟨v2, e2, r2⟩ := rv2.get hy
    obtain ⟨v3, e3, r3⟩ := rv3.get hu
    have zl : z < s.heap.objs.size := Heap.lt_size hz
    refine next_zip3 D hz hTI hTO g1 g2 g3 p p2 p3 (x := v1) (y := v2) (u := v3) (by simpa using e1) (by simpa using e2) (by simpa using e3) fun h' z' TO' g1' g2' g3' hT hk => ?_
    refine ⟨_, rfl, wpAny_letOwnedTupleGo_zip (s := { s with heap := h' }) z' fun h'' z'' sb => ?_⟩
    have hT2 : h''.get? s.heap.objs.size = some { cls := .type "tuple", data := .seq #[v1, v2, v3] } := (sb.2 _ (Nat.ne_of_gt zl)).trans hT
    have new : ObjOk X.prog X.w (upd H s.heap.objs.size (.tup [x, y, u])) h'' s.heap.objs.size (.tup [x, y, u]) :=
      ⟨by show 3 ≤ sizeLine; decide, [v1, v2, v3], .cons r1 (.cons r2 (.cons r3 .nil)), ⟨_, hT2, rfl, _, rfl⟩⟩
    have I1 : Inv X pins σ (upd H s.heap.objs.size (.tup [x, y, u])) { s with heap := h'' } :=
      I.turnedNew (t' := s.toks) (ch := [z, TI, TO, i1, i2, i3]) (fun d o hb q => by
        obtain ⟨n1, _, n3, n4, n5, n6⟩ := out6 hb
        exact (sb.2 d n1).trans (hk d o n1 n3 n4 n5 n6 q)) hf (Nat.le_refl _) new
    refine ⟨.ref s.heap.objs.size, _, I1, rfl, ⟨_, x, y, u, rfl, I.hok.fresh (Nat.le_refl _), rfl, fun l hl => by rw [I.list_inj hl sx]; exact hx, fun l hl => by rw [I.list_inj hl sy]; exact hy, fun l hl => by rw [I.list_inj hl su]; exact hu⟩,
      ⟨z'', ?_, ⟨v1, v2, v3, (sb.2 _ D.TOz).trans TO'⟩, g1'.to fun o q => (sb.2 _ D.a1z).trans q, g2'.to fun o q => (sb.2 _ D.a2z).trans q, g3'.to fun o q => (sb.2 _ D.a3z).trans q⟩, fun d hdm => ?_⟩
    · exact (sb.2 _ D.TIz).trans (hk _ _ D.TIz D.TITO D.TI1 D.TI2 D.TI3 hTI)
    have lt : d < s.heap.objs.size := by
      rcases mem6 hdm with q | q | q | q | q | q
      · rw [q]; exact zl
      · rw [q]; exact Heap.lt_size hTI
      · rw [q]; exact Heap.lt_size hTO
      · rw [q]; exact g1.lt
      · rw [q]; exact g2.lt
      · rw [q]; exact g3.lt
    rw [upd_ne (Nat.ne_of_lt lt)]
    exact (hf d hdm).1
  done := by
    intro X hP hw hK hc i pins s σ H E I hf st hg
    subst hP hw hK
    obtain ⟨hz, hTI, ⟨x0, y0, u0, hTO⟩, g1, g2, g3⟩ := st
    obtain ⟨xs, sx, hend⟩ := hg
    obtain ⟨its, rv, p, _⟩ := sqG_in (t := false) I sx
    have n1 := rv.length
    exact end_zip3 (I.ok.hd hc) D.a1z D.l1z hz hTI g1 p (by simp; omega) fun h' hk => ⟨rfl, I.turnedL (t' := s.toks) (ch := [z, TI, TO, i1, i2, i3]) (fun d o hb q => by
      obtain ⟨m1, _, _, m4, _, _⟩ := out6 hb
      exact hk d o m1 m4 q) hf⟩
  self := fun A i s Q E st h => wpAny_pyIter_zip st.1 h
def iZip3 (K : PySem.W.Frag) (ta : TA) : TI := fun σ H R => ta σ H fun vs H1 => ∃ a b c xs ys us, vs = [.ref a, .ref b, .ref c] ∧ SqL K H1 a xs ∧ SqL K H1 b ys ∧ SqL K H1 c us ∧ R (It3 K a b c) H1
theorem pi_zip3 {X : Cx} {e e2 e3 : Expr} {ta : TA} {p pos tpos : Pos} {elts : List Expr} {kk : Nat} (hg : Gl X "zip") (hm : X.mg "zip" = none) (ha : PA X [e, e2, e3] ta)
    (hs : starEach [e, e2, e3] X.env = (false, eval e X.env) :: starEach [e2, e3] X.env := by rfl) (hpl : (backTo pos (starEach [e2, e3] X.env)).any (·.1) = false := by rfl) :
    PI X (.Tuple elts kk tpos) (.Call (.Name "zip" p) [e, e2, e3] [] pos) (iZip3 X.K ta) := by
  refine ⟨fun pins s σ H R I h => ?_⟩
  refine Call_ (ld_blt I hg hm PyProof.Rows.boot_zip (PyProof.Rows.callWith_type1 (thn (ha.run pos pins s σ H _ I h) fun vals s1 ⟨vs, H1, I1, r1, q1⟩ => ?_) hs hpl))
  obtain ⟨a, b, c, xs, ys, us, rfl, sx, sy, su, q⟩ := q1
  cases r1 with
  | cons ra rr =>
    cases rr with
    | cons rb rr =>
      cases rr with
      | cons rc rr =>
        cases rr
        cases ra
        cases rb
        cases rc
        obtain ⟨its, rv, p1, _⟩ := sqG_in (t := false) I1 sx
        obtain ⟨its2, rv2, p2, _⟩ := sqG_in (t := false) I1 sy
        obtain ⟨its3, rv3, p3, _⟩ := sqG_in (t := false) I1 su
        refine call_zip3 p1 p2 p3 fun h' hz hTI hTO g1 g2 g3 hk => wpAny_pyIter_zip hz ?_
        have I2 : Inv X pins σ H1 { s1 with heap := h' } := I1.kept (t' := s1.toks) hk
        refine ⟨s1.heap.objs.size + 5, [s1.heap.objs.size + 5, s1.heap.objs.size + 3, s1.heap.objs.size + 4, s1.heap.objs.size, s1.heap.objs.size + 1, s1.heap.objs.size + 2], _, _, H1, rfl, I2,
          turn3 (apart3 s1.heap.objs.size a b c p1.lt p2.lt p3.lt), ⟨hz, hTI, ⟨_, _, _, hTO⟩, g1, g2, g3⟩, fun d hdm => ?_, q⟩
        have hle : s1.heap.objs.size ≤ d := by
          rcases mem6 hdm with v | v | v | v | v | v <;> rw [v]
          · exact Nat.le_add_right _ _
          · exact Nat.le_add_right _ _
          · exact Nat.le_add_right _ _
          · exact Nat.le_refl _
          · exact Nat.le_add_right _ _
          · exact Nat.le_add_right _ _
        exact I1.fpOk hle (I1.hok.fresh hle)
/-- a new tuple of three -/
def YTrip (xs ys us : List V) : Nat → Hp → V → Hp → Prop := fun i H v H' => ∃ T x y u, v = .ref T ∧ H T = none ∧ H' = upd H T (.tup [x, y, u]) ∧ xs[i]? = some x ∧ ys[i]? = some y ∧ us[i]? = some u
theorem walk_zip3 {K : PySem.W.Frag} {a b c : Addr} {xs ys us : List V} (h2 : ys.length = xs.length) (h3 : us.length = xs.length) : Walk (It3 K a b c) xs.length (fun H => SqL K H a xs ∧ SqL K H b ys ∧ SqL K H c us) (YTrip xs ys us) := by
  refine ⟨fun i _ hi q => ?_, fun _ q => ⟨xs, q.1, Nat.le_refl _⟩, fun i H v H' _ q y => ?_⟩
  · have k2 : i < ys.length := by omega
    have k3 : i < us.length := by omega
    exact ⟨xs, ys, us, xs[i], ys[i], us[i], q.1, q.2.1, q.2.2, by simp [hi], by simp [k2], by simp [k3]⟩
  · obtain ⟨T, x, z, u, e1, e2, e3, e4, e5, e6⟩ := y
    exact ⟨T, x, z, u, e1, e2, e3, e4 xs q.1, e5 ys q.2.1, e6 us q.2.2⟩
end CWX

set_option Elab.async false
set_option linter.all false
set_option maxRecDepth 100000
set_option maxHeartbeats 4000000
/-! xs.extend(a tuple); set(a list of ints). -/
namespace CWX
open PySem PySem.Spec PyProof.Rows L2
theorem meets_extT (l : Addr) (its : Array Value) (n : Nat) (b : Addr) (its2 : Array Value) (n2 : Nat) (dd : Option Addr) (sl : Array (Option Value)) (h0 : ¬(!its.isEmpty && Builtin.List.listTooLong (its.size + its2.size)) = true) (h1 : its.size ≤ sizeLine) (h2 : its.size + its2.size ≤ sizeLine + 1) :
    Meets (Builtin.«list.extend» ⟨[.ref l, .ref b], []⟩) (fun _ R s => s.heap.get? l = some { cls := .type "list", dict := none, data := .seq its n, slots := #[] } ∧
      s.heap.get? b = some { cls := .type "tuple", dict := dd, data := .seq its2 n2, slots := sl } ∧ R (.ok (.ret Value.none)) { s with heap := s.heap.update l (Obj.mapSeq fun x => x ++ its2), toks := s.toks }) :=
  .of_wp fun prog w A R s h => by
    obtain ⟨hp, g, d, tk, os⟩ := s
    obtain ⟨hl, hb, h⟩ := h
    have f1 := PySem.AutoSeq1.idx_int
    have f2 := PySem.AutoSeq1.sub_tuple_tuple
    have f3 := PySem.AutoSeq1.sub_list_list
    have f4 := PySem.AutoSeq1.sub_tuple_list
    have f5 := PySem.AutoSeq1.sub_list_tuple
    have hz' : (its ++ its2).size ≤ sizeLine + 1 := by rw [Array.size_append]; exact h2
    wp_walk using (wpAny_updateSeq hl rfl (hz := h1) (_hz' := hz')), PySem.AutoSeq1.wpAny_loadPart' hl, PySem.AutoSeq1.wpAny_loadPart' hb
    exact ⟨_, rfl, h⟩
section
variable {X : Cx}
def rExtT (K : PySem.W.Frag) : V → List V → Hp → VK → Prop := fun x vs H Q => ∃ l b xs zs, x = .ref l ∧ vs = [.ref b] ∧ H l = some (.lst xs) ∧ SqT K H b zs ∧ xs.length + zs.length ≤ sizeLine ∧ Q .non (upd H l (.lst (xs ++ zs)))
theorem mt_extT : MtM X "list.extend" (rExtT X.K) := by
  intro pins s σ H x vs v us Q I rx rv h
  obtain ⟨l, b, xs, zs, rfl, rfl, hH, hB, hz, q⟩ := h
  cases rx
  obtain ⟨u, rfl, ru⟩ := rv.one
  cases ru
  obtain ⟨z, its, n, r, hl, e⟩ := I.lstM hH
  obtain ⟨its2, r2, ⟨⟨cls, dd, dt, sl⟩, e2, hc, n2, hd⟩, z2⟩ := I.tuple hB
  have hc : cls = .type "tuple" := hc
  have hd : dt = .seq its2.toArray n2 := hd
  subst hc hd
  have hl2 := r2.length
  have hsz : its.toArray.size + its2.toArray.size ≤ sizeLine := by rw [List.size_toArray, List.size_toArray]; omega
  have hlong : ¬ (!its.toArray.isEmpty && Builtin.List.listTooLong (its.toArray.size + its2.toArray.size)) = true := by
    rw [notLongL hsz, Bool.and_false]
    exact Bool.false_ne_true
  refine call_meets PySem.F.slot_list_extend ⟨_, e, rfl⟩ PySem.F.entry_list_extend (PySem.F.args_list_extend_2 _ _)
    (meets_extT l its.toArray n b its2.toArray n2 dd sl hlong (by rw [List.size_toArray]; omega) (by omega)) ⟨e, e2, ?_⟩
  refine ⟨.non, _, I.lset (its' := its ++ its2) hH e (by simp) (r.append r2) ?_, rfl, q⟩
  rw [List.length_append]
  omega
end
/-! ### set(xs), xs a list of ints -/
/-- the set object as it is made -/
abbrev set0 (w : World) : Obj := { cls := .type "set", dict := none, data := .set #[] 0 (.fresh 0 0 (!w.params.followText "set-order")) }
section
variable {P : Program} {w : World} {A : Around} {E : Value → Shared → Prop} {s : Shared}
theorem set_of_list {l : Addr} {items : Array Value} (ns : List Int) {Q : Value → Shared → Prop} (hh : A.handled = none) (hl : s.heap.IsList l items) (hit : IntsAre items.toList ns) (room : ns.length + 1 < scanBound)
    (h : ∀ (h' : Heap) (tk c : Nat), SetR w h' s.heap.objs.size (fun j => decide (j ∈ ns)) c → c ≤ ns.length → (∀ b o, s.heap.get? b = some o → h'.get? b = some o) → Q (.ref s.heap.objs.size) { s with heap := h', toks := tk }) :
    wpAny (model P w) A (call (.type "set") [.ref l]) Q E s := by
  have hn : items.size = ns.length := by
    have q := IntsAre.length hit
    rwa [Array.length_toList] at q
  obtain ⟨c, tl, hmro⟩ := F.called_set.mro
  have hmade := F.called_set.made
  have hsub := F.called_set.sub
  refine wpAny_call (codeAny_of_tree ?_)
  show wpAny _ _ (callAny (.type "set") _) _ _ s
  refine wpAny_pure ⟨Code.quiet_builtin _ (by decide +kernel), codeAny_builtin F.entry_type_call ?_⟩
  rw [Around.under_plain (weight_type_call_type "set" [.ref l] []) rfl]
  have h1 := F.called_set.notType
  have h2 := F.called_set.canCreate
  have hct := F.typeCall_set_1 (.ref l)
  repeat (any_goals (first | assumption | wp_step))
  refine codeAny_mono (code_set_led1 (.ref l) (E := E) (Q₁ := fun obj s₁ => obj = .ref s.heap.objs.size ∧ s₁ = { s with heap := s.heap.push (set0 w) }) ⟨rfl, rfl⟩) fun r s₁ hr => ?_
  cases r with
  | error e => exact hr
  | ok fl =>
    cases fl with
    | ret obj =>
      obtain ⟨rfl, rfl⟩ := hr
      have hS : (s.heap.push (set0 w)).get? s.heap.objs.size = some (set0 w) := Heap.get?_push_size _ rfl
      have hT : Shared.TypeIs { s with heap := s.heap.push (set0 w) } (.ref s.heap.objs.size) "set" := ⟨_, hS, rfl⟩
      have hli := F.called_set.init.lookup
      have hbi := F.called_set.init.bind (.ref s.heap.objs.size)
      repeat (any_goals (first | assumption | wp_step))
      refine codeAny_mono (codeAny_call_builtin (R := wants (fun r s₂ => r = .none ∧ ∃ h' tk c, s₂ = { s with heap := h', toks := tk } ∧ SetR w h' s.heap.objs.size (fun j => decide (j ∈ ns)) c ∧ c ≤ ns.length ∧
          (∀ b o, s.heap.get? b = some o → h'.get? b = some o)) E) F.called_set.init.plain F.entry_set_init (check_set_init_1 hT ?_)) fun r₂ s₂ hr₂ => ?_
      · obtain ⟨⟨ocls, odict, odata, oslots⟩, hol, hcl, nl, hdl⟩ := hl
        have hcl : ocls = .type "list" := hcl
        have hdl : odata = .seq items nl := hdl
        subst hcl hdl
        have hol' : (s.heap.push (set0 w)).get? l = some { cls := .type "list", dict := odict, data := .seq items nl, slots := oslots } := Heap.get?_push_of_some _ hol
        have hsls := F.sub_list_set
        have hslf := F.sub_list_frozenset
        have hne : (Value.type "list" == Value.type "dict") = false := by decide
        have hl1 : (s.heap.push (set0 w)).IsList l items := ⟨_, hol', rfl, nl, rfl⟩
        unfold Builtin.«set.__init__» noKeywords Builtin.Frozenset.updateFrom
        generalize hPI : pyIter = PI
        wp_walk
        subst hPI
        refine wpAny_pyIter_list hl1 (wpAny_bind (wpAny_runValue ?_))
        have hlS : l < s.heap.objs.size := Heap.lt_size hol
        have hh3 : A.in1.in1.in1.handled = none := by simp [hh]
        have hneI : l ≠ (s.heap.push (set0 w)).objs.size := by
          rw [Heap.size_push]; exact Nat.ne_of_lt (Nat.lt_succ_of_lt hlS)
        have hSf : s.heap.objs.size ∉ [(s.heap.push (set0 w)).objs.size, l] := by
          rw [Heap.size_push]; simp only [List.mem_cons, List.mem_singleton, List.not_mem_nil, or_false, not_or]
          exact ⟨Nat.ne_of_lt (Nat.lt_succ_self _), Nat.ne_of_gt hlS⟩
        have hval : ∀ (i : Nat) (v : Value), items[i]? = some v → ∃ k t, ns[i]? = some k ∧ v = .int k t := fun i v hv => by
          have hi : i < ns.length := by rw [← hn]; exact (Array.getElem?_eq_some_iff.mp hv).1
          obtain ⟨t, e⟩ := PyProof.Rows.IntsAre.int_at hit i v (by rw [Array.getElem?_toList]; exact hv)
          refine ⟨ns[i], t, List.getElem?_eq_getElem hi, ?_⟩
          rw [e, List.getD_eq_getElem?_getD, List.getElem?_eq_getElem hi] <;> rfl
        refine set_update_ints ((Walks.list hh3 _ l hneI items).toS) s.heap.objs.size hSf ns hn room hval (items.size - 0) 0 _ (by omega) (Nat.zero_le _)
          ⟨⟨_, Heap.get?_push_size _ rfl, rfl, rfl⟩, (hl1.push _)⟩ ⟨0, Nat.le_refl 0, setR_new_at (Heap.get?_push_of_some _ hS)⟩ ?_
        intro s' c' hm hc' hS'
        obtain ⟨h', g2, d', tk', os'⟩ := s'
        have eg : g2 = s.gens := hm.gens
        have ed : d' = s.drawn := hm.drawn
        have eo : os' = s.os := hm.os
        subst eg ed eo
        show wpAny _ _ _ _ _ _
        refine wpAny_pure ?_
        show wpAny _ _ (ret Value.none) _ _ _
        rw [hn] at hc'
        refine wpAny_pure ⟨rfl, h', tk', c', rfl, hS', hc', fun b o e => ?_⟩
        have b0 : b < s.heap.objs.size := Heap.lt_size e
        have b2 : b ≠ (s.heap.push (set0 w)).objs.size := by
          rw [Heap.size_push]; exact Nat.ne_of_lt (Nat.lt_succ_of_lt b0)
        exact hm.heap b o (by simp only [List.mem_cons, List.mem_singleton, List.not_mem_nil, or_false, not_or]; exact ⟨Nat.ne_of_lt b0, b2⟩) (Heap.get?_push_of_some _ (Heap.get?_push_of_some _ e))
      · cases r₂ with
        | error e => exact hr₂
        | ok fl₂ =>
          cases fl₂ with
          | ret r =>
            obtain ⟨rfl, h', tk, c', rfl, hS', hc', hk'⟩ := hr₂
            repeat (any_goals (first | assumption | wp_step))
            exact h _ _ _ hS' hc' hk'
          | _ => exact hr₂.elim
    | _ => exact hr.elim
end
section
variable {X : Cx}
def rSetL (K : PySem.W.Frag) (w : World) : List V → Hp → VK → Prop := fun xs H Q => ∃ (l : Addr) (ns : List Int), xs = [.ref l] ∧ SqL K H l (ns.map V.int) ∧ ns.length + 1 < scanBound ∧
  ∀ (p : Addr) (c : Nat), c ≤ ns.length → H p = none → Q (.ref p) (upd H p (SetO w p (fun j => decide (j ∈ ns)) c))
theorem cr_setL (hc : X.calm = true) : CallR X (.type "set") (rSetL X.K X.w) := by
  intro pins s σ H xs us Q I r h
  obtain ⟨l, ns, rfl, hq, room, q⟩ := h
  rw [Vals.ref1 r]
  obtain ⟨its, rv, p, _⟩ := I.list hq
  refine set_of_list ns (I.ok.hd hc) p.isList (by simpa using RZ.intsAre_vals rv) room fun h' tk c R hc' hk => ?_
  exact ⟨.ref _, upd H s.heap.objs.size (SetO X.w s.heap.objs.size (fun j => decide (j ∈ ns)) c), I.laid (t' := tk) hk (Nat.le_refl _) (setO_new R), rfl, q _ c hc' (I.hok.fresh (Nat.le_refl _))⟩
end
end CWX

set_option Elab.async false
set_option linter.all false
set_option maxRecDepth 100000
set_option maxHeartbeats 4000000
/-! sorted(xs, key=f), f an own def that gives an int and leaves the heap. -/
namespace CWX
open PySem PySem.Spec PyProof.Rows L2
open PySem.W (EachIs AllAlike Sortable dataLe KeepsBut copyHeap sortVals dataKind KeyedOut SortsAt)
/-! ### changes at what is not tracked and was not there -/
theorem un_but {fs ex : List Addr} {H H' : Hp} {h h1 h2 : Heap} {c : List Addr} (u : Un fs ex H H' h h1) (k : ∀ b o, b ∉ c → h1.get? b = some o → h2.get? b = some o) (hc : ∀ b ∈ c, h.get? b = none) : Un fs ex H H' h h2 := by
  have nc : ∀ b o, h.get? b = some o → b ∉ c := fun b o e z => by rw [hc b z] at e; cases e
  refine ⟨fun b o e n hb hx => k _ _ (nc b o e) (u.keep b o e n hb hx), fun b o e n hb hx => ?_, u.free, fun b o e hx => ?_, u.tups, u.frzs, u.tbls⟩
  · obtain ⟨sl, q⟩ := u.slot b o e n hb hx
    exact ⟨sl, k _ _ (nc b o e) q⟩
  · obtain ⟨o', q⟩ := u.there b o e hx
    exact ⟨o', k _ _ (nc b o e) q⟩
theorem hok_but {P : Program} {w : World} {H : Hp} {h1 h2 : Heap} {c : List Addr} (x : HOk P w H h1) (k : ∀ b o, b ∉ c → h1.get? b = some o → h2.get? b = some o) (hc : ∀ b ∈ c, H b = none) : HOk P w H h2 := fun a o e =>
  (x a o e).stay (fun b u hb q => k b u (fun z => by
    rcases hb with hb | hb
    · rw [hb] at z; rw [hc a z] at e; cases e
    · rw [hc b z] at hb; cases hb) q) (fun _ q => q) fun _ _ q => q
section
variable {X : Cx} {pins : List (Addr × Obj)} {σ : L2.St} {H : Hp} {s : Shared}
/-- where the sort stands: all that was there is as it was -/
structure Mid (X : Cx) (H : Hp) (s s' : Shared) : Prop where
  os : s'.os = s.os
  bare : AllBare s'.gens
  un : Un (frs X.stack) [] H H s.heap s'.heap
  hok : HOk X.prog X.w H s'.heap
theorem Mid.inv {s' : Shared} (m : Mid X H s s') (I : Inv X pins σ H s) : Inv X pins σ H s' := I.call' (ch := []) m.os m.un m.hok m.bare fun b z => absurd z (by simp)
theorem Mid.but {s' : Shared} {h2 : Heap} {t : Nat} {c : List Addr} (m : Mid X H s s') (k : ∀ b o, b ∉ c → s'.heap.get? b = some o → h2.get? b = some o) (hc : ∀ b ∈ c, s.heap.get? b = none ∧ H b = none) : Mid X H s { s' with heap := h2, toks := t } :=
  ⟨m.os, m.bare, un_but m.un k fun b z => (hc b z).1, hok_but m.hok k fun b z => (hc b z).2⟩
/-- what the def must do for an item -/
def KeyOk (X : Cx) (H : Hp) (sp : Sp) (k : V → Int) (xs : List V) : Prop := ∀ x ∈ xs, sp [x] H (fun v H' => v = .int (k x) ∧ H' = H) E0
theorem room2 {k : Nat} {A : Around} (r : Room (k + 2) A) : Room k A.in1.in1 := (r.in1).in1
theorem sort_by {f a : Addr} {fd : FuncData} {ps : List Str} {sp : Sp} {j : Nat} {k : V → Int} {xs : List V} {vs : List Value} {Q : Value → Shared → Prop} (I : Inv X pins σ H s) (F : FnOk X.prog X.w X.K X.mg X.base CX0 j f fd ps sp) (hr : Room (j + 2) X.A) (hb : Binds X.K fd ps [])
    (hl : s.heap.IsList a vs.toArray) (r : Vals xs vs) (hz : xs.length ≤ sizeLine) (key : KeyOk X H sp k xs) (E : Value → Shared → Prop)
    (h : ∀ (s' : Shared) (out : List Value) (c : Nat), Mid X H s s' → s'.heap.get? (s.heap.objs.size + 1) = some (seqObj "list" (List.toArray out) c) → Vals (xs.mergeSort fun x y => decide (k x ≤ k y)) out → Q (.ref (s.heap.objs.size + 1)) s') :
    wpAny (model X.prog X.w) X.A (call (.builtin "sorted") [.ref a] [(Str.ofString "key", .ref f)]) Q E s := by
  have hlen : vs.length = xs.length := r.length.symm
  have hZ : vs.length ≤ sizeLine := by omega
  have e0 : EachIs (fun u x => RelV x u ∧ x ∈ xs) vs xs := by
    have base : ∀ {ys : List V} {us : List Value}, Vals ys us → (∀ y ∈ ys, y ∈ xs) → EachIs (fun u x => RelV x u ∧ x ∈ xs) us ys := by
      intro ys us q
      induction q with
      | nil => intro _; exact EachIs.nil
      | cons q1 q2 ih => intro hy; exact EachIs.cons ⟨q1, hy _ List.mem_cons_self⟩ (ih fun y z => hy y (List.mem_cons_of_mem _ z))
    exact base r fun y z => z
  refine PySem.W.sorted_of_sort hl hZ (ksk_s1 _ _) (fun _ => ksk_l1 _ _) fun E' => ?_
  rw [ksk_t1]
  generalize ha : s.heap.objs.size + 1 = a' at *
  have nA : s.heap.get? a' = none := Heap.get?_none_of_le (by rw [← ha]; exact Nat.le_succ _)
  have hA : H a' = none := I.hok.fresh (by rw [← ha]; exact Nat.le_succ _)
  have at1 : (copyHeap s.heap vs).get? a' = some (seqObj "list" vs.toArray 0) := by rw [← ha]; exact PySem.W.copyHeap_at s.heap vs
  unfold ksk_tree
  refine wpAny_bind (listItems_at at1 rfl ?_)
  refine wpAny_bind (listUpdate_at at1 rfl ?_ (by rw [List.size_toArray]; exact hZ) (Nat.zero_le _))
  obtain ⟨e1, at2⟩ : ∃ e1, ((copyHeap s.heap vs).update a' (Obj.mapSeq fun _ => (#[] : Array Value))).get? a' = some (seqObj "list" #[] e1) := ⟨_, get?_update_seq at1 fun _ => #[]⟩
  refine wpAny_bind (seqEpoch_at at2 rfl ?_)
  refine wpAny_bind (wpAny_newTuple ?_ (by show vs.length ≤ _; exact hZ))
  refine wpAny_bind (wpAny_newList ?_ (Nat.zero_le _))
  refine wpAny_holding ?_
  have old : ∀ b o, s.heap.get? b = some o → ((copyHeap s.heap vs).update a' (Obj.mapSeq fun _ => (#[] : Array Value))).get? b = some o := fun b o q => by
    have hlt := Heap.lt_size q
    rw [Heap.get?_update_ne _ _ _ _ (by intro z; rw [z, nA] at q; cases q)]
    exact PySem.W.copyHeap_old q
  generalize hg : (copyHeap s.heap vs).update a' (Obj.mapSeq fun _ => (#[] : Array Value)) = g at *
  have aLt : a' < g.objs.size := Heap.lt_size at2
  generalize hkS : (g.push (seqObj "tuple" vs.toArray 0)).objs.size = kS at *
  have kG : g.objs.size < kS := by rw [← hkS, size_push']; exact Nat.lt_succ_self _
  have nK : s.heap.get? kS = none := by
    cases q : s.heap.get? kS with
    | none => rfl
    | some o => exact absurd (Heap.lt_size (old _ _ q)) (Nat.not_lt.mpr (Nat.le_of_lt kG))
  have hle : s.heap.objs.size ≤ kS := by
    have : s.heap.objs.size < a' := by rw [← ha]; exact Nat.lt_succ_self _
    omega
  have hK : H kS = none := I.hok.fresh hle
  have hka : kS ≠ a' := Nat.ne_of_gt (Nat.lt_trans aLt kG)
  have keep0 : ∀ b o, s.heap.get? b = some o → ((g.push (seqObj "tuple" vs.toArray 0)).push (seqObj "list" #[] 0)).get? b = some o := fun b o q => Heap.get?_push_of_some _ (Heap.get?_push_of_some _ (old b o q))
  have m0 : Mid X H s { s with heap := (g.push (seqObj "tuple" vs.toArray 0)).push (seqObj "list" #[] 0) } := ⟨rfl, I.bare, Un.kept keep0, I.hok.kept keep0⟩
  have two : ∀ b ∈ [kS, a'], s.heap.get? b = none ∧ H b = none := fun b hb => by
    rcases List.mem_cons.mp hb with e | e
    · rw [e]; exact ⟨nK, hK⟩
    · rw [List.mem_singleton.mp e]; exact ⟨nA, hA⟩
  have fsK : kS ∉ frs X.stack := fun z => by
    rcases List.mem_cons.mp (I.stkSub _ z) with e | e
    · have := I.lt
      rw [← e] at this
      exact absurd this (Nat.not_lt.mpr hle)
    · exact I.nofs hle e
  have hleA : s.heap.objs.size ≤ a' := by rw [← ha]; exact Nat.le_succ _
  have fsA : a' ∉ frs X.stack := fun z => by
    rcases List.mem_cons.mp (I.stkSub _ z) with e | e
    · have := I.lt
      rw [← e] at this
      exact absurd this (Nat.not_lt.mpr hleA)
    · exact I.nofs hleA e
  have hh : (g.push (seqObj "tuple" vs.toArray 0)).push (seqObj "list" #[] 0) = (g.push (seqObj "tuple" vs.toArray 0)).push { cls := .type "list", data := .seq #[] } := rfl
  unfold ksk_rest
  refine wpAny_bind (wpAny_rule ?_)
  first
    | rw [List.forIn_toArray]
    | (rw [← Array.forIn_toList]; simp only [List.toList_toArray])
    | rw [← Array.forIn_toList]
  refine wpAny_bind (ksk_fold (fun i s' => Mid X H s s' ∧ ∃ kA e, s'.heap.get? kS = some (seqObj "list" kA e) ∧ s'.heap.get? a' = some (seqObj "list" #[] e1) ∧ EachIs (fun v x => ∃ t, v = Value.int (k x) t) kA.toList (xs.take i)) vs 0 _
    ⟨m0, #[], 0, by rw [← hkS]; exact Heap.get?_push_size _ rfl, Heap.get?_push_of_some _ (Heap.get?_push_of_some _ at2), EachIs.nil⟩ ?step ?done)
  case step =>
    rintro i v s' hv ⟨m, kA, e, nk, na, ek⟩
    simp only [Nat.zero_add] at ek ⊢
    have hi : i < vs.length := (List.getElem?_eq_some_iff.mp hv).1
    obtain ⟨x, hx⟩ : ∃ x, xs[i]? = some x := ⟨_, List.getElem?_eq_getElem (by omega)⟩
    obtain ⟨u, hu, ru⟩ := r.get hx
    rw [hv] at hu
    cases hu
    have hsz : kA.size ≤ vs.length := by
      have h1 := ek.length
      rw [Array.length_toList, List.length_take] at h1
      omega
    have Im := m.inv I
    have hm := List.mem_of_getElem? hx
    have rv : Vals [x] [v] := .cons ru .nil
    have hl1 : ([v] ++ ([] : List Value)).length = ps.length := by
      rw [← F.len _ _ _ _ (key x hm)]
      rfl
    refine wpAny_bind (wpAny_attempt (wpAny_call (codeAny_mono (F.run X.A.in1.in1 X.stack s' H ⟨[v], []⟩ [v] [x] _ E0 (room2 hr) (Im.env0.in1).in1 (by simpa using hb s' [v] Im.kIn hl1) rv (key x hm)) fun res s'' hq => ?_)))
    cases res with
    | error er => exact False.elim hq
    | ok fl =>
      cases fl with
      | ret v' =>
        obtain ⟨y, H', os, bare, un, hok, ry, rfl, rfl⟩ := hq
        obtain ⟨t, rfl⟩ := ry
        have nk2 := un.keep _ _ nk hK fsK (by simp)
        have na2 := un.keep _ _ na hA fsA (by simp)
        have m2 : Mid X H' s s'' := ⟨os.trans m.os, bare, m.un.trans un, hok⟩
        show wpAny _ _ _ _ _ s''
        have s1 := Heap.SameBut.update s''.heap kS (Obj.mapSeq (·.push (Value.int (k x) t)))
        obtain ⟨c2, hc2⟩ : ∃ c2, (s''.heap.update kS (Obj.mapSeq (·.push (Value.int (k x) t)))).get? kS = some (seqObj "list" (kA.push (Value.int (k x) t)) c2) := ⟨_, get?_update_seq nk2 (·.push (Value.int (k x) t))⟩
        refine wpAny_bind (listUpdate_at nk2 rfl ?_ (Nat.le_trans hsz hZ) (Nat.le_trans (Nat.le_of_eq (Array.size_push ..)) (Nat.succ_le_succ (Nat.le_trans hsz hZ))))
        refine wpAny_pure ⟨rfl, m2.but (c := [kS]) (t := s''.toks) (fun b o hb' q => (s1.2 b (by simpa using hb')).trans q) (fun b hb' => two b (by rw [List.mem_singleton.mp hb']; simp)), kA.push (Value.int (k x) t), c2, hc2, (s1.2 a' hka.symm).trans na2, ?_⟩
        have ex : xs.take (i + 1) = xs.take i ++ [x] := by rw [List.take_add_one, hx]; rfl
        rw [Array.toList_push, ex]
        exact PySem.W.each_snoc (R := fun (v : Value) (x : V) => ∃ t, v = Value.int (k x) t) ⟨t, rfl⟩ ek
      | _ => exact False.elim hq
  case done =>
    rintro s' ⟨m, kA, e, nk, na, ek⟩
    have e3 : xs.take (0 + vs.length) = xs := List.take_of_length_le (by omega)
    rw [e3] at ek
    have hsz : kA.size = vs.length := by
      have h1 := ek.length
      rw [Array.length_toList] at h1
      omega
    show wpAny _ _ _ _ _ s'
    refine wpAny_bind (listItems_at nk rfl ?_)
    have ekd : EachIs (fun v d => ∃ as, Reads s'.heap v d as) kA.toList (xs.map fun x => PyData.int (k x)) := PySem.W.each_map (fun x => PyData.int (k x)) (ek.mono fun v x ⟨t, q⟩ => ⟨[], by rw [q]; exact .int _ _⟩)
    have hal : AllAlike (xs.map fun x => PyData.int (k x)) := AllAlike.of fun _ _ => rfl
    have hsk : Sortable (xs.map fun x => PyData.int (k x)) := Sortable.others fun _ => ⟨(fun z => nomatch z), fun _ z => nomatch z⟩
    have hun : ∀ d, d ∈ (xs.map fun x => PyData.int (k x)) → X.A.in1.in1.units + d.depth < cLine := fun d hd => by
      obtain ⟨x, _, rfl⟩ := List.mem_map.mp hd
      have := (room2 hr).units
      show X.A.in1.in1.units + 0 < cLine
      omega
    refine PySem.W.keyH_end (b := false) (κ := dataKind s'.heap (xs.map fun x => PyData.int (k x))) (h₁ := PySem.W.hideAll s'.heap [kS]) (fun b o _ q => PySem.W.of_hideAll _ q) (PySem.W.hideAll_none _ (by simp)) nk na hka (SortsAt.data (s := s') ekd hal hsk hun) hsz hZ fun h3 tk3 c kp n3 => ⟨rfl, ?_⟩
    have m3 : Mid X H s { s' with heap := h3, toks := tk3 } := m.but (c := [kS, a']) (fun b o hb' q => by
      have hb2 : b ≠ kS ∧ b ≠ a' := by simpa using hb'
      exact kp b o hb2.2 (PySem.W.hideAll_get _ q (by simpa using hb2.1))) two
    refine h _ _ c m3 n3 ?_
    have ko : KeyedOut false (xs.map fun x => PyData.int (k x)) vs (sortVals (dataKind s'.heap (xs.map fun x => PyData.int (k x))) false kA.toList vs) := ⟨s'.heap, kA.toList, hal, rfl, ekd⟩
    have eo := PySem.W.keyedOut_each (fun x => PyData.int (k x)) ko e0
    rw [PySem.W.dataLe_int] at eo
    have back : ∀ {us : List Value} {ys : List V}, EachIs (fun u x => RelV x u ∧ x ∈ xs) us ys → Vals ys us := by
      intro us ys q
      induction q with
      | nil => exact .nil
      | cons q1 _ ih => exact .cons q1.1 ih
    exact back eo
/-- a new object is tracked from now on -/
theorem Mid.laid {s' : Shared} {p : Addr} {o : HO} (m : Mid X H s s') (I : Inv X pins σ H s) (hp : s.heap.objs.size ≤ p) (new : ObjOk X.prog X.w (upd H p o) s'.heap p o) : Inv X pins σ (upd H p o) s' := by
  have hn : H p = none := I.hok.fresh hp
  have nb : ∀ b u, s.heap.get? b = some u → b ≠ p := fun b u e => Nat.ne_of_lt (Nat.lt_of_lt_of_le (Heap.lt_size e) hp)
  have un : Un (frs X.stack) [] H (upd H p o) s.heap s'.heap := by
    refine ⟨m.un.keep, m.un.slot, fun b u e n hx => by rw [upd_ne (nb b u e)]; exact n, m.un.there, fun b xs q => by rw [upd_ne (ne_of_none q hn)]; exact q, fun b u xs q => by rw [upd_ne (ne_of_none q hn)]; exact q, fun b ps q => ⟨#[], by rw [upd_ne (ne_of_none q hn), q]; simp⟩⟩
  have hok : HOk X.prog X.w (upd H p o) s'.heap := fun b u e => by
    by_cases hb : b = p
    · subst hb; rw [upd_same] at e; cases e; exact new
    · rw [upd_ne hb] at e
      exact (m.hok b u e).stay (fun c v _ q => q) (fun c q => by rw [upd_ne (ne_of_none q hn)]; exact q) fun c xs q => by rw [upd_ne (ne_of_none q hn)]; exact q
  exact I.call' (ch := []) m.os un hok m.bare fun b z => absurd z (by simp)
def rSortBy (X : Cx) (f : Addr) (sp : Sp) : List V → List V → Hp → VK → Prop := fun vs zs H Q => ∃ (a : Addr) (xs : List V) (k : V → Int), vs = [.ref a] ∧ zs = [.ref f] ∧ SqL X.K H a xs ∧ (∀ x ∈ xs, sp [x] H (fun v H' => v = .int (k x) ∧ H' = H) E0) ∧
  ∀ p, H p = none → Q (.ref p) (upd H p (.lst (xs.mergeSort fun x y => decide (k x ≤ k y))))
theorem cr_sortBy {f : Addr} {fd : FuncData} {ps : List Str} {sp : Sp} {j : Nat} (F : FnOk X.prog X.w X.K X.mg X.base CX0 j f fd ps sp) (hr : Room (j + 2) X.A) (hb : Binds X.K fd ps []) : CallRK X (.builtin "sorted") [Str.ofString "key"] (rSortBy X f sp) := by
  intro pins s σ H vs zs us ws Q I rv rz h
  obtain ⟨a, xs, k, rfl, rfl, hq, key, q⟩ := h
  rw [Vals.ref1 rv, Vals.ref1 rz]
  obtain ⟨its, r, p, hz⟩ := I.list hq
  refine sort_by I F hr hb p.isList r hz key X.xe fun s' out c m n rel => ?_
  refine ⟨.ref _, _, m.laid I (p := s.heap.objs.size + 1) (o := .lst (xs.mergeSort fun x y => decide (k x ≤ k y))) (Nat.le_succ _) ⟨?_, out, c, rel, n⟩, rfl, q _ (I.hok.fresh (Nat.le_succ _))⟩
  rw [List.length_mergeSort]
  exact hz
end
end CWX

set_option Elab.async false
set_option linter.all false
set_option maxRecDepth 100000
set_option maxHeartbeats 2000000
/-! The text by places; how defs are told. -/
namespace CW
open PySem PySem.Spec PyProof.Rows L2 CWX
def top (i : Nat) : Stmt := PySem.Challenge.pw_canonways_s01_answers.main.body.getD i (.Pass ⟨0, 0, 0, 0⟩)
abbrev s_within : Stmt := top 1
abbrev s_all_within : Stmt := top 2
abbrev s_is_note : Stmt := top 9
abbrev s_length_of : Stmt := top 10
abbrev s_step_of : Stmt := top 11
abbrev s_event_ranges : Stmt := top 12
abbrev s_read_events : Stmt := top 13
abbrev s_write_events : Stmt := top 14
abbrev s_whole_length : Stmt := top 15
abbrev s_first_step : Stmt := top 16
abbrev s_Search_init : Stmt := inClass (top 22) 0
abbrev s_read_search : Stmt := top 23
abbrev s_has_too_many_ways : Stmt := top 24
abbrev s_ways_to_try : Stmt := top 25
abbrev s_cost_of_found : Stmt := top 26
abbrev s_write_found : Stmt := top 27
abbrev s_laid : Stmt := top 31
abbrev s_beginnings : Stmt := top 32
abbrev s_steps_on : Stmt := top 33
abbrev s_step_at : Stmt := top 34
abbrev s_what_is_left : Stmt := top 35
abbrev s_are_parallel : Stmt := top 36
abbrev s_meeting_costs : Stmt := top 37
abbrev s_cost_of_two : Stmt := top 38
abbrev s_cost_against_all : Stmt := top 39
abbrev s_cost_of_all : Stmt := top 40
abbrev s_Prices_init : Stmt := inClass (top 43) 0
abbrev s_Prices_price_of_gap : Stmt := inClass (top 43) 1
abbrev s_first_prices : Stmt := top 44
abbrev s_read_prices : Stmt := top 45
abbrev s_Way_init : Stmt := inClass (top 50) 0
abbrev s_read_way : Stmt := top 51
abbrev s_can_be_had : Stmt := top 52
abbrev s_events_by_way : Stmt := top 53
abbrev s_event_by_way : Stmt := top 54
abbrev s_step_by_way : Stmt := top 55
abbrev s_length_by_way : Stmt := top 56
abbrev s_Canon_init : Stmt := inClass (top 65) 0
abbrev s_Canon_take_theme : Stmt := inClass (top 65) 1
abbrev s_Canon_take_prices : Stmt := inClass (top 65) 2
abbrev s_Canon_add_way : Stmt := inClass (top 65) 3
abbrev s_Canon_drop_last : Stmt := inClass (top 65) 4
abbrev s_Canon_show_voice : Stmt := inClass (top 65) 5
abbrev s_Canon_show_cost : Stmt := inClass (top 65) 6
abbrev s_Canon_show_bad : Stmt := inClass (top 65) 7
abbrev s_Canon_find_ways : Stmt := inClass (top 65) 8
abbrev s_Canon_show_round : Stmt := inClass (top 65) 9
abbrev s_Canon_all_voices : Stmt := inClass (top 65) 10
abbrev s_Canon_voice_by_way : Stmt := inClass (top 65) 11
abbrev s_Canon_found_by : Stmt := inClass (top 65) 12
abbrev s_answers : Stmt := top 75
abbrev s_answer_of : Stmt := top 76
/-! ### defs, methods, classes as the top has left them -/
section
variable (P : Program) (w : World) (K : PySem.W.Frag) (mg : Str → Option Value) (base : Heap)
/-- a def of the text stands there -/
def Here (x : Str) (st : Stmt) (ps : List Str) : Prop := ∃ f fd, mg x = some (.ref f) ∧ Fun K x x st f fd ∧ Binds K fd ps []
/-- .. and keeps a promise -/
def Def (k : Nat) (x : Str) (ps : List Str) (sp : Sp) : Prop := ∃ f fd, mg x = some (.ref f) ∧ PySem.W.keepIn K (.ref f) = true ∧ Binds K fd ps [] ∧ FnOk P w K mg base CX0 k f fd ps sp
def HereM (C : Addr) (x q : Str) (st : Stmt) (ps : List Str) : Prop := ∃ f fd, Meth K C x f ∧ Fun K x q st f fd ∧ Binds K fd ps []
def DefM (C : Addr) (k : Nat) (x : Str) (ps : List Str) (sp : Sp) : Prop := ∃ f fd, Meth K C x f ∧ Binds K fd ps [] ∧ FnOk P w K mg base CX0 k f fd ps sp
/-- a class's __init__ -/
def HereI (C : Addr) (x q : Str) (st : Stmt) (ps : List Str) : Prop := mg x = some (.ref C) ∧ ∃ f fd, Mk K C f ∧ Fun K "__init__" q st f fd ∧ Binds K fd ps []
def DefI (C : Addr) (k : Nat) (x : Str) (ps : List Str) (sp : Sp) : Prop := mg x = some (.ref C) ∧ ∃ f fd, Mk K C f ∧ Binds K fd ps [] ∧ FnOk P w K mg base CX0 k f fd ps sp
/-- the built-in names are still the built-ins -/
structure Blt : Prop where
  len : mg "len" = none
  all : mg "all" = none
  zip : mg "zip" = none
  sum : mg "sum" = none
  abs : mg "abs" = none
  set : mg "set" = none
  sorted : mg "sorted" = none
  tuple : mg "tuple" = none
  enumerate : mg "enumerate" = none
  range : mg "range" = none
end
section
variable {P : Program} {w : World} {K : PySem.W.Frag} {mg : Str → Option Value} {base : Heap}
/-- a promise from the body's reading -/
theorem Here.ok {x : Str} {st : Stmt} {N ps : List Str} {k : Nat} {sp : Sp} (h : Here K mg x st ps) (S : FnScope N ps (defScope st)) (len : ∀ vs H Q E, sp vs H Q E → vs.length = ps.length)
    (body : ∀ (f : Addr) (cdv : Value) (A : Around) (outer : List Env) (s : Shared) (H : Hp) (vs : List V) (Q : VK) (E : XK), Room k (A.deeper (envOfC x (defScope st) s.heap.objs.size f cdv)) → sp vs H Q E →
      ∃ t, PSs (cxOf CX0 P w K mg base N x (defScope st) f cdv A outer s H E).nox (defBody st) t ∧ t { nx := fun _ H' => Q .non H', rt := Q } (start N vs) H) : Def P w K mg base (k + 1) x ps sp := by
  obtain ⟨f, fd, g, F, b⟩ := h
  exact ⟨f, fd, g, F.kp, b, F.ok S len (body f)⟩
theorem HereM.ok {C : Addr} {x q : Str} {st : Stmt} {N ps : List Str} {k : Nat} {sp : Sp} (h : HereM K C x q st ps) (S : FnScope N ps (defScope st)) (len : ∀ vs H Q E, sp vs H Q E → vs.length = ps.length)
    (body : ∀ (f : Addr) (cdv : Value) (A : Around) (outer : List Env) (s : Shared) (H : Hp) (vs : List V) (Q : VK) (E : XK), Room k (A.deeper (envOfC q (defScope st) s.heap.objs.size f cdv)) → sp vs H Q E →
      ∃ t, PSs (cxOf CX0 P w K mg base N q (defScope st) f cdv A outer s H E).nox (defBody st) t ∧ t { nx := fun _ H' => Q .non H', rt := Q } (start N vs) H) : DefM P w K mg base C (k + 1) x ps sp := by
  obtain ⟨f, fd, m, F, b⟩ := h
  exact ⟨f, fd, m, b, F.ok S len (body f)⟩
theorem HereI.ok {C : Addr} {x q : Str} {st : Stmt} {N ps : List Str} {k : Nat} {sp : Sp} (h : HereI K mg C x q st ps) (S : FnScope N ps (defScope st)) (len : ∀ vs H Q E, sp vs H Q E → vs.length = ps.length)
    (body : ∀ (f : Addr) (cdv : Value) (A : Around) (outer : List Env) (s : Shared) (H : Hp) (vs : List V) (Q : VK) (E : XK), Room k (A.deeper (envOfC q (defScope st) s.heap.objs.size f cdv)) → sp vs H Q E →
      ∃ t, PSs (cxOf CX0 P w K mg base N q (defScope st) f cdv A outer s H E).nox (defBody st) t ∧ t { nx := fun _ H' => Q .non H', rt := Q } (start N vs) H) : DefI P w K mg base C (k + 1) x ps sp := by
  obtain ⟨g, f, fd, m, F, b⟩ := h
  exact ⟨g, f, fd, m, b, F.ok S len (body f)⟩
/-! ### rules with the written part named (within a comprehension) -/
theorem ixT (K : PySem.W.Frag) {X : Cx} (h : X.K = K := by rfl) : IxR X (rIxT K) := by
  subst h
  exact ix_tup
theorem peFld (K : PySem.W.Frag) {X : Cx} {e : Expr} {ta : TE} {f : Str} {pos : Pos} (he : PE X e ta) (hb : attributeBase e f X.env (eval e X.env) = eval e X.env) (h : X.K = K := by rfl) : PE X (.Attribute e f pos) (tFld K ta f) := by
  subst h
  exact pe_fld he hb
theorem yes_if {σ : L2.St} {H : Hp} {F G : Hp → Prop} (h : F H) : tYes σ H (fun b H3 => if b = true then F H3 else G H3) := by
  show if true = true then F H else G H
  rw [if_pos rfl]
  exact h
theorem get_lt' {α : Type} {l : List α} {i : Nat} {x : α} (h : l[i]? = some x) : i < l.length := (List.getElem?_eq_some_iff.mp h).1
/-- the number in a slot -/
def natAt (σ : L2.St) (i : Nat) : Nat := match σ[i]? with
  | some (some (V.int z)) => z.toNat
  | _ => 0
/-! ### data in the heap -/
/-- a list or tuple of tuples -/
def TupsG (t : Bool) (K : PySem.W.Frag) (H : Hp) (a : Addr) (xss : List (List V)) : Prop :=
  ∃ ts : List Addr, SqG t K H a (ts.map V.ref) ∧ ts.length = xss.length ∧ ∀ (i : Nat) (x : Addr) (xs : List V), ts[i]? = some x → xss[i]? = some xs → SqT K H x xs
theorem Same.seqT {H H' : Hp} {a : Addr} {xs : List V} (e : Same H H') (h : SqT K H a xs) : SqT K H' a xs := by
  rcases h with (h | ⟨o, h⟩) | h
  · exact .inl (.inl (e _ _ h))
  · exact .inl (.inr ⟨o, e _ _ h⟩)
  · exact .inr h
theorem Same.seqG {H H' : Hp} {t : Bool} {a : Addr} {xs : List V} (e : Same H H') (h : SqG t K H a xs) : SqG t K H' a xs := by
  cases t
  · exact e.seq h
  · exact Same.seqT e h
theorem Same.tups {H H' : Hp} {t : Bool} {a : Addr} {xss : List (List V)} (e : Same H H') (h : TupsG t K H a xss) : TupsG t K H' a xss := by
  obtain ⟨ts, h1, h2, h3⟩ := h
  exact ⟨ts, Same.seqG e h1, h2, fun i x xs a b => Same.seqT e (h3 i x xs a b)⟩
theorem Same.new {H : Hp} {a : Addr} {o : HO} (h : H a = none) : Same H (upd H a o) := fun b u e => by
  rw [upd_ne (ne_of_none e h)]
  exact e
theorem Same.new' {H0 H : Hp} {a : Addr} {o : HO} (e : Same H0 H) (h : H a = none) : Same H0 (upd H a o) := e.trans (Same.new h)
/-- a write at what the outer heap does not have -/
theorem Same.put {H0 H : Hp} {a : Addr} {o : HO} (e : Same H0 H) (h : H0 a = none) : Same H0 (upd H a o) := fun b u q => by
  rw [upd_ne (ne_of_none q h)]
  exact e b u q
/-! ### what is new -/
/-- the part of H' that H has not -/
def nw (H H' : Hp) : Hp := fun b => match H b with
  | none => H' b
  | some _ => none
theorem nw_at {H H' : Hp} {b : Addr} (h : H b = none) : nw H H' b = H' b := by
  unfold nw
  rw [h]
theorem nw_same {H H' : Hp} : Same (nw H H') H' := fun b o e => by
  unfold nw at e
  split at e
  · exact e
  · cases e
theorem nw_free {H H' : Hp} {b : Addr} {o : HO} (e : nw H H' b = some o) : H b = none := by
  unfold nw at e
  split at e
  · assumption
  · cases e
theorem nw_mono {H H' H'' : Hp} (s : Same H' H'') : Same (nw H H') (nw H H'') := fun b o e => by
  rw [nw_at (nw_free e)]
  exact s b o (nw_same b o e)
theorem nw_anti {H0 H H' : Hp} (s : Same H0 H) : Same (nw H H') (nw H0 H') := fun b o e => by
  rw [nw_at (s.free (nw_free e))]
  exact nw_same b o e
/-- a new list of new tuples -/
def TupsN (H H' : Hp) (p : Addr) (xss : List (List V)) : Prop :=
  H p = none ∧ ∃ ts : List Addr, H' p = some (.lst (ts.map V.ref)) ∧ ts.length = xss.length ∧ ∀ (i : Nat) (x : Addr) (xs : List V), ts[i]? = some x → xss[i]? = some xs → H x = none ∧ H' x = some (.tup xs)
theorem TupsN.nil {H H' : Hp} {p : Addr} (h : H p = none) (e : H' p = some (.lst [])) : TupsN H H' p [] := ⟨h, [], e, rfl, fun _ _ _ a _ => by simp at a⟩
theorem TupsN.tups {H H' : Hp} {p : Addr} {xss : List (List V)} (h : TupsN H H' p xss) : TupsG false K (nw H H') p xss := by
  obtain ⟨h0, ts, h1, h2, h3⟩ := h
  refine ⟨ts, SqL.of (by rw [nw_at h0]; exact h1), h2, fun i x xs a b => ?_⟩
  obtain ⟨c, d⟩ := h3 i x xs a b
  exact SqT.of (by rw [nw_at c]; exact d)
theorem TupsN.keep {H H' H'' : Hp} {p : Addr} {xss : List (List V)} (h : TupsN H H' p xss) (s : Same H' H'') : TupsN H H'' p xss := by
  obtain ⟨h0, ts, h1, h2, h3⟩ := h
  exact ⟨h0, ts, s _ _ h1, h2, fun i x xs a b => ⟨(h3 i x xs a b).1, s _ _ (h3 i x xs a b).2⟩⟩
theorem TupsN.at {H H' : Hp} {p : Addr} {xss : List (List V)} (h : TupsN H H' p xss) : ∃ ts : List Addr, H' p = some (.lst (ts.map V.ref)) ∧ ts.length = xss.length := by
  obtain ⟨_, ts, h1, h2, _⟩ := h
  exact ⟨ts, h1, h2⟩
theorem TupsN.push {H H' : Hp} {p t : Addr} {xss : List (List V)} {xs ys : List V} (h : TupsN H H' p xss) (e : H' p = some (.lst ys)) (h1 : H t = none) (h2 : H' t = some (.tup xs)) :
    TupsN H (upd H' p (.lst (ys ++ [.ref t]))) p (xss ++ [xs]) := by
  obtain ⟨h0, ts, a1, a2, a3⟩ := h
  rw [e] at a1
  obtain rfl : ys = ts.map V.ref := by injection a1 with a1; injection a1
  refine ⟨h0, ts ++ [t], ?_, ?_, fun i x zs b1 b2 => ?_⟩
  · rw [upd_same, List.map_append]; rfl
  · rw [List.length_append, List.length_append, a2]; rfl
  · have np : ∀ b ws, H' b = some (.tup ws) → b ≠ p := fun b ws q => ne_of q e (by intro z; cases z)
    by_cases hi : i < ts.length
    · rw [List.getElem?_append_left hi] at b1
      rw [List.getElem?_append_left (by omega)] at b2
      obtain ⟨c1, c2⟩ := a3 i x zs b1 b2
      exact ⟨c1, by rw [upd_ne (np _ _ c2)]; exact c2⟩
    · have hi2 : i = ts.length := by
        have := get_lt' b1
        rw [List.length_append] at this
        simp at this
        omega
      subst hi2
      rw [List.getElem?_append_right (Nat.le_refl _), Nat.sub_self] at b1
      rw [List.getElem?_append_right (by omega), a2, Nat.sub_self] at b2
      cases b1
      cases b2
      exact ⟨h1, by rw [upd_ne (np _ _ h2)]; exact h2⟩
theorem get_map {α β : Type} {l : List α} {g : α → β} {i : Nat} {y : β} (h : (l.map g)[i]? = some y) : ∃ x, l[i]? = some x ∧ y = g x := by
  rw [List.getElem?_map] at h
  cases e : l[i]? with
  | none => rw [e] at h; cases h
  | some x => rw [e] at h; exact ⟨x, rfl, (Option.some.inj h).symm⟩
theorem get_lt {α : Type} {l : List α} {i : Nat} {x : α} (h : l[i]? = some x) : i < l.length := (List.getElem?_eq_some_iff.mp h).1
theorem get_some {α : Type} {l : List α} {i : Nat} (h : i < l.length) : ∃ x, l[i]? = some x := ⟨l[i], List.getElem?_eq_getElem h⟩
theorem take_one {α : Type} {l : List α} {i : Nat} {x : α} (h : l[i]? = some x) : l.take (i + 1) = l.take i ++ [x] := by
  rw [List.take_add_one, h]
  rfl
end
end CW

set_option Elab.async false
set_option linter.all false
set_option maxRecDepth 100000
set_option maxHeartbeats 4000000
/-! bounds -/
namespace CW
open PySem PySem.Spec PyProof.Rows L2 CWX
section
variable {P : Program} {w : World} {K : PySem.W.Frag} {mg : Str → Option Value} {base : Heap}
def isB (lo hi n : Int) : Bool := decide (lo ≤ n) && decide (n ≤ hi)
def spWithin : Sp := fun vs H Q _ => ∃ n lo hi : Int, vs = [.int n, .int lo, .int hi] ∧ Q (.bl (isB lo hi n)) H
theorem sc_within : FnScope ["number", "low", "high"] ["number", "low", "high"] (defScope s_within) := ⟨rfl, rfl, rfl, by decide +kernel, rfl, by decide +kernel, by decide +kernel⟩
theorem ok_within (h : Here K mg "within" s_within ["number", "low", "high"]) : Def P w K mg base 1 "within" ["number", "low", "high"] spWithin := by
  refine h.ok sc_within (fun vs H Q E h => ?_) (fun f cdv A outer s H vs Q E hr h => ?_)
  · obtain ⟨n, lo, hi, rfl, _⟩ := h; rfl
  · obtain ⟨n, lo, hi, rfl, q⟩ := h
    refine ⟨_, pss_one (ps_ret (pe_chain op_le op_le (pv 1) (pv 0) (pv 2))), ?_⟩
    refine ⟨_, rfl, _, rfl, _, _, rfl, rfl, _, rfl, ?_⟩
    by_cases c : lo ≤ n
    · rw [decide_eq_true c]
      refine iteT ⟨_, rfl, _, _, rfl, rfl, ?_⟩
      have e : isB lo hi n = decide (n ≤ hi) := by unfold isB; rw [decide_eq_true c]; rfl
      rw [e] at q
      exact q
    · rw [decide_eq_false c]
      refine iteF ?_
      have e : isB lo hi n = false := by unfold isB; rw [decide_eq_false c]; rfl
      rw [e] at q
      exact q
def rgV (r : Int × Int) : List V := [.int r.1, .int r.2]
/-- the numbers at a, the ranges at b -/
def spAll (K : PySem.W.Frag) : Sp := fun vs H Q _ => ∃ (a b : Addr) (t1 t2 : Bool) (ns : List Int) (rs : List (Int × Int)), vs = [.ref a, .ref b] ∧ kinds t1 t2 = true ∧ SqG t1 K H a (ns.map V.int) ∧ TupsG t2 K H b (rs.map rgV) ∧ rs.length ≤ 1000 ∧
  ∀ H', Same H H' → Q (.bl (allIn ns rs)) H'
theorem sc_all : FnScope ["numbers", "ranges", "number", "pair"] ["numbers", "ranges"] (defScope s_all_within) := ⟨rfl, rfl, rfl, by decide +kernel, rfl, by decide +kernel, by decide +kernel⟩
theorem SqG.or {t : Bool} {H : Hp} {a : Addr} {xs : List V} (h : SqG t K H a xs) : SqL K H a xs ∨ SqT K H a xs := by
  cases t
  · exact .inl h
  · exact .inr h
theorem ok_all (B : Blt mg) (h : Here K mg "all_within" s_all_within ["numbers", "ranges"]) (W : Def P w K mg base 1 "within" ["number", "low", "high"] spWithin) : Def P w K mg base 2 "all_within" ["numbers", "ranges"] (spAll K) := by
  obtain ⟨fw, fdw, gw, kw, bw, Gw⟩ := W
  refine h.ok sc_all (fun vs H Q E h => ?_) (fun f cdv A outer s H vs Q E hr h => ?_)
  · obtain ⟨a, b, _, _, _, _, rfl, _⟩ := h; rfl
  · obtain ⟨a, b, t1, t2, ns, rs, rfl, kd, sa, sb, hl, q⟩ := h
    have hr1 : Room 1 _ := hr.mono (by decide)
    refine ⟨_, pss_cons (ps_if (pt_cmpR op_ne (pe_callB call_len_seq (by rfl) B.len PySem.boot_len (pa_cons (pv 0) pa_nil)) (pe_callB call_len_seq (by rfl) B.len PySem.boot_len (pa_cons (pv 1) pa_nil)) (nomark _)) (pss_one (ps_ret pe_bl)) pss_nil)
      (pss_one (ps_ret (pe_callB (cr_all rfl) (by rfl) B.all (by decide +kernel) (pa_cons
        (pe_lc (own := [("number", 2), ("pair", 3)]) (g := gTup K 2 (gCons (gName 2) (gCons (gName 3) gNil))) (tt := tYes) rfl sc_all.nd (pi_zipG (by rfl) B.zip (pa_cons (pv 0) (pa_cons (pv 1) pa_nil))) (blkOk_by (N := ["numbers", "ranges", "number", "pair"]) (sc := defScope s_all_within) (by decide +kernel))
          (fun _ _ _ _ _ => pg_tup rfl (pgs_cons (pg_name (i := 2) sc_all.nd rfl (.inl rfl)) (pgs_cons (pg_name (i := 3) sc_all.nd rfl (.inl rfl)) pgs_nil)))
          (fun _ _ _ _ _ => pts_nil)
          (fun _ _ _ _ _ => pe_call Gw hr1 rfl gw kw bw .nil pass0 (pa_cons (pv 2) (pa_cons (pe_ix (ixT K) (pv 3) pe_int (fun _ _ => rfl)) (pa_cons (pe_ix (ixT K) (pv 3) pe_int (fun _ _ => rfl)) pa_nil))))) pa_nil)))), ?_⟩
    obtain ⟨ts, s1, s2, s3⟩ := sb
    rw [List.length_map] at s2
    refine ⟨_, rfl, a, _, rfl, SqG.or sa, _, rfl, b, _, rfl, SqG.or s1, rfl, _, rfl, ?_⟩
    by_cases c : ns.length = rs.length
    · have e : (V.int ((ns.map V.int).length : Nat)) = V.int ((ts.map V.ref).length : Nat) := by rw [List.length_map, List.length_map, s2, c]
      refine iteNS e ?_
      refine ⟨_, rfl, _, rfl, a, b, t1, t2, _, _, rfl, kd, sa, s1, fun D hD => ?_⟩
      refine lc_it (walk_zipG (n := ns.length) (by rw [List.length_map, List.length_map, s2, c, Nat.min_self]))
        (fun i H' => Same H H' ∧ H' D = some (.lst ((((ns.zip rs).take i).map fun p => isB p.2.1 p.2.2 p.1).map V.bl)))
        ⟨Same.new hD, upd_same⟩ (fun i H' _ p => ⟨Same.seqG p.1 sa, Same.seqG p.1 s1⟩) ?_ ?_
      · rintro i x H' H'' hi ⟨sm, hd⟩ ⟨T, u, v, rfl, hT, rfl, hu, hv⟩
        obtain ⟨n, hn, rfl⟩ := get_map hu
        obtain ⟨r, hr', rfl⟩ := get_map hv
        obtain ⟨g, hg⟩ := get_some (l := rs) (i := i) (by omega)
        have sr := Same.seqT (Same.new' (o := .tup [V.int n, V.ref r]) sm hT) (s3 i r (rgV g) hr' (by rw [List.getElem?_map, hg]; rfl))
        refine ⟨T, _, rfl, .inl (.inl upd_same), rfl, _, _, rfl, _, _, rfl, rfl, rfl, yes_if ?_⟩
        refine ⟨_, rfl, _, rfl, _, _, _, _, rfl, rfl, sr, atI_nat (j := 0) rfl, _, rfl, _, _, _, _, rfl, rfl, sr, atI_nat (j := 1) rfl, n, g.1, g.2, rfl, ?_⟩
        have nDT : D ≠ T := ne_of_none hd hT
        refine ⟨_, Eq.trans (upd_ne nDT) hd, ?_, ?_⟩
        · rw [List.length_map, List.length_map, List.length_take]
          exact small1000 (by omega)
        · refine ⟨fun b' o e => ?_, ?_⟩
          · rw [upd_ne (ne_of_none e hD)]
            exact Same.new' sm hT b' o e
          · rw [upd_same]
            have ez : (ns.zip rs)[i]? = some (n, g) := by
              rw [List.getElem?_zip_eq_some]
              exact ⟨hn, hg⟩
            rw [take_one ez, List.map_append, List.map_append]
            rfl
      · rintro H' ⟨sm, hd⟩
        refine ⟨D, _, rfl, SqL.of hd, ?_⟩
        have e2 : allIn ns rs = ((((ns.zip rs).take ns.length).map fun p => isB p.2.1 p.2.2 p.1).all id) := by
          rw [allIn_zip, decide_eq_true c, List.take_of_length_le (by rw [List.length_zip]; omega)]
          rfl
        rw [← e2]
        exact q H' sm
    · have e : ¬ (V.int ((ns.map V.int).length : Nat)) = V.int ((ts.map V.ref).length : Nat) := by
        rw [List.length_map, List.length_map, s2]
        intro z
        injection z with z
        omega
      rw [decide_eq_false e]
      refine iteT ?_
      have e2 : allIn ns rs = false := by
        rw [allIn_zip, decide_eq_false c]
        rfl
      have := q H (Same.refl H)
      rw [e2] at this
      exact this
end
end CW

set_option Elab.async false
set_option linter.all false
set_option maxRecDepth 100000
set_option maxHeartbeats 4000000
/-! events -/
namespace CW
open PySem PySem.Spec PyProof.Rows L2 CWX
section
variable {P : Program} {w : World} {K : PySem.W.Frag} {mg : Str → Option Value} {base : Heap}
/-- a constant of the module: an int; a tuple of pairs -/
def CstI (mg : Str → Option Value) (x : Str) (n : Int) : Prop := ∃ t, mg x = some (.int n t)
def CstT (K : PySem.W.Frag) (mg : Str → Option Value) (x : Str) (rs : List (Int × Int)) : Prop := ∃ a, mg x = some (.ref a) ∧ ∀ H, TupsG true K H a (rs.map rgV)
def encV (e : Cp07.Event) : List V := (enc e).map V.int
theorem encV_none {e : Cp07.Event} (h : e.n = none) : encV e = [.int 0, .int e.len] := by
  unfold encV enc
  rw [h]
  rfl
theorem encV_some {e : Cp07.Event} {z : Int} (h : e.n = some z) : encV e = [.int 1, .int z, .int e.len] := by
  unfold encV enc
  rw [h]
  rfl
/-! ### is_note, length_of, step_of -/
def spIsNote (K : PySem.W.Frag) : Sp := fun vs H Q _ => ∃ (a : Addr) (e : Cp07.Event), vs = [.ref a] ∧ SqT K H a (encV e) ∧ Q (.bl e.n.isSome) H
theorem sc_is_note : FnScope ["event"] ["event"] (defScope s_is_note) := ⟨rfl, rfl, rfl, by decide +kernel, rfl, by decide +kernel, by decide +kernel⟩
theorem ok_is_note (h : Here K mg "is_note" s_is_note ["event"]) (cN : CstI mg "NOTE" 1) : Def P w K mg base 1 "is_note" ["event"] (spIsNote K) := by
  obtain ⟨t, cN⟩ := cN
  refine h.ok sc_is_note (fun vs H Q E h => ?_) (fun f cdv A outer s H vs Q E hr h => ?_)
  · obtain ⟨a, e, rfl, _⟩ := h; rfl
  · obtain ⟨a, e, rfl, sa, q⟩ := h
    refine ⟨_, pss_one (ps_ret (pe_cmpR op_eq (pe_ix ix_tup (pv 0) pe_int (fun _ _ => rfl)) (pe_glob (v := .int 1) rfl cN ⟨_, rfl⟩) (nomark _))), ?_⟩
    cases hn : e.n with
    | none =>
      rw [encV_none hn] at sa
      refine ⟨_, rfl, _, _, _, _, rfl, rfl, sa, atI_nat (j := 0) rfl, rfl, ?_⟩
      rw [hn] at q
      exact q
    | some z =>
      rw [encV_some hn] at sa
      refine ⟨_, rfl, _, _, _, _, rfl, rfl, sa, atI_nat (j := 0) rfl, rfl, ?_⟩
      rw [hn] at q
      exact q
def spLengthOf (K : PySem.W.Frag) : Sp := fun vs H Q _ => ∃ (a : Addr) (e : Cp07.Event), vs = [.ref a] ∧ SqT K H a (encV e) ∧ Q (.int e.len) H
theorem sc_length_of : FnScope ["event"] ["event"] (defScope s_length_of) := ⟨rfl, rfl, rfl, by decide +kernel, rfl, by decide +kernel, by decide +kernel⟩
theorem ok_length_of (h : Here K mg "length_of" s_length_of ["event"]) : Def P w K mg base 1 "length_of" ["event"] (spLengthOf K) := by
  refine h.ok sc_length_of (fun vs H Q E h => ?_) (fun f cdv A outer s H vs Q E hr h => ?_)
  · obtain ⟨a, e, rfl, _⟩ := h; rfl
  · obtain ⟨a, e, rfl, sa, q⟩ := h
    refine ⟨_, pss_one (ps_ret (pe_ix ix_tup (pv 0) (pe_un un_neg pe_int) (fun _ _ => rfl))), ?_⟩
    cases hn : e.n with
    | none =>
      rw [encV_none hn] at sa
      exact ⟨_, rfl, _, rfl, _, _, _, _, rfl, rfl, sa, atI_last [.int 0] _, q⟩
    | some z =>
      rw [encV_some hn] at sa
      exact ⟨_, rfl, _, rfl, _, _, _, _, rfl, rfl, sa, atI_last [.int 1, .int z] _, q⟩
def spStepOf (K : PySem.W.Frag) : Sp := fun vs H Q _ => ∃ (a : Addr) (e : Cp07.Event) (z : Int), vs = [.ref a] ∧ SqT K H a (encV e) ∧ e.n = some z ∧ Q (.int z) H
theorem sc_step_of : FnScope ["note"] ["note"] (defScope s_step_of) := ⟨rfl, rfl, rfl, by decide +kernel, rfl, by decide +kernel, by decide +kernel⟩
theorem ok_step_of (h : Here K mg "step_of" s_step_of ["note"]) : Def P w K mg base 1 "step_of" ["note"] (spStepOf K) := by
  refine h.ok sc_step_of (fun vs H Q E h => ?_) (fun f cdv A outer s H vs Q E hr h => ?_)
  · obtain ⟨a, e, z, rfl, _⟩ := h; rfl
  · obtain ⟨a, e, z, rfl, sa, hn, q⟩ := h
    refine ⟨_, pss_one (ps_ret (pe_ix ix_tup (pv 0) pe_int (fun _ _ => rfl))), ?_⟩
    rw [encV_some hn] at sa
    exact ⟨_, rfl, _, _, _, _, rfl, rfl, sa, atI_nat (j := 1) rfl, q⟩
/-! ### event_ranges -/
def spRanges (K : PySem.W.Frag) : Sp := fun vs H Q _ => ∃ z : Int, vs = [.int z] ∧ ∀ a, TupsG true K H a ((rangesOf z).map rgV) → Q (.ref a) H
theorem sc_ranges : FnScope ["kind"] ["kind"] (defScope s_event_ranges) := ⟨rfl, rfl, rfl, by decide +kernel, rfl, by decide +kernel, by decide +kernel⟩
theorem ok_ranges (h : Here K mg "event_ranges" s_event_ranges ["kind"]) (cN : CstI mg "NOTE" 1) (cA : CstT K mg "NOTE_RANGES" noteR) (cB : CstT K mg "REST_RANGES" restR) : Def P w K mg base 1 "event_ranges" ["kind"] (spRanges K) := by
  obtain ⟨t, cN⟩ := cN
  obtain ⟨a1, m1, h1⟩ := cA
  obtain ⟨a2, m2, h2⟩ := cB
  refine h.ok sc_ranges (fun vs H Q E h => ?_) (fun f cdv A outer s H vs Q E hr h => ?_)
  · obtain ⟨z, rfl, _⟩ := h; rfl
  · obtain ⟨z, rfl, q⟩ := h
    refine ⟨_, pss_cons (ps_if (pt_cmpR op_eq (pv 0) (pe_glob (v := .int 1) rfl cN ⟨_, rfl⟩) (nomark _)) (pss_one (ps_ret (pe_glob (v := .ref a1) rfl m1 rfl))) pss_nil) (pss_one (ps_ret (pe_glob (v := .ref a2) rfl m2 rfl))), ?_⟩
    refine ⟨_, rfl, rfl, _, rfl, ?_⟩
    by_cases c : z = 1
    · subst c
      exact iteT (q a1 (h1 H))
    · have e : ¬ V.int z = V.int 1 := fun x => c (by injection x)
      rw [decide_eq_false e]
      refine iteF (q a2 ?_)
      unfold rangesOf
      rw [if_neg c]
      exact h2 H
/-! ### read_events -/
theorem cut_ints (ns : List Int) (p m : Nat) : cutV (ns.map V.int) (some (p : Int)) (some ((p : Int) + (m : Int))) = ((ns.drop p).take m).map V.int := by
  have e : ((p : Int) + (m : Int)) = ((p + m : Nat) : Int) := by omega
  unfold cutV
  rw [e, HT.sIx_nat, HT.sIx_nat, List.length_map, ← List.map_drop, ← List.map_take]
  congr 1
  by_cases h : p ≤ ns.length
  · rw [Nat.min_eq_left h]
    by_cases h2 : p + m ≤ ns.length
    · rw [Nat.min_eq_left h2]
      congr 1
      omega
    · rw [Nat.min_eq_right (by omega), List.take_of_length_le (by rw [List.length_drop]; omega), List.take_of_length_le (by rw [List.length_drop]; omega)]
  · rw [Nat.min_eq_right (show ns.length ≤ p by omega), Nat.min_eq_right (show ns.length ≤ p + m by omega), List.drop_eq_nil_of_le (Nat.le_refl _), List.drop_eq_nil_of_le (show ns.length ≤ p by omega)]
    simp
def spRead (K : PySem.W.Frag) : Sp := fun vs H Q _ => ∃ (a : Addr) (ns : List Int), vs = [.ref a] ∧ SqL K H a (ns.map V.int) ∧ ns.length ≤ 1000 ∧
  (Cp07.events ns = none → ∀ H', Same H H' → Q .non H') ∧
  (∀ l, Cp07.events ns = some l → (∀ e ∈ l, Fine e) → l.length ≤ ns.length → ∀ H' p, Same H H' → TupsN H H' p (l.map encV) → Q (.ref p) H')
theorem sc_read : FnScope ["numbers", "events", "place", "ranges", "event"] ["numbers"] (defScope s_read_events) := ⟨rfl, rfl, rfl, by decide +kernel, rfl, by decide +kernel, by decide +kernel⟩
/-- behind some events, which are new in the heap -/
structure ReadInv (H : Hp) (ns : List Int) (p : Addr) (pl : Nat) (es : Cp07.Line) (H' : Hp) : Prop where
  sm : Same H H'
  tn : TupsN H H' p (es.map encV)
  le : pl ≤ ns.length
  eq : Cp07.events ns = (Cp07.events (ns.drop pl)).map fun l => es ++ l
  fine : ∀ e ∈ es, Fine e
  few : es.length ≤ pl
theorem ok_read (B : Blt mg) (h : Here K mg "read_events" s_read_events ["numbers"]) (R : Def P w K mg base 1 "event_ranges" ["kind"] (spRanges K)) (W : Def P w K mg base 2 "all_within" ["numbers", "ranges"] (spAll K)) :
    Def P w K mg base 3 "read_events" ["numbers"] (spRead K) := by
  obtain ⟨f1, fd1, g1, k1, b1, G1⟩ := R
  obtain ⟨f2, fd2, g2, k2, b2, G2⟩ := W
  refine h.ok sc_read (fun vs H Q E h => ?_) (fun f cdv A outer s H vs Q E hr h => ?_)
  · obtain ⟨a, ns, rfl, _⟩ := h; rfl
  · obtain ⟨a, ns, rfl, sa, hl, qN, qS⟩ := h
    refine ⟨_, pss_cons (ps_set (i := 1) sc_read.nd rfl (.inl rfl) (pe_lst pa_nil)) (pss_cons (ps_set (i := 2) sc_read.nd rfl (.inl rfl) pe_int)
      (pss_cons (ps_while PassesOwn.never (pt_cmpR op_lt (pv 2) (pe_callB call_len_seq (by rfl) B.len PySem.boot_len (pa_cons (pv 0) pa_nil)) (nomark _))
        (pss_cons (ps_set (i := 3) sc_read.nd rfl (.inl rfl) (pe_call G1 (hr.mono (by decide)) rfl g1 k1 b1 .nil pass0 (pa_cons (pe_ix ix_list (pv 0) (pv 2) (fun _ _ => rfl)) pa_nil)))
        (pss_cons (ps_set (i := 4) sc_read.nd rfl (.inl rfl) (pe_callTy call_tuple_of (by rfl) B.tuple (by decide +kernel) (pa_cons (pe_slice sl_list (pv 0) (po_some (pv 2)) (po_some (pe_op op_add (pv 2) (pe_callB call_len_seq (by rfl) B.len PySem.boot_len (pa_cons (pv 3) pa_nil))))) pa_nil)))
        (pss_cons (ps_if (pt_not (pt_val (pe_call G2 hr rfl g2 k2 b2 .nil pass0 (pa_cons (pv 4) (pa_cons (pv 3) pa_nil))))) (pss_one (ps_ret pe_non)) pss_nil)
        (pss_cons (ps_expr (pe_bm PySem.F.plainAttrs_list PySem.F.slot_list_append PySem.F.type_list_append mt_append (pv 1) (pa_cons (pv 4) pa_nil)))
        (pss_one (ps_aug (i := 2) sc_read.nd rfl (.inl rfl) (pe_callB call_len_seq (by rfl) B.len PySem.boot_len (pa_cons (pv 3) pa_nil)) ip_add)))))))
      (pss_one (ps_ret (pv 1))))), ?_⟩
    refine ⟨Nat.zero_le _, fun p hp => ?_⟩
    refine while_by (fun σ H' => ∃ (pl : Nat) (es : Cp07.Line) (u v : Option V), σ = [some (.ref a), some (.ref p), some (.int pl), u, v] ∧ ReadInv H ns p pl es H')
      (fun σ _ => ns.length - natAt σ 2) ?_ ?_ ?_
    · exact ⟨0, [], none, none, rfl, ⟨Same.new hp, TupsN.nil hp upd_same, Nat.zero_le _, by rw [List.drop_zero]; cases Cp07.events ns <;> simp, fun e he => by simp at he, Nat.le_refl _⟩⟩
    · rintro σ H' ⟨pl, es, u, v, rfl, I⟩
      have sa' := I.sm.seq sa
      refine ⟨_, rfl, _, rfl, a, _, rfl, .inl sa', _, _, rfl, rfl, _, rfl, ?_⟩
      rw [List.length_map]
      by_cases c : (pl : Int) < (ns.length : Nat)
      · rw [decide_eq_true c]
        refine iteT ?_
        have cl : pl < ns.length := by omega
        obtain ⟨z, hz⟩ := get_some cl
        have hd : ns.drop pl = z :: ns.drop (pl + 1) := by
          obtain ⟨h1, h2⟩ := List.getElem?_eq_some_iff.mp hz
          rw [List.drop_eq_getElem_cons h1, h2]
        refine ⟨_, rfl, _, rfl, a, _, _, _, rfl, rfl, sa', atI_nat (v := V.int z) (by rw [List.getElem?_map, hz]; rfl), z, rfl, fun ar hr' => ?_⟩
        obtain ⟨ts, t1, t2, t3⟩ := id hr'
        refine ⟨_, rfl, _, rfl, _, rfl, _, rfl, _, rfl, ar, _, rfl, .inr t1, _, _, rfl, rfl, _, rfl, a, _, rfl, sa', fun sl hsl => ?_⟩
        have tl : (ts.map V.ref).length = (rangesOf z).length := by rw [List.length_map, t2, List.length_map]
        rw [tl, cut_ints, hd]
        refine ⟨sl, _, rfl, .inl ⟨SqL.of upd_same, fun ev hev => ?_⟩⟩
        have sm1 : Same H' (upd (upd H' sl (.lst (((z :: ns.drop (pl + 1)).take (rangesOf z).length).map V.int))) ev (.tup (((z :: ns.drop (pl + 1)).take (rangesOf z).length).map V.int))) := Same.new' (Same.new hsl) hev
        have evN : H' ev = none := (Same.new hsl).free hev
        refine ⟨_, rfl, _, rfl, ev, ar, true, true, _, _, rfl, rfl, SqT.of upd_same, Same.tups sm1 hr', ?_, fun H2 s2 => ?_⟩
        · unfold rangesOf; split <;> decide
        refine ⟨_, rfl, ?_⟩
        have st := events_step z (ns.drop (pl + 1))
        rw [← hd] at st
        cases ca : allIn ((z :: ns.drop (pl + 1)).take (rangesOf z).length) (rangesOf z) with
        | false =>
          refine iteT (qN ?_ H2 (I.sm.trans (sm1.trans s2)))
          rw [hd] at st
          rw [I.eq, hd, st, ca]
          rfl
        | true =>
          refine iteF ?_
          obtain ⟨e1, e2, e3⟩ := enc_of_allIn ca
          have tn2 := (I.tn.keep (sm1.trans s2))
          obtain ⟨ts2, u1, u2⟩ := tn2.at
          have evt : H2 ev = some (.tup (((z :: ns.drop (pl + 1)).take (rangesOf z).length).map V.int)) := s2 _ _ upd_same
          refine ⟨_, rfl, .inl ⟨rfl, _, SqL.of u1⟩, _, rfl, p, _, _, rfl, rfl, u1, ?_, ?_⟩
          · rw [List.length_map, u2, List.length_map]
            have := I.few
            exact small1000 (by omega)
          have ne3 : p ≠ ev := ne_of u1 evt (by intro q; cases q)
          have sm2 : Same H (upd H2 p (.lst (ts2.map V.ref ++ [.ref ev]))) := Same.put (I.sm.trans (sm1.trans s2)) hp
          have sm3 : Same H' H2 := sm1.trans s2
          refine ⟨_, rfl, _, rfl, ar, ts.map V.ref, rfl, .inr ?_, _, _, rfl, rfl, ?_⟩
          · rcases Same.seqT (K := K) sm3 t1 with (q | ⟨o, q⟩) | q
            · exact SqT.of (by rw [upd_ne (ne_of q u1 (by intro z; cases z))]; exact q)
            · exact .inl (.inr ⟨o, by rw [upd_ne (ne_of q u1 (by intro z; cases z))]; exact q⟩)
            · exact .inr q
          have npl : (pl : Int) + ((ts.map V.ref).length : Nat) = ((pl + (rangesOf z).length : Nat) : Int) := by rw [tl]; omega
          refine ⟨⟨pl + (rangesOf z).length, es ++ [(if z = 1 then ⟨some ((ns.drop (pl + 1)).getD 0 0), ((ns.drop (pl + 1)).getD 1 0).toNat⟩ else ⟨none, ((ns.drop (pl + 1)).getD 0 0).toNat⟩)], some (.ref ar), some (.ref ev), congrArg (fun q => [some (V.ref a), some (V.ref p), some (V.int q), some (V.ref ar), some (V.ref ev)]) npl, ?_⟩, ?_⟩
          · refine ⟨sm2, ?_, ?_, ?_, fun e he => ?_, ?_⟩
            · rw [List.map_append]
              refine tn2.push u1 (I.sm.free evN) ?_
              rw [evt, e1]
              rfl
            · rw [← hd, List.length_drop] at e3
              omega
            · rw [I.eq, hd, events_step, if_pos ca, ← hd, List.drop_drop]
              cases Cp07.events (ns.drop (pl + (rangesOf z).length)) with
              | none => rfl
              | some l => simp
            · rcases List.mem_append.mp he with q | q
              · exact I.fine e q
              · rw [List.mem_singleton.mp q]
                exact e2
            · rw [List.length_append, List.length_singleton]
              have := I.few
              have : 1 ≤ (rangesOf z).length := by unfold rangesOf; split <;> decide
              omega
          · show ns.length - ((pl : Int) + ((ts.map V.ref).length : Nat)).toNat < ns.length - ((pl : Int)).toNat
            rw [npl]
            have : 1 ≤ (rangesOf z).length := by unfold rangesOf; split <;> decide
            simp only [Int.toNat_natCast]
            omega
      · rw [decide_eq_false c]
        refine iteF ⟨_, rfl, ?_⟩
        have e : ns.drop pl = [] := List.drop_eq_nil_of_le (by omega)
        refine qS es ?_ I.fine (Nat.le_trans I.few I.le) H' p I.sm I.tn
        rw [I.eq, e]
        simp [Cp07.events]
    · rintro σ H' Q1 Q2 k ⟨v, h1, u, h2, p', ys, e, hs, i, j, e1, e2, b, e3, q⟩
      exact ⟨v, h1, u, h2, p', ys, e, hs, i, j, e1, e2, b, e3, k _ _ q⟩
end
end CW

set_option Elab.async false
set_option linter.all false
set_option maxRecDepth 100000
set_option maxHeartbeats 4000000
/-! events, further -/
namespace CW
open PySem PySem.Spec PyProof.Rows L2 CWX
section
variable {P : Program} {w : World} {K : PySem.W.Frag} {mg : Str → Option Value} {base : Heap}
theorem lt16 {n : Nat} (h : n ≤ 16) : n < sizeLine := small1000 (by omega)
/-! ### write_events -/
def spWrite (K : PySem.W.Frag) : Sp := fun vs H Q _ => ∃ (a : Addr) (l : Cp07.Line), vs = [.ref a] ∧ TupsG false K H a (l.map encV) ∧ l.length ≤ 16 ∧
  ∀ H' p, Same H H' → H p = none → H' p = some (.lst ((l.flatMap enc).map V.int)) → Q (.ref p) H'
theorem sc_write : FnScope ["events", "numbers", "event"] ["events"] (defScope s_write_events) := ⟨rfl, rfl, rfl, by decide +kernel, rfl, by decide +kernel, by decide +kernel⟩
theorem enc_len (e : Cp07.Event) : (enc e).length ≤ 3 := by
  unfold enc
  split <;> simp
theorem flat_len : ∀ l : Cp07.Line, (l.flatMap enc).length ≤ 3 * l.length
  | [] => Nat.le_refl _
  | e :: l => by
    rw [List.flatMap_cons, List.length_append, List.length_cons]
    have := flat_len l
    have := enc_len e
    omega
theorem ok_write (h : Here K mg "write_events" s_write_events ["events"]) : Def P w K mg base 1 "write_events" ["events"] (spWrite K) := by
  refine h.ok sc_write (fun vs H Q E h => ?_) (fun f cdv A outer s H vs Q E hr h => ?_)
  · obtain ⟨a, l, rfl, _⟩ := h; rfl
  · obtain ⟨a, l, rfl, ⟨ts, t1, t2, t3⟩, hl, q⟩ := h
    rw [List.length_map] at t2
    refine ⟨_, pss_cons (ps_set (i := 1) sc_write.nd rfl (.inl rfl) (pe_lst pa_nil)) (pss_cons (ps_for PassesOwn.never rfl (pi_list (pv 0)) (pg_name (i := 2) sc_write.nd rfl (.inl rfl))
      (pss_one (ps_expr (pe_bm PySem.F.plainAttrs_list PySem.F.slot_list_extend PySem.F.type_list_extend mt_extT (pv 1) (pa_cons (pv 2) pa_nil))))) (pss_one (ps_ret (pv 1)))), ?_⟩
    refine ⟨Nat.zero_le _, fun p hp => ?_⟩
    refine ⟨_, rfl, a, rfl, ⟨_, (Same.new hp).seq t1⟩, for_list (K := K) (a := a) (xs := ts.map V.ref)
      (fun i σ H' => ∃ v, σ = [some (.ref a), some (.ref p), v] ∧ Same H H' ∧ H' p = some (.lst (((l.take i).flatMap enc).map V.int))) ⟨none, rfl, Same.new hp, upd_same⟩ (fun i σ H' _ ⟨_, _, sm, _⟩ => sm.seq t1) ?_ ?_⟩
    · rintro i x σ H' hi ⟨v, rfl, sm, hp'⟩
      obtain ⟨t, ht, rfl⟩ := get_map hi
      obtain ⟨e, he⟩ := get_some (l := l) (i := i) (by have := get_lt ht; omega)
      have st := Same.seqT sm (t3 i t (encV e) ht (by rw [List.getElem?_map, he]; rfl))
      refine ⟨_, rfl, .inl ⟨rfl, _, SqL.of hp'⟩, _, rfl, p, t, _, _, rfl, rfl, hp', st, ?_, ?_⟩
      · have f1 := flat_len (l.take i)
        have f2 := enc_len e
        have f3 : (l.take i).length ≤ l.length := by rw [List.length_take]; omega
        have e2 : (encV e).length = (enc e).length := List.length_map _
        rw [List.length_map, e2]
        exact Nat.le_of_lt (small1000 (by omega))
      · refine ⟨_, rfl, Same.put sm hp, ?_⟩
        rw [upd_same, take_one he, List.flatMap_append, List.map_append]
        simp [encV]
    · rintro σ H' ⟨v, rfl, sm, hp'⟩
      rw [List.length_map, t2, List.take_length] at hp'
      exact ⟨_, rfl, q H' p sm hp hp'⟩
/-! ### whole_length -/
def spWhole (K : PySem.W.Frag) : Sp := fun vs H Q _ => ∃ (a : Addr) (l : Cp07.Line), vs = [.ref a] ∧ TupsG false K H a (l.map encV) ∧ l.length ≤ 16 ∧ ∀ H', Same H H' → Q (.int (Cp07.length l)) H'
theorem sc_whole : FnScope ["events", "event"] ["events"] (defScope s_whole_length) := ⟨rfl, rfl, rfl, by decide +kernel, rfl, by decide +kernel, by decide +kernel⟩
theorem ok_whole (B : Blt mg) (h : Here K mg "whole_length" s_whole_length ["events"]) (L : Def P w K mg base 1 "length_of" ["event"] (spLengthOf K)) : Def P w K mg base 2 "whole_length" ["events"] (spWhole K) := by
  obtain ⟨f1, fd1, g1, k1, b1, G1⟩ := L
  refine h.ok sc_whole (fun vs H Q E h => ?_) (fun f cdv A outer s H vs Q E hr h => ?_)
  · obtain ⟨a, l, rfl, _⟩ := h; rfl
  · obtain ⟨a, l, rfl, ⟨ts, t1, t2, t3⟩, hl, q⟩ := h
    rw [List.length_map] at t2
    refine ⟨_, pss_one (ps_ret (pe_callB (cr_sum rfl) (by rfl) B.sum (by decide +kernel) (pa_cons
      (pe_lc (own := [("event", 1)]) (g := gName 1) (tt := tYes) rfl sc_whole.nd (pi_list (pv 0)) (blkOk_by (N := ["events", "event"]) (sc := defScope s_whole_length) (by decide +kernel))
        (fun _ _ _ _ _ => pg_name (i := 1) sc_whole.nd rfl (.inl rfl)) (fun _ _ _ _ _ => pts_nil)
        (fun _ _ _ _ _ => pe_call G1 hr rfl g1 k1 b1 .nil pass0 (pa_cons (pv 1) pa_nil))) pa_nil))), ?_⟩
    refine ⟨_, rfl, a, rfl, ⟨_, t1⟩, fun D hD => ?_⟩
    refine lc_list (K := K) (a := a) (xs := ts.map V.ref) (fun i H' => Same H H' ∧ H' D = some (.lst (((l.take i).map fun e => (e.len : Int)).map V.int))) ⟨Same.new hD, upd_same⟩ (fun i H' _ p => p.1.seq t1) ?_ ?_
    · rintro i x H' hi ⟨sm, hd⟩
      obtain ⟨t, ht, rfl⟩ := get_map hi
      obtain ⟨e, he⟩ := get_some (l := l) (i := i) (by have := get_lt ht; omega)
      have st := Same.seqT sm (t3 i t (encV e) ht (by rw [List.getElem?_map, he]; rfl))
      refine ⟨rfl, yes_if ?_⟩
      refine ⟨_, rfl, t, e, rfl, st, _, hd, ?_, Same.put sm hD, ?_⟩
      · rw [List.length_map, List.length_map, List.length_take]
        exact lt16 (by omega)
      · rw [upd_same, take_one he]
        simp
    · rintro H' ⟨sm, hd⟩
      rw [List.length_map, t2, List.take_length] at hd
      refine ⟨D, _, rfl, SqL.of hd, ?_⟩
      rw [← length_eq]
      exact q H' sm
/-! ### first_step -/
def spFirst (K : PySem.W.Frag) : Sp := fun vs H Q _ => ∃ (a : Addr) (l : Cp07.Line), vs = [.ref a] ∧ TupsG false K H a (l.map encV) ∧ Q (.int (Cp07.firstNote l)) H
theorem sc_first : FnScope ["events", "event"] ["events"] (defScope s_first_step) := ⟨rfl, rfl, rfl, by decide +kernel, rfl, by decide +kernel, by decide +kernel⟩
theorem first_drop {l : Cp07.Line} {i : Nat} {e : Cp07.Event} (he : l[i]? = some e) : Cp07.firstNote (l.drop i) = match e.n with
    | some z => z
    | none => Cp07.firstNote (l.drop (i + 1)) := by
  obtain ⟨h1, h2⟩ := List.getElem?_eq_some_iff.mp he
  rw [List.drop_eq_getElem_cons h1, h2, firstNote_cons]
  all_goals (cases e.n <;> rfl)
theorem ok_first (h : Here K mg "first_step" s_first_step ["events"]) (N : Def P w K mg base 1 "is_note" ["event"] (spIsNote K)) (S : Def P w K mg base 1 "step_of" ["note"] (spStepOf K)) : Def P w K mg base 2 "first_step" ["events"] (spFirst K) := by
  obtain ⟨f1, fd1, g1, k1, b1, G1⟩ := N
  obtain ⟨f2, fd2, g2, k2, b2, G2⟩ := S
  refine h.ok sc_first (fun vs H Q E h => ?_) (fun f cdv A outer s H vs Q E hr h => ?_)
  · obtain ⟨a, l, rfl, _⟩ := h; rfl
  · obtain ⟨a, l, rfl, ⟨ts, t1, t2, t3⟩, q⟩ := h
    rw [List.length_map] at t2
    refine ⟨_, pss_cons (ps_for PassesOwn.never rfl (pi_list (pv 0)) (pg_name (i := 1) sc_first.nd rfl (.inl rfl))
      (pss_one (ps_if (pt_val (pe_call G1 hr rfl g1 k1 b1 .nil pass0 (pa_cons (pv 1) pa_nil))) (pss_one (ps_ret (pe_call G2 hr rfl g2 k2 b2 .nil pass0 (pa_cons (pv 1) pa_nil)))) pss_nil))) (pss_one (ps_ret pe_int)), ?_⟩
    refine ⟨_, rfl, a, rfl, ⟨_, t1⟩, for_list (K := K) (a := a) (xs := ts.map V.ref)
      (fun i σ H' => H' = H ∧ (∃ v, σ = [some (.ref a), v]) ∧ Cp07.firstNote l = Cp07.firstNote (l.drop i)) ⟨rfl, ⟨none, rfl⟩, rfl⟩ (fun i σ H' _ ⟨e, _⟩ => e ▸ t1) ?_ ?_⟩
    · rintro i x σ H' hi ⟨rfl, ⟨v, rfl⟩, ef⟩
      obtain ⟨t, ht, rfl⟩ := get_map hi
      obtain ⟨e, he⟩ := get_some (l := l) (i := i) (by have := get_lt ht; omega)
      have st := t3 i t (encV e) ht (by rw [List.getElem?_map, he]; rfl)
      have fd := first_drop he
      refine ⟨_, rfl, t, e, rfl, st, _, rfl, ?_⟩
      cases hn : e.n with
      | none =>
        rw [hn] at fd
        exact iteF ⟨rfl, ⟨_, rfl⟩, ef.trans fd⟩
      | some z =>
        rw [hn] at fd
        refine iteT ⟨_, rfl, t, e, z, rfl, st, hn, ?_⟩
        rw [ef, fd] at q
        exact q
    · rintro σ H' ⟨rfl, ⟨v, rfl⟩, ef⟩
      rw [List.length_map, t2, List.drop_length] at ef
      rw [ef] at q
      exact q
end
end CW

set_option Elab.async false
set_option linter.all false
set_option maxRecDepth 100000
set_option maxHeartbeats 4000000
/-! ways -/
namespace CW
open PySem PySem.Spec PyProof.Rows L2 CWX
section
variable {P : Program} {w : World} {K : PySem.W.Frag} {mg : Str → Option Value} {base : Heap}
/-! ### fields -/
theorem lk_here {k : Str} {v : V} {r : List (Str × V)} : List.lookup k ((k, v) :: r) = some v := by
  have e : (k == k) = true := beq_self_eq_true k
  simp only [List.lookup, e]
theorem lk_past {k g : Str} {v : V} {r : List (Str × V)} (h : (k == g) = false) : List.lookup k ((g, v) :: r) = List.lookup k r := by
  simp only [List.lookup, h]
theorem put_past {f g : Str} {v x : V} {r : List (Str × V)} (h : ¬ g = f) : putF f v ((g, x) :: r) = (g, x) :: putF f v r := if_neg h
theorem put_here {f : Str} {v x : V} {r : List (Str × V)} : putF f v ((f, x) :: r) = (f, v) :: r := if_pos rfl
/-- fields by keys: a new one goes behind -/
theorem put_new {f : Str} {v : V} : ∀ {fs : List (Str × V)}, (∀ p ∈ fs, ¬ p.1 = f) → putF f v fs = fs ++ [(f, v)]
  | [], _ => rfl
  | (g, x) :: r, h => by
    rw [put_past (h (g, x) List.mem_cons_self), put_new fun p hp => h p (List.mem_cons_of_mem _ hp)]
    rfl
/-! ### Way -/
def wF (w : Cp07.Way) : List (Str × V) := [("later", .int w.late), ("higher", .int w.up), ("upside_down", .bl w.over), ("backwards", .bl w.back), ("lengths", .int w.size)]
def WayAt (C : Addr) (H : Hp) (a : Addr) (w : Cp07.Way) : Prop := ∃ dx, H a = some (.ins C dx (wF w))
theorem wF_later (w : Cp07.Way) : (wF w).lookup ("later" : Str) = some (.int w.late) := lk_here
theorem wF_higher (w : Cp07.Way) : (wF w).lookup ("higher" : Str) = some (.int w.up) := (lk_past (by decide +kernel)).trans lk_here
theorem wF_over (w : Cp07.Way) : (wF w).lookup ("upside_down" : Str) = some (.bl w.over) := (lk_past (by decide +kernel)).trans ((lk_past (by decide +kernel)).trans lk_here)
theorem wF_back (w : Cp07.Way) : (wF w).lookup ("backwards" : Str) = some (.bl w.back) := (lk_past (by decide +kernel)).trans ((lk_past (by decide +kernel)).trans ((lk_past (by decide +kernel)).trans lk_here))
theorem wF_lengths (w : Cp07.Way) : (wF w).lookup ("lengths" : Str) = some (.int w.size) := (lk_past (by decide +kernel)).trans ((lk_past (by decide +kernel)).trans ((lk_past (by decide +kernel)).trans ((lk_past (by decide +kernel)).trans lk_here)))
structure WayC (K : PySem.W.Frag) (C : Addr) : Prop where
  cl : Cls K C
  later : NoAttr K C "later"
  higher : NoAttr K C "higher"
  over : NoAttr K C "upside_down"
  back : NoAttr K C "backwards"
  lengths : NoAttr K C "lengths"
def wayBy (l : List Int) : Cp07.Way := ⟨(l.getD 0 0).toNat, l.getD 1 0, l.getD 2 0 == 1, l.getD 3 0 == 1, (l.getD 4 0).toNat⟩
def spWayInit (K : PySem.W.Frag) (C : Addr) : Sp := fun vs H Q _ => ∃ (p a dx : Addr) (ns : List Int), vs = [.ref p, .ref a] ∧ H p = some (.ins C dx []) ∧ SqL K H a (ns.map V.int) ∧ allIn ns wayR = true ∧
  ∀ H' : Hp, WayAt C H' p (wayBy ns) → (∀ b o, H b = some o → b ≠ p → H' b = some o) → Q .non H'
theorem sc_way_init : FnScope ["self", "numbers"] ["self", "numbers"] (defScope s_Way_init) := ⟨rfl, rfl, rfl, by decide +kernel, rfl, by decide +kernel, by decide +kernel⟩
theorem way_five {ns : List Int} (h : allIn ns wayR = true) : ∃ t u o b z : Int, ns = [t, u, o, b, z] ∧ (0 ≤ t ∧ t ≤ 4096) ∧ (-28 ≤ u ∧ u ≤ 28) ∧ (0 ≤ o ∧ o ≤ 1) ∧ (0 ≤ b ∧ b ≤ 1) ∧ (1 ≤ z ∧ z ≤ 3) := by
  have hl := allIn_len _ _ h
  match ns, hl with
  | [t, u, o, b, z], _ =>
    simp only [allIn, wayR, Bool.and_eq_true, decide_eq_true_eq] at h
    exact ⟨t, u, o, b, z, rfl, h.1, h.2.1, h.2.2.1, h.2.2.2.1, h.2.2.2.2.1⟩
theorem dec_one (z : Int) : decide (V.int z = V.int 1) = (z == 1) := by
  by_cases h : z = 1
  · subst h; rfl
  · rw [decide_eq_false (fun e => h (by injection e)), beq_eq_false_iff_ne.mpr h]
/-- what stands elsewhere is seen through a write -/
theorem seq_put {H : Hp} {a p : Addr} {xs : List V} {o o' : HO} (hp : H p = some o') (hn : ∀ ys, o' ≠ .lst ys) (hf : ∀ ob ys, o' ≠ .frz ob (.lst ys)) (h : SqL K H a xs) : SqL K (upd H p o) a xs := by
  rcases h with (h | ⟨ob, h⟩) | h
  · exact .inl (.inl (by rw [upd_ne (ne_of h hp fun z => hn _ z.symm)]; exact h))
  · exact .inl (.inr ⟨ob, by rw [upd_ne (ne_of h hp fun z => hf _ _ z.symm)]; exact h⟩)
  · exact .inr h
theorem seq_ins {H : Hp} {a p C dx : Addr} {xs : List V} {fs : List (Str × V)} {o : HO} (hp : H p = some (.ins C dx fs)) (h : SqL K H a xs) : SqL K (upd H p o) a xs :=
  seq_put hp (fun _ z => nomatch z) (fun _ _ z => nomatch z) h
def wf1 (t : Int) : List (Str × V) := [("later", .int t)]
def wf2 (t u : Int) : List (Str × V) := [("later", .int t), ("higher", .int u)]
def wf3 (t u : Int) (o : Bool) : List (Str × V) := [("later", .int t), ("higher", .int u), ("upside_down", .bl o)]
def wf4 (t u : Int) (o b : Bool) : List (Str × V) := [("later", .int t), ("higher", .int u), ("upside_down", .bl o), ("backwards", .bl b)]
def wf5 (t u : Int) (o b : Bool) (z : Int) : List (Str × V) := [("later", .int t), ("higher", .int u), ("upside_down", .bl o), ("backwards", .bl b), ("lengths", .int z)]
theorem wf2_eq (t u : Int) : putF "higher" (.int u) (wf1 t) = wf2 t u := put_new (by simp [wf1]; decide +kernel)
theorem wf3_eq (t u : Int) (o : Bool) : putF "upside_down" (.bl o) (wf2 t u) = wf3 t u o := put_new (by simp [wf1, wf2]; decide +kernel)
theorem wf4_eq (t u : Int) (o b : Bool) : putF "backwards" (.bl b) (wf3 t u o) = wf4 t u o b := put_new (by simp [wf1, wf2, wf3]; decide +kernel)
theorem wf5_eq (t u : Int) (o b : Bool) (z : Int) : putF "lengths" (.int z) (wf4 t u o b) = wf5 t u o b z := put_new (by simp [wf1, wf2, wf3, wf4]; decide +kernel)
theorem ok_way_init {C : Addr} (h : HereI K mg C "Way" "Way.__init__" s_Way_init ["self", "numbers"]) (T : WayC K C) : DefI P w K mg base C 1 "Way" ["self", "numbers"] (spWayInit K C) := by
  refine h.ok sc_way_init (fun vs H Q E h => ?_) (fun f cdv A outer s H vs Q E hr h => ?_)
  · obtain ⟨p, a, dx, ns, rfl, _⟩ := h; rfl
  · obtain ⟨p, a, dx, ns, rfl, hp, sa, ha, q⟩ := h
    obtain ⟨t, u, o, b, z, rfl, ht, hu, ho, hb, hz⟩ := way_five ha
    refine ⟨_, pss_cons (ps_fld (pv 0) (pe_ix ix_list (pv 1) pe_int (fun _ _ => rfl)) rfl) (pss_cons (ps_fld (pv 0) (pe_ix ix_list (pv 1) pe_int (fun _ _ => rfl)) rfl)
      (pss_cons (ps_fld (pv 0) (pe_cmpR op_eq (pe_ix ix_list (pv 1) pe_int (fun _ _ => rfl)) pe_int (nomark _)) rfl) (pss_cons (ps_fld (pv 0) (pe_cmpR op_eq (pe_ix ix_list (pv 1) pe_int (fun _ _ => rfl)) pe_int (nomark _)) rfl)
      (pss_one (ps_fld (pv 0) (pe_ix ix_list (pv 1) pe_int (fun _ _ => rfl)) rfl))))), ?_⟩
    have s1 := seq_ins (o := .ins C dx (wf1 t)) hp sa
    refine ⟨_, rfl, a, _, _, _, rfl, rfl, sa, atI_nat (j := 0) rfl, _, rfl, p, C, dx, _, rfl, hp, T.cl, T.later, (by show 0 < 1000; decide), ?_⟩
    show _
    have s2 := seq_ins (o := .ins C dx (wf2 t u)) upd_same s1
    refine ⟨_, rfl, a, _, _, _, rfl, rfl, s1, atI_nat (j := 1) rfl, _, rfl, p, C, dx, wf1 t, rfl, upd_same, T.cl, T.higher, (by show 1 < 1000; decide), ?_⟩
    rw [wf2_eq]
    have s3 := seq_ins (o := .ins C dx (wf3 t u (decide (V.int o = V.int 1)))) upd_same s2
    refine ⟨_, rfl, a, _, _, _, rfl, rfl, s2, atI_nat (j := 2) rfl, rfl, _, rfl, p, C, dx, wf2 t u, rfl, upd_same, T.cl, T.over, (by show 2 < 1000; decide), ?_⟩
    rw [wf3_eq]
    have s4 := seq_ins (o := .ins C dx (wf4 t u (decide (V.int o = V.int 1)) (decide (V.int b = V.int 1)))) upd_same s3
    refine ⟨_, rfl, a, _, _, _, rfl, rfl, s3, atI_nat (j := 3) rfl, rfl, _, rfl, p, C, dx, wf3 t u _, rfl, upd_same, T.cl, T.back, (by show 3 < 1000; decide), ?_⟩
    rw [wf4_eq]
    refine ⟨_, rfl, a, _, _, _, rfl, rfl, s4, atI_nat (j := 4) rfl, _, rfl, p, C, dx, wf4 t u _ _, rfl, upd_same, T.cl, T.lengths, (by show 4 < 1000; decide), ?_⟩
    rw [wf5_eq]
    refine q _ ⟨dx, upd_same.trans ?_⟩ fun c ob e hc => by
      rw [upd_ne hc, upd_ne hc, upd_ne hc, upd_ne hc, upd_ne hc]
      exact e
    have f1 : ((t.toNat : Nat) : Int) = t := Int.toNat_of_nonneg ht.1
    have f2 : ((z.toNat : Nat) : Int) = z := Int.toNat_of_nonneg (by omega)
    show some (HO.ins C dx (wf5 t u (decide (V.int o = V.int 1)) (decide (V.int b = V.int 1)) z)) = some (HO.ins C dx (wf5 ((t.toNat : Nat) : Int) u (o == 1) (b == 1) ((z.toNat : Nat) : Int)))
    rw [f1, f2, dec_one, dec_one]
end
end CW

set_option Elab.async false
set_option linter.all false
set_option maxRecDepth 100000
set_option maxHeartbeats 4000000
/-! ways, further -/
namespace CW
open PySem PySem.Spec PyProof.Rows L2 CWX
section
variable {P : Program} {w : World} {K : PySem.W.Frag} {mg : Str → Option Value} {base : Heap}
/-! ### read_way -/
structure WayFine (w : Cp07.Way) : Prop where
  late : w.late ≤ 4096
  size : 1 ≤ w.size ∧ w.size ≤ 3
def spReadWay (K : PySem.W.Frag) (C : Addr) : Sp := fun vs H Q _ => ∃ (a : Addr) (ns : List Int), vs = [.ref a] ∧ SqL K H a (ns.map V.int) ∧
  (Cp07.wayOf ns = none → ∀ H', Same H H' → Q .non H') ∧ (∀ w, Cp07.wayOf ns = some w → WayFine w → ∀ H' p, Same H H' → H p = none → WayAt C H' p w → Q (.ref p) H')
theorem sc_read_way : FnScope ["numbers"] ["numbers"] (defScope s_read_way) := ⟨rfl, rfl, rfl, by decide +kernel, rfl, by decide +kernel, by decide +kernel⟩
theorem ok_read_way {C : Addr} (h : Here K mg "read_way" s_read_way ["numbers"]) (cW : CstT K mg "WAY_RANGES" wayR) (W : Def P w K mg base 2 "all_within" ["numbers", "ranges"] (spAll K)) (I : DefI P w K mg base C 1 "Way" ["self", "numbers"] (spWayInit K C)) :
    Def P w K mg base 3 "read_way" ["numbers"] (spReadWay K C) := by
  obtain ⟨f2, fd2, g2, k2, b2, G2⟩ := W
  obtain ⟨gC, fI, fdI, M, bI, GI⟩ := I
  obtain ⟨ar, mr, hR⟩ := cW
  refine h.ok sc_read_way (fun vs H Q E h => ?_) (fun f cdv A outer s H vs Q E hr h => ?_)
  · obtain ⟨a, ns, rfl, _⟩ := h; rfl
  · obtain ⟨a, ns, rfl, sa, qN, qS⟩ := h
    refine ⟨_, pss_cons (ps_if (pt_not (pt_val (pe_call G2 hr rfl g2 k2 b2 .nil pass0 (pa_cons (pv 0) (pa_cons (pe_glob (v := .ref ar) rfl mr rfl) pa_nil))))) (pss_one (ps_ret pe_non)) pss_nil)
      (pss_one (ps_ret (pe_make M GI hr rfl gC bI .nil pass0 (pa_cons (pv 0) pa_nil)))), ?_⟩
    refine ⟨_, rfl, a, ar, false, true, ns, wayR, rfl, rfl, sa, hR H, by decide, fun H1 s1 => ⟨_, rfl, ?_⟩⟩
    have e := wayOf_eq ns
    cases ca : allIn ns wayR with
    | false =>
      rw [ca] at e
      exact iteT (qN e H1 s1)
    | true =>
      rw [ca, if_pos rfl] at e
      refine iteF ?_
      refine ⟨_, rfl, fun x dx nx nd ne => ?_⟩
      have s2 : Same H1 (upd (upd H1 dx (.own x)) x (.ins C dx [])) := Same.new' (Same.new nd) (by rw [upd_ne ne.symm]; exact nx)
      refine ⟨x, a, dx, ns, rfl, upd_same, (s1.trans s2).seq sa, ca, fun H2 W2 kp => ⟨rfl, ?_⟩⟩
      obtain ⟨t, u, o, b, z, rfl, ht, hu, ho, hb, hz⟩ := way_five ca
      refine qS _ e ⟨?_, ?_⟩ H2 x (s1.trans (Same.made nx nd kp)) (s1.free nx) W2
      · show t.toNat ≤ 4096; omega
      · show 1 ≤ z.toNat ∧ z.toNat ≤ 3; omega
/-! ### can_be_had -/
def canHave (l : Cp07.Line) (w : Cp07.Way) : Bool := if w.size = 3 then Cp07.halves l else true
def spCan (K : PySem.W.Frag) (C : Addr) : Sp := fun vs H Q _ => ∃ (a b : Addr) (l : Cp07.Line) (w : Cp07.Way), vs = [.ref a, .ref b] ∧ TupsG false K H a (l.map encV) ∧ l.length ≤ 16 ∧ WayAt C H b w ∧ ∀ H', Same H H' → Q (.bl (canHave l w)) H'
theorem sc_can : FnScope ["events", "way", "event"] ["events", "way"] (defScope s_can_be_had) := ⟨rfl, rfl, rfl, by decide +kernel, rfl, by decide +kernel, by decide +kernel⟩
theorem half_dec (n : Nat) : decide (V.int ((n : Int) % 2) = V.int 0) = (n % 2 == 0) := by
  by_cases h : n % 2 = 0
  · have e : ((n : Int) % 2) = 0 := by omega
    rw [e, h]
    rfl
  · rw [decide_eq_false, beq_eq_false_iff_ne.mpr h]
    intro x
    injection x with x
    omega
theorem ok_can {C : Addr} (B : Blt mg) (T : WayC K C) (h : Here K mg "can_be_had" s_can_be_had ["events", "way"]) (cH : CstI mg "HALF_AS_LONG" 3) (L : Def P w K mg base 1 "length_of" ["event"] (spLengthOf K)) :
    Def P w K mg base 2 "can_be_had" ["events", "way"] (spCan K C) := by
  obtain ⟨f1, fd1, g1, k1, b1, G1⟩ := L
  obtain ⟨t, cH⟩ := cH
  refine h.ok sc_can (fun vs H Q E h => ?_) (fun f cdv A outer s H vs Q E hr h => ?_)
  · obtain ⟨a, b, l, w, rfl, _⟩ := h; rfl
  · obtain ⟨a, b, l, w, rfl, ⟨ts, t1, t2, t3⟩, hl, ⟨dx, hb⟩, q⟩ := h
    rw [List.length_map] at t2
    refine ⟨_, pss_cons (ps_if (pt_cmpR op_ne (pe_fld (pv 1) rfl) (pe_glob (v := .int 3) rfl cH ⟨_, rfl⟩) (nomark _)) (pss_one (ps_ret pe_bl)) pss_nil)
      (pss_one (ps_ret (pe_callB (cr_all rfl) (by rfl) B.all (by decide +kernel) (pa_cons
      (pe_lc (own := [("event", 2)]) (g := gName 2) (tt := tYes) rfl sc_can.nd (pi_list (pv 0)) (blkOk_by (N := ["events", "way", "event"]) (sc := defScope s_can_be_had) (by decide +kernel))
        (fun _ _ _ _ _ => pg_name (i := 2) sc_can.nd rfl (.inl rfl)) (fun _ _ _ _ _ => pts_nil)
        (fun _ _ _ _ _ => pe_cmpR op_eq (pe_op op_mod (pe_call G1 hr rfl g1 k1 b1 .nil pass0 (pa_cons (pv 2) pa_nil)) pe_int) pe_int (nomark _))) pa_nil)))), ?_⟩
    refine ⟨_, rfl, b, C, dx, _, _, rfl, hb, T.cl, T.lengths, wF_lengths w, rfl, _, rfl, ?_⟩
    by_cases c : w.size = 3
    · have e : V.int (w.size : Int) = V.int 3 := by rw [c]; rfl
      refine iteNS e ?_
      refine ⟨_, rfl, a, rfl, ⟨_, t1⟩, fun D hD => ?_⟩
      refine lc_list (K := K) (a := a) (xs := ts.map V.ref) (fun i H' => Same H H' ∧ H' D = some (.lst (((l.take i).map fun e => e.len % 2 == 0).map V.bl))) ⟨Same.new hD, upd_same⟩ (fun i H' _ p => p.1.seq t1) ?_ ?_
      · rintro i x H' hi ⟨sm, hd⟩
        obtain ⟨t, ht, rfl⟩ := get_map hi
        obtain ⟨e, he⟩ := get_some (l := l) (i := i) (by have := get_lt ht; omega)
        have st := Same.seqT sm (t3 i t (encV e) ht (by rw [List.getElem?_map, he]; rfl))
        refine ⟨rfl, yes_if ?_⟩
        refine ⟨_, rfl, t, e, rfl, st, _, _, rfl, rfl, (by show (0 : Int) < 2; decide), rfl, _, hd, ?_, Same.put sm hD, ?_⟩
        · rw [List.length_map, List.length_map, List.length_take]
          exact lt16 (by omega)
        · rw [upd_same, take_one he, half_dec]
          simp
      · rintro H' ⟨sm, hd⟩
        rw [List.length_map, t2, List.take_length] at hd
        refine ⟨D, _, rfl, SqL.of hd, ?_⟩
        have e2 : (l.map fun e => e.len % 2 == 0).all id = canHave l w := by
          unfold canHave Cp07.halves
          rw [if_pos c, List.all_map]
          rfl
        rw [e2]
        exact q H' sm
    · have e : ¬ V.int (w.size : Int) = V.int 3 := by
        intro x
        injection x with x
        omega
      rw [decide_eq_false e]
      refine iteT ?_
      have e2 : canHave l w = true := if_neg c
      have := q H (Same.refl H)
      rw [e2] at this
      exact this
/-! ### step_by_way, length_by_way -/
def spStepBy (C : Addr) : Sp := fun vs H Q _ => ∃ (b : Addr) (z f : Int) (w : Cp07.Way), vs = [.int z, .int f, .ref b] ∧ WayAt C H b w ∧ Q (.int ((if w.over then 2 * f - z else z) + w.up)) H
theorem sc_step_by : FnScope ["step", "first", "way"] ["step", "first", "way"] (defScope s_step_by_way) := ⟨rfl, rfl, rfl, by decide +kernel, rfl, by decide +kernel, by decide +kernel⟩
theorem ok_step_by {C : Addr} (T : WayC K C) (h : Here K mg "step_by_way" s_step_by_way ["step", "first", "way"]) : Def P w K mg base 1 "step_by_way" ["step", "first", "way"] (spStepBy C) := by
  refine h.ok sc_step_by (fun vs H Q E h => ?_) (fun f cdv A outer s H vs Q E hr h => ?_)
  · obtain ⟨b, z, f, w, rfl, _⟩ := h; rfl
  · obtain ⟨b, z, f, w, rfl, ⟨dx, hb⟩, q⟩ := h
    refine ⟨_, pss_cons (ps_if (pt_val (pe_fld (pv 2) rfl)) (pss_one (ps_ret (pe_op op_add (pe_op op_sub (pv 1) (pe_op op_sub (pv 0) (pv 1))) (pe_fld (pv 2) rfl)))) pss_nil)
      (pss_one (ps_ret (pe_op op_add (pv 0) (pe_fld (pv 2) rfl)))), ?_⟩
    refine ⟨_, rfl, b, C, dx, _, _, rfl, hb, T.cl, T.over, wF_over w, _, rfl, ?_⟩
    cases ho : w.over with
    | true =>
      refine iteT ⟨_, rfl, _, rfl, _, rfl, _, _, rfl, rfl, _, _, rfl, rfl, _, rfl, b, C, dx, _, _, rfl, hb, T.cl, T.higher, wF_higher w, _, _, rfl, rfl, ?_⟩
      rw [ho, if_pos rfl] at q
      have e : f - (z - f) + w.up = 2 * f - z + w.up := by omega
      show Q (.int (f - (z - f) + w.up)) H
      rw [e]
      exact q
    | false =>
      refine iteF ⟨_, rfl, _, rfl, b, C, dx, _, _, rfl, hb, T.cl, T.higher, wF_higher w, _, _, rfl, rfl, ?_⟩
      rw [ho, if_neg (by decide)] at q
      exact q
def lenBy (n : Nat) (w : Cp07.Way) : Nat := if w.size = 2 then 2 * n else if w.size = 3 then n / 2 else n
def spLenBy (C : Addr) : Sp := fun vs H Q _ => ∃ (b : Addr) (n : Nat) (w : Cp07.Way), vs = [.int n, .ref b] ∧ WayAt C H b w ∧ Q (.int (lenBy n w)) H
theorem sc_len_by : FnScope ["length", "way"] ["length", "way"] (defScope s_length_by_way) := ⟨rfl, rfl, rfl, by decide +kernel, rfl, by decide +kernel, by decide +kernel⟩
theorem ok_len_by {C : Addr} (T : WayC K C) (h : Here K mg "length_by_way" s_length_by_way ["length", "way"]) (c2 : CstI mg "TWICE_AS_LONG" 2) (c3 : CstI mg "HALF_AS_LONG" 3) : Def P w K mg base 1 "length_by_way" ["length", "way"] (spLenBy C) := by
  obtain ⟨t2, c2⟩ := c2
  obtain ⟨t3, c3⟩ := c3
  refine h.ok sc_len_by (fun vs H Q E h => ?_) (fun f cdv A outer s H vs Q E hr h => ?_)
  · obtain ⟨b, n, w, rfl, _⟩ := h; rfl
  · obtain ⟨b, n, w, rfl, ⟨dx, hb⟩, q⟩ := h
    refine ⟨_, pss_cons (ps_if (pt_cmpR op_eq (pe_fld (pv 1) rfl) (pe_glob (v := .int 2) rfl c2 ⟨_, rfl⟩) (nomark _)) (pss_one (ps_ret (pe_op op_mul (pv 0) pe_int))) pss_nil)
      (pss_cons (ps_if (pt_cmpR op_eq (pe_fld (pv 1) rfl) (pe_glob (v := .int 3) rfl c3 ⟨_, rfl⟩) (nomark _)) (pss_one (ps_ret (pe_op op_fdiv (pv 0) pe_int))) pss_nil)
      (pss_one (ps_ret (pv 0)))), ?_⟩
    refine ⟨_, rfl, b, C, dx, _, _, rfl, hb, T.cl, T.lengths, wF_lengths w, rfl, _, rfl, ?_⟩
    by_cases e2 : w.size = 2
    · have d : decide (V.int (w.size : Int) = V.int 2) = true := by rw [e2]; rfl
      rw [d]
      refine iteT ⟨_, rfl, _, _, rfl, rfl, .inr ⟨by decide, by decide⟩, ?_⟩
      have e : ((lenBy n w : Nat) : Int) = (n : Int) * 2 := by unfold lenBy; rw [if_pos e2]; omega
      rw [e] at q
      exact q
    · have ne : ¬ V.int (w.size : Int) = V.int 2 := fun x => by
        injection x with x
        omega
      rw [decide_eq_false ne]
      refine iteF ⟨_, rfl, b, C, dx, _, _, rfl, hb, T.cl, T.lengths, wF_lengths w, rfl, _, rfl, ?_⟩
      by_cases e3 : w.size = 3
      · have d : decide (V.int (w.size : Int) = V.int 3) = true := by rw [e3]; rfl
        rw [d]
        refine iteT ⟨_, rfl, _, _, rfl, rfl, ⟨by decide, by decide⟩, ?_⟩
        have e : ((lenBy n w : Nat) : Int) = (n : Int) / 2 := by unfold lenBy; rw [if_neg e2, if_pos e3]; omega
        rw [e] at q
        exact q
      · have ne : ¬ V.int (w.size : Int) = V.int 3 := fun x => by
          injection x with x
          omega
        rw [decide_eq_false ne]
        refine iteF ⟨_, rfl, ?_⟩
        have e : lenBy n w = n := by unfold lenBy; rw [if_neg e2, if_neg e3]
        rw [e] at q
        exact q
/-! ### event_by_way -/
def spEventBy (K : PySem.W.Frag) (C : Addr) : Sp := fun vs H Q _ => ∃ (a b : Addr) (e : Cp07.Event) (f : Int) (w : Cp07.Way), vs = [.ref a, .int f, .ref b] ∧ SqT K H a (encV e) ∧ WayAt C H b w ∧
  ∀ t, H t = none → Q (.ref t) (upd H t (.tup (encV (evBy f w e))))
theorem sc_event_by : FnScope ["event", "first", "way", "length"] ["event", "first", "way"] (defScope s_event_by_way) := ⟨rfl, rfl, rfl, by decide +kernel, rfl, by decide +kernel, by decide +kernel⟩
theorem ok_event_by {C : Addr} (h : Here K mg "event_by_way" s_event_by_way ["event", "first", "way"]) (cN : CstI mg "NOTE" 1) (cR : CstI mg "REST" 0) (L : Def P w K mg base 1 "length_of" ["event"] (spLengthOf K)) (N : Def P w K mg base 1 "is_note" ["event"] (spIsNote K))
    (S : Def P w K mg base 1 "step_of" ["note"] (spStepOf K)) (SB : Def P w K mg base 1 "step_by_way" ["step", "first", "way"] (spStepBy C)) (LB : Def P w K mg base 1 "length_by_way" ["length", "way"] (spLenBy C)) :
    Def P w K mg base 2 "event_by_way" ["event", "first", "way"] (spEventBy K C) := by
  obtain ⟨f1, fd1, g1, k1, b1, G1⟩ := L
  obtain ⟨f2, fd2, g2, k2, b2, G2⟩ := N
  obtain ⟨f3, fd3, g3, k3, b3, G3⟩ := S
  obtain ⟨f4, fd4, g4, k4, b4, G4⟩ := SB
  obtain ⟨f5, fd5, g5, k5, b5, G5⟩ := LB
  obtain ⟨tN, cN⟩ := cN
  obtain ⟨tR, cR⟩ := cR
  refine h.ok sc_event_by (fun vs H Q E h => ?_) (fun f cdv A outer s H vs Q E hr h => ?_)
  · obtain ⟨a, b, e, f, w, rfl, _⟩ := h; rfl
  · obtain ⟨a, b, e, f, w, rfl, sa, wb, q⟩ := h
    refine ⟨_, pss_cons (ps_set (i := 3) sc_event_by.nd rfl (.inl rfl) (pe_call G5 hr rfl g5 k5 b5 .nil pass0 (pa_cons (pe_call G1 hr rfl g1 k1 b1 .nil pass0 (pa_cons (pv 0) pa_nil)) (pa_cons (pv 2) pa_nil))))
      (pss_cons (ps_if (pt_val (pe_call G2 hr rfl g2 k2 b2 .nil pass0 (pa_cons (pv 0) pa_nil)))
        (pss_one (ps_ret (pe_tup (pa_cons (pe_glob (v := .int 1) rfl cN ⟨_, rfl⟩) (pa_cons (pe_call G4 hr rfl g4 k4 b4 .nil pass0 (pa_cons (pe_call G3 hr rfl g3 k3 b3 .nil pass0 (pa_cons (pv 0) pa_nil)) (pa_cons (pv 1) (pa_cons (pv 2) pa_nil)))) (pa_cons (pv 3) pa_nil)))))) pss_nil)
      (pss_one (ps_ret (pe_tup (pa_cons (pe_glob (v := .int 0) rfl cR ⟨_, rfl⟩) (pa_cons (pv 3) pa_nil)))))), ?_⟩
    refine ⟨_, rfl, a, e, rfl, sa, _, rfl, b, e.len, w, rfl, wb, ?_⟩
    refine ⟨_, rfl, a, e, rfl, sa, _, rfl, ?_⟩
    cases hn : e.n with
    | none =>
      refine iteF ⟨_, rfl, (by show 2 ≤ sizeLine; decide), fun t ht => ?_⟩
      have q2 := q t ht
      have e2 : (evBy f w e).n = none := by unfold evBy; rw [hn]; rfl
      rw [encV_none e2] at q2
      exact q2
    | some z =>
      refine iteT ⟨_, rfl, a, e, z, rfl, sa, hn, _, rfl, _, rfl, b, z, f, w, rfl, wb, _, rfl, (by show 3 ≤ sizeLine; decide), fun t ht => ?_⟩
      have q2 := q t ht
      have e2 : (evBy f w e).n = some ((if w.over then 2 * f - z else z) + w.up) := by unfold evBy; rw [hn]; rfl
      rw [encV_some e2] at q2
      exact q2
end
end CW

set_option Elab.async false
set_option linter.all false
set_option maxRecDepth 100000
set_option maxHeartbeats 4000000
/-! events_by_way -/
namespace CW
open PySem PySem.Spec PyProof.Rows L2 CWX
section
variable {P : Program} {w : World} {K : PySem.W.Frag} {mg : Str → Option Value} {base : Heap}
theorem TupsN.rev {H H' : Hp} {p : Addr} {xss : List (List V)} {ys : List V} (h : TupsN H H' p xss) (e : H' p = some (.lst ys)) : TupsN H (upd H' p (.lst ys.reverse)) p xss.reverse := by
  obtain ⟨h0, ts, a1, a2, a3⟩ := h
  rw [e] at a1
  obtain rfl : ys = ts.map V.ref := by injection a1 with a1; injection a1
  refine ⟨h0, ts.reverse, ?_, by rw [List.length_reverse, List.length_reverse, a2], fun i x zs b1 b2 => ?_⟩
  · rw [upd_same, List.map_reverse]
  · have hi := get_lt b1
    rw [List.length_reverse] at hi
    rw [List.getElem?_reverse hi] at b1
    rw [List.getElem?_reverse (by omega)] at b2
    rw [← a2] at b2
    obtain ⟨c1, c2⟩ := a3 _ x zs b1 b2
    exact ⟨c1, by rw [upd_ne (ne_of c2 e (by intro z; cases z))]; exact c2⟩
def byWay (l : Cp07.Line) (w : Cp07.Way) : Cp07.Line := if w.back then (l.map (evBy (Cp07.firstNote l) w)).reverse else l.map (evBy (Cp07.firstNote l) w)
theorem byWay_len (l : Cp07.Line) (w : Cp07.Way) : (byWay l w).length = l.length := by
  unfold byWay
  split
  · rw [List.length_reverse, List.length_map]
  · rw [List.length_map]
theorem voiced_can (l : Cp07.Line) (w : Cp07.Way) : Cp07.voiced l w = if canHave l w = true then some (byWay l w) else none := by
  rw [voiced_eq]
  unfold canHave
  by_cases h : w.size = 3
  · rw [if_pos h]
    cases hh : Cp07.halves l
    · rw [if_pos ⟨h, rfl⟩, if_neg (by decide)]
    · rw [if_neg (by simp), if_pos rfl]
      rfl
  · rw [if_neg (fun x => h x.1), if_neg h, if_pos rfl]
    rfl
def spEventsBy (K : PySem.W.Frag) (C : Addr) : Sp := fun vs H Q _ => ∃ (a b : Addr) (l : Cp07.Line) (w : Cp07.Way), vs = [.ref a, .ref b] ∧ TupsG false K H a (l.map encV) ∧ l.length ≤ 16 ∧ WayAt C H b w ∧
  ∀ H' p, Same H H' → TupsN H H' p ((byWay l w).map encV) → Q (.ref p) H'
theorem sc_events_by : FnScope ["events", "way", "first", "changed", "event"] ["events", "way"] (defScope s_events_by_way) := ⟨rfl, rfl, rfl, by decide +kernel, rfl, by decide +kernel, by decide +kernel⟩
theorem ok_events_by {C : Addr} (T : WayC K C) (h : Here K mg "events_by_way" s_events_by_way ["events", "way"]) (F : Def P w K mg base 2 "first_step" ["events"] (spFirst K)) (EB : Def P w K mg base 2 "event_by_way" ["event", "first", "way"] (spEventBy K C)) :
    Def P w K mg base 3 "events_by_way" ["events", "way"] (spEventsBy K C) := by
  obtain ⟨f1, fd1, g1, k1, b1, G1⟩ := F
  obtain ⟨f2, fd2, g2, k2, b2, G2⟩ := EB
  refine h.ok sc_events_by (fun vs H Q E h => ?_) (fun f cdv A outer s H vs Q E hr h => ?_)
  · obtain ⟨a, b, l, w, rfl, _⟩ := h; rfl
  · obtain ⟨a, b, l, w, rfl, tl, hl, wb, q⟩ := h
    obtain ⟨ts, t1, t2, t3⟩ := id tl
    rw [List.length_map] at t2
    refine ⟨_, pss_cons (ps_set (i := 2) sc_events_by.nd rfl (.inr rfl) (pe_call G1 hr rfl g1 k1 b1 .nil pass0 (pa_cons (pv 0) pa_nil)))
      (pss_cons (ps_setLc (i := 3) (own := [("event", 4)]) (g := gName 4) (tt := tYes) rfl sc_events_by.nd rfl rfl (sw_true rfl rfl rfl (by decide +kernel)) (pi_list (pv 0))
        (blkOk_by (N := ["events", "way", "first", "changed", "event"]) (sc := defScope s_events_by_way) (by decide +kernel))
        (fun _ _ _ _ _ => pg_name (i := 4) sc_events_by.nd rfl (.inl rfl)) (fun _ _ _ _ _ => pts_nil)
        (fun _ _ _ _ _ => pe_call G2 hr rfl g2 k2 b2 .nil pass0 (pa_cons (pv 4) (pa_cons (pv 2) (pa_cons (pv 1) pa_nil)))))
      (pss_cons (ps_if (pt_val (pe_fld (pv 1) rfl)) (pss_one (ps_expr (pe_bm0 PySem.F.plainAttrs_list PySem.F.slot_list_reverse PySem.F.type_list_reverse mt_reverse (pv 3)))) pss_nil)
      (pss_one (ps_ret (pv 3))))), ?_⟩
    refine ⟨_, rfl, a, l, rfl, tl, ?_⟩
    refine ⟨_, rfl, a, rfl, ⟨_, t1⟩, fun D hD => ?_⟩
    refine lc_list (K := K) (a := a) (xs := ts.map V.ref) (fun i H' => Same H H' ∧ TupsN H H' D (((l.take i).map (evBy (Cp07.firstNote l) w)).map encV)) ⟨Same.new hD, TupsN.nil hD upd_same⟩ (fun i H' _ p => p.1.seq t1) ?_ ?_
    · rintro i x H' hi ⟨sm, tn⟩
      obtain ⟨t, ht, rfl⟩ := get_map hi
      obtain ⟨e, he⟩ := get_some (l := l) (i := i) (by have := get_lt ht; omega)
      have st := Same.seqT sm (t3 i t (encV e) ht (by rw [List.getElem?_map, he]; rfl))
      obtain ⟨dx, hb⟩ := id wb
      refine ⟨rfl, yes_if ?_⟩
      refine ⟨_, rfl, _, rfl, _, rfl, t, b, e, Cp07.firstNote l, w, rfl, st, ⟨dx, sm _ _ hb⟩, fun u hu => ?_⟩
      have tn2 := tn.keep (Same.new (o := .tup (encV (evBy (Cp07.firstNote l) w e))) hu)
      obtain ⟨us, u1, u2⟩ := tn2.at
      refine ⟨_, u1, ?_, Same.put (Same.new' sm hu) hD, ?_⟩
      · rw [List.length_map, u2, List.length_map, List.length_map, List.length_take]
        exact lt16 (by omega)
      · rw [take_one he, List.map_append, List.map_append]
        exact tn2.push u1 (sm.free hu) upd_same
    · rintro H' ⟨sm, tn⟩
      rw [List.length_map, t2, List.take_length] at tn
      obtain ⟨dx, hb⟩ := wb
      refine ⟨_, rfl, b, C, dx, _, _, rfl, sm _ _ hb, T.cl, T.back, wF_back w, _, rfl, ?_⟩
      cases hk : w.back with
      | false =>
        refine iteF ⟨_, rfl, q H' D sm ?_⟩
        unfold byWay
        rw [hk, if_neg (by decide)]
        exact tn
      | true =>
        obtain ⟨us, u1, u2⟩ := tn.at
        refine iteT ⟨_, rfl, .inl ⟨rfl, _, SqL.of u1⟩, D, _, rfl, rfl, u1, ?_⟩
        refine ⟨_, rfl, q _ D (Same.put sm hD) ?_⟩
        have t := tn.rev u1
        unfold byWay
        rw [hk, if_pos rfl, List.map_reverse]
        exact t
end
end CW

set_option Elab.async false
set_option linter.all false
set_option maxRecDepth 100000
set_option maxHeartbeats 4000000
/-! voices in time -/
namespace CW
open PySem PySem.Spec PyProof.Rows L2 CWX
section
variable {P : Program} {w : World} {K : PySem.W.Frag} {mg : Str → Option Value} {base : Heap}
/-! ### tracked lists of tracked tuples -/
def TupsT (H : Hp) (a : Addr) (xss : List (List V)) : Prop :=
  ∃ ts : List Addr, H a = some (.lst (ts.map V.ref)) ∧ ts.length = xss.length ∧ ∀ (i : Nat) (x : Addr) (xs : List V), ts[i]? = some x → xss[i]? = some xs → H x = some (.tup xs)
theorem TupsT.same {H H' : Hp} {a : Addr} {xss : List (List V)} (h : TupsT H a xss) (e : Same H H') : TupsT H' a xss := by
  obtain ⟨ts, h1, h2, h3⟩ := h
  exact ⟨ts, e _ _ h1, h2, fun i x xs p q => e _ _ (h3 i x xs p q)⟩
theorem TupsN.trk {H H' : Hp} {p : Addr} {xss : List (List V)} (h : TupsN H H' p xss) : TupsT (nw H H') p xss := by
  obtain ⟨h0, ts, h1, h2, h3⟩ := h
  exact ⟨ts, by rw [nw_at h0]; exact h1, h2, fun i x xs a b => by rw [nw_at (h3 i x xs a b).1]; exact (h3 i x xs a b).2⟩
theorem TupsN.trk' {H H' : Hp} {p : Addr} {xss : List (List V)} (h : TupsN H H' p xss) : TupsT H' p xss := h.trk.same nw_same
def optV : Option Int → V
  | none => .non
  | some z => .int z
def ev3V (e : Ev3) : List V := [.int e.1, .int e.2.1, optV e.2.2]
/-! ### laid -/
def tot (l : Cp07.Line) : Int := (l.map fun e => (e.len : Int)).sum
theorem laid_snoc : ∀ (l : Cp07.Line) (t : Int) (e : Cp07.Event), laid t (l ++ [e]) = laid t l ++ [(t + tot l, t + tot l + (e.len : Int), e.n)]
  | [], t, e => by simp [laid, tot]
  | d :: l, t, e => by
    have ih := laid_snoc l (t + (d.len : Int)) e
    have c : tot (d :: l) = (d.len : Int) + tot l := by simp [tot]
    rw [List.cons_append]
    simp only [laid, ih, c, List.cons_append]
    rw [Int.add_assoc]
theorem tot_snoc (l : Cp07.Line) (e : Cp07.Event) : tot (l ++ [e]) = tot l + (e.len : Int) := by
  simp [tot]
def spLaid (K : PySem.W.Frag) : Sp := fun vs H Q _ => ∃ (a : Addr) (t : Int) (l : Cp07.Line), vs = [.ref a, .int t] ∧ TupsG false K H a (l.map encV) ∧ l.length ≤ 16 ∧ ∀ H' p, Same H H' → TupsN H H' p ((laid t l).map ev3V) → Q (.ref p) H'
theorem sc_laid : FnScope ["events", "later", "voice", "begins", "event", "over", "step"] ["events", "later"] (defScope s_laid) := ⟨rfl, rfl, rfl, by decide +kernel, rfl, by decide +kernel, by decide +kernel⟩
theorem ok_laid (h : Here K mg "laid" s_laid ["events", "later"]) (L : Def P w K mg base 1 "length_of" ["event"] (spLengthOf K)) (N : Def P w K mg base 1 "is_note" ["event"] (spIsNote K)) (S : Def P w K mg base 1 "step_of" ["note"] (spStepOf K)) :
    Def P w K mg base 2 "laid" ["events", "later"] (spLaid K) := by
  obtain ⟨f1, fd1, g1, k1, b1, G1⟩ := L
  obtain ⟨f2, fd2, g2, k2, b2, G2⟩ := N
  obtain ⟨f3, fd3, g3, k3, b3, G3⟩ := S
  refine h.ok sc_laid (fun vs H Q E h => ?_) (fun f cdv A outer s H vs Q E hr h => ?_)
  · obtain ⟨a, t, l, rfl, _⟩ := h; rfl
  · obtain ⟨a, t, l, rfl, ⟨ts, t1, t2, t3⟩, hl, q⟩ := h
    rw [List.length_map] at t2
    refine ⟨_, pss_cons (ps_set (i := 2) sc_laid.nd rfl (.inl rfl) (pe_lst pa_nil)) (pss_cons (ps_set (i := 3) sc_laid.nd rfl (.inl rfl) (pv 1))
      (pss_cons (ps_for PassesOwn.never rfl (pi_list (pv 0)) (pg_name (i := 4) sc_laid.nd rfl (.inl rfl))
        (pss_cons (ps_set (i := 5) sc_laid.nd rfl (.inl rfl) (pe_op op_add (pv 3) (pe_call G1 hr rfl g1 k1 b1 .nil pass0 (pa_cons (pv 4) pa_nil))))
        (pss_cons (ps_set (i := 6) sc_laid.nd rfl (.inl rfl) (pe_ifExp (pt_val (pe_call G2 hr rfl g2 k2 b2 .nil pass0 (pa_cons (pv 4) pa_nil))) (pe_call G3 hr rfl g3 k3 b3 .nil pass0 (pa_cons (pv 4) pa_nil)) pe_non))
        (pss_cons (ps_expr (pe_bm PySem.F.plainAttrs_list PySem.F.slot_list_append PySem.F.type_list_append mt_append (pv 2) (pa_cons (pe_tup (pa_cons (pv 3) (pa_cons (pv 5) (pa_cons (pv 6) pa_nil)))) pa_nil)))
        (pss_one (ps_set (i := 3) sc_laid.nd rfl (.inl rfl) (pv 5)))))))
      (pss_one (ps_ret (pv 2))))), ?_⟩
    refine ⟨Nat.zero_le _, fun p hp => ?_⟩
    refine ⟨_, rfl, ?_⟩
    refine ⟨_, rfl, a, rfl, ⟨_, (Same.new hp).seq t1⟩, for_list (K := K) (a := a) (xs := ts.map V.ref)
      (fun i σ H' => ∃ u v x, σ = [some (.ref a), some (.int t), some (.ref p), some (.int (t + tot (l.take i))), u, v, x] ∧ Same H H' ∧ TupsN H H' p ((laid t (l.take i)).map ev3V))
      ⟨none, none, none, by simp [tot]; rfl, Same.new hp, TupsN.nil hp upd_same⟩ (fun i σ H' _ ⟨_, _, _, _, sm, _⟩ => sm.seq t1) ?_ ?_⟩
    · rintro i x σ H' hi ⟨u, v, y, rfl, sm, tn⟩
      obtain ⟨a4, ht, rfl⟩ := get_map hi
      obtain ⟨e, he⟩ := get_some (l := l) (i := i) (by have := get_lt ht; omega)
      have st := Same.seqT sm (t3 i a4 (encV e) ht (by rw [List.getElem?_map, he]; rfl))
      refine ⟨_, rfl, _, rfl, a4, e, rfl, st, _, _, rfl, rfl, ?_⟩
      refine ⟨_, rfl, a4, e, rfl, st, _, rfl, ?_⟩
      cases hn : e.n with
      | none =>
        refine iteF ?_
        obtain ⟨us, u1, u2⟩ := tn.at
        refine ⟨_, rfl, .inl ⟨rfl, _, SqL.of u1⟩, _, rfl, _, rfl, _, rfl, (by show 3 ≤ sizeLine; decide), fun c hc => ?_⟩
        have tn2 := tn.keep (Same.new (o := .tup [.int (t + tot (l.take i)), .int (t + tot (l.take i) + (e.len : Int)), .non]) hc)
        have ne : p ≠ c := ne_of_none u1 hc
        refine ⟨p, _, _, rfl, rfl, Eq.trans (upd_ne ne) u1, ?_, ?_⟩
        · rw [List.length_map, u2, List.length_map, laid_length, List.length_take]
          exact lt16 (by omega)
        refine ⟨_, rfl, some (.ref a4), some (.int (t + tot (l.take i) + (e.len : Int))), some (optV e.n), ?_, Same.put (Same.new' sm hc) hp, ?_⟩
        · rw [take_one he, tot_snoc, ← Int.add_assoc, hn]
          rfl
        · rw [take_one he, laid_snoc, List.map_append]
          have ev : ev3V (t + tot (l.take i), t + tot (l.take i) + (e.len : Int), e.n) = [.int (t + tot (l.take i)), .int (t + tot (l.take i) + (e.len : Int)), optV e.n] := rfl
          refine tn2.push (Eq.trans (upd_ne ne) u1) (sm.free hc) ?_
          rw [ev, hn]
          exact upd_same
      | some z =>
        refine iteT ⟨_, rfl, a4, e, z, rfl, st, hn, ?_⟩
        obtain ⟨us, u1, u2⟩ := tn.at
        refine ⟨_, rfl, .inl ⟨rfl, _, SqL.of u1⟩, _, rfl, _, rfl, _, rfl, (by show 3 ≤ sizeLine; decide), fun c hc => ?_⟩
        have tn2 := tn.keep (Same.new (o := .tup [.int (t + tot (l.take i)), .int (t + tot (l.take i) + (e.len : Int)), .int z]) hc)
        have ne : p ≠ c := ne_of_none u1 hc
        refine ⟨p, _, _, rfl, rfl, Eq.trans (upd_ne ne) u1, ?_, ?_⟩
        · rw [List.length_map, u2, List.length_map, laid_length, List.length_take]
          exact lt16 (by omega)
        refine ⟨_, rfl, some (.ref a4), some (.int (t + tot (l.take i) + (e.len : Int))), some (optV e.n), ?_, Same.put (Same.new' sm hc) hp, ?_⟩
        · rw [take_one he, tot_snoc, ← Int.add_assoc, hn]
          rfl
        · rw [take_one he, laid_snoc, List.map_append]
          have ev : ev3V (t + tot (l.take i), t + tot (l.take i) + (e.len : Int), e.n) = [.int (t + tot (l.take i)), .int (t + tot (l.take i) + (e.len : Int)), optV e.n] := rfl
          refine tn2.push (Eq.trans (upd_ne ne) u1) (sm.free hc) ?_
          rw [ev, hn]
          exact upd_same
    · rintro σ H' ⟨u, v, y, rfl, sm, tn⟩
      rw [List.length_map, t2, List.take_length] at tn
      exact ⟨_, rfl, q H' p sm tn⟩
end
end CW

set_option Elab.async false
set_option linter.all false
set_option maxRecDepth 100000
set_option maxHeartbeats 4000000
/-! where two voices begin, what is on -/
namespace CW
open PySem PySem.Spec PyProof.Rows L2 CWX
section
variable {P : Program} {w : World} {K : PySem.W.Frag} {mg : Str → Option Value} {base : Heap}
theorem ifT {A B : Prop} (h : if true = true then A else B) : A := by rwa [if_pos rfl] at h
theorem ifF {A B : Prop} (h : if false = true then A else B) : B := by rwa [if_neg Bool.false_ne_true] at h
/-! ### beginnings -/
def spBegin : Sp := fun vs H Q _ => ∃ (a b : Addr) (x y : List Ev3), vs = [.ref a, .ref b] ∧ TupsT H a (x.map ev3V) ∧ TupsT H b (y.map ev3V) ∧ x.length ≤ 16 ∧ y.length ≤ 16 ∧
  ∀ (ns : List Int) (H' : Hp) (p : Addr), Same H H' → ns.Pairwise (· < ·) → (∀ k, k ∈ ns ↔ k ∈ x.map (fun e => e.1) ++ y.map (fun e => e.1)) → ns.length ≤ 32 → H p = none → H' p = some (.lst (ns.map V.int)) → Q (.ref p) H'
theorem sc_begin : FnScope ["one", "other", "event"] ["one", "other"] (defScope s_beginnings) := ⟨rfl, rfl, rfl, by decide +kernel, rfl, by decide +kernel, by decide +kernel⟩
theorem ok_begin (B : Blt mg) (h : Here K mg "beginnings" s_beginnings ["one", "other"]) : Def P w K mg base 1 "beginnings" ["one", "other"] spBegin := by
  refine h.ok sc_begin (fun vs H Q E h => ?_) (fun f cdv A outer s H vs Q E hr h => ?_)
  · obtain ⟨a, b, x, y, rfl, _⟩ := h; rfl
  · obtain ⟨a, b, x, y, rfl, ⟨ta, a1, a2, a3⟩, ⟨tb, b1, b2, b3⟩, hx, hy, q⟩ := h
    rw [List.length_map] at a2 b2
    refine ⟨_, pss_one (ps_ret (pe_callB (cr_sortedSet rfl) (by rfl) B.sorted (by decide +kernel) (pa_cons (pe_callTy (cr_setL rfl) (by rfl) B.set (by decide +kernel) (pa_cons
      (pe_lc (own := [("event", 2)]) (g := gName 2) (tt := tYes) rfl sc_begin.nd (pi_list (pe_op op_cat (pv 0) (pv 1))) (blkOk_by (N := ["one", "other", "event"]) (sc := defScope s_beginnings) (by decide +kernel))
        (fun _ _ _ _ _ => pg_name (i := 2) sc_begin.nd rfl (.inl rfl)) (fun _ _ _ _ _ => pts_nil)
        (fun _ _ _ _ _ => pe_ix (ixT K) (pv 2) pe_int (fun _ _ => rfl))) pa_nil)) pa_nil))), ?_⟩
    refine ⟨_, rfl, _, rfl, a, b, _, _, rfl, rfl, a1, b1, ?_, fun c hc => ⟨c, rfl, ⟨_, SqL.of upd_same⟩, fun D hD => ?_⟩⟩
    · rw [List.length_map, List.length_map]
      exact Nat.le_of_lt (small1000 (by omega))
    have sm0 : Same H (upd H c (.lst (ta.map V.ref ++ tb.map V.ref))) := Same.new hc
    have nDc : c ≠ D := ne_of_none upd_same hD
    refine lc_list (K := K) (a := c) (xs := ta.map V.ref ++ tb.map V.ref)
      (fun i H' => Same (upd H c (.lst (ta.map V.ref ++ tb.map V.ref))) H' ∧ H' D = some (.lst ((((x ++ y).take i).map fun e => e.1).map V.int))) ⟨Same.new hD, upd_same⟩ (fun i H' _ p => SqL.of (p.1 _ _ upd_same)) ?_ ?_
    · rintro i u H' hi ⟨sm, hd⟩
      obtain ⟨t, e, rfl, he, st⟩ : ∃ t e, u = V.ref t ∧ (x ++ y)[i]? = some e ∧ H t = some (.tup (ev3V e)) := by
        by_cases hlt : i < ta.length
        · rw [List.getElem?_append_left (by rw [List.length_map]; exact hlt)] at hi
          obtain ⟨t, ht, rfl⟩ := get_map hi
          obtain ⟨e, he⟩ := get_some (l := x) (i := i) (by omega)
          exact ⟨t, e, rfl, by rw [List.getElem?_append_left (by omega)]; exact he, a3 i t _ ht (by rw [List.getElem?_map, he]; rfl)⟩
        · rw [List.getElem?_append_right (by rw [List.length_map]; omega), List.length_map] at hi
          obtain ⟨t, ht, rfl⟩ := get_map hi
          obtain ⟨e, he⟩ := get_some (l := y) (i := i - ta.length) (by have := get_lt ht; omega)
          exact ⟨t, e, rfl, by rw [List.getElem?_append_right (by omega), ← a2]; exact he, b3 _ t _ ht (by rw [List.getElem?_map, he]; rfl)⟩
      refine ⟨rfl, yes_if ?_⟩
      refine ⟨_, rfl, _, _, _, _, rfl, rfl, SqT.of (sm _ _ (sm0 _ _ st)), atI_nat (j := 0) rfl, _, hd, ?_, Same.put sm hD, ?_⟩
      · rw [List.length_map, List.length_map, List.length_take, List.length_append]
        exact small1000 (by omega)
      · rw [upd_same, take_one he]
        simp
    · rintro H' ⟨sm, hd⟩
      rw [List.length_append, List.length_map, List.length_map, a2, b2, ← List.length_append, List.take_length] at hd
      refine ⟨D, _, rfl, SqL.of hd, ?_, fun sp c2 hc2 hsp => ?_⟩
      · rw [List.length_map, List.length_append]
        unfold scanBound
        omega
      refine ⟨sp, _, _, rfl, upd_same, ?_, fun ns p h1 h2 h3 hp => ?_⟩
      · rw [List.length_map, List.length_append] at hc2
        omega
      have sm2 := Same.new' (o := SetO w sp (fun j => decide (j ∈ (x ++ y).map fun e => e.1)) c2) (sm0.trans sm) hsp
      refine q ns _ p (Same.new' sm2 hp) h1 (fun k => ?_) ?_ (sm2.free hp) upd_same
      · rw [h2 k, decide_eq_true_eq, List.map_append]
      · rw [List.length_map, List.length_append] at hc2
        omega
/-! ### step_at -/
def stepAt (v : List Ev3) (p : Nat) (t : Int) : Option Int := match v[p]? with
  | none => none
  | some e => if t < e.1 then none else e.2.2
def spStepAt : Sp := fun vs H Q _ => ∃ (a : Addr) (v : List Ev3) (p : Nat) (t : Int), vs = [.ref a, .int p, .int t] ∧ TupsT H a (v.map ev3V) ∧ p ≤ v.length ∧ Q (optV (stepAt v p t)) H
theorem sc_step_at : FnScope ["voice", "place", "time"] ["voice", "place", "time"] (defScope s_step_at) := ⟨rfl, rfl, rfl, by decide +kernel, rfl, by decide +kernel, by decide +kernel⟩
theorem ok_step_at (B : Blt mg) (h : Here K mg "step_at" s_step_at ["voice", "place", "time"]) : Def P w K mg base 1 "step_at" ["voice", "place", "time"] spStepAt := by
  refine h.ok sc_step_at (fun vs H Q E h => ?_) (fun f cdv A outer s H vs Q E hr h => ?_)
  · obtain ⟨a, v, p, t, rfl, _⟩ := h; rfl
  · obtain ⟨a, v, p, t, rfl, ⟨ts, t1, t2, t3⟩, hp, q⟩ := h
    rw [List.length_map] at t2
    refine ⟨_, pss_cons (ps_if (PW.pt (pw_or (pt_cmpR op_eq (pv 1) (pe_callB call_len_seq (by rfl) B.len PySem.boot_len (pa_cons (pv 0) pa_nil)) (nomark _))
        (pw_or1 (pt_cmpR op_lt (pv 2) (pe_ix ix_tup (pe_ix ix_list (pv 0) (pv 1) (fun _ _ => rfl)) pe_int (fun _ _ => rfl)) (nomark _))))) (pss_one (ps_ret pe_non)) pss_nil)
      (pss_one (ps_ret (pe_ix ix_tup (pe_ix ix_list (pv 0) (pv 1) (fun _ _ => rfl)) pe_int (fun _ _ => rfl)))), ?_⟩
    refine ⟨_, rfl, _, rfl, a, _, rfl, .inl (SqL.of t1), rfl, _, rfl, ?_⟩
    rw [List.length_map, t2]
    by_cases c : p = v.length
    · have e : decide (V.int (p : Int) = V.int (v.length : Nat)) = true := by rw [c]; exact decide_eq_true rfl
      have e2 : stepAt v p t = none := by unfold stepAt; rw [List.getElem?_eq_none (by omega)]
      rw [e]
      rw [e2] at q
      exact iteT (iteT q)
    · have e : decide (V.int (p : Int) = V.int (v.length : Nat)) = false := decide_eq_false fun x => by injection x with x; omega
      rw [e]
      obtain ⟨d, hd⟩ := get_some (l := v) (i := p) (by omega)
      obtain ⟨u, hu⟩ := get_some (l := ts) (i := p) (by omega)
      have st := t3 p u (ev3V d) hu (by rw [List.getElem?_map, hd]; rfl)
      have e2 : stepAt v p t = if t < d.1 then none else d.2.2 := by unfold stepAt; rw [hd]
      rw [e2] at q
      refine iteF ⟨_, rfl, _, rfl, _, rfl, a, _, _, _, rfl, rfl, SqL.of t1, atI_nat (v := V.ref u) (by rw [List.getElem?_map, hu]; rfl), _, _, _, _, rfl, rfl, SqT.of st, atI_nat (j := 0) rfl, _, _, rfl, rfl, _, rfl, ?_⟩
      by_cases c2 : t < d.1
      · rw [decide_eq_true c2]
        rw [if_pos c2] at q
        exact iteT q
      · rw [decide_eq_false c2]
        rw [if_neg c2] at q
        exact iteF ⟨_, rfl, _, rfl, a, _, _, _, rfl, rfl, SqL.of t1, atI_nat (v := V.ref u) (by rw [List.getElem?_map, hu]; rfl), _, _, _, _, rfl, rfl, SqT.of st, atI_nat (j := 2) rfl, q⟩
/-! ### steps_on -/
def spStepsOn (K : PySem.W.Frag) : Sp := fun vs H Q _ => ∃ (a b : Addr) (v : List Ev3) (ns : List Int), vs = [.ref a, .ref b] ∧ TupsT H a (v.map ev3V) ∧ SqL K H b (ns.map V.int) ∧ ns.Pairwise (· < ·) ∧ ns.length ≤ 32 ∧
  ∀ H' p, Same H H' → H p = none → H' p = some (.lst (ns.map fun t => optV (on v t))) → Q (.ref p) H'
theorem sc_steps_on : FnScope ["voice", "times", "steps", "place", "time"] ["voice", "times"] (defScope s_steps_on) := ⟨rfl, rfl, rfl, by decide +kernel, rfl, by decide +kernel, by decide +kernel⟩
theorem on_stepAt {v : List Ev3} {p : Nat} {t : Int} (h1 : ∀ (i : Nat) (e : Ev3), i < p → v[i]? = some e → e.2.1 ≤ t) (h2 : ∀ e, v[p]? = some e → t < e.2.1) : on v t = stepAt v p t := by
  rw [on_drop p h1]
  unfold stepAt
  cases hp : v[p]? with
  | none =>
    rw [List.drop_eq_nil_of_le (List.getElem?_eq_none_iff.mp hp)]
    rfl
  | some e => exact on_here hp (h2 e hp)
theorem ok_steps_on (B : Blt mg) (h : Here K mg "steps_on" s_steps_on ["voice", "times"]) (S : Def P w K mg base 1 "step_at" ["voice", "place", "time"] spStepAt) : Def P w K mg base 2 "steps_on" ["voice", "times"] (spStepsOn K) := by
  obtain ⟨f1, fd1, g1, k1, b1, G1⟩ := S
  refine h.ok sc_steps_on (fun vs H Q E h => ?_) (fun f cdv A outer s H vs Q E hr h => ?_)
  · obtain ⟨a, b, v, ns, rfl, _⟩ := h; rfl
  · obtain ⟨a, b, v, ns, rfl, tv, sb, hasc, hl, q⟩ := h
    refine ⟨_, pss_cons (ps_set (i := 2) sc_steps_on.nd rfl (.inl rfl) (pe_lst pa_nil)) (pss_cons (ps_set (i := 3) sc_steps_on.nd rfl (.inl rfl) pe_int)
      (pss_cons (ps_for PassesOwn.never rfl (pi_list (pv 1)) (pg_name (i := 4) sc_steps_on.nd rfl (.inl rfl))
        (pss_cons (ps_while PassesOwn.never (PW.pt (pw_and (pt_cmpR op_lt (pv 3) (pe_callB call_len_seq (by rfl) B.len PySem.boot_len (pa_cons (pv 0) pa_nil)) (nomark _))
            (pw_and1 (pt_cmpR op_le (pe_ix ix_tup (pe_ix ix_list (pv 0) (pv 3) (fun _ _ => rfl)) pe_int (fun _ _ => rfl)) (pv 4) (nomark _)))))
          (pss_one (ps_aug (i := 3) sc_steps_on.nd rfl (.inl rfl) pe_int ip_add)))
        (pss_one (ps_expr (pe_bm PySem.F.plainAttrs_list PySem.F.slot_list_append PySem.F.type_list_append mt_append (pv 2) (pa_cons (pe_call G1 hr rfl g1 k1 b1 .nil pass0 (pa_cons (pv 0) (pa_cons (pv 3) (pa_cons (pv 4) pa_nil)))) pa_nil))))))
      (pss_one (ps_ret (pv 2))))), ?_⟩
    refine ⟨Nat.zero_le _, fun p hp => ?_⟩
    refine ⟨_, rfl, b, rfl, ⟨_, (Same.new hp).seq sb⟩, for_list (K := K) (a := b) (xs := ns.map V.int)
      (fun i σ H' => ∃ (pl : Nat) (u : Option V), σ = [some (.ref a), some (.ref b), some (.ref p), some (.int pl), u] ∧ Same H H' ∧ H' p = some (.lst ((ns.take i).map fun t => optV (on v t))) ∧ pl ≤ v.length ∧
        ∀ (j : Nat) (e : Ev3), j < pl → v[j]? = some e → ∀ t ∈ ns.drop i, e.2.1 ≤ t)
      ⟨0, none, rfl, Same.new hp, upd_same, Nat.zero_le _, fun j e hj => absurd hj (Nat.not_lt_zero _)⟩ (fun i σ H' _ ⟨_, _, _, sm, _⟩ => sm.seq sb) ?_ ?_⟩
    · rintro i x σ H' hi ⟨pl, u, rfl, sm, hp', hpl, hov⟩
      obtain ⟨t, ht, rfl⟩ := get_map hi
      have tv' := tv.same sm
      obtain ⟨ts, t1, t2, t3⟩ := tv'
      rw [List.length_map] at t2
      have hd : ns.drop i = t :: ns.drop (i + 1) := by
        obtain ⟨h1, h2⟩ := List.getElem?_eq_some_iff.mp ht
        rw [List.drop_eq_getElem_cons h1, h2]
      have later : ∀ t' ∈ ns.drop i, t ≤ t' := fun t' h' => by
        rw [hd] at h'
        rcases List.mem_cons.mp h' with r | r
        · omega
        · have pw : (t :: ns.drop (i + 1)).Pairwise (· < ·) := hd ▸ hasc.sublist (List.drop_sublist i ns)
          exact Int.le_of_lt ((List.pairwise_cons.mp pw).1 t' r)
      refine while_by (fun σ H2 => H2 = H' ∧ ∃ pl : Nat, σ = [some (.ref a), some (.ref b), some (.ref p), some (.int pl), some (.int t)] ∧ pl ≤ v.length ∧ ∀ (j : Nat) (e : Ev3), j < pl → v[j]? = some e → ∀ t ∈ ns.drop i, e.2.1 ≤ t)
        (fun σ _ => v.length - natAt σ 3) ⟨rfl, pl, rfl, hpl, hov⟩ ?_ ?_
      · rintro σ H2 ⟨rfl, pl, rfl, hpl, hov⟩
        have fin : (∀ e, v[pl]? = some e → t < e.2.1) → tDrop (tBM K "list" rAppend (tVar 2) (tCons (tCall spStepAt [] E0 (tCons (tVar 0) (tCons (tVar 3) (tCons (tVar 4) tNil)))) tNil))
            { nx := fun σ H' => ∃ (pl : Nat) (u : Option V), σ = [some (.ref a), some (.ref b), some (.ref p), some (.int pl), u] ∧ Same H H' ∧ H' p = some (.lst ((ns.take (i + 1)).map fun t => optV (on v t))) ∧ pl ≤ v.length ∧
                ∀ (j : Nat) (e : Ev3), j < pl → v[j]? = some e → ∀ t ∈ ns.drop (i + 1), e.2.1 ≤ t, rt := Q }
            [some (.ref a), some (.ref b), some (.ref p), some (.int pl), some (.int t)] H2 := fun hstop => by
          refine ⟨_, rfl, .inl ⟨rfl, _, SqL.of hp'⟩, _, rfl, _, rfl, _, rfl, a, v, pl, t, rfl, ⟨ts, t1, by rw [List.length_map]; exact t2, t3⟩, hpl, ?_⟩
          refine ⟨p, _, _, rfl, rfl, hp', ?_, ?_⟩
          · rw [List.length_map, List.length_take]
            exact small1000 (by omega)
          refine ⟨pl, some (.int t), rfl, Same.put sm hp, ?_, hpl, fun j e hj he t' h' => hov j e hj he t' (by rw [hd]; exact List.mem_cons_of_mem _ h')⟩
          rw [upd_same, take_one ht, List.map_append, ← on_stepAt (fun j e hj he => hov j e hj he t (by rw [hd]; exact List.mem_cons_self)) hstop]
          rfl
        refine ⟨_, rfl, _, rfl, a, _, rfl, .inl (SqL.of t1), _, _, rfl, rfl, _, rfl, ?_⟩
        rw [List.length_map, t2]
        by_cases c : (pl : Int) < (v.length : Nat)
        · rw [decide_eq_true c]
          obtain ⟨d, hdv⟩ := get_some (l := v) (i := pl) (by omega)
          obtain ⟨u, hu⟩ := get_some (l := ts) (i := pl) (by omega)
          have st := t3 pl u (ev3V d) hu (by rw [List.getElem?_map, hdv]; rfl)
          refine iteT ⟨_, rfl, _, rfl, a, _, _, _, rfl, rfl, SqL.of t1, atI_nat (v := V.ref u) (by rw [List.getElem?_map, hu]; rfl), _, _, _, _, rfl, rfl, SqT.of st, atI_nat (j := 1) rfl, _, rfl, _, _, rfl, rfl, _, rfl, ?_⟩
          by_cases c2 : d.2.1 ≤ t
          · rw [decide_eq_true c2]
            refine iteT ⟨_, rfl, _, _, rfl, rfl, ?_⟩
            refine ⟨⟨rfl, pl + 1, rfl, by omega, fun j e hj he t' h' => ?_⟩, ?_⟩
            · by_cases hj2 : j < pl
              · exact hov j e hj2 he t' h'
              · have : j = pl := by omega
                subst this
                rw [hdv] at he
                cases he
                exact Int.le_trans c2 (later t' h')
            · show v.length - ((pl : Int) + 1).toNat < v.length - ((pl : Int)).toNat
              omega
          · rw [decide_eq_false c2]
            refine iteF (fin fun e he => ?_)
            rw [hdv] at he
            cases he
            omega
        · rw [decide_eq_false c]
          refine iteF (iteF (fin fun e he => ?_))
          have := get_lt he
          omega
      · rintro σ H2 Q1 Q2 k ⟨x1, h1, x2, h2, p', ys, e, hs, i1, j1, e1, e2, bb, e3, q1⟩
        refine ⟨x1, h1, x2, h2, p', ys, e, hs, i1, j1, e1, e2, bb, e3, ?_⟩
        cases bb with
        | false => exact iteF (k _ _ (ifF q1))
        | true =>
          obtain ⟨y1, g1, y2, g2, r1, r2, r3, r4, d1, d2, sq, at1, r5, r6, r7, r8, d3, d4, sq2, at2, y3, g3, i2, j2, d5, d6, b2, d7, q2⟩ := ifT q1
          exact iteT ⟨y1, g1, y2, g2, r1, r2, r3, r4, d1, d2, sq, at1, r5, r6, r7, r8, d3, d4, sq2, at2, y3, g3, i2, j2, d5, d6, b2, d7, k _ _ q2⟩
    · rintro σ H' ⟨pl, u, rfl, sm, hp', _⟩
      rw [List.length_map, List.take_length] at hp'
      exact ⟨_, rfl, q H' p sm hp hp'⟩
end
end CW

set_option Elab.async false
set_option linter.all false
set_option maxRecDepth 100000
set_option maxHeartbeats 4000000
/-! gaps, parallels -/
namespace CW
open PySem PySem.Spec PyProof.Rows L2 CWX
section
variable {P : Program} {w : World} {K : PySem.W.Frag} {mg : Str → Option Value} {base : Heap}
def CstN (K : PySem.W.Frag) (mg : Str → Option Value) (x : Str) (ns : List Int) : Prop := ∃ a, mg x = some (.ref a) ∧ ∀ H, SqT K H a (ns.map V.int)
/-! ### what_is_left -/
theorem left_eq (x y : Int) : (if x - y < 0 then -(x - y) else x - y) % 7 = (Cp07.left x y : Int) := by
  unfold Cp07.left
  split <;> omega
def spLeft (K : PySem.W.Frag) : Sp := fun vs H Q _ => ∃ (a : Addr) (x y : Int), vs = [.ref a] ∧ SqT K H a [.int x, .int y] ∧ Q (.int (Cp07.left x y)) H
theorem sc_left : FnScope ["steps"] ["steps"] (defScope s_what_is_left) := ⟨rfl, rfl, rfl, by decide +kernel, rfl, by decide +kernel, by decide +kernel⟩
theorem ok_left (B : Blt mg) (h : Here K mg "what_is_left" s_what_is_left ["steps"]) (c7 : CstI mg "STEPS_OF_A_SCALE" 7) : Def P w K mg base 1 "what_is_left" ["steps"] (spLeft K) := by
  obtain ⟨t, c7⟩ := c7
  refine h.ok sc_left (fun vs H Q E h => ?_) (fun f cdv A outer s H vs Q E hr h => ?_)
  · obtain ⟨a, x, y, rfl, _⟩ := h; rfl
  · obtain ⟨a, x, y, rfl, sa, q⟩ := h
    refine ⟨_, pss_one (ps_ret (pe_op op_mod (pe_callB call_abs (by rfl) B.abs (by decide +kernel) (pa_cons (pe_op op_sub (pe_ix ix_tup (pv 0) pe_int (fun _ _ => rfl)) (pe_ix ix_tup (pv 0) pe_int (fun _ _ => rfl))) pa_nil)) (pe_glob (v := .int 7) rfl c7 ⟨_, rfl⟩))), ?_⟩
    refine ⟨_, rfl, _, _, _, _, rfl, rfl, sa, atI_nat (j := 0) rfl, _, rfl, _, _, _, _, rfl, rfl, sa, atI_nat (j := 1) rfl, _, _, rfl, rfl, _, rfl, _, _, rfl, rfl, (by show (0 : Int) < 7; decide), ?_⟩
    show Q (.int ((if x - y < 0 then -(x - y) else x - y) % 7)) H
    rw [left_eq]
    exact q
/-! ### are_parallel -/
def parB (bx by' x y : Int) : Bool := decide (Cp07.left bx by' = Cp07.left x y ∧ (Cp07.left bx by' = 0 ∨ Cp07.left bx by' = 4) ∧ 0 < (x - bx) * (y - by'))
theorem mul_pos_iff' (a b : Int) : 0 < a * b ↔ (0 < a ∧ 0 < b) ∨ (a < 0 ∧ b < 0) := by
  constructor
  · intro h
    rcases Int.lt_trichotomy a 0 with ha | ha | ha
    · rcases Int.lt_trichotomy b 0 with hb | hb | hb
      · exact .inr ⟨ha, hb⟩
      · subst hb; simp at h
      · have := Int.mul_neg_of_neg_of_pos ha hb
        omega
    · subst ha; simp at h
    · rcases Int.lt_trichotomy b 0 with hb | hb | hb
      · have := Int.mul_neg_of_pos_of_neg ha hb
        omega
      · subst hb; simp at h
      · exact .inl ⟨ha, hb⟩
  · rintro (⟨ha, hb⟩ | ⟨ha, hb⟩)
    · exact Int.mul_pos ha hb
    · exact Int.mul_pos_of_neg_of_neg ha hb
def spPar (K : PySem.W.Frag) : Sp := fun vs H Q _ => ∃ (a b : Addr) (bx by' x y : Int), vs = [.ref a, .ref b] ∧ SqT K H a [.int bx, .int by'] ∧ SqT K H b [.int x, .int y] ∧ Q (.bl (parB bx by' x y)) H
theorem sc_par : FnScope ["before", "now", "left", "both_up", "both_down"] ["before", "now"] (defScope s_are_parallel) := ⟨rfl, rfl, rfl, by decide +kernel, rfl, by decide +kernel, by decide +kernel⟩
theorem in_gaps (n : Nat) : inV (.int (n : Int)) ([0, 4].map V.int) = decide (n = 0 ∨ n = 4) := by
  show ((0 : Int) == (n : Int) || ((4 : Int) == (n : Int) || false)) = decide (n = 0 ∨ n = 4)
  by_cases h0 : n = 0
  · subst h0; rfl
  · by_cases h4 : n = 4
    · subst h4; rfl
    · rw [decide_eq_false (by omega), beq_eq_false_iff_ne.mpr (by omega), beq_eq_false_iff_ne.mpr (by omega)]
      rfl
theorem ok_par (h : Here K mg "are_parallel" s_are_parallel ["before", "now"]) (cG : CstN K mg "PARALLEL_GAPS" [0, 4]) (L : Def P w K mg base 1 "what_is_left" ["steps"] (spLeft K)) : Def P w K mg base 2 "are_parallel" ["before", "now"] (spPar K) := by
  obtain ⟨f1, fd1, g1, k1, b1, G1⟩ := L
  obtain ⟨ag, mgp, hG⟩ := cG
  refine h.ok sc_par (fun vs H Q E h => ?_) (fun f cdv A outer s H vs Q E hr h => ?_)
  · obtain ⟨a, b, bx, by', x, y, rfl, _⟩ := h; rfl
  · obtain ⟨a, b, bx, by', x, y, rfl, sa, sb, q⟩ := h
    refine ⟨_, pss_cons (ps_set (i := 2) sc_par.nd rfl (.inl rfl) (pe_call G1 hr rfl g1 k1 b1 .nil pass0 (pa_cons (pv 1) pa_nil)))
      (pss_cons (ps_if (PW.pt (pw_or (pt_cmpR op_notIn_seq (pv 2) (pe_glob (v := .ref ag) rfl mgp rfl) (by rfl)) (pw_or1 (pt_cmpR op_ne (pe_call G1 hr rfl g1 k1 b1 .nil pass0 (pa_cons (pv 0) pa_nil)) (pv 2) (nomark _))))) (pss_one (ps_ret pe_bl)) pss_nil)
      (pss_cons (ps_set (i := 3) sc_par.nd rfl (.inl rfl) (pe_and (pe_cmpR op_gt (pe_ix ix_tup (pv 1) pe_int (fun _ _ => rfl)) (pe_ix ix_tup (pv 0) pe_int (fun _ _ => rfl)) (nomark _)) (pe_one (pe_cmpR op_gt (pe_ix ix_tup (pv 1) pe_int (fun _ _ => rfl)) (pe_ix ix_tup (pv 0) pe_int (fun _ _ => rfl)) (nomark _)))))
      (pss_cons (ps_set (i := 4) sc_par.nd rfl (.inl rfl) (pe_and (pe_cmpR op_lt (pe_ix ix_tup (pv 1) pe_int (fun _ _ => rfl)) (pe_ix ix_tup (pv 0) pe_int (fun _ _ => rfl)) (nomark _)) (pe_one (pe_cmpR op_lt (pe_ix ix_tup (pv 1) pe_int (fun _ _ => rfl)) (pe_ix ix_tup (pv 0) pe_int (fun _ _ => rfl)) (nomark _)))))
      (pss_one (ps_ret (pe_or (pv 3) (pe_one (pv 4)))))))), ?_⟩
    refine ⟨_, rfl, b, x, y, rfl, sb, ?_⟩
    refine ⟨_, rfl, ag, _, rfl, .inr (hG H), rfl, rfl, _, rfl, ?_⟩
    show if (!inV (.int (Cp07.left x y : Int)) ([0, 4].map V.int)) = true then _ else _
    rw [in_gaps]
    by_cases c : Cp07.left x y = 0 ∨ Cp07.left x y = 4
    · rw [decide_eq_true c]
      refine iteF ⟨_, rfl, a, bx, by', rfl, sa, _, rfl, rfl, _, rfl, ?_⟩
      by_cases c2 : Cp07.left bx by' = Cp07.left x y
      · have e : V.int (Cp07.left bx by' : Int) = V.int (Cp07.left x y : Int) := by rw [c2]
        refine iteNS e ?_
        have ep : parB bx by' x y = decide (0 < (x - bx) * (y - by')) := by
          unfold parB
          rw [c2]
          simp [c]
        rw [ep] at q
        have em := mul_pos_iff' (x - bx) (y - by')
        refine ⟨_, rfl, _, _, _, _, rfl, rfl, sb, atI_nat (j := 0) rfl, _, rfl, _, _, _, _, rfl, rfl, sa, atI_nat (j := 0) rfl, _, _, rfl, rfl, _, rfl, ?_⟩
        have fin : ∀ up : Bool, up = decide (bx < x ∧ by' < y) → tSeq (tAsg (tAndV (tOp (rI0 fun i j => .bl (decide (i < j))) (tOp (rIxT K) (tVar 1) (tC (.int 0))) (tOp (rIxT K) (tVar 0) (tC (.int 0)))) (tOp (rI0 fun i j => .bl (decide (i < j))) (tOp (rIxT K) (tVar 1) (tC (.int 1))) (tOp (rIxT K) (tVar 0) (tC (.int 1))))) (gName 4))
            (tRet (tOrV (tVar 3) (tVar 4))) { nx := fun _ H' => Q .non H', rt := Q } [some (.ref a), some (.ref b), some (.int (Cp07.left x y : Int)), some (.bl up), none] H := by
          intro up hup
          refine ⟨_, rfl, _, _, _, _, rfl, rfl, sb, atI_nat (j := 0) rfl, _, rfl, _, _, _, _, rfl, rfl, sa, atI_nat (j := 0) rfl, _, _, rfl, rfl, _, rfl, ?_⟩
          have fin2 : ∀ dn : Bool, dn = decide (x < bx ∧ y < by') → tRet (tOrV (tVar 3) (tVar 4)) { nx := fun _ H' => Q .non H', rt := Q } [some (.ref a), some (.ref b), some (.int (Cp07.left x y : Int)), some (.bl up), some (.bl dn)] H := by
            intro dn hdn
            refine ⟨_, rfl, up, rfl, ?_⟩
            cases up with
            | true =>
              have z : bx < x ∧ by' < y := of_decide_eq_true hup.symm
              rw [decide_eq_true (em.mpr (.inl (by omega)))] at q
              exact iteT q
            | false =>
              have z : ¬ (bx < x ∧ by' < y) := of_decide_eq_false hup.symm
              refine iteF ⟨_, rfl, ?_⟩
              cases dn with
              | true =>
                have z2 : x < bx ∧ y < by' := of_decide_eq_true hdn.symm
                rw [decide_eq_true (em.mpr (.inr (by omega)))] at q
                exact q
              | false =>
                have z2 : ¬ (x < bx ∧ y < by') := of_decide_eq_false hdn.symm
                rw [decide_eq_false (fun r => by rcases em.mp r with r | r <;> omega)] at q
                exact q
          by_cases d1 : x < bx
          · rw [decide_eq_true d1]
            refine iteT ⟨_, rfl, _, _, _, _, rfl, rfl, sb, atI_nat (j := 1) rfl, _, rfl, _, _, _, _, rfl, rfl, sa, atI_nat (j := 1) rfl, _, _, rfl, rfl, ?_⟩
            exact fin2 _ (by simp [d1])
          · rw [decide_eq_false d1]
            exact iteF (fin2 _ (by simp [d1]))
        by_cases d1 : bx < x
        · rw [decide_eq_true d1]
          refine iteT ⟨_, rfl, _, _, _, _, rfl, rfl, sb, atI_nat (j := 1) rfl, _, rfl, _, _, _, _, rfl, rfl, sa, atI_nat (j := 1) rfl, _, _, rfl, rfl, ?_⟩
          exact fin _ (by simp [d1])
        · rw [decide_eq_false d1]
          exact iteF (fin _ (by simp [d1]))
      · have e : ¬ V.int (Cp07.left bx by' : Int) = V.int (Cp07.left x y : Int) := by
          intro z
          injection z with z
          omega
        rw [decide_eq_false e]
        have ep : parB bx by' x y = false := by unfold parB; exact decide_eq_false fun z => c2 z.1
        rw [ep] at q
        exact iteT q
    · rw [decide_eq_false c]
      have ep : parB bx by' x y = false := by
        unfold parB
        refine decide_eq_false fun z => c ?_
        rw [← z.1]
        exact z.2.1
      rw [ep] at q
      exact iteT (iteT q)
end
end CW

set_option Elab.async false
set_option linter.all false
set_option maxRecDepth 100000
set_option maxHeartbeats 4000000
/-! prices -/
namespace CW
open PySem PySem.Spec PyProof.Rows L2 CWX
section
variable {P : Program} {w : World} {K : PySem.W.Frag} {mg : Str → Option Value} {base : Heap}
def natV (n : Nat) : V := .int (n : Int)
def pf1 (a : Addr) : List (Str × V) := [("on_beat", .ref a)]
def pf2 (a b : Addr) : List (Str × V) := [("on_beat", .ref a), ("off_beat", .ref b)]
def pf3 (a b : Addr) (p : Int) : List (Str × V) := [("on_beat", .ref a), ("off_beat", .ref b), ("parallels", .int p)]
def pf4 (a b : Addr) (p t : Int) : List (Str × V) := [("on_beat", .ref a), ("off_beat", .ref b), ("parallels", .int p), ("beat", .int t)]
theorem pf2_eq (a b : Addr) : putF "off_beat" (.ref b) (pf1 a) = pf2 a b := put_new (by simp [pf1]; decide +kernel)
theorem pf3_eq (a b : Addr) (p : Int) : putF "parallels" (.int p) (pf2 a b) = pf3 a b p := put_new (by simp [pf2]; decide +kernel)
theorem pf4_eq (a b : Addr) (p t : Int) : putF "beat" (.int t) (pf3 a b p) = pf4 a b p t := put_new (by simp [pf3]; decide +kernel)
theorem pf_on (a b : Addr) (p t : Int) : (pf4 a b p t).lookup ("on_beat" : Str) = some (.ref a) := lk_here
theorem pf_off (a b : Addr) (p t : Int) : (pf4 a b p t).lookup ("off_beat" : Str) = some (.ref b) := (lk_past (by decide +kernel)).trans lk_here
theorem pf_par (a b : Addr) (p t : Int) : (pf4 a b p t).lookup ("parallels" : Str) = some (.int p) := (lk_past (by decide +kernel)).trans ((lk_past (by decide +kernel)).trans lk_here)
theorem pf_beat (a b : Addr) (p t : Int) : (pf4 a b p t).lookup ("beat" : Str) = some (.int t) := (lk_past (by decide +kernel)).trans ((lk_past (by decide +kernel)).trans ((lk_past (by decide +kernel)).trans lk_here))
theorem pf_meth (a b : Addr) (p t : Int) : (pf4 a b p t).lookup ("price_of_gap" : Str) = none := (lk_past (by decide +kernel)).trans ((lk_past (by decide +kernel)).trans ((lk_past (by decide +kernel)).trans ((lk_past (by decide +kernel)).trans rfl)))
structure PrC (K : PySem.W.Frag) (C : Addr) : Prop where
  cl : Cls K C
  on_beat : NoAttr K C "on_beat"
  off_beat : NoAttr K C "off_beat"
  parallels : NoAttr K C "parallels"
  beat : NoAttr K C "beat"
structure TabFine (q : Cp07.Table) : Prop where
  on7 : q.on.length = 7
  off7 : q.off.length = 7
  beat : 1 ≤ q.beat
/-- prices in the heap -/
def PricesAt (C : Addr) (H : Hp) (a : Addr) (q : Cp07.Table) : Prop :=
  TabFine q ∧ ∃ dx t1 t2, H a = some (.ins C dx (pf4 t1 t2 q.parallel q.beat)) ∧ H t1 = some (.tup (q.on.map natV)) ∧ H t2 = some (.tup (q.off.map natV))
theorem PricesAt.same {C : Addr} {H H' : Hp} {a : Addr} {q : Cp07.Table} (h : PricesAt C H a q) (e : Same H H') : PricesAt C H' a q := by
  obtain ⟨f, dx, t1, t2, h1, h2, h3⟩ := h
  exact ⟨f, dx, t1, t2, e _ _ h1, e _ _ h2, e _ _ h3⟩
def tableBy (ns : List Int) : Cp07.Table := ⟨(ns.take 7).map Int.toNat, ((ns.drop 7).take 7).map Int.toNat, (ns.getD 14 0).toNat, (ns.getD 15 0).toNat⟩
/-! ### __init__ -/
def spPrInit (K : PySem.W.Frag) (C : Addr) : Sp := fun vs H Q _ => ∃ (p a dx : Addr) (t : Bool) (ns : List Int), vs = [.ref p, .ref a] ∧ H p = some (.ins C dx []) ∧ SqG t K H a (ns.map V.int) ∧ ns.length = 16 ∧
  ∀ (H' : Hp) (t1 t2 : Addr), H' p = some (.ins C dx (pf4 t1 t2 (ns.getD 14 0) (ns.getD 15 0))) → H t1 = none → H t2 = none → H' t1 = some (.tup ((ns.take 7).map V.int)) → H' t2 = some (.tup (((ns.drop 7).take 7).map V.int)) →
    (∀ b o, H b = some o → b ≠ p → H' b = some o) → Q .non H'
theorem sc_pr_init : FnScope ["self", "numbers"] ["self", "numbers"] (defScope s_Prices_init) := ⟨rfl, rfl, rfl, by decide +kernel, rfl, by decide +kernel, by decide +kernel⟩
theorem sixteen {ns : List Int} (h : ns.length = 16) (i : Nat) (hi : i < 16) : (ns.map V.int)[i]? = some (V.int (ns.getD i 0)) := by
  rw [List.getElem?_map, List.getD_eq_getElem?_getD, List.getElem?_eq_getElem (by omega)]
  rfl
/-- tuple(numbers[a:b]) of a list or a tuple: a new tuple -/
theorem cut_tuple {H : Hp} {a : Addr} {t : Bool} {ns : List Int} {lo n : Nat} {x y : Int} {σ : L2.St} {Q : VK} (hσ : σ[1]? = some (some (.ref a))) (sa : SqG t K H a (ns.map V.int)) (hn : ns.length = 16) (ex : x = (lo : Int)) (ey : y = (lo : Int) + (n : Int)) (h16 : lo + n < 16)
    (q : ∀ H' u, Same H H' → H u = none → H' u = some (.tup (((ns.drop lo).take n).map V.int)) → Q (.ref u) H') :
    tCB (fun xs H Q => ∃ p ys, xs = [.ref p] ∧ ((SqL K H p ys ∧ ∀ l, H l = none → Q (.ref l) (upd H l (.tup ys))) ∨ (SqT K H p ys ∧ Q (.ref p) H)))
      (tCons (tSl (fun x lo hi H Q => rSlL K x lo hi H Q ∨ rSlT K x lo hi H Q) (tVar 1) (tPart (tC (.int x))) (tPart (tC (.int y)))) tNil) σ H Q := by
  subst ex ey
  refine ⟨_, hσ, _, rfl, _, rfl, ?_⟩
  cases t with
  | false =>
    refine .inl ⟨a, _, rfl, sa, fun s hs => ?_⟩
    rw [cut_ints]
    exact ⟨s, _, rfl, .inl ⟨SqL.of upd_same, fun l hl => q _ l (Same.new' (Same.new hs) hl) ((Same.new hs).free hl) upd_same⟩⟩
  | true =>
    refine .inr ⟨a, _, rfl, sa, ?_, fun s hs => ?_⟩
    · have e : ((lo : Int) + (n : Int)) = ((lo + n : Nat) : Int) := by omega
      rw [e, HT.sIx_nat, HT.sIx_nat, List.length_map, hn]
      omega
    rw [cut_ints]
    exact ⟨s, _, rfl, .inr ⟨SqT.of upd_same, q _ s (Same.new hs) hs upd_same⟩⟩
theorem seqG_ins {H : Hp} {a p C dx : Addr} {t : Bool} {xs : List V} {fs : List (Str × V)} {o : HO} (hp : H p = some (.ins C dx fs)) (h : SqG t K H a xs) : SqG t K (upd H p o) a xs := by
  cases t with
  | false => exact seq_ins hp h
  | true =>
    rcases h with (h | ⟨ob, h⟩) | h
    · exact .inl (.inl (by rw [upd_ne (ne_of h hp (by intro z; cases z))]; exact h))
    · exact .inl (.inr ⟨ob, by rw [upd_ne (ne_of h hp (by intro z; cases z))]; exact h⟩)
    · exact .inr h
theorem ixG {t : Bool} {H : Hp} {a : Addr} {xs : List V} {i : Nat} {v : V} {Q : VK} (sa : SqG t K H a xs) (hv : xs[i]? = some v) (q : Q v H) : rIx K (.ref a) (.int (i : Int)) H Q := by
  cases t with
  | false => exact .inl ⟨a, xs, _, v, rfl, rfl, sa, atI_nat hv, q⟩
  | true => exact .inr (.inl ⟨a, xs, _, v, rfl, rfl, sa, atI_nat hv, q⟩)
theorem ok_pr_init {C : Addr} (B : Blt mg) (h : HereI K mg C "Prices" "Prices.__init__" s_Prices_init ["self", "numbers"]) (T : PrC K C) : DefI P w K mg base C 1 "Prices" ["self", "numbers"] (spPrInit K C) := by
  refine h.ok sc_pr_init (fun vs H Q E h => ?_) (fun f cdv A outer s H vs Q E hr h => ?_)
  · obtain ⟨p, a, dx, t, ns, rfl, _⟩ := h; rfl
  · obtain ⟨p, a, dx, t, ns, rfl, hp, sa, hn, q⟩ := h
    refine ⟨_, pss_cons (ps_fld (pv 0) (pe_callTy call_tuple_of (by rfl) B.tuple (by decide +kernel) (pa_cons (pe_slice (sl_list.or sl_tup) (pv 1) (po_some pe_int) (po_some pe_int)) pa_nil)) rfl)
      (pss_cons (ps_fld (pv 0) (pe_callTy call_tuple_of (by rfl) B.tuple (by decide +kernel) (pa_cons (pe_slice (sl_list.or sl_tup) (pv 1) (po_some pe_int) (po_some pe_int)) pa_nil)) rfl)
      (pss_cons (ps_fld (pv 0) (pe_ix ix_seq (pv 1) pe_int (fun _ _ => rfl)) rfl) (pss_one (ps_fld (pv 0) (pe_ix ix_seq (pv 1) pe_int (fun _ _ => rfl)) rfl)))), ?_⟩
    delta tSeq sFld
    refine cut_tuple (σ := [some (.ref p), some (.ref a)]) (lo := 0) (n := 7) (by rfl) sa hn (by rfl) (by rfl) (by decide) fun H1 t1 s1 n1 h1 => ?_
    have hp1 := s1 _ _ hp
    refine ⟨_, rfl, p, C, dx, [], rfl, hp1, T.cl, T.on_beat, (by show 0 < 1000; decide), ?_⟩
    have sa2 := seqG_ins (o := .ins C dx (pf1 t1)) hp1 (Same.seqG s1 sa)
    dsimp only
    refine cut_tuple (σ := [some (.ref p), some (.ref a)]) (lo := 7) (n := 7) (by rfl) sa2 hn (by rfl) (by rfl) (by decide) fun H2 t2 s2 n2 h2 => ?_
    have hp2 : H2 p = some (.ins C dx (pf1 t1)) := s2 _ _ upd_same
    refine ⟨_, rfl, p, C, dx, pf1 t1, rfl, hp2, T.cl, T.off_beat, (by show 1 < 1000; decide), ?_⟩
    rw [pf2_eq]
    have sa3 := seqG_ins (o := .ins C dx (pf2 t1 t2)) hp2 (Same.seqG s2 sa2)
    refine ⟨_, rfl, ixG (i := 14) sa3 (sixteen hn 14 (by decide)) ?_⟩
    refine ⟨_, rfl, p, C, dx, pf2 t1 t2, rfl, upd_same, T.cl, T.parallels, (by show 2 < 1000; decide), ?_⟩
    rw [pf3_eq]
    have sa4 := seqG_ins (o := .ins C dx (pf3 t1 t2 (ns.getD 14 0))) upd_same sa3
    refine ⟨_, rfl, ixG (i := 15) sa4 (sixteen hn 15 (by decide)) ?_⟩
    refine ⟨_, rfl, p, C, dx, pf3 t1 t2 _, rfl, upd_same, T.cl, T.beat, (by show 3 < 1000; decide), ?_⟩
    rw [pf4_eq]
    have np1 : p ≠ t1 := ne_of_none hp n1
    have hn2 : H1 t2 = none := by
      have e : (upd H1 p (.ins C dx (pf1 t1))) t2 = none := n2
      by_cases z : t2 = p
      · rw [z, upd_same] at e; cases e
      · rwa [upd_ne z] at e
    have np2 : p ≠ t2 := ne_of_none hp1 hn2
    refine q _ t1 t2 upd_same n1 (s1.free hn2) ?_ ?_ fun b o e hb => ?_
    · rw [upd_ne np1.symm, upd_ne np1.symm, upd_ne np1.symm]
      exact s2 _ _ (by rw [upd_ne np1.symm]; exact h1)
    · rw [upd_ne np2.symm, upd_ne np2.symm, upd_ne np2.symm]
      exact h2
    · rw [upd_ne hb, upd_ne hb, upd_ne hb]
      exact s2 _ _ (by rw [upd_ne hb]; exact s1 _ _ e)
end
end CW

set_option Elab.async false
set_option linter.all false
set_option maxRecDepth 100000
set_option maxHeartbeats 4000000
/-! prices, further -/
namespace CW
open PySem PySem.Spec PyProof.Rows L2 CWX
section
variable {P : Program} {w : World} {K : PySem.W.Frag} {mg : Str → Option Value} {base : Heap}
/-! ### price_of_gap -/
def spGap (C : Addr) : Sp := fun vs H Q _ => ∃ (a : Addr) (q : Cp07.Table) (k t : Nat), vs = [.ref a, .int k, .int t] ∧ PricesAt C H a q ∧ k < 7 ∧ Q (natV ((if t % q.beat = 0 then q.on else q.off).getD k 0)) H
theorem sc_gap : FnScope ["self", "left", "time"] ["self", "left", "time"] (defScope s_Prices_price_of_gap) := ⟨rfl, rfl, rfl, by decide +kernel, rfl, by decide +kernel, by decide +kernel⟩
theorem nat_at {l : List Nat} {k : Nat} (h : k < l.length) : (l.map natV)[k]? = some (natV (l.getD k 0)) := by
  rw [List.getElem?_map, List.getD_eq_getElem?_getD, List.getElem?_eq_getElem h]
  rfl
theorem ok_gap {C : Addr} (h : HereM K C "price_of_gap" "Prices.price_of_gap" s_Prices_price_of_gap ["self", "left", "time"]) (T : PrC K C) : DefM P w K mg base C 1 "price_of_gap" ["self", "left", "time"] (spGap C) := by
  refine h.ok sc_gap (fun vs H Q E h => ?_) (fun f cdv A outer s H vs Q E hr h => ?_)
  · obtain ⟨a, q, k, t, rfl, _⟩ := h; rfl
  · obtain ⟨a, q, k, t, rfl, ⟨fine, dx, t1, t2, h0, h1, h2⟩, hk, z⟩ := h
    refine ⟨_, pss_cons (ps_if (pt_cmpR op_eq (pe_op op_mod (pv 2) (pe_fld (pv 0) rfl)) pe_int (nomark _)) (pss_one (ps_ret (pe_ix ix_tup (pe_fld (pv 0) rfl) (pv 1) (fun _ _ => rfl)))) pss_nil)
      (pss_one (ps_ret (pe_ix ix_tup (pe_fld (pv 0) rfl) (pv 1) (fun _ _ => rfl)))), ?_⟩
    have hb := fine.beat
    refine ⟨_, rfl, _, rfl, a, C, dx, _, _, rfl, h0, T.cl, T.beat, pf_beat _ _ _ _, _, _, rfl, rfl, (by show (0 : Int) < (q.beat : Int); omega), rfl, _, rfl, ?_⟩
    by_cases c : t % q.beat = 0
    · have e : decide (V.int ((t : Int) % (q.beat : Int)) = V.int 0) = true := by
        refine decide_eq_true (congrArg V.int ?_)
        omega
      show if decide (V.int ((t : Int) % (q.beat : Int)) = V.int 0) = true then _ else _
      rw [e]
      rw [if_pos c] at z
      exact iteT ⟨_, rfl, a, C, dx, _, _, rfl, h0, T.cl, T.on_beat, pf_on _ _ _ _, _, rfl, _, _, _, _, rfl, rfl, SqT.of h1, atI_nat (nat_at (by rw [fine.on7]; exact hk)), z⟩
    · have e : decide (V.int ((t : Int) % (q.beat : Int)) = V.int 0) = false := by
        refine decide_eq_false fun x => c ?_
        injection x with x
        omega
      show if decide (V.int ((t : Int) % (q.beat : Int)) = V.int 0) = true then _ else _
      rw [e]
      rw [if_neg c] at z
      exact iteF ⟨_, rfl, a, C, dx, _, _, rfl, h0, T.cl, T.off_beat, pf_off _ _ _ _, _, rfl, _, _, _, _, rfl, rfl, SqT.of h2, atI_nat (nat_at (by rw [fine.off7]; exact hk)), z⟩
/-! ### made from numbers -/
theorem ints_nats {ns : List Int} (h : ∀ z ∈ ns, 0 ≤ z) : ns.map V.int = (ns.map Int.toNat).map natV := by
  rw [List.map_map]
  refine List.map_congr_left fun z hz => ?_
  show V.int z = V.int ((z.toNat : Nat) : Int)
  rw [Int.toNat_of_nonneg (h z hz)]
theorem allIn_mem : ∀ {ns : List Int} {rs : List (Int × Int)}, allIn ns rs = true → (∀ r ∈ rs, 0 ≤ r.1) → ∀ z ∈ ns, 0 ≤ z
  | [], [], _, _, z, hz => by simp at hz
  | x :: ns, r :: rs, h, hr, z, hz => by
    simp only [allIn, Bool.and_eq_true, decide_eq_true_eq] at h
    rcases List.mem_cons.mp hz with e | e
    · have := hr r List.mem_cons_self
      omega
    · exact allIn_mem h.2 (fun r hr' => hr r (List.mem_cons_of_mem _ hr')) z e
  | [], _ :: _, h, _, _, _ => by simp [allIn] at h
  | _ :: _, [], h, _, _, _ => by simp [allIn] at h
theorem priceR_low : ∀ r ∈ priceR, 0 ≤ r.1 := by decide
theorem priceR_len : priceR.length = 16 := by decide
theorem beat_ge {ns : List Int} (h : allIn ns priceR = true) : 1 ≤ ns.getD 15 0 := by
  have hl := allIn_len _ _ h
  rw [priceR_len] at hl
  have e : ns = ns.take 15 ++ ns.drop 15 := (List.take_append_drop 15 ns).symm
  have hd : ns.drop 15 = [ns.getD 15 0] := by
    rw [List.drop_eq_getElem_cons (by omega), List.drop_eq_nil_of_le (by omega), List.getD_eq_getElem?_getD, List.getElem?_eq_getElem (by omega)]
    rfl
  rw [e, hd] at h
  unfold priceR at h
  rw [allIn_append _ _ _ _ (by rw [List.length_take, List.length_replicate]; omega)] at h
  simp only [Bool.and_eq_true, allIn, decide_eq_true_eq] at h
  exact h.2.1.1
theorem made_prices {C p dx t1 t2 : Addr} {H H' : Hp} {ns : List Int} (ha : allIn ns priceR = true) (hp : H p = none) (n1 : H t1 = none) (n2 : H t2 = none) (h0 : H' p = some (.ins C dx (pf4 t1 t2 (ns.getD 14 0) (ns.getD 15 0))))
    (h1 : H' t1 = some (.tup ((ns.take 7).map V.int))) (h2 : H' t2 = some (.tup (((ns.drop 7).take 7).map V.int))) : PricesAt C (nw H H') p (tableBy ns) := by
  have hl := allIn_len _ _ ha
  rw [priceR_len] at hl
  have pos := allIn_mem ha priceR_low
  have b := beat_ge ha
  have c14 : 0 ≤ ns.getD 14 0 := pos _ (by rw [List.getD_eq_getElem?_getD, List.getElem?_eq_getElem (by omega)]; exact List.getElem_mem _)
  refine ⟨⟨?_, ?_, ?_⟩, dx, t1, t2, ?_, ?_, ?_⟩
  · show ((ns.take 7).map Int.toNat).length = 7
    rw [List.length_map, List.length_take]; omega
  · show (((ns.drop 7).take 7).map Int.toNat).length = 7
    rw [List.length_map, List.length_take, List.length_drop]; omega
  · show 1 ≤ (ns.getD 15 0).toNat
    omega
  · rw [nw_at hp, h0]
    show some (HO.ins C dx (pf4 t1 t2 (ns.getD 14 0) (ns.getD 15 0))) = some (HO.ins C dx (pf4 t1 t2 (((ns.getD 14 0).toNat : Nat) : Int) (((ns.getD 15 0).toNat : Nat) : Int)))
    rw [Int.toNat_of_nonneg c14, Int.toNat_of_nonneg (by omega)]
  · rw [nw_at n1, h1, ints_nats fun z hz => pos z (List.mem_of_mem_take hz)]
    rfl
  · rw [nw_at n2, h2, ints_nats fun z hz => pos z (List.mem_of_mem_drop (List.mem_of_mem_take hz))]
    rfl
/-! ### first_prices -/
def prices0 : List Int := [0, 10, 0, 6, 0, 0, 10, 0, 3, 0, 2, 0, 0, 3, 8, 16]
theorem table_first : tableBy prices0 = Cp07.table0 := rfl
def spFirstPr (C : Addr) : Sp := fun vs H Q _ => vs = [] ∧ ∀ H' p, Same H H' → H p = none → PricesAt C (nw H H') p Cp07.table0 → Q (.ref p) H'
theorem sc_first_pr : FnScope [] [] (defScope s_first_prices) := ⟨rfl, rfl, rfl, by decide +kernel, rfl, by decide +kernel, by decide +kernel⟩
theorem ok_first_pr {C : Addr} (h : Here K mg "first_prices" s_first_prices []) (cF : CstN K mg "FIRST_PRICES" prices0) (I : DefI P w K mg base C 1 "Prices" ["self", "numbers"] (spPrInit K C)) : Def P w K mg base 3 "first_prices" [] (spFirstPr C) := by
  obtain ⟨gC, fI, fdI, M, bI, GI⟩ := I
  obtain ⟨ar, mr, hR⟩ := cF
  refine h.ok sc_first_pr (fun vs H Q E h => ?_) (fun f cdv A outer s H vs Q E hr h => ?_)
  · obtain ⟨rfl, _⟩ := h; rfl
  · obtain ⟨rfl, q⟩ := h
    refine ⟨_, pss_one (ps_ret (pe_make M GI hr rfl gC bI .nil pass0 (pa_cons (pe_glob (v := .ref ar) rfl mr rfl) pa_nil))), ?_⟩
    intro x dx nx nd ne
    have s2 : Same H (upd (upd H dx (.own x)) x (.ins C dx [])) := Same.new' (Same.new nd) (by rw [upd_ne ne.symm]; exact nx)
    refine ⟨x, ar, dx, true, prices0, rfl, upd_same, hR _, by decide, fun H2 t1 t2 h0 n1 n2 h1 h2 kp => ⟨rfl, ?_⟩⟩
    have m := made_prices (C := C) (by decide) nx (s2.free n1) (s2.free n2) h0 h1 h2
    rw [table_first] at m
    exact q H2 x (Same.made nx nd kp) nx m
/-! ### read_prices -/
def spReadPr (K : PySem.W.Frag) (C : Addr) : Sp := fun vs H Q _ => ∃ (a : Addr) (ns : List Int), vs = [.ref a] ∧ SqL K H a (ns.map V.int) ∧
  (allIn ns priceR = false → ∀ H', Same H H' → Q .non H') ∧ (allIn ns priceR = true → ∀ H' p, Same H H' → H p = none → PricesAt C (nw H H') p (tableBy ns) → Q (.ref p) H')
theorem sc_read_pr : FnScope ["numbers", "ranges"] ["numbers"] (defScope s_read_prices) := ⟨rfl, rfl, rfl, by decide +kernel, rfl, by decide +kernel, by decide +kernel⟩
theorem ok_read_pr {C : Addr} (h : Here K mg "read_prices" s_read_prices ["numbers"]) (W : Def P w K mg base 2 "all_within" ["numbers", "ranges"] (spAll K)) (I : DefI P w K mg base C 1 "Prices" ["self", "numbers"] (spPrInit K C)) :
    Def P w K mg base 3 "read_prices" ["numbers"] (spReadPr K C) := by
  obtain ⟨f2, fd2, g2, k2, b2, G2⟩ := W
  obtain ⟨gC, fI, fdI, M, bI, GI⟩ := I
  refine h.ok sc_read_pr (fun vs H Q E h => ?_) (fun f cdv A outer s H vs Q E hr h => ?_)
  · obtain ⟨a, ns, rfl, _⟩ := h; rfl
  · obtain ⟨a, ns, rfl, sa, qN, qS⟩ := h
    refine ⟨_, pss_cons (ps_set (i := 1) sc_read_pr.nd rfl (.inl rfl) (pe_op op_cat (pe_op op_rep (pe_lst (pa_cons (pe_tup (pa_cons pe_int (pa_cons pe_int pa_nil))) pa_nil)) pe_int) (pe_lst (pa_cons (pe_tup (pa_cons pe_int (pa_cons pe_int pa_nil))) pa_nil))))
      (pss_cons (ps_if (pt_not (pt_val (pe_call G2 hr rfl g2 k2 b2 .nil pass0 (pa_cons (pv 0) (pa_cons (pv 1) pa_nil))))) (pss_one (ps_ret pe_non)) pss_nil)
      (pss_one (ps_ret (pe_make M GI hr rfl gC bI .nil pass0 (pa_cons (pv 0) pa_nil))))), ?_⟩
    refine ⟨(by show 2 ≤ sizeLine; decide), fun t ht => ⟨(by show 1 ≤ sizeLine; decide), fun l hl => ?_⟩⟩
    refine ⟨l, 15, _, rfl, rfl, upd_same, by decide, by decide, (by show 1 * 15 ≤ sizeLine; decide), fun r hr' => ?_⟩
    refine ⟨(by show 2 ≤ sizeLine; decide), fun u hu => ⟨(by show 1 ≤ sizeLine; decide), fun m hm => ?_⟩⟩
    have s1 := Same.new (o := .tup [.int 0, .int 100]) ht
    have s2 := Same.new (o := .lst [.ref t]) hl
    have s3 := Same.new (o := .lst (List.replicate (15 : Int).toNat [V.ref t]).flatten) hr'
    have s4 := Same.new (o := .tup [.int 1, .int 512]) hu
    have s5 := Same.new (o := .lst [.ref u]) hm
    refine ⟨r, m, _, _, rfl, rfl, s5 _ _ (s4 _ _ upd_same), upd_same, (by show 15 + 1 ≤ sizeLine; decide), fun c hc => ?_⟩
    have s6 := Same.new (o := .lst ((List.replicate (15 : Int).toNat [V.ref t]).flatten ++ [.ref u])) hc
    have sm : Same H _ := s1.trans (s2.trans (s3.trans (s4.trans (s5.trans s6))))
    have tt := s6 _ _ (s5 _ _ (s4 _ _ (s3 _ _ (s2 _ _ (upd_same (H := H) (a := t) (o := .tup [.int 0, .int 100]))))))
    have tu := s6 _ _ (s5 _ _ (upd_same (a := u) (o := .tup [.int 1, .int 512])))
    have tg : TupsG false K _ c (priceR.map rgV) := ⟨List.replicate 15 t ++ [u], SqL.of upd_same, rfl, fun i x xs h1 h2 => by
      by_cases hi : i < 15
      · rw [List.getElem?_append_left (by rw [List.length_replicate]; exact hi), List.getElem?_replicate, if_pos hi] at h1
        cases h1
        have e : (priceR.map rgV)[i]? = some (rgV (0, 100)) := by
          show ((List.replicate 15 ((0 : Int), (100 : Int)) ++ [(1, 512)]).map rgV)[i]? = _
          rw [List.getElem?_map, List.getElem?_append_left (by rw [List.length_replicate]; exact hi), List.getElem?_replicate, if_pos hi]
          rfl
        rw [e] at h2
        cases h2
        exact SqT.of tt
      · have h15 := get_lt h1
        rw [List.length_append, List.length_replicate, List.length_singleton] at h15
        have : i = 15 := by omega
        subst this
        cases h1
        cases h2
        exact SqT.of tu⟩
    refine ⟨_, rfl, _, rfl, a, c, false, false, ns, priceR, rfl, rfl, sm.seq sa, tg, by decide, fun H1 z1 => ⟨_, rfl, ?_⟩⟩
    cases ca : allIn ns priceR with
    | false => exact iteT (qN ca H1 (sm.trans z1))
    | true =>
      refine iteF ?_
      refine ⟨_, rfl, fun x dx nx nd ne => ?_⟩
      have z2 : Same H1 (upd (upd H1 dx (.own x)) x (.ins C dx [])) := Same.new' (Same.new nd) (by rw [upd_ne ne.symm]; exact nx)
      have sH : Same H H1 := sm.trans z1
      refine ⟨x, a, dx, false, ns, rfl, upd_same, (sH.trans z2).seq sa, (allIn_len _ _ ca).trans priceR_len, fun H2 t1 t2 h0 n1 n2 h1 h2 kp => ⟨rfl, ?_⟩⟩
      have zz : Same H H2 := sH.trans (Same.made nx nd kp)
      exact qS ca H2 x zz (sH.free nx) (made_prices ca (sH.free nx) (sH.free (z2.free n1)) (sH.free (z2.free n2)) h0 h1 h2)
end
end CW

set_option Elab.async false
set_option linter.all false
set_option maxRecDepth 100000
set_option maxHeartbeats 4000000
/-! what two voices cost -/
namespace CW
open PySem PySem.Spec PyProof.Rows L2 CWX
section
variable {P : Program} {w : World} {K : PySem.W.Frag} {mg : Str → Option Value} {base : Heap}
def VoiceAt (H : Hp) (a : Addr) (v : Cp07.Voice) : Prop := TupsT H a ((laid (v.1 : Int) v.2).map ev3V)
theorem VoiceAt.same {H H' : Hp} {a : Addr} {v : Cp07.Voice} (h : VoiceAt H a v) (e : Same H H') : VoiceAt H' a v := TupsT.same h e
def mV (m : Nat × Nat) : List V := [natV m.1, natV m.2]
def befV (H : Hp) : Option (Int × Int) → V → Prop
  | none, v => v = .non
  | some p, v => ∃ t, v = .ref t ∧ H t = some (.tup [.int p.1, .int p.2])
theorem befV.same {H H' : Hp} {bf : Option (Int × Int)} {v : V} (h : befV H bf v) (e : Same H H') : befV H' bf v := by
  cases bf with
  | none => exact h
  | some p =>
    obtain ⟨t, h1, h2⟩ := h
    exact ⟨t, h1, e _ _ h2⟩
theorem par_parB (q : Cp07.Table) (p : Int × Int) (x y : Int) : par q (some p) x y = if parB p.1 p.2 x y = true then q.parallel else 0 := by
  unfold par parB Cp07.parallels
  simp only [decide_eq_true_eq]
theorem left_lt (x y : Int) : Cp07.left x y < 7 := Nat.mod_lt _ (by decide)
theorem mc_none {q : Cp07.Table} {a b : Cp07.Voice} {bf : Option (Int × Int)} {t : Nat} {ts : List Nat} (h : (Cp07.sounding a t).map (fun x => x.1) = none ∨ (Cp07.sounding b t).map (fun x => x.1) = none) : mc q a b bf (t :: ts) = mc q a b none ts := by
  simp only [mc]
  rcases h with h | h
  · rw [h]
  · rw [h]
    cases (Cp07.sounding a t).map (fun x => x.1) <;> rfl
theorem mc_some {q : Cp07.Table} {a b : Cp07.Voice} {bf : Option (Int × Int)} {t : Nat} {ts : List Nat} {x y : Int} (h1 : (Cp07.sounding a t).map (fun x => x.1) = some x) (h2 : (Cp07.sounding b t).map (fun x => x.1) = some y) :
    mc q a b bf (t :: ts) = (t, Cp07.price q (t, x, y) + par q bf x y) :: mc q a b (some (x, y)) ts := by
  simp only [mc]
  rw [h1, h2]
def spCosts (C : Addr) : Sp := fun vs H Q _ => ∃ (a b c : Addr) (u v : Cp07.Voice) (q : Cp07.Table), vs = [.ref a, .ref b, .ref c] ∧ VoiceAt H a u ∧ VoiceAt H b v ∧ u.2.length ≤ 16 ∧ v.2.length ≤ 16 ∧ PricesAt C H c q ∧
  ((Cp07.moments u v).length ≤ 32 → ∀ H' p, Same H H' → TupsN H H' p ((mc q u v none (Cp07.moments u v)).map mV) → Q (.ref p) H')
theorem sc_costs : FnScope ["one", "other", "prices", "costs", "times", "before", "time", "step", "other_step", "now", "cost"] ["one", "other", "prices"] (defScope s_meeting_costs) := ⟨rfl, rfl, rfl, by decide +kernel, rfl, by decide +kernel, by decide +kernel⟩
/-- the loop's state behind i moments -/
structure CostInv (H : Hp) (p : Addr) (q : Cp07.Table) (u v : Cp07.Voice) (ms : List Nat) (i : Nat) (bf : Option (Int × Int)) (done : List (Nat × Nat)) (vb : V) (H' : Hp) : Prop where
  sm : Same H H'
  tn : TupsN H H' p (done.map mV)
  bv : befV (nw H H') bf vb
  eq : mc q u v none ms = done ++ mc q u v bf (ms.drop i)
  few : done.length ≤ i
def onV (v : Cp07.Voice) (t : Nat) : V := optV ((Cp07.sounding v t).map fun x => x.1)
/-- the lists that are zipped, and the loop's slots -/
def CostPv (H : Hp) (a b c p ta p1 p2 : Addr) (q : Cp07.Table) (u v : Cp07.Voice) (ms : List Nat) (i : Nat) (σ : L2.St) (H' : Hp) : Prop :=
  ∃ (bf : Option (Int × Int)) (done : List (Nat × Nat)) (vb : V) (x6 x7 x8 x9 x10 : Option V), σ = [some (.ref a), some (.ref b), some (.ref c), some (.ref p), some (.ref ta), some vb, x6, x7, x8, x9, x10] ∧ CostInv H p q u v ms i bf done vb H' ∧
    H' ta = some (.lst (ms.map natV)) ∧ H' p1 = some (.lst (ms.map (onV u))) ∧ H' p2 = some (.lst (ms.map (onV v)))
theorem ok_costs {C : Addr} (B : Blt mg) (T : PrC K C) (h : Here K mg "meeting_costs" s_meeting_costs ["one", "other", "prices"]) (Bg : Def P w K mg base 1 "beginnings" ["one", "other"] spBegin) (So : Def P w K mg base 2 "steps_on" ["voice", "times"] (spStepsOn K))
    (L : Def P w K mg base 1 "what_is_left" ["steps"] (spLeft K)) (Pa : Def P w K mg base 2 "are_parallel" ["before", "now"] (spPar K)) (Ga : DefM P w K mg base C 1 "price_of_gap" ["self", "left", "time"] (spGap C)) :
    Def P w K mg base 3 "meeting_costs" ["one", "other", "prices"] (spCosts C) := by
  obtain ⟨f1, fd1, g1, k1, b1, G1⟩ := Bg
  obtain ⟨f2, fd2, g2, k2, b2, G2⟩ := So
  obtain ⟨f3, fd3, g3, k3, b3, G3⟩ := L
  obtain ⟨f4, fd4, g4, k4, b4, G4⟩ := Pa
  obtain ⟨f5, fd5, m5, b5, G5⟩ := Ga
  refine h.ok sc_costs (fun vs H Q E h => ?_) (fun f cdv A outer s H vs Q E hr h => ?_)
  · obtain ⟨a, b, c, u, v, q, rfl, _⟩ := h; rfl
  · obtain ⟨a, b, c, u, v, q, rfl, va, vb, lu, lv, pc, z⟩ := h
    have hr1 : Room 1 _ := hr.mono (by decide)
    refine ⟨_, pss_cons (ps_set (i := 3) sc_costs.nd rfl (.inl rfl) (pe_lst pa_nil)) (pss_cons (ps_set (i := 4) sc_costs.nd rfl (.inl rfl) (pe_call G1 hr1 rfl g1 k1 b1 .nil pass0 (pa_cons (pv 0) (pa_cons (pv 1) pa_nil))))
      (pss_cons (ps_set (i := 5) sc_costs.nd rfl (.inl rfl) pe_non)
      (pss_cons (ps_for PassesOwn.never rfl (pi_zip3 (by rfl) B.zip (pa_cons (pv 4) (pa_cons (pe_call G2 hr rfl g2 k2 b2 .nil pass0 (pa_cons (pv 0) (pa_cons (pv 4) pa_nil))) (pa_cons (pe_call G2 hr rfl g2 k2 b2 .nil pass0 (pa_cons (pv 1) (pa_cons (pv 4) pa_nil))) pa_nil))))
        (pg_tup rfl (pgs_cons (pg_name (i := 6) sc_costs.nd rfl (.inl rfl)) (pgs_cons (pg_name (i := 7) sc_costs.nd rfl (.inl rfl)) (pgs_cons (pg_name (i := 8) sc_costs.nd rfl (.inl rfl)) pgs_nil))))
        (pss_cons (ps_if (PW.pt (pw_or (pt_cmpR op_isN (pv 7) pe_non (nomark _)) (pw_or1 (pt_cmpR op_isN (pv 8) pe_non (nomark _))))) (pss_cons (ps_set (i := 5) sc_costs.nd rfl (.inl rfl) pe_non) (pss_one ps_continue)) pss_nil)
        (pss_cons (ps_set (i := 9) sc_costs.nd rfl (.inl rfl) (pe_tup (pa_cons (pv 7) (pa_cons (pv 8) pa_nil))))
        (pss_cons (ps_set (i := 10) sc_costs.nd rfl (.inl rfl) (pe_meth (pv 2) T.cl m5 G5 hr1 b5 .nil pass0 (pa_cons (pe_call G3 hr1 rfl g3 k3 b3 .nil pass0 (pa_cons (pv 9) pa_nil)) (pa_cons (pv 6) pa_nil))))
        (pss_cons (ps_if (PW.pt (pw_and (pt_cmpR op_notN (pv 5) pe_non (nomark _)) (pw_and1 (pt_val (pe_call G4 hr rfl g4 k4 b4 .nil pass0 (pa_cons (pv 5) (pa_cons (pv 9) pa_nil))))))) (pss_one (ps_aug (i := 10) sc_costs.nd rfl (.inl rfl) (pe_fld (pv 2) rfl) ip_add)) pss_nil)
        (pss_cons (ps_expr (pe_bm PySem.F.plainAttrs_list PySem.F.slot_list_append PySem.F.type_list_append mt_append (pv 3) (pa_cons (pe_tup (pa_cons (pv 6) (pa_cons (pv 10) pa_nil))) pa_nil)))
        (pss_one (ps_set (i := 5) sc_costs.nd rfl (.inl rfl) (pv 9)))))))))
      (pss_one (ps_ret (pv 3)))))), ?_⟩
    refine ⟨Nat.zero_le _, fun p hp => ?_⟩
    have s1 := Same.new (o := .lst []) hp
    refine ⟨_, rfl, _, rfl, a, b, _, _, rfl, va.same s1, vb.same s1, by rw [laid_length]; exact lu, by rw [laid_length]; exact lv, fun ns H2 ta s2 asc mem few nta hta => ?_⟩
    have em := moments_same (a := u) (b := v) asc mem
    subst em
    rw [List.length_map] at few
    have s12 := s1.trans s2
    refine ⟨_, rfl, _, rfl, _, rfl, a, ta, _, _, rfl, va.same s12, SqL.of hta, asc, by rw [List.length_map]; exact few, fun H3 p1 s3 np1 hp1 => ?_⟩
    have s13 := s12.trans s3
    refine ⟨_, rfl, _, rfl, b, ta, _, _, rfl, vb.same s13, SqL.of (s3 _ _ hta), asc, by rw [List.length_map]; exact few, fun H4 p2 s4 np2 hp2 => ?_⟩
    have s14 := s13.trans s4
    refine ⟨ta, p1, p2, _, _, _, rfl, SqL.of (s4 _ _ (s3 _ _ hta)), SqL.of (s4 _ _ hp1), SqL.of hp2, ?_⟩
    have e0 : (List.map Int.ofNat (Cp07.moments u v)).map V.int = (Cp07.moments u v).map natV := by
      rw [List.map_map]
      rfl
    have e1 : ∀ x : Cp07.Voice, (List.map Int.ofNat (Cp07.moments u v)).map (fun t => optV (on (laid (x.1 : Int) x.2) t)) = (Cp07.moments u v).map (onV x) := fun x => by
      rw [List.map_map]
      refine List.map_congr_left fun t _ => ?_
      show optV (on (laid (x.1 : Int) x.2) (t : Int)) = onV x t
      rw [on_laid]
      rfl
    rw [e0] at hta
    rw [e1] at hp1 hp2
    generalize hms : Cp07.moments u v = ms at *
    have npa : p ≠ ta := ne_of_none upd_same nta
    have npp1 : p ≠ p1 := ne_of_none (s2 _ _ upd_same) np1
    have npp2 : p ≠ p2 := ne_of_none (s3 _ _ (s2 _ _ upd_same)) np2
    refine for_it (walk_zip3 (xs := ms.map natV) (ys := ms.map (onV u)) (us := ms.map (onV v)) (by rw [List.length_map, List.length_map]) (by rw [List.length_map, List.length_map])) (CostPv H a b c p ta p1 p2 q u v ms) ?_ ?_ ?_ ?_
    · exact ⟨none, [], .non, none, none, none, none, none, rfl, ⟨s14, TupsN.nil hp (s4 _ _ (s3 _ _ (s2 _ _ upd_same))), rfl, rfl, Nat.le_refl _⟩, s4 _ _ (s3 _ _ hta), s4 _ _ hp1, hp2⟩
    · rintro i σ H' _ ⟨_, _, _, _, _, _, _, _, _, _, j1, j2, j3⟩
      exact ⟨SqL.of j1, SqL.of j2, SqL.of j3⟩
    · rintro i y σ H5 H6 hi ⟨bf, done, vb', x6, x7, x8, x9, x10, rfl, I, j1, j2, j3⟩ ⟨tt, y1, y2, y3, rfl, ntt, rfl, hy1, hy2, hy3⟩
      obtain ⟨m, hm, rfl⟩ := get_map hy1
      obtain ⟨m', hm', rfl⟩ := get_map hy2
      obtain ⟨m'', hm'', rfl⟩ := get_map hy3
      rw [hm] at hm' hm''
      cases hm'
      cases hm''
      have hd : ms.drop i = m :: ms.drop (i + 1) := by
        obtain ⟨h1, h2⟩ := List.getElem?_eq_some_iff.mp hm
        rw [List.drop_eq_getElem_cons h1, h2]
      have st := Same.new (o := .tup [natV m, onV u m, onV v m]) ntt
      refine ⟨tt, _, rfl, SqT.of upd_same, rfl, _, _, rfl, _, _, rfl, _, _, rfl, rfl, ?_⟩
      have quiet : ∀ D : Ends, D.ct = CostPv H a b c p ta p1 p2 q u v ms (i + 1) → ((Cp07.sounding u m).map (fun x => x.1) = none ∨ (Cp07.sounding v m).map (fun x => x.1) = none) →
          tSeq (tAsg (tC .non) (gName 5)) tCont D [some (.ref a), some (.ref b), some (.ref c), some (.ref p), some (.ref ta), some vb', some (natV m), some (onV u m), some (onV v m), x9, x10] (upd H5 tt (.tup [natV m, onV u m, onV v m])) := by
        intro D hD hq
        show D.ct _ _
        rw [hD]
        refine ⟨none, done, .non, some (natV m), some (onV u m), some (onV v m), x9, x10, rfl, ⟨I.sm.trans st, I.tn.keep st, rfl, ?_, Nat.le_succ_of_le I.few⟩, st _ _ j1, st _ _ j2, st _ _ j3⟩
        rw [I.eq, hd, mc_none hq]
      cases hx : (Cp07.sounding u m).map (fun x => x.1) with
      | none =>
        have ex : onV u m = .non := by unfold onV; rw [hx]; rfl
        refine ⟨_, rfl, rfl, _, rfl, ?_⟩
        have d1 : decide (onV u m = V.non) = true := decide_eq_true ex
        rw [d1]
        exact iteT (iteT (quiet _ rfl (.inl hx)))
      | some x =>
        have ex : onV u m = .int x := by unfold onV; rw [hx]; rfl
        refine ⟨_, rfl, rfl, _, rfl, ?_⟩
        have d1 : decide (onV u m = V.non) = false := decide_eq_false (by rw [ex]; intro z; cases z)
        rw [d1]
        refine iteF ⟨_, rfl, rfl, _, rfl, ?_⟩
        cases hy : (Cp07.sounding v m).map (fun x => x.1) with
        | none =>
          have ey : onV v m = .non := by unfold onV; rw [hy]; rfl
          have d2 : decide (onV v m = V.non) = true := decide_eq_true ey
          rw [d2]
          exact iteT (quiet _ rfl (.inr hy))
        | some y =>
          have ey : onV v m = .int y := by unfold onV; rw [hy]; rfl
          have d2 : decide (onV v m = V.non) = false := decide_eq_false (by rw [ey]; intro z; cases z)
          rw [d2]
          refine iteF ?_
          clear quiet d1 d2 st
          rw [ex, ey]
          have st := Same.new (o := .tup [natV m, V.int x, V.int y]) ntt
          refine ⟨_, rfl, _, rfl, (by show 2 ≤ sizeLine; decide), fun nn hnn => ?_⟩
          have st2 := Same.new' (o := .tup [V.int x, V.int y]) st hnn
          have sH := I.sm.trans st2
          have pc' := pc.same sH
          obtain ⟨fine, dx, t1, t2, q0, q1, q2⟩ := id pc'
          refine ⟨_, rfl, c, dx, _, rfl, q0, pf_meth _ _ _ _, _, rfl, nn, x, y, rfl, SqT.of upd_same, _, rfl, c, q, Cp07.left x y, m, rfl, pc', left_lt x y, ?_⟩
          have fin : ∀ (D : Ends) (cst : Nat), D.nx = CostPv H a b c p ta p1 p2 q u v ms (i + 1) → cst = Cp07.price q (m, x, y) + par q bf x y →
              tSeq (tDrop (tBM K "list" rAppend (tVar 3) (tCons (tTup (tCons (tVar 6) (tCons (tVar 10) tNil))) tNil))) (tAsg (tVar 9) (gName 5)) D
                [some (.ref a), some (.ref b), some (.ref c), some (.ref p), some (.ref ta), some vb', some (natV m), some (.int x), some (.int y), some (.ref nn), some (natV cst)] (upd (upd H5 tt (.tup [natV m, V.int x, V.int y])) nn (.tup [V.int x, V.int y])) := by
            intro D cst hD hcst
            have tn2 := I.tn.keep st2
            obtain ⟨us, u1, u2⟩ := tn2.at
            refine ⟨_, rfl, .inl ⟨rfl, _, SqL.of u1⟩, _, rfl, _, rfl, (by show 2 ≤ sizeLine; decide), fun c2 hc2 => ?_⟩
            have st3 := Same.new (o := .tup [natV m, natV cst]) hc2
            have npc : p ≠ c2 := ne_of_none u1 hc2
            refine ⟨p, _, _, rfl, rfl, st3 _ _ u1, ?_, ?_⟩
            · rw [List.length_map, u2, List.length_map]
              have := I.few
              have := get_lt hm
              exact small1000 (by omega)
            refine ⟨_, rfl, ?_⟩
            show D.nx _ _
            rw [hD]
            have sA := st2.trans st3
            have nnn : nn ≠ c2 := ne_of_none upd_same hc2
            have hnH : H nn = none := I.sm.free (st.free hnn)
            have npn : nn ≠ p := fun e => by
              have q1 := I.tn.at
              obtain ⟨us2, w1, _⟩ := q1
              rw [e] at hnn
              rw [st _ _ w1] at hnn
              cases hnn
            refine ⟨some (x, y), done ++ [(m, cst)], .ref nn, some (natV m), some (.int x), some (.int y), some (.ref nn), some (natV cst), rfl, ⟨Same.put (sH.trans st3) hp, ?_, ⟨nn, rfl, ?_⟩, ?_, ?_⟩, ?_, ?_, ?_⟩
            · rw [List.map_append]
              exact (tn2.keep st3).push (st3 _ _ u1) (sH.free hc2) upd_same
            · rw [nw_at hnH, upd_ne npn]
              exact st3 _ _ upd_same
            · rw [I.eq, hd, mc_some hx hy, ← hcst, List.append_assoc]
              rfl
            · rw [List.length_append, List.length_singleton]
              exact Nat.succ_le_succ I.few
            · rw [upd_ne npa.symm]; exact sA _ _ j1
            · rw [upd_ne npp1.symm]; exact sA _ _ j2
            · rw [upd_ne npp2.symm]; exact sA _ _ j3
          have ep : (if m % q.beat = 0 then q.on else q.off).getD (Cp07.left x y) 0 = Cp07.price q (m, x, y) := rfl
          rw [ep]
          refine ⟨_, rfl, rfl, _, rfl, ?_⟩
          have bv := I.bv
          cases bf with
          | none =>
            have e : vb' = .non := bv
            have d : decide (vb' = V.non) = true := decide_eq_true e
            rw [d]
            exact iteF (iteF (fin _ _ rfl rfl))
          | some pr =>
            obtain ⟨t, et, ht⟩ := bv
            have d : decide (vb' = V.non) = false := decide_eq_false (by rw [et]; intro z; cases z)
            rw [d]
            refine iteT ⟨_, rfl, _, rfl, t, nn, pr.1, pr.2, x, y, by rw [et]; rfl, SqT.of (st2 _ _ (nw_same _ _ ht)), SqT.of upd_same, _, rfl, ?_⟩
            have epar := par_parB q pr x y
            cases hb : parB pr.1 pr.2 x y with
            | false =>
              rw [hb] at epar
              exact iteF (fin _ _ rfl (by rw [epar]; rfl))
            | true =>
              rw [hb, if_pos rfl] at epar
              refine iteT ⟨_, rfl, _, rfl, c, C, dx, _, _, rfl, q0, T.cl, T.parallels, pf_par _ _ _ _, _, _, rfl, rfl, ?_⟩
              exact fin _ (Cp07.price q (m, x, y) + q.parallel) rfl (by rw [epar])
    · rintro σ H' ⟨bf, done, vb', x6, x7, x8, x9, x10, rfl, I, _⟩
      have e := I.eq
      rw [List.length_map, List.drop_length] at e
      simp only [mc, List.append_nil] at e
      rw [e] at z
      exact ⟨_, rfl, z few H' p I.sm I.tn⟩
end
end CW

set_option Elab.async false
set_option linter.all false
set_option maxRecDepth 100000
set_option maxHeartbeats 4000000
/-! cost_of_two -/
namespace CW
open PySem PySem.Spec PyProof.Rows L2 CWX
section
variable {P : Program} {w : World} {K : PySem.W.Frag} {mg : Str → Option Value} {base : Heap}
theorem mc_len (q : Cp07.Table) (a b : Cp07.Voice) : ∀ (ms : List Nat) (bf : Option (Int × Int)), (mc q a b bf ms).length ≤ ms.length
  | [], _ => Nat.le_refl _
  | m :: ms, bf => by
    cases h1 : (Cp07.sounding a m).map (fun x => x.1) with
    | none =>
      rw [mc_none (.inl h1)]
      exact Nat.le_succ_of_le (mc_len q a b ms none)
    | some x =>
      cases h2 : (Cp07.sounding b m).map (fun x => x.1) with
      | none =>
        rw [mc_none (.inr h2)]
        exact Nat.le_succ_of_le (mc_len q a b ms none)
      | some y =>
        rw [mc_some h1 h2]
        exact Nat.succ_le_succ (mc_len q a b ms _)
theorem nat_sum : ∀ l : List Nat, (l.map fun (n : Nat) => (n : Int)).sum = (l.sum : Int)
  | [] => rfl
  | n :: l => by
    rw [List.map_cons, List.sum_cons, List.sum_cons, nat_sum l]
    omega
def spTwo (C : Addr) : Sp := fun vs H Q _ => ∃ (a b c : Addr) (u v : Cp07.Voice) (q : Cp07.Table), vs = [.ref a, .ref b, .ref c] ∧ VoiceAt H a u ∧ VoiceAt H b v ∧ u.2.length ≤ 16 ∧ v.2.length ≤ 16 ∧ PricesAt C H c q ∧
  ∀ H', Same H H' → Q (natV (Cp07.cost q u v)) H'
theorem sc_two : FnScope ["one", "other", "prices", "meeting"] ["one", "other", "prices"] (defScope s_cost_of_two) := ⟨rfl, rfl, rfl, by decide +kernel, rfl, by decide +kernel, by decide +kernel⟩
theorem ok_two {C : Addr} (B : Blt mg) (h : Here K mg "cost_of_two" s_cost_of_two ["one", "other", "prices"]) (M : Def P w K mg base 3 "meeting_costs" ["one", "other", "prices"] (spCosts C)) : Def P w K mg base 4 "cost_of_two" ["one", "other", "prices"] (spTwo C) := by
  obtain ⟨f1, fd1, g1, k1, b1, G1⟩ := M
  refine h.ok sc_two (fun vs H Q E h => ?_) (fun f cdv A outer s H vs Q E hr h => ?_)
  · obtain ⟨a, b, c, u, v, q, rfl, _⟩ := h; rfl
  · obtain ⟨a, b, c, u, v, q, rfl, va, vb, lu, lv, pc, z⟩ := h
    refine ⟨_, pss_one (ps_ret (pe_callB (cr_sum rfl) (by rfl) B.sum (by decide +kernel) (pa_cons
      (pe_lc (own := [("meeting", 3)]) (g := gName 3) (tt := tYes) rfl sc_two.nd (pi_list (pe_call G1 hr rfl g1 k1 b1 .nil pass0 (pa_cons (pv 0) (pa_cons (pv 1) (pa_cons (pv 2) pa_nil))))) (blkOk_by (N := ["one", "other", "prices", "meeting"]) (sc := defScope s_cost_of_two) (by decide +kernel))
        (fun _ _ _ _ _ => pg_name (i := 3) sc_two.nd rfl (.inl rfl)) (fun _ _ _ _ _ => pts_nil)
        (fun _ _ _ _ _ => pe_ix (ixT K) (pv 3) pe_int (fun _ _ => rfl))) pa_nil))), ?_⟩
    refine ⟨_, rfl, _, rfl, _, rfl, a, b, c, u, v, q, rfl, va, vb, lu, lv, pc, fun few H1 p s1 tn => ?_⟩
    obtain ⟨ts, t1, t2, t3⟩ := tn.trk'
    rw [List.length_map] at t2
    have hl := mc_len q u v (Cp07.moments u v) none
    refine ⟨p, rfl, ⟨_, SqL.of t1⟩, fun D hD => ?_⟩
    refine lc_list (K := K) (a := p) (xs := ts.map V.ref) (fun i H' => Same H1 H' ∧ H' D = some (.lst (((((mc q u v none (Cp07.moments u v)).take i).map fun m => m.2).map fun (n : Nat) => (n : Int)).map V.int))) ⟨Same.new hD, upd_same⟩ (fun i H' _ p => SqL.of (p.1 _ _ t1)) ?_ ?_
    · rintro i x H' hi ⟨sm, hd⟩
      obtain ⟨t, ht, rfl⟩ := get_map hi
      obtain ⟨e, he⟩ := get_some (l := mc q u v none (Cp07.moments u v)) (i := i) (by have := get_lt ht; omega)
      have st := sm _ _ (t3 i t (mV e) ht (by rw [List.getElem?_map, he]; rfl))
      refine ⟨rfl, yes_if ?_⟩
      refine ⟨_, rfl, _, _, _, _, rfl, rfl, SqT.of st, atI_nat (j := 1) rfl, _, hd, ?_, Same.put sm hD, ?_⟩
      · rw [List.length_map, List.length_map, List.length_map, List.length_take]
        exact small1000 (by omega)
      · rw [upd_same, take_one he]
        simp [natV]
    · rintro H' ⟨sm, hd⟩
      rw [List.length_map, t2, List.take_length] at hd
      refine ⟨D, _, rfl, SqL.of hd, ?_⟩
      rw [nat_sum, ← cost_mc]
      exact z H' (s1.trans sm)
end
end CW

set_option Elab.async false
set_option linter.all false
set_option maxRecDepth 100000
set_option maxHeartbeats 4000000
/-! a voice against others, all two voices -/
namespace CW
open PySem PySem.Spec PyProof.Rows L2 CWX
section
variable {P : Program} {w : World} {K : PySem.W.Frag} {mg : Str → Option Value} {base : Heap}
theorem slL (K : PySem.W.Frag) {X : Cx} (h : X.K = K := by rfl) : SlR X (rSlL K) := by
  subst h
  exact sl_list
/-- the voices in a list -/
def VoicesAt (H : Hp) (a : Addr) (vs : List Cp07.Voice) : Prop :=
  ∃ us : List Addr, H a = some (.lst (us.map V.ref)) ∧ us.length = vs.length ∧ ∀ (i : Nat) (x : Addr) (v : Cp07.Voice), us[i]? = some x → vs[i]? = some v → VoiceAt H x v ∧ v.2.length ≤ 16
theorem VoicesAt.same {H H' : Hp} {a : Addr} {vs : List Cp07.Voice} (h : VoicesAt H a vs) (e : Same H H') : VoicesAt H' a vs := by
  obtain ⟨us, h1, h2, h3⟩ := h
  exact ⟨us, e _ _ h1, h2, fun i x v p q => ⟨(h3 i x v p q).1.same e, (h3 i x v p q).2⟩⟩
theorem cut_head (xs : List V) (n : Nat) : cutV xs none (some (n : Int)) = xs.take n := by
  unfold cutV
  have e0 : HT.sIx xs.length 0 none = 0 := rfl
  rw [e0, HT.sIx_nat, List.drop_zero, Nat.sub_zero]
  by_cases h : n ≤ xs.length
  · rw [Nat.min_eq_left h]
  · rw [Nat.min_eq_right (by omega), List.take_of_length_le (Nat.le_refl _), List.take_of_length_le (by omega)]
/-- the first of them, in a new list -/
theorem VoicesAt.head {H H' : Hp} {a b : Addr} {vs : List Cp07.Voice} {us : List Addr} (n : Nat) (h2 : us.length = vs.length) (h3 : ∀ (i : Nat) (x : Addr) (v : Cp07.Voice), us[i]? = some x → vs[i]? = some v → VoiceAt H x v ∧ v.2.length ≤ 16) (e : Same H H') (hb : H' b = some (.lst ((us.map V.ref).take n))) : VoicesAt H' b (vs.take n) := by
  refine ⟨us.take n, by rw [hb, List.map_take], by rw [List.length_take, List.length_take, h2], fun i x v p q => ?_⟩
  rw [List.getElem?_take] at p q
  split at p
  · rename_i c
    rw [if_pos c] at q
    exact ⟨(h3 i x v p q).1.same e, (h3 i x v p q).2⟩
  · cases p
/-! ### cost_against_all -/
def spAgainst (C : Addr) : Sp := fun vs H Q _ => ∃ (b a c : Addr) (v : Cp07.Voice) (us : List Cp07.Voice) (q : Cp07.Table), vs = [.ref b, .ref a, .ref c] ∧ VoiceAt H b v ∧ v.2.length ≤ 16 ∧ VoicesAt H a us ∧ us.length ≤ 6 ∧ PricesAt C H c q ∧
  ∀ H', Same H H' → Q (natV (abv q us v)) H'
theorem sc_against : FnScope ["voice", "others", "prices", "other"] ["voice", "others", "prices"] (defScope s_cost_against_all) := ⟨rfl, rfl, rfl, by decide +kernel, rfl, by decide +kernel, by decide +kernel⟩
theorem ok_against {C : Addr} (B : Blt mg) (h : Here K mg "cost_against_all" s_cost_against_all ["voice", "others", "prices"]) (Tw : Def P w K mg base 4 "cost_of_two" ["one", "other", "prices"] (spTwo C)) : Def P w K mg base 5 "cost_against_all" ["voice", "others", "prices"] (spAgainst C) := by
  obtain ⟨f2, fd2, g2, k2, b2, G2⟩ := Tw
  refine h.ok sc_against (fun vs H Q E h => ?_) (fun f cdv A outer s H vs Q E hr h => ?_)
  · obtain ⟨b, a, c, v, us, q, rfl, _⟩ := h; rfl
  · obtain ⟨b, a, c, v, ws, pq, rfl, vb, lv, va, l6, pc, q⟩ := h
    obtain ⟨us, hu, hul, hvs⟩ := va
    refine ⟨_, pss_one (ps_ret (pe_callB (cr_sum rfl) (by rfl) B.sum (by decide +kernel) (pa_cons
      (pe_lc (own := [("other", 3)]) (g := gName 3) (tt := tYes) rfl sc_against.nd (pi_list (pv 1)) (blkOk_by (N := ["voice", "others", "prices", "other"]) (sc := defScope s_cost_against_all) (by decide +kernel))
        (fun _ _ _ _ _ => pg_name (i := 3) sc_against.nd rfl (.inl rfl)) (fun _ _ _ _ _ => pts_nil)
        (fun _ _ _ _ _ => pe_call G2 hr rfl g2 k2 b2 .nil pass0 (pa_cons (pv 3) (pa_cons (pv 0) (pa_cons (pv 2) pa_nil))))) pa_nil))), ?_⟩
    refine ⟨_, rfl, a, rfl, ⟨_, SqL.of hu⟩, fun D hD => ?_⟩
    refine lc_list (K := K) (a := a) (xs := us.map V.ref) (fun i H' => Same H H' ∧ H' D = some (.lst ((((ws.take i).map fun u => Cp07.cost pq u v).map fun (n : Nat) => (n : Int)).map V.int))) ⟨Same.new hD, upd_same⟩ (fun i H' _ p => SqL.of (p.1 _ _ hu)) ?_ ?_
    · rintro i x H' hi ⟨sm, hd⟩
      obtain ⟨x, ha, rfl⟩ := get_map hi
      obtain ⟨y, hy⟩ := get_some (l := ws) (i := i) (by rw [← hul]; exact get_lt ha)
      obtain ⟨vx, lx⟩ := hvs i x y ha hy
      refine ⟨rfl, yes_if ?_⟩
      refine ⟨_, rfl, _, rfl, _, rfl, x, b, c, y, v, pq, rfl, vx.same sm, vb.same sm, lx, lv, pc.same sm, fun H2 s2 => ?_⟩
      refine ⟨_, s2 _ _ hd, ?_, Same.put (sm.trans s2) hD, ?_⟩
      · rw [List.length_map, List.length_map, List.length_map, List.length_take]
        exact small1000 (by omega)
      · rw [upd_same, take_one hy]
        simp [natV]
    · rintro H' ⟨sm, hd⟩
      rw [List.length_map, hul, List.take_length] at hd
      refine ⟨D, _, rfl, SqL.of hd, ?_⟩
      rw [nat_sum]
      exact q H' sm
/-! ### cost_of_all -/
def spCostAll (C : Addr) : Sp := fun vs H Q _ => ∃ (a c : Addr) (us : List Cp07.Voice) (q : Cp07.Table), vs = [.ref a, .ref c] ∧ VoicesAt H a us ∧ us.length ≤ 6 ∧ PricesAt C H c q ∧
  ∀ H', Same H H' → Q (natV (Cp07.total q us)) H'
theorem sc_costall : FnScope ["voices", "prices", "place", "voice"] ["voices", "prices"] (defScope s_cost_of_all) := ⟨rfl, rfl, rfl, by decide +kernel, rfl, by decide +kernel, by decide +kernel⟩
theorem ok_costall {C : Addr} (B : Blt mg) (h : Here K mg "cost_of_all" s_cost_of_all ["voices", "prices"]) (Ag : Def P w K mg base 5 "cost_against_all" ["voice", "others", "prices"] (spAgainst C)) : Def P w K mg base 6 "cost_of_all" ["voices", "prices"] (spCostAll C) := by
  obtain ⟨f2, fd2, g2, k2, b2, G2⟩ := Ag
  refine h.ok sc_costall (fun vs H Q E h => ?_) (fun f cdv A outer s H vs Q E hr h => ?_)
  · obtain ⟨a, c, us, q, rfl, _⟩ := h; rfl
  · obtain ⟨a, c, ws, pq, rfl, va, l6, pc, q⟩ := h
    obtain ⟨us, hu, hul, hvs⟩ := va
    refine ⟨_, pss_one (ps_ret (pe_callB (cr_sum rfl) (by rfl) B.sum (by decide +kernel) (pa_cons
      (pe_lc (own := [("place", 2), ("voice", 3)]) (g := gTup K 2 (gCons (gName 2) (gCons (gName 3) gNil))) (tt := tYes) rfl sc_costall.nd (pi_enum (by rfl) B.enumerate (pa_cons (pv 0) pa_nil)) (blkOk_by (N := ["voices", "prices", "place", "voice"]) (sc := defScope s_cost_of_all) (by decide +kernel))
        (fun _ _ _ _ _ => pg_tup rfl (pgs_cons (pg_name (i := 2) sc_costall.nd rfl (.inl rfl)) (pgs_cons (pg_name (i := 3) sc_costall.nd rfl (.inl rfl)) pgs_nil))) (fun _ _ _ _ _ => pts_nil)
        (fun _ _ _ _ _ => pe_call G2 hr rfl g2 k2 b2 .nil pass0 (pa_cons (pv 3) (pa_cons (pe_slice (slL K) (pv 0) po_none (po_some (pv 2))) (pa_cons (pv 1) pa_nil))))) pa_nil))), ?_⟩
    refine ⟨_, rfl, a, _, rfl, SqL.of hu, fun D hD => ?_⟩
    refine lc_it (walk_enum (xs := us.map V.ref)) (fun i H' => Same H H' ∧ H' D = some (.lst (((ab0 pq ws i).map fun (n : Nat) => (n : Int)).map V.int))) ⟨Same.new hD, upd_same⟩ (fun i H' _ p => SqL.of (p.1 _ _ hu)) ?_ ?_
    · rintro i x H' H'' hi ⟨sm, hd⟩ ⟨T, u, v, rfl, hT, rfl, hu', hv⟩
      cases hu'
      obtain ⟨x, ha, rfl⟩ := get_map hv
      obtain ⟨y, hy⟩ := get_some (l := ws) (i := i) (by rw [← hul]; exact get_lt ha)
      obtain ⟨vx, lx⟩ := hvs i x y ha hy
      have s2 := Same.new' (o := .tup [V.int (i : Nat), V.ref x]) sm hT
      refine ⟨T, _, rfl, .inl (.inl upd_same), rfl, _, _, rfl, _, _, rfl, rfl, rfl, yes_if ?_⟩
      refine ⟨_, rfl, _, rfl, _, rfl, _, rfl, a, _, rfl, SqL.of (s2 _ _ hu), fun p hp => ?_⟩
      have s3 := Same.new' (o := .lst (cutV (us.map V.ref) none (some (i : Nat)))) s2 hp
      have i6 : i ≤ ws.length := by have := get_lt hy; omega
      refine ⟨_, rfl, x, p, c, y, ws.take i, pq, rfl, vx.same s3, lx, VoicesAt.head (a := a) i hul hvs s3 (by rw [upd_same, cut_head]), by rw [List.length_take]; omega, pc.same s3, fun H2 s4 => ?_⟩
      have nDT : D ≠ T := ne_of_none hd hT
      have hd1 : upd H' T (.tup [V.int (i : Nat), V.ref x]) D = some (.lst (((ab0 pq ws i).map fun (n : Nat) => (n : Int)).map V.int)) := (upd_ne nDT).trans hd
      refine ⟨_, s4 _ _ ((upd_ne (ne_of_none hd1 hp)).trans hd1), ?_, Same.put (s3.trans s4) hD, ?_⟩
      · rw [List.length_map, List.length_map, ab0_len]
        exact small1000 (by omega)
      · rw [upd_same, ab0_succ hy]
        simp [natV]
    · rintro H' ⟨sm, hd⟩
      rw [List.length_map, hul] at hd
      refine ⟨D, _, rfl, SqL.of hd, ?_⟩
      rw [nat_sum, ab0_total]
      exact q H' sm
end
end CW

set_option Elab.async false
set_option linter.all false
set_option maxRecDepth 100000
set_option maxHeartbeats 4000000
/-! the canon: how it lies in the heap -/
namespace CW
open PySem PySem.Spec PyProof.Rows L2 CWX
section
variable {P : Program} {w : World} {K : PySem.W.Frag} {mg : Str → Option Value} {base : Heap}
def cf1 (ev : Addr) : List (Str × V) := [("events", .ref ev)]
def cf2 (ev l : Addr) : List (Str × V) := [("events", .ref ev), ("other_voices", .ref l)]
def cF (ev l pr : Addr) : List (Str × V) := [("events", .ref ev), ("other_voices", .ref l), ("prices", .ref pr)]
theorem cf2_eq (ev l : Addr) : putF "other_voices" (.ref l) (cf1 ev) = cf2 ev l := put_new (by simp [cf1]; decide +kernel)
theorem cF_eq (ev l pr : Addr) : putF "prices" (.ref pr) (cf2 ev l) = cF ev l pr := put_new (by simp [cf2]; decide +kernel)
theorem cF_ev (ev l pr : Addr) : (cF ev l pr).lookup ("events" : Str) = some (.ref ev) := lk_here
theorem cF_ov (ev l pr : Addr) : (cF ev l pr).lookup ("other_voices" : Str) = some (.ref l) := (lk_past (by decide +kernel)).trans lk_here
theorem cF_pr (ev l pr : Addr) : (cF ev l pr).lookup ("prices" : Str) = some (.ref pr) := (lk_past (by decide +kernel)).trans ((lk_past (by decide +kernel)).trans lk_here)
theorem cF_no (ev l pr : Addr) {m : Str} (h1 : (m == "events") = false) (h2 : (m == "other_voices") = false) (h3 : (m == "prices") = false) : (cF ev l pr).lookup m = none := (lk_past h1).trans ((lk_past h2).trans ((lk_past h3).trans rfl))
theorem put_ev (ev l pr x : Addr) : putF "events" (.ref x) (cF ev l pr) = cF x l pr := put_here
theorem put_ov (ev l pr x : Addr) : putF "other_voices" (.ref x) (cF ev l pr) = cF ev x pr := (put_past (by decide +kernel)).trans (congrArg _ put_here)
theorem put_pr (ev l pr x : Addr) : putF "prices" (.ref x) (cF ev l pr) = cF ev l x := (put_past (by decide +kernel)).trans (congrArg _ ((put_past (by decide +kernel)).trans (congrArg _ put_here)))
structure CanC (K : PySem.W.Frag) (C : Addr) : Prop where
  cl : Cls K C
  events : NoAttr K C "events"
  other_voices : NoAttr K C "other_voices"
  prices : NoAttr K C "prices"
/-! ### the canon's own data: new over H0, and neither the object nor its list of voices -/
def priv (H0 H : Hp) (p l : Addr) : Hp := fun b => if b = p ∨ b = l then none else nw H0 H b
theorem priv_at {H0 H : Hp} {p l b : Addr} (h1 : b ≠ p) (h2 : b ≠ l) (h3 : H0 b = none) : priv H0 H p l b = H b := by
  unfold priv
  rw [if_neg (by intro h; rcases h with h | h; exact h1 h; exact h2 h), nw_at h3]
theorem of_priv {H0 H : Hp} {p l b : Addr} {o : HO} (h : priv H0 H p l b = some o) : b ≠ p ∧ b ≠ l ∧ H0 b = none ∧ H b = some o := by
  unfold priv at h
  by_cases c : b = p ∨ b = l
  · rw [if_pos c] at h; cases h
  · rw [if_neg c] at h
    exact ⟨fun e => c (.inl e), fun e => c (.inr e), nw_free h, nw_same _ _ h⟩
theorem priv_same {H0 H : Hp} {p l : Addr} : Same (priv H0 H p l) H := fun b o h => (of_priv h).2.2.2
theorem priv_mono {H0 H H' : Hp} {p l : Addr} (s : Same H H') : Same (priv H0 H p l) (priv H0 H' p l) := fun b o h => by
  obtain ⟨h1, h2, h3, h4⟩ := of_priv h
  rw [priv_at h1 h2 h3]
  exact s _ _ h4
/-- what is made anew is the canon's -/
theorem priv_new {H0 H H' : Hp} {p l : Addr} {o1 o2 : HO} (s : Same H0 H) (hp : H p = some o1) (hl : H l = some o2) : Same (nw H H') (priv H0 H' p l) := fun b o h => by
  have hb := nw_free h
  rw [priv_at (fun e => by rw [e, hp] at hb; cases hb) (fun e => by rw [e, hl] at hb; cases hb) (s.free hb)]
  exact nw_same _ _ h
theorem priv_put {H0 H : Hp} {p l a : Addr} {o : HO} (h : a = p ∨ a = l) : Same (priv H0 H p l) (priv H0 (upd H a o) p l) := fun b u e => by
  obtain ⟨h1, h2, h3, h4⟩ := of_priv e
  rw [priv_at h1 h2 h3, upd_ne (fun z => by rcases h with h | h; exact h1 (z.trans h); exact h2 (z.trans h))]
  exact h4
/-- another list of voices, a new one -/
theorem priv_swap {H0 H H' : Hp} {p l l' : Addr} (s : Same (priv H0 H p l) H') (hl : H l' = none) : Same (priv H0 H p l) (priv H0 H' p l') := fun b u e => by
  obtain ⟨h1, h2, h3, h4⟩ := of_priv e
  rw [priv_at h1 (ne_of_none h4 hl) h3]
  exact s _ _ e
theorem priv_out {H0 H : Hp} {p l g : Addr} {o o' : HO} (h : H0 g = some o) : Same (priv H0 H p l) (priv (upd H0 g o') (upd H g o') p l) := fun b u e => by
  obtain ⟨h1, h2, h3, h4⟩ := of_priv e
  have hg : b ≠ g := fun z => by rw [z, h] at h3; cases h3
  rw [priv_at h1 h2 (by rw [upd_ne hg]; exact h3), upd_ne hg]
  exact h4
structure CanonIn (CC CP : Addr) (H0 H : Hp) (p dx ev l pr : Addr) (vs : List Addr) (s : Cp07.State) : Prop where
  sm : Same H0 H
  p0 : H0 p = none
  l0 : H0 l = none
  obj : H p = some (.ins CC dx (cF ev l pr))
  lst : H l = some (.lst (vs.map V.ref))
  theme : TupsT (priv H0 H p l) ev (s.theme.map encV)
  prices : PricesAt CP (priv H0 H p l) pr s.table
  nv : vs.length = s.ways.length
  voices : ∀ (i : Nat) (a : Addr) (w : Cp07.Way), vs[i]? = some a → s.ways[i]? = some w → ∃ v, Cp07.voiceOf s.theme w = some v ∧ VoiceAt (priv H0 H p l) a v
  few : s.theme.length ≤ 16
  ways : s.ways.length ≤ 4
def CanonAt (CC CP : Addr) (H0 H : Hp) (p : Addr) (s : Cp07.State) : Prop := ∃ dx ev l pr vs, CanonIn CC CP H0 H p dx ev l pr vs s
theorem CanonIn.same {CC CP : Addr} {H0 H H' : Hp} {p dx ev l pr : Addr} {vs : List Addr} {s : Cp07.State} (c : CanonIn CC CP H0 H p dx ev l pr vs s) (e : Same H H') : CanonIn CC CP H0 H' p dx ev l pr vs s where
  sm := c.sm.trans e
  p0 := c.p0
  l0 := c.l0
  obj := e _ _ c.obj
  lst := e _ _ c.lst
  theme := c.theme.same (priv_mono e)
  prices := c.prices.same (priv_mono e)
  nv := c.nv
  voices := fun i a w h1 h2 => by
    obtain ⟨v, e1, e2⟩ := c.voices i a w h1 h2
    exact ⟨v, e1, e2.same (priv_mono e)⟩
  few := c.few
  ways := c.ways
theorem CanonAt.same {CC CP : Addr} {H0 H H' : Hp} {p : Addr} {s : Cp07.State} (c : CanonAt CC CP H0 H p s) (e : Same H H') : CanonAt CC CP H0 H' p s := by
  obtain ⟨dx, ev, l, pr, vs, c⟩ := c
  exact ⟨dx, ev, l, pr, vs, c.same e⟩
/-- a write at what the outer heap holds -/
theorem CanonAt.out {CC CP : Addr} {H0 H : Hp} {p g : Addr} {s : Cp07.State} {o o' : HO} (c : CanonAt CC CP H0 H p s) (hg : H0 g = some o) : CanonAt CC CP (upd H0 g o') (upd H g o') p s := by
  obtain ⟨dx, ev, l, pr, vs, c⟩ := c
  have np : p ≠ g := fun z => by have := c.p0; rw [z, hg] at this; cases this
  have nl : l ≠ g := fun z => by have := c.l0; rw [z, hg] at this; cases this
  refine ⟨dx, ev, l, pr, vs, fun b u e => ?_, by rw [upd_ne np]; exact c.p0, by rw [upd_ne nl]; exact c.l0, by rw [upd_ne np]; exact c.obj, by rw [upd_ne nl]; exact c.lst, c.theme.same (priv_out hg), c.prices.same (priv_out hg), c.nv, fun i a w h1 h2 => ?_, c.few, c.ways⟩
  · by_cases hb : b = g
    · rw [hb, upd_same] at e ⊢; exact e
    · rw [upd_ne hb] at e ⊢; exact c.sm _ _ e
  · obtain ⟨v, e1, e2⟩ := c.voices i a w h1 h2
    exact ⟨v, e1, e2.same (priv_out hg)⟩
/-! ### the voices -/
theorem filterMap_all {α β : Type} {f : α → Option β} : ∀ {l : List α}, (∀ x ∈ l, (f x).isSome = true) → (l.filterMap f).length = l.length ∧ ∀ (i : Nat) (x : α), l[i]? = some x → (l.filterMap f)[i]? = f x
  | [], _ => ⟨rfl, fun i x h => by simp at h⟩
  | a :: l, h => by
    obtain ⟨b, hb⟩ := Option.isSome_iff_exists.mp (h a List.mem_cons_self)
    obtain ⟨e1, e2⟩ := filterMap_all (l := l) fun x hx => h x (List.mem_cons_of_mem _ hx)
    rw [List.filterMap_cons, hb]
    refine ⟨congrArg (· + 1) e1, fun i x hi => ?_⟩
    cases i with
    | zero =>
      cases hi
      exact hb.symm
    | succ i => exact e2 i x hi
theorem voiceOf_eq (l : Cp07.Line) (w : Cp07.Way) : Cp07.voiceOf l w = if canHave l w = true then some (w.late, byWay l w) else none := by
  unfold Cp07.voiceOf
  rw [voiced_can]
  split <;> rfl
theorem CanonIn.all {CC CP : Addr} {H0 H : Hp} {p dx ev l pr : Addr} {vs : List Addr} {s : Cp07.State} (c : CanonIn CC CP H0 H p dx ev l pr vs s) : ∀ x ∈ s.ways, (Cp07.voiceOf s.theme x).isSome = true := fun x hx => by
  obtain ⟨i, hi⟩ := List.mem_iff_getElem?.mp hx
  obtain ⟨a, ha⟩ := get_some (l := vs) (i := i) (by rw [c.nv]; exact get_lt hi)
  obtain ⟨v, e, _⟩ := c.voices i a x ha hi
  rw [e]
  rfl
theorem voiceOf_len {l : Cp07.Line} {w : Cp07.Way} {v : Cp07.Voice} (h : Cp07.voiceOf l w = some v) : v.2.length = l.length := by
  rw [voiceOf_eq] at h
  split at h
  · cases h
    exact byWay_len l w
  · cases h
end
end CW

set_option Elab.async false
set_option linter.all false
set_option maxRecDepth 100000
set_option maxHeartbeats 4000000
/-! the canon's making, its voices, what a voice more costs -/
namespace CW
open PySem PySem.Spec PyProof.Rows L2 CWX
section
variable {P : Program} {w : World} {K : PySem.W.Frag} {mg : Str → Option Value} {base : Heap}
/-! ### __init__ -/
def spCanInit (CC CP : Addr) : Sp := fun vs H Q _ => ∃ (H0 : Hp) (p dx : Addr), vs = [.ref p] ∧ Same H0 H ∧ H0 p = none ∧ H p = some (.ins CC dx []) ∧ ∀ H' : Hp, CanonAt CC CP H0 H' p Cp07.start → Q .non H'
theorem sc_can_init : FnScope ["self"] ["self"] (defScope s_Canon_init) := ⟨rfl, rfl, rfl, by decide +kernel, rfl, by decide +kernel, by decide +kernel⟩
theorem ok_can_init {CC CP : Addr} (h : HereI K mg CC "Canon" "Canon.__init__" s_Canon_init ["self"]) (T : CanC K CC) (F : Def P w K mg base 3 "first_prices" [] (spFirstPr CP)) : DefI P w K mg base CC 4 "Canon" ["self"] (spCanInit CC CP) := by
  obtain ⟨f1, fd1, g1, k1, b1, G1⟩ := F
  refine h.ok sc_can_init (fun vs H Q E h => ?_) (fun f cdv A outer s H vs Q E hr h => ?_)
  · obtain ⟨H0, p, dx, rfl, _⟩ := h; rfl
  · obtain ⟨H0, p, dx, rfl, s0, p0, hp, q⟩ := h
    refine ⟨_, pss_cons (ps_fld (pv 0) (pe_lst pa_nil) rfl) (pss_cons (ps_fld (pv 0) (pe_lst pa_nil) rfl) (pss_one (ps_fld (pv 0) (pe_call0 G1 hr rfl g1 k1 b1 .nil pass0) rfl))), ?_⟩
    refine ⟨Nat.zero_le _, fun ev hev => ?_⟩
    have npe : p ≠ ev := ne_of_none hp hev
    have s1 := Same.new (o := .lst []) hev
    refine ⟨_, rfl, p, CC, dx, [], rfl, s1 _ _ hp, T.cl, T.events, (by show 0 < 1000; decide), ?_⟩
    refine ⟨Nat.zero_le _, fun l hl => ?_⟩
    have npl : p ≠ l := ne_of_none upd_same hl
    have hev2 : upd (upd H ev (.lst [])) p (.ins CC dx (cf1 ev)) ev = some (.lst []) := by rw [upd_ne npe.symm]; exact upd_same
    have nel : ev ≠ l := ne_of_none hev2 hl
    have s2 := Same.new (o := .lst []) hl
    refine ⟨_, rfl, p, CC, dx, cf1 ev, rfl, s2 _ _ upd_same, T.cl, T.other_voices, (by show 1 < 1000; decide), ?_⟩
    rw [cf2_eq]
    refine ⟨rfl, fun H3 pr s3 npr prd => ?_⟩
    have hp3 : H3 p = some (.ins CC dx (cf2 ev l)) := s3 _ _ upd_same
    refine ⟨_, rfl, p, CC, dx, cf2 ev l, rfl, hp3, T.cl, T.prices, (by show 2 < 1000; decide), ?_⟩
    rw [cF_eq]
    have hl0 : H0 l = none := by
      have e : upd (upd H ev (.lst [])) p (.ins CC dx (cf1 ev)) l = none := hl
      rw [upd_ne npl.symm] at e
      exact s0.free (s1.free e)
    have hev0 : H0 ev = none := s0.free hev
    have hev3 : H3 ev = some (.lst []) := s3 _ _ (by rw [upd_ne npe.symm]; exact s2 _ _ hev2)
    have hl3 : H3 l = some (.lst []) := s3 _ _ (by rw [upd_ne npl.symm]; exact upd_same)
    have sm3 : Same H0 H3 := fun b o e => s3 _ _ (by
      have nb : b ≠ p := fun z => by rw [z, p0] at e; cases e
      rw [upd_ne nb]
      refine s2 _ _ ?_
      have : upd (upd H ev (.lst [])) p (.ins CC dx (cf1 ev)) b = some o := by rw [upd_ne nb]; exact s1 _ _ (s0 _ _ e)
      exact this)
    refine q _ ⟨dx, ev, l, pr, [], Same.put sm3 p0, p0, hl0, upd_same, by rw [upd_ne npl.symm]; exact hl3, ⟨[], ?_, rfl, fun i x xs h => by simp at h⟩, ?_, rfl, fun i a w h => by simp at h, Nat.zero_le _, Nat.zero_le _⟩
    · rw [priv_at npe.symm nel hev0, upd_ne npe.symm]
      exact hev3
    · refine prd.same (fun b o e => ?_)
      have hb := nw_free e
      have nbp : b ≠ p := fun z => by rw [z, upd_same] at hb; cases hb
      have nbl : b ≠ l := fun z => by
        rw [z, upd_ne npl.symm] at hb
        rw [upd_same] at hb
        cases hb
      rw [priv_at nbp nbl ?_, upd_ne nbp]
      · exact nw_same _ _ e
      · rw [upd_ne nbp] at hb
        have hb2 : upd (upd H ev (.lst [])) p (.ins CC dx (cf1 ev)) b = none := s2.free hb
        rw [upd_ne nbp] at hb2
        exact s0.free (s1.free hb2)
/-! ### all_voices -/
def spVoices (CC CP : Addr) : Sp := fun vs H Q _ => ∃ (H0 : Hp) (p : Addr) (s : Cp07.State), vs = [.ref p] ∧ CanonAt CC CP H0 H p s ∧
  ∀ (H' : Hp) (q : Addr), Same H H' → H q = none → VoicesAt H' q (Cp07.voices s) → (Cp07.voices s).length = s.ways.length + 1 → s.ways.length ≤ 4 → Q (.ref q) H'
theorem sc_voices : FnScope ["self"] ["self"] (defScope s_Canon_all_voices) := ⟨rfl, rfl, rfl, by decide +kernel, rfl, by decide +kernel, by decide +kernel⟩
theorem TupsT.tupsG {H : Hp} {a : Addr} {xss : List (List V)} (h : TupsT H a xss) : TupsG false K H a xss := by
  obtain ⟨ts, h1, h2, h3⟩ := h
  exact ⟨ts, SqL.of h1, h2, fun i x xs p q => SqT.of (h3 i x xs p q)⟩
theorem ok_voices {CC CP : Addr} (h : HereM K CC "all_voices" "Canon.all_voices" s_Canon_all_voices ["self"]) (T : CanC K CC) (L : Def P w K mg base 2 "laid" ["events", "later"] (spLaid K)) : DefM P w K mg base CC 3 "all_voices" ["self"] (spVoices CC CP) := by
  obtain ⟨f1, fd1, g1, k1, b1, G1⟩ := L
  refine h.ok sc_voices (fun vs H Q E h => ?_) (fun f cdv A outer s H vs Q E hr h => ?_)
  · obtain ⟨H0, p, s, rfl, _⟩ := h; rfl
  · obtain ⟨H0, p, st, rfl, ⟨dx, ev, l, pr, vs, c⟩, q⟩ := h
    refine ⟨_, pss_one (ps_ret (pe_op op_cat (pe_lst (pa_cons (pe_call G1 hr rfl g1 k1 b1 .nil pass0 (pa_cons (pe_fld (pv 0) rfl) (pa_cons pe_int pa_nil))) pa_nil)) (pe_fld (pv 0) rfl))), ?_⟩
    refine ⟨_, rfl, p, CC, dx, _, _, rfl, c.obj, T.cl, T.events, cF_ev _ _ _, ev, 0, st.theme, rfl, TupsT.tupsG (c.theme.same priv_same), c.few, fun H1 v0 s1 tn => ?_⟩
    refine ⟨(by show 1 ≤ sizeLine; decide), fun a ha => ?_⟩
    have s2 := Same.new (o := .lst [.ref v0]) ha
    have s12 := s1.trans s2
    refine ⟨_, rfl, p, CC, dx, _, _, rfl, s12 _ _ c.obj, T.cl, T.other_voices, cF_ov _ _ _, a, l, _, _, rfl, rfl, upd_same, s12 _ _ c.lst, ?_, fun r hr' => ?_⟩
    · rw [List.length_map, c.nv]
      have := c.ways
      show 1 + _ ≤ _
      exact Nat.le_of_lt (small1000 (by omega))
    have s3 := Same.new' (o := .lst ([V.ref v0] ++ vs.map V.ref)) s12 hr'
    obtain ⟨fa, fb⟩ := filterMap_all (c.all)
    have el : (Cp07.voices st).length = st.ways.length + 1 := by
      show ((0, st.theme) :: st.ways.filterMap (Cp07.voiceOf st.theme)).length = _
      rw [List.length_cons, fa]
    refine q _ r s3 (s12.free hr') ⟨v0 :: vs, upd_same, ?_, fun i x v hi hv => ?_⟩ el c.ways
    · rw [el, List.length_cons, c.nv]
    · cases i with
      | zero =>
        cases hi
        cases hv
        exact ⟨TupsT.same tn.trk' (s2.trans (Same.new hr')), c.few⟩
      | succ i =>
        have hi' : vs[i]? = some x := hi
        have hv' : (st.ways.filterMap (Cp07.voiceOf st.theme))[i]? = some v := hv
        obtain ⟨wy, hw⟩ := get_some (l := st.ways) (i := i) (by rw [← c.nv]; exact get_lt hi')
        obtain ⟨v', e1, e2⟩ := c.voices i x wy hi' hw
        rw [fb i wy hw, e1] at hv'
        cases hv'
        exact ⟨(e2.same priv_same).same s3, by rw [voiceOf_len e1]; exact c.few⟩
/-! ### voice_by_way -/
theorem TupsN.anti {H0 H H' : Hp} {p : Addr} {xss : List (List V)} (h : TupsN H H' p xss) (s : Same H0 H) : TupsN H0 H' p xss := by
  obtain ⟨h0, ts, h1, h2, h3⟩ := h
  exact ⟨s.free h0, ts, h1, h2, fun i x xs a b => ⟨s.free (h3 i x xs a b).1, (h3 i x xs a b).2⟩⟩
def spByWay (CC CP CW : Addr) : Sp := fun vs H Q _ => ∃ (H0 : Hp) (p b : Addr) (s : Cp07.State) (wy : Cp07.Way), vs = [.ref p, .ref b] ∧ CanonAt CC CP H0 H p s ∧ WayAt CW H b wy ∧
  ∀ (H' : Hp) (r : Addr), Same H H' → TupsN H H' r ((laid (wy.late : Int) (byWay s.theme wy)).map ev3V) → Q (.ref r) H'
theorem sc_byway : FnScope ["self", "way"] ["self", "way"] (defScope s_Canon_voice_by_way) := ⟨rfl, rfl, rfl, by decide +kernel, rfl, by decide +kernel, by decide +kernel⟩
theorem ok_byway {CC CP CW : Addr} (h : HereM K CC "voice_by_way" "Canon.voice_by_way" s_Canon_voice_by_way ["self", "way"]) (T : CanC K CC) (TW : WayC K CW) (EB : Def P w K mg base 3 "events_by_way" ["events", "way"] (spEventsBy K CW)) (L : Def P w K mg base 2 "laid" ["events", "later"] (spLaid K)) :
    DefM P w K mg base CC 4 "voice_by_way" ["self", "way"] (spByWay CC CP CW) := by
  obtain ⟨f3, fd3, g3, k3, b3, G3⟩ := EB
  obtain ⟨f4, fd4, g4, k4, b4, G4⟩ := L
  refine h.ok sc_byway (fun vs H Q E h => ?_) (fun f cdv A outer s H vs Q E hr h => ?_)
  · obtain ⟨H0, p, b, s, wy, rfl, _⟩ := h; rfl
  · obtain ⟨H0, p, b, st, wy, rfl, ⟨dx, ev, l, pr, vs, c⟩, wb, q⟩ := h
    refine ⟨_, pss_one (ps_ret (pe_call G4 (hr.mono (by decide)) rfl g4 k4 b4 .nil pass0 (pa_cons (pe_call G3 hr rfl g3 k3 b3 .nil pass0 (pa_cons (pe_fld (pv 0) rfl) (pa_cons (pv 1) pa_nil))) (pa_cons (pe_fld (pv 1) rfl) pa_nil)))), ?_⟩
    obtain ⟨dw, hw⟩ := wb
    refine ⟨_, rfl, p, CC, dx, _, _, rfl, c.obj, T.cl, T.events, cF_ev _ _ _, _, rfl, ev, b, st.theme, wy, rfl, TupsT.tupsG (c.theme.same priv_same), c.few, ⟨dw, hw⟩, fun H3 pe s3 tn => ?_⟩
    refine ⟨_, rfl, b, CW, dw, _, _, rfl, s3 _ _ hw, TW.cl, TW.later, wF_later wy, pe, (wy.late : Int), byWay st.theme wy, rfl, TupsT.tupsG tn.trk', by rw [byWay_len]; exact c.few, fun H4 v s4 tv => ?_⟩
    exact q H4 v (s3.trans s4) (tv.anti s3)
end
end CW

set_option Elab.async false
set_option linter.all false
set_option maxRecDepth 100000
set_option maxHeartbeats 4000000
/-! the calls -/
namespace CW
open PySem PySem.Spec PyProof.Rows L2 CWX
section
variable {P : Program} {w : World} {K : PySem.W.Frag} {mg : Str → Option Value} {base : Heap}
def ansOf (s : Cp07.State) (c : Cp07.Call) : List Int := (Cp07.step s c).2.v :: (Cp07.step s c).2.l
/-- a method that takes numbers: the canon as the call makes it, the answer a new list -/
def spCall (K : PySem.W.Frag) (CC CP : Addr) (ask : List Int → Prop) (call : List Int → Cp07.Call) : Sp := fun vs H Q _ => ∃ (H0 : Hp) (p a : Addr) (s : Cp07.State) (ns : List Int), vs = [.ref p, .ref a] ∧ CanonAt CC CP H0 H p s ∧ SqL K H a (ns.map V.int) ∧ ns.length ≤ 59 ∧ ask ns ∧
  ∀ (H' : Hp) (r : Addr), CanonAt CC CP H0 H' p (Cp07.step s (call ns)).1 → H r = none → H' r = some (.lst ((ansOf s (call ns)).map V.int)) → Q (.ref r) H'
def spCall0 (CC CP : Addr) (call : Cp07.Call) : Sp := fun vs H Q _ => ∃ (H0 : Hp) (p : Addr) (s : Cp07.State), vs = [.ref p] ∧ CanonAt CC CP H0 H p s ∧
  ∀ (H' : Hp) (r : Addr), CanonAt CC CP H0 H' p (Cp07.step s call).1 → H r = none → H' r = some (.lst ((ansOf s call).map V.int)) → Q (.ref r) H'
structure Refusals (mg : Str → Option Value) : Prop where
  c1 : CstI mg "WRONG_NUMBERS" (-1)
  c3 : CstI mg "NOT_POSSIBLE" (-3)
  c5 : CstI mg "WRONG_COUNT" (-5)
  c7 : CstI mg "NO_THEME" (-7)
/-- a refusal: nothing is changed -/
theorem refuse {CC CP : Addr} {H0 H H1 : Hp} {p : Addr} {s : Cp07.State} {c : Cp07.Call} {z : Int} {Q : VK} (e : Cp07.step s c = (s, Cp07.just z)) (sm : Same H H1) (ca : CanonAt CC CP H0 H p s)
    (q : ∀ (H' : Hp) (r : Addr), CanonAt CC CP H0 H' p (Cp07.step s c).1 → H r = none → H' r = some (.lst ((ansOf s c).map V.int)) → Q (.ref r) H') : ∀ r, H1 r = none → Q (.ref r) (upd H1 r (.lst [.int z])) := fun r hr => by
  refine q _ r ?_ (sm.free hr) ?_
  · rw [e]
    exact (ca.same sm).same (Same.new hr)
  · unfold ansOf
    rw [e, upd_same]
    rfl
/-! ### theme -/
theorem sc_theme : FnScope ["self", "numbers", "events"] ["self", "numbers"] (defScope s_Canon_take_theme) := ⟨rfl, rfl, rfl, by decide +kernel, rfl, by decide +kernel, by decide +kernel⟩
theorem ok_theme {CC CP : Addr} (B : Blt mg) (h : HereM K CC "take_theme" "Canon.take_theme" s_Canon_take_theme ["self", "numbers"]) (T : CanC K CC) (Rf : Refusals mg) (c16 : CstI mg "MOST_EVENTS" 16) (R : Def P w K mg base 3 "read_events" ["numbers"] (spRead K)) (W : Def P w K mg base 2 "whole_length" ["events"] (spWhole K)) :
    DefM P w K mg base CC 4 "take_theme" ["self", "numbers"] (spCall K CC CP (fun _ => True) .theme) := by
  obtain ⟨f1, fd1, g1, k1, b1, G1⟩ := R
  obtain ⟨f2, fd2, g2, k2, b2, G2⟩ := W
  obtain ⟨u1, c1⟩ := Rf.c1
  obtain ⟨u5, c5⟩ := Rf.c5
  obtain ⟨u16, c16⟩ := c16
  refine h.ok sc_theme (fun vs H Q E h => ?_) (fun f cdv A outer s H vs Q E hr h => ?_)
  · obtain ⟨H0, p, a, s, ns, rfl, _⟩ := h; rfl
  · obtain ⟨H0, p, a, st, ns, rfl, ca, sa, hl, _, q⟩ := h
    refine ⟨_, pss_cons (ps_set (i := 2) sc_theme.nd rfl (.inl rfl) (pe_call G1 hr rfl g1 k1 b1 .nil pass0 (pa_cons (pv 1) pa_nil)))
      (pss_cons (ps_if (pt_cmpR op_isN (pv 2) pe_non (nomark _)) (pss_one (ps_ret (pe_lst (pa_cons (pe_glob (v := .int (-1)) rfl c1 ⟨_, rfl⟩) pa_nil)))) pss_nil)
      (pss_cons (ps_if (pt_not (pt_chain op_le op_le pe_int (pe_callB call_len_seq (by rfl) B.len PySem.boot_len (pa_cons (pv 2) pa_nil)) (pe_glob (v := .int 16) rfl c16 ⟨_, rfl⟩))) (pss_one (ps_ret (pe_lst (pa_cons (pe_glob (v := .int (-5)) rfl c5 ⟨_, rfl⟩) pa_nil)))) pss_nil)
      (pss_cons (ps_fld (pv 0) (pv 2) rfl) (pss_cons (ps_fld (pv 0) (pe_lst pa_nil) rfl)
      (pss_one (ps_ret (pe_lst (pa_cons (pe_callB call_len_seq (by rfl) B.len PySem.boot_len (pa_cons (pv 2) pa_nil)) (pa_cons (pe_call G2 (hr.mono (by decide)) rfl g2 k2 b2 .nil pass0 (pa_cons (pv 2) pa_nil)) pa_nil))))))))), ?_⟩
    refine ⟨_, rfl, a, ns, rfl, sa, by omega, fun hN H1 s1 => ?_, fun x hx fine hxl H1 ev s1 tn => ?_⟩
    · refine ⟨_, rfl, rfl, _, rfl, iteT ⟨(by show 1 ≤ sizeLine; decide), ?_⟩⟩
      exact refuse (by show (match Cp07.events ns with | none => _ | some x => _) = _; rw [hN]) s1 ca q
    refine ⟨_, rfl, rfl, _, rfl, iteF ?_⟩
    obtain ⟨ts, t1, t2, t3⟩ := tn.trk'
    rw [List.length_map] at t2
    have estep : Cp07.step st (.theme ns) = if x.isEmpty || decide (Cp07.EVENTS < x.length) then (st, Cp07.just (-5)) else ({ st with theme := x, ways := [] }, ⟨(x.length : Int), [(Cp07.length x : Int)]⟩) := by
      show (match Cp07.events ns with | none => _ | some x => _) = _
      rw [hx]
    have bad : (x.isEmpty || decide (Cp07.EVENTS < x.length)) = true → ∀ r, H1 r = none → Q (.ref r) (upd H1 r (.lst [.int (-5)])) := fun hb => refuse (by rw [estep, if_pos hb]) s1 ca q
    refine ⟨_, rfl, ev, _, rfl, .inl (SqL.of t1), _, _, rfl, rfl, _, rfl, ?_⟩
    rw [List.length_map, t2]
    by_cases h1 : (1 : Int) ≤ (x.length : Nat)
    · rw [decide_eq_true h1]
      refine iteT ⟨_, _, rfl, rfl, _, rfl, ?_⟩
      by_cases h2 : ((x.length : Nat) : Int) ≤ 16
      · rw [decide_eq_true h2]
        refine iteF ?_
        have hok : (x.isEmpty || decide (Cp07.EVENTS < x.length)) = false := by
          have e1 : x.isEmpty = false := by
            cases x with
            | nil => simp at h1
            | cons _ _ => rfl
          rw [e1, decide_eq_false (by show ¬ 16 < x.length; omega)]
          rfl
        rw [if_neg (by rw [hok]; decide)] at estep
        obtain ⟨dx, ev0, l0, pr, vs, c⟩ := ca
        have c1 := c.same s1
        refine ⟨_, rfl, _, rfl, p, CC, dx, _, rfl, c1.obj, T.cl, T.events, (by show 3 < 1000; decide), ?_⟩
        rw [put_ev]
        refine ⟨Nat.zero_le _, fun l' hl' => ?_⟩
        have npl' : p ≠ l' := ne_of_none upd_same hl'
        have hl1 : H1 l' = none := by
          have e : upd H1 p (.ins CC dx (cF ev l0 pr)) l' = none := hl'
          rwa [upd_ne npl'.symm] at e
        refine ⟨_, rfl, p, CC, dx, cF ev l0 pr, rfl, (Same.new hl') _ _ upd_same, T.cl, T.other_voices, (by show 3 < 1000; decide), ?_⟩
        rw [put_ov]
        have npe : ev ≠ p := ne_of t1 c1.obj (by intro z; cases z)
        have nle : ev ≠ l' := ne_of_none t1 hl1
        have key : ∀ b o, b ≠ p → H1 b = some o → upd (upd (upd H1 p (.ins CC dx (cF ev l0 pr))) l' (.lst [])) p (.ins CC dx (cF ev l' pr)) b = some o := fun b o nb e => by
          rw [upd_ne nb, upd_ne (ne_of_none e hl1), upd_ne nb]
          exact e
        have tn' : ∀ i x' xs, ts[i]? = some x' → (x.map encV)[i]? = some xs → x' ≠ p := fun i x' xs a1 a2 => ne_of (t3 i x' xs a1 a2) c1.obj (by intro z; cases z)
        have can : CanonIn CC CP H0 (upd (upd (upd H1 p (.ins CC dx (cF ev l0 pr))) l' (.lst [])) p (.ins CC dx (cF ev l' pr))) p dx ev l' pr [] { st with theme := x, ways := [] } := by
          refine ⟨fun b o e => key b o (fun z => by have := c.p0; rw [← z, e] at this; cases this) (c1.sm _ _ e), c.p0, c1.sm.free hl1, upd_same, by rw [upd_ne npl'.symm]; exact upd_same, ?_, ?_, rfl, fun i a w h => by simp at h, by show x.length ≤ 16; omega, Nat.zero_le _⟩
          · have := tn.trk
            refine this.same fun b o e => ?_
            have hb := nw_free e
            have nb : b ≠ p := fun z => by rw [z, c.obj] at hb; cases hb
            have nl : b ≠ l' := ne_of_none (nw_same _ _ e) hl1
            rw [priv_at nb nl (c.sm.free hb)]
            exact key b o nb (nw_same _ _ e)
          · refine c1.prices.same (priv_swap (fun b o e => ?_) hl1)
            obtain ⟨z1, z2, z3, z4⟩ := of_priv e
            exact key b o z1 z4
        refine ⟨_, rfl, ev, ts.map V.ref, rfl, .inl (SqL.of (key _ _ npe t1)), _, rfl, ev, x, rfl, TupsT.tupsG (can.theme.same priv_same), by omega, fun H2 s2 => ⟨(by show 2 ≤ sizeLine; decide), fun r hr' => ?_⟩⟩
        refine q _ r ?_ ?_ ?_
        · rw [estep]
          exact ⟨dx, ev, l', pr, [], can.same (s2.trans (Same.new hr'))⟩
        · have e2 := s2.free hr'
          have nrp : r ≠ p := fun z => by rw [z, upd_same] at e2; cases e2
          rw [upd_ne nrp] at e2
          have nrl : r ≠ l' := fun z => by rw [z, upd_same] at e2; cases e2
          rw [upd_ne nrl, upd_ne nrp] at e2
          exact s1.free e2
        · unfold ansOf
          rw [estep, upd_same, List.length_map, t2]
          rfl
      · rw [decide_eq_false h2]
        refine iteT ⟨(by show 1 ≤ sizeLine; decide), bad ?_⟩
        rw [decide_eq_true (show Cp07.EVENTS < x.length by show 16 < x.length; omega), Bool.or_true]
    · rw [decide_eq_false h1]
      refine iteF ⟨_, rfl, iteT ⟨(by show 1 ≤ sizeLine; decide), bad ?_⟩⟩
      have e1 : x.isEmpty = true := by
        cases x with
        | nil => rfl
        | cons _ _ => exfalso; simp at h1; omega
      rw [e1, Bool.true_or]
end
end CW

set_option Elab.async false
set_option linter.all false
set_option maxRecDepth 100000
set_option maxHeartbeats 4000000
/-! the calls, further -/
namespace CW
open PySem PySem.Spec PyProof.Rows L2 CWX
section
variable {P : Program} {w : World} {K : PySem.W.Frag} {mg : Str → Option Value} {base : Heap}
/-! ### prices -/
def prCall (ns : List Int) : Cp07.Call := .prices (ns.take 7) ((ns.drop 7).take 7) (ns.getD 14 0) (ns.getD 15 0)
theorem sixteen_split {ns : List Int} (h : ns.length = 16) : ns = (ns.take 7 ++ ((ns.drop 7).take 7 ++ [ns.getD 14 0])) ++ [ns.getD 15 0] := by
  match ns, h with
  | [_, _, _, _, _, _, _, _, _, _, _, _, _, _, _, _], _ => rfl
theorem prices_step (s : Cp07.State) {ns : List Int} (h : ns.length = 16) : Cp07.step s (prCall ns) = if allIn ns priceR = true then ({ s with table := tableBy ns }, Cp07.just 0) else (s, Cp07.just (-1)) := by
  have h1 : (ns.take 7).length = 7 := by rw [List.length_take]; omega
  have h2 : ((ns.drop 7).take 7).length = 7 := by rw [List.length_take, List.length_drop]; omega
  have e : allIn ns priceR = ((ns.getD 14 0 :: (ns.take 7 ++ (ns.drop 7).take 7)).all (Cp07.isIn 0 100) && Cp07.isIn 1 512 (ns.getD 15 0)) := by
    have hs := sixteen_split h
    generalize ns.take 7 = a at *
    generalize (ns.drop 7).take 7 = b at *
    generalize ns.getD 14 0 = c at *
    generalize ns.getD 15 0 = d at *
    rw [hs]
    unfold priceR
    have r : allIn (a ++ (b ++ [c])) (List.replicate 15 (0, 100)) = (a ++ (b ++ [c])).all (Cp07.isIn 0 100) := allIn_rep _ 15 0 100 (by rw [List.length_append, List.length_append, h1, h2]; rfl)
    have r2 : allIn [d] [(1, 512)] = Cp07.isIn 1 512 d := by
      simp only [allIn, Bool.and_true]
      rfl
    rw [allIn_append _ _ _ _ (by rw [List.length_append, List.length_append, h1, h2, List.length_replicate]; rfl), r, r2, List.all_append, List.all_append, List.all_cons, List.all_cons, List.all_append, List.all_nil, Bool.and_true]
    cases a.all (Cp07.isIn 0 100) <;> cases b.all (Cp07.isIn 0 100) <;> cases Cp07.isIn 0 100 c <;> rfl
  unfold prCall
  show (if (ns.take 7).length ≠ 7 ∨ ((ns.drop 7).take 7).length ≠ 7 ∨ (ns.getD 14 0 :: (ns.take 7 ++ (ns.drop 7).take 7)).all (Cp07.isIn 0 100) = false ∨ Cp07.isIn 1 512 (ns.getD 15 0) = false then _ else _) = _
  rw [e]
  cases x : (ns.getD 14 0 :: (ns.take 7 ++ (ns.drop 7).take 7)).all (Cp07.isIn 0 100) with
  | false =>
    rw [if_pos (.inr (.inr (.inl rfl))), if_neg (by simp)]
  | true =>
    cases y : Cp07.isIn 1 512 (ns.getD 15 0) with
    | false => rw [if_pos (.inr (.inr (.inr rfl))), if_neg (by simp)]
    | true =>
      rw [if_neg (by rintro (r | r | r | r); exact r h1; exact r h2; cases r; cases r)]
      rfl
theorem sc_prices : FnScope ["self", "numbers", "prices"] ["self", "numbers"] (defScope s_Canon_take_prices) := ⟨rfl, rfl, rfl, by decide +kernel, rfl, by decide +kernel, by decide +kernel⟩
theorem ok_prices {CC CP : Addr} (h : HereM K CC "take_prices" "Canon.take_prices" s_Canon_take_prices ["self", "numbers"]) (T : CanC K CC) (Rf : Refusals mg) (R : Def P w K mg base 3 "read_prices" ["numbers"] (spReadPr K CP)) :
    DefM P w K mg base CC 4 "take_prices" ["self", "numbers"] (spCall K CC CP (fun ns => ns.length = 16) prCall) := by
  obtain ⟨f1, fd1, g1, k1, b1, G1⟩ := R
  obtain ⟨u1, c1⟩ := Rf.c1
  refine h.ok sc_prices (fun vs H Q E h => ?_) (fun f cdv A outer s H vs Q E hr h => ?_)
  · obtain ⟨H0, p, a, s, ns, rfl, _⟩ := h; rfl
  · obtain ⟨H0, p, a, st, ns, rfl, ca, sa, hl, h16, q⟩ := h
    refine ⟨_, pss_cons (ps_set (i := 2) sc_prices.nd rfl (.inl rfl) (pe_call G1 hr rfl g1 k1 b1 .nil pass0 (pa_cons (pv 1) pa_nil)))
      (pss_cons (ps_if (pt_cmpR op_isN (pv 2) pe_non (nomark _)) (pss_one (ps_ret (pe_lst (pa_cons (pe_glob (v := .int (-1)) rfl c1 ⟨_, rfl⟩) pa_nil)))) pss_nil)
      (pss_cons (ps_fld (pv 0) (pv 2) rfl) (pss_one (ps_ret (pe_lst (pa_cons pe_int pa_nil)))))), ?_⟩
    have es := prices_step st h16
    refine ⟨_, rfl, a, ns, rfl, sa, fun hN H1 s1 => ?_, fun hY H1 pr' s1 npr prd => ?_⟩
    · refine ⟨_, rfl, rfl, _, rfl, iteT ⟨(by show 1 ≤ sizeLine; decide), ?_⟩⟩
      exact refuse (by rw [es, hN]; rfl) s1 ca q
    · rw [hY, if_pos rfl] at es
      obtain ⟨dx, ev, l, pr, vs, c⟩ := ca
      have c1 := c.same s1
      refine ⟨_, rfl, rfl, _, rfl, iteF ?_⟩
      refine ⟨_, rfl, _, rfl, p, CC, dx, _, rfl, c1.obj, T.cl, T.prices, (by show 3 < 1000; decide), ?_⟩
      rw [put_pr]
      have npl : l ≠ p := ne_of c1.lst c1.obj (by intro z; cases z)
      have can : CanonIn CC CP H0 (upd H1 p (.ins CC dx (cF ev l pr'))) p dx ev l pr' vs { st with table := tableBy ns } := by
        refine ⟨Same.put c1.sm c.p0, c.p0, c.l0, upd_same, by rw [upd_ne npl]; exact c1.lst, c1.theme.same (priv_put (.inl rfl)), ?_, c.nv, fun i a w h1 h2 => ?_, c.few, c.ways⟩
        · exact (prd.same (priv_new c.sm c.obj c.lst)).same (priv_put (.inl rfl))
        · obtain ⟨v, e1, e2⟩ := c1.voices i a w h1 h2
          exact ⟨v, e1, e2.same (priv_put (.inl rfl))⟩
      refine ⟨(by show 1 ≤ sizeLine; decide), fun r hr' => q _ r ?_ ?_ ?_⟩
      · rw [es]
        exact ⟨dx, ev, l, pr', vs, can.same (Same.new hr')⟩
      · have e2 : upd H1 p (.ins CC dx (cF ev l pr')) r = none := hr'
        have nrp : r ≠ p := fun z => by rw [z, upd_same] at e2; cases e2
        rw [upd_ne nrp] at e2
        exact s1.free e2
      · unfold ansOf
        rw [es, upd_same]
        rfl
/-! ### drop -/
theorem sc_drop : FnScope ["self"] ["self"] (defScope s_Canon_drop_last) := ⟨rfl, rfl, rfl, by decide +kernel, rfl, by decide +kernel, by decide +kernel⟩
theorem ok_drop {CC CP : Addr} (B : Blt mg) (h : HereM K CC "drop_last" "Canon.drop_last" s_Canon_drop_last ["self"]) (T : CanC K CC) (Rf : Refusals mg) : DefM P w K mg base CC 1 "drop_last" ["self"] (spCall0 CC CP .drop) := by
  obtain ⟨u3, c3⟩ := Rf.c3
  refine h.ok sc_drop (fun vs H Q E h => ?_) (fun f cdv A outer s H vs Q E hr h => ?_)
  · obtain ⟨H0, p, s, rfl, _⟩ := h; rfl
  · obtain ⟨H0, p, st, rfl, ca, q⟩ := h
    obtain ⟨dx, ev, l, pr, vs, c⟩ := id ca
    refine ⟨_, pss_cons (ps_if (pt_not (pt_truth (pe_fld (pv 0) rfl) (by intro _; rfl))) (pss_one (ps_ret (pe_lst (pa_cons (pe_glob (v := .int (-3)) rfl c3 ⟨_, rfl⟩) pa_nil)))) pss_nil)
      (pss_cons (ps_expr (pe_bm0 PySem.F.plainAttrs_list PySem.F.slot_list_pop PySem.F.type_list_pop mt_pop (pe_fld (pv 0) rfl)))
      (pss_one (ps_ret (pe_lst (pa_cons (pe_callB call_len_seq (by rfl) B.len PySem.boot_len (pa_cons (pe_fld (pv 0) rfl) pa_nil)) pa_nil))))), ?_⟩
    refine ⟨_, rfl, p, CC, dx, _, _, rfl, c.obj, T.cl, T.other_voices, cF_ov _ _ _, _, .inl ⟨_, SqL.of c.lst, rfl⟩, ?_⟩
    have es : Cp07.step st .drop = if st.ways.isEmpty then (st, Cp07.just (-3)) else ({ st with ways := st.ways.dropLast }, Cp07.just ((st.ways.length : Int) - 1)) := rfl
    have nvs := c.nv
    by_cases hw : st.ways = []
    · have e1 : (vs.map V.ref).isEmpty = true := by
        rw [hw] at nvs
        rw [List.eq_nil_of_length_eq_zero nvs]
        rfl
      rw [e1]
      refine iteT ⟨(by show 1 ≤ sizeLine; decide), ?_⟩
      exact refuse (by rw [es, hw]; rfl) (Same.refl H) ca q
    · have hpos : 0 < vs.length := by rw [nvs]; exact List.length_pos_iff.mpr hw
      have e1 : (vs.map V.ref).isEmpty = false := by
        cases vs with
        | nil => simp at hpos
        | cons _ _ => rfl
      rw [e1]
      refine iteF ?_
      obtain ⟨y, hy⟩ := get_some (l := vs) (i := vs.length - 1) (by omega)
      refine ⟨_, rfl, p, CC, dx, _, _, rfl, c.obj, T.cl, T.other_voices, cF_ov _ _ _, .inl ⟨rfl, _, SqL.of c.lst⟩, l, _, V.ref y, rfl, rfl, c.lst, by rw [List.length_map, List.getElem?_map, hy]; rfl, ?_⟩
      have npl : p ≠ l := ne_of c.obj c.lst (by intro z; cases z)
      have dl : (vs.map V.ref).dropLast = vs.dropLast.map V.ref := (List.map_dropLast ..).symm
      rw [dl]
      have can : CanonIn CC CP H0 (upd H l (.lst (vs.dropLast.map V.ref))) p dx ev l pr vs.dropLast { st with ways := st.ways.dropLast } := by
        refine ⟨Same.put c.sm c.l0, c.p0, c.l0, by rw [upd_ne npl]; exact c.obj, upd_same, c.theme.same (priv_put (.inr rfl)), c.prices.same (priv_put (.inr rfl)), ?_, fun i a w h1 h2 => ?_, c.few, ?_⟩
        · show vs.dropLast.length = st.ways.dropLast.length
          rw [List.length_dropLast, List.length_dropLast, nvs]
        · have h2 : st.ways.dropLast[i]? = some w := h2
          rw [List.getElem?_dropLast] at h1 h2
          split at h1
          · split at h2
            · obtain ⟨v, e1, e2⟩ := c.voices i a w h1 h2
              exact ⟨v, e1, e2.same (priv_put (.inr rfl))⟩
            · cases h2
          · cases h1
        · show st.ways.dropLast.length ≤ 4
          rw [List.length_dropLast]
          have := c.ways
          omega
      refine ⟨_, rfl, p, CC, dx, _, _, rfl, can.obj, T.cl, T.other_voices, cF_ov _ _ _, l, _, rfl, .inl (SqL.of upd_same), (by show 1 ≤ sizeLine; decide), fun r hr' => q _ r ?_ ?_ ?_⟩
      · rw [es, if_neg (by rw [List.isEmpty_iff]; exact hw)]
        exact ⟨dx, ev, l, pr, _, can.same (Same.new hr')⟩
      · have e2 : upd H l (.lst (vs.dropLast.map V.ref)) r = none := hr'
        have nrl : r ≠ l := fun z => by rw [z, upd_same] at e2; cases e2
        rwa [upd_ne nrl] at e2
      · unfold ansOf
        rw [es, if_neg (by rw [List.isEmpty_iff]; exact hw), upd_same, List.length_map, List.length_dropLast, nvs]
        have ez : (((st.ways.length - 1 : Nat) : Nat) : Int) = (st.ways.length : Int) - 1 := by omega
        rw [ez]
        rfl
end
end CW

set_option Elab.async false
set_option linter.all false
set_option maxRecDepth 100000
set_option maxHeartbeats 4000000
/-! the calls voice and way -/
namespace CW
open PySem PySem.Spec PyProof.Rows L2 CWX
section
variable {P : Program} {w : World} {K : PySem.W.Frag} {mg : Str → Option Value} {base : Heap}
theorem theme_empty {H : Hp} {ev : Addr} {l : Cp07.Line} (h : TupsT H ev (l.map encV)) : ∃ xs, SqL K H ev xs ∧ (!xs.isEmpty) = !l.isEmpty := by
  obtain ⟨ts, h1, h2, _⟩ := h
  rw [List.length_map] at h2
  refine ⟨_, SqL.of h1, ?_⟩
  cases ts with
  | nil => rw [List.eq_nil_of_length_eq_zero h2.symm]; rfl
  | cons a ts =>
    cases l with
    | nil => simp at h2
    | cons e l => rfl
theorem sc_show : FnScope ["self", "numbers", "way", "events"] ["self", "numbers"] (defScope s_Canon_show_voice) := ⟨rfl, rfl, rfl, by decide +kernel, rfl, by decide +kernel, by decide +kernel⟩
theorem voice_step (s : Cp07.State) (ns : List Int) : Cp07.step s (.voice ns) = (s, match Cp07.wayOf ns with
    | none => Cp07.just (-1)
    | some w => if s.theme.isEmpty then Cp07.just (-7) else match Cp07.voiced s.theme w with
      | none => Cp07.just (-3)
      | some x => ⟨(x.length : Int), x.flatMap enc⟩) := rfl
theorem ok_show {CC CP CW : Addr} (B : Blt mg) (h : HereM K CC "show_voice" "Canon.show_voice" s_Canon_show_voice ["self", "numbers"]) (T : CanC K CC) (Rf : Refusals mg) (R : Def P w K mg base 3 "read_way" ["numbers"] (spReadWay K CW))
    (Cn : Def P w K mg base 2 "can_be_had" ["events", "way"] (spCan K CW)) (EB : Def P w K mg base 3 "events_by_way" ["events", "way"] (spEventsBy K CW)) (W : Def P w K mg base 1 "write_events" ["events"] (spWrite K)) :
    DefM P w K mg base CC 4 "show_voice" ["self", "numbers"] (spCall K CC CP (fun _ => True) .voice) := by
  obtain ⟨f1, fd1, g1, k1, b1, G1⟩ := R
  obtain ⟨f2, fd2, g2, k2, b2, G2⟩ := Cn
  obtain ⟨f3, fd3, g3, k3, b3, G3⟩ := EB
  obtain ⟨f4, fd4, g4, k4, b4, G4⟩ := W
  obtain ⟨u1, c1⟩ := Rf.c1
  obtain ⟨u3, c3⟩ := Rf.c3
  obtain ⟨u7, c7⟩ := Rf.c7
  refine h.ok sc_show (fun vs H Q E h => ?_) (fun f cdv A outer s H vs Q E hr h => ?_)
  · obtain ⟨H0, p, a, s, ns, rfl, _⟩ := h; rfl
  · obtain ⟨H0, p, a, st, ns, rfl, ca, sa, hl, _, q⟩ := h
    refine ⟨_, pss_cons (ps_set (i := 2) sc_show.nd rfl (.inl rfl) (pe_call G1 hr rfl g1 k1 b1 .nil pass0 (pa_cons (pv 1) pa_nil)))
      (pss_cons (ps_if (pt_cmpR op_isN (pv 2) pe_non (nomark _)) (pss_one (ps_ret (pe_lst (pa_cons (pe_glob (v := .int (-1)) rfl c1 ⟨_, rfl⟩) pa_nil)))) pss_nil)
      (pss_cons (ps_if (pt_not (pt_truth (pe_fld (pv 0) rfl) (by intro _; rfl))) (pss_one (ps_ret (pe_lst (pa_cons (pe_glob (v := .int (-7)) rfl c7 ⟨_, rfl⟩) pa_nil)))) pss_nil)
      (pss_cons (ps_if (pt_not (pt_val (pe_call G2 (hr.mono (by decide)) rfl g2 k2 b2 .nil pass0 (pa_cons (pe_fld (pv 0) rfl) (pa_cons (pv 2) pa_nil))))) (pss_one (ps_ret (pe_lst (pa_cons (pe_glob (v := .int (-3)) rfl c3 ⟨_, rfl⟩) pa_nil)))) pss_nil)
      (pss_cons (ps_set (i := 3) sc_show.nd rfl (.inl rfl) (pe_call G3 hr rfl g3 k3 b3 .nil pass0 (pa_cons (pe_fld (pv 0) rfl) (pa_cons (pv 2) pa_nil))))
      (pss_one (ps_ret (pe_op op_cat (pe_lst (pa_cons (pe_callB call_len_seq (by rfl) B.len PySem.boot_len (pa_cons (pv 3) pa_nil)) pa_nil)) (pe_call G4 (hr.mono (by decide)) rfl g4 k4 b4 .nil pass0 (pa_cons (pv 3) pa_nil))))))))), ?_⟩
    have es := voice_step st ns
    refine ⟨_, rfl, a, ns, rfl, sa, fun hN H1 s1 => ?_, fun wy hY fw H1 b s1 nb wb => ?_⟩
    · refine ⟨_, rfl, rfl, _, rfl, iteT ⟨(by show 1 ≤ sizeLine; decide), ?_⟩⟩
      exact refuse (by rw [es, hN]) s1 ca q
    refine ⟨_, rfl, rfl, _, rfl, iteF ?_⟩
    obtain ⟨dx, ev, l, pr, vs, c⟩ := id ca
    have cc := c.same s1
    have th := cc.theme.same priv_same
    obtain ⟨xs, sx, ex⟩ := theme_empty (K := K) th
    refine ⟨_, rfl, p, CC, dx, _, _, rfl, cc.obj, T.cl, T.events, cF_ev _ _ _, _, .inl ⟨xs, sx, rfl⟩, ?_⟩
    rw [ex]
    rw [hY] at es
    cases he : st.theme.isEmpty with
    | true =>
      rw [he] at es
      refine iteT ⟨(by show 1 ≤ sizeLine; decide), ?_⟩
      exact refuse (by rw [es]; rfl) s1 ca q
    | false =>
      rw [he] at es
      refine iteF ?_
      refine ⟨_, rfl, p, CC, dx, _, _, rfl, cc.obj, T.cl, T.events, cF_ev _ _ _, _, rfl, ev, b, st.theme, wy, rfl, TupsT.tupsG th, c.few, wb, fun H2 s2 => ⟨_, rfl, ?_⟩⟩
      have vc := voiced_can st.theme wy
      have s12 := s1.trans s2
      cases hc : canHave st.theme wy with
      | false =>
        rw [hc, if_neg (by decide)] at vc
        refine iteT ⟨(by show 1 ≤ sizeLine; decide), ?_⟩
        exact refuse (by rw [es]; show (st, match Cp07.voiced st.theme wy with | none => _ | some x => _) = _; rw [vc]) s12 ca q
      | true =>
        rw [hc, if_pos rfl] at vc
        refine iteF ?_
        obtain ⟨dw, hw⟩ := wb
        refine ⟨_, rfl, p, CC, dx, _, _, rfl, s2 _ _ cc.obj, T.cl, T.events, cF_ev _ _ _, _, rfl, ev, b, st.theme, wy, rfl, TupsT.tupsG (th.same s2), c.few, ⟨dw, s2 _ _ hw⟩, fun H3 pe s3 tn => ?_⟩
        have s13 := s12.trans s3
        obtain ⟨ts, t1, t2, t3⟩ := tn.trk'
        rw [List.length_map, byWay_len] at t2
        refine ⟨_, rfl, pe, _, rfl, .inl (SqL.of t1), (by show 1 ≤ sizeLine; decide), fun r1 hr1 => ?_⟩
        have s4 := Same.new (o := .lst [.int ((ts.map V.ref).length : Nat)]) hr1
        refine ⟨_, rfl, pe, byWay st.theme wy, rfl, TupsT.tupsG (TupsT.same tn.trk' s4), by rw [byWay_len]; exact c.few, fun H5 r2 s5 nr2 hr2 => ?_⟩
        refine ⟨r1, r2, _, _, rfl, rfl, s5 _ _ upd_same, hr2, ?_, fun r hr' => q _ r ?_ ?_ ?_⟩
        · have f1 := flat_len (byWay st.theme wy)
          rw [byWay_len] at f1
          have := c.few
          show 1 + (((byWay st.theme wy).flatMap enc).map V.int).length ≤ _
          rw [List.length_map]
          exact Nat.le_of_lt (small1000 (by omega))
        · rw [es]
          exact (ca.same (s13.trans (s4.trans s5))).same (Same.new hr')
        · exact (s13.trans (s4.trans s5)).free hr'
        · unfold ansOf
          rw [es, upd_same]
          show some (HO.lst ([V.int ((ts.map V.ref).length : Nat)] ++ ((byWay st.theme wy).flatMap enc).map V.int)) = some (HO.lst (((match Cp07.voiced st.theme wy with | none => Cp07.just (-3) | some x => (⟨(x.length : Int), x.flatMap enc⟩ : Cp07.Ans)).v :: (match Cp07.voiced st.theme wy with | none => Cp07.just (-3) | some x => (⟨(x.length : Int), x.flatMap enc⟩ : Cp07.Ans)).l).map V.int))
          rw [vc, List.length_map, t2]
          show some (HO.lst (V.int (st.theme.length : Nat) :: ((byWay st.theme wy).flatMap enc).map V.int)) = some (HO.lst (V.int ((byWay st.theme wy).length : Nat) :: ((byWay st.theme wy).flatMap enc).map V.int))
          rw [byWay_len]
/-! ### way -/
def against (s : Cp07.State) (v : Cp07.Voice) : Nat := ((Cp07.voices s).map fun u => Cp07.cost s.table u v).foldl (· + ·) 0
theorem against_abv (s : Cp07.State) (v : Cp07.Voice) : against s v = abv s.table (Cp07.voices s) v := by
  unfold against abv
  rw [foldl_add]
  omega
theorem way_step (s : Cp07.State) (ns : List Int) : Cp07.step s (.way ns) = match Cp07.wayOf ns with
    | none => (s, Cp07.just (-1))
    | some w => if s.theme.isEmpty then (s, Cp07.just (-7)) else if Cp07.WAYS ≤ s.ways.length then (s, Cp07.just (-5)) else match Cp07.voiceOf s.theme w with
      | none => (s, Cp07.just (-3))
      | some v => ({ s with ways := s.ways ++ [w] }, ⟨(s.ways.length + 1 : Nat), [(against s v : Int)]⟩) := rfl
theorem sc_way : FnScope ["self", "numbers", "way", "voice", "cost"] ["self", "numbers"] (defScope s_Canon_add_way) := ⟨rfl, rfl, rfl, by decide +kernel, rfl, by decide +kernel, by decide +kernel⟩
theorem ok_way {CC CP CW : Addr} (B : Blt mg) (h : HereM K CC "add_way" "Canon.add_way" s_Canon_add_way ["self", "numbers"]) (T : CanC K CC) (TW : WayC K CW) (Rf : Refusals mg) (c4 : CstI mg "MOST_OTHER_VOICES" 4) (R : Def P w K mg base 3 "read_way" ["numbers"] (spReadWay K CW))
    (Cn : Def P w K mg base 2 "can_be_had" ["events", "way"] (spCan K CW)) (BW : DefM P w K mg base CC 4 "voice_by_way" ["self", "way"] (spByWay CC CP CW)) (Vo : DefM P w K mg base CC 3 "all_voices" ["self"] (spVoices CC CP))
    (Ag : Def P w K mg base 5 "cost_against_all" ["voice", "others", "prices"] (spAgainst CP)) : DefM P w K mg base CC 6 "add_way" ["self", "numbers"] (spCall K CC CP (fun _ => True) .way) := by
  obtain ⟨f1, fd1, g1, k1, b1, G1⟩ := R
  obtain ⟨f2, fd2, g2, k2, b2, G2⟩ := Cn
  obtain ⟨f3, fd3, m3, b3, G3⟩ := BW
  obtain ⟨f4, fd4, m4, b4, G4⟩ := Vo
  obtain ⟨f5, fd5, g5, k5, b5, G5⟩ := Ag
  obtain ⟨u1, c1⟩ := Rf.c1
  obtain ⟨u3, c3⟩ := Rf.c3
  obtain ⟨u5, c5⟩ := Rf.c5
  obtain ⟨u7, c7⟩ := Rf.c7
  obtain ⟨u4, c4⟩ := c4
  refine h.ok sc_way (fun vs H Q E h => ?_) (fun f cdv A outer s H vs Q E hr h => ?_)
  · obtain ⟨H0, p, a, s, ns, rfl, _⟩ := h; rfl
  · obtain ⟨H0, p, a, st, ns, rfl, ca, sa, hl, _, q⟩ := h
    refine ⟨_, pss_cons (ps_set (i := 2) sc_way.nd rfl (.inl rfl) (pe_call G1 (hr.mono (by decide)) rfl g1 k1 b1 .nil pass0 (pa_cons (pv 1) pa_nil)))
      (pss_cons (ps_if (pt_cmpR op_isN (pv 2) pe_non (nomark _)) (pss_one (ps_ret (pe_lst (pa_cons (pe_glob (v := .int (-1)) rfl c1 ⟨_, rfl⟩) pa_nil)))) pss_nil)
      (pss_cons (ps_if (pt_not (pt_truth (pe_fld (pv 0) rfl) (by intro _; rfl))) (pss_one (ps_ret (pe_lst (pa_cons (pe_glob (v := .int (-7)) rfl c7 ⟨_, rfl⟩) pa_nil)))) pss_nil)
      (pss_cons (ps_if (pt_cmpR op_eq (pe_callB call_len_seq (by rfl) B.len PySem.boot_len (pa_cons (pe_fld (pv 0) rfl) pa_nil)) (pe_glob (v := .int 4) rfl c4 ⟨_, rfl⟩) (nomark _)) (pss_one (ps_ret (pe_lst (pa_cons (pe_glob (v := .int (-5)) rfl c5 ⟨_, rfl⟩) pa_nil)))) pss_nil)
      (pss_cons (ps_if (pt_not (pt_val (pe_call G2 (hr.mono (by decide)) rfl g2 k2 b2 .nil pass0 (pa_cons (pe_fld (pv 0) rfl) (pa_cons (pv 2) pa_nil))))) (pss_one (ps_ret (pe_lst (pa_cons (pe_glob (v := .int (-3)) rfl c3 ⟨_, rfl⟩) pa_nil)))) pss_nil)
      (pss_cons (ps_set (i := 3) sc_way.nd rfl (.inl rfl) (pe_meth (pv 0) T.cl m3 G3 (hr.mono (by decide)) b3 .nil pass0 (pa_cons (pv 2) pa_nil)))
      (pss_cons (ps_set (i := 4) sc_way.nd rfl (.inl rfl) (pe_call G5 hr rfl g5 k5 b5 .nil pass0 (pa_cons (pv 3) (pa_cons (pe_meth0 (pv 0) T.cl m4 G4 (hr.mono (by decide)) b4 .nil pass0) (pa_cons (pe_fld (pv 0) rfl) pa_nil)))))
      (pss_cons (ps_expr (pe_bm PySem.F.plainAttrs_list PySem.F.slot_list_append PySem.F.type_list_append mt_append (pe_fld (pv 0) rfl) (pa_cons (pv 3) pa_nil)))
      (pss_one (ps_ret (pe_lst (pa_cons (pe_callB call_len_seq (by rfl) B.len PySem.boot_len (pa_cons (pe_fld (pv 0) rfl) pa_nil)) (pa_cons (pv 4) pa_nil)))))))))))), ?_⟩
    have es := way_step st ns
    refine ⟨_, rfl, a, ns, rfl, sa, fun hN H1 s1 => ?_, fun wy hY fw H1 b s1 nb wb => ?_⟩
    · refine ⟨_, rfl, rfl, _, rfl, iteT ⟨(by show 1 ≤ sizeLine; decide), ?_⟩⟩
      exact refuse (by rw [es, hN]) s1 ca q
    refine ⟨_, rfl, rfl, _, rfl, iteF ?_⟩
    obtain ⟨dx, ev, l, pr, vs, c⟩ := id ca
    have cc := c.same s1
    have th := cc.theme.same priv_same
    obtain ⟨xs, sx, ex⟩ := theme_empty (K := K) th
    refine ⟨_, rfl, p, CC, dx, _, _, rfl, cc.obj, T.cl, T.events, cF_ev _ _ _, _, .inl ⟨xs, sx, rfl⟩, ?_⟩
    rw [ex]
    rw [hY] at es
    cases he : st.theme.isEmpty with
    | true =>
      rw [he] at es
      refine iteT ⟨(by show 1 ≤ sizeLine; decide), ?_⟩
      exact refuse (by rw [es]; rfl) s1 ca q
    | false =>
      rw [he] at es
      have es : Cp07.step st (.way ns) = if Cp07.WAYS ≤ st.ways.length then (st, Cp07.just (-5)) else match Cp07.voiceOf st.theme wy with
        | none => (st, Cp07.just (-3))
        | some v => ({ st with ways := st.ways ++ [wy] }, ⟨(st.ways.length + 1 : Nat), [(against st v : Int)]⟩) := es
      refine iteF ?_
      refine ⟨_, rfl, p, CC, dx, _, _, rfl, cc.obj, T.cl, T.other_voices, cF_ov _ _ _, l, _, rfl, .inl (SqL.of cc.lst), rfl, _, rfl, ?_⟩
      rw [List.length_map, c.nv]
      have hw4 := c.ways
      by_cases h4 : st.ways.length = 4
      · have d : decide (V.int (st.ways.length : Nat) = V.int 4) = true := by rw [h4]; rfl
        rw [d]
        refine iteT ⟨(by show 1 ≤ sizeLine; decide), ?_⟩
        exact refuse (by rw [es, if_pos (by rw [h4]; decide)]) s1 ca q
      · have d : decide (V.int (st.ways.length : Nat) = V.int 4) = false := decide_eq_false fun z => by injection z with z; omega
        rw [d]
        refine iteF ?_
        rw [if_neg (by show ¬ 4 ≤ st.ways.length; omega)] at es
        refine ⟨_, rfl, p, CC, dx, _, _, rfl, cc.obj, T.cl, T.events, cF_ev _ _ _, _, rfl, ev, b, st.theme, wy, rfl, TupsT.tupsG th, c.few, wb, fun H2 s2 => ⟨_, rfl, ?_⟩⟩
        have vc := voiceOf_eq st.theme wy
        have s12 := s1.trans s2
        cases hc : canHave st.theme wy with
        | false =>
          rw [hc, if_neg (by decide)] at vc
          refine iteT ⟨(by show 1 ≤ sizeLine; decide), ?_⟩
          exact refuse (by rw [es, vc]) s12 ca q
        | true =>
          rw [hc, if_pos rfl] at vc
          rw [vc] at es
          refine iteF ?_
          obtain ⟨dw, hw⟩ := wb
          have c2 := c.same s12
          refine ⟨_, rfl, p, dx, _, rfl, c2.obj, cF_no _ _ _ (by decide +kernel) (by decide +kernel) (by decide +kernel), _, rfl, H0, p, b, st, wy, rfl, ca.same s12, ⟨dw, s2 _ _ hw⟩, fun H3 v s3 tv => ?_⟩
          have s13 := s12.trans s3
          have vat : VoiceAt H3 v (wy.late, byWay st.theme wy) := tv.trk'
          have c3 := c.same s13
          refine ⟨_, rfl, _, rfl, p, dx, _, rfl, c3.obj, cF_no _ _ _ (by decide +kernel) (by decide +kernel) (by decide +kernel), H0, p, st, rfl, ca.same s13, fun H4 vl s4 nvl vall el e4 => ?_⟩
          have s14 := s13.trans s4
          have c4 := c.same s14
          refine ⟨_, rfl, p, CC, dx, _, _, rfl, c4.obj, T.cl, T.prices, cF_pr _ _ _, v, vl, pr, (wy.late, byWay st.theme wy), Cp07.voices st, st.table, rfl, vat.same s4, by show (byWay st.theme wy).length ≤ 16; rw [byWay_len]; exact c.few, vall, by omega, c4.prices.same priv_same, fun H5 s5 => ?_⟩
          rw [← against_abv]
          have s15 := s14.trans s5
          have c5 := c.same s15
          refine ⟨_, rfl, p, CC, dx, _, _, rfl, c5.obj, T.cl, T.other_voices, cF_ov _ _ _, .inl ⟨rfl, _, SqL.of c5.lst⟩, _, rfl, l, _, _, rfl, rfl, c5.lst, by rw [List.length_map, c.nv]; exact small1000 (by omega), ?_⟩
          have npl : p ≠ l := ne_of c.obj c.lst (by intro z; cases z)
          have eap : vs.map V.ref ++ [V.ref v] = (vs ++ [v]).map V.ref := by rw [List.map_append]; rfl
          rw [eap]
          have can : CanonIn CC CP H0 (upd H5 l (.lst ((vs ++ [v]).map V.ref))) p dx ev l pr (vs ++ [v]) { st with ways := st.ways ++ [wy] } := by
            refine ⟨Same.put c5.sm c.l0, c.p0, c.l0, by rw [upd_ne npl]; exact c5.obj, upd_same, c5.theme.same (priv_put (.inr rfl)), c5.prices.same (priv_put (.inr rfl)), ?_, fun i x y h1 h2 => ?_, c.few, ?_⟩
            · show (vs ++ [v]).length = (st.ways ++ [wy]).length
              rw [List.length_append, List.length_append, c.nv]
              rfl
            · have h2 : (st.ways ++ [wy])[i]? = some y := h2
              by_cases hi : i < vs.length
              · rw [List.getElem?_append_left hi] at h1
                rw [List.getElem?_append_left (by rw [← c.nv]; exact hi)] at h2
                obtain ⟨v', e1, e2⟩ := c5.voices i x y h1 h2
                exact ⟨v', e1, e2.same (priv_put (.inr rfl))⟩
              · have hi2 : i = vs.length := by
                  have := get_lt h1
                  rw [List.length_append, List.length_singleton] at this
                  omega
                subst hi2
                rw [List.getElem?_append_right (Nat.le_refl _), Nat.sub_self] at h1
                rw [List.getElem?_append_right (by rw [c.nv]; exact Nat.le_refl _), c.nv, Nat.sub_self] at h2
                cases h1
                cases h2
                refine ⟨_, vc, ?_⟩
                have tv0 : TupsT (nw H H3) v ((laid (wy.late : Int) (byWay st.theme wy)).map ev3V) := (tv.trk).same (nw_anti s12)
                have tv1 := (tv0.same (nw_mono (s4.trans s5))).same (priv_new c.sm c.obj c.lst)
                exact tv1.same (priv_put (.inr rfl))
            · show (st.ways ++ [wy]).length ≤ 4
              rw [List.length_append, List.length_singleton]
              omega
          refine ⟨_, rfl, p, CC, dx, _, _, rfl, can.obj, T.cl, T.other_voices, cF_ov _ _ _, l, _, rfl, .inl (SqL.of upd_same), _, rfl, (by show 2 ≤ sizeLine; decide), fun r hr' => q _ r ?_ ?_ ?_⟩
          · rw [es]
            exact ⟨dx, ev, l, pr, _, can.same (Same.new hr')⟩
          · have e2 : upd H5 l (.lst ((vs ++ [v]).map V.ref)) r = none := hr'
            have nrl : r ≠ l := fun z => by rw [z, upd_same] at e2; cases e2
            rw [upd_ne nrl] at e2
            exact s15.free e2
          · unfold ansOf
            rw [es, upd_same, List.length_map, List.length_append, List.length_singleton, c.nv]
            rfl
end
end CW

set_option Elab.async false
set_option linter.all false
set_option maxRecDepth 100000
set_option maxHeartbeats 4000000
/-! all calls of a list -/
namespace CW
open PySem PySem.Spec PyProof.Rows L2 CWX
/-! ### the machine, call by call -/
def stepN (s : Cp07.State) (c : Int × List Int) : Cp07.State × List Int := Cp07Neutral.step s (wide c)
def runN (s : Cp07.State) : List (Int × List Int) → Cp07.State
  | [] => s
  | c :: r => runN (stepN s c).1 r
def toldN (s : Cp07.State) : List (Int × List Int) → List Int
  | [] => []
  | c :: r => (((stepN s c).2.length : Int) :: (stepN s c).2) ++ toldN (stepN s c).1 r
theorem told_toldN : ∀ (cs : List (Int × List Int)) (s : Cp07.State), PyFlat.told (PyFlat.played Cp07Neutral.step s (cs.map wide)) = toldN s cs
  | [], _ => rfl
  | c :: r, s => by
    have ih := told_toldN r (stepN s c).1
    show ((Cp07Neutral.step s (wide c)).2 :: PyFlat.played Cp07Neutral.step (Cp07Neutral.step s (wide c)).1 (r.map wide)).flatMap (fun a => (a.length : Int) :: a) = _
    rw [List.flatMap_cons]
    exact congrArg _ ih
theorem stepN_some {s : Cp07.State} {c : Int × List Int} {q : Cp07.Call} (h : Cp07Neutral.callOf (c.1 :: c.2) = some q) : stepN s c = ((Cp07.step s q).1, (Cp07.step s q).2.v :: (Cp07.step s q).2.l) := by
  unfold stepN Cp07Neutral.step
  show (match Cp07Neutral.callOf (c.1 :: c.2) with | none => _ | some q => _) = _
  rw [h]
theorem runN_snoc : ∀ (cs : List (Int × List Int)) (s : Cp07.State) (c : Int × List Int), runN s (cs ++ [c]) = (stepN (runN s cs) c).1
  | [], _, _ => rfl
  | d :: r, s, c => runN_snoc r (stepN s d).1 c
theorem toldN_append : ∀ (a b : List (Int × List Int)) (s : Cp07.State), toldN s (a ++ b) = toldN s a ++ toldN (runN s a) b
  | [], _, _ => rfl
  | d :: r, b, s => by
    show _ ++ toldN (stepN s d).1 (r ++ b) = (_ ++ toldN (stepN s d).1 r) ++ toldN (runN (stepN s d).1 r) b
    rw [toldN_append r b, List.append_assoc]
/-! ### where a call stands -/
theorem flat1_len (c : Int × List Int) : (flat1 c).length = c.2.length + 3 := by
  unfold flat1
  simp
section
variable {l : List Int} {done rest : List (Int × List Int)} {c : Int × List Int}
theorem at_call (h : l = (done ++ c :: rest).flatMap flat1) : l = done.flatMap flat1 ++ (flat1 c ++ rest.flatMap flat1) := by
  rw [h, List.flatMap_append, List.flatMap_cons]
theorem at_key (h : l = (done ++ c :: rest).flatMap flat1) : l[(done.flatMap flat1).length]? = some c.1 := by
  rw [at_call h, List.getElem?_append_right (Nat.le_refl _), Nat.sub_self]
  rfl
theorem at_count (h : l = (done ++ c :: rest).flatMap flat1) : l[(done.flatMap flat1).length + 1]? = some (c.2.length : Int) := by
  rw [at_call h, List.getElem?_append_right (by omega), Nat.add_sub_cancel_left]
  rfl
theorem at_numbers (h : l = (done ++ c :: rest).flatMap flat1) : (l.drop ((done.flatMap flat1).length + 2)).take c.2.length = c.2 := by
  rw [at_call h, List.drop_append, List.drop_eq_nil_of_le (by omega), List.nil_append, Nat.add_sub_cancel_left]
  show ((c.1 :: (c.2.length : Int) :: (c.2 ++ [0]) ++ rest.flatMap flat1).drop 2).take c.2.length = c.2
  simp
theorem at_lt (h : l = (done ++ c :: rest).flatMap flat1) : (done.flatMap flat1).length + c.2.length + 3 ≤ l.length := by
  rw [at_call h, List.length_append, List.length_append, flat1_len]
  omega
end
section
variable {P : Program} {w : World} {K : PySem.W.Frag} {mg : Str → Option Value} {base : Heap}
theorem CanonAt.add {CC CP : Addr} {H0 H : Hp} {p g : Addr} {s : Cp07.State} {o : HO} (c : CanonAt CC CP H0 H p s) (hg : H g = none) : CanonAt CC CP (upd H0 g o) (upd H g o) p s := by
  obtain ⟨dx, ev, l, pr, vs, c⟩ := c
  have np : p ≠ g := ne_of_none c.obj hg
  have nl : l ≠ g := ne_of_none c.lst hg
  have pv : Same (priv H0 H p l) (priv (upd H0 g o) (upd H g o) p l) := fun b u e => by
    obtain ⟨h1, h2, h3, h4⟩ := of_priv e
    have nb : b ≠ g := ne_of_none h4 hg
    rw [priv_at h1 h2 (by rw [upd_ne nb]; exact h3), upd_ne nb]
    exact h4
  refine ⟨dx, ev, l, pr, vs, fun b u e => ?_, by rw [upd_ne np]; exact c.p0, by rw [upd_ne nl]; exact c.l0, by rw [upd_ne np]; exact c.obj, by rw [upd_ne nl]; exact c.lst, c.theme.same pv, c.prices.same pv, c.nv, fun i a w h1 h2 => ?_, c.few, c.ways⟩
  · by_cases hb : b = g
    · rw [hb, upd_same] at e ⊢; exact e
    · rw [upd_ne hb] at e ⊢; exact c.sm _ _ e
  · obtain ⟨v, e1, e2⟩ := c.voices i a w h1 h2
    exact ⟨v, e1, e2.same pv⟩
theorem CanonAt.sm {CC CP : Addr} {H0 H : Hp} {p : Addr} {s : Cp07.State} (c : CanonAt CC CP H0 H p s) : Same H0 H := by
  obtain ⟨dx, ev, l, pr, vs, c⟩ := c
  exact c.sm
/-! ### answer_of's promise -/
def spAnswerOf (K : PySem.W.Frag) (CC CP : Addr) : Sp := fun vs H Q _ => ∃ (H0 : Hp) (p a : Addr) (s : Cp07.State) (k : Int) (ns : List Int) (q : Cp07.Call), vs = [.ref p, .int k, .ref a] ∧ CanonAt CC CP H0 H p s ∧ SqL K H a (ns.map V.int) ∧ ns.length ≤ 59 ∧ Cp07Neutral.callOf (k :: ns) = some q ∧
  ∀ (H' : Hp) (r : Addr), CanonAt CC CP H0 H' p (Cp07.step s q).1 → H r = none → H' r = some (.lst ((ansOf s q).map V.int)) → Q (.ref r) H'
/-! ### answers -/
def spAns (K : PySem.W.Frag) : Sp := fun vs H Q _ => ∃ (a : Addr) (l : List Int), vs = [.ref a] ∧ SqL K H a (l.map V.int) ∧ PyCp07.answers_asked l = true ∧ ∀ (H' : Hp) (p : Addr), H' p = some (.lst ((PyCp07.answers l).map V.int)) → Q (.ref p) H'
theorem sc_ans : FnScope ["calls", "canon", "given", "place", "first", "behind", "answer"] ["calls"] (defScope s_answers) := ⟨rfl, rfl, rfl, by decide +kernel, rfl, by decide +kernel, by decide +kernel⟩
/-- behind some calls -/
structure AnsInv (CC CP : Addr) (H H0 H' : Hp) (p g : Addr) (cs done rest : List (Int × List Int)) : Prop where
  sm : Same H H0
  can : CanonAt CC CP H0 H' p (runN Cp07.start done)
  gv : H0 g = some (.lst ((toldN Cp07.start done).map V.int))
  cs : cs = done ++ rest
theorem ok_ans {k : Nat} {CC CP f : Addr} {fd : FuncData} (hk : 5 ≤ k) (B : Blt mg) (F : Fun K "answers" "answers" s_answers f fd) (I : DefI P w K mg base CC 4 "Canon" ["self"] (spCanInit CC CP)) (Ao : Def P w K mg base k "answer_of" ["canon", "call", "numbers"] (spAnswerOf K CC CP)) : FnOk P w K mg base CX0 (k + 1) f fd ["calls"] (spAns K) := by
  obtain ⟨gC, fI, fdI, M, bI, GI⟩ := I
  obtain ⟨f1, fd1, g1, k1, b1, G1⟩ := Ao
  refine F.ok sc_ans (fun vs H Q E h => ?_) (fun cdv A outer s H vs Q E hr h => ?_)
  · obtain ⟨a, l, rfl, _⟩ := h; rfl
  · obtain ⟨a, l, rfl, sa, hask, q⟩ := h
    obtain ⟨cs, ask⟩ := asked_of hask
    have due : PyCp07.answers l = toldN Cp07.start cs := ask.due.trans (told_toldN cs _)
    refine ⟨_, pss_cons (ps_set (i := 1) sc_ans.nd rfl (.inl rfl) (pe_make0 M GI (hr.mono hk) rfl gC bI .nil pass0)) (pss_cons (ps_set (i := 2) sc_ans.nd rfl (.inl rfl) (pe_lst pa_nil)) (pss_cons (ps_set (i := 3) sc_ans.nd rfl (.inl rfl) pe_int)
      (pss_cons (ps_while PassesOwn.never (pt_cmpR op_lt (pv 3) (pe_callB call_len_seq (by rfl) B.len PySem.boot_len (pa_cons (pv 0) pa_nil)) (nomark _))
        (pss_cons (ps_set (i := 4) sc_ans.nd rfl (.inl rfl) (pe_op op_add (pv 3) pe_int))
        (pss_cons (ps_set (i := 5) sc_ans.nd rfl (.inl rfl) (pe_op op_add (pv 4) (pe_ix ix_list (pv 0) (pe_op op_add (pv 3) pe_int) (fun _ _ => rfl))))
        (pss_cons (ps_set (i := 6) sc_ans.nd rfl (.inl rfl) (pe_call G1 hr rfl g1 k1 b1 .nil pass0 (pa_cons (pv 1) (pa_cons (pe_ix ix_list (pv 0) (pv 3) (fun _ _ => rfl)) (pa_cons (pe_slice sl_list (pv 0) (po_some (pv 4)) (po_some (pv 5))) pa_nil)))))
        (pss_cons (ps_expr (pe_bm PySem.F.plainAttrs_list PySem.F.slot_list_append PySem.F.type_list_append mt_append (pv 2) (pa_cons (pe_callB call_len_seq (by rfl) B.len PySem.boot_len (pa_cons (pv 6) pa_nil)) pa_nil)))
        (pss_cons (ps_expr (pe_bm PySem.F.plainAttrs_list PySem.F.slot_list_extend PySem.F.type_list_extend mt_extend (pv 2) (pa_cons (pv 6) pa_nil)))
        (pss_one (ps_set (i := 3) sc_ans.nd rfl (.inl rfl) (pe_op op_add (pv 5) pe_int)))))))))
      (pss_one (ps_ret (pv 2)))))), ?_⟩
    intro x dx nx nd ne
    have s0 : Same H (upd (upd H dx (.own x)) x (.ins CC dx [])) := Same.new' (Same.new nd) (by rw [upd_ne ne.symm]; exact nx)
    refine ⟨H, x, dx, rfl, s0, nx, upd_same, fun H1 c1 => ⟨rfl, ?_⟩⟩
    refine ⟨Nat.zero_le _, fun g hg => ?_⟩
    have gH : H g = none := c1.sm.free hg
    refine while_by (fun σ H' => ∃ (H0 : Hp) (done rest : List (Int × List Int)) (u v y : Option V), σ = [some (.ref a), some (.ref x), some (.ref g), some (.int ((done.flatMap flat1).length : Nat)), u, v, y] ∧ AnsInv CC CP H H0 H' x g cs done rest)
      (fun σ _ => l.length - natAt σ 3) ?_ ?_ ?_
    · exact ⟨_, [], cs, none, none, none, rfl, ⟨Same.new gH, c1.add hg, upd_same, rfl⟩⟩
    · rintro σ H' ⟨H0, done, rest, u, v, y, rfl, I⟩
      have sHH : Same H H' := I.sm.trans I.can.sm
      have sa' := sHH.seq sa
      refine ⟨_, rfl, _, rfl, a, _, rfl, .inl sa', _, _, rfl, rfl, _, rfl, ?_⟩
      rw [List.length_map]
      have hflat := ask.flat
      rw [I.cs] at hflat
      cases hrest : rest with
      | nil =>
        have e : ¬ (((done.flatMap flat1).length : Nat) : Int) < (l.length : Nat) := by
          rw [hflat, hrest, List.append_nil]
          omega
        rw [decide_eq_false e]
        refine iteF ⟨_, rfl, q H' g ?_⟩
        rw [due, I.cs, hrest, List.append_nil]
        exact I.can.sm _ _ I.gv
      | cons c rest' =>
        rw [hrest] at hflat
        have hlt := at_lt hflat
        have e : (((done.flatMap flat1).length : Nat) : Int) < (l.length : Nat) := by omega
        rw [decide_eq_true e]
        refine iteT ⟨_, rfl, _, _, rfl, rfl, ?_⟩
        have e1 : (((done.flatMap flat1).length : Nat) : Int) + 1 = (((done.flatMap flat1).length + 1 : Nat) : Int) := by omega
        refine ⟨_, rfl, _, rfl, _, rfl, _, _, rfl, rfl, a, _, _, _, rfl, rfl, sa', at_of e1 (v := V.int (c.2.length : Int)) (by rw [List.getElem?_map, at_count hflat]; rfl), _, _, rfl, rfl, ?_⟩
        refine ⟨_, rfl, _, rfl, _, rfl, a, _, _, _, rfl, rfl, sa', atI_nat (v := V.int c.1) (by rw [List.getElem?_map, at_key hflat]; rfl), ?_⟩
        refine ⟨_, rfl, _, rfl, _, rfl, _, rfl, _, rfl, a, _, rfl, sa', fun sl hsl => ?_⟩
        have ecut : cutV (l.map V.int) (some ((((done.flatMap flat1).length : Nat) : Int) + 2)) (some ((((done.flatMap flat1).length : Nat) : Int) + 2 + (c.2.length : Int))) = c.2.map V.int := by
          have e2 : (((done.flatMap flat1).length : Nat) : Int) + 2 = (((done.flatMap flat1).length + 2 : Nat) : Int) := by omega
          rw [e2, cut_ints, at_numbers hflat]
        rw [ecut]
        have cm : c ∈ cs := by rw [I.cs, hrest]; exact List.mem_append_right _ List.mem_cons_self
        obtain ⟨hc1, hc2⟩ := ask.call c cm
        obtain ⟨qc, hq⟩ := Option.isSome_iff_exists.mp hc1
        refine ⟨H0, x, sl, _, c.1, c.2, qc, rfl, I.can.same (Same.new hsl), SqL.of upd_same, hc2, hq, fun H2 r can2 nr hr2 => ?_⟩
        have est := stepN_some (s := runN Cp07.start done) hq
        have hg2 : H2 g = some (.lst ((toldN Cp07.start done).map V.int)) := can2.sm _ _ I.gv
        have ngr : g ≠ r := by
          have e : upd H' sl (.lst (c.2.map V.int)) r = none := nr
          exact ne_of_none ((Same.new hsl) _ _ (I.can.sm _ _ I.gv)) e
        have hle : (toldN Cp07.start done).length + ((ansOf (runN Cp07.start done) qc).length + 1) ≤ 10000000 := by
          have hs := ask.short
          rw [due, I.cs, hrest, toldN_append, List.length_append] at hs
          have : (toldN (runN Cp07.start done) (c :: rest')).length = ((ansOf (runN Cp07.start done) qc).length + 1) + (toldN (stepN (runN Cp07.start done) c).1 rest').length := by
            show ((((stepN (runN Cp07.start done) c).2.length : Int) :: (stepN (runN Cp07.start done) c).2) ++ _).length = _
            rw [List.length_append, List.length_cons, est]
            rfl
          omega
        have lim : (10000000 : Nat) < sizeLine := by decide
        refine ⟨_, rfl, .inl ⟨rfl, _, SqL.of hg2⟩, _, rfl, r, _, rfl, .inl (SqL.of hr2), g, _, _, rfl, rfl, hg2, by rw [List.length_map]; omega, ?_⟩
        refine ⟨_, rfl, .inl ⟨rfl, _, SqL.of upd_same⟩, _, rfl, g, r, _, _, rfl, rfl, upd_same, by rw [upd_ne ngr.symm]; exact hr2, ?_, ?_⟩
        · rw [List.length_append, List.length_map, List.length_map, List.length_singleton]
          omega
        refine ⟨_, rfl, _, _, rfl, rfl, ?_⟩
        have enext : (((done ++ [c]).flatMap flat1).length : Nat) = (done.flatMap flat1).length + c.2.length + 3 := by
          rw [List.flatMap_append, List.length_append, List.flatMap_cons, List.flatMap_nil, List.append_nil, flat1_len]
          omega
        have enum : (((done.flatMap flat1).length : Nat) : Int) + 2 + (c.2.length : Int) + 1 = ((((done ++ [c]).flatMap flat1).length : Nat) : Int) := by rw [enext]; omega
        have etold : (toldN Cp07.start done).map V.int ++ [V.int (((ansOf (runN Cp07.start done) qc).map V.int).length : Nat)] ++ (ansOf (runN Cp07.start done) qc).map V.int = (toldN Cp07.start (done ++ [c])).map V.int := by
          rw [toldN_append, List.map_append, List.append_assoc, List.length_map]
          show _ = _ ++ ((((stepN (runN Cp07.start done) c).2.length : Int) :: (stepN (runN Cp07.start done) c).2) ++ []).map V.int
          rw [List.append_nil, est]
          rfl
        refine ⟨⟨upd (upd H0 g (.lst ((toldN Cp07.start done).map V.int ++ [V.int (((ansOf (runN Cp07.start done) qc).map V.int).length : Nat)]))) g (.lst ((toldN Cp07.start done).map V.int ++ [V.int (((ansOf (runN Cp07.start done) qc).map V.int).length : Nat)] ++ (ansOf (runN Cp07.start done) qc).map V.int)),
          done ++ [c], rest', _, _, _, congrArg (fun z => [some (V.ref a), some (V.ref x), some (V.ref g), some (V.int z), some (V.int ((((done.flatMap flat1).length : Nat) : Int) + 2)), some (V.int ((((done.flatMap flat1).length : Nat) : Int) + 2 + (c.2.length : Int))), some (V.ref r)]) enum, ?_⟩, ?_⟩
        · refine ⟨?_, ?_, ?_, ?_⟩
          · refine Same.put (Same.put I.sm gH) gH
          · rw [runN_snoc, est]
            exact (can2.out I.gv).out upd_same
          · rw [upd_same, etold]
          · rw [I.cs, hrest, List.append_assoc]
            rfl
        · show l.length - (((((done.flatMap flat1).length : Nat) : Int) + 2 + (c.2.length : Int)) + 1).toNat < l.length - (((done.flatMap flat1).length : Nat) : Int).toNat
          rw [enum, enext]
          simp only [Int.toNat_natCast]
          omega
    · rintro σ H' Q1 Q2 k ⟨v, h1, u, h2, p', ys, e, hs, i, j, e1, e2, b, e3, q⟩
      exact ⟨v, h1, u, h2, p', ys, e, hs, i, j, e1, e2, b, e3, k _ _ q⟩
end
end CW

set_option Elab.async false
set_option linter.all false
set_option maxRecDepth 100000
set_option maxHeartbeats 4000000
/-! the calls cost and round -/
namespace CW
open PySem PySem.Spec PyProof.Rows L2 CWX
section
variable {P : Program} {w : World} {K : PySem.W.Frag} {mg : Str → Option Value} {base : Heap}
theorem ixL (K : PySem.W.Frag) {X : Cx} (h : X.K = K := by rfl) : IxR X (rIxL K) := by
  subst h
  exact ix_list
/-- an answer that changes nothing -/
theorem tell {CC CP : Addr} {H0 H H1 : Hp} {p : Addr} {s : Cp07.State} {c : Cp07.Call} {v : Int} {l : List Int} {Q : VK} (e : Cp07.step s c = (s, ⟨v, l⟩)) (sm : Same H H1) (ca : CanonAt CC CP H0 H p s)
    (q : ∀ (H' : Hp) (r : Addr), CanonAt CC CP H0 H' p (Cp07.step s c).1 → H r = none → H' r = some (.lst ((ansOf s c).map V.int)) → Q (.ref r) H') {r : Addr} (nr : H r = none) (hr : H1 r = some (.lst ((v :: l).map V.int))) : Q (.ref r) H1 := by
  refine q _ r ?_ nr ?_
  · rw [e]
    exact ca.same sm
  · unfold ansOf
    rw [e, hr]
/-! ### cost -/
theorem sc_cost : FnScope ["self", "voices"] ["self"] (defScope s_Canon_show_cost) := ⟨rfl, rfl, rfl, by decide +kernel, rfl, by decide +kernel, by decide +kernel⟩
theorem cost_step (s : Cp07.State) : Cp07.step s .cost = (s, if s.theme.isEmpty then Cp07.just (-7) else ⟨(Cp07.total s.table (Cp07.voices s) : Int), [((Cp07.voices s).length : Int)]⟩) := rfl
theorem ok_cost {CC CP : Addr} (B : Blt mg) (h : HereM K CC "show_cost" "Canon.show_cost" s_Canon_show_cost ["self"]) (T : CanC K CC) (Rf : Refusals mg) (Vo : DefM P w K mg base CC 3 "all_voices" ["self"] (spVoices CC CP)) (CA : Def P w K mg base 6 "cost_of_all" ["voices", "prices"] (spCostAll CP)) :
    DefM P w K mg base CC 7 "show_cost" ["self"] (spCall0 CC CP .cost) := by
  obtain ⟨f1, fd1, m1, b1, G1⟩ := Vo
  obtain ⟨f2, fd2, g2, k2, b2, G2⟩ := CA
  obtain ⟨u7, c7⟩ := Rf.c7
  refine h.ok sc_cost (fun vs H Q E h => ?_) (fun f cdv A outer s H vs Q E hr h => ?_)
  · obtain ⟨H0, p, s, rfl, _⟩ := h; rfl
  · obtain ⟨H0, p, st, rfl, ca, q⟩ := h
    obtain ⟨dx, ev, l, pr, vs, c⟩ := id ca
    refine ⟨_, pss_cons (ps_if (pt_not (pt_truth (pe_fld (pv 0) rfl) (by intro _; rfl))) (pss_one (ps_ret (pe_lst (pa_cons (pe_glob (v := .int (-7)) rfl c7 ⟨_, rfl⟩) pa_nil)))) pss_nil)
      (pss_cons (ps_set (i := 1) sc_cost.nd rfl (.inl rfl) (pe_meth0 (pv 0) T.cl m1 G1 (hr.mono (by decide)) b1 .nil pass0))
      (pss_one (ps_ret (pe_lst (pa_cons (pe_call G2 hr rfl g2 k2 b2 .nil pass0 (pa_cons (pv 1) (pa_cons (pe_fld (pv 0) rfl) pa_nil))) (pa_cons (pe_callB call_len_seq (by rfl) B.len PySem.boot_len (pa_cons (pv 1) pa_nil)) pa_nil)))))), ?_⟩
    have es := cost_step st
    have th := c.theme.same priv_same
    obtain ⟨xs, sx, ex⟩ := theme_empty (K := K) th
    refine ⟨_, rfl, p, CC, dx, _, _, rfl, c.obj, T.cl, T.events, cF_ev _ _ _, _, .inl ⟨xs, sx, rfl⟩, ?_⟩
    rw [ex]
    cases he : st.theme.isEmpty with
    | true =>
      rw [he] at es
      refine iteT ⟨(by show 1 ≤ sizeLine; decide), ?_⟩
      exact refuse (by rw [es]; rfl) (Same.refl H) ca q
    | false =>
      rw [he] at es
      refine iteF ?_
      refine ⟨_, rfl, p, dx, _, rfl, c.obj, cF_no _ _ _ (by decide +kernel) (by decide +kernel) (by decide +kernel), H0, p, st, rfl, ca, fun H1 vl s1 nvl vall el e4 => ?_⟩
      have c1 := c.same s1
      refine ⟨_, rfl, _, rfl, p, CC, dx, _, _, rfl, c1.obj, T.cl, T.prices, cF_pr _ _ _, vl, pr, Cp07.voices st, st.table, rfl, vall, by omega, c1.prices.same priv_same, fun H2 s2 => ?_⟩
      obtain ⟨us, hu, hul, _⟩ := id (vall.same s2)
      refine ⟨_, rfl, vl, _, rfl, .inl (SqL.of hu), (by show 2 ≤ sizeLine; decide), fun r hr' => ?_⟩
      refine tell (es.trans rfl) ((s1.trans s2).trans (Same.new hr')) ca q ((s1.trans s2).free hr') ?_
      rw [upd_same, List.length_map, hul]
      rfl
/-! ### round -/
def roundR : List (Int × Int) := [(1, 4096), (2, 6)]
def roundCall (ns : List Int) : Cp07.Call := .round (ns.getD 0 0) (ns.getD 1 0)
def roundVs (s : Cp07.State) (late n : Nat) : List Cp07.Voice := (List.range n).map fun i => (i * late, s.theme)
theorem round_step (s : Cp07.State) (t n : Int) : Cp07.step s (.round t n) = (s, if s.theme.isEmpty then Cp07.just (-7) else if allIn [t, n] roundR = true then ⟨(Cp07.total s.table (roundVs s t.toNat n.toNat) : Int), []⟩ else Cp07.just (-1)) := by
  show (s, if s.theme.isEmpty then Cp07.just (-7) else if !Cp07.isIn 1 4096 t || !Cp07.isIn 2 6 n then Cp07.just (-1) else Cp07.just (Cp07.round s t.toNat n.toNat)) = _
  have e : allIn [t, n] roundR = (Cp07.isIn 1 4096 t && Cp07.isIn 2 6 n) := by
    simp only [allIn, roundR, Cp07.isIn, Bool.and_true]
  rw [e]
  cases Cp07.isIn 1 4096 t <;> cases Cp07.isIn 2 6 n <;> rfl
theorem sc_round : FnScope ["self", "numbers", "voices", "place"] ["self", "numbers"] (defScope s_Canon_show_round) := ⟨rfl, rfl, rfl, by decide +kernel, rfl, by decide +kernel, by decide +kernel⟩
theorem ok_round {CC CP : Addr} (B : Blt mg) (h : HereM K CC "show_round" "Canon.show_round" s_Canon_show_round ["self", "numbers"]) (T : CanC K CC) (Rf : Refusals mg) (cR : CstT K mg "ROUND_RANGES" roundR) (W : Def P w K mg base 2 "all_within" ["numbers", "ranges"] (spAll K)) (L : Def P w K mg base 2 "laid" ["events", "later"] (spLaid K)) (CA : Def P w K mg base 6 "cost_of_all" ["voices", "prices"] (spCostAll CP)) :
    DefM P w K mg base CC 7 "show_round" ["self", "numbers"] (spCall K CC CP (fun ns => ns.length = 2) roundCall) := by
  obtain ⟨f1, fd1, g1, k1, b1, G1⟩ := W
  obtain ⟨f2, fd2, g2, k2, b2, G2⟩ := CA
  obtain ⟨f3, fd3, g3, k3, b3, G3⟩ := L
  obtain ⟨u1, c1⟩ := Rf.c1
  obtain ⟨u7, c7⟩ := Rf.c7
  obtain ⟨ar, mr, hR⟩ := cR
  refine h.ok sc_round (fun vs H Q E h => ?_) (fun f cdv A outer s H vs Q E hr h => ?_)
  · obtain ⟨H0, p, a, s, ns, rfl, _⟩ := h; rfl
  · obtain ⟨H0, p, a, st, ns, rfl, ca, sa, hl, h2, q⟩ := h
    obtain ⟨t, n, rfl⟩ : ∃ t n, ns = [t, n] := by
      match ns, h2 with
      | [t, n], _ => exact ⟨t, n, rfl⟩
    obtain ⟨dx, ev, l, pr, vs, c⟩ := id ca
    refine ⟨_, pss_cons (ps_if (pt_not (pt_truth (pe_fld (pv 0) rfl) (by intro _; rfl))) (pss_one (ps_ret (pe_lst (pa_cons (pe_glob (v := .int (-7)) rfl c7 ⟨_, rfl⟩) pa_nil)))) pss_nil)
      (pss_cons (ps_if (pt_not (pt_val (pe_call G1 (hr.mono (by decide)) rfl g1 k1 b1 .nil pass0 (pa_cons (pv 1) (pa_cons (pe_glob (v := .ref ar) rfl mr rfl) pa_nil))))) (pss_one (ps_ret (pe_lst (pa_cons (pe_glob (v := .int (-1)) rfl c1 ⟨_, rfl⟩) pa_nil)))) pss_nil)
      (pss_cons (ps_setLc (i := 2) (own := [("place", 3)]) (g := gName 3) (tt := tYes) rfl sc_round.nd rfl rfl (sw_true rfl rfl rfl (by decide +kernel)) (pi_range1 (by rfl) B.range (pa_cons (pe_ix ix_list (pv 1) pe_int (fun _ _ => rfl)) pa_nil))
        (blkOk_by (N := ["self", "numbers", "voices", "place"]) (sc := defScope s_Canon_show_round) (by decide +kernel))
        (fun _ _ _ _ _ => pg_name (i := 3) sc_round.nd rfl (.inl rfl)) (fun _ _ _ _ _ => pts_nil)
        (fun _ _ _ _ _ => pe_call G3 (hr.mono (by decide)) rfl g3 k3 b3 .nil pass0 (pa_cons (peFld K (pv 0) rfl) (pa_cons (pe_op op_mul (pv 3) (pe_ix (ixL K) (pv 1) pe_int (fun _ _ => rfl))) pa_nil))))
      (pss_one (ps_ret (pe_lst (pa_cons (pe_call G2 hr rfl g2 k2 b2 .nil pass0 (pa_cons (pv 2) (pa_cons (pe_fld (pv 0) rfl) pa_nil))) pa_nil)))))), ?_⟩
    have es := round_step st t n
    have th := c.theme.same priv_same
    obtain ⟨xs, sx, ex⟩ := theme_empty (K := K) th
    refine ⟨_, rfl, p, CC, dx, _, _, rfl, c.obj, T.cl, T.events, cF_ev _ _ _, _, .inl ⟨xs, sx, rfl⟩, ?_⟩
    rw [ex]
    cases he : st.theme.isEmpty with
    | true =>
      rw [he] at es
      refine iteT ⟨(by show 1 ≤ sizeLine; decide), ?_⟩
      exact refuse (c := roundCall [t, n]) (es.trans rfl) (Same.refl H) ca q
    | false =>
      rw [he] at es
      refine iteF ?_
      refine ⟨_, rfl, a, ar, false, true, [t, n], roundR, rfl, rfl, sa, hR H, by decide, fun H1 s1 => ⟨_, rfl, ?_⟩⟩
      cases hin : allIn [t, n] roundR with
      | false =>
        rw [hin] at es
        refine iteT ⟨(by show 1 ≤ sizeLine; decide), ?_⟩
        exact refuse (c := roundCall [t, n]) (es.trans rfl) s1 ca q
      | true =>
        rw [hin] at es
        have rg : (1 ≤ t ∧ t ≤ 4096) ∧ (2 ≤ n ∧ n ≤ 6) := by
          simp only [allIn, roundR, Bool.and_eq_true, decide_eq_true_eq] at hin
          exact ⟨hin.1, hin.2.1⟩
        have es : Cp07.step st (roundCall [t, n]) = (st, ⟨(Cp07.total st.table (roundVs st t.toNat n.toNat) : Int), []⟩) := es
        refine iteF ?_
        have sa1 := s1.seq sa
        refine ⟨_, rfl, a, _, _, _, rfl, rfl, sa1, atI_nat (j := 1) rfl, n, rfl, by omega, by omega, fun D hD => ?_⟩
        have cc := c.same s1
        refine lc_range (lo := 0) (n := n.toNat) (fun i H' => Same H1 H' ∧ ∃ us : List Addr, H' D = some (.lst (us.map V.ref)) ∧ us.length = i ∧ ∀ (j : Nat) (x : Addr), us[j]? = some x → x ≠ D ∧ VoiceAt H' x (j * t.toNat, st.theme)) ⟨Same.new hD, [], upd_same, rfl, fun j x h => by simp at h⟩ ?_ ?_
        · rintro i H' hi ⟨sm, us, hd, hul, hus⟩
          refine ⟨rfl, yes_if ?_⟩
          have c2 := cc.same sm
          refine ⟨_, rfl, p, CC, dx, _, _, rfl, c2.obj, T.cl, T.events, cF_ev _ _ _, _, rfl, _, rfl, a, _, _, _, rfl, rfl, sm.seq sa1, atI_nat (j := 0) rfl, _, _, rfl, rfl, .inl ⟨by omega, by omega⟩, ev, _, st.theme, rfl, TupsT.tupsG (c2.theme.same priv_same), c.few, fun H2 v s2 tv => ?_⟩
          have hD2 : H' v = none := tv.1
          have nvD : v ≠ D := fun z => by rw [z, hd] at hD2; cases hD2
          have tv2 := tv.trk'
          refine ⟨_, s2 _ _ hd, ?_, ?_, us ++ [v], ?_, ?_, fun j x hj => ?_⟩
          · rw [List.length_map, hul]
            exact small1000 (by omega)
          · exact Same.put (sm.trans s2) hD
          · rw [upd_same, List.map_append]
            rfl
          · rw [List.length_append, hul]
            rfl
          · have vk : ∀ (y : Addr) (vv : Cp07.Voice), y ≠ D → VoiceAt H2 y vv → VoiceAt (upd H2 D (.lst (us.map V.ref ++ [V.ref v]))) y vv := fun y vv ny hv => by
              obtain ⟨ts, a1, a2, a3⟩ := hv
              exact ⟨ts, by rw [upd_ne ny]; exact a1, a2, fun i x xs p q => by
                have e := a3 i x xs p q
                rw [upd_ne (ne_of e (s2 _ _ hd) (by intro z; cases z))]
                exact e⟩
            by_cases hjl : j < us.length
            · rw [List.getElem?_append_left hjl] at hj
              obtain ⟨nx, hv⟩ := hus j x hj
              exact ⟨nx, vk x _ nx (hv.same s2)⟩
            · have : j = us.length := by
                have := get_lt hj
                rw [List.length_append, List.length_singleton] at this
                omega
              subst this
              rw [List.getElem?_append_right (Nat.le_refl _), Nat.sub_self] at hj
              cases hj
              refine ⟨nvD, vk v _ nvD ?_⟩
              have et : (((us.length * t.toNat : Nat)) : Int) = (0 + (i : Int)) * t := by
                rw [hul, Int.natCast_mul, Int.toNat_of_nonneg (by omega), Int.zero_add]
              show TupsT H2 v ((laid (((us.length * t.toNat : Nat)) : Int) st.theme).map ev3V)
              rw [et]
              exact tv2
        · rintro H' ⟨sm, us, hd, hul, hus⟩
          have c2 := cc.same sm
          refine ⟨_, rfl, _, rfl, p, CC, dx, _, _, rfl, c2.obj, T.cl, T.prices, cF_pr _ _ _, D, pr, roundVs st t.toNat n.toNat, st.table, rfl, ⟨us, hd, ?_, fun i x v hi hv => ?_⟩, ?_, c2.prices.same priv_same, fun H2 s2 => ⟨(by show 1 ≤ sizeLine; decide), fun r hr' => ?_⟩⟩
          · unfold roundVs
            rw [hul, List.length_map, List.length_range]
          · unfold roundVs at hv
            rw [List.getElem?_map, List.getElem?_range (by rw [← hul]; exact get_lt hi)] at hv
            cases hv
            exact ⟨(hus i x hi).2, c.few⟩
          · unfold roundVs
            rw [List.length_map, List.length_range]
            omega
          · have s4 := (s1.trans sm).trans s2
            refine tell es (s4.trans (Same.new hr')) ca q (s4.free hr') ?_
            rw [upd_same]
            rfl
end
end CW

set_option Elab.async false
set_option linter.all false
set_option maxRecDepth 100000
set_option maxHeartbeats 4000000
/-! the call bad -/
namespace CW
open PySem PySem.Spec PyProof.Rows L2 CWX
/-- addresses of tuples -/
def Tups (H : Hp) (us : List Addr) (xss : List (List V)) : Prop := us.length = xss.length ∧ ∀ (i : Nat) (x : Addr) (xs : List V), us[i]? = some x → xss[i]? = some xs → H x = some (.tup xs)
theorem Tups.nil {H : Hp} : Tups H [] [] := ⟨rfl, fun i x xs h => by simp at h⟩
theorem Tups.snoc {H : Hp} {us : List Addr} {xss : List (List V)} {x : Addr} {xs : List V} (h : Tups H us xss) (hx : H x = some (.tup xs)) : Tups H (us ++ [x]) (xss ++ [xs]) := by
  obtain ⟨h1, h2⟩ := h
  refine ⟨by rw [List.length_append, List.length_append, h1]; rfl, fun i y ys a b => ?_⟩
  by_cases hi : i < us.length
  · rw [List.getElem?_append_left hi] at a
    rw [List.getElem?_append_left (by omega)] at b
    exact h2 i y ys a b
  · have : i = us.length := by
      have := get_lt a
      rw [List.length_append, List.length_singleton] at this
      omega
    subst this
    rw [List.getElem?_append_right (Nat.le_refl _), Nat.sub_self] at a
    rw [List.getElem?_append_right (by omega), h1, Nat.sub_self] at b
    cases a
    cases b
    exact hx
theorem Tups.same {H H' : Hp} {us : List Addr} {xss : List (List V)} (h : Tups H us xss) (e : Same H H') : Tups H' us xss := ⟨h.1, fun i x xs a b => e _ _ (h.2 i x xs a b)⟩
/-! ### what bad answers -/
def badR (n : Int) : List (Int × Int) := [(0, n), (0, n)]
def twoN (x : Nat × Nat) : List Int := [(x.1 : Int), (x.2 : Int)]
def badCall (ns : List Int) : Cp07.Call := .bad (ns.getD 0 0) (ns.getD 1 0)
theorem bad_step (s : Cp07.State) (i j : Int) : Cp07.step s (.bad i j) = (s, if s.theme.isEmpty then Cp07.just (-7) else if allIn [i, j] (badR s.ways.length) = true ∧ i ≠ j then
    ⟨((Cp07.badness s.table ((Cp07.voices s).getD i.toNat (0, [])) ((Cp07.voices s).getD j.toNat (0, []))).length : Int), (Cp07.badness s.table ((Cp07.voices s).getD i.toNat (0, [])) ((Cp07.voices s).getD j.toNat (0, []))).flatMap twoN⟩ else Cp07.just (-1)) := by
  show (s, if s.theme.isEmpty then Cp07.just (-7) else if !Cp07.isIn 0 (s.ways.length : Int) i || (!Cp07.isIn 0 (s.ways.length : Int) j || i == j) then Cp07.just (-1) else
    (⟨((Cp07.badness s.table ((Cp07.voices s).getD (min i j).toNat (0, [])) ((Cp07.voices s).getD (max i j).toNat (0, []))).length : Int), (Cp07.badness s.table ((Cp07.voices s).getD (min i j).toNat (0, [])) ((Cp07.voices s).getD (max i j).toNat (0, []))).flatMap twoN⟩ : Cp07.Ans)) = _
  have e : allIn [i, j] (badR s.ways.length) = (Cp07.isIn 0 (s.ways.length : Int) i && Cp07.isIn 0 (s.ways.length : Int) j) := by
    simp only [allIn, badR, Cp07.isIn, Bool.and_true]
  have eb : Cp07.badness s.table ((Cp07.voices s).getD (min i j).toNat (0, [])) ((Cp07.voices s).getD (max i j).toNat (0, [])) = Cp07.badness s.table ((Cp07.voices s).getD i.toNat (0, [])) ((Cp07.voices s).getD j.toNat (0, [])) := by
    by_cases h : i ≤ j
    · rw [Int.min_eq_left h, Int.max_eq_right h]
    · rw [Int.min_eq_right (by omega), Int.max_eq_left (by omega), badness_swap]
  rw [e, eb]
  by_cases hij : i = j
  · subst hij
    have : (i == i) = true := beq_self_eq_true i
    rw [this]
    simp
  · have : (i == j) = false := beq_eq_false_iff_ne.mpr hij
    rw [this]
    cases Cp07.isIn 0 (s.ways.length : Int) i <;> cases Cp07.isIn 0 (s.ways.length : Int) j <;> simp [hij]
section
variable {P : Program} {w : World} {K : PySem.W.Frag} {mg : Str → Option Value} {base : Heap}
theorem sc_bad : FnScope ["self", "numbers", "voices", "meetings", "bad", "answer", "meeting"] ["self", "numbers"] (defScope s_Canon_show_bad) := ⟨rfl, rfl, rfl, by decide +kernel, rfl, by decide +kernel, by decide +kernel⟩
theorem costs_pos (n : Nat) : decide ((n : Int) > 0) = (n != 0) := by
  by_cases h : n = 0
  · subst h; rfl
  · have : (n != 0) = true := by simp [h]
    rw [this]
    exact decide_eq_true (by omega)
theorem filter_take_succ {α : Type} {l : List α} {f : α → Bool} {i : Nat} {x : α} (h : l[i]? = some x) : (l.take (i + 1)).filter f = if f x = true then (l.take i).filter f ++ [x] else (l.take i).filter f := by
  rw [take_one h, List.filter_append, List.filter_cons, List.filter_nil]
  split
  · rfl
  · rw [List.append_nil]
theorem two_len : ∀ l : List (Nat × Nat), (l.flatMap twoN).length = 2 * l.length
  | [] => rfl
  | e :: l => by
    rw [List.flatMap_cons, List.length_append, List.length_cons, two_len l]
    show 2 + _ = _
    omega
theorem ok_bad {CC CP : Addr} (B : Blt mg) (h : HereM K CC "show_bad" "Canon.show_bad" s_Canon_show_bad ["self", "numbers"]) (T : CanC K CC) (Rf : Refusals mg) (W : Def P w K mg base 2 "all_within" ["numbers", "ranges"] (spAll K)) (Vo : DefM P w K mg base CC 3 "all_voices" ["self"] (spVoices CC CP)) (M : Def P w K mg base 3 "meeting_costs" ["one", "other", "prices"] (spCosts CP)) :
    DefM P w K mg base CC 4 "show_bad" ["self", "numbers"] (spCall K CC CP (fun ns => ns.length = 2) badCall) := by
  obtain ⟨f1, fd1, g1, k1, b1, G1⟩ := W
  obtain ⟨f2, fd2, m2, b2, G2⟩ := Vo
  obtain ⟨f3, fd3, g3, k3, b3, G3⟩ := M
  obtain ⟨u1, c1⟩ := Rf.c1
  obtain ⟨u7, c7⟩ := Rf.c7
  refine h.ok sc_bad (fun vs H Q E h => ?_) (fun f cdv A outer s H vs Q E hr h => ?_)
  · obtain ⟨H0, p, a, s, ns, rfl, _⟩ := h; rfl
  · obtain ⟨H0, p, a, st, ns, rfl, ca, sa, hl, h2, q⟩ := h
    obtain ⟨i, j, rfl⟩ : ∃ i j, ns = [i, j] := by
      match ns, h2 with
      | [i, j], _ => exact ⟨i, j, rfl⟩
    obtain ⟨dx, ev, l, pr, vs, c⟩ := id ca
    refine ⟨_, pss_cons (ps_if (pt_not (pt_truth (pe_fld (pv 0) rfl) (by intro _; rfl))) (pss_one (ps_ret (pe_lst (pa_cons (pe_glob (v := .int (-7)) rfl c7 ⟨_, rfl⟩) pa_nil)))) pss_nil)
      (pss_cons (ps_set (i := 2) sc_bad.nd rfl (.inl rfl) (pe_meth0 (pv 0) T.cl m2 G2 hr b2 .nil pass0))
      (pss_cons (ps_if (PW.pt (pw_or (pt_not (pt_val (pe_call G1 (hr.mono (by decide)) rfl g1 k1 b1 .nil pass0 (pa_cons (pv 1) (pa_cons (pe_op op_rep (pe_lst (pa_cons (pe_tup (pa_cons pe_int (pa_cons (pe_op op_sub (pe_callB call_len_seq (by rfl) B.len PySem.boot_len (pa_cons (pv 2) pa_nil)) pe_int) pa_nil))) pa_nil)) pe_int) pa_nil)))))
          (pw_or1 (pt_cmpR op_eq (pe_ix ix_list (pv 1) pe_int (fun _ _ => rfl)) (pe_ix ix_list (pv 1) pe_int (fun _ _ => rfl)) (nomark _))))) (pss_one (ps_ret (pe_lst (pa_cons (pe_glob (v := .int (-1)) rfl c1 ⟨_, rfl⟩) pa_nil)))) pss_nil)
      (pss_cons (ps_set (i := 3) sc_bad.nd rfl (.inl rfl) (pe_call G3 hr rfl g3 k3 b3 .nil pass0 (pa_cons (pe_ix ix_list (pv 2) (pe_ix ix_list (pv 1) pe_int (fun _ _ => rfl)) (fun _ _ => rfl)) (pa_cons (pe_ix ix_list (pv 2) (pe_ix ix_list (pv 1) pe_int (fun _ _ => rfl)) (fun _ _ => rfl)) (pa_cons (pe_fld (pv 0) rfl) pa_nil)))))
      (pss_cons (ps_setLc (i := 4) (own := [("meeting", 6)]) (g := gName 6) rfl sc_bad.nd rfl rfl (sw_true rfl rfl rfl (by decide +kernel)) (pi_list (pv 3))
        (blkOk_by (N := ["self", "numbers", "voices", "meetings", "bad", "answer", "meeting"]) (sc := defScope s_Canon_show_bad) (by decide +kernel))
        (fun _ _ _ _ _ => pg_name (i := 6) sc_bad.nd rfl (.inl rfl)) (fun _ _ _ _ _ => pts_one (pt_cmpR op_gt (pe_ix (ixT K) (pv 6) pe_int (fun _ _ => rfl)) pe_int (nomark _)))
        (fun _ _ _ _ _ => pv 6))
      (pss_cons (ps_set (i := 5) sc_bad.nd rfl (.inl rfl) (pe_lst (pa_cons (pe_callB call_len_seq (by rfl) B.len PySem.boot_len (pa_cons (pv 4) pa_nil)) pa_nil)))
      (pss_cons (ps_for PassesOwn.never rfl (pi_list (pv 4)) (pg_name (i := 6) sc_bad.nd rfl (.inl rfl))
        (pss_one (ps_expr (pe_bm PySem.F.plainAttrs_list PySem.F.slot_list_extend PySem.F.type_list_extend mt_extT (pv 5) (pa_cons (pv 6) pa_nil)))))
      (pss_one (ps_ret (pv 5))))))))), ?_⟩
    have es := bad_step st i j
    have th := c.theme.same priv_same
    obtain ⟨xs, sx, ex⟩ := theme_empty (K := K) th
    refine ⟨_, rfl, p, CC, dx, _, _, rfl, c.obj, T.cl, T.events, cF_ev _ _ _, _, .inl ⟨xs, sx, rfl⟩, ?_⟩
    rw [ex]
    cases he : st.theme.isEmpty with
    | true =>
      rw [he] at es
      refine iteT ⟨(by show 1 ≤ sizeLine; decide), ?_⟩
      exact refuse (c := badCall [i, j]) (es.trans rfl) (Same.refl H) ca q
    | false =>
      rw [he] at es
      have es : Cp07.step st (badCall [i, j]) = (st, if allIn [i, j] (badR st.ways.length) = true ∧ i ≠ j then
        ⟨((Cp07.badness st.table ((Cp07.voices st).getD i.toNat (0, [])) ((Cp07.voices st).getD j.toNat (0, []))).length : Int), (Cp07.badness st.table ((Cp07.voices st).getD i.toNat (0, [])) ((Cp07.voices st).getD j.toNat (0, []))).flatMap twoN⟩ else Cp07.just (-1)) := es
      refine iteF ?_
      refine ⟨_, rfl, p, dx, _, rfl, c.obj, cF_no _ _ _ (by decide +kernel) (by decide +kernel) (by decide +kernel), H0, p, st, rfl, ca, fun H1 vl s1 nvl vall el e4 => ?_⟩
      have cc := c.same s1
      obtain ⟨us, hu, hul, hus⟩ := id vall
      refine ⟨_, rfl, _, rfl, vl, _, rfl, .inl (SqL.of hu), _, _, rfl, rfl, (by show 2 ≤ sizeLine; decide), fun tt ht => ?_⟩
      refine ⟨(by show 1 ≤ sizeLine; decide), fun ll hll => ?_⟩
      refine ⟨ll, 2, _, rfl, rfl, upd_same, by decide, by decide, (by show 1 * 2 ≤ sizeLine; decide), fun rr hrr => ?_⟩
      have en : (((us.map V.ref).length : Nat) : Int) - 1 = (st.ways.length : Int) := by rw [List.length_map, hul, el]; omega
      have eg : rgV (0, (st.ways.length : Int)) = [V.int 0, V.int ((((us.map V.ref).length : Nat) : Int) - 1)] := by rw [en]; rfl
      have s2 := Same.new (o := .tup [.int 0, .int ((((us.map V.ref).length : Nat) : Int) - 1)]) ht
      have s3 := Same.new (o := .lst [.ref tt]) hll
      have s4 := Same.new (o := .lst (List.replicate (2 : Int).toNat [V.ref tt]).flatten) hrr
      have s14 := s1.trans (s2.trans (s3.trans s4))
      have tg : TupsG false K _ rr ((badR st.ways.length).map rgV) := ⟨[tt, tt], SqL.of upd_same, rfl, fun k x xs h1 h2 => by
        have htt := s4 _ _ (s3 _ _ (upd_same (H := H1) (a := tt) (o := .tup [.int 0, .int ((((us.map V.ref).length : Nat) : Int) - 1)])))
        match k, h1, h2 with
        | 0, h1, h2 => cases h1; cases h2; rw [eg]; exact SqT.of htt
        | 1, h1, h2 => cases h1; cases h2; rw [eg]; exact SqT.of htt
        | _ + 2, h1, _ => simp at h1⟩
      refine ⟨a, rr, false, false, [i, j], badR st.ways.length, rfl, rfl, s14.seq sa, tg, by show 2 ≤ 1000; decide, fun H2 s5 => ⟨_, rfl, ?_⟩⟩
      have s15 := s14.trans s5
      have wrong : ¬ (allIn [i, j] (badR st.ways.length) = true ∧ i ≠ j) → ∀ r, H2 r = none → Q (.ref r) (upd H2 r (.lst [.int (-1)])) := fun hb => refuse (c := badCall [i, j]) (by rw [es, if_neg hb]) s15 ca q
      cases hin : allIn [i, j] (badR st.ways.length) with
      | false => exact iteT (iteT ⟨(by show 1 ≤ sizeLine; decide), wrong (by rw [hin]; simp)⟩)
      | true =>
        have sa2 := s15.seq sa
        refine iteF ⟨_, rfl, a, _, _, _, rfl, rfl, sa2, atI_nat (j := 0) rfl, _, rfl, a, _, _, _, rfl, rfl, sa2, atI_nat (j := 1) rfl, rfl, _, rfl, ?_⟩
        by_cases hij : i = j
        · rw [decide_eq_true (show V.int i = V.int j by rw [hij])]
          exact iteT ⟨(by show 1 ≤ sizeLine; decide), wrong (fun z => z.2 hij)⟩
        rw [decide_eq_false (show ¬ V.int i = V.int j from fun z => hij (by injection z))]
        refine iteF ?_
        rw [if_pos ⟨hin, hij⟩] at es
        have rg : (0 ≤ i ∧ i ≤ st.ways.length) ∧ (0 ≤ j ∧ j ≤ st.ways.length) := by
          simp only [allIn, badR, Bool.and_eq_true, decide_eq_true_eq] at hin
          exact ⟨hin.1, hin.2.1⟩
        obtain ⟨vi, hvi⟩ := get_some (l := Cp07.voices st) (i := i.toNat) (by omega)
        obtain ⟨vj, hvj⟩ := get_some (l := Cp07.voices st) (i := j.toNat) (by omega)
        obtain ⟨ui, hui⟩ := get_some (l := us) (i := i.toNat) (by omega)
        obtain ⟨uj, huj⟩ := get_some (l := us) (i := j.toNat) (by omega)
        have s25 : Same H1 H2 := (s2.trans (s3.trans s4)).trans s5
        obtain ⟨wi, li⟩ := hus _ _ _ hui hvi
        obtain ⟨wj, lj⟩ := hus _ _ _ huj hvj
        have gi : (Cp07.voices st).getD i.toNat (0, []) = vi := by rw [List.getD_eq_getElem?_getD, hvi]; rfl
        have gj : (Cp07.voices st).getD j.toNat (0, []) = vj := by rw [List.getD_eq_getElem?_getD, hvj]; rfl
        rw [gi, gj, badness_mc] at es
        have hu2 := s25 _ _ hu
        have c2 := c.same s15
        refine ⟨_, rfl, _, rfl, a, _, _, _, rfl, rfl, sa2, atI_nat (j := 0) rfl, vl, _, _, _, rfl, rfl, SqL.of hu2, at_of (Int.toNat_of_nonneg rg.1.1).symm (v := V.ref ui) (by rw [List.getElem?_map, hui]; rfl), ?_⟩
        refine ⟨_, rfl, _, rfl, a, _, _, _, rfl, rfl, sa2, atI_nat (j := 1) rfl, vl, _, _, _, rfl, rfl, SqL.of hu2, at_of (Int.toNat_of_nonneg rg.2.1).symm (v := V.ref uj) (by rw [List.getElem?_map, huj]; rfl), ?_⟩
        refine ⟨_, rfl, p, CC, dx, _, _, rfl, c2.obj, T.cl, T.prices, cF_pr _ _ _, ui, uj, pr, vi, vj, st.table, rfl, wi.same s25, wj.same s25, li, lj, c2.prices.same priv_same, fun few H3 pm s6 tn => ?_⟩
        have s16 := s15.trans s6
        obtain ⟨ts, t1, t2, t3⟩ := tn.trk'
        have hml := mc_len st.table vi vj (Cp07.moments vi vj) none
        generalize mc st.table vi vj none (Cp07.moments vi vj) = ms at *
        rw [List.length_map] at t2
        refine ⟨_, rfl, pm, rfl, ⟨_, SqL.of t1⟩, fun D hD => ?_⟩
        refine lc_list (K := K) (a := pm) (xs := ts.map V.ref) (fun k H' => Same H3 H' ∧ ∃ ds : List Addr, H' D = some (.lst (ds.map V.ref)) ∧ Tups H3 ds (((ms.take k).filter fun x => x.2 != 0).map mV)) ⟨Same.new hD, [], upd_same, Tups.nil⟩ (fun k H' _ p => SqL.of (p.1 _ _ t1)) ?_ ?_
        · rintro k x H' hk ⟨sm, ds, hd, tds⟩
          obtain ⟨t, ht', rfl⟩ := get_map hk
          obtain ⟨e, he'⟩ := get_some (l := ms) (i := k) (by have := get_lt ht'; omega)
          have stt := t3 k t (mV e) ht' (by rw [List.getElem?_map, he']; rfl)
          refine ⟨rfl, _, rfl, _, _, _, _, rfl, rfl, SqT.of (sm _ _ stt), atI_nat (j := 1) rfl, _, _, rfl, rfl, _, rfl, ?_⟩
          have kl : ds.length ≤ 32 := by
            rw [tds.1, List.length_map]
            have := List.length_filter_le (fun x : Nat × Nat => x.2 != 0) (ms.take k)
            rw [List.length_take] at this
            omega
          have fs := filter_take_succ (f := fun x : Nat × Nat => x.2 != 0) he'
          rw [costs_pos]
          cases hc : (e.2 != 0) with
          | false =>
            rw [if_neg (by rw [hc]; decide)] at fs
            refine iteF ⟨sm, ds, hd, ?_⟩
            rw [fs]
            exact tds
          | true =>
            rw [if_pos hc] at fs
            refine iteT ⟨_, rfl, _, hd, by rw [List.length_map]; exact small1000 (by omega), Same.put sm hD, ds ++ [t], ?_, ?_⟩
            · rw [upd_same, List.map_append]
              rfl
            · rw [fs, List.map_append]
              exact tds.snoc stt
        · rintro H4 ⟨sm, ds, hd, tds⟩
          rw [List.length_map, t2, List.take_length] at tds
          have hfl : (ms.filter fun x => x.2 != 0).length ≤ 32 := Nat.le_trans (List.length_filter_le _ _) (by omega)
          generalize ms.filter (fun x => x.2 != 0) = fl at *
          have s17 := s16.trans sm
          have dl : ds.length = fl.length := by rw [tds.1, List.length_map]
          refine ⟨_, rfl, D, _, rfl, .inl (SqL.of hd), (by show 1 ≤ sizeLine; decide), fun an han => ?_⟩
          have s8 := Same.new (o := .lst [V.int ((ds.map V.ref).length : Nat)]) han
          refine ⟨_, rfl, D, rfl, ⟨_, SqL.of (s8 _ _ hd)⟩, for_list (K := K) (a := D) (xs := ds.map V.ref)
            (fun k σ H' => ∃ v, σ = [some (.ref p), some (.ref a), some (.ref vl), some (.ref pm), some (.ref D), some (.ref an), v] ∧ Same H4 H' ∧ H' an = some (.lst (((fl.length : Int) :: (fl.take k).flatMap twoN).map V.int))) ⟨none, rfl, s8, ?_⟩ (fun k σ H' _ ⟨_, _, sm', _⟩ => SqL.of (sm' _ _ hd)) ?_ ?_⟩
          · rw [upd_same, List.length_map, dl]
            rfl
          · rintro k x σ H' hk ⟨v, rfl, sm', hp'⟩
            obtain ⟨t, ht', rfl⟩ := get_map hk
            obtain ⟨e, he'⟩ := get_some (l := fl) (i := k) (by have := get_lt ht'; omega)
            have stt := sm' _ _ (sm _ _ (tds.2 k t (mV e) ht' (by rw [List.getElem?_map, he']; rfl)))
            refine ⟨_, rfl, .inl ⟨rfl, _, SqL.of hp'⟩, _, rfl, an, t, _, _, rfl, rfl, hp', SqT.of stt, ?_, ?_⟩
            · have f1 := two_len (fl.take k)
              have f3 : (fl.take k).length ≤ fl.length := by rw [List.length_take]; omega
              have e2 : (mV e).length = 2 := rfl
              rw [List.length_map, List.length_cons, e2]
              exact Nat.le_of_lt (small1000 (by omega))
            · refine ⟨_, rfl, Same.put sm' han, ?_⟩
              rw [upd_same, take_one he', List.flatMap_append]
              simp [mV, natV, twoN]
          · rintro σ H' ⟨v, rfl, sm', hp'⟩
            rw [List.length_map, dl, List.take_length] at hp'
            exact ⟨_, rfl, tell es (s17.trans sm') ca q (s17.free han) hp'⟩
end
end CW

set_option Elab.async false
set_option linter.all false
set_option maxRecDepth 100000
set_option maxHeartbeats 4000000
/-! what find is handed -/
namespace CW
open PySem PySem.Spec PyProof.Rows L2 CWX
structure Sr where
  most : Int
  a : Int
  b : Int
  d : Int
  u : Int
  v : Int
structure SrFine (z : Sr) : Prop where
  most : 0 ≤ z.most ∧ z.most ≤ 10000
  a : 0 ≤ z.a ∧ z.a ≤ 4096
  b : z.a ≤ z.b ∧ z.b ≤ 4096
  d : 1 ≤ z.d ∧ z.d ≤ 4096
  u : -28 ≤ z.u ∧ z.u ≤ 28
  v : z.u ≤ z.v ∧ z.v ≤ 28
def searchR : List (Int × Int) := [(0, 10000), (0, 4096), (0, 4096), (1, 4096), (-28, 28), (-28, 28)]
def Sr.ns (z : Sr) : List Int := [z.most, z.a, z.b, z.d, z.u, z.v]
theorem search_in (z : Sr) : SrFine z ↔ allIn z.ns searchR = true ∧ ¬ z.b < z.a ∧ ¬ z.v < z.u := by
  simp only [Sr.ns, allIn, searchR, Bool.and_eq_true, decide_eq_true_eq, Bool.and_true]
  constructor
  · rintro ⟨h1, h2, h3, h4, h5, h6⟩
    exact ⟨⟨h1, h2, by omega, h4, h5, by omega⟩, by omega, by omega⟩
  · rintro ⟨⟨h1, h2, h3, h4, h5, h6⟩, h7, h8⟩
    exact ⟨h1, h2, by omega, h4, h5, by omega⟩
/-- how late, how high -/
def Sr.nl (z : Sr) : Nat := ((z.b - z.a) / z.d + 1).toNat
def Sr.nu (z : Sr) : Nat := (z.v - z.u + 1).toNat
def Sr.lates (z : Sr) : List Int := (List.range z.nl).map fun (k : Nat) => z.a + (k : Int) * z.d
def Sr.ups (z : Sr) : List Int := (List.range z.nu).map fun (k : Nat) => z.u + (k : Int)
section
variable {P : Program} {w : World} {K : PySem.W.Frag} {mg : Str → Option Value} {base : Heap}
/-- a tuple of tuples of numbers, written -/
def CstS (K : PySem.W.Frag) (mg : Str → Option Value) (x : Str) (xss : List (List Int)) : Prop := ∃ a, mg x = some (.ref a) ∧ ∀ H, TupsG true K H a (xss.map fun l => l.map V.int)
def sF (z : Sr) : List (Str × V) := [("most", .int z.most), ("first_later", .int z.a), ("last_later", .int z.b), ("later_step", .int z.d), ("lowest", .int z.u), ("highest", .int z.v)]
def SrAt (C : Addr) (H : Hp) (x : Addr) (z : Sr) : Prop := ∃ dx, H x = some (.ins C dx (sF z))
theorem SrAt.same {C : Addr} {H H' : Hp} {x : Addr} {z : Sr} (h : SrAt C H x z) (e : Same H H') : SrAt C H' x z := by
  obtain ⟨dx, h⟩ := h
  exact ⟨dx, e _ _ h⟩
theorem sF_most (z : Sr) : (sF z).lookup ("most" : Str) = some (.int z.most) := lk_here
theorem sF_a (z : Sr) : (sF z).lookup ("first_later" : Str) = some (.int z.a) := (lk_past (by decide +kernel)).trans lk_here
theorem sF_b (z : Sr) : (sF z).lookup ("last_later" : Str) = some (.int z.b) := (lk_past (by decide +kernel)).trans ((lk_past (by decide +kernel)).trans lk_here)
theorem sF_d (z : Sr) : (sF z).lookup ("later_step" : Str) = some (.int z.d) := (lk_past (by decide +kernel)).trans ((lk_past (by decide +kernel)).trans ((lk_past (by decide +kernel)).trans lk_here))
theorem sF_u (z : Sr) : (sF z).lookup ("lowest" : Str) = some (.int z.u) := (lk_past (by decide +kernel)).trans ((lk_past (by decide +kernel)).trans ((lk_past (by decide +kernel)).trans ((lk_past (by decide +kernel)).trans lk_here)))
theorem sF_v (z : Sr) : (sF z).lookup ("highest" : Str) = some (.int z.v) := (lk_past (by decide +kernel)).trans ((lk_past (by decide +kernel)).trans ((lk_past (by decide +kernel)).trans ((lk_past (by decide +kernel)).trans ((lk_past (by decide +kernel)).trans lk_here))))
structure SrC (K : PySem.W.Frag) (C : Addr) : Prop where
  cl : Cls K C
  most : NoAttr K C "most"
  a : NoAttr K C "first_later"
  b : NoAttr K C "last_later"
  d : NoAttr K C "later_step"
  u : NoAttr K C "lowest"
  v : NoAttr K C "highest"
def sf1 (z : Sr) : List (Str × V) := [("most", .int z.most)]
def sf2 (z : Sr) : List (Str × V) := [("most", .int z.most), ("first_later", .int z.a)]
def sf3 (z : Sr) : List (Str × V) := [("most", .int z.most), ("first_later", .int z.a), ("last_later", .int z.b)]
def sf4 (z : Sr) : List (Str × V) := [("most", .int z.most), ("first_later", .int z.a), ("last_later", .int z.b), ("later_step", .int z.d)]
def sf5 (z : Sr) : List (Str × V) := [("most", .int z.most), ("first_later", .int z.a), ("last_later", .int z.b), ("later_step", .int z.d), ("lowest", .int z.u)]
theorem sf2_eq (z : Sr) : putF "first_later" (.int z.a) (sf1 z) = sf2 z := put_new (by simp [sf1]; decide +kernel)
theorem sf3_eq (z : Sr) : putF "last_later" (.int z.b) (sf2 z) = sf3 z := put_new (by simp [sf2]; decide +kernel)
theorem sf4_eq (z : Sr) : putF "later_step" (.int z.d) (sf3 z) = sf4 z := put_new (by simp [sf3]; decide +kernel)
theorem sf5_eq (z : Sr) : putF "lowest" (.int z.u) (sf4 z) = sf5 z := put_new (by simp [sf4]; decide +kernel)
theorem sf6_eq (z : Sr) : putF "highest" (.int z.v) (sf5 z) = sF z := put_new (by simp [sf5]; decide +kernel)
/-! ### Search -/
def spSrInit (K : PySem.W.Frag) (C : Addr) : Sp := fun vs H Q _ => ∃ (p a dx : Addr) (z : Sr), vs = [.ref p, .ref a] ∧ H p = some (.ins C dx []) ∧ SqL K H a (z.ns.map V.int) ∧
  ∀ H' : Hp, SrAt C H' p z → (∀ b o, H b = some o → b ≠ p → H' b = some o) → Q .non H'
theorem sc_sr_init : FnScope ["self", "numbers"] ["self", "numbers"] (defScope s_Search_init) := ⟨rfl, rfl, rfl, by decide +kernel, rfl, by decide +kernel, by decide +kernel⟩
theorem ok_sr_init {C : Addr} (h : HereI K mg C "Search" "Search.__init__" s_Search_init ["self", "numbers"]) (T : SrC K C) : DefI P w K mg base C 1 "Search" ["self", "numbers"] (spSrInit K C) := by
  refine h.ok sc_sr_init (fun vs H Q E h => ?_) (fun f cdv A outer s H vs Q E hr h => ?_)
  · obtain ⟨p, a, dx, z, rfl, _⟩ := h; rfl
  · obtain ⟨p, a, dx, z, rfl, hp, sa, q⟩ := h
    refine ⟨_, pss_cons (ps_fld (pv 0) (pe_ix ix_list (pv 1) pe_int (fun _ _ => rfl)) rfl) (pss_cons (ps_fld (pv 0) (pe_ix ix_list (pv 1) pe_int (fun _ _ => rfl)) rfl)
      (pss_cons (ps_fld (pv 0) (pe_ix ix_list (pv 1) pe_int (fun _ _ => rfl)) rfl) (pss_cons (ps_fld (pv 0) (pe_ix ix_list (pv 1) pe_int (fun _ _ => rfl)) rfl)
      (pss_cons (ps_fld (pv 0) (pe_ix ix_list (pv 1) pe_int (fun _ _ => rfl)) rfl) (pss_one (ps_fld (pv 0) (pe_ix ix_list (pv 1) pe_int (fun _ _ => rfl)) rfl)))))), ?_⟩
    have s1 := seq_ins (o := .ins C dx (sf1 z)) hp sa
    refine ⟨_, rfl, a, _, _, _, rfl, rfl, sa, atI_nat (j := 0) rfl, _, rfl, p, C, dx, _, rfl, hp, T.cl, T.most, (by show 0 < 1000; decide), ?_⟩
    have s2 := seq_ins (o := .ins C dx (sf2 z)) upd_same s1
    refine ⟨_, rfl, a, _, _, _, rfl, rfl, s1, atI_nat (j := 1) rfl, _, rfl, p, C, dx, sf1 z, rfl, upd_same, T.cl, T.a, (by show 1 < 1000; decide), ?_⟩
    rw [sf2_eq]
    have s3 := seq_ins (o := .ins C dx (sf3 z)) upd_same s2
    refine ⟨_, rfl, a, _, _, _, rfl, rfl, s2, atI_nat (j := 2) rfl, _, rfl, p, C, dx, sf2 z, rfl, upd_same, T.cl, T.b, (by show 2 < 1000; decide), ?_⟩
    rw [sf3_eq]
    have s4 := seq_ins (o := .ins C dx (sf4 z)) upd_same s3
    refine ⟨_, rfl, a, _, _, _, rfl, rfl, s3, atI_nat (j := 3) rfl, _, rfl, p, C, dx, sf3 z, rfl, upd_same, T.cl, T.d, (by show 3 < 1000; decide), ?_⟩
    rw [sf4_eq]
    have s5 := seq_ins (o := .ins C dx (sf5 z)) upd_same s4
    refine ⟨_, rfl, a, _, _, _, rfl, rfl, s4, atI_nat (j := 4) rfl, _, rfl, p, C, dx, sf4 z, rfl, upd_same, T.cl, T.u, (by show 4 < 1000; decide), ?_⟩
    rw [sf5_eq]
    refine ⟨_, rfl, a, _, _, _, rfl, rfl, s5, atI_nat (j := 5) rfl, _, rfl, p, C, dx, sf5 z, rfl, upd_same, T.cl, T.v, (by show 5 < 1000; decide), ?_⟩
    rw [sf6_eq]
    exact q _ ⟨dx, upd_same⟩ fun c ob e hc => by
      rw [upd_ne hc, upd_ne hc, upd_ne hc, upd_ne hc, upd_ne hc, upd_ne hc]
      exact e
/-! ### read_search -/
def spReadSr (K : PySem.W.Frag) (C : Addr) : Sp := fun vs H Q _ => ∃ (a : Addr) (z : Sr), vs = [.ref a] ∧ SqL K H a (z.ns.map V.int) ∧
  (¬ SrFine z → ∀ H', Same H H' → Q .non H') ∧ (SrFine z → ∀ H' p, Same H H' → SrAt C H' p z → Q (.ref p) H')
theorem sc_read_sr : FnScope ["numbers", "search"] ["numbers"] (defScope s_read_search) := ⟨rfl, rfl, rfl, by decide +kernel, rfl, by decide +kernel, by decide +kernel⟩
theorem ok_read_sr {C : Addr} (h : Here K mg "read_search" s_read_search ["numbers"]) (T : SrC K C) (cS : CstT K mg "SEARCH_RANGES" searchR) (W : Def P w K mg base 2 "all_within" ["numbers", "ranges"] (spAll K)) (I : DefI P w K mg base C 1 "Search" ["self", "numbers"] (spSrInit K C)) :
    Def P w K mg base 3 "read_search" ["numbers"] (spReadSr K C) := by
  obtain ⟨f2, fd2, g2, k2, b2, G2⟩ := W
  obtain ⟨gC, fI, fdI, M, bI, GI⟩ := I
  obtain ⟨ar, mr, hR⟩ := cS
  refine h.ok sc_read_sr (fun vs H Q E h => ?_) (fun f cdv A outer s H vs Q E hr h => ?_)
  · obtain ⟨a, z, rfl, _⟩ := h; rfl
  · obtain ⟨a, z, rfl, sa, qN, qS⟩ := h
    refine ⟨_, pss_cons (ps_if (pt_not (pt_val (pe_call G2 hr rfl g2 k2 b2 .nil pass0 (pa_cons (pv 0) (pa_cons (pe_glob (v := .ref ar) rfl mr rfl) pa_nil))))) (pss_one (ps_ret pe_non)) pss_nil)
      (pss_cons (ps_set (i := 1) sc_read_sr.nd rfl (.inl rfl) (pe_make M GI hr rfl gC bI .nil pass0 (pa_cons (pv 0) pa_nil)))
      (pss_cons (ps_if (PW.pt (pw_or (pt_cmpR op_lt (pe_fld (pv 1) rfl) (pe_fld (pv 1) rfl) (nomark _)) (pw_or1 (pt_cmpR op_lt (pe_fld (pv 1) rfl) (pe_fld (pv 1) rfl) (nomark _))))) (pss_one (ps_ret pe_non)) pss_nil)
      (pss_one (ps_ret (pv 1))))), ?_⟩
    have si := search_in z
    refine ⟨_, rfl, a, ar, false, true, z.ns, searchR, rfl, rfl, sa, hR H, by decide, fun H1 s1 => ⟨_, rfl, ?_⟩⟩
    cases ca : allIn z.ns searchR with
    | false => exact iteT (qN (fun f => by rw [ca] at si; exact absurd (si.mp f).1 (by decide)) H1 s1)
    | true =>
      refine iteF ?_
      refine ⟨_, rfl, fun x dx nx nd ne => ?_⟩
      have s2 : Same H1 (upd (upd H1 dx (.own x)) x (.ins C dx [])) := Same.new' (Same.new nd) (by rw [upd_ne ne.symm]; exact nx)
      refine ⟨x, a, dx, z, rfl, upd_same, (s1.trans s2).seq sa, fun H2 W2 kp => ⟨rfl, ?_⟩⟩
      have sm := s1.trans (Same.made nx nd kp)
      obtain ⟨dz, hz⟩ := id W2
      refine ⟨_, rfl, x, C, dz, _, _, rfl, hz, T.cl, T.b, sF_b z, _, rfl, x, C, dz, _, _, rfl, hz, T.cl, T.a, sF_a z, _, _, rfl, rfl, _, rfl, ?_⟩
      by_cases h1 : z.b < z.a
      · rw [decide_eq_true h1]
        exact iteT (iteT (qN (fun f => (si.mp f).2.1 h1) H2 sm))
      · rw [decide_eq_false h1]
        refine iteF ⟨_, rfl, x, C, dz, _, _, rfl, hz, T.cl, T.v, sF_v z, _, rfl, x, C, dz, _, _, rfl, hz, T.cl, T.u, sF_u z, _, _, rfl, rfl, _, rfl, ?_⟩
        by_cases h2 : z.v < z.u
        · rw [decide_eq_true h2]
          exact iteT (qN (fun f => (si.mp f).2.2 h2) H2 sm)
        · rw [decide_eq_false h2]
          exact iteF ⟨_, rfl, qS (si.mpr ⟨ca, h1, h2⟩) H2 x sm W2⟩
/-! ### has_too_many_ways -/
def spMany (C : Addr) : Sp := fun vs H Q _ => ∃ (x : Addr) (z : Sr), vs = [.ref x] ∧ SrAt C H x z ∧ SrFine z ∧ Q (.bl (decide (((z.b - z.a) / z.d + 1) * (z.v - z.u + 1) * 12 > 400))) H
theorem sc_many : FnScope ["search", "laters", "highers"] ["search"] (defScope s_has_too_many_ways) := ⟨rfl, rfl, rfl, by decide +kernel, rfl, by decide +kernel, by decide +kernel⟩
theorem div_bound {a b d : Int} (ha : 0 ≤ a) (hab : a ≤ b) (hb : b ≤ 4096) (hd : 1 ≤ d) : 0 ≤ (b - a) / d ∧ (b - a) / d ≤ 4096 := by
  refine ⟨Int.ediv_nonneg (by omega) (by omega), ?_⟩
  have h1 : (b - a) / d ≤ b - a := Int.ediv_le_self _ (by omega)
  omega
theorem ok_many {C : Addr} (B : Blt mg) (h : Here K mg "has_too_many_ways" s_has_too_many_ways ["search"]) (T : SrC K C) (cS : CstS K mg "SHAPES" shapes) (cM : CstI mg "MOST_WAYS" 400) : Def P w K mg base 1 "has_too_many_ways" ["search"] (spMany C) := by
  obtain ⟨as, ms, hS⟩ := cS
  obtain ⟨um, mm⟩ := cM
  refine h.ok sc_many (fun vs H Q E h => ?_) (fun f cdv A outer s H vs Q E hr h => ?_)
  · obtain ⟨x, z, rfl, _⟩ := h; rfl
  · obtain ⟨x, z, rfl, ⟨dz, hz⟩, fz, q⟩ := h
    refine ⟨_, pss_cons (ps_set (i := 1) sc_many.nd rfl (.inl rfl) (pe_op op_add (pe_op op_fdiv (pe_op op_sub (pe_fld (pv 0) rfl) (pe_fld (pv 0) rfl)) (pe_fld (pv 0) rfl)) pe_int))
      (pss_cons (ps_set (i := 2) sc_many.nd rfl (.inl rfl) (pe_op op_add (pe_op op_sub (pe_fld (pv 0) rfl) (pe_fld (pv 0) rfl)) pe_int))
      (pss_one (ps_ret (pe_cmpR op_gt (pe_op op_mul (pe_op op_mul (pv 1) (pv 2)) (pe_callB call_len_seq (by rfl) B.len PySem.boot_len (pa_cons (pe_glob (v := .ref as) rfl ms rfl) pa_nil))) (pe_glob (v := .int 400) rfl mm ⟨_, rfl⟩) (nomark _))))), ?_⟩
    obtain ⟨ts, t1, t2, _⟩ := hS H
    have b1 := div_bound fz.a.1 fz.b.1 fz.b.2 fz.d.1
    have fd := fz.d
    have fu := fz.u
    have fv := fz.v
    refine ⟨_, rfl, x, C, dz, _, _, rfl, hz, T.cl, T.b, sF_b z, _, rfl, x, C, dz, _, _, rfl, hz, T.cl, T.a, sF_a z, _, _, rfl, rfl, _, rfl, x, C, dz, _, _, rfl, hz, T.cl, T.d, sF_d z, _, _, rfl, rfl, ⟨by omega, by omega⟩, _, _, rfl, rfl, ?_⟩
    refine ⟨_, rfl, x, C, dz, _, _, rfl, hz, T.cl, T.v, sF_v z, _, rfl, x, C, dz, _, _, rfl, hz, T.cl, T.u, sF_u z, _, _, rfl, rfl, _, _, rfl, rfl, ?_⟩
    refine ⟨_, rfl, _, rfl, _, _, rfl, rfl, .inl ⟨by omega, by omega⟩, as, _, rfl, .inr t1, _, _, rfl, rfl, .inr ⟨by rw [List.length_map, t2]; decide, by rw [List.length_map, t2]; decide⟩, _, _, rfl, rfl, ?_⟩
    have e12 : (((ts.map V.ref).length : Nat) : Int) = 12 := by rw [List.length_map, t2]; rfl
    rw [e12]
    exact q
end
end CW

set_option Elab.async false
set_option linter.all false
set_option maxRecDepth 100000
set_option maxHeartbeats 4000000
/-! ways that find tries -/
namespace CW
open PySem PySem.Spec PyProof.Rows L2 CWX
section
variable {P : Program} {w : World} {K : PySem.W.Frag} {mg : Str → Option Value} {base : Heap}
theorem catT (K : PySem.W.Frag) {X : Cx} (h : X.K = K := by rfl) : OpR X (binaryOp .Add) (rCatT K) := by
  subst h
  exact op_catT
/-- a list of new tuples put behind another -/
theorem TupsN.ext {H H1 H2 : Hp} {p D : Addr} {xss yss : List (List V)} {ys zs : List V} (h : TupsN H H1 p xss) (sH : Same H H1) (s : Same H1 H2) (h2 : TupsN H1 H2 D yss) (e1 : H2 p = some (.lst ys)) (e2 : H2 D = some (.lst zs)) : TupsN H (upd H2 p (.lst (ys ++ zs))) p (xss ++ yss) := by
  obtain ⟨h0, ts, a1, a2, a3⟩ := h.keep s
  obtain ⟨d0, ds, b1, b2, b3⟩ := h2
  rw [e1] at a1
  rw [e2] at b1
  obtain rfl : ys = ts.map V.ref := by injection a1 with a1; injection a1
  obtain rfl : zs = ds.map V.ref := by injection b1 with b1; injection b1
  have np : ∀ b ws, H2 b = some (.tup ws) → b ≠ p := fun b ws q => ne_of q e1 (by intro z; cases z)
  refine ⟨h0, ts ++ ds, ?_, ?_, fun i x zs c1 c2 => ?_⟩
  · rw [upd_same, List.map_append]
  · rw [List.length_append, List.length_append, a2, b2]
  · by_cases hi : i < ts.length
    · rw [List.getElem?_append_left hi] at c1
      rw [List.getElem?_append_left (by omega)] at c2
      obtain ⟨q1, q2⟩ := a3 i x zs c1 c2
      exact ⟨q1, by rw [upd_ne (np _ _ q2)]; exact q2⟩
    · rw [List.getElem?_append_right (by omega)] at c1
      rw [List.getElem?_append_right (by omega), ← a2] at c2
      obtain ⟨q1, q2⟩ := b3 _ x zs c1 c2
      exact ⟨sH.free q1, by rw [upd_ne (np _ _ q2)]; exact q2⟩
def intsV (l : List Int) : List V := l.map V.int
theorem range_step {a b d : Int} (ha : 0 ≤ a) (hab : a ≤ b) (hb : b ≤ 4096) (hd : 1 ≤ d) (hd2 : d ≤ 4096) : RgC a (b + 1) d ((b - a) / d + 1).toNat := by
  have b1 := div_bound ha hab hb hd
  have e : Builtin.Range.rangeSize a (b + 1) d = (b - a) / d + 1 := by
    unfold Builtin.Range.rangeSize
    rw [if_pos (by omega), if_pos (by omega)]
    congr 2
    omega
  refine ⟨by omega, by omega, ?_, by rw [e]; omega⟩
  unfold Builtin.Range.small
  rw [e]
  simp only [Builtin.Range.rangeFitsLong, Bool.and_eq_true, Bool.or_eq_true, decide_eq_true_eq, beq_iff_eq, show d > 0 by omega, if_true]
  omega
def spTry (C : Addr) : Sp := fun vs H Q _ => ∃ (x : Addr) (z : Sr), vs = [.ref x] ∧ SrAt C H x z ∧ SrFine z ∧ ∀ H' p, Same H H' → TupsN H H' p ((triedN z.lates z.ups).map intsV) → Q (.ref p) H'
theorem sc_try : FnScope ["search", "ways", "later", "higher", "shape"] ["search"] (defScope s_ways_to_try) := ⟨rfl, rfl, rfl, by decide +kernel, rfl, by decide +kernel, by decide +kernel⟩
theorem shape_len : ∀ l ∈ shapes, l.length = 3 := by decide
theorem ups_len (z : Sr) : z.ups.length = z.nu := by unfold Sr.ups; rw [List.length_map, List.length_range]
theorem lates_len (z : Sr) : z.lates.length = z.nl := by unfold Sr.lates; rw [List.length_map, List.length_range]
theorem lates_at (z : Sr) {k : Nat} (h : k < z.nl) : z.lates[k]? = some (z.a + (k : Int) * z.d) := by
  unfold Sr.lates
  rw [List.getElem?_map, List.getElem?_range h]
  rfl
theorem ups_at (z : Sr) {k : Nat} (h : k < z.nu) : z.ups[k]? = some (z.u + (k : Int)) := by
  unfold Sr.ups
  rw [List.getElem?_map, List.getElem?_range h]
  rfl
theorem triedU_len (t : Int) (us : List Int) : (triedU t us).length = us.length * 12 := by
  unfold triedU
  rw [List.length_flatMap]
  have : (us.map fun u => (shapes.map fun s => [t, u] ++ s).length) = us.map fun _ => 12 := rfl
  rw [this]
  exact sum_twelve us
theorem fine_counts {z : Sr} (f : SrFine z) : z.nl ≤ 4097 ∧ z.nu ≤ 57 := by
  have b1 := div_bound f.a.1 f.b.1 f.b.2 f.d.1
  have fu := f.u
  have fv := f.v
  unfold Sr.nl Sr.nu
  omega
theorem room_for {n m k : Nat} (h1 : n ≤ 4097) (h2 : m ≤ 57) (h3 : k ≤ 57) : n * m * 12 + k * 12 + 100 ≤ sizeLine := by
  have h := Nat.mul_le_mul h1 h2
  have l : (4097 * 57 * 12 + 57 * 12 + 100 : Nat) ≤ sizeLine := by decide
  omega
theorem ok_try {C : Addr} (B : Blt mg) (h : Here K mg "ways_to_try" s_ways_to_try ["search"]) (T : SrC K C) (cS : CstS K mg "SHAPES" shapes) : Def P w K mg base 1 "ways_to_try" ["search"] (spTry C) := by
  obtain ⟨as, ms, hS⟩ := cS
  refine h.ok sc_try (fun vs H Q E h => ?_) (fun f cdv A outer s H vs Q E hr h => ?_)
  · obtain ⟨x, z, rfl, _⟩ := h; rfl
  · obtain ⟨x, z, rfl, ⟨dz, hz⟩, fz, q⟩ := h
    refine ⟨_, pss_cons (ps_set (i := 1) sc_try.nd rfl (.inl rfl) (pe_lst pa_nil))
      (pss_cons (ps_for PassesOwn.never rfl (pi_range3 (by rfl) B.range (pa_cons (pe_fld (pv 0) rfl) (pa_cons (pe_op op_add (pe_fld (pv 0) rfl) pe_int) (pa_cons (pe_fld (pv 0) rfl) pa_nil)))) (pg_name (i := 2) sc_try.nd rfl (.inr rfl))
        (pss_one (ps_for PassesOwn.never rfl (pi_range2 (by rfl) B.range (pa_cons (pe_fld (pv 0) rfl) (pa_cons (pe_op op_add (pe_fld (pv 0) rfl) pe_int) pa_nil))) (pg_name (i := 3) sc_try.nd rfl (.inr rfl))
          (pss_one (ps_expr (pe_bm PySem.F.plainAttrs_list PySem.F.slot_list_extend PySem.F.type_list_extend mt_extend (pv 1) (pa_cons
            (pe_lc (own := [("shape", 4)]) (g := gName 4) (tt := tYes) rfl sc_try.nd (pi_tup (pe_glob (v := .ref as) rfl ms rfl)) (blkOk_by (N := ["search", "ways", "later", "higher", "shape"]) (sc := defScope s_ways_to_try) (by decide +kernel))
              (fun _ _ _ _ _ => pg_name (i := 4) sc_try.nd rfl (.inl rfl)) (fun _ _ _ _ _ => pts_nil)
              (fun _ _ _ _ _ => pe_op (catT K) (pe_tup (pa_cons (pv 2) (pa_cons (pv 3) pa_nil))) (pv 4))) pa_nil)))))))
      (pss_one (ps_ret (pv 1)))), ?_⟩
    obtain ⟨ln, un⟩ := fine_counts fz
    refine ⟨Nat.zero_le _, fun p hp => ?_⟩
    have s0 := Same.new (o := .lst []) hp
    have hz0 := s0 _ _ hz
    refine ⟨_, rfl, x, C, dz, _, _, rfl, hz0, T.cl, T.a, sF_a z, _, rfl, x, C, dz, _, _, rfl, hz0, T.cl, T.b, sF_b z, _, _, rfl, rfl, _, rfl, x, C, dz, _, _, rfl, hz0, T.cl, T.d, sF_d z, z.a, z.b + 1, z.d, z.nl, rfl, range_step fz.a.1 fz.b.1 fz.b.2 fz.d.1 fz.d.2,
      for_rangeC (lo := z.a) (c := z.d) (n := z.nl) (fun k σ H' => ∃ o1 o2, σ = [some (.ref x), some (.ref p), o1, o2, none] ∧ Same H H' ∧ TupsN H H' p ((triedN (z.lates.take k) z.ups).map intsV)) ⟨none, none, rfl, s0, TupsN.nil hp upd_same⟩ ?_ ?_⟩
    · rintro k σ H1 hk ⟨o1, o2, rfl, s1, tn1⟩
      have hz1 := s1 _ _ hz
      have fu := fz.u
      have fv := fz.v
      have eu : (z.v + 1 - z.u).toNat = z.nu := by unfold Sr.nu; congr 1; omega
      refine ⟨_, rfl, x, C, dz, _, _, rfl, hz1, T.cl, T.u, sF_u z, _, rfl, x, C, dz, _, _, rfl, hz1, T.cl, T.v, sF_v z, _, _, rfl, rfl, z.u, z.v + 1, rfl, ⟨by omega, by omega, by omega, by omega⟩, ?_⟩
      rw [eu]
      refine for_range (lo := z.u) (n := z.nu) (fun m σ H' => ∃ o2, σ = [some (.ref x), some (.ref p), some (.int (z.a + (k : Nat) * z.d)), o2, none] ∧ Same H H' ∧ TupsN H H' p ((triedN (z.lates.take k) z.ups ++ triedU (z.a + (k : Nat) * z.d) (z.ups.take m)).map intsV)) ⟨o2, rfl, s1, ?_⟩ ?_ ?_
      · show TupsN H H1 p ((triedN (z.lates.take k) z.ups ++ []).map intsV)
        rw [List.append_nil]
        exact tn1
      · rintro m σ H2 hm ⟨o3, rfl, s2, tn2⟩
        obtain ⟨ys, y1, y2⟩ := tn2.at
        refine ⟨_, rfl, .inl ⟨rfl, _, SqL.of y1⟩, ?_⟩
        obtain ⟨ts, t1, t2, t3⟩ := hS H2
        rw [List.length_map] at t2
        refine ⟨as, rfl, ⟨_, t1⟩, fun D hD => ?_⟩
        refine lc_tup (K := K) (a := as) (xs := ts.map V.ref) (fun i H' => Same H2 H' ∧ TupsN H2 H' D (((shapes.take i).map fun s => [z.a + (k : Nat) * z.d, z.u + (m : Nat)] ++ s).map intsV)) ⟨Same.new hD, TupsN.nil hD upd_same⟩ (fun i H' _ p => Same.seqT p.1 t1) ?_ ?_
        · rintro i y H3 hi ⟨s3, tn3⟩
          obtain ⟨t, ht, rfl⟩ := get_map hi
          obtain ⟨e, he⟩ := get_some (l := shapes) (i := i) (by have := get_lt ht; omega)
          have e3 := shape_len e (List.mem_of_getElem? he)
          have st := Same.seqT s3 (t3 i t (e.map V.int) ht (by rw [List.getElem?_map, he]; rfl))
          refine ⟨rfl, yes_if ?_⟩
          refine ⟨_, rfl, _, rfl, (by show 2 ≤ sizeLine; decide), fun u hu => ?_⟩
          have s4 := Same.new (o := .tup [V.int (z.a + (k : Nat) * z.d), V.int (z.u + (m : Nat))]) hu
          have en : (e.map V.int) ≠ [] := fun q => by
            have := congrArg List.length q
            rw [List.length_map, e3] at this
            cases this
          refine ⟨_, rfl, u, t, _, _, rfl, rfl, SqT.of upd_same, Same.seqT s4 st, by simp, ?_, fun q => absurd q en, fun _ v hv => ?_⟩
          · rw [List.length_map, e3]
            show 5 ≤ sizeLine
            decide
          have tn4 := (tn3.keep s4).keep (Same.new (o := .tup ([V.int (z.a + (k : Nat) * z.d), V.int (z.u + (m : Nat))] ++ e.map V.int)) hv)
          obtain ⟨us, u1, u2⟩ := tn4.at
          refine ⟨_, u1, ?_, Same.put (Same.new' (Same.new' s3 hu) hv) hD, ?_⟩
          · rw [List.length_map, u2, List.length_map, List.length_map, List.length_take]
            have : shapes.length = 12 := rfl
            exact small1000 (by omega)
          · rw [take_one he, List.map_append, List.map_append]
            exact tn4.push u1 ((s3.trans s4).free hv) upd_same
        · rintro H3 ⟨s3, tn3⟩
          rw [List.length_map, t2, List.take_length] at tn3
          obtain ⟨ds, d1, d2⟩ := tn3.at
          refine ⟨p, D, _, _, rfl, rfl, s3 _ _ y1, d1, ?_, ?_⟩
          · rw [List.length_map, List.length_map, y2, d2, List.length_map, List.length_map, List.length_append, triedN_len, triedU_len, ups_len, List.length_take, List.length_take, List.length_map]
            have h12 : shapes.length = 12 := rfl
            have := room_for (n := min k z.lates.length) (m := z.nu) (k := min m z.ups.length) (by omega) un (by rw [ups_len]; omega)
            omega
          · refine ⟨_, rfl, Same.put (s2.trans s3) hp, ?_⟩
            have := tn2.ext s2 s3 tn3 (s3 _ _ y1) d1
            rw [take_one (ups_at z hm), triedU_snoc, ← List.append_assoc, List.map_append]
            exact this
      · rintro σ H2 ⟨o3, rfl, s2, tn2⟩
        refine ⟨_, o3, rfl, s2, ?_⟩
        rw [take_one (lates_at z hk), triedN_snoc]
        rw [show z.ups.take z.nu = z.ups from List.take_of_length_le (by rw [ups_len]; exact Nat.le_refl _)] at tn2
        exact tn2
    · rintro σ H1 ⟨o1, o2, rfl, s1, tn1⟩
      rw [List.take_of_length_le (by rw [lates_len]; exact Nat.le_refl _)] at tn1
      exact ⟨_, rfl, q H1 p s1 tn1⟩
end
end CW

set_option Elab.async false
set_option linter.all false
set_option maxRecDepth 100000
set_option maxHeartbeats 4000000
/-! ways that find finds -/
namespace CW
open PySem PySem.Spec PyProof.Rows L2 CWX
/-! ### by numbers -/
def Sr.ws (z : Sr) : List Cp07.Way := Cp07.tried ((List.range z.nl).map fun (k : Nat) => (z.a + (k : Int) * z.d).toNat) z.ups
theorem late_nn {z : Sr} (f : SrFine z) (k : Nat) : 0 ≤ z.a + (k : Int) * z.d := by
  have := f.a
  have := f.d
  have h : 0 ≤ (k : Int) * z.d := Int.mul_nonneg (by omega) (by omega)
  omega
theorem ws_told {z : Sr} (f : SrFine z) : z.ws.map Cp07.wayTold = triedN z.lates z.ups := by
  unfold Sr.ws
  rw [tried_told, List.map_map]
  congr 1
  unfold Sr.lates
  refine List.map_congr_left fun k _ => ?_
  exact Int.toNat_of_nonneg (late_nn f k)
theorem ws_len (z : Sr) : z.ws.length = z.nl * z.nu * 12 := by
  unfold Sr.ws
  rw [tried_length, List.length_map, List.length_range, ups_len]
theorem late_le {z : Sr} (f : SrFine z) {k : Nat} (h : k < z.nl) : z.a + (k : Int) * z.d ≤ 4096 := by
  have hd := f.d
  have hb := f.b
  have e : (k : Int) ≤ (z.b - z.a) / z.d := by
    have b1 := div_bound f.a.1 f.b.1 f.b.2 f.d.1
    unfold Sr.nl at h
    omega
  have h1 : (k : Int) * z.d ≤ (z.b - z.a) / z.d * z.d := Int.mul_le_mul_of_nonneg_right e (by omega)
  have h2 : (z.b - z.a) / z.d * z.d ≤ z.b - z.a := Int.ediv_mul_le _ (by omega)
  omega
theorem ws_in {z : Sr} (f : SrFine z) {w : Cp07.Way} (h : w ∈ z.ws) : allIn (Cp07.wayTold w) wayR = true := by
  obtain ⟨h1, h2, h3⟩ := tried_mem h
  obtain ⟨k, hk, e⟩ := List.mem_map.mp h1
  obtain ⟨m, hm, e2⟩ := List.mem_map.mp h2
  have hk' := List.mem_range.mp hk
  have hm' := List.mem_range.mp hm
  have l1 := late_le f hk'
  refine told_in (by omega) ?_ h3
  have fu := f.u
  have fv := f.v
  unfold Sr.nu at hm'
  omega
theorem wayBy_told (w : Cp07.Way) : ∀ {w : Cp07.Way}, (⟨((Cp07.wayTold w).getD 0 0).toNat, (Cp07.wayTold w).getD 1 0, (Cp07.wayTold w).getD 2 0 == 1, (Cp07.wayTold w).getD 3 0 == 1, ((Cp07.wayTold w).getD 4 0).toNat⟩ : Cp07.Way) = w := by
  intro w
  obtain ⟨l, u, o, b, z⟩ := w
  cases o <;> cases b <;> rfl
def foundOne (s : Cp07.State) (most : Nat) (w : Cp07.Way) : Option (Nat × Cp07.Way) := (Cp07.voiceOf s.theme w).bind fun v => if against s v ≤ most then some (against s v, w) else none
def foundRaw (s : Cp07.State) (most : Nat) (ws : List Cp07.Way) : List (Nat × Cp07.Way) := ws.filterMap (foundOne s most)
theorem found_raw (s : Cp07.State) (most : Nat) (ws : List Cp07.Way) : Cp07.found s most ws = (foundRaw s most ws).mergeSort fun x y => decide (x.1 ≤ y.1) := rfl
theorem foundRaw_none {s : Cp07.State} {most : Nat} {ws : List Cp07.Way} {k : Nat} {w : Cp07.Way} (h : ws[k]? = some w) (e : foundOne s most w = none) : foundRaw s most (ws.take (k + 1)) = foundRaw s most (ws.take k) := by
  unfold foundRaw
  rw [take_one h, List.filterMap_append, List.filterMap_cons, e, List.filterMap_nil, List.append_nil]
theorem foundRaw_some {s : Cp07.State} {most : Nat} {ws : List Cp07.Way} {k : Nat} {w : Cp07.Way} {x : Nat × Cp07.Way} (h : ws[k]? = some w) (e : foundOne s most w = some x) : foundRaw s most (ws.take (k + 1)) = foundRaw s most (ws.take k) ++ [x] := by
  unfold foundRaw
  rw [take_one h, List.filterMap_append, List.filterMap_cons, e, List.filterMap_nil]
theorem foundRaw_len (s : Cp07.State) (most : Nat) (ws : List Cp07.Way) : (foundRaw s most ws).length ≤ ws.length := List.length_filterMap_le _ _
def foundN (x : Nat × Cp07.Way) : List Int := (x.1 : Int) :: Cp07.wayTold x.2
def fV (x : Nat × Cp07.Way) : List V := intsV (foundN x)
section
variable {P : Program} {w : World} {K : PySem.W.Frag} {mg : Str → Option Value} {base : Heap}
/-! ### Way of a tuple -/
theorem seqT_ins {H : Hp} {a p C dx : Addr} {xs : List V} {fs : List (Str × V)} {o : HO} (hp : H p = some (.ins C dx fs)) (h : SqT K H a xs) : SqT K (upd H p o) a xs := by
  rcases h with (h | ⟨ob, h⟩) | h
  · exact .inl (.inl (by rw [upd_ne (ne_of h hp fun z => nomatch z)]; exact h))
  · exact .inl (.inr ⟨ob, by rw [upd_ne (ne_of h hp fun z => nomatch z)]; exact h⟩)
  · exact .inr h
def spWayInitT (K : PySem.W.Frag) (C : Addr) : Sp := fun vs H Q _ => ∃ (p a dx : Addr) (ns : List Int), vs = [.ref p, .ref a] ∧ H p = some (.ins C dx []) ∧ SqT K H a (ns.map V.int) ∧ allIn ns wayR = true ∧
  ∀ H' : Hp, WayAt C H' p (wayBy ns) → (∀ b o, H b = some o → b ≠ p → H' b = some o) → Q .non H'
theorem ok_way_initT {C : Addr} (h : HereI K mg C "Way" "Way.__init__" s_Way_init ["self", "numbers"]) (T : WayC K C) : DefI P w K mg base C 1 "Way" ["self", "numbers"] (spWayInitT K C) := by
  refine h.ok sc_way_init (fun vs H Q E h => ?_) (fun f cdv A outer s H vs Q E hr h => ?_)
  · obtain ⟨p, a, dx, ns, rfl, _⟩ := h; rfl
  · obtain ⟨p, a, dx, ns, rfl, hp, sa, ha, q⟩ := h
    obtain ⟨t, u, o, b, z, rfl, ht, hu, ho, hb, hz⟩ := way_five ha
    refine ⟨_, pss_cons (ps_fld (pv 0) (pe_ix ix_tup (pv 1) pe_int (fun _ _ => rfl)) rfl) (pss_cons (ps_fld (pv 0) (pe_ix ix_tup (pv 1) pe_int (fun _ _ => rfl)) rfl)
      (pss_cons (ps_fld (pv 0) (pe_cmpR op_eq (pe_ix ix_tup (pv 1) pe_int (fun _ _ => rfl)) pe_int (nomark _)) rfl) (pss_cons (ps_fld (pv 0) (pe_cmpR op_eq (pe_ix ix_tup (pv 1) pe_int (fun _ _ => rfl)) pe_int (nomark _)) rfl)
      (pss_one (ps_fld (pv 0) (pe_ix ix_tup (pv 1) pe_int (fun _ _ => rfl)) rfl))))), ?_⟩
    have s1 := seqT_ins (o := .ins C dx (wf1 t)) hp sa
    refine ⟨_, rfl, a, _, _, _, rfl, rfl, sa, atI_nat (j := 0) rfl, _, rfl, p, C, dx, _, rfl, hp, T.cl, T.later, (by show 0 < 1000; decide), ?_⟩
    have s2 := seqT_ins (o := .ins C dx (wf2 t u)) upd_same s1
    refine ⟨_, rfl, a, _, _, _, rfl, rfl, s1, atI_nat (j := 1) rfl, _, rfl, p, C, dx, wf1 t, rfl, upd_same, T.cl, T.higher, (by show 1 < 1000; decide), ?_⟩
    rw [wf2_eq]
    have s3 := seqT_ins (o := .ins C dx (wf3 t u (decide (V.int o = V.int 1)))) upd_same s2
    refine ⟨_, rfl, a, _, _, _, rfl, rfl, s2, atI_nat (j := 2) rfl, rfl, _, rfl, p, C, dx, wf2 t u, rfl, upd_same, T.cl, T.over, (by show 2 < 1000; decide), ?_⟩
    rw [wf3_eq]
    have s4 := seqT_ins (o := .ins C dx (wf4 t u (decide (V.int o = V.int 1)) (decide (V.int b = V.int 1)))) upd_same s3
    refine ⟨_, rfl, a, _, _, _, rfl, rfl, s3, atI_nat (j := 3) rfl, rfl, _, rfl, p, C, dx, wf3 t u _, rfl, upd_same, T.cl, T.back, (by show 3 < 1000; decide), ?_⟩
    rw [wf4_eq]
    refine ⟨_, rfl, a, _, _, _, rfl, rfl, s4, atI_nat (j := 4) rfl, _, rfl, p, C, dx, wf4 t u _ _, rfl, upd_same, T.cl, T.lengths, (by show 4 < 1000; decide), ?_⟩
    rw [wf5_eq]
    refine q _ ⟨dx, upd_same.trans ?_⟩ fun c ob e hc => by
      rw [upd_ne hc, upd_ne hc, upd_ne hc, upd_ne hc, upd_ne hc]
      exact e
    have f1 : ((t.toNat : Nat) : Int) = t := Int.toNat_of_nonneg ht.1
    have f2 : ((z.toNat : Nat) : Int) = z := Int.toNat_of_nonneg (by omega)
    show some (HO.ins C dx (wf5 t u (decide (V.int o = V.int 1)) (decide (V.int b = V.int 1)) z)) = some (HO.ins C dx (wf5 ((t.toNat : Nat) : Int) u (o == 1) (b == 1) ((z.toNat : Nat) : Int)))
    rw [f1, f2, dec_one, dec_one]
/-! ### a heap without one place -/
def wo (H : Hp) (a : Addr) : Hp := fun b => if b = a then none else H b
theorem del_self {H : Hp} {a : Addr} : wo H a a = none := if_pos rfl
theorem del_ne {H : Hp} {a b : Addr} (h : b ≠ a) : wo H a b = H b := if_neg h
theorem same_del {H : Hp} {a : Addr} : Same (wo H a) H := fun b o e => by
  by_cases h : b = a
  · rw [h, del_self] at e; cases e
  · rwa [del_ne h] at e
theorem wo_same {H1 H : Hp} {a : Addr} (s : Same H1 H) (h : H1 a = none) : Same H1 (wo H a) := fun b o e => by
  rw [del_ne (ne_of_none e h)]
  exact s _ _ e
theorem nw_del {H2 H : Hp} {a : Addr} {o : HO} (h : H2 a = some o) : Same (nw H2 H) (wo H a) := fun b u e => by
  have hb := nw_free e
  rw [del_ne (fun z => by rw [z, h] at hb; cases hb)]
  exact nw_same _ _ e
/-! ### found_by -/
def spFound (CC CP CS : Addr) : Sp := fun vs H Q _ => ∃ (H0 : Hp) (p x : Addr) (s : Cp07.State) (z : Sr), vs = [.ref p, .ref x] ∧ CanonAt CC CP H0 H p s ∧ SrAt CS H x z ∧ SrFine z ∧
  ∀ (H' : Hp) (r : Addr), Same H H' → TupsN H H' r ((foundRaw s z.most.toNat z.ws).map fV) → Q (.ref r) H'
theorem sc_found : FnScope ["self", "search", "voices", "found", "numbers", "way", "cost"] ["self", "search"] (defScope s_Canon_found_by) := ⟨rfl, rfl, rfl, by decide +kernel, rfl, by decide +kernel, by decide +kernel⟩
theorem ok_found {CC CP CS CW : Addr} (h : HereM K CC "found_by" "Canon.found_by" s_Canon_found_by ["self", "search"]) (T : CanC K CC) (TS : SrC K CS) (Vo : DefM P w K mg base CC 3 "all_voices" ["self"] (spVoices CC CP)) (Tr : Def P w K mg base 1 "ways_to_try" ["search"] (spTry CS))
    (I : DefI P w K mg base CW 1 "Way" ["self", "numbers"] (spWayInitT K CW)) (Cn : Def P w K mg base 2 "can_be_had" ["events", "way"] (spCan K CW)) (BW : DefM P w K mg base CC 4 "voice_by_way" ["self", "way"] (spByWay CC CP CW))
    (Ag : Def P w K mg base 5 "cost_against_all" ["voice", "others", "prices"] (spAgainst CP)) : DefM P w K mg base CC 6 "found_by" ["self", "search"] (spFound CC CP CS) := by
  obtain ⟨f1, fd1, m1, b1, G1⟩ := Vo
  obtain ⟨f2, fd2, g2, k2, b2, G2⟩ := Tr
  obtain ⟨gC, fI, fdI, M, bI, GI⟩ := I
  obtain ⟨f3, fd3, g3, k3, b3, G3⟩ := Cn
  obtain ⟨f4, fd4, m4, b4, G4⟩ := BW
  obtain ⟨f5, fd5, g5, k5, b5, G5⟩ := Ag
  refine h.ok sc_found (fun vs H Q E h => ?_) (fun f cdv A outer s H vs Q E hr h => ?_)
  · obtain ⟨H0, p, x, s, z, rfl, _⟩ := h; rfl
  · obtain ⟨H0, p, x, st, z, rfl, ca, sx, fz, q⟩ := h
    obtain ⟨dx, ev, l, pr, vs, c⟩ := id ca
    refine ⟨_, pss_cons (ps_set (i := 2) sc_found.nd rfl (.inl rfl) (pe_meth0 (pv 0) T.cl m1 G1 (hr.mono (by decide)) b1 .nil pass0))
      (pss_cons (ps_set (i := 3) sc_found.nd rfl (.inl rfl) (pe_lst pa_nil))
      (pss_cons (ps_for PassesOwn.never rfl (pi_list (pe_call G2 (hr.mono (by decide)) rfl g2 k2 b2 .nil pass0 (pa_cons (pv 1) pa_nil))) (pg_name (i := 4) sc_found.nd rfl (.inl rfl))
        (pss_cons (ps_set (i := 5) sc_found.nd rfl (.inl rfl) (pe_make M GI (hr.mono (by decide)) rfl gC bI .nil pass0 (pa_cons (pv 4) pa_nil)))
        (pss_cons (ps_if (pt_not (pt_val (pe_call G3 (hr.mono (by decide)) rfl g3 k3 b3 .nil pass0 (pa_cons (pe_fld (pv 0) rfl) (pa_cons (pv 5) pa_nil))))) (pss_one ps_continue) pss_nil)
        (pss_cons (ps_set (i := 6) sc_found.nd rfl (.inl rfl) (pe_call G5 hr rfl g5 k5 b5 .nil pass0 (pa_cons (pe_meth (pv 0) T.cl m4 G4 (hr.mono (by decide)) b4 .nil pass0 (pa_cons (pv 5) pa_nil)) (pa_cons (pv 2) (pa_cons (pe_fld (pv 0) rfl) pa_nil)))))
        (pss_one (ps_if (pt_cmpR op_le (pv 6) (pe_fld (pv 1) rfl) (nomark _)) (pss_one (ps_expr (pe_bm PySem.F.plainAttrs_list PySem.F.slot_list_append PySem.F.type_list_append mt_append (pv 3) (pa_cons (pe_op op_catT (pe_tup (pa_cons (pv 6) pa_nil)) (pv 4)) pa_nil)))) pss_nil))))))
      (pss_one (ps_ret (pv 3))))), ?_⟩
    refine ⟨_, rfl, p, dx, _, rfl, c.obj, cF_no _ _ _ (by decide +kernel) (by decide +kernel) (by decide +kernel), H0, p, st, rfl, ca, fun H1 vl s1 nvl vall el e4 => ?_⟩
    refine ⟨Nat.zero_le _, fun fd hfd => ?_⟩
    have s2 := Same.new (o := .lst []) hfd
    have s12 := s1.trans s2
    refine ⟨_, rfl, x, z, rfl, sx.same s12, fz, fun H3 pw s3 tw => ?_⟩
    have nfd : H fd = none := s1.free hfd
    have tw0 := tw.trk.same (nw_del (a := fd) upd_same)
    have sd1 : Same H1 (wo H3 fd) := wo_same (s2.trans s3) hfd
    have hfd3 : H3 fd = some (.lst []) := s3 _ _ upd_same
    generalize hHd : wo H3 fd = Hd at *
    have dfd : Hd fd = none := by rw [← hHd]; exact del_self
    have sd3 : Same Hd H3 := by rw [← hHd]; exact same_del
    obtain ⟨ts, t1, t2, t3⟩ := tw0
    rw [List.length_map] at t2
    have sHd := s1.trans sd1
    have wl : (triedN z.lates z.ups).length = z.ws.length := by rw [← ws_told fz, List.length_map]
    refine ⟨pw, rfl, ⟨_, SqL.of (sd3 _ _ t1)⟩, for_list (K := K) (a := pw) (xs := ts.map V.ref)
      (fun k σ H' => ∃ o4 o5 o6, σ = [some (.ref p), some (.ref x), some (.ref vl), some (.ref fd), o4, o5, o6] ∧ Same Hd H' ∧ TupsN H H' fd ((foundRaw st z.most.toNat (z.ws.take k)).map fV)) ⟨none, none, none, rfl, sd3, TupsN.nil nfd hfd3⟩ (fun k σ H' _ ⟨_, _, _, _, sm, _⟩ => SqL.of (sm _ _ t1)) ?_ ?_⟩
    · rintro k y σ H4 hk ⟨o4, o5, o6, rfl, s4, tn4⟩
      obtain ⟨t, ht, rfl⟩ := get_map hk
      obtain ⟨wy, hwy⟩ := get_some (l := z.ws) (i := k) (by have := get_lt ht; omega)
      have ew : (triedN z.lates z.ups)[k]? = some (Cp07.wayTold wy) := by rw [← ws_told fz, List.getElem?_map, hwy]; rfl
      have htt := s4 _ _ (t3 k t (intsV (Cp07.wayTold wy)) ht (by rw [List.getElem?_map, ew]; rfl))
      have hin := ws_in fz (List.mem_of_getElem? hwy)
      refine ⟨_, rfl, fun y dy ny nd ne => ?_⟩
      have s5 : Same H4 (upd (upd H4 dy (.own y)) y (.ins CW dy [])) := Same.new' (Same.new nd) (by rw [upd_ne ne.symm]; exact ny)
      refine ⟨y, t, dy, Cp07.wayTold wy, rfl, upd_same, SqT.of (s5 _ _ htt), hin, fun H5 W5 kp => ⟨rfl, ?_⟩⟩
      have ewy : wayBy (Cp07.wayTold wy) = wy := wayBy_told wy
      rw [ewy] at W5
      have s45 : Same H4 H5 := Same.made ny nd kp
      have s5d := s4.trans s45
      have c5 := c.same (sHd.trans s5d)
      have vc := voiceOf_eq st.theme wy
      refine ⟨_, rfl, p, CC, dx, _, _, rfl, c5.obj, T.cl, T.events, cF_ev _ _ _, _, rfl, ev, y, st.theme, wy, rfl, TupsT.tupsG (c5.theme.same priv_same), c.few, W5, fun H6 s6 => ⟨_, rfl, ?_⟩⟩
      have s46 := s45.trans s6
      cases hc : canHave st.theme wy with
      | false =>
        rw [hc, if_neg (by decide)] at vc
        refine iteT ⟨_, _, _, rfl, s4.trans s46, ?_⟩
        rw [foundRaw_none hwy (by unfold foundOne; rw [vc]; rfl)]
        exact tn4.keep s46
      | true =>
        rw [hc, if_pos rfl] at vc
        refine iteF ?_
        obtain ⟨dw, hw⟩ := id W5
        have s6d := s4.trans s46
        have c6 := c.same (sHd.trans s6d)
        refine ⟨_, rfl, p, dx, _, rfl, c6.obj, cF_no _ _ _ (by decide +kernel) (by decide +kernel) (by decide +kernel), _, rfl, H0, p, y, st, wy, rfl, ca.same (sHd.trans s6d), ⟨dw, s6 _ _ hw⟩, fun H7 v s7 tv => ?_⟩
        have s7d := s6d.trans s7
        have c7 := c.same (sHd.trans s7d)
        have vat : VoiceAt H7 v (wy.late, byWay st.theme wy) := tv.trk'
        refine ⟨_, rfl, _, rfl, p, CC, dx, _, _, rfl, c7.obj, T.cl, T.prices, cF_pr _ _ _, v, vl, pr, (wy.late, byWay st.theme wy), Cp07.voices st, st.table, rfl, vat, by show (byWay st.theme wy).length ≤ 16; rw [byWay_len]; exact c.few, vall.same (sd1.trans s7d), by omega, c7.prices.same priv_same, fun H8 s8 => ?_⟩
        have s48 := (s46.trans s7).trans s8
        have s8d := s4.trans s48
        rw [← against_abv]
        have sx8 := sx.same (sHd.trans s8d)
        obtain ⟨dz, hz⟩ := sx8
        refine ⟨_, rfl, _, rfl, x, CS, dz, _, _, rfl, hz, TS.cl, TS.most, sF_most z, _, _, rfl, rfl, _, rfl, ?_⟩
        have tn8 := tn4.keep s48
        have fm := fz.most
        by_cases hle : ((against st (wy.late, byWay st.theme wy) : Nat) : Int) ≤ z.most
        · rw [decide_eq_true hle]
          have fo : foundOne st z.most.toNat wy = some (against st (wy.late, byWay st.theme wy), wy) := by
            unfold foundOne
            rw [vc]
            show (if _ then _ else _) = _
            rw [if_pos (by omega)]
          obtain ⟨fs, u1, u2⟩ := tn8.at
          refine iteT ⟨_, rfl, .inl ⟨rfl, _, SqL.of u1⟩, _, rfl, (by show 1 ≤ sizeLine; decide), fun a1 ha1 => ?_⟩
          have s9 := Same.new (o := .tup [natV (against st (wy.late, byWay st.theme wy))]) ha1
          refine ⟨_, rfl, a1, t, _, _, rfl, rfl, SqT.of upd_same, SqT.of (s9 _ _ (s48 _ _ htt)), by simp, ?_, fun q => ?_, fun _ a2 ha2 => ?_⟩
          · show 1 + 5 ≤ sizeLine
            decide
          · cases q
          have s10 := Same.new (o := .tup ([natV (against st (wy.late, byWay st.theme wy))] ++ intsV (Cp07.wayTold wy))) ha2
          have tn10 := (tn8.keep s9).keep s10
          obtain ⟨fs, u1, u2⟩ := tn10.at
          refine ⟨fd, _, _, rfl, rfl, u1, ?_, _, _, _, rfl, Same.put ((s8d.trans s9).trans s10) dfd, ?_⟩
          · rw [List.length_map, u2, List.length_map]
            have := foundRaw_len st z.most.toNat (z.ws.take k)
            rw [List.length_take, ws_len] at this
            obtain ⟨h1, h2⟩ := fine_counts fz
            have := room_for (k := 0) h1 h2 (by omega)
            omega
          · rw [foundRaw_some hwy fo, List.map_append]
            exact tn10.push u1 ((sHd.trans (s8d.trans s9)).free ha2) upd_same
        · rw [decide_eq_false hle]
          have fo : foundOne st z.most.toNat wy = none := by
            unfold foundOne
            rw [vc]
            show (if _ then _ else _) = _
            rw [if_neg (by omega)]
          refine iteF ⟨_, _, _, rfl, s8d, ?_⟩
          rw [foundRaw_none hwy fo]
          exact tn8
    · rintro σ H4 ⟨o4, o5, o6, rfl, s4, tn4⟩
      rw [List.length_map, t2, wl, List.take_length] at tn4
      exact ⟨_, rfl, q H4 fd (sHd.trans s4) tn4⟩
end
end CW

set_option Elab.async false
set_option linter.all false
set_option maxRecDepth 100000
set_option maxHeartbeats 4000000
/-! what find tells -/
namespace CW
open PySem PySem.Spec PyProof.Rows L2 CWX
/-! ### sorted by cost -/
abbrev Pr := Addr × (Nat × Cp07.Way)
def sortP (L : List Pr) : List Pr := L.mergeSort fun x y => decide (x.2.1 ≤ y.2.1)
theorem sortP_snd (L : List Pr) : (sortP L).map (fun x => x.2) = (L.map fun x => x.2).mergeSort fun x y => decide (x.1 ≤ y.1) := by
  unfold sortP
  exact List.map_mergeSort (fun a _ b _ => rfl)
theorem sortP_ref (L : List Pr) (k : V → Int) (h : ∀ x ∈ L, k (.ref x.1) = (x.2.1 : Int)) : (sortP L).map (fun x => V.ref x.1) = (L.map fun x => V.ref x.1).mergeSort fun x y => decide (k x ≤ k y) := by
  unfold sortP
  refine List.map_mergeSort (fun a ha b hb => ?_)
  rw [h a ha, h b hb]
  exact decide_eq_decide.mpr (by omega)
theorem sortP_mem {L : List Pr} {x : Pr} (h : x ∈ sortP L) : x ∈ L := List.mem_mergeSort.mp h
theorem zip_fst {α β : Type} : ∀ (l : List α) (m : List β), l.length = m.length → (l.zip m).map (fun x => x.1) = l
  | [], [], _ => rfl
  | a :: l, b :: m, h => by
    rw [List.zip_cons_cons, List.map_cons, zip_fst l m (by simpa using h)]
  | [], _ :: _, h => by simp at h
  | _ :: _, [], h => by simp at h
theorem zip_snd {α β : Type} : ∀ (l : List α) (m : List β), l.length = m.length → (l.zip m).map (fun x => x.2) = m
  | [], [], _ => rfl
  | a :: l, b :: m, h => by
    rw [List.zip_cons_cons, List.map_cons, zip_snd l m (by simpa using h)]
  | [], _ :: _, h => by simp at h
  | _ :: _, [], h => by simp at h
def keyOf (H : Hp) : V → Int
  | .ref t => match H t with
    | some (.tup (.int c :: _)) => c
    | _ => 0
  | _ => 0
theorem found_len6 (x : Nat × Cp07.Way) : (foundN x).length = 6 := rfl
theorem flat_found (f : List Pr) : (f.flatMap fun x => foundN x.2).length = 6 * f.length := by
  induction f with
  | nil => rfl
  | cons a l ih =>
    rw [List.flatMap_cons, List.length_append, ih, found_len6, List.length_cons]
    omega
section
variable {P : Program} {w : World} {K : PySem.W.Frag} {mg : Str → Option Value} {base : Heap}
/-! ### cost_of_found -/
def spKey (K : PySem.W.Frag) : Sp := fun vs H Q _ => ∃ (t : Addr) (c : Int) (r : List V), vs = [.ref t] ∧ SqT K H t (.int c :: r) ∧ Q (.int c) H
theorem sc_key : FnScope ["one"] ["one"] (defScope s_cost_of_found) := ⟨rfl, rfl, rfl, by decide +kernel, rfl, by decide +kernel, by decide +kernel⟩
theorem ok_key (h : Here K mg "cost_of_found" s_cost_of_found ["one"]) : Def P w K mg base 1 "cost_of_found" ["one"] (spKey K) := by
  refine h.ok sc_key (fun vs H Q E h => ?_) (fun f cdv A outer s H vs Q E hr h => ?_)
  · obtain ⟨t, c, r, rfl, _⟩ := h; rfl
  · obtain ⟨t, c, r, rfl, st, q⟩ := h
    exact ⟨_, pss_one (ps_ret (pe_ix ix_tup (pv 0) pe_int (fun _ _ => rfl))), _, rfl, t, _, _, _, rfl, rfl, st, atI_nat (j := 0) rfl, q⟩
/-! ### write_found -/
def toldF (raw : List (Nat × Cp07.Way)) : List Int := (raw.length : Int) :: ((raw.mergeSort fun x y => decide (x.1 ≤ y.1)).take 10).flatMap foundN
def spTell : Sp := fun vs H Q _ => ∃ (a : Addr) (raw : List (Nat × Cp07.Way)), vs = [.ref a] ∧ TupsT H a (raw.map fV) ∧
  ∀ (H' : Hp) (r : Addr), Same H H' → H r = none → H' r = some (.lst ((toldF raw).map V.int)) → Q (.ref r) H'
theorem sc_tell : FnScope ["found", "numbers", "one"] ["found"] (defScope s_write_found) := ⟨rfl, rfl, rfl, by decide +kernel, rfl, by decide +kernel, by decide +kernel⟩
theorem ok_tell (B : Blt mg) (h : Here K mg "write_found" s_write_found ["found"]) (c10 : CstI mg "MOST_TOLD" 10) (Ky : Def P w K mg base 1 "cost_of_found" ["one"] (spKey K)) : Def P w K mg base 4 "write_found" ["found"] spTell := by
  obtain ⟨f1, fd1, g1, k1, b1, G1⟩ := Ky
  obtain ⟨u10, c10⟩ := c10
  refine h.ok sc_tell (fun vs H Q E h => ?_) (fun f cdv A outer s H vs Q E hr h => ?_)
  · obtain ⟨a, raw, rfl, _⟩ := h; rfl
  · obtain ⟨a, raw, rfl, ⟨ts, t1, t2, t3⟩, q⟩ := h
    rw [List.length_map] at t2
    refine ⟨_, pss_cons (ps_set (i := 1) sc_tell.nd rfl (.inl rfl) (pe_lst (pa_cons (pe_callB call_len_seq (by rfl) B.len PySem.boot_len (pa_cons (pv 0) pa_nil)) pa_nil)))
      (pss_cons (ps_for PassesOwn.never rfl (pi_list (pe_slice sl_list (pe_callBK (cr_sortBy G1 hr b1) (by rfl) B.sorted (by decide +kernel) (pa_cons (pv 0) pa_nil) (pk_cons (pe_glob (v := .ref f1) rfl g1 rfl) pk_nil)) po_none (po_some (pe_glob (v := .int 10) rfl c10 ⟨_, rfl⟩)))) (pg_name (i := 2) sc_tell.nd rfl (.inl rfl))
        (pss_one (ps_expr (pe_bm PySem.F.plainAttrs_list PySem.F.slot_list_extend PySem.F.type_list_extend mt_extT (pv 1) (pa_cons (pv 2) pa_nil)))))
      (pss_one (ps_ret (pv 1)))), ?_⟩
    refine ⟨_, rfl, a, _, rfl, .inl (SqL.of t1), (by show 1 ≤ sizeLine; decide), fun nm hnm => ?_⟩
    have s1 := Same.new (o := .lst [V.int ((ts.map V.ref).length : Nat)]) hnm
    have zin : ∀ x ∈ ts.zip raw, H x.1 = some (.tup (fV x.2)) := fun x hx => by
      obtain ⟨i, hi⟩ := List.mem_iff_getElem?.mp hx
      obtain ⟨e1, e2⟩ := List.getElem?_zip_eq_some.mp hi
      exact t3 i x.1 (fV x.2) e1 (by rw [List.getElem?_map, e2]; rfl)
    have key : ∀ x ∈ ts.zip raw, keyOf H (.ref x.1) = (x.2.1 : Int) := fun x hx => by
      show (match H x.1 with
        | some (.tup (.int c :: _)) => c
        | _ => 0) = _
      rw [zin x hx]
      rfl
    have ets : ts.map V.ref = (ts.zip raw).map fun x => V.ref x.1 := by
      rw [show (ts.zip raw).map (fun x => V.ref x.1) = ((ts.zip raw).map fun x => x.1).map V.ref from (List.map_map ..).symm, zip_fst _ _ t2]
    refine ⟨_, rfl, a, ts.map V.ref, keyOf H, rfl, rfl, SqL.of (s1 _ _ t1), fun x hx => ?_, fun so hso => ?_⟩
    · rw [ets] at hx
      obtain ⟨y, hy, rfl⟩ := List.mem_map.mp hx
      refine ⟨y.1, (y.2.1 : Int), intsV (Cp07.wayTold y.2.2), rfl, SqT.of (s1 _ _ (zin y hy)), ?_, rfl⟩
      rw [key y hy]
    have esort := sortP_ref (ts.zip raw) _ key
    rw [← ets] at esort
    refine ⟨_, rfl, so, _, rfl, SqL.of upd_same, fun cu hcu => ?_⟩
    rw [← esort] at hcu ⊢
    have ecut : cutV ((sortP (ts.zip raw)).map fun x => V.ref x.1) none (some 10) = ((sortP (ts.zip raw)).take 10).map fun x => V.ref x.1 := (cut_head _ 10).trans (List.map_take ..).symm
    rw [ecut]
    have zin2 : ∀ x ∈ (sortP (ts.zip raw)).take 10, H x.1 = some (.tup (fV x.2)) := fun x hx => zin x (sortP_mem (List.mem_of_mem_take hx))
    have l10 : ((sortP (ts.zip raw)).take 10).length ≤ 10 := by rw [List.length_take]; omega
    have efin : ((sortP (ts.zip raw)).take 10).flatMap (fun x => foundN x.2) = ((raw.mergeSort fun x y => decide (x.1 ≤ y.1)).take 10).flatMap foundN := by
      have e := sortP_snd (ts.zip raw)
      rw [zip_snd _ _ t2] at e
      rw [← e, ← List.map_take, List.flatMap_map]
    have s2 := Same.new (o := .lst ((sortP (ts.zip raw)).map fun x => V.ref x.1)) hso
    have s3 := Same.new (o := .lst (((sortP (ts.zip raw)).take 10).map fun x => V.ref x.1)) hcu
    have hnm3 := s3 _ _ (s2 _ _ (upd_same (H := H) (a := nm) (o := .lst [V.int ((ts.map V.ref).length : Nat)])))
    have ncu : cu ≠ nm := (ne_of_none (s2 _ _ (upd_same (H := H) (a := nm) (o := .lst [V.int ((ts.map V.ref).length : Nat)]))) hcu).symm
    have hcu3 : wo (upd (upd (upd H nm (.lst [V.int ((ts.map V.ref).length : Nat)])) so (.lst ((sortP (ts.zip raw)).map fun x => V.ref x.1))) cu (.lst (((sortP (ts.zip raw)).take 10).map fun x => V.ref x.1))) nm cu = some (.lst (((sortP (ts.zip raw)).take 10).map fun x => V.ref x.1)) := by
      rw [del_ne ncu]
      exact upd_same
    have sd : Same H _ := wo_same (s1.trans (s2.trans s3)) hnm
    have sd2 : Same _ _ := same_del (H := upd (upd (upd H nm (.lst [V.int ((ts.map V.ref).length : Nat)])) so (.lst ((sortP (ts.zip raw)).map fun x => V.ref x.1))) cu (.lst (((sortP (ts.zip raw)).take 10).map fun x => V.ref x.1))) (a := nm)
    have dnm : wo (upd (upd (upd H nm (.lst [V.int ((ts.map V.ref).length : Nat)])) so (.lst ((sortP (ts.zip raw)).map fun x => V.ref x.1))) cu (.lst (((sortP (ts.zip raw)).take 10).map fun x => V.ref x.1))) nm nm = none := del_self
    generalize wo (upd (upd (upd H nm (.lst [V.int ((ts.map V.ref).length : Nat)])) so (.lst ((sortP (ts.zip raw)).map fun x => V.ref x.1))) cu (.lst (((sortP (ts.zip raw)).take 10).map fun x => V.ref x.1))) nm = Hd at *
    generalize (sortP (ts.zip raw)).take 10 = fl at *
    refine ⟨cu, rfl, ⟨_, SqL.of (sd2 _ _ hcu3)⟩, for_list (K := K) (a := cu) (xs := fl.map fun x => V.ref x.1)
      (fun k σ H' => ∃ v, σ = [some (.ref a), some (.ref nm), v] ∧ Same Hd H' ∧ H' nm = some (.lst (((raw.length : Int) :: (fl.take k).flatMap fun x => foundN x.2).map V.int))) ⟨none, rfl, sd2, ?_⟩ (fun k σ H' _ ⟨_, _, sm, _⟩ => SqL.of (sm _ _ hcu3)) ?_ ?_⟩
    · rw [hnm3, List.length_map, t2]
      rfl
    · rintro k x σ H' hk ⟨v, rfl, sm, hp'⟩
      obtain ⟨e, he, rfl⟩ := get_map hk
      have st := sm _ _ (sd _ _ (zin2 e (List.mem_of_getElem? he)))
      refine ⟨_, rfl, .inl ⟨rfl, _, SqL.of hp'⟩, _, rfl, nm, e.1, _, _, rfl, rfl, hp', SqT.of st, ?_, ?_⟩
      · have f1 := flat_found (fl.take k)
        have f3 : (fl.take k).length ≤ fl.length := by rw [List.length_take]; omega
        have e2 : (fV e.2).length = 6 := rfl
        rw [List.length_map, List.length_cons, e2]
        exact Nat.le_of_lt (small1000 (by omega))
      · refine ⟨_, rfl, Same.put sm dnm, ?_⟩
        rw [upd_same, take_one he, List.flatMap_append]
        simp [fV, intsV]
    · rintro σ H' ⟨v, rfl, sm, hp'⟩
      rw [List.length_map, List.take_length, efin] at hp'
      exact ⟨_, rfl, q H' nm (sd.trans sm) hnm hp'⟩
end
end CW

set_option Elab.async false
set_option linter.all false
set_option maxRecDepth 100000
set_option maxHeartbeats 4000000
/-! the call find; all calls -/
namespace CW
open PySem PySem.Spec PyProof.Rows L2 CWX
/-! ### find -/
def srOf (ns : List Int) : Sr := ⟨ns.getD 0 0, ns.getD 1 0, ns.getD 2 0, ns.getD 3 0, ns.getD 4 0, ns.getD 5 0⟩
def findCall (ns : List Int) : Cp07.Call := .find (ns.getD 0 0) (ns.getD 1 0) (ns.getD 2 0) (ns.getD 3 0) (ns.getD 4 0) (ns.getD 5 0)
theorem find_cond (z : Sr) : (!Cp07.isIn 0 10000 z.most || (!Cp07.isIn 0 4096 z.a || (!Cp07.isIn z.a 4096 z.b || (!Cp07.isIn 1 4096 z.d || (!Cp07.isIn (-28) 28 z.u || !Cp07.isIn z.u 28 z.v))))) = false ↔ SrFine z := by
  simp only [Cp07.isIn, Bool.or_eq_false_iff, Bool.not_eq_false', Bool.and_eq_true, decide_eq_true_eq]
  constructor
  · rintro ⟨h1, h2, h3, h4, h5, h6⟩
    exact ⟨h1, h2, h3, h4, h5, h6⟩
  · rintro ⟨h1, h2, h3, h4, h5, h6⟩
    exact ⟨h1, h2, h3, h4, h5, h6⟩
theorem find_eq (s : Cp07.State) (z : Sr) : Cp07.step s (.find z.most z.a z.b z.d z.u z.v) = (s, if s.theme.isEmpty then Cp07.just (-7) else if !Cp07.isIn 0 10000 z.most || (!Cp07.isIn 0 4096 z.a || (!Cp07.isIn z.a 4096 z.b || (!Cp07.isIn 1 4096 z.d || (!Cp07.isIn (-28) 28 z.u || !Cp07.isIn z.u 28 z.v)))) then Cp07.just (-1) else
    if Cp07.TRIED < z.ws.length then Cp07.just (-2) else ⟨((Cp07.found s z.most.toNat z.ws).length : Int), ((Cp07.found s z.most.toNat z.ws).take 10).flatMap foundN⟩) := rfl
theorem find_bad {s : Cp07.State} {z : Sr} (he : s.theme.isEmpty = false) (h : ¬ SrFine z) : Cp07.step s (.find z.most z.a z.b z.d z.u z.v) = (s, Cp07.just (-1)) := by
  have e : (!Cp07.isIn 0 10000 z.most || (!Cp07.isIn 0 4096 z.a || (!Cp07.isIn z.a 4096 z.b || (!Cp07.isIn 1 4096 z.d || (!Cp07.isIn (-28) 28 z.u || !Cp07.isIn z.u 28 z.v))))) = true := by
    cases q : (!Cp07.isIn 0 10000 z.most || (!Cp07.isIn 0 4096 z.a || (!Cp07.isIn z.a 4096 z.b || (!Cp07.isIn 1 4096 z.d || (!Cp07.isIn (-28) 28 z.u || !Cp07.isIn z.u 28 z.v))))) with
    | true => rfl
    | false => exact absurd ((find_cond z).mp q) h
  rw [find_eq, he, e]
  rfl
theorem find_fine {s : Cp07.State} {z : Sr} (he : s.theme.isEmpty = false) (h : SrFine z) : Cp07.step s (.find z.most z.a z.b z.d z.u z.v) = (s, if 400 < z.ws.length then Cp07.just (-2) else ⟨((foundRaw s z.most.toNat z.ws).length : Int), (((foundRaw s z.most.toNat z.ws).mergeSort fun x y => decide (x.1 ≤ y.1)).take 10).flatMap foundN⟩) := by
  rw [find_eq, he, (find_cond z).mpr h, found_raw, List.length_mergeSort]
  rfl
theorem many_eq {z : Sr} (h : SrFine z) : decide (((z.b - z.a) / z.d + 1) * (z.v - z.u + 1) * 12 > 400) = decide (400 < z.ws.length) := by
  have b1 := div_bound h.a.1 h.b.1 h.b.2 h.d.1
  have fv := h.v
  have e : ((z.ws.length : Nat) : Int) = ((z.b - z.a) / z.d + 1) * (z.v - z.u + 1) * 12 := by
    rw [ws_len, Int.natCast_mul, Int.natCast_mul]
    unfold Sr.nl Sr.nu
    rw [Int.toNat_of_nonneg (by omega), Int.toNat_of_nonneg (by omega)]
    rfl
  rw [← e]
  exact decide_eq_decide.mpr (by omega)
section
variable {P : Program} {w : World} {K : PySem.W.Frag} {mg : Str → Option Value} {base : Heap}
theorem sc_find : FnScope ["self", "numbers", "search"] ["self", "numbers"] (defScope s_Canon_find_ways) := ⟨rfl, rfl, rfl, by decide +kernel, rfl, by decide +kernel, by decide +kernel⟩
theorem ok_find {CC CP CS : Addr} (h : HereM K CC "find_ways" "Canon.find_ways" s_Canon_find_ways ["self", "numbers"]) (T : CanC K CC) (Rf : Refusals mg) (c2 : CstI mg "TOO_MANY_WAYS" (-2)) (R : Def P w K mg base 3 "read_search" ["numbers"] (spReadSr K CS)) (Mn : Def P w K mg base 1 "has_too_many_ways" ["search"] (spMany CS))
    (Fo : DefM P w K mg base CC 6 "found_by" ["self", "search"] (spFound CC CP CS)) (Te : Def P w K mg base 4 "write_found" ["found"] spTell) : DefM P w K mg base CC 7 "find_ways" ["self", "numbers"] (spCall K CC CP (fun ns => ns.length = 6) findCall) := by
  obtain ⟨f1, fd1, g1, k1, b1, G1⟩ := R
  obtain ⟨f2, fd2, g2, k2, b2, G2⟩ := Mn
  obtain ⟨f3, fd3, m3, b3, G3⟩ := Fo
  obtain ⟨f4, fd4, g4, k4, b4, G4⟩ := Te
  obtain ⟨u1, c1⟩ := Rf.c1
  obtain ⟨u7, c7⟩ := Rf.c7
  obtain ⟨u2, c2⟩ := c2
  refine h.ok sc_find (fun vs H Q E h => ?_) (fun f cdv A outer s H vs Q E hr h => ?_)
  · obtain ⟨H0, p, a, s, ns, rfl, _⟩ := h; rfl
  · obtain ⟨H0, p, a, st, ns, rfl, ca, sa, hl, h6, q⟩ := h
    obtain ⟨z, rfl⟩ : ∃ z : Sr, ns = z.ns := by
      match ns, h6 with
      | [m, a, b, d, u, v], _ => exact ⟨⟨m, a, b, d, u, v⟩, rfl⟩
    have ecall : findCall z.ns = .find z.most z.a z.b z.d z.u z.v := rfl
    obtain ⟨dx, ev, l, pr, vs, c⟩ := id ca
    refine ⟨_, pss_cons (ps_if (pt_not (pt_truth (pe_fld (pv 0) rfl) (by intro _; rfl))) (pss_one (ps_ret (pe_lst (pa_cons (pe_glob (v := .int (-7)) rfl c7 ⟨_, rfl⟩) pa_nil)))) pss_nil)
      (pss_cons (ps_set (i := 2) sc_find.nd rfl (.inl rfl) (pe_call G1 (hr.mono (by decide)) rfl g1 k1 b1 .nil pass0 (pa_cons (pv 1) pa_nil)))
      (pss_cons (ps_if (pt_cmpR op_isN (pv 2) pe_non (nomark _)) (pss_one (ps_ret (pe_lst (pa_cons (pe_glob (v := .int (-1)) rfl c1 ⟨_, rfl⟩) pa_nil)))) pss_nil)
      (pss_cons (ps_if (pt_val (pe_call G2 (hr.mono (by decide)) rfl g2 k2 b2 .nil pass0 (pa_cons (pv 2) pa_nil))) (pss_one (ps_ret (pe_lst (pa_cons (pe_glob (v := .int (-2)) rfl c2 ⟨_, rfl⟩) pa_nil)))) pss_nil)
      (pss_one (ps_ret (pe_call G4 (hr.mono (by decide)) rfl g4 k4 b4 .nil pass0 (pa_cons (pe_meth (pv 0) T.cl m3 G3 hr b3 .nil pass0 (pa_cons (pv 2) pa_nil)) pa_nil))))))), ?_⟩
    have th := c.theme.same priv_same
    obtain ⟨xs, sx, ex⟩ := theme_empty (K := K) th
    refine ⟨_, rfl, p, CC, dx, _, _, rfl, c.obj, T.cl, T.events, cF_ev _ _ _, _, .inl ⟨xs, sx, rfl⟩, ?_⟩
    rw [ex]
    cases he : st.theme.isEmpty with
    | true =>
      refine iteT ⟨(by show 1 ≤ sizeLine; decide), ?_⟩
      exact refuse (c := findCall z.ns) (by rw [ecall, find_eq, he]; rfl) (Same.refl H) ca q
    | false =>
      refine iteF ?_
      refine ⟨_, rfl, a, z, rfl, sa, fun hN H1 s1 => ?_, fun fz H1 x s1 sx => ?_⟩
      · refine ⟨_, rfl, rfl, _, rfl, iteT ⟨(by show 1 ≤ sizeLine; decide), ?_⟩⟩
        exact refuse (c := findCall z.ns) (find_bad he hN) s1 ca q
      · refine ⟨_, rfl, rfl, _, rfl, iteF ?_⟩
        have es : Cp07.step st (findCall z.ns) = _ := find_fine he fz
        refine ⟨_, rfl, x, z, rfl, sx, fz, _, rfl, ?_⟩
        rw [many_eq fz]
        by_cases hm : 400 < z.ws.length
        · rw [if_pos hm] at es
          rw [decide_eq_true hm]
          refine iteT ⟨(by show 1 ≤ sizeLine; decide), ?_⟩
          exact refuse (c := findCall z.ns) es s1 ca q
        · rw [if_neg hm] at es
          rw [decide_eq_false hm]
          refine iteF ?_
          have cc := c.same s1
          refine ⟨_, rfl, p, dx, _, rfl, cc.obj, cF_no _ _ _ (by decide +kernel) (by decide +kernel) (by decide +kernel), _, rfl, H0, p, x, st, z, rfl, ca.same s1, sx, fz, fun H2 r s2 tn => ?_⟩
          refine ⟨r, _, rfl, tn.trk', fun H3 o s3 no ho => ?_⟩
          exact tell es ((s1.trans s2).trans s3) ca q ((s1.trans s2).free no) ho
/-! ### answer_of -/
theorem sc_of : FnScope ["canon", "call", "numbers"] ["canon", "call", "numbers"] (defScope s_answer_of) := ⟨rfl, rfl, rfl, by decide +kernel, rfl, by decide +kernel, by decide +kernel⟩
structure CallC (mg : Str → Option Value) : Prop where
  c1 : CstI mg "THEME" 1
  c2 : CstI mg "PRICES" 2
  c3 : CstI mg "WAY" 3
  c4 : CstI mg "DROP" 4
  c5 : CstI mg "VOICE" 5
  c6 : CstI mg "COST" 6
  c7 : CstI mg "BAD" 7
  c8 : CstI mg "FIND" 8
theorem call_cases {k : Int} {ns : List Int} {q : Cp07.Call} (h : Cp07Neutral.callOf (k :: ns) = some q) :
    (k = 1 ∧ q = .theme ns) ∨ (k = 2 ∧ ns.length = 16 ∧ q = prCall ns) ∨ (k = 3 ∧ q = .way ns) ∨ (k = 4 ∧ q = .drop) ∨ (k = 5 ∧ q = .voice ns) ∨ (k = 6 ∧ q = .cost) ∨ (k = 7 ∧ ns.length = 2 ∧ q = badCall ns) ∨ (k = 8 ∧ ns.length = 6 ∧ q = findCall ns) ∨ (k = 9 ∧ ns.length = 2 ∧ q = roundCall ns) := by
  unfold Cp07Neutral.callOf at h
  split at h
  · rename_i e
    obtain ⟨rfl, rfl⟩ := List.cons.inj e
    cases h
    exact .inl ⟨rfl, rfl⟩
  · rename_i e
    obtain ⟨rfl, rfl⟩ := List.cons.inj e
    split at h
    · rename_i hl
      cases h
      exact .inr (.inl ⟨rfl, hl, rfl⟩)
    · cases h
  · rename_i e
    obtain ⟨rfl, rfl⟩ := List.cons.inj e
    cases h
    exact .inr (.inr (.inl ⟨rfl, rfl⟩))
  · rename_i e
    obtain ⟨rfl, rfl⟩ := List.cons.inj e
    cases h
    exact .inr (.inr (.inr (.inl ⟨rfl, rfl⟩)))
  · rename_i e
    obtain ⟨rfl, rfl⟩ := List.cons.inj e
    cases h
    exact .inr (.inr (.inr (.inr (.inl ⟨rfl, rfl⟩))))
  · rename_i e
    obtain ⟨rfl, rfl⟩ := List.cons.inj e
    cases h
    exact .inr (.inr (.inr (.inr (.inr (.inl ⟨rfl, rfl⟩)))))
  · rename_i e
    obtain ⟨rfl, rfl⟩ := List.cons.inj e
    cases h
    exact .inr (.inr (.inr (.inr (.inr (.inr (.inl ⟨rfl, rfl, rfl⟩))))))
  · rename_i e
    obtain ⟨rfl, rfl⟩ := List.cons.inj e
    cases h
    exact .inr (.inr (.inr (.inr (.inr (.inr (.inr (.inl ⟨rfl, rfl, rfl⟩)))))))
  · rename_i e
    obtain ⟨rfl, rfl⟩ := List.cons.inj e
    cases h
    exact .inr (.inr (.inr (.inr (.inr (.inr (.inr (.inr ⟨rfl, rfl, rfl⟩)))))))
  · cases h
theorem ok_of {CC CP : Addr} (h : Here K mg "answer_of" s_answer_of ["canon", "call", "numbers"]) (T : CanC K CC) (Cc : CallC mg)
    (M1 : DefM P w K mg base CC 4 "take_theme" ["self", "numbers"] (spCall K CC CP (fun _ => True) .theme)) (M2 : DefM P w K mg base CC 4 "take_prices" ["self", "numbers"] (spCall K CC CP (fun ns => ns.length = 16) prCall)) (M3 : DefM P w K mg base CC 6 "add_way" ["self", "numbers"] (spCall K CC CP (fun _ => True) .way))
    (M4 : DefM P w K mg base CC 1 "drop_last" ["self"] (spCall0 CC CP .drop)) (M5 : DefM P w K mg base CC 4 "show_voice" ["self", "numbers"] (spCall K CC CP (fun _ => True) .voice)) (M6 : DefM P w K mg base CC 7 "show_cost" ["self"] (spCall0 CC CP .cost))
    (M7 : DefM P w K mg base CC 4 "show_bad" ["self", "numbers"] (spCall K CC CP (fun ns => ns.length = 2) badCall)) (M8 : DefM P w K mg base CC 7 "find_ways" ["self", "numbers"] (spCall K CC CP (fun ns => ns.length = 6) findCall)) (M9 : DefM P w K mg base CC 7 "show_round" ["self", "numbers"] (spCall K CC CP (fun ns => ns.length = 2) roundCall)) :
    Def P w K mg base 8 "answer_of" ["canon", "call", "numbers"] (spAnswerOf K CC CP) := by
  obtain ⟨f1, fd1, m1, b1, G1⟩ := M1
  obtain ⟨f2, fd2, m2, b2, G2⟩ := M2
  obtain ⟨f3, fd3, m3, b3, G3⟩ := M3
  obtain ⟨f4, fd4, m4, b4, G4⟩ := M4
  obtain ⟨f5, fd5, m5, b5, G5⟩ := M5
  obtain ⟨f6, fd6, m6, b6, G6⟩ := M6
  obtain ⟨f7, fd7, m7, b7, G7⟩ := M7
  obtain ⟨f8, fd8, m8, b8, G8⟩ := M8
  obtain ⟨f9, fd9, m9, b9, G9⟩ := M9
  obtain ⟨u1, c1⟩ := Cc.c1
  obtain ⟨u2, c2⟩ := Cc.c2
  obtain ⟨u3, c3⟩ := Cc.c3
  obtain ⟨u4, c4⟩ := Cc.c4
  obtain ⟨u5, c5⟩ := Cc.c5
  obtain ⟨u6, c6⟩ := Cc.c6
  obtain ⟨u7, c7⟩ := Cc.c7
  obtain ⟨u8, c8⟩ := Cc.c8
  refine h.ok sc_of (fun vs H Q E h => ?_) (fun f cdv A outer s H vs Q E hr h => ?_)
  · obtain ⟨H0, p, a, s, k, ns, qc, rfl, _⟩ := h; rfl
  · obtain ⟨H0, p, a, st, k, ns, qc, rfl, ca, sa, hl, hq, q⟩ := h
    obtain ⟨dx, ev, l, pr, vs, c⟩ := id ca
    refine ⟨_, pss_cons (ps_if (pt_cmpR op_eq (pv 1) (pe_glob (v := .int 1) rfl c1 ⟨_, rfl⟩) (nomark _)) (pss_one (ps_ret (pe_meth (pv 0) T.cl m1 G1 (hr.mono (by decide)) b1 .nil pass0 (pa_cons (pv 2) pa_nil)))) pss_nil)
      (pss_cons (ps_if (pt_cmpR op_eq (pv 1) (pe_glob (v := .int 2) rfl c2 ⟨_, rfl⟩) (nomark _)) (pss_one (ps_ret (pe_meth (pv 0) T.cl m2 G2 (hr.mono (by decide)) b2 .nil pass0 (pa_cons (pv 2) pa_nil)))) pss_nil)
      (pss_cons (ps_if (pt_cmpR op_eq (pv 1) (pe_glob (v := .int 3) rfl c3 ⟨_, rfl⟩) (nomark _)) (pss_one (ps_ret (pe_meth (pv 0) T.cl m3 G3 (hr.mono (by decide)) b3 .nil pass0 (pa_cons (pv 2) pa_nil)))) pss_nil)
      (pss_cons (ps_if (pt_cmpR op_eq (pv 1) (pe_glob (v := .int 4) rfl c4 ⟨_, rfl⟩) (nomark _)) (pss_one (ps_ret (pe_meth0 (pv 0) T.cl m4 G4 (hr.mono (by decide)) b4 .nil pass0))) pss_nil)
      (pss_cons (ps_if (pt_cmpR op_eq (pv 1) (pe_glob (v := .int 5) rfl c5 ⟨_, rfl⟩) (nomark _)) (pss_one (ps_ret (pe_meth (pv 0) T.cl m5 G5 (hr.mono (by decide)) b5 .nil pass0 (pa_cons (pv 2) pa_nil)))) pss_nil)
      (pss_cons (ps_if (pt_cmpR op_eq (pv 1) (pe_glob (v := .int 6) rfl c6 ⟨_, rfl⟩) (nomark _)) (pss_one (ps_ret (pe_meth0 (pv 0) T.cl m6 G6 hr b6 .nil pass0))) pss_nil)
      (pss_cons (ps_if (pt_cmpR op_eq (pv 1) (pe_glob (v := .int 7) rfl c7 ⟨_, rfl⟩) (nomark _)) (pss_one (ps_ret (pe_meth (pv 0) T.cl m7 G7 (hr.mono (by decide)) b7 .nil pass0 (pa_cons (pv 2) pa_nil)))) pss_nil)
      (pss_cons (ps_if (pt_cmpR op_eq (pv 1) (pe_glob (v := .int 8) rfl c8 ⟨_, rfl⟩) (nomark _)) (pss_one (ps_ret (pe_meth (pv 0) T.cl m8 G8 hr b8 .nil pass0 (pa_cons (pv 2) pa_nil)))) pss_nil)
      (pss_one (ps_ret (pe_meth (pv 0) T.cl m9 G9 hr b9 .nil pass0 (pa_cons (pv 2) pa_nil))))))))))), ?_⟩
    rcases call_cases hq with ⟨rfl, rfl⟩ | ⟨rfl, h16, rfl⟩ | ⟨rfl, rfl⟩ | ⟨rfl, rfl⟩ | ⟨rfl, rfl⟩ | ⟨rfl, rfl⟩ | ⟨rfl, h2, rfl⟩ | ⟨rfl, h6, rfl⟩ | ⟨rfl, h2, rfl⟩
    · refine ⟨_, rfl, rfl, _, rfl, iteT ?_⟩
      exact ⟨_, rfl, p, dx, _, rfl, c.obj, cF_no _ _ _ (by decide +kernel) (by decide +kernel) (by decide +kernel), _, rfl, H0, p, a, st, ns, rfl, ca, sa, hl, trivial, q⟩
    · refine ⟨_, rfl, rfl, _, rfl, iteF ⟨_, rfl, rfl, _, rfl, iteT ?_⟩⟩
      exact ⟨_, rfl, p, dx, _, rfl, c.obj, cF_no _ _ _ (by decide +kernel) (by decide +kernel) (by decide +kernel), _, rfl, H0, p, a, st, ns, rfl, ca, sa, hl, h16, q⟩
    · refine ⟨_, rfl, rfl, _, rfl, iteF ⟨_, rfl, rfl, _, rfl, iteF ⟨_, rfl, rfl, _, rfl, iteT ?_⟩⟩⟩
      exact ⟨_, rfl, p, dx, _, rfl, c.obj, cF_no _ _ _ (by decide +kernel) (by decide +kernel) (by decide +kernel), _, rfl, H0, p, a, st, ns, rfl, ca, sa, hl, trivial, q⟩
    · refine ⟨_, rfl, rfl, _, rfl, iteF ⟨_, rfl, rfl, _, rfl, iteF ⟨_, rfl, rfl, _, rfl, iteF ⟨_, rfl, rfl, _, rfl, iteT ?_⟩⟩⟩⟩
      exact ⟨_, rfl, p, dx, _, rfl, c.obj, cF_no _ _ _ (by decide +kernel) (by decide +kernel) (by decide +kernel), H0, p, st, rfl, ca, q⟩
    · refine ⟨_, rfl, rfl, _, rfl, iteF ⟨_, rfl, rfl, _, rfl, iteF ⟨_, rfl, rfl, _, rfl, iteF ⟨_, rfl, rfl, _, rfl, iteF ⟨_, rfl, rfl, _, rfl, iteT ?_⟩⟩⟩⟩⟩
      exact ⟨_, rfl, p, dx, _, rfl, c.obj, cF_no _ _ _ (by decide +kernel) (by decide +kernel) (by decide +kernel), _, rfl, H0, p, a, st, ns, rfl, ca, sa, hl, trivial, q⟩
    · refine ⟨_, rfl, rfl, _, rfl, iteF ⟨_, rfl, rfl, _, rfl, iteF ⟨_, rfl, rfl, _, rfl, iteF ⟨_, rfl, rfl, _, rfl, iteF ⟨_, rfl, rfl, _, rfl, iteF ⟨_, rfl, rfl, _, rfl, iteT ?_⟩⟩⟩⟩⟩⟩
      exact ⟨_, rfl, p, dx, _, rfl, c.obj, cF_no _ _ _ (by decide +kernel) (by decide +kernel) (by decide +kernel), H0, p, st, rfl, ca, q⟩
    · refine ⟨_, rfl, rfl, _, rfl, iteF ⟨_, rfl, rfl, _, rfl, iteF ⟨_, rfl, rfl, _, rfl, iteF ⟨_, rfl, rfl, _, rfl, iteF ⟨_, rfl, rfl, _, rfl, iteF ⟨_, rfl, rfl, _, rfl, iteF ⟨_, rfl, rfl, _, rfl, iteT ?_⟩⟩⟩⟩⟩⟩⟩
      exact ⟨_, rfl, p, dx, _, rfl, c.obj, cF_no _ _ _ (by decide +kernel) (by decide +kernel) (by decide +kernel), _, rfl, H0, p, a, st, ns, rfl, ca, sa, hl, h2, q⟩
    · refine ⟨_, rfl, rfl, _, rfl, iteF ⟨_, rfl, rfl, _, rfl, iteF ⟨_, rfl, rfl, _, rfl, iteF ⟨_, rfl, rfl, _, rfl, iteF ⟨_, rfl, rfl, _, rfl, iteF ⟨_, rfl, rfl, _, rfl, iteF ⟨_, rfl, rfl, _, rfl, iteF ⟨_, rfl, rfl, _, rfl, iteT ?_⟩⟩⟩⟩⟩⟩⟩⟩
      exact ⟨_, rfl, p, dx, _, rfl, c.obj, cF_no _ _ _ (by decide +kernel) (by decide +kernel) (by decide +kernel), _, rfl, H0, p, a, st, ns, rfl, ca, sa, hl, h6, q⟩
    · refine ⟨_, rfl, rfl, _, rfl, iteF ⟨_, rfl, rfl, _, rfl, iteF ⟨_, rfl, rfl, _, rfl, iteF ⟨_, rfl, rfl, _, rfl, iteF ⟨_, rfl, rfl, _, rfl, iteF ⟨_, rfl, rfl, _, rfl, iteF ⟨_, rfl, rfl, _, rfl, iteF ⟨_, rfl, rfl, _, rfl, iteF ?_⟩⟩⟩⟩⟩⟩⟩⟩
      exact ⟨_, rfl, p, dx, _, rfl, c.obj, cF_no _ _ _ (by decide +kernel) (by decide +kernel) (by decide +kernel), _, rfl, H0, p, a, st, ns, rfl, ca, sa, hl, h2, q⟩
end
end CW

set_option Elab.async false
set_option linter.all false
set_option maxRecDepth 100000
set_option maxHeartbeats 8000000
/-! the end -/
namespace CW
open PySem PySem.Spec PyProof.Rows L2 CWX

theorem all_mk {P : Program} {w : World} {K : PySem.W.Frag} {h : Heap} {mg : Str → Option Value} {fa : Addr} {f1 : Addr} {od1 an1 : Option Addr} {sl1 : Array (Option Value)} {oc1 kV1 dc1 pm1 cd1 ct1 : Value}
    {f2 : Addr} {od2 an2 : Option Addr} {sl2 : Array (Option Value)} {oc2 kV2 dc2 pm2 cd2 ct2 : Value}
    {f3 : Addr} {od3 an3 : Option Addr} {sl3 : Array (Option Value)} {oc3 kV3 dc3 pm3 cd3 ct3 : Value}
    {f4 : Addr} {od4 an4 : Option Addr} {sl4 : Array (Option Value)} {oc4 kV4 dc4 pm4 cd4 ct4 : Value}
    {f5 : Addr} {od5 an5 : Option Addr} {sl5 : Array (Option Value)} {oc5 kV5 dc5 pm5 cd5 ct5 : Value}
    {f6 : Addr} {od6 an6 : Option Addr} {sl6 : Array (Option Value)} {oc6 kV6 dc6 pm6 cd6 ct6 : Value}
    {f7 : Addr} {od7 an7 : Option Addr} {sl7 : Array (Option Value)} {oc7 kV7 dc7 pm7 cd7 ct7 : Value}
    {f8 : Addr} {od8 an8 : Option Addr} {sl8 : Array (Option Value)} {oc8 kV8 dc8 pm8 cd8 ct8 : Value}
    {f9 : Addr} {od9 an9 : Option Addr} {sl9 : Array (Option Value)} {oc9 kV9 dc9 pm9 cd9 ct9 : Value}
    {f10 : Addr} {od10 an10 : Option Addr} {sl10 : Array (Option Value)} {oc10 kV10 dc10 pm10 cd10 ct10 : Value}
    {f11 : Addr} {od11 an11 : Option Addr} {sl11 : Array (Option Value)} {oc11 kV11 dc11 pm11 cd11 ct11 : Value}
    {f12 : Addr} {od12 an12 : Option Addr} {sl12 : Array (Option Value)} {oc12 kV12 dc12 pm12 cd12 ct12 : Value}
    {f13 : Addr} {od13 an13 : Option Addr} {sl13 : Array (Option Value)} {oc13 kV13 dc13 pm13 cd13 ct13 : Value}
    {f14 : Addr} {od14 an14 : Option Addr} {sl14 : Array (Option Value)} {oc14 kV14 dc14 pm14 cd14 ct14 : Value}
    {f15 : Addr} {od15 an15 : Option Addr} {sl15 : Array (Option Value)} {oc15 kV15 dc15 pm15 cd15 ct15 : Value}
    {f16 : Addr} {od16 an16 : Option Addr} {sl16 : Array (Option Value)} {oc16 kV16 dc16 pm16 cd16 ct16 : Value}
    {f17 : Addr} {od17 an17 : Option Addr} {sl17 : Array (Option Value)} {oc17 kV17 dc17 pm17 cd17 ct17 : Value}
    {f18 : Addr} {od18 an18 : Option Addr} {sl18 : Array (Option Value)} {oc18 kV18 dc18 pm18 cd18 ct18 : Value}
    {f19 : Addr} {od19 an19 : Option Addr} {sl19 : Array (Option Value)} {oc19 kV19 dc19 pm19 cd19 ct19 : Value}
    {f20 : Addr} {od20 an20 : Option Addr} {sl20 : Array (Option Value)} {oc20 kV20 dc20 pm20 cd20 ct20 : Value}
    {f21 : Addr} {od21 an21 : Option Addr} {sl21 : Array (Option Value)} {oc21 kV21 dc21 pm21 cd21 ct21 : Value}
    {f22 : Addr} {od22 an22 : Option Addr} {sl22 : Array (Option Value)} {oc22 kV22 dc22 pm22 cd22 ct22 : Value}
    {f23 : Addr} {od23 an23 : Option Addr} {sl23 : Array (Option Value)} {oc23 kV23 dc23 pm23 cd23 ct23 : Value}
    {f24 : Addr} {od24 an24 : Option Addr} {sl24 : Array (Option Value)} {oc24 kV24 dc24 pm24 cd24 ct24 : Value}
    {f25 : Addr} {od25 an25 : Option Addr} {sl25 : Array (Option Value)} {oc25 kV25 dc25 pm25 cd25 ct25 : Value}
    {f26 : Addr} {od26 an26 : Option Addr} {sl26 : Array (Option Value)} {oc26 kV26 dc26 pm26 cd26 ct26 : Value}
    {f27 : Addr} {od27 an27 : Option Addr} {sl27 : Array (Option Value)} {oc27 kV27 dc27 pm27 cd27 ct27 : Value}
    {f28 : Addr} {od28 an28 : Option Addr} {sl28 : Array (Option Value)} {oc28 kV28 dc28 pm28 cd28 ct28 : Value}
    {f29 : Addr} {od29 an29 : Option Addr} {sl29 : Array (Option Value)} {oc29 kV29 dc29 pm29 cd29 ct29 : Value}
    {f30 : Addr} {od30 an30 : Option Addr} {sl30 : Array (Option Value)} {oc30 kV30 dc30 pm30 cd30 ct30 : Value}
    {f31 : Addr} {od31 an31 : Option Addr} {sl31 : Array (Option Value)} {oc31 kV31 dc31 pm31 cd31 ct31 : Value}
    {f32 : Addr} {od32 an32 : Option Addr} {sl32 : Array (Option Value)} {oc32 kV32 dc32 pm32 cd32 ct32 : Value}
    {f33 : Addr} {od33 an33 : Option Addr} {sl33 : Array (Option Value)} {oc33 kV33 dc33 pm33 cd33 ct33 : Value}
    {f34 : Addr} {od34 an34 : Option Addr} {sl34 : Array (Option Value)} {oc34 kV34 dc34 pm34 cd34 ct34 : Value}
    {f35 : Addr} {od35 an35 : Option Addr} {sl35 : Array (Option Value)} {oc35 kV35 dc35 pm35 cd35 ct35 : Value}
    {C_Search : Addr}
    {f36 : Addr} {od36 an36 : Option Addr} {sl36 : Array (Option Value)} {oc36 kV36 dc36 pm36 cd36 ct36 : Value}
    {C_Prices : Addr}
    {f37 : Addr} {od37 an37 : Option Addr} {sl37 : Array (Option Value)} {oc37 kV37 dc37 pm37 cd37 ct37 : Value}
    {f38 : Addr} {od38 an38 : Option Addr} {sl38 : Array (Option Value)} {oc38 kV38 dc38 pm38 cd38 ct38 : Value}
    {C_Way : Addr}
    {f39 : Addr} {od39 an39 : Option Addr} {sl39 : Array (Option Value)} {oc39 kV39 dc39 pm39 cd39 ct39 : Value}
    {C_Canon : Addr}
    {f40 : Addr} {od40 an40 : Option Addr} {sl40 : Array (Option Value)} {oc40 kV40 dc40 pm40 cd40 ct40 : Value}
    {f41 : Addr} {od41 an41 : Option Addr} {sl41 : Array (Option Value)} {oc41 kV41 dc41 pm41 cd41 ct41 : Value}
    {f42 : Addr} {od42 an42 : Option Addr} {sl42 : Array (Option Value)} {oc42 kV42 dc42 pm42 cd42 ct42 : Value}
    {f43 : Addr} {od43 an43 : Option Addr} {sl43 : Array (Option Value)} {oc43 kV43 dc43 pm43 cd43 ct43 : Value}
    {f44 : Addr} {od44 an44 : Option Addr} {sl44 : Array (Option Value)} {oc44 kV44 dc44 pm44 cd44 ct44 : Value}
    {f45 : Addr} {od45 an45 : Option Addr} {sl45 : Array (Option Value)} {oc45 kV45 dc45 pm45 cd45 ct45 : Value}
    {f46 : Addr} {od46 an46 : Option Addr} {sl46 : Array (Option Value)} {oc46 kV46 dc46 pm46 cd46 ct46 : Value}
    {f47 : Addr} {od47 an47 : Option Addr} {sl47 : Array (Option Value)} {oc47 kV47 dc47 pm47 cd47 ct47 : Value}
    {f48 : Addr} {od48 an48 : Option Addr} {sl48 : Array (Option Value)} {oc48 kV48 dc48 pm48 cd48 ct48 : Value}
    {f49 : Addr} {od49 an49 : Option Addr} {sl49 : Array (Option Value)} {oc49 kV49 dc49 pm49 cd49 ct49 : Value}
    {f50 : Addr} {od50 an50 : Option Addr} {sl50 : Array (Option Value)} {oc50 kV50 dc50 pm50 cd50 ct50 : Value}
    {f51 : Addr} {od51 an51 : Option Addr} {sl51 : Array (Option Value)} {oc51 kV51 dc51 pm51 cd51 ct51 : Value}
    {f52 : Addr} {od52 an52 : Option Addr} {sl52 : Array (Option Value)} {oc52 kV52 dc52 pm52 cd52 ct52 : Value}
    {t_REST : Tok}
    {t_NOTE : Tok}
    {t_MOST_EVENTS : Tok}
    {t_MOST_WAYS : Tok}
    {t_MOST_TOLD : Tok}
    {t_STEPS_OF_A_SCALE : Tok}
    {t_TWICE_AS_LONG : Tok}
    {t_HALF_AS_LONG : Tok}
    {t_WRONG_NUMBERS : Tok}
    {t_TOO_MANY_WAYS : Tok}
    {t_NOT_POSSIBLE : Tok}
    {t_WRONG_COUNT : Tok}
    {t_NO_THEME : Tok}
    {t_MOST_OTHER_VOICES : Tok}
    {t_THEME : Tok}
    {t_PRICES : Tok}
    {t_WAY : Tok}
    {t_DROP : Tok}
    {t_VOICE : Tok}
    {t_COST : Tok}
    {t_BAD : Tok}
    {t_FIND : Tok}
    {A_REST_RANGES : Addr} {d_REST_RANGES : Option Addr} {n_REST_RANGES : Nat} {s_REST_RANGES' : Array (Option Value)}
    {A_REST_RANGES0 : Addr} {d_REST_RANGES0 : Option Addr} {n_REST_RANGES0 : Nat} {s_REST_RANGES0' : Array (Option Value)}
    {x_REST_RANGES0 y_REST_RANGES0 : Tok}
    {A_REST_RANGES1 : Addr} {d_REST_RANGES1 : Option Addr} {n_REST_RANGES1 : Nat} {s_REST_RANGES1' : Array (Option Value)}
    {x_REST_RANGES1 y_REST_RANGES1 : Tok}
    {A_NOTE_RANGES : Addr} {d_NOTE_RANGES : Option Addr} {n_NOTE_RANGES : Nat} {s_NOTE_RANGES' : Array (Option Value)}
    {A_NOTE_RANGES0 : Addr} {d_NOTE_RANGES0 : Option Addr} {n_NOTE_RANGES0 : Nat} {s_NOTE_RANGES0' : Array (Option Value)}
    {x_NOTE_RANGES0 y_NOTE_RANGES0 : Tok}
    {A_NOTE_RANGES1 : Addr} {d_NOTE_RANGES1 : Option Addr} {n_NOTE_RANGES1 : Nat} {s_NOTE_RANGES1' : Array (Option Value)}
    {x_NOTE_RANGES1 y_NOTE_RANGES1 : Tok}
    {A_NOTE_RANGES2 : Addr} {d_NOTE_RANGES2 : Option Addr} {n_NOTE_RANGES2 : Nat} {s_NOTE_RANGES2' : Array (Option Value)}
    {x_NOTE_RANGES2 y_NOTE_RANGES2 : Tok}
    {A_SEARCH_RANGES : Addr} {d_SEARCH_RANGES : Option Addr} {n_SEARCH_RANGES : Nat} {s_SEARCH_RANGES' : Array (Option Value)}
    {A_SEARCH_RANGES0 : Addr} {d_SEARCH_RANGES0 : Option Addr} {n_SEARCH_RANGES0 : Nat} {s_SEARCH_RANGES0' : Array (Option Value)}
    {x_SEARCH_RANGES0 y_SEARCH_RANGES0 : Tok}
    {A_SEARCH_RANGES1 : Addr} {d_SEARCH_RANGES1 : Option Addr} {n_SEARCH_RANGES1 : Nat} {s_SEARCH_RANGES1' : Array (Option Value)}
    {x_SEARCH_RANGES1 y_SEARCH_RANGES1 : Tok}
    {A_SEARCH_RANGES2 : Addr} {d_SEARCH_RANGES2 : Option Addr} {n_SEARCH_RANGES2 : Nat} {s_SEARCH_RANGES2' : Array (Option Value)}
    {x_SEARCH_RANGES2 y_SEARCH_RANGES2 : Tok}
    {A_SEARCH_RANGES3 : Addr} {d_SEARCH_RANGES3 : Option Addr} {n_SEARCH_RANGES3 : Nat} {s_SEARCH_RANGES3' : Array (Option Value)}
    {x_SEARCH_RANGES3 y_SEARCH_RANGES3 : Tok}
    {A_SEARCH_RANGES4 : Addr} {d_SEARCH_RANGES4 : Option Addr} {n_SEARCH_RANGES4 : Nat} {s_SEARCH_RANGES4' : Array (Option Value)}
    {x_SEARCH_RANGES4 y_SEARCH_RANGES4 : Tok}
    {A_SEARCH_RANGES5 : Addr} {d_SEARCH_RANGES5 : Option Addr} {n_SEARCH_RANGES5 : Nat} {s_SEARCH_RANGES5' : Array (Option Value)}
    {x_SEARCH_RANGES5 y_SEARCH_RANGES5 : Tok}
    {A_SHAPES : Addr} {d_SHAPES : Option Addr} {n_SHAPES : Nat} {s_SHAPES' : Array (Option Value)}
    {A_SHAPES0 : Addr} {d_SHAPES0 : Option Addr} {n_SHAPES0 : Nat} {s_SHAPES0' : Array (Option Value)}
    {x0_SHAPES0 x1_SHAPES0 x2_SHAPES0 : Tok}
    {A_SHAPES1 : Addr} {d_SHAPES1 : Option Addr} {n_SHAPES1 : Nat} {s_SHAPES1' : Array (Option Value)}
    {x0_SHAPES1 x1_SHAPES1 x2_SHAPES1 : Tok}
    {A_SHAPES2 : Addr} {d_SHAPES2 : Option Addr} {n_SHAPES2 : Nat} {s_SHAPES2' : Array (Option Value)}
    {x0_SHAPES2 x1_SHAPES2 x2_SHAPES2 : Tok}
    {A_SHAPES3 : Addr} {d_SHAPES3 : Option Addr} {n_SHAPES3 : Nat} {s_SHAPES3' : Array (Option Value)}
    {x0_SHAPES3 x1_SHAPES3 x2_SHAPES3 : Tok}
    {A_SHAPES4 : Addr} {d_SHAPES4 : Option Addr} {n_SHAPES4 : Nat} {s_SHAPES4' : Array (Option Value)}
    {x0_SHAPES4 x1_SHAPES4 x2_SHAPES4 : Tok}
    {A_SHAPES5 : Addr} {d_SHAPES5 : Option Addr} {n_SHAPES5 : Nat} {s_SHAPES5' : Array (Option Value)}
    {x0_SHAPES5 x1_SHAPES5 x2_SHAPES5 : Tok}
    {A_SHAPES6 : Addr} {d_SHAPES6 : Option Addr} {n_SHAPES6 : Nat} {s_SHAPES6' : Array (Option Value)}
    {x0_SHAPES6 x1_SHAPES6 x2_SHAPES6 : Tok}
    {A_SHAPES7 : Addr} {d_SHAPES7 : Option Addr} {n_SHAPES7 : Nat} {s_SHAPES7' : Array (Option Value)}
    {x0_SHAPES7 x1_SHAPES7 x2_SHAPES7 : Tok}
    {A_SHAPES8 : Addr} {d_SHAPES8 : Option Addr} {n_SHAPES8 : Nat} {s_SHAPES8' : Array (Option Value)}
    {x0_SHAPES8 x1_SHAPES8 x2_SHAPES8 : Tok}
    {A_SHAPES9 : Addr} {d_SHAPES9 : Option Addr} {n_SHAPES9 : Nat} {s_SHAPES9' : Array (Option Value)}
    {x0_SHAPES9 x1_SHAPES9 x2_SHAPES9 : Tok}
    {A_SHAPES10 : Addr} {d_SHAPES10 : Option Addr} {n_SHAPES10 : Nat} {s_SHAPES10' : Array (Option Value)}
    {x0_SHAPES10 x1_SHAPES10 x2_SHAPES10 : Tok}
    {A_SHAPES11 : Addr} {d_SHAPES11 : Option Addr} {n_SHAPES11 : Nat} {s_SHAPES11' : Array (Option Value)}
    {x0_SHAPES11 x1_SHAPES11 x2_SHAPES11 : Tok}
    {A_PARALLEL_GAPS : Addr} {d_PARALLEL_GAPS : Option Addr} {n_PARALLEL_GAPS : Nat} {s_PARALLEL_GAPS' : Array (Option Value)}
    {t0_PARALLEL_GAPS : Tok}
    {t1_PARALLEL_GAPS : Tok}
    {A_FIRST_PRICES : Addr} {d_FIRST_PRICES : Option Addr} {n_FIRST_PRICES : Nat} {s_FIRST_PRICES' : Array (Option Value)}
    {t0_FIRST_PRICES : Tok}
    {t1_FIRST_PRICES : Tok}
    {t2_FIRST_PRICES : Tok}
    {t3_FIRST_PRICES : Tok}
    {t4_FIRST_PRICES : Tok}
    {t5_FIRST_PRICES : Tok}
    {t6_FIRST_PRICES : Tok}
    {t7_FIRST_PRICES : Tok}
    {t8_FIRST_PRICES : Tok}
    {t9_FIRST_PRICES : Tok}
    {t10_FIRST_PRICES : Tok}
    {t11_FIRST_PRICES : Tok}
    {t12_FIRST_PRICES : Tok}
    {t13_FIRST_PRICES : Tok}
    {t14_FIRST_PRICES : Tok}
    {t15_FIRST_PRICES : Tok}
    {A_WAY_RANGES : Addr} {d_WAY_RANGES : Option Addr} {n_WAY_RANGES : Nat} {s_WAY_RANGES' : Array (Option Value)}
    {A_WAY_RANGES0 : Addr} {d_WAY_RANGES0 : Option Addr} {n_WAY_RANGES0 : Nat} {s_WAY_RANGES0' : Array (Option Value)}
    {x_WAY_RANGES0 y_WAY_RANGES0 : Tok}
    {A_WAY_RANGES1 : Addr} {d_WAY_RANGES1 : Option Addr} {n_WAY_RANGES1 : Nat} {s_WAY_RANGES1' : Array (Option Value)}
    {x_WAY_RANGES1 y_WAY_RANGES1 : Tok}
    {A_WAY_RANGES2 : Addr} {d_WAY_RANGES2 : Option Addr} {n_WAY_RANGES2 : Nat} {s_WAY_RANGES2' : Array (Option Value)}
    {x_WAY_RANGES2 y_WAY_RANGES2 : Tok}
    {A_WAY_RANGES3 : Addr} {d_WAY_RANGES3 : Option Addr} {n_WAY_RANGES3 : Nat} {s_WAY_RANGES3' : Array (Option Value)}
    {x_WAY_RANGES3 y_WAY_RANGES3 : Tok}
    {A_WAY_RANGES4 : Addr} {d_WAY_RANGES4 : Option Addr} {n_WAY_RANGES4 : Nat} {s_WAY_RANGES4' : Array (Option Value)}
    {x_WAY_RANGES4 y_WAY_RANGES4 : Tok}
    {A_ROUND_RANGES : Addr} {d_ROUND_RANGES : Option Addr} {n_ROUND_RANGES : Nat} {s_ROUND_RANGES' : Array (Option Value)}
    {A_ROUND_RANGES0 : Addr} {d_ROUND_RANGES0 : Option Addr} {n_ROUND_RANGES0 : Nat} {s_ROUND_RANGES0' : Array (Option Value)}
    {x_ROUND_RANGES0 y_ROUND_RANGES0 : Tok}
    {A_ROUND_RANGES1 : Addr} {d_ROUND_RANGES1 : Option Addr} {n_ROUND_RANGES1 : Nat} {s_ROUND_RANGES1' : Array (Option Value)}
    {x_ROUND_RANGES1 y_ROUND_RANGES1 : Tok}
    (X : K.In h) (G : h.Ns mainGlobals mg) (hfa : mg "answers" = some (.ref fa))
    (a1 : PySem.W.nsIn K mainGlobals "within" = some (some (.ref f1)))
    (l1 : K.lookup f1 = some ⟨oc1, od1, .func (PySem.W.fnOf "within" "within" (defArgs s_within) (defBody s_within) (defScope s_within) .none kV1 dc1 pm1 an1 cd1 ct1), sl1⟩)
    (c1 : PySem.W.codeIn K cd1 "within" = true)
    (k1 : PySem.W.keepIn K (.ref f1) = true)
    (a2 : PySem.W.nsIn K mainGlobals "all_within" = some (some (.ref f2)))
    (l2 : K.lookup f2 = some ⟨oc2, od2, .func (PySem.W.fnOf "all_within" "all_within" (defArgs s_all_within) (defBody s_all_within) (defScope s_all_within) .none kV2 dc2 pm2 an2 cd2 ct2), sl2⟩)
    (c2 : PySem.W.codeIn K cd2 "all_within" = true)
    (k2 : PySem.W.keepIn K (.ref f2) = true)
    (a3 : PySem.W.nsIn K mainGlobals "is_note" = some (some (.ref f3)))
    (l3 : K.lookup f3 = some ⟨oc3, od3, .func (PySem.W.fnOf "is_note" "is_note" (defArgs s_is_note) (defBody s_is_note) (defScope s_is_note) .none kV3 dc3 pm3 an3 cd3 ct3), sl3⟩)
    (c3 : PySem.W.codeIn K cd3 "is_note" = true)
    (k3 : PySem.W.keepIn K (.ref f3) = true)
    (a4 : PySem.W.nsIn K mainGlobals "length_of" = some (some (.ref f4)))
    (l4 : K.lookup f4 = some ⟨oc4, od4, .func (PySem.W.fnOf "length_of" "length_of" (defArgs s_length_of) (defBody s_length_of) (defScope s_length_of) .none kV4 dc4 pm4 an4 cd4 ct4), sl4⟩)
    (c4 : PySem.W.codeIn K cd4 "length_of" = true)
    (k4 : PySem.W.keepIn K (.ref f4) = true)
    (a5 : PySem.W.nsIn K mainGlobals "step_of" = some (some (.ref f5)))
    (l5 : K.lookup f5 = some ⟨oc5, od5, .func (PySem.W.fnOf "step_of" "step_of" (defArgs s_step_of) (defBody s_step_of) (defScope s_step_of) .none kV5 dc5 pm5 an5 cd5 ct5), sl5⟩)
    (c5 : PySem.W.codeIn K cd5 "step_of" = true)
    (k5 : PySem.W.keepIn K (.ref f5) = true)
    (a6 : PySem.W.nsIn K mainGlobals "event_ranges" = some (some (.ref f6)))
    (l6 : K.lookup f6 = some ⟨oc6, od6, .func (PySem.W.fnOf "event_ranges" "event_ranges" (defArgs s_event_ranges) (defBody s_event_ranges) (defScope s_event_ranges) .none kV6 dc6 pm6 an6 cd6 ct6), sl6⟩)
    (c6 : PySem.W.codeIn K cd6 "event_ranges" = true)
    (k6 : PySem.W.keepIn K (.ref f6) = true)
    (a7 : PySem.W.nsIn K mainGlobals "read_events" = some (some (.ref f7)))
    (l7 : K.lookup f7 = some ⟨oc7, od7, .func (PySem.W.fnOf "read_events" "read_events" (defArgs s_read_events) (defBody s_read_events) (defScope s_read_events) .none kV7 dc7 pm7 an7 cd7 ct7), sl7⟩)
    (c7 : PySem.W.codeIn K cd7 "read_events" = true)
    (k7 : PySem.W.keepIn K (.ref f7) = true)
    (a8 : PySem.W.nsIn K mainGlobals "write_events" = some (some (.ref f8)))
    (l8 : K.lookup f8 = some ⟨oc8, od8, .func (PySem.W.fnOf "write_events" "write_events" (defArgs s_write_events) (defBody s_write_events) (defScope s_write_events) .none kV8 dc8 pm8 an8 cd8 ct8), sl8⟩)
    (c8 : PySem.W.codeIn K cd8 "write_events" = true)
    (k8 : PySem.W.keepIn K (.ref f8) = true)
    (a9 : PySem.W.nsIn K mainGlobals "whole_length" = some (some (.ref f9)))
    (l9 : K.lookup f9 = some ⟨oc9, od9, .func (PySem.W.fnOf "whole_length" "whole_length" (defArgs s_whole_length) (defBody s_whole_length) (defScope s_whole_length) .none kV9 dc9 pm9 an9 cd9 ct9), sl9⟩)
    (c9 : PySem.W.codeIn K cd9 "whole_length" = true)
    (k9 : PySem.W.keepIn K (.ref f9) = true)
    (a10 : PySem.W.nsIn K mainGlobals "first_step" = some (some (.ref f10)))
    (l10 : K.lookup f10 = some ⟨oc10, od10, .func (PySem.W.fnOf "first_step" "first_step" (defArgs s_first_step) (defBody s_first_step) (defScope s_first_step) .none kV10 dc10 pm10 an10 cd10 ct10), sl10⟩)
    (c10 : PySem.W.codeIn K cd10 "first_step" = true)
    (k10 : PySem.W.keepIn K (.ref f10) = true)
    (a11 : PySem.W.nsIn K mainGlobals "read_search" = some (some (.ref f11)))
    (l11 : K.lookup f11 = some ⟨oc11, od11, .func (PySem.W.fnOf "read_search" "read_search" (defArgs s_read_search) (defBody s_read_search) (defScope s_read_search) .none kV11 dc11 pm11 an11 cd11 ct11), sl11⟩)
    (c11 : PySem.W.codeIn K cd11 "read_search" = true)
    (k11 : PySem.W.keepIn K (.ref f11) = true)
    (a12 : PySem.W.nsIn K mainGlobals "has_too_many_ways" = some (some (.ref f12)))
    (l12 : K.lookup f12 = some ⟨oc12, od12, .func (PySem.W.fnOf "has_too_many_ways" "has_too_many_ways" (defArgs s_has_too_many_ways) (defBody s_has_too_many_ways) (defScope s_has_too_many_ways) .none kV12 dc12 pm12 an12 cd12 ct12), sl12⟩)
    (c12 : PySem.W.codeIn K cd12 "has_too_many_ways" = true)
    (k12 : PySem.W.keepIn K (.ref f12) = true)
    (a13 : PySem.W.nsIn K mainGlobals "ways_to_try" = some (some (.ref f13)))
    (l13 : K.lookup f13 = some ⟨oc13, od13, .func (PySem.W.fnOf "ways_to_try" "ways_to_try" (defArgs s_ways_to_try) (defBody s_ways_to_try) (defScope s_ways_to_try) .none kV13 dc13 pm13 an13 cd13 ct13), sl13⟩)
    (c13 : PySem.W.codeIn K cd13 "ways_to_try" = true)
    (k13 : PySem.W.keepIn K (.ref f13) = true)
    (a14 : PySem.W.nsIn K mainGlobals "cost_of_found" = some (some (.ref f14)))
    (l14 : K.lookup f14 = some ⟨oc14, od14, .func (PySem.W.fnOf "cost_of_found" "cost_of_found" (defArgs s_cost_of_found) (defBody s_cost_of_found) (defScope s_cost_of_found) .none kV14 dc14 pm14 an14 cd14 ct14), sl14⟩)
    (c14 : PySem.W.codeIn K cd14 "cost_of_found" = true)
    (k14 : PySem.W.keepIn K (.ref f14) = true)
    (a15 : PySem.W.nsIn K mainGlobals "write_found" = some (some (.ref f15)))
    (l15 : K.lookup f15 = some ⟨oc15, od15, .func (PySem.W.fnOf "write_found" "write_found" (defArgs s_write_found) (defBody s_write_found) (defScope s_write_found) .none kV15 dc15 pm15 an15 cd15 ct15), sl15⟩)
    (c15 : PySem.W.codeIn K cd15 "write_found" = true)
    (k15 : PySem.W.keepIn K (.ref f15) = true)
    (a16 : PySem.W.nsIn K mainGlobals "laid" = some (some (.ref f16)))
    (l16 : K.lookup f16 = some ⟨oc16, od16, .func (PySem.W.fnOf "laid" "laid" (defArgs s_laid) (defBody s_laid) (defScope s_laid) .none kV16 dc16 pm16 an16 cd16 ct16), sl16⟩)
    (c16 : PySem.W.codeIn K cd16 "laid" = true)
    (k16 : PySem.W.keepIn K (.ref f16) = true)
    (a17 : PySem.W.nsIn K mainGlobals "beginnings" = some (some (.ref f17)))
    (l17 : K.lookup f17 = some ⟨oc17, od17, .func (PySem.W.fnOf "beginnings" "beginnings" (defArgs s_beginnings) (defBody s_beginnings) (defScope s_beginnings) .none kV17 dc17 pm17 an17 cd17 ct17), sl17⟩)
    (c17 : PySem.W.codeIn K cd17 "beginnings" = true)
    (k17 : PySem.W.keepIn K (.ref f17) = true)
    (a18 : PySem.W.nsIn K mainGlobals "steps_on" = some (some (.ref f18)))
    (l18 : K.lookup f18 = some ⟨oc18, od18, .func (PySem.W.fnOf "steps_on" "steps_on" (defArgs s_steps_on) (defBody s_steps_on) (defScope s_steps_on) .none kV18 dc18 pm18 an18 cd18 ct18), sl18⟩)
    (c18 : PySem.W.codeIn K cd18 "steps_on" = true)
    (k18 : PySem.W.keepIn K (.ref f18) = true)
    (a19 : PySem.W.nsIn K mainGlobals "step_at" = some (some (.ref f19)))
    (l19 : K.lookup f19 = some ⟨oc19, od19, .func (PySem.W.fnOf "step_at" "step_at" (defArgs s_step_at) (defBody s_step_at) (defScope s_step_at) .none kV19 dc19 pm19 an19 cd19 ct19), sl19⟩)
    (c19 : PySem.W.codeIn K cd19 "step_at" = true)
    (k19 : PySem.W.keepIn K (.ref f19) = true)
    (a20 : PySem.W.nsIn K mainGlobals "what_is_left" = some (some (.ref f20)))
    (l20 : K.lookup f20 = some ⟨oc20, od20, .func (PySem.W.fnOf "what_is_left" "what_is_left" (defArgs s_what_is_left) (defBody s_what_is_left) (defScope s_what_is_left) .none kV20 dc20 pm20 an20 cd20 ct20), sl20⟩)
    (c20 : PySem.W.codeIn K cd20 "what_is_left" = true)
    (k20 : PySem.W.keepIn K (.ref f20) = true)
    (a21 : PySem.W.nsIn K mainGlobals "are_parallel" = some (some (.ref f21)))
    (l21 : K.lookup f21 = some ⟨oc21, od21, .func (PySem.W.fnOf "are_parallel" "are_parallel" (defArgs s_are_parallel) (defBody s_are_parallel) (defScope s_are_parallel) .none kV21 dc21 pm21 an21 cd21 ct21), sl21⟩)
    (c21 : PySem.W.codeIn K cd21 "are_parallel" = true)
    (k21 : PySem.W.keepIn K (.ref f21) = true)
    (a22 : PySem.W.nsIn K mainGlobals "meeting_costs" = some (some (.ref f22)))
    (l22 : K.lookup f22 = some ⟨oc22, od22, .func (PySem.W.fnOf "meeting_costs" "meeting_costs" (defArgs s_meeting_costs) (defBody s_meeting_costs) (defScope s_meeting_costs) .none kV22 dc22 pm22 an22 cd22 ct22), sl22⟩)
    (c22 : PySem.W.codeIn K cd22 "meeting_costs" = true)
    (k22 : PySem.W.keepIn K (.ref f22) = true)
    (a23 : PySem.W.nsIn K mainGlobals "cost_of_two" = some (some (.ref f23)))
    (l23 : K.lookup f23 = some ⟨oc23, od23, .func (PySem.W.fnOf "cost_of_two" "cost_of_two" (defArgs s_cost_of_two) (defBody s_cost_of_two) (defScope s_cost_of_two) .none kV23 dc23 pm23 an23 cd23 ct23), sl23⟩)
    (c23 : PySem.W.codeIn K cd23 "cost_of_two" = true)
    (k23 : PySem.W.keepIn K (.ref f23) = true)
    (a24 : PySem.W.nsIn K mainGlobals "cost_against_all" = some (some (.ref f24)))
    (l24 : K.lookup f24 = some ⟨oc24, od24, .func (PySem.W.fnOf "cost_against_all" "cost_against_all" (defArgs s_cost_against_all) (defBody s_cost_against_all) (defScope s_cost_against_all) .none kV24 dc24 pm24 an24 cd24 ct24), sl24⟩)
    (c24 : PySem.W.codeIn K cd24 "cost_against_all" = true)
    (k24 : PySem.W.keepIn K (.ref f24) = true)
    (a25 : PySem.W.nsIn K mainGlobals "cost_of_all" = some (some (.ref f25)))
    (l25 : K.lookup f25 = some ⟨oc25, od25, .func (PySem.W.fnOf "cost_of_all" "cost_of_all" (defArgs s_cost_of_all) (defBody s_cost_of_all) (defScope s_cost_of_all) .none kV25 dc25 pm25 an25 cd25 ct25), sl25⟩)
    (c25 : PySem.W.codeIn K cd25 "cost_of_all" = true)
    (k25 : PySem.W.keepIn K (.ref f25) = true)
    (a26 : PySem.W.nsIn K mainGlobals "first_prices" = some (some (.ref f26)))
    (l26 : K.lookup f26 = some ⟨oc26, od26, .func (PySem.W.fnOf "first_prices" "first_prices" (defArgs s_first_prices) (defBody s_first_prices) (defScope s_first_prices) .none kV26 dc26 pm26 an26 cd26 ct26), sl26⟩)
    (c26 : PySem.W.codeIn K cd26 "first_prices" = true)
    (k26 : PySem.W.keepIn K (.ref f26) = true)
    (a27 : PySem.W.nsIn K mainGlobals "read_prices" = some (some (.ref f27)))
    (l27 : K.lookup f27 = some ⟨oc27, od27, .func (PySem.W.fnOf "read_prices" "read_prices" (defArgs s_read_prices) (defBody s_read_prices) (defScope s_read_prices) .none kV27 dc27 pm27 an27 cd27 ct27), sl27⟩)
    (c27 : PySem.W.codeIn K cd27 "read_prices" = true)
    (k27 : PySem.W.keepIn K (.ref f27) = true)
    (a28 : PySem.W.nsIn K mainGlobals "read_way" = some (some (.ref f28)))
    (l28 : K.lookup f28 = some ⟨oc28, od28, .func (PySem.W.fnOf "read_way" "read_way" (defArgs s_read_way) (defBody s_read_way) (defScope s_read_way) .none kV28 dc28 pm28 an28 cd28 ct28), sl28⟩)
    (c28 : PySem.W.codeIn K cd28 "read_way" = true)
    (k28 : PySem.W.keepIn K (.ref f28) = true)
    (a29 : PySem.W.nsIn K mainGlobals "can_be_had" = some (some (.ref f29)))
    (l29 : K.lookup f29 = some ⟨oc29, od29, .func (PySem.W.fnOf "can_be_had" "can_be_had" (defArgs s_can_be_had) (defBody s_can_be_had) (defScope s_can_be_had) .none kV29 dc29 pm29 an29 cd29 ct29), sl29⟩)
    (c29 : PySem.W.codeIn K cd29 "can_be_had" = true)
    (k29 : PySem.W.keepIn K (.ref f29) = true)
    (a30 : PySem.W.nsIn K mainGlobals "events_by_way" = some (some (.ref f30)))
    (l30 : K.lookup f30 = some ⟨oc30, od30, .func (PySem.W.fnOf "events_by_way" "events_by_way" (defArgs s_events_by_way) (defBody s_events_by_way) (defScope s_events_by_way) .none kV30 dc30 pm30 an30 cd30 ct30), sl30⟩)
    (c30 : PySem.W.codeIn K cd30 "events_by_way" = true)
    (k30 : PySem.W.keepIn K (.ref f30) = true)
    (a31 : PySem.W.nsIn K mainGlobals "event_by_way" = some (some (.ref f31)))
    (l31 : K.lookup f31 = some ⟨oc31, od31, .func (PySem.W.fnOf "event_by_way" "event_by_way" (defArgs s_event_by_way) (defBody s_event_by_way) (defScope s_event_by_way) .none kV31 dc31 pm31 an31 cd31 ct31), sl31⟩)
    (c31 : PySem.W.codeIn K cd31 "event_by_way" = true)
    (k31 : PySem.W.keepIn K (.ref f31) = true)
    (a32 : PySem.W.nsIn K mainGlobals "step_by_way" = some (some (.ref f32)))
    (l32 : K.lookup f32 = some ⟨oc32, od32, .func (PySem.W.fnOf "step_by_way" "step_by_way" (defArgs s_step_by_way) (defBody s_step_by_way) (defScope s_step_by_way) .none kV32 dc32 pm32 an32 cd32 ct32), sl32⟩)
    (c32 : PySem.W.codeIn K cd32 "step_by_way" = true)
    (k32 : PySem.W.keepIn K (.ref f32) = true)
    (a33 : PySem.W.nsIn K mainGlobals "length_by_way" = some (some (.ref f33)))
    (l33 : K.lookup f33 = some ⟨oc33, od33, .func (PySem.W.fnOf "length_by_way" "length_by_way" (defArgs s_length_by_way) (defBody s_length_by_way) (defScope s_length_by_way) .none kV33 dc33 pm33 an33 cd33 ct33), sl33⟩)
    (c33 : PySem.W.codeIn K cd33 "length_by_way" = true)
    (k33 : PySem.W.keepIn K (.ref f33) = true)
    (a34 : PySem.W.nsIn K mainGlobals "answers" = some (some (.ref f34)))
    (l34 : K.lookup f34 = some ⟨oc34, od34, .func (PySem.W.fnOf "answers" "answers" (defArgs s_answers) (defBody s_answers) (defScope s_answers) .none kV34 dc34 pm34 an34 cd34 ct34), sl34⟩)
    (c34 : PySem.W.codeIn K cd34 "answers" = true)
    (k34 : PySem.W.keepIn K (.ref f34) = true)
    (a35 : PySem.W.nsIn K mainGlobals "answer_of" = some (some (.ref f35)))
    (l35 : K.lookup f35 = some ⟨oc35, od35, .func (PySem.W.fnOf "answer_of" "answer_of" (defArgs s_answer_of) (defBody s_answer_of) (defScope s_answer_of) .none kV35 dc35 pm35 an35 cd35 ct35), sl35⟩)
    (c35 : PySem.W.codeIn K cd35 "answer_of" = true)
    (k35 : PySem.W.keepIn K (.ref f35) = true)
    (aC_Search : PySem.W.nsIn K mainGlobals "Search" = some (some (.ref C_Search)))
    (pgC_Search : PySem.W.plainGet K C_Search Str.empty = true)
    (hdC_Search : PySem.W.hasDictIn K C_Search = true)
    (poC_Search : PySem.W.plainOver K C_Search = true)
    (saC_Search : PySem.W.findIn K (.ref C_Search) "__setattr__" = some (some (.builtin "object.__setattr__")))
    (mkC_Search : PySem.W.makesIn K C_Search = true)
    (kcC_Search : PySem.W.keepIn K (.ref C_Search) = true)
    (nC_Search_most : PySem.W.findIn K (.ref C_Search) "most" = some none)
    (nC_Search_first_later : PySem.W.findIn K (.ref C_Search) "first_later" = some none)
    (nC_Search_last_later : PySem.W.findIn K (.ref C_Search) "last_later" = some none)
    (nC_Search_later_step : PySem.W.findIn K (.ref C_Search) "later_step" = some none)
    (nC_Search_lowest : PySem.W.findIn K (.ref C_Search) "lowest" = some none)
    (nC_Search_highest : PySem.W.findIn K (.ref C_Search) "highest" = some none)
    (a36 : PySem.W.findIn K (.ref C_Search) "__init__" = some (some (.ref f36)))
    (i36 : PySem.W.isFn K (.ref f36) = true)
    (l36 : K.lookup f36 = some ⟨oc36, od36, .func (PySem.W.fnOf "__init__" "Search.__init__" (defArgs s_Search_init) (defBody s_Search_init) (defScope s_Search_init) .none kV36 dc36 pm36 an36 cd36 ct36), sl36⟩)
    (c36 : PySem.W.codeIn K cd36 "Search.__init__" = true)
    (k36 : PySem.W.keepIn K (.ref f36) = true)
    (aC_Prices : PySem.W.nsIn K mainGlobals "Prices" = some (some (.ref C_Prices)))
    (pgC_Prices : PySem.W.plainGet K C_Prices Str.empty = true)
    (hdC_Prices : PySem.W.hasDictIn K C_Prices = true)
    (poC_Prices : PySem.W.plainOver K C_Prices = true)
    (saC_Prices : PySem.W.findIn K (.ref C_Prices) "__setattr__" = some (some (.builtin "object.__setattr__")))
    (mkC_Prices : PySem.W.makesIn K C_Prices = true)
    (kcC_Prices : PySem.W.keepIn K (.ref C_Prices) = true)
    (nC_Prices_on_beat : PySem.W.findIn K (.ref C_Prices) "on_beat" = some none)
    (nC_Prices_off_beat : PySem.W.findIn K (.ref C_Prices) "off_beat" = some none)
    (nC_Prices_parallels : PySem.W.findIn K (.ref C_Prices) "parallels" = some none)
    (nC_Prices_beat : PySem.W.findIn K (.ref C_Prices) "beat" = some none)
    (a37 : PySem.W.findIn K (.ref C_Prices) "__init__" = some (some (.ref f37)))
    (i37 : PySem.W.isFn K (.ref f37) = true)
    (l37 : K.lookup f37 = some ⟨oc37, od37, .func (PySem.W.fnOf "__init__" "Prices.__init__" (defArgs s_Prices_init) (defBody s_Prices_init) (defScope s_Prices_init) .none kV37 dc37 pm37 an37 cd37 ct37), sl37⟩)
    (c37 : PySem.W.codeIn K cd37 "Prices.__init__" = true)
    (k37 : PySem.W.keepIn K (.ref f37) = true)
    (a38 : PySem.W.findIn K (.ref C_Prices) "price_of_gap" = some (some (.ref f38)))
    (i38 : PySem.W.isFn K (.ref f38) = true)
    (l38 : K.lookup f38 = some ⟨oc38, od38, .func (PySem.W.fnOf "price_of_gap" "Prices.price_of_gap" (defArgs s_Prices_price_of_gap) (defBody s_Prices_price_of_gap) (defScope s_Prices_price_of_gap) .none kV38 dc38 pm38 an38 cd38 ct38), sl38⟩)
    (c38 : PySem.W.codeIn K cd38 "Prices.price_of_gap" = true)
    (k38 : PySem.W.keepIn K (.ref f38) = true)
    (aC_Way : PySem.W.nsIn K mainGlobals "Way" = some (some (.ref C_Way)))
    (pgC_Way : PySem.W.plainGet K C_Way Str.empty = true)
    (hdC_Way : PySem.W.hasDictIn K C_Way = true)
    (poC_Way : PySem.W.plainOver K C_Way = true)
    (saC_Way : PySem.W.findIn K (.ref C_Way) "__setattr__" = some (some (.builtin "object.__setattr__")))
    (mkC_Way : PySem.W.makesIn K C_Way = true)
    (kcC_Way : PySem.W.keepIn K (.ref C_Way) = true)
    (nC_Way_later : PySem.W.findIn K (.ref C_Way) "later" = some none)
    (nC_Way_higher : PySem.W.findIn K (.ref C_Way) "higher" = some none)
    (nC_Way_upside_down : PySem.W.findIn K (.ref C_Way) "upside_down" = some none)
    (nC_Way_backwards : PySem.W.findIn K (.ref C_Way) "backwards" = some none)
    (nC_Way_lengths : PySem.W.findIn K (.ref C_Way) "lengths" = some none)
    (a39 : PySem.W.findIn K (.ref C_Way) "__init__" = some (some (.ref f39)))
    (i39 : PySem.W.isFn K (.ref f39) = true)
    (l39 : K.lookup f39 = some ⟨oc39, od39, .func (PySem.W.fnOf "__init__" "Way.__init__" (defArgs s_Way_init) (defBody s_Way_init) (defScope s_Way_init) .none kV39 dc39 pm39 an39 cd39 ct39), sl39⟩)
    (c39 : PySem.W.codeIn K cd39 "Way.__init__" = true)
    (k39 : PySem.W.keepIn K (.ref f39) = true)
    (aC_Canon : PySem.W.nsIn K mainGlobals "Canon" = some (some (.ref C_Canon)))
    (pgC_Canon : PySem.W.plainGet K C_Canon Str.empty = true)
    (hdC_Canon : PySem.W.hasDictIn K C_Canon = true)
    (poC_Canon : PySem.W.plainOver K C_Canon = true)
    (saC_Canon : PySem.W.findIn K (.ref C_Canon) "__setattr__" = some (some (.builtin "object.__setattr__")))
    (mkC_Canon : PySem.W.makesIn K C_Canon = true)
    (kcC_Canon : PySem.W.keepIn K (.ref C_Canon) = true)
    (nC_Canon_events : PySem.W.findIn K (.ref C_Canon) "events" = some none)
    (nC_Canon_other_voices : PySem.W.findIn K (.ref C_Canon) "other_voices" = some none)
    (nC_Canon_prices : PySem.W.findIn K (.ref C_Canon) "prices" = some none)
    (a40 : PySem.W.findIn K (.ref C_Canon) "__init__" = some (some (.ref f40)))
    (i40 : PySem.W.isFn K (.ref f40) = true)
    (l40 : K.lookup f40 = some ⟨oc40, od40, .func (PySem.W.fnOf "__init__" "Canon.__init__" (defArgs s_Canon_init) (defBody s_Canon_init) (defScope s_Canon_init) .none kV40 dc40 pm40 an40 cd40 ct40), sl40⟩)
    (c40 : PySem.W.codeIn K cd40 "Canon.__init__" = true)
    (k40 : PySem.W.keepIn K (.ref f40) = true)
    (a41 : PySem.W.findIn K (.ref C_Canon) "take_theme" = some (some (.ref f41)))
    (i41 : PySem.W.isFn K (.ref f41) = true)
    (l41 : K.lookup f41 = some ⟨oc41, od41, .func (PySem.W.fnOf "take_theme" "Canon.take_theme" (defArgs s_Canon_take_theme) (defBody s_Canon_take_theme) (defScope s_Canon_take_theme) .none kV41 dc41 pm41 an41 cd41 ct41), sl41⟩)
    (c41 : PySem.W.codeIn K cd41 "Canon.take_theme" = true)
    (k41 : PySem.W.keepIn K (.ref f41) = true)
    (a42 : PySem.W.findIn K (.ref C_Canon) "take_prices" = some (some (.ref f42)))
    (i42 : PySem.W.isFn K (.ref f42) = true)
    (l42 : K.lookup f42 = some ⟨oc42, od42, .func (PySem.W.fnOf "take_prices" "Canon.take_prices" (defArgs s_Canon_take_prices) (defBody s_Canon_take_prices) (defScope s_Canon_take_prices) .none kV42 dc42 pm42 an42 cd42 ct42), sl42⟩)
    (c42 : PySem.W.codeIn K cd42 "Canon.take_prices" = true)
    (k42 : PySem.W.keepIn K (.ref f42) = true)
    (a43 : PySem.W.findIn K (.ref C_Canon) "add_way" = some (some (.ref f43)))
    (i43 : PySem.W.isFn K (.ref f43) = true)
    (l43 : K.lookup f43 = some ⟨oc43, od43, .func (PySem.W.fnOf "add_way" "Canon.add_way" (defArgs s_Canon_add_way) (defBody s_Canon_add_way) (defScope s_Canon_add_way) .none kV43 dc43 pm43 an43 cd43 ct43), sl43⟩)
    (c43 : PySem.W.codeIn K cd43 "Canon.add_way" = true)
    (k43 : PySem.W.keepIn K (.ref f43) = true)
    (a44 : PySem.W.findIn K (.ref C_Canon) "drop_last" = some (some (.ref f44)))
    (i44 : PySem.W.isFn K (.ref f44) = true)
    (l44 : K.lookup f44 = some ⟨oc44, od44, .func (PySem.W.fnOf "drop_last" "Canon.drop_last" (defArgs s_Canon_drop_last) (defBody s_Canon_drop_last) (defScope s_Canon_drop_last) .none kV44 dc44 pm44 an44 cd44 ct44), sl44⟩)
    (c44 : PySem.W.codeIn K cd44 "Canon.drop_last" = true)
    (k44 : PySem.W.keepIn K (.ref f44) = true)
    (a45 : PySem.W.findIn K (.ref C_Canon) "show_voice" = some (some (.ref f45)))
    (i45 : PySem.W.isFn K (.ref f45) = true)
    (l45 : K.lookup f45 = some ⟨oc45, od45, .func (PySem.W.fnOf "show_voice" "Canon.show_voice" (defArgs s_Canon_show_voice) (defBody s_Canon_show_voice) (defScope s_Canon_show_voice) .none kV45 dc45 pm45 an45 cd45 ct45), sl45⟩)
    (c45 : PySem.W.codeIn K cd45 "Canon.show_voice" = true)
    (k45 : PySem.W.keepIn K (.ref f45) = true)
    (a46 : PySem.W.findIn K (.ref C_Canon) "show_cost" = some (some (.ref f46)))
    (i46 : PySem.W.isFn K (.ref f46) = true)
    (l46 : K.lookup f46 = some ⟨oc46, od46, .func (PySem.W.fnOf "show_cost" "Canon.show_cost" (defArgs s_Canon_show_cost) (defBody s_Canon_show_cost) (defScope s_Canon_show_cost) .none kV46 dc46 pm46 an46 cd46 ct46), sl46⟩)
    (c46 : PySem.W.codeIn K cd46 "Canon.show_cost" = true)
    (k46 : PySem.W.keepIn K (.ref f46) = true)
    (a47 : PySem.W.findIn K (.ref C_Canon) "show_bad" = some (some (.ref f47)))
    (i47 : PySem.W.isFn K (.ref f47) = true)
    (l47 : K.lookup f47 = some ⟨oc47, od47, .func (PySem.W.fnOf "show_bad" "Canon.show_bad" (defArgs s_Canon_show_bad) (defBody s_Canon_show_bad) (defScope s_Canon_show_bad) .none kV47 dc47 pm47 an47 cd47 ct47), sl47⟩)
    (c47 : PySem.W.codeIn K cd47 "Canon.show_bad" = true)
    (k47 : PySem.W.keepIn K (.ref f47) = true)
    (a48 : PySem.W.findIn K (.ref C_Canon) "find_ways" = some (some (.ref f48)))
    (i48 : PySem.W.isFn K (.ref f48) = true)
    (l48 : K.lookup f48 = some ⟨oc48, od48, .func (PySem.W.fnOf "find_ways" "Canon.find_ways" (defArgs s_Canon_find_ways) (defBody s_Canon_find_ways) (defScope s_Canon_find_ways) .none kV48 dc48 pm48 an48 cd48 ct48), sl48⟩)
    (c48 : PySem.W.codeIn K cd48 "Canon.find_ways" = true)
    (k48 : PySem.W.keepIn K (.ref f48) = true)
    (a49 : PySem.W.findIn K (.ref C_Canon) "show_round" = some (some (.ref f49)))
    (i49 : PySem.W.isFn K (.ref f49) = true)
    (l49 : K.lookup f49 = some ⟨oc49, od49, .func (PySem.W.fnOf "show_round" "Canon.show_round" (defArgs s_Canon_show_round) (defBody s_Canon_show_round) (defScope s_Canon_show_round) .none kV49 dc49 pm49 an49 cd49 ct49), sl49⟩)
    (c49 : PySem.W.codeIn K cd49 "Canon.show_round" = true)
    (k49 : PySem.W.keepIn K (.ref f49) = true)
    (a50 : PySem.W.findIn K (.ref C_Canon) "all_voices" = some (some (.ref f50)))
    (i50 : PySem.W.isFn K (.ref f50) = true)
    (l50 : K.lookup f50 = some ⟨oc50, od50, .func (PySem.W.fnOf "all_voices" "Canon.all_voices" (defArgs s_Canon_all_voices) (defBody s_Canon_all_voices) (defScope s_Canon_all_voices) .none kV50 dc50 pm50 an50 cd50 ct50), sl50⟩)
    (c50 : PySem.W.codeIn K cd50 "Canon.all_voices" = true)
    (k50 : PySem.W.keepIn K (.ref f50) = true)
    (a51 : PySem.W.findIn K (.ref C_Canon) "voice_by_way" = some (some (.ref f51)))
    (i51 : PySem.W.isFn K (.ref f51) = true)
    (l51 : K.lookup f51 = some ⟨oc51, od51, .func (PySem.W.fnOf "voice_by_way" "Canon.voice_by_way" (defArgs s_Canon_voice_by_way) (defBody s_Canon_voice_by_way) (defScope s_Canon_voice_by_way) .none kV51 dc51 pm51 an51 cd51 ct51), sl51⟩)
    (c51 : PySem.W.codeIn K cd51 "Canon.voice_by_way" = true)
    (k51 : PySem.W.keepIn K (.ref f51) = true)
    (a52 : PySem.W.findIn K (.ref C_Canon) "found_by" = some (some (.ref f52)))
    (i52 : PySem.W.isFn K (.ref f52) = true)
    (l52 : K.lookup f52 = some ⟨oc52, od52, .func (PySem.W.fnOf "found_by" "Canon.found_by" (defArgs s_Canon_found_by) (defBody s_Canon_found_by) (defScope s_Canon_found_by) .none kV52 dc52 pm52 an52 cd52 ct52), sl52⟩)
    (c52 : PySem.W.codeIn K cd52 "Canon.found_by" = true)
    (k52 : PySem.W.keepIn K (.ref f52) = true)
    (z_len : PySem.W.nsIn K mainGlobals "len" = some none)
    (z_all : PySem.W.nsIn K mainGlobals "all" = some none)
    (z_zip : PySem.W.nsIn K mainGlobals "zip" = some none)
    (z_sum : PySem.W.nsIn K mainGlobals "sum" = some none)
    (z_abs : PySem.W.nsIn K mainGlobals "abs" = some none)
    (z_set : PySem.W.nsIn K mainGlobals "set" = some none)
    (z_sorted : PySem.W.nsIn K mainGlobals "sorted" = some none)
    (z_tuple : PySem.W.nsIn K mainGlobals "tuple" = some none)
    (z_enumerate : PySem.W.nsIn K mainGlobals "enumerate" = some none)
    (z_range : PySem.W.nsIn K mainGlobals "range" = some none)
    (v_REST : PySem.W.nsIn K mainGlobals "REST" = some (some (.int 0 t_REST)))
    (v_NOTE : PySem.W.nsIn K mainGlobals "NOTE" = some (some (.int 1 t_NOTE)))
    (v_MOST_EVENTS : PySem.W.nsIn K mainGlobals "MOST_EVENTS" = some (some (.int 16 t_MOST_EVENTS)))
    (v_MOST_WAYS : PySem.W.nsIn K mainGlobals "MOST_WAYS" = some (some (.int 400 t_MOST_WAYS)))
    (v_MOST_TOLD : PySem.W.nsIn K mainGlobals "MOST_TOLD" = some (some (.int 10 t_MOST_TOLD)))
    (v_STEPS_OF_A_SCALE : PySem.W.nsIn K mainGlobals "STEPS_OF_A_SCALE" = some (some (.int 7 t_STEPS_OF_A_SCALE)))
    (v_TWICE_AS_LONG : PySem.W.nsIn K mainGlobals "TWICE_AS_LONG" = some (some (.int 2 t_TWICE_AS_LONG)))
    (v_HALF_AS_LONG : PySem.W.nsIn K mainGlobals "HALF_AS_LONG" = some (some (.int 3 t_HALF_AS_LONG)))
    (v_WRONG_NUMBERS : PySem.W.nsIn K mainGlobals "WRONG_NUMBERS" = some (some (.int (-1) t_WRONG_NUMBERS)))
    (v_TOO_MANY_WAYS : PySem.W.nsIn K mainGlobals "TOO_MANY_WAYS" = some (some (.int (-2) t_TOO_MANY_WAYS)))
    (v_NOT_POSSIBLE : PySem.W.nsIn K mainGlobals "NOT_POSSIBLE" = some (some (.int (-3) t_NOT_POSSIBLE)))
    (v_WRONG_COUNT : PySem.W.nsIn K mainGlobals "WRONG_COUNT" = some (some (.int (-5) t_WRONG_COUNT)))
    (v_NO_THEME : PySem.W.nsIn K mainGlobals "NO_THEME" = some (some (.int (-7) t_NO_THEME)))
    (v_MOST_OTHER_VOICES : PySem.W.nsIn K mainGlobals "MOST_OTHER_VOICES" = some (some (.int 4 t_MOST_OTHER_VOICES)))
    (v_THEME : PySem.W.nsIn K mainGlobals "THEME" = some (some (.int 1 t_THEME)))
    (v_PRICES : PySem.W.nsIn K mainGlobals "PRICES" = some (some (.int 2 t_PRICES)))
    (v_WAY : PySem.W.nsIn K mainGlobals "WAY" = some (some (.int 3 t_WAY)))
    (v_DROP : PySem.W.nsIn K mainGlobals "DROP" = some (some (.int 4 t_DROP)))
    (v_VOICE : PySem.W.nsIn K mainGlobals "VOICE" = some (some (.int 5 t_VOICE)))
    (v_COST : PySem.W.nsIn K mainGlobals "COST" = some (some (.int 6 t_COST)))
    (v_BAD : PySem.W.nsIn K mainGlobals "BAD" = some (some (.int 7 t_BAD)))
    (v_FIND : PySem.W.nsIn K mainGlobals "FIND" = some (some (.int 8 t_FIND)))
    (v_REST_RANGES : PySem.W.nsIn K mainGlobals "REST_RANGES" = some (some (.ref A_REST_RANGES)))
    (w_REST_RANGES : K.lookup A_REST_RANGES = some ⟨.type "tuple", d_REST_RANGES, .seq #[.ref A_REST_RANGES0, .ref A_REST_RANGES1] n_REST_RANGES, s_REST_RANGES'⟩)
    (w_REST_RANGES0 : K.lookup A_REST_RANGES0 = some ⟨.type "tuple", d_REST_RANGES0, .seq #[.int 0 x_REST_RANGES0, .int 0 y_REST_RANGES0] n_REST_RANGES0, s_REST_RANGES0'⟩)
    (w_REST_RANGES1 : K.lookup A_REST_RANGES1 = some ⟨.type "tuple", d_REST_RANGES1, .seq #[.int 1 x_REST_RANGES1, .int 512 y_REST_RANGES1] n_REST_RANGES1, s_REST_RANGES1'⟩)
    (v_NOTE_RANGES : PySem.W.nsIn K mainGlobals "NOTE_RANGES" = some (some (.ref A_NOTE_RANGES)))
    (w_NOTE_RANGES : K.lookup A_NOTE_RANGES = some ⟨.type "tuple", d_NOTE_RANGES, .seq #[.ref A_NOTE_RANGES0, .ref A_NOTE_RANGES1, .ref A_NOTE_RANGES2] n_NOTE_RANGES, s_NOTE_RANGES'⟩)
    (w_NOTE_RANGES0 : K.lookup A_NOTE_RANGES0 = some ⟨.type "tuple", d_NOTE_RANGES0, .seq #[.int 1 x_NOTE_RANGES0, .int 1 y_NOTE_RANGES0] n_NOTE_RANGES0, s_NOTE_RANGES0'⟩)
    (w_NOTE_RANGES1 : K.lookup A_NOTE_RANGES1 = some ⟨.type "tuple", d_NOTE_RANGES1, .seq #[.int 0 x_NOTE_RANGES1, .int 69 y_NOTE_RANGES1] n_NOTE_RANGES1, s_NOTE_RANGES1'⟩)
    (w_NOTE_RANGES2 : K.lookup A_NOTE_RANGES2 = some ⟨.type "tuple", d_NOTE_RANGES2, .seq #[.int 1 x_NOTE_RANGES2, .int 512 y_NOTE_RANGES2] n_NOTE_RANGES2, s_NOTE_RANGES2'⟩)
    (v_SEARCH_RANGES : PySem.W.nsIn K mainGlobals "SEARCH_RANGES" = some (some (.ref A_SEARCH_RANGES)))
    (w_SEARCH_RANGES : K.lookup A_SEARCH_RANGES = some ⟨.type "tuple", d_SEARCH_RANGES, .seq #[.ref A_SEARCH_RANGES0, .ref A_SEARCH_RANGES1, .ref A_SEARCH_RANGES2, .ref A_SEARCH_RANGES3, .ref A_SEARCH_RANGES4, .ref A_SEARCH_RANGES5] n_SEARCH_RANGES, s_SEARCH_RANGES'⟩)
    (w_SEARCH_RANGES0 : K.lookup A_SEARCH_RANGES0 = some ⟨.type "tuple", d_SEARCH_RANGES0, .seq #[.int 0 x_SEARCH_RANGES0, .int 10000 y_SEARCH_RANGES0] n_SEARCH_RANGES0, s_SEARCH_RANGES0'⟩)
    (w_SEARCH_RANGES1 : K.lookup A_SEARCH_RANGES1 = some ⟨.type "tuple", d_SEARCH_RANGES1, .seq #[.int 0 x_SEARCH_RANGES1, .int 4096 y_SEARCH_RANGES1] n_SEARCH_RANGES1, s_SEARCH_RANGES1'⟩)
    (w_SEARCH_RANGES2 : K.lookup A_SEARCH_RANGES2 = some ⟨.type "tuple", d_SEARCH_RANGES2, .seq #[.int 0 x_SEARCH_RANGES2, .int 4096 y_SEARCH_RANGES2] n_SEARCH_RANGES2, s_SEARCH_RANGES2'⟩)
    (w_SEARCH_RANGES3 : K.lookup A_SEARCH_RANGES3 = some ⟨.type "tuple", d_SEARCH_RANGES3, .seq #[.int 1 x_SEARCH_RANGES3, .int 4096 y_SEARCH_RANGES3] n_SEARCH_RANGES3, s_SEARCH_RANGES3'⟩)
    (w_SEARCH_RANGES4 : K.lookup A_SEARCH_RANGES4 = some ⟨.type "tuple", d_SEARCH_RANGES4, .seq #[.int (-28) x_SEARCH_RANGES4, .int 28 y_SEARCH_RANGES4] n_SEARCH_RANGES4, s_SEARCH_RANGES4'⟩)
    (w_SEARCH_RANGES5 : K.lookup A_SEARCH_RANGES5 = some ⟨.type "tuple", d_SEARCH_RANGES5, .seq #[.int (-28) x_SEARCH_RANGES5, .int 28 y_SEARCH_RANGES5] n_SEARCH_RANGES5, s_SEARCH_RANGES5'⟩)
    (v_SHAPES : PySem.W.nsIn K mainGlobals "SHAPES" = some (some (.ref A_SHAPES)))
    (w_SHAPES : K.lookup A_SHAPES = some ⟨.type "tuple", d_SHAPES, .seq #[.ref A_SHAPES0, .ref A_SHAPES1, .ref A_SHAPES2, .ref A_SHAPES3, .ref A_SHAPES4, .ref A_SHAPES5, .ref A_SHAPES6, .ref A_SHAPES7, .ref A_SHAPES8, .ref A_SHAPES9, .ref A_SHAPES10, .ref A_SHAPES11] n_SHAPES, s_SHAPES'⟩)
    (w_SHAPES0 : K.lookup A_SHAPES0 = some ⟨.type "tuple", d_SHAPES0, .seq #[.int 0 x0_SHAPES0, .int 0 x1_SHAPES0, .int 1 x2_SHAPES0] n_SHAPES0, s_SHAPES0'⟩)
    (w_SHAPES1 : K.lookup A_SHAPES1 = some ⟨.type "tuple", d_SHAPES1, .seq #[.int 0 x0_SHAPES1, .int 0 x1_SHAPES1, .int 2 x2_SHAPES1] n_SHAPES1, s_SHAPES1'⟩)
    (w_SHAPES2 : K.lookup A_SHAPES2 = some ⟨.type "tuple", d_SHAPES2, .seq #[.int 0 x0_SHAPES2, .int 0 x1_SHAPES2, .int 3 x2_SHAPES2] n_SHAPES2, s_SHAPES2'⟩)
    (w_SHAPES3 : K.lookup A_SHAPES3 = some ⟨.type "tuple", d_SHAPES3, .seq #[.int 0 x0_SHAPES3, .int 1 x1_SHAPES3, .int 1 x2_SHAPES3] n_SHAPES3, s_SHAPES3'⟩)
    (w_SHAPES4 : K.lookup A_SHAPES4 = some ⟨.type "tuple", d_SHAPES4, .seq #[.int 0 x0_SHAPES4, .int 1 x1_SHAPES4, .int 2 x2_SHAPES4] n_SHAPES4, s_SHAPES4'⟩)
    (w_SHAPES5 : K.lookup A_SHAPES5 = some ⟨.type "tuple", d_SHAPES5, .seq #[.int 0 x0_SHAPES5, .int 1 x1_SHAPES5, .int 3 x2_SHAPES5] n_SHAPES5, s_SHAPES5'⟩)
    (w_SHAPES6 : K.lookup A_SHAPES6 = some ⟨.type "tuple", d_SHAPES6, .seq #[.int 1 x0_SHAPES6, .int 0 x1_SHAPES6, .int 1 x2_SHAPES6] n_SHAPES6, s_SHAPES6'⟩)
    (w_SHAPES7 : K.lookup A_SHAPES7 = some ⟨.type "tuple", d_SHAPES7, .seq #[.int 1 x0_SHAPES7, .int 0 x1_SHAPES7, .int 2 x2_SHAPES7] n_SHAPES7, s_SHAPES7'⟩)
    (w_SHAPES8 : K.lookup A_SHAPES8 = some ⟨.type "tuple", d_SHAPES8, .seq #[.int 1 x0_SHAPES8, .int 0 x1_SHAPES8, .int 3 x2_SHAPES8] n_SHAPES8, s_SHAPES8'⟩)
    (w_SHAPES9 : K.lookup A_SHAPES9 = some ⟨.type "tuple", d_SHAPES9, .seq #[.int 1 x0_SHAPES9, .int 1 x1_SHAPES9, .int 1 x2_SHAPES9] n_SHAPES9, s_SHAPES9'⟩)
    (w_SHAPES10 : K.lookup A_SHAPES10 = some ⟨.type "tuple", d_SHAPES10, .seq #[.int 1 x0_SHAPES10, .int 1 x1_SHAPES10, .int 2 x2_SHAPES10] n_SHAPES10, s_SHAPES10'⟩)
    (w_SHAPES11 : K.lookup A_SHAPES11 = some ⟨.type "tuple", d_SHAPES11, .seq #[.int 1 x0_SHAPES11, .int 1 x1_SHAPES11, .int 3 x2_SHAPES11] n_SHAPES11, s_SHAPES11'⟩)
    (v_PARALLEL_GAPS : PySem.W.nsIn K mainGlobals "PARALLEL_GAPS" = some (some (.ref A_PARALLEL_GAPS)))
    (w_PARALLEL_GAPS : K.lookup A_PARALLEL_GAPS = some ⟨.type "tuple", d_PARALLEL_GAPS, .seq #[.int 0 t0_PARALLEL_GAPS, .int 4 t1_PARALLEL_GAPS] n_PARALLEL_GAPS, s_PARALLEL_GAPS'⟩)
    (v_FIRST_PRICES : PySem.W.nsIn K mainGlobals "FIRST_PRICES" = some (some (.ref A_FIRST_PRICES)))
    (w_FIRST_PRICES : K.lookup A_FIRST_PRICES = some ⟨.type "tuple", d_FIRST_PRICES, .seq #[.int 0 t0_FIRST_PRICES, .int 10 t1_FIRST_PRICES, .int 0 t2_FIRST_PRICES, .int 6 t3_FIRST_PRICES, .int 0 t4_FIRST_PRICES, .int 0 t5_FIRST_PRICES, .int 10 t6_FIRST_PRICES, .int 0 t7_FIRST_PRICES, .int 3 t8_FIRST_PRICES, .int 0 t9_FIRST_PRICES, .int 2 t10_FIRST_PRICES, .int 0 t11_FIRST_PRICES, .int 0 t12_FIRST_PRICES, .int 3 t13_FIRST_PRICES, .int 8 t14_FIRST_PRICES, .int 16 t15_FIRST_PRICES] n_FIRST_PRICES, s_FIRST_PRICES'⟩)
    (v_WAY_RANGES : PySem.W.nsIn K mainGlobals "WAY_RANGES" = some (some (.ref A_WAY_RANGES)))
    (w_WAY_RANGES : K.lookup A_WAY_RANGES = some ⟨.type "tuple", d_WAY_RANGES, .seq #[.ref A_WAY_RANGES0, .ref A_WAY_RANGES1, .ref A_WAY_RANGES2, .ref A_WAY_RANGES3, .ref A_WAY_RANGES4] n_WAY_RANGES, s_WAY_RANGES'⟩)
    (w_WAY_RANGES0 : K.lookup A_WAY_RANGES0 = some ⟨.type "tuple", d_WAY_RANGES0, .seq #[.int 0 x_WAY_RANGES0, .int 4096 y_WAY_RANGES0] n_WAY_RANGES0, s_WAY_RANGES0'⟩)
    (w_WAY_RANGES1 : K.lookup A_WAY_RANGES1 = some ⟨.type "tuple", d_WAY_RANGES1, .seq #[.int (-28) x_WAY_RANGES1, .int 28 y_WAY_RANGES1] n_WAY_RANGES1, s_WAY_RANGES1'⟩)
    (w_WAY_RANGES2 : K.lookup A_WAY_RANGES2 = some ⟨.type "tuple", d_WAY_RANGES2, .seq #[.int 0 x_WAY_RANGES2, .int 1 y_WAY_RANGES2] n_WAY_RANGES2, s_WAY_RANGES2'⟩)
    (w_WAY_RANGES3 : K.lookup A_WAY_RANGES3 = some ⟨.type "tuple", d_WAY_RANGES3, .seq #[.int 0 x_WAY_RANGES3, .int 1 y_WAY_RANGES3] n_WAY_RANGES3, s_WAY_RANGES3'⟩)
    (w_WAY_RANGES4 : K.lookup A_WAY_RANGES4 = some ⟨.type "tuple", d_WAY_RANGES4, .seq #[.int 1 x_WAY_RANGES4, .int 3 y_WAY_RANGES4] n_WAY_RANGES4, s_WAY_RANGES4'⟩)
    (v_ROUND_RANGES : PySem.W.nsIn K mainGlobals "ROUND_RANGES" = some (some (.ref A_ROUND_RANGES)))
    (w_ROUND_RANGES : K.lookup A_ROUND_RANGES = some ⟨.type "tuple", d_ROUND_RANGES, .seq #[.ref A_ROUND_RANGES0, .ref A_ROUND_RANGES1] n_ROUND_RANGES, s_ROUND_RANGES'⟩)
    (w_ROUND_RANGES0 : K.lookup A_ROUND_RANGES0 = some ⟨.type "tuple", d_ROUND_RANGES0, .seq #[.int 1 x_ROUND_RANGES0, .int 4096 y_ROUND_RANGES0] n_ROUND_RANGES0, s_ROUND_RANGES0'⟩)
    (w_ROUND_RANGES1 : K.lookup A_ROUND_RANGES1 = some ⟨.type "tuple", d_ROUND_RANGES1, .seq #[.int 2 x_ROUND_RANGES1, .int 6 y_ROUND_RANGES1] n_ROUND_RANGES1, s_ROUND_RANGES1'⟩) :
    ∃ fd : FuncData, (∀ (s : Shared) (us : List Value), us.length = (["calls"] : List Str).length → BindsTo s fd ⟨us, []⟩ ((["calls"] : List Str).zip us)) ∧ ∀ base : Heap, K.In base → base.Ns mainGlobals mg → FnOk P w K mg base CX0 9 fa fd ["calls"] (spAns K) := by
  have e := (PySem.W.mg_of X G a34).symm.trans hfa
  have e' : f34 = fa := by
    injection e with e
    injection e
  subst e'
  have h_within : Here K mg "within" s_within ["number", "low", "high"] := ⟨f1, _, PySem.W.mg_of X G a1, fun_mk (st := s_within) l1 c1 k1, (fun_mk (st := s_within) l1 c1 k1).binds (ps := ["number", "low", "high"]) fun _ _ _ _ _ _ us hl => match us, hl with | [_, _, _], _ => rfl⟩
  have h_all_within : Here K mg "all_within" s_all_within ["numbers", "ranges"] := ⟨f2, _, PySem.W.mg_of X G a2, fun_mk (st := s_all_within) l2 c2 k2, (fun_mk (st := s_all_within) l2 c2 k2).binds (ps := ["numbers", "ranges"]) fun _ _ _ _ _ _ us hl => match us, hl with | [_, _], _ => rfl⟩
  have h_is_note : Here K mg "is_note" s_is_note ["event"] := ⟨f3, _, PySem.W.mg_of X G a3, fun_mk (st := s_is_note) l3 c3 k3, (fun_mk (st := s_is_note) l3 c3 k3).binds (ps := ["event"]) fun _ _ _ _ _ _ us hl => match us, hl with | [_], _ => rfl⟩
  have h_length_of : Here K mg "length_of" s_length_of ["event"] := ⟨f4, _, PySem.W.mg_of X G a4, fun_mk (st := s_length_of) l4 c4 k4, (fun_mk (st := s_length_of) l4 c4 k4).binds (ps := ["event"]) fun _ _ _ _ _ _ us hl => match us, hl with | [_], _ => rfl⟩
  have h_step_of : Here K mg "step_of" s_step_of ["note"] := ⟨f5, _, PySem.W.mg_of X G a5, fun_mk (st := s_step_of) l5 c5 k5, (fun_mk (st := s_step_of) l5 c5 k5).binds (ps := ["note"]) fun _ _ _ _ _ _ us hl => match us, hl with | [_], _ => rfl⟩
  have h_event_ranges : Here K mg "event_ranges" s_event_ranges ["kind"] := ⟨f6, _, PySem.W.mg_of X G a6, fun_mk (st := s_event_ranges) l6 c6 k6, (fun_mk (st := s_event_ranges) l6 c6 k6).binds (ps := ["kind"]) fun _ _ _ _ _ _ us hl => match us, hl with | [_], _ => rfl⟩
  have h_read_events : Here K mg "read_events" s_read_events ["numbers"] := ⟨f7, _, PySem.W.mg_of X G a7, fun_mk (st := s_read_events) l7 c7 k7, (fun_mk (st := s_read_events) l7 c7 k7).binds (ps := ["numbers"]) fun _ _ _ _ _ _ us hl => match us, hl with | [_], _ => rfl⟩
  have h_write_events : Here K mg "write_events" s_write_events ["events"] := ⟨f8, _, PySem.W.mg_of X G a8, fun_mk (st := s_write_events) l8 c8 k8, (fun_mk (st := s_write_events) l8 c8 k8).binds (ps := ["events"]) fun _ _ _ _ _ _ us hl => match us, hl with | [_], _ => rfl⟩
  have h_whole_length : Here K mg "whole_length" s_whole_length ["events"] := ⟨f9, _, PySem.W.mg_of X G a9, fun_mk (st := s_whole_length) l9 c9 k9, (fun_mk (st := s_whole_length) l9 c9 k9).binds (ps := ["events"]) fun _ _ _ _ _ _ us hl => match us, hl with | [_], _ => rfl⟩
  have h_first_step : Here K mg "first_step" s_first_step ["events"] := ⟨f10, _, PySem.W.mg_of X G a10, fun_mk (st := s_first_step) l10 c10 k10, (fun_mk (st := s_first_step) l10 c10 k10).binds (ps := ["events"]) fun _ _ _ _ _ _ us hl => match us, hl with | [_], _ => rfl⟩
  have h_read_search : Here K mg "read_search" s_read_search ["numbers"] := ⟨f11, _, PySem.W.mg_of X G a11, fun_mk (st := s_read_search) l11 c11 k11, (fun_mk (st := s_read_search) l11 c11 k11).binds (ps := ["numbers"]) fun _ _ _ _ _ _ us hl => match us, hl with | [_], _ => rfl⟩
  have h_has_too_many_ways : Here K mg "has_too_many_ways" s_has_too_many_ways ["search"] := ⟨f12, _, PySem.W.mg_of X G a12, fun_mk (st := s_has_too_many_ways) l12 c12 k12, (fun_mk (st := s_has_too_many_ways) l12 c12 k12).binds (ps := ["search"]) fun _ _ _ _ _ _ us hl => match us, hl with | [_], _ => rfl⟩
  have h_ways_to_try : Here K mg "ways_to_try" s_ways_to_try ["search"] := ⟨f13, _, PySem.W.mg_of X G a13, fun_mk (st := s_ways_to_try) l13 c13 k13, (fun_mk (st := s_ways_to_try) l13 c13 k13).binds (ps := ["search"]) fun _ _ _ _ _ _ us hl => match us, hl with | [_], _ => rfl⟩
  have h_cost_of_found : Here K mg "cost_of_found" s_cost_of_found ["one"] := ⟨f14, _, PySem.W.mg_of X G a14, fun_mk (st := s_cost_of_found) l14 c14 k14, (fun_mk (st := s_cost_of_found) l14 c14 k14).binds (ps := ["one"]) fun _ _ _ _ _ _ us hl => match us, hl with | [_], _ => rfl⟩
  have h_write_found : Here K mg "write_found" s_write_found ["found"] := ⟨f15, _, PySem.W.mg_of X G a15, fun_mk (st := s_write_found) l15 c15 k15, (fun_mk (st := s_write_found) l15 c15 k15).binds (ps := ["found"]) fun _ _ _ _ _ _ us hl => match us, hl with | [_], _ => rfl⟩
  have h_laid : Here K mg "laid" s_laid ["events", "later"] := ⟨f16, _, PySem.W.mg_of X G a16, fun_mk (st := s_laid) l16 c16 k16, (fun_mk (st := s_laid) l16 c16 k16).binds (ps := ["events", "later"]) fun _ _ _ _ _ _ us hl => match us, hl with | [_, _], _ => rfl⟩
  have h_beginnings : Here K mg "beginnings" s_beginnings ["one", "other"] := ⟨f17, _, PySem.W.mg_of X G a17, fun_mk (st := s_beginnings) l17 c17 k17, (fun_mk (st := s_beginnings) l17 c17 k17).binds (ps := ["one", "other"]) fun _ _ _ _ _ _ us hl => match us, hl with | [_, _], _ => rfl⟩
  have h_steps_on : Here K mg "steps_on" s_steps_on ["voice", "times"] := ⟨f18, _, PySem.W.mg_of X G a18, fun_mk (st := s_steps_on) l18 c18 k18, (fun_mk (st := s_steps_on) l18 c18 k18).binds (ps := ["voice", "times"]) fun _ _ _ _ _ _ us hl => match us, hl with | [_, _], _ => rfl⟩
  have h_step_at : Here K mg "step_at" s_step_at ["voice", "place", "time"] := ⟨f19, _, PySem.W.mg_of X G a19, fun_mk (st := s_step_at) l19 c19 k19, (fun_mk (st := s_step_at) l19 c19 k19).binds (ps := ["voice", "place", "time"]) fun _ _ _ _ _ _ us hl => match us, hl with | [_, _, _], _ => rfl⟩
  have h_what_is_left : Here K mg "what_is_left" s_what_is_left ["steps"] := ⟨f20, _, PySem.W.mg_of X G a20, fun_mk (st := s_what_is_left) l20 c20 k20, (fun_mk (st := s_what_is_left) l20 c20 k20).binds (ps := ["steps"]) fun _ _ _ _ _ _ us hl => match us, hl with | [_], _ => rfl⟩
  have h_are_parallel : Here K mg "are_parallel" s_are_parallel ["before", "now"] := ⟨f21, _, PySem.W.mg_of X G a21, fun_mk (st := s_are_parallel) l21 c21 k21, (fun_mk (st := s_are_parallel) l21 c21 k21).binds (ps := ["before", "now"]) fun _ _ _ _ _ _ us hl => match us, hl with | [_, _], _ => rfl⟩
  have h_meeting_costs : Here K mg "meeting_costs" s_meeting_costs ["one", "other", "prices"] := ⟨f22, _, PySem.W.mg_of X G a22, fun_mk (st := s_meeting_costs) l22 c22 k22, (fun_mk (st := s_meeting_costs) l22 c22 k22).binds (ps := ["one", "other", "prices"]) fun _ _ _ _ _ _ us hl => match us, hl with | [_, _, _], _ => rfl⟩
  have h_cost_of_two : Here K mg "cost_of_two" s_cost_of_two ["one", "other", "prices"] := ⟨f23, _, PySem.W.mg_of X G a23, fun_mk (st := s_cost_of_two) l23 c23 k23, (fun_mk (st := s_cost_of_two) l23 c23 k23).binds (ps := ["one", "other", "prices"]) fun _ _ _ _ _ _ us hl => match us, hl with | [_, _, _], _ => rfl⟩
  have h_cost_against_all : Here K mg "cost_against_all" s_cost_against_all ["voice", "others", "prices"] := ⟨f24, _, PySem.W.mg_of X G a24, fun_mk (st := s_cost_against_all) l24 c24 k24, (fun_mk (st := s_cost_against_all) l24 c24 k24).binds (ps := ["voice", "others", "prices"]) fun _ _ _ _ _ _ us hl => match us, hl with | [_, _, _], _ => rfl⟩
  have h_cost_of_all : Here K mg "cost_of_all" s_cost_of_all ["voices", "prices"] := ⟨f25, _, PySem.W.mg_of X G a25, fun_mk (st := s_cost_of_all) l25 c25 k25, (fun_mk (st := s_cost_of_all) l25 c25 k25).binds (ps := ["voices", "prices"]) fun _ _ _ _ _ _ us hl => match us, hl with | [_, _], _ => rfl⟩
  have h_first_prices : Here K mg "first_prices" s_first_prices [] := ⟨f26, _, PySem.W.mg_of X G a26, fun_mk (st := s_first_prices) l26 c26 k26, (fun_mk (st := s_first_prices) l26 c26 k26).binds (ps := []) fun _ _ _ _ _ _ us hl => match us, hl with | [], _ => rfl⟩
  have h_read_prices : Here K mg "read_prices" s_read_prices ["numbers"] := ⟨f27, _, PySem.W.mg_of X G a27, fun_mk (st := s_read_prices) l27 c27 k27, (fun_mk (st := s_read_prices) l27 c27 k27).binds (ps := ["numbers"]) fun _ _ _ _ _ _ us hl => match us, hl with | [_], _ => rfl⟩
  have h_read_way : Here K mg "read_way" s_read_way ["numbers"] := ⟨f28, _, PySem.W.mg_of X G a28, fun_mk (st := s_read_way) l28 c28 k28, (fun_mk (st := s_read_way) l28 c28 k28).binds (ps := ["numbers"]) fun _ _ _ _ _ _ us hl => match us, hl with | [_], _ => rfl⟩
  have h_can_be_had : Here K mg "can_be_had" s_can_be_had ["events", "way"] := ⟨f29, _, PySem.W.mg_of X G a29, fun_mk (st := s_can_be_had) l29 c29 k29, (fun_mk (st := s_can_be_had) l29 c29 k29).binds (ps := ["events", "way"]) fun _ _ _ _ _ _ us hl => match us, hl with | [_, _], _ => rfl⟩
  have h_events_by_way : Here K mg "events_by_way" s_events_by_way ["events", "way"] := ⟨f30, _, PySem.W.mg_of X G a30, fun_mk (st := s_events_by_way) l30 c30 k30, (fun_mk (st := s_events_by_way) l30 c30 k30).binds (ps := ["events", "way"]) fun _ _ _ _ _ _ us hl => match us, hl with | [_, _], _ => rfl⟩
  have h_event_by_way : Here K mg "event_by_way" s_event_by_way ["event", "first", "way"] := ⟨f31, _, PySem.W.mg_of X G a31, fun_mk (st := s_event_by_way) l31 c31 k31, (fun_mk (st := s_event_by_way) l31 c31 k31).binds (ps := ["event", "first", "way"]) fun _ _ _ _ _ _ us hl => match us, hl with | [_, _, _], _ => rfl⟩
  have h_step_by_way : Here K mg "step_by_way" s_step_by_way ["step", "first", "way"] := ⟨f32, _, PySem.W.mg_of X G a32, fun_mk (st := s_step_by_way) l32 c32 k32, (fun_mk (st := s_step_by_way) l32 c32 k32).binds (ps := ["step", "first", "way"]) fun _ _ _ _ _ _ us hl => match us, hl with | [_, _, _], _ => rfl⟩
  have h_length_by_way : Here K mg "length_by_way" s_length_by_way ["length", "way"] := ⟨f33, _, PySem.W.mg_of X G a33, fun_mk (st := s_length_by_way) l33 c33 k33, (fun_mk (st := s_length_by_way) l33 c33 k33).binds (ps := ["length", "way"]) fun _ _ _ _ _ _ us hl => match us, hl with | [_, _], _ => rfl⟩
  have h_answers : Here K mg "answers" s_answers ["calls"] := ⟨f34, _, PySem.W.mg_of X G a34, fun_mk (st := s_answers) l34 c34 k34, (fun_mk (st := s_answers) l34 c34 k34).binds (ps := ["calls"]) fun _ _ _ _ _ _ us hl => match us, hl with | [_], _ => rfl⟩
  have h_answer_of : Here K mg "answer_of" s_answer_of ["canon", "call", "numbers"] := ⟨f35, _, PySem.W.mg_of X G a35, fun_mk (st := s_answer_of) l35 c35 k35, (fun_mk (st := s_answer_of) l35 c35 k35).binds (ps := ["canon", "call", "numbers"]) fun _ _ _ _ _ _ us hl => match us, hl with | [_, _, _], _ => rfl⟩
  have h_Search_init : HereI K mg C_Search "Search" "Search.__init__" s_Search_init ["self", "numbers"] := ⟨PySem.W.mg_of X G aC_Search, f36, _, ⟨mkC_Search, a36, i36, kcC_Search⟩, fun_mk (st := s_Search_init) l36 c36 k36, (fun_mk (st := s_Search_init) l36 c36 k36).binds (ps := ["self", "numbers"]) fun _ _ _ _ _ _ us hl => match us, hl with | [_, _], _ => rfl⟩
  have cl_Search : Cls K C_Search := ⟨pgC_Search, hdC_Search, poC_Search, saC_Search⟩
  have h_Prices_init : HereI K mg C_Prices "Prices" "Prices.__init__" s_Prices_init ["self", "numbers"] := ⟨PySem.W.mg_of X G aC_Prices, f37, _, ⟨mkC_Prices, a37, i37, kcC_Prices⟩, fun_mk (st := s_Prices_init) l37 c37 k37, (fun_mk (st := s_Prices_init) l37 c37 k37).binds (ps := ["self", "numbers"]) fun _ _ _ _ _ _ us hl => match us, hl with | [_, _], _ => rfl⟩
  have h_Prices_price_of_gap : HereM K C_Prices "price_of_gap" "Prices.price_of_gap" s_Prices_price_of_gap ["self", "left", "time"] := ⟨f38, _, ⟨a38, i38, k38⟩, fun_mk (st := s_Prices_price_of_gap) l38 c38 k38, (fun_mk (st := s_Prices_price_of_gap) l38 c38 k38).binds (ps := ["self", "left", "time"]) fun _ _ _ _ _ _ us hl => match us, hl with | [_, _, _], _ => rfl⟩
  have cl_Prices : Cls K C_Prices := ⟨pgC_Prices, hdC_Prices, poC_Prices, saC_Prices⟩
  have h_Way_init : HereI K mg C_Way "Way" "Way.__init__" s_Way_init ["self", "numbers"] := ⟨PySem.W.mg_of X G aC_Way, f39, _, ⟨mkC_Way, a39, i39, kcC_Way⟩, fun_mk (st := s_Way_init) l39 c39 k39, (fun_mk (st := s_Way_init) l39 c39 k39).binds (ps := ["self", "numbers"]) fun _ _ _ _ _ _ us hl => match us, hl with | [_, _], _ => rfl⟩
  have cl_Way : Cls K C_Way := ⟨pgC_Way, hdC_Way, poC_Way, saC_Way⟩
  have h_Canon_init : HereI K mg C_Canon "Canon" "Canon.__init__" s_Canon_init ["self"] := ⟨PySem.W.mg_of X G aC_Canon, f40, _, ⟨mkC_Canon, a40, i40, kcC_Canon⟩, fun_mk (st := s_Canon_init) l40 c40 k40, (fun_mk (st := s_Canon_init) l40 c40 k40).binds (ps := ["self"]) fun _ _ _ _ _ _ us hl => match us, hl with | [_], _ => rfl⟩
  have h_Canon_take_theme : HereM K C_Canon "take_theme" "Canon.take_theme" s_Canon_take_theme ["self", "numbers"] := ⟨f41, _, ⟨a41, i41, k41⟩, fun_mk (st := s_Canon_take_theme) l41 c41 k41, (fun_mk (st := s_Canon_take_theme) l41 c41 k41).binds (ps := ["self", "numbers"]) fun _ _ _ _ _ _ us hl => match us, hl with | [_, _], _ => rfl⟩
  have h_Canon_take_prices : HereM K C_Canon "take_prices" "Canon.take_prices" s_Canon_take_prices ["self", "numbers"] := ⟨f42, _, ⟨a42, i42, k42⟩, fun_mk (st := s_Canon_take_prices) l42 c42 k42, (fun_mk (st := s_Canon_take_prices) l42 c42 k42).binds (ps := ["self", "numbers"]) fun _ _ _ _ _ _ us hl => match us, hl with | [_, _], _ => rfl⟩
  have h_Canon_add_way : HereM K C_Canon "add_way" "Canon.add_way" s_Canon_add_way ["self", "numbers"] := ⟨f43, _, ⟨a43, i43, k43⟩, fun_mk (st := s_Canon_add_way) l43 c43 k43, (fun_mk (st := s_Canon_add_way) l43 c43 k43).binds (ps := ["self", "numbers"]) fun _ _ _ _ _ _ us hl => match us, hl with | [_, _], _ => rfl⟩
  have h_Canon_drop_last : HereM K C_Canon "drop_last" "Canon.drop_last" s_Canon_drop_last ["self"] := ⟨f44, _, ⟨a44, i44, k44⟩, fun_mk (st := s_Canon_drop_last) l44 c44 k44, (fun_mk (st := s_Canon_drop_last) l44 c44 k44).binds (ps := ["self"]) fun _ _ _ _ _ _ us hl => match us, hl with | [_], _ => rfl⟩
  have h_Canon_show_voice : HereM K C_Canon "show_voice" "Canon.show_voice" s_Canon_show_voice ["self", "numbers"] := ⟨f45, _, ⟨a45, i45, k45⟩, fun_mk (st := s_Canon_show_voice) l45 c45 k45, (fun_mk (st := s_Canon_show_voice) l45 c45 k45).binds (ps := ["self", "numbers"]) fun _ _ _ _ _ _ us hl => match us, hl with | [_, _], _ => rfl⟩
  have h_Canon_show_cost : HereM K C_Canon "show_cost" "Canon.show_cost" s_Canon_show_cost ["self"] := ⟨f46, _, ⟨a46, i46, k46⟩, fun_mk (st := s_Canon_show_cost) l46 c46 k46, (fun_mk (st := s_Canon_show_cost) l46 c46 k46).binds (ps := ["self"]) fun _ _ _ _ _ _ us hl => match us, hl with | [_], _ => rfl⟩
  have h_Canon_show_bad : HereM K C_Canon "show_bad" "Canon.show_bad" s_Canon_show_bad ["self", "numbers"] := ⟨f47, _, ⟨a47, i47, k47⟩, fun_mk (st := s_Canon_show_bad) l47 c47 k47, (fun_mk (st := s_Canon_show_bad) l47 c47 k47).binds (ps := ["self", "numbers"]) fun _ _ _ _ _ _ us hl => match us, hl with | [_, _], _ => rfl⟩
  have h_Canon_find_ways : HereM K C_Canon "find_ways" "Canon.find_ways" s_Canon_find_ways ["self", "numbers"] := ⟨f48, _, ⟨a48, i48, k48⟩, fun_mk (st := s_Canon_find_ways) l48 c48 k48, (fun_mk (st := s_Canon_find_ways) l48 c48 k48).binds (ps := ["self", "numbers"]) fun _ _ _ _ _ _ us hl => match us, hl with | [_, _], _ => rfl⟩
  have h_Canon_show_round : HereM K C_Canon "show_round" "Canon.show_round" s_Canon_show_round ["self", "numbers"] := ⟨f49, _, ⟨a49, i49, k49⟩, fun_mk (st := s_Canon_show_round) l49 c49 k49, (fun_mk (st := s_Canon_show_round) l49 c49 k49).binds (ps := ["self", "numbers"]) fun _ _ _ _ _ _ us hl => match us, hl with | [_, _], _ => rfl⟩
  have h_Canon_all_voices : HereM K C_Canon "all_voices" "Canon.all_voices" s_Canon_all_voices ["self"] := ⟨f50, _, ⟨a50, i50, k50⟩, fun_mk (st := s_Canon_all_voices) l50 c50 k50, (fun_mk (st := s_Canon_all_voices) l50 c50 k50).binds (ps := ["self"]) fun _ _ _ _ _ _ us hl => match us, hl with | [_], _ => rfl⟩
  have h_Canon_voice_by_way : HereM K C_Canon "voice_by_way" "Canon.voice_by_way" s_Canon_voice_by_way ["self", "way"] := ⟨f51, _, ⟨a51, i51, k51⟩, fun_mk (st := s_Canon_voice_by_way) l51 c51 k51, (fun_mk (st := s_Canon_voice_by_way) l51 c51 k51).binds (ps := ["self", "way"]) fun _ _ _ _ _ _ us hl => match us, hl with | [_, _], _ => rfl⟩
  have h_Canon_found_by : HereM K C_Canon "found_by" "Canon.found_by" s_Canon_found_by ["self", "search"] := ⟨f52, _, ⟨a52, i52, k52⟩, fun_mk (st := s_Canon_found_by) l52 c52 k52, (fun_mk (st := s_Canon_found_by) l52 c52 k52).binds (ps := ["self", "search"]) fun _ _ _ _ _ _ us hl => match us, hl with | [_, _], _ => rfl⟩
  have cl_Canon : Cls K C_Canon := ⟨pgC_Canon, hdC_Canon, poC_Canon, saC_Canon⟩
  have B : Blt mg := ⟨PySem.W.mg_none_of X G z_len, PySem.W.mg_none_of X G z_all, PySem.W.mg_none_of X G z_zip, PySem.W.mg_none_of X G z_sum, PySem.W.mg_none_of X G z_abs, PySem.W.mg_none_of X G z_set, PySem.W.mg_none_of X G z_sorted, PySem.W.mg_none_of X G z_tuple, PySem.W.mg_none_of X G z_enumerate, PySem.W.mg_none_of X G z_range⟩
  have c_REST : CstI mg "REST" 0 := ⟨_, PySem.W.mg_of X G v_REST⟩
  have c_NOTE : CstI mg "NOTE" 1 := ⟨_, PySem.W.mg_of X G v_NOTE⟩
  have c_MOST_EVENTS : CstI mg "MOST_EVENTS" 16 := ⟨_, PySem.W.mg_of X G v_MOST_EVENTS⟩
  have c_MOST_WAYS : CstI mg "MOST_WAYS" 400 := ⟨_, PySem.W.mg_of X G v_MOST_WAYS⟩
  have c_MOST_TOLD : CstI mg "MOST_TOLD" 10 := ⟨_, PySem.W.mg_of X G v_MOST_TOLD⟩
  have c_STEPS_OF_A_SCALE : CstI mg "STEPS_OF_A_SCALE" 7 := ⟨_, PySem.W.mg_of X G v_STEPS_OF_A_SCALE⟩
  have c_TWICE_AS_LONG : CstI mg "TWICE_AS_LONG" 2 := ⟨_, PySem.W.mg_of X G v_TWICE_AS_LONG⟩
  have c_HALF_AS_LONG : CstI mg "HALF_AS_LONG" 3 := ⟨_, PySem.W.mg_of X G v_HALF_AS_LONG⟩
  have c_WRONG_NUMBERS : CstI mg "WRONG_NUMBERS" (-1) := ⟨_, PySem.W.mg_of X G v_WRONG_NUMBERS⟩
  have c_TOO_MANY_WAYS : CstI mg "TOO_MANY_WAYS" (-2) := ⟨_, PySem.W.mg_of X G v_TOO_MANY_WAYS⟩
  have c_NOT_POSSIBLE : CstI mg "NOT_POSSIBLE" (-3) := ⟨_, PySem.W.mg_of X G v_NOT_POSSIBLE⟩
  have c_WRONG_COUNT : CstI mg "WRONG_COUNT" (-5) := ⟨_, PySem.W.mg_of X G v_WRONG_COUNT⟩
  have c_NO_THEME : CstI mg "NO_THEME" (-7) := ⟨_, PySem.W.mg_of X G v_NO_THEME⟩
  have c_MOST_OTHER_VOICES : CstI mg "MOST_OTHER_VOICES" 4 := ⟨_, PySem.W.mg_of X G v_MOST_OTHER_VOICES⟩
  have c_THEME : CstI mg "THEME" 1 := ⟨_, PySem.W.mg_of X G v_THEME⟩
  have c_PRICES : CstI mg "PRICES" 2 := ⟨_, PySem.W.mg_of X G v_PRICES⟩
  have c_WAY : CstI mg "WAY" 3 := ⟨_, PySem.W.mg_of X G v_WAY⟩
  have c_DROP : CstI mg "DROP" 4 := ⟨_, PySem.W.mg_of X G v_DROP⟩
  have c_VOICE : CstI mg "VOICE" 5 := ⟨_, PySem.W.mg_of X G v_VOICE⟩
  have c_COST : CstI mg "COST" 6 := ⟨_, PySem.W.mg_of X G v_COST⟩
  have c_BAD : CstI mg "BAD" 7 := ⟨_, PySem.W.mg_of X G v_BAD⟩
  have c_FIND : CstI mg "FIND" 8 := ⟨_, PySem.W.mg_of X G v_FIND⟩
  have c_REST_RANGES : CstT K mg "REST_RANGES" [(0, 0), (1, 512)] := ⟨A_REST_RANGES, PySem.W.mg_of X G v_REST_RANGES, fun H => ⟨[A_REST_RANGES0, A_REST_RANGES1], .inr ⟨_, _, _, w_REST_RANGES, rfl, rfl, (by show 2 ≤ sizeLine; decide), (.cons rfl (.cons rfl .nil))⟩, rfl, fun i x xs h1 h2 => match i, x, xs, h1, h2 with
    | 0, _, _, h1, h2 => by cases h1; cases h2; exact .inr ⟨_, _, _, w_REST_RANGES0, rfl, rfl, (by show 2 ≤ sizeLine; decide), .cons ⟨_, rfl⟩ (.cons ⟨_, rfl⟩ .nil)⟩
    | 1, _, _, h1, h2 => by cases h1; cases h2; exact .inr ⟨_, _, _, w_REST_RANGES1, rfl, rfl, (by show 2 ≤ sizeLine; decide), .cons ⟨_, rfl⟩ (.cons ⟨_, rfl⟩ .nil)⟩
    | _ + 2, _, _, h1, _ => by simp at h1⟩⟩
  have c_NOTE_RANGES : CstT K mg "NOTE_RANGES" [(1, 1), (0, 69), (1, 512)] := ⟨A_NOTE_RANGES, PySem.W.mg_of X G v_NOTE_RANGES, fun H => ⟨[A_NOTE_RANGES0, A_NOTE_RANGES1, A_NOTE_RANGES2], .inr ⟨_, _, _, w_NOTE_RANGES, rfl, rfl, (by show 3 ≤ sizeLine; decide), (.cons rfl (.cons rfl (.cons rfl .nil)))⟩, rfl, fun i x xs h1 h2 => match i, x, xs, h1, h2 with
    | 0, _, _, h1, h2 => by cases h1; cases h2; exact .inr ⟨_, _, _, w_NOTE_RANGES0, rfl, rfl, (by show 2 ≤ sizeLine; decide), .cons ⟨_, rfl⟩ (.cons ⟨_, rfl⟩ .nil)⟩
    | 1, _, _, h1, h2 => by cases h1; cases h2; exact .inr ⟨_, _, _, w_NOTE_RANGES1, rfl, rfl, (by show 2 ≤ sizeLine; decide), .cons ⟨_, rfl⟩ (.cons ⟨_, rfl⟩ .nil)⟩
    | 2, _, _, h1, h2 => by cases h1; cases h2; exact .inr ⟨_, _, _, w_NOTE_RANGES2, rfl, rfl, (by show 2 ≤ sizeLine; decide), .cons ⟨_, rfl⟩ (.cons ⟨_, rfl⟩ .nil)⟩
    | _ + 3, _, _, h1, _ => by simp at h1⟩⟩
  have c_SEARCH_RANGES : CstT K mg "SEARCH_RANGES" [(0, 10000), (0, 4096), (0, 4096), (1, 4096), (-28, 28), (-28, 28)] := ⟨A_SEARCH_RANGES, PySem.W.mg_of X G v_SEARCH_RANGES, fun H => ⟨[A_SEARCH_RANGES0, A_SEARCH_RANGES1, A_SEARCH_RANGES2, A_SEARCH_RANGES3, A_SEARCH_RANGES4, A_SEARCH_RANGES5], .inr ⟨_, _, _, w_SEARCH_RANGES, rfl, rfl, (by show 6 ≤ sizeLine; decide), (.cons rfl (.cons rfl (.cons rfl (.cons rfl (.cons rfl (.cons rfl .nil))))))⟩, rfl, fun i x xs h1 h2 => match i, x, xs, h1, h2 with
    | 0, _, _, h1, h2 => by cases h1; cases h2; exact .inr ⟨_, _, _, w_SEARCH_RANGES0, rfl, rfl, (by show 2 ≤ sizeLine; decide), .cons ⟨_, rfl⟩ (.cons ⟨_, rfl⟩ .nil)⟩
    | 1, _, _, h1, h2 => by cases h1; cases h2; exact .inr ⟨_, _, _, w_SEARCH_RANGES1, rfl, rfl, (by show 2 ≤ sizeLine; decide), .cons ⟨_, rfl⟩ (.cons ⟨_, rfl⟩ .nil)⟩
    | 2, _, _, h1, h2 => by cases h1; cases h2; exact .inr ⟨_, _, _, w_SEARCH_RANGES2, rfl, rfl, (by show 2 ≤ sizeLine; decide), .cons ⟨_, rfl⟩ (.cons ⟨_, rfl⟩ .nil)⟩
    | 3, _, _, h1, h2 => by cases h1; cases h2; exact .inr ⟨_, _, _, w_SEARCH_RANGES3, rfl, rfl, (by show 2 ≤ sizeLine; decide), .cons ⟨_, rfl⟩ (.cons ⟨_, rfl⟩ .nil)⟩
    | 4, _, _, h1, h2 => by cases h1; cases h2; exact .inr ⟨_, _, _, w_SEARCH_RANGES4, rfl, rfl, (by show 2 ≤ sizeLine; decide), .cons ⟨_, rfl⟩ (.cons ⟨_, rfl⟩ .nil)⟩
    | 5, _, _, h1, h2 => by cases h1; cases h2; exact .inr ⟨_, _, _, w_SEARCH_RANGES5, rfl, rfl, (by show 2 ≤ sizeLine; decide), .cons ⟨_, rfl⟩ (.cons ⟨_, rfl⟩ .nil)⟩
    | _ + 6, _, _, h1, _ => by simp at h1⟩⟩
  have c_SHAPES : CstS K mg "SHAPES" [[0, 0, 1], [0, 0, 2], [0, 0, 3], [0, 1, 1], [0, 1, 2], [0, 1, 3], [1, 0, 1], [1, 0, 2], [1, 0, 3], [1, 1, 1], [1, 1, 2], [1, 1, 3]] := ⟨A_SHAPES, PySem.W.mg_of X G v_SHAPES, fun H => ⟨[A_SHAPES0, A_SHAPES1, A_SHAPES2, A_SHAPES3, A_SHAPES4, A_SHAPES5, A_SHAPES6, A_SHAPES7, A_SHAPES8, A_SHAPES9, A_SHAPES10, A_SHAPES11], .inr ⟨_, _, _, w_SHAPES, rfl, rfl, (by show 12 ≤ sizeLine; decide), (.cons rfl (.cons rfl (.cons rfl (.cons rfl (.cons rfl (.cons rfl (.cons rfl (.cons rfl (.cons rfl (.cons rfl (.cons rfl (.cons rfl .nil))))))))))))⟩, rfl, fun i x xs h1 h2 => match i, x, xs, h1, h2 with
    | 0, _, _, h1, h2 => by cases h1; cases h2; exact .inr ⟨_, _, _, w_SHAPES0, rfl, rfl, (by show 3 ≤ sizeLine; decide), (.cons ⟨_, rfl⟩ (.cons ⟨_, rfl⟩ (.cons ⟨_, rfl⟩ .nil)))⟩
    | 1, _, _, h1, h2 => by cases h1; cases h2; exact .inr ⟨_, _, _, w_SHAPES1, rfl, rfl, (by show 3 ≤ sizeLine; decide), (.cons ⟨_, rfl⟩ (.cons ⟨_, rfl⟩ (.cons ⟨_, rfl⟩ .nil)))⟩
    | 2, _, _, h1, h2 => by cases h1; cases h2; exact .inr ⟨_, _, _, w_SHAPES2, rfl, rfl, (by show 3 ≤ sizeLine; decide), (.cons ⟨_, rfl⟩ (.cons ⟨_, rfl⟩ (.cons ⟨_, rfl⟩ .nil)))⟩
    | 3, _, _, h1, h2 => by cases h1; cases h2; exact .inr ⟨_, _, _, w_SHAPES3, rfl, rfl, (by show 3 ≤ sizeLine; decide), (.cons ⟨_, rfl⟩ (.cons ⟨_, rfl⟩ (.cons ⟨_, rfl⟩ .nil)))⟩
    | 4, _, _, h1, h2 => by cases h1; cases h2; exact .inr ⟨_, _, _, w_SHAPES4, rfl, rfl, (by show 3 ≤ sizeLine; decide), (.cons ⟨_, rfl⟩ (.cons ⟨_, rfl⟩ (.cons ⟨_, rfl⟩ .nil)))⟩
    | 5, _, _, h1, h2 => by cases h1; cases h2; exact .inr ⟨_, _, _, w_SHAPES5, rfl, rfl, (by show 3 ≤ sizeLine; decide), (.cons ⟨_, rfl⟩ (.cons ⟨_, rfl⟩ (.cons ⟨_, rfl⟩ .nil)))⟩
    | 6, _, _, h1, h2 => by cases h1; cases h2; exact .inr ⟨_, _, _, w_SHAPES6, rfl, rfl, (by show 3 ≤ sizeLine; decide), (.cons ⟨_, rfl⟩ (.cons ⟨_, rfl⟩ (.cons ⟨_, rfl⟩ .nil)))⟩
    | 7, _, _, h1, h2 => by cases h1; cases h2; exact .inr ⟨_, _, _, w_SHAPES7, rfl, rfl, (by show 3 ≤ sizeLine; decide), (.cons ⟨_, rfl⟩ (.cons ⟨_, rfl⟩ (.cons ⟨_, rfl⟩ .nil)))⟩
    | 8, _, _, h1, h2 => by cases h1; cases h2; exact .inr ⟨_, _, _, w_SHAPES8, rfl, rfl, (by show 3 ≤ sizeLine; decide), (.cons ⟨_, rfl⟩ (.cons ⟨_, rfl⟩ (.cons ⟨_, rfl⟩ .nil)))⟩
    | 9, _, _, h1, h2 => by cases h1; cases h2; exact .inr ⟨_, _, _, w_SHAPES9, rfl, rfl, (by show 3 ≤ sizeLine; decide), (.cons ⟨_, rfl⟩ (.cons ⟨_, rfl⟩ (.cons ⟨_, rfl⟩ .nil)))⟩
    | 10, _, _, h1, h2 => by cases h1; cases h2; exact .inr ⟨_, _, _, w_SHAPES10, rfl, rfl, (by show 3 ≤ sizeLine; decide), (.cons ⟨_, rfl⟩ (.cons ⟨_, rfl⟩ (.cons ⟨_, rfl⟩ .nil)))⟩
    | 11, _, _, h1, h2 => by cases h1; cases h2; exact .inr ⟨_, _, _, w_SHAPES11, rfl, rfl, (by show 3 ≤ sizeLine; decide), (.cons ⟨_, rfl⟩ (.cons ⟨_, rfl⟩ (.cons ⟨_, rfl⟩ .nil)))⟩
    | _ + 12, _, _, h1, _ => by simp at h1⟩⟩
  have c_PARALLEL_GAPS : CstN K mg "PARALLEL_GAPS" [0, 4] := ⟨_, PySem.W.mg_of X G v_PARALLEL_GAPS, fun H => .inr ⟨_, _, _, w_PARALLEL_GAPS, rfl, rfl, (by show 2 ≤ sizeLine; decide), (.cons ⟨_, rfl⟩ (.cons ⟨_, rfl⟩ .nil))⟩⟩
  have c_FIRST_PRICES : CstN K mg "FIRST_PRICES" [0, 10, 0, 6, 0, 0, 10, 0, 3, 0, 2, 0, 0, 3, 8, 16] := ⟨_, PySem.W.mg_of X G v_FIRST_PRICES, fun H => .inr ⟨_, _, _, w_FIRST_PRICES, rfl, rfl, (by show 16 ≤ sizeLine; decide), (.cons ⟨_, rfl⟩ (.cons ⟨_, rfl⟩ (.cons ⟨_, rfl⟩ (.cons ⟨_, rfl⟩ (.cons ⟨_, rfl⟩ (.cons ⟨_, rfl⟩ (.cons ⟨_, rfl⟩ (.cons ⟨_, rfl⟩ (.cons ⟨_, rfl⟩ (.cons ⟨_, rfl⟩ (.cons ⟨_, rfl⟩ (.cons ⟨_, rfl⟩ (.cons ⟨_, rfl⟩ (.cons ⟨_, rfl⟩ (.cons ⟨_, rfl⟩ (.cons ⟨_, rfl⟩ .nil))))))))))))))))⟩⟩
  have c_WAY_RANGES : CstT K mg "WAY_RANGES" [(0, 4096), (-28, 28), (0, 1), (0, 1), (1, 3)] := ⟨A_WAY_RANGES, PySem.W.mg_of X G v_WAY_RANGES, fun H => ⟨[A_WAY_RANGES0, A_WAY_RANGES1, A_WAY_RANGES2, A_WAY_RANGES3, A_WAY_RANGES4], .inr ⟨_, _, _, w_WAY_RANGES, rfl, rfl, (by show 5 ≤ sizeLine; decide), (.cons rfl (.cons rfl (.cons rfl (.cons rfl (.cons rfl .nil)))))⟩, rfl, fun i x xs h1 h2 => match i, x, xs, h1, h2 with
    | 0, _, _, h1, h2 => by cases h1; cases h2; exact .inr ⟨_, _, _, w_WAY_RANGES0, rfl, rfl, (by show 2 ≤ sizeLine; decide), .cons ⟨_, rfl⟩ (.cons ⟨_, rfl⟩ .nil)⟩
    | 1, _, _, h1, h2 => by cases h1; cases h2; exact .inr ⟨_, _, _, w_WAY_RANGES1, rfl, rfl, (by show 2 ≤ sizeLine; decide), .cons ⟨_, rfl⟩ (.cons ⟨_, rfl⟩ .nil)⟩
    | 2, _, _, h1, h2 => by cases h1; cases h2; exact .inr ⟨_, _, _, w_WAY_RANGES2, rfl, rfl, (by show 2 ≤ sizeLine; decide), .cons ⟨_, rfl⟩ (.cons ⟨_, rfl⟩ .nil)⟩
    | 3, _, _, h1, h2 => by cases h1; cases h2; exact .inr ⟨_, _, _, w_WAY_RANGES3, rfl, rfl, (by show 2 ≤ sizeLine; decide), .cons ⟨_, rfl⟩ (.cons ⟨_, rfl⟩ .nil)⟩
    | 4, _, _, h1, h2 => by cases h1; cases h2; exact .inr ⟨_, _, _, w_WAY_RANGES4, rfl, rfl, (by show 2 ≤ sizeLine; decide), .cons ⟨_, rfl⟩ (.cons ⟨_, rfl⟩ .nil)⟩
    | _ + 5, _, _, h1, _ => by simp at h1⟩⟩
  have c_ROUND_RANGES : CstT K mg "ROUND_RANGES" [(1, 4096), (2, 6)] := ⟨A_ROUND_RANGES, PySem.W.mg_of X G v_ROUND_RANGES, fun H => ⟨[A_ROUND_RANGES0, A_ROUND_RANGES1], .inr ⟨_, _, _, w_ROUND_RANGES, rfl, rfl, (by show 2 ≤ sizeLine; decide), (.cons rfl (.cons rfl .nil))⟩, rfl, fun i x xs h1 h2 => match i, x, xs, h1, h2 with
    | 0, _, _, h1, h2 => by cases h1; cases h2; exact .inr ⟨_, _, _, w_ROUND_RANGES0, rfl, rfl, (by show 2 ≤ sizeLine; decide), .cons ⟨_, rfl⟩ (.cons ⟨_, rfl⟩ .nil)⟩
    | 1, _, _, h1, h2 => by cases h1; cases h2; exact .inr ⟨_, _, _, w_ROUND_RANGES1, rfl, rfl, (by show 2 ≤ sizeLine; decide), .cons ⟨_, rfl⟩ (.cons ⟨_, rfl⟩ .nil)⟩
    | _ + 2, _, _, h1, _ => by simp at h1⟩⟩
  have TW : WayC K C_Way := ⟨cl_Way, nC_Way_later, nC_Way_higher, nC_Way_upside_down, nC_Way_backwards, nC_Way_lengths⟩
  have TP : PrC K C_Prices := ⟨cl_Prices, nC_Prices_on_beat, nC_Prices_off_beat, nC_Prices_parallels, nC_Prices_beat⟩
  have TC : CanC K C_Canon := ⟨cl_Canon, nC_Canon_events, nC_Canon_other_voices, nC_Canon_prices⟩
  have TS : SrC K C_Search := ⟨cl_Search, nC_Search_most, nC_Search_first_later, nC_Search_last_later, nC_Search_later_step, nC_Search_lowest, nC_Search_highest⟩
  have Cc : CallC mg := ⟨c_THEME, c_PRICES, c_WAY, c_DROP, c_VOICE, c_COST, c_BAD, c_FIND⟩
  have Rf : Refusals mg := ⟨c_WRONG_NUMBERS, c_NOT_POSSIBLE, c_WRONG_COUNT, c_NO_THEME⟩
  refine ⟨PySem.W.fnOf "answers" "answers" (defArgs s_answers) (defBody s_answers) (defScope s_answers) .none kV34 dc34 pm34 an34 cd34 ct34, fun s us hu => match us, hu with | [_], _ => .of_eq rfl, fun base _ _ => ?_⟩
  have d_within : Def P w K mg base 1 _ _ _ := ok_within h_within
  have d_all := ok_all B h_all_within d_within
  have d_note : Def P w K mg base 1 _ _ _ := ok_is_note h_is_note c_NOTE
  have d_len : Def P w K mg base 1 _ _ _ := ok_length_of h_length_of
  have d_step : Def P w K mg base 1 _ _ _ := ok_step_of h_step_of
  have d_rng : Def P w K mg base 1 _ _ _ := ok_ranges h_event_ranges c_NOTE c_NOTE_RANGES c_REST_RANGES
  have d_read := ok_read B h_read_events d_rng d_all
  have d_write : Def P w K mg base 1 _ _ _ := ok_write h_write_events
  have d_whole := ok_whole B h_whole_length d_len
  have d_first := ok_first h_first_step d_note d_step
  have d_laid := ok_laid h_laid d_len d_note d_step
  have d_begin : Def P w K mg base 1 _ _ _ := ok_begin B h_beginnings
  have d_stepat : Def P w K mg base 1 _ _ _ := ok_step_at B h_step_at
  have d_stepson := ok_steps_on B h_steps_on d_stepat
  have d_left : Def P w K mg base 1 _ _ _ := ok_left B h_what_is_left c_STEPS_OF_A_SCALE
  have d_par := ok_par h_are_parallel c_PARALLEL_GAPS d_left
  have d_gap : DefM P w K mg base C_Prices 1 _ _ _ := ok_gap h_Prices_price_of_gap TP
  have d_costs := ok_costs B TP h_meeting_costs d_begin d_stepson d_left d_par d_gap
  have d_two := ok_two B h_cost_of_two d_costs
  have d_prI : DefI P w K mg base C_Prices 1 _ _ _ := ok_pr_init B h_Prices_init TP
  have d_firstp := ok_first_pr h_first_prices c_FIRST_PRICES d_prI
  have d_readp := ok_read_pr h_read_prices d_all d_prI
  have d_wayI : DefI P w K mg base C_Way 1 _ _ _ := ok_way_init h_Way_init TW
  have d_readw := ok_read_way h_read_way c_WAY_RANGES d_all d_wayI
  have d_can := ok_can B TW h_can_be_had c_HALF_AS_LONG d_len
  have d_stepby : Def P w K mg base 1 _ _ _ := ok_step_by TW h_step_by_way
  have d_lenby : Def P w K mg base 1 _ _ _ := ok_len_by TW h_length_by_way c_TWICE_AS_LONG c_HALF_AS_LONG
  have d_evby := ok_event_by h_event_by_way c_NOTE c_REST d_len d_note d_step d_stepby d_lenby
  have d_evsby := ok_events_by TW h_events_by_way d_first d_evby
  have d_init := ok_can_init h_Canon_init TC d_firstp
  have d_voices := ok_voices (CP := C_Prices) h_Canon_all_voices TC d_laid
  have d_byway := ok_byway (CP := C_Prices) h_Canon_voice_by_way TC TW d_evsby d_laid
  have d_against := ok_against B h_cost_against_all d_two
  have d_all2 := ok_costall B h_cost_of_all d_against
  have d_theme := ok_theme (CP := C_Prices) B h_Canon_take_theme TC Rf c_MOST_EVENTS d_read d_whole
  have d_prices := ok_prices h_Canon_take_prices TC Rf d_readp
  have d_drop : DefM P w K mg base C_Canon 1 _ _ _ := ok_drop (CP := C_Prices) B h_Canon_drop_last TC Rf
  have d_show := ok_show (CP := C_Prices) B h_Canon_show_voice TC Rf d_readw d_can d_evsby d_write
  have d_way := ok_way B h_Canon_add_way TC TW Rf c_MOST_OTHER_VOICES d_readw d_can d_byway d_voices d_against
  have d_cost := ok_cost B h_Canon_show_cost TC Rf d_voices d_all2
  have d_round := ok_round B h_Canon_show_round TC Rf c_ROUND_RANGES d_all d_laid d_all2
  have d_bad := ok_bad B h_Canon_show_bad TC Rf d_all d_voices d_costs
  have d_srI : DefI P w K mg base C_Search 1 _ _ _ := ok_sr_init h_Search_init TS
  have d_readsr := ok_read_sr h_read_search TS c_SEARCH_RANGES d_all d_srI
  have d_many : Def P w K mg base 1 _ _ _ := ok_many B h_has_too_many_ways TS c_SHAPES c_MOST_WAYS
  have d_try : Def P w K mg base 1 _ _ _ := ok_try B h_ways_to_try TS c_SHAPES
  have d_wayT : DefI P w K mg base C_Way 1 _ _ _ := ok_way_initT h_Way_init TW
  have d_found := ok_found h_Canon_found_by TC TS d_voices d_try d_wayT d_can d_byway d_against
  have d_key : Def P w K mg base 1 _ _ _ := ok_key h_cost_of_found
  have d_tell := ok_tell B h_write_found c_MOST_TOLD d_key
  have d_find := ok_find h_Canon_find_ways TC Rf c_TOO_MANY_WAYS d_readsr d_many d_found d_tell
  have d_of := ok_of h_answer_of TC Cc d_theme d_prices d_way d_drop d_show d_cost d_bad d_find d_round
  exact ok_ans (by decide) B (fun_mk (st := s_answers) l34 c34 k34) d_init d_of
end CW


set_option Elab.async false
set_option maxRecDepth 100000
open PySem PySem.W PyProof.Rows
set_option maxRecDepth 100000 in
set_option maxHeartbeats 8000000 in
theorem PySem.Challenge.cw_canonways_s01_answers_holds : PySem.Challenge.rw_canonways_s01_answers.Holds := by
  w_on; k_headS; (case hw => exact ⟨[.list [.int 4, .int 0, .int 0]], by decide +kernel, by decide +kernel⟩)
  k_fillS
  refine L2.walk_specK (r := PySem.Challenge.rw_canonways_s01_answers) (k := 9) (CX := L2.CX0) (ps := ["calls"]) (sp := CW.spAns) (by decide +kernel) rfl rfl ⟨rfl, by decide, by decide⟩ (fun w h Y => PySem.W.kIn_of Y) ?F ?S (fun _ _ _ _ z => z)
  case F =>
    intro w mg fa h Y KX G hmg
    refine' CW.all_mk KX G hmg ?a1 ?l1 ?c1 ?k1 ?a2 ?l2 ?c2 ?k2 ?a3 ?l3 ?c3 ?k3 ?a4 ?l4 ?c4 ?k4 ?a5 ?l5 ?c5 ?k5 ?a6 ?l6 ?c6 ?k6 ?a7 ?l7 ?c7 ?k7 ?a8 ?l8 ?c8 ?k8 ?a9 ?l9 ?c9 ?k9 ?a10 ?l10 ?c10 ?k10 ?a11 ?l11 ?c11 ?k11 ?a12 ?l12 ?c12 ?k12 ?a13 ?l13 ?c13 ?k13 ?a14 ?l14 ?c14 ?k14 ?a15 ?l15 ?c15 ?k15 ?a16 ?l16 ?c16 ?k16 ?a17 ?l17 ?c17 ?k17 ?a18 ?l18 ?c18 ?k18 ?a19 ?l19 ?c19 ?k19 ?a20 ?l20 ?c20 ?k20 ?a21 ?l21 ?c21 ?k21 ?a22 ?l22 ?c22 ?k22 ?a23 ?l23 ?c23 ?k23 ?a24 ?l24 ?c24 ?k24 ?a25 ?l25 ?c25 ?k25 ?a26 ?l26 ?c26 ?k26 ?a27 ?l27 ?c27 ?k27 ?a28 ?l28 ?c28 ?k28 ?a29 ?l29 ?c29 ?k29 ?a30 ?l30 ?c30 ?k30 ?a31 ?l31 ?c31 ?k31 ?a32 ?l32 ?c32 ?k32 ?a33 ?l33 ?c33 ?k33 ?a34 ?l34 ?c34 ?k34 ?a35 ?l35 ?c35 ?k35 ?aC_Search ?pgC_Search ?hdC_Search ?poC_Search ?saC_Search ?mkC_Search ?kcC_Search ?nC_Search_most ?nC_Search_first_later ?nC_Search_last_later ?nC_Search_later_step ?nC_Search_lowest ?nC_Search_highest ?a36 ?i36 ?l36 ?c36 ?k36 ?aC_Prices ?pgC_Prices ?hdC_Prices ?poC_Prices ?saC_Prices ?mkC_Prices ?kcC_Prices ?nC_Prices_on_beat ?nC_Prices_off_beat ?nC_Prices_parallels ?nC_Prices_beat ?a37 ?i37 ?l37 ?c37 ?k37 ?a38 ?i38 ?l38 ?c38 ?k38 ?aC_Way ?pgC_Way ?hdC_Way ?poC_Way ?saC_Way ?mkC_Way ?kcC_Way ?nC_Way_later ?nC_Way_higher ?nC_Way_upside_down ?nC_Way_backwards ?nC_Way_lengths ?a39 ?i39 ?l39 ?c39 ?k39 ?aC_Canon ?pgC_Canon ?hdC_Canon ?poC_Canon ?saC_Canon ?mkC_Canon ?kcC_Canon ?nC_Canon_events ?nC_Canon_other_voices ?nC_Canon_prices ?a40 ?i40 ?l40 ?c40 ?k40 ?a41 ?i41 ?l41 ?c41 ?k41 ?a42 ?i42 ?l42 ?c42 ?k42 ?a43 ?i43 ?l43 ?c43 ?k43 ?a44 ?i44 ?l44 ?c44 ?k44 ?a45 ?i45 ?l45 ?c45 ?k45 ?a46 ?i46 ?l46 ?c46 ?k46 ?a47 ?i47 ?l47 ?c47 ?k47 ?a48 ?i48 ?l48 ?c48 ?k48 ?a49 ?i49 ?l49 ?c49 ?k49 ?a50 ?i50 ?l50 ?c50 ?k50 ?a51 ?i51 ?l51 ?c51 ?k51 ?a52 ?i52 ?l52 ?c52 ?k52 ?z_len ?z_all ?z_zip ?z_sum ?z_abs ?z_set ?z_sorted ?z_tuple ?z_enumerate ?z_range ?v_REST ?v_NOTE ?v_MOST_EVENTS ?v_MOST_WAYS ?v_MOST_TOLD ?v_STEPS_OF_A_SCALE ?v_TWICE_AS_LONG ?v_HALF_AS_LONG ?v_WRONG_NUMBERS ?v_TOO_MANY_WAYS ?v_NOT_POSSIBLE ?v_WRONG_COUNT ?v_NO_THEME ?v_MOST_OTHER_VOICES ?v_THEME ?v_PRICES ?v_WAY ?v_DROP ?v_VOICE ?v_COST ?v_BAD ?v_FIND ?v_REST_RANGES ?w_REST_RANGES ?w_REST_RANGES0 ?w_REST_RANGES1 ?v_NOTE_RANGES ?w_NOTE_RANGES ?w_NOTE_RANGES0 ?w_NOTE_RANGES1 ?w_NOTE_RANGES2 ?v_SEARCH_RANGES ?w_SEARCH_RANGES ?w_SEARCH_RANGES0 ?w_SEARCH_RANGES1 ?w_SEARCH_RANGES2 ?w_SEARCH_RANGES3 ?w_SEARCH_RANGES4 ?w_SEARCH_RANGES5 ?v_SHAPES ?w_SHAPES ?w_SHAPES0 ?w_SHAPES1 ?w_SHAPES2 ?w_SHAPES3 ?w_SHAPES4 ?w_SHAPES5 ?w_SHAPES6 ?w_SHAPES7 ?w_SHAPES8 ?w_SHAPES9 ?w_SHAPES10 ?w_SHAPES11 ?v_PARALLEL_GAPS ?w_PARALLEL_GAPS ?v_FIRST_PRICES ?w_FIRST_PRICES ?v_WAY_RANGES ?w_WAY_RANGES ?w_WAY_RANGES0 ?w_WAY_RANGES1 ?w_WAY_RANGES2 ?w_WAY_RANGES3 ?w_WAY_RANGES4 ?v_ROUND_RANGES ?w_ROUND_RANGES ?w_ROUND_RANGES0 ?w_ROUND_RANGES1
    (case a1 => k_is)
    (case l1 => k_is)
    (case c1 => k_is)
    (case k1 => k_is)
    (case a2 => k_is)
    (case l2 => k_is)
    (case c2 => k_is)
    (case k2 => k_is)
    (case a3 => k_is)
    (case l3 => k_is)
    (case c3 => k_is)
    (case k3 => k_is)
    (case a4 => k_is)
    (case l4 => k_is)
    (case c4 => k_is)
    (case k4 => k_is)
    (case a5 => k_is)
    (case l5 => k_is)
    (case c5 => k_is)
    (case k5 => k_is)
    (case a6 => k_is)
    (case l6 => k_is)
    (case c6 => k_is)
    (case k6 => k_is)
    (case a7 => k_is)
    (case l7 => k_is)
    (case c7 => k_is)
    (case k7 => k_is)
    (case a8 => k_is)
    (case l8 => k_is)
    (case c8 => k_is)
    (case k8 => k_is)
    (case a9 => k_is)
    (case l9 => k_is)
    (case c9 => k_is)
    (case k9 => k_is)
    (case a10 => k_is)
    (case l10 => k_is)
    (case c10 => k_is)
    (case k10 => k_is)
    (case a11 => k_is)
    (case l11 => k_is)
    (case c11 => k_is)
    (case k11 => k_is)
    (case a12 => k_is)
    (case l12 => k_is)
    (case c12 => k_is)
    (case k12 => k_is)
    (case a13 => k_is)
    (case l13 => k_is)
    (case c13 => k_is)
    (case k13 => k_is)
    (case a14 => k_is)
    (case l14 => k_is)
    (case c14 => k_is)
    (case k14 => k_is)
    (case a15 => k_is)
    (case l15 => k_is)
    (case c15 => k_is)
    (case k15 => k_is)
    (case a16 => k_is)
    (case l16 => k_is)
    (case c16 => k_is)
    (case k16 => k_is)
    (case a17 => k_is)
    (case l17 => k_is)
    (case c17 => k_is)
    (case k17 => k_is)
    (case a18 => k_is)
    (case l18 => k_is)
    (case c18 => k_is)
    (case k18 => k_is)
    (case a19 => k_is)
    (case l19 => k_is)
    (case c19 => k_is)
    (case k19 => k_is)
    (case a20 => k_is)
    (case l20 => k_is)
    (case c20 => k_is)
    (case k20 => k_is)
    (case a21 => k_is)
    (case l21 => k_is)
    (case c21 => k_is)
    (case k21 => k_is)
    (case a22 => k_is)
    (case l22 => k_is)
    (case c22 => k_is)
    (case k22 => k_is)
    (case a23 => k_is)
    (case l23 => k_is)
    (case c23 => k_is)
    (case k23 => k_is)
    (case a24 => k_is)
    (case l24 => k_is)
    (case c24 => k_is)
    (case k24 => k_is)
    (case a25 => k_is)
    (case l25 => k_is)
    (case c25 => k_is)
    (case k25 => k_is)
    (case a26 => k_is)
    (case l26 => k_is)
    (case c26 => k_is)
    (case k26 => k_is)
    (case a27 => k_is)
    (case l27 => k_is)
    (case c27 => k_is)
    (case k27 => k_is)
    (case a28 => k_is)
    (case l28 => k_is)
    (case c28 => k_is)
    (case k28 => k_is)
    (case a29 => k_is)
    (case l29 => k_is)
    (case c29 => k_is)
    (case k29 => k_is)
    (case a30 => k_is)
    (case l30 => k_is)
    (case c30 => k_is)
    (case k30 => k_is)
    (case a31 => k_is)
    (case l31 => k_is)
    (case c31 => k_is)
    (case k31 => k_is)
    (case a32 => k_is)
    (case l32 => k_is)
    (case c32 => k_is)
    (case k32 => k_is)
    (case a33 => k_is)
    (case l33 => k_is)
    (case c33 => k_is)
    (case k33 => k_is)
    (case a34 => k_is)
    (case l34 => k_is)
    (case c34 => k_is)
    (case k34 => k_is)
    (case a35 => k_is)
    (case l35 => k_is)
    (case c35 => k_is)
    (case k35 => k_is)
    (case aC_Search => k_is)
    (case pgC_Search => k_is)
    (case hdC_Search => k_is)
    (case poC_Search => k_is)
    (case saC_Search => k_is)
    (case mkC_Search => k_is)
    (case kcC_Search => k_is)
    (case nC_Search_most => k_is)
    (case nC_Search_first_later => k_is)
    (case nC_Search_last_later => k_is)
    (case nC_Search_later_step => k_is)
    (case nC_Search_lowest => k_is)
    (case nC_Search_highest => k_is)
    (case a36 => k_is)
    (case i36 => k_is)
    (case l36 => k_is)
    (case c36 => k_is)
    (case k36 => k_is)
    (case aC_Prices => k_is)
    (case pgC_Prices => k_is)
    (case hdC_Prices => k_is)
    (case poC_Prices => k_is)
    (case saC_Prices => k_is)
    (case mkC_Prices => k_is)
    (case kcC_Prices => k_is)
    (case nC_Prices_on_beat => k_is)
    (case nC_Prices_off_beat => k_is)
    (case nC_Prices_parallels => k_is)
    (case nC_Prices_beat => k_is)
    (case a37 => k_is)
    (case i37 => k_is)
    (case l37 => k_is)
    (case c37 => k_is)
    (case k37 => k_is)
    (case a38 => k_is)
    (case i38 => k_is)
    (case l38 => k_is)
    (case c38 => k_is)
    (case k38 => k_is)
    (case aC_Way => k_is)
    (case pgC_Way => k_is)
    (case hdC_Way => k_is)
    (case poC_Way => k_is)
    (case saC_Way => k_is)
    (case mkC_Way => k_is)
    (case kcC_Way => k_is)
    (case nC_Way_later => k_is)
    (case nC_Way_higher => k_is)
    (case nC_Way_upside_down => k_is)
    (case nC_Way_backwards => k_is)
    (case nC_Way_lengths => k_is)
    (case a39 => k_is)
    (case i39 => k_is)
    (case l39 => k_is)
    (case c39 => k_is)
    (case k39 => k_is)
    (case aC_Canon => k_is)
    (case pgC_Canon => k_is)
    (case hdC_Canon => k_is)
    (case poC_Canon => k_is)
    (case saC_Canon => k_is)
    (case mkC_Canon => k_is)
    (case kcC_Canon => k_is)
    (case nC_Canon_events => k_is)
    (case nC_Canon_other_voices => k_is)
    (case nC_Canon_prices => k_is)
    (case a40 => k_is)
    (case i40 => k_is)
    (case l40 => k_is)
    (case c40 => k_is)
    (case k40 => k_is)
    (case a41 => k_is)
    (case i41 => k_is)
    (case l41 => k_is)
    (case c41 => k_is)
    (case k41 => k_is)
    (case a42 => k_is)
    (case i42 => k_is)
    (case l42 => k_is)
    (case c42 => k_is)
    (case k42 => k_is)
    (case a43 => k_is)
    (case i43 => k_is)
    (case l43 => k_is)
    (case c43 => k_is)
    (case k43 => k_is)
    (case a44 => k_is)
    (case i44 => k_is)
    (case l44 => k_is)
    (case c44 => k_is)
    (case k44 => k_is)
    (case a45 => k_is)
    (case i45 => k_is)
    (case l45 => k_is)
    (case c45 => k_is)
    (case k45 => k_is)
    (case a46 => k_is)
    (case i46 => k_is)
    (case l46 => k_is)
    (case c46 => k_is)
    (case k46 => k_is)
    (case a47 => k_is)
    (case i47 => k_is)
    (case l47 => k_is)
    (case c47 => k_is)
    (case k47 => k_is)
    (case a48 => k_is)
    (case i48 => k_is)
    (case l48 => k_is)
    (case c48 => k_is)
    (case k48 => k_is)
    (case a49 => k_is)
    (case i49 => k_is)
    (case l49 => k_is)
    (case c49 => k_is)
    (case k49 => k_is)
    (case a50 => k_is)
    (case i50 => k_is)
    (case l50 => k_is)
    (case c50 => k_is)
    (case k50 => k_is)
    (case a51 => k_is)
    (case i51 => k_is)
    (case l51 => k_is)
    (case c51 => k_is)
    (case k51 => k_is)
    (case a52 => k_is)
    (case i52 => k_is)
    (case l52 => k_is)
    (case c52 => k_is)
    (case k52 => k_is)
    (case z_len => k_is)
    (case z_all => k_is)
    (case z_zip => k_is)
    (case z_sum => k_is)
    (case z_abs => k_is)
    (case z_set => k_is)
    (case z_sorted => k_is)
    (case z_tuple => k_is)
    (case z_enumerate => k_is)
    (case z_range => k_is)
    (case v_REST => k_is)
    (case v_NOTE => k_is)
    (case v_MOST_EVENTS => k_is)
    (case v_MOST_WAYS => k_is)
    (case v_MOST_TOLD => k_is)
    (case v_STEPS_OF_A_SCALE => k_is)
    (case v_TWICE_AS_LONG => k_is)
    (case v_HALF_AS_LONG => k_is)
    (case v_WRONG_NUMBERS => k_is)
    (case v_TOO_MANY_WAYS => k_is)
    (case v_NOT_POSSIBLE => k_is)
    (case v_WRONG_COUNT => k_is)
    (case v_NO_THEME => k_is)
    (case v_MOST_OTHER_VOICES => k_is)
    (case v_THEME => k_is)
    (case v_PRICES => k_is)
    (case v_WAY => k_is)
    (case v_DROP => k_is)
    (case v_VOICE => k_is)
    (case v_COST => k_is)
    (case v_BAD => k_is)
    (case v_FIND => k_is)
    (case v_REST_RANGES => k_is)
    (case w_REST_RANGES => k_is)
    (case w_REST_RANGES0 => k_is)
    (case w_REST_RANGES1 => k_is)
    (case v_NOTE_RANGES => k_is)
    (case w_NOTE_RANGES => k_is)
    (case w_NOTE_RANGES0 => k_is)
    (case w_NOTE_RANGES1 => k_is)
    (case w_NOTE_RANGES2 => k_is)
    (case v_SEARCH_RANGES => k_is)
    (case w_SEARCH_RANGES => k_is)
    (case w_SEARCH_RANGES0 => k_is)
    (case w_SEARCH_RANGES1 => k_is)
    (case w_SEARCH_RANGES2 => k_is)
    (case w_SEARCH_RANGES3 => k_is)
    (case w_SEARCH_RANGES4 => k_is)
    (case w_SEARCH_RANGES5 => k_is)
    (case v_SHAPES => k_is)
    (case w_SHAPES => k_is)
    (case w_SHAPES0 => k_is)
    (case w_SHAPES1 => k_is)
    (case w_SHAPES2 => k_is)
    (case w_SHAPES3 => k_is)
    (case w_SHAPES4 => k_is)
    (case w_SHAPES5 => k_is)
    (case w_SHAPES6 => k_is)
    (case w_SHAPES7 => k_is)
    (case w_SHAPES8 => k_is)
    (case w_SHAPES9 => k_is)
    (case w_SHAPES10 => k_is)
    (case w_SHAPES11 => k_is)
    (case v_PARALLEL_GAPS => k_is)
    (case w_PARALLEL_GAPS => k_is)
    (case v_FIRST_PRICES => k_is)
    (case w_FIRST_PRICES => k_is)
    (case v_WAY_RANGES => k_is)
    (case w_WAY_RANGES => k_is)
    (case w_WAY_RANGES0 => k_is)
    (case w_WAY_RANGES1 => k_is)
    (case w_WAY_RANGES2 => k_is)
    (case w_WAY_RANGES3 => k_is)
    (case w_WAY_RANGES4 => k_is)
    (case v_ROUND_RANGES => k_is)
    (case w_ROUND_RANGES => k_is)
    (case w_ROUND_RANGES0 => k_is)
    (case w_ROUND_RANGES1 => k_is)
  case S =>
    intro K H xs a hO hwi hask hx
    cases hx with
    | cons h1 h2 =>
      cases h2
      cases h1 with
      | lst hs ha =>
        have e := L2.ints_dw a.1 _ ha
        subst e
        exact ⟨_, a.1, rfl, hs, hask, fun H' p hp => .lst (L2.SqL.of hp) (L2.dw_ints _)⟩


