import PyProof.Rows.All
import Wide.All
import OpenK.AllK
import Wide.FinOn
import Open.SpecLaws
import KE.OsHead
import KE.OsGo
import HandS.ForMost
import HandS.ForSpec
import HandS.Evl
import PySem.Challenge.RW_leastchange_s01_answers
set_option Elab.async false
set_option linter.all false
set_option maxRecDepth 100000
set_option maxHeartbeats 4000000

namespace LC
open Kp371 (World Deed able done_ happen stepBy choices nexts states isAim itself)
open Kp372 (Desk base differ cost guarded layers leastAt costs best backs goRow bestRow played)

/-! ### lists in the order of their first difference -/
def lexLe : List Nat → List Nat → Prop
  | [], _ => True
  | _ :: _, [] => False
  | a :: l, b :: m => a < b ∨ (a = b ∧ lexLe l m)
def lexLt : List Nat → List Nat → Prop
  | [], [] => False
  | [], _ :: _ => True
  | _ :: _, [] => False
  | a :: l, b :: m => a < b ∨ (a = b ∧ lexLt l m)
theorem lexLe_refl : ∀ l, lexLe l l
  | [] => trivial
  | _ :: l => Or.inr ⟨rfl, lexLe_refl l⟩
theorem lexLt_le : ∀ {l m}, lexLt l m → lexLe l m
  | [], _, _ => trivial
  | _ :: _, [], h => h.elim
  | a :: l, b :: m, h => by
    rcases h with h | ⟨e, h⟩
    · exact Or.inl h
    · exact Or.inr ⟨e, lexLt_le h⟩
theorem lexLe_trans : ∀ {l m n}, lexLe l m → lexLe m n → lexLe l n
  | [], _, _, _, _ => trivial
  | _ :: _, [], _, h, _ => h.elim
  | _ :: _, _ :: _, [], _, h => h.elim
  | a :: l, b :: m, c :: n, h, k => by
    rcases h with h | ⟨e, h⟩ <;> rcases k with k | ⟨e', k⟩
    · exact Or.inl (Nat.lt_trans h k)
    · exact Or.inl (e' ▸ h)
    · exact Or.inl (e ▸ k)
    · exact Or.inr ⟨e.trans e', lexLe_trans h k⟩
theorem lexLe_antisymm : ∀ {l m : List Nat}, l.length = m.length → lexLe l m → lexLe m l → l = m
  | [], [], _, _, _ => rfl
  | [], _ :: _, h, _, _ => by simp at h
  | _ :: _, [], h, _, _ => by simp at h
  | a :: l, b :: m, hl, h, k => by
    rcases h with h | ⟨e, h⟩ <;> rcases k with k | ⟨e', k⟩
    · omega
    · omega
    · omega
    · subst e
      rw [lexLe_antisymm (by simpa using hl) h k]
theorem lexLt_snoc {i j : Nat} (h : i < j) : ∀ l, lexLt (l ++ [i]) (l ++ [j])
  | [] => Or.inl h
  | _ :: l => Or.inr ⟨rfl, lexLt_snoc h l⟩
theorem lexLt_app {i j : Nat} : ∀ {l m : List Nat}, l.length = m.length → lexLt l m → lexLt (l ++ [i]) (m ++ [j])
  | [], [], _, h => h.elim
  | [], _ :: _, h, _ => by simp at h
  | _ :: _, [], h, _ => by simp at h
  | a :: l, b :: m, hl, h => by
    rcases h with h | ⟨e, h⟩
    · exact Or.inl h
    · exact Or.inr ⟨e, lexLt_app (by simpa using hl) h⟩
theorem lexLe_app {i : Nat} : ∀ {l m : List Nat}, l.length = m.length → lexLe l m → lexLe (l ++ [i]) (m ++ [i])
  | [], [], _, _ => lexLe_refl _
  | [], _ :: _, h, _ => by simp at h
  | _ :: _, [], h, _ => by simp at h
  | a :: l, b :: m, hl, h => by
    rcases h with h | ⟨e, h⟩
    · exact Or.inl h
    · exact Or.inr ⟨e, lexLe_app (by simpa using hl) h⟩

/-! ### the least of some numbers -/
def IsLeast (o : Option Nat) (S : Nat → Prop) : Prop := match o with
  | none => ∀ c, ¬ S c
  | some m => S m ∧ ∀ c, S c → m ≤ c
theorem IsLeast.uniq {o o' : Option Nat} {S : Nat → Prop} (h : IsLeast o S) (h' : IsLeast o' S) : o = o' := by
  cases o with
  | none => cases o' with
    | none => rfl
    | some m => exact absurd h'.1 (h m)
  | some n => cases o' with
    | none => exact absurd h.1 (h' n)
    | some m =>
      have a := h.2 m h'.1
      have b := h'.2 n h.1
      exact congrArg some (Nat.le_antisymm a b)
theorem IsLeast.congr {o : Option Nat} {S S' : Nat → Prop} (h : IsLeast o S) (e : ∀ c, S c ↔ S' c) : IsLeast o S' := by
  cases o with
  | none => exact fun c hc => h c ((e c).mpr hc)
  | some m => exact ⟨(e m).mp h.1, fun c hc => h.2 c ((e c).mpr hc)⟩
def minStep (m : Option Nat) (c : Nat) : Option Nat := match m with
  | none => some c
  | some n => some (min n c)
theorem minStep_is {o : Option Nat} {S : Nat → Prop} (x : Nat) (h : IsLeast o S) : IsLeast (minStep o x) (fun c => S c ∨ c = x) := by
  cases o with
  | none =>
    refine ⟨Or.inr rfl, fun c hc => ?_⟩
    rcases hc with hc | hc
    · exact absurd hc (h c)
    · exact hc ▸ Nat.le_refl _
  | some n =>
    refine ⟨?_, fun c hc => ?_⟩
    · by_cases hx : n ≤ x
      · rw [Nat.min_eq_left hx]
        exact Or.inl h.1
      · rw [Nat.min_eq_right (by omega)]
        exact Or.inr rfl
    · rcases hc with hc | hc
      · exact Nat.le_trans (Nat.min_le_left _ _) (h.2 c hc)
      · exact hc ▸ Nat.min_le_right _ _
theorem minFold : ∀ (l : List Nat) (o : Option Nat) (S : Nat → Prop), IsLeast o S → IsLeast (l.foldl minStep o) (fun c => S c ∨ c ∈ l)
  | [], o, S, h => h.congr fun c => by simp
  | x :: l, o, S, h => (minFold l _ _ (minStep_is x h)).congr fun c => by
    rw [List.mem_cons]
    exact or_assoc
theorem leastAt_is (d : Desk) (a w b t : Nat) (l : List Nat) : IsLeast (leastAt d a w b t l) (fun c => ∃ x ∈ l, isAim a w x = true ∧ c = cost d a x (base d b t)) := by
  have h := minFold ((l.filter (isAim a w)).map fun x => cost d a x (base d b t)) none (fun _ => False) (fun _ h => h)
  refine h.congr fun c => ?_
  constructor
  · rintro (h | h)
    · exact h.elim
    · obtain ⟨x, hx, rfl⟩ := List.mem_map.mp h
      obtain ⟨h1, h2⟩ := List.mem_filter.mp hx
      exact ⟨x, h1, h2, rfl⟩
  · rintro ⟨x, h1, h2, rfl⟩
    exact Or.inr (List.mem_map.mpr ⟨x, List.mem_filter.mpr ⟨h1, h2⟩, rfl⟩)

/-! ### rows of choices that keep the guard -/
def run (d : Desk) (b g : Nat) : Nat → Nat → List Nat → Option Nat
  | _, x, [] => some x
  | t, x, i :: r => match stepBy d.world x i with
    | none => none
    | some y => if guarded d b g (t + 1) y then run d b g (t + 1) y r else none
theorem run_snoc {d : Desk} {b g : Nat} : ∀ {l : List Nat} {t x i s : Nat}, run d b g t x (l ++ [i]) = some s ↔ ∃ u, run d b g t x l = some u ∧ stepBy d.world u i = some s ∧ guarded d b g (t + l.length + 1) s = true
  | [], t, x, i, s => by
    show run d b g t x [i] = some s ↔ _
    unfold run
    constructor
    · intro h
      cases e : stepBy d.world x i with
      | none => rw [e] at h; cases h
      | some y =>
        rw [e] at h
        by_cases hg : guarded d b g (t + 1) y = true
        · simp only [hg, if_true] at h
          have : y = s := by simpa [run] using h
          subst this
          exact ⟨x, rfl, e, hg⟩
        · simp [hg] at h
    · rintro ⟨u, hu, hs, hg⟩
      have : x = u := by simpa [run] using hu
      subst this
      have hg' : guarded d b g (t + 1) s = true := hg
      rw [hs]
      simp [hg', run]
  | j :: l, t, x, i, s => by
    show run d b g t x (j :: (l ++ [i])) = some s ↔ _
    have e0 : t + (j :: l).length + 1 = (t + 1) + l.length + 1 := by simp; omega
    rw [e0]
    unfold run
    cases e : stepBy d.world x j with
    | none => simp
    | some y =>
      by_cases hg : guarded d b g (t + 1) y = true
      · simp only [hg, if_true]
        exact run_snoc
      · simp [hg]
theorem run_cons {d : Desk} {b g t x i s : Nat} {r : List Nat} : run d b g t x (i :: r) = some s ↔ ∃ y, stepBy d.world x i = some y ∧ guarded d b g (t + 1) y = true ∧ run d b g (t + 1) y r = some s := by
  show (match stepBy d.world x i with
    | none => none
    | some y => if guarded d b g (t + 1) y then run d b g (t + 1) y r else none) = some s ↔ _
  cases e : stepBy d.world x i with
  | none => simp
  | some y =>
    by_cases hg : guarded d b g (t + 1) y = true
    · simp [hg]
    · simp [hg]

/-! ### the mirror of the search -/
abbrev Rows := List (Nat × List Nat)
def hasKey (L : Rows) (t : Nat) : Bool := L.any fun p => p.1 == t
def addRow (g against : Nat) (r : List Nat) (acc : Rows) (i t : Nat) : Rows := if hasKey acc t = false ∧ ((t ^^^ against) &&& g) = 0 then acc ++ [(t, r ++ [i])] else acc
def oneChoice (d : Desk) (g against : Nat) (p : Nat × List Nat) (acc : Rows) (i : Nat) : Rows := match stepBy d.world p.1 i with
  | none => acc
  | some t => addRow g against p.2 acc i t
def oneState (d : Desk) (g against : Nat) (acc : Rows) (p : Nat × List Nat) : Rows := (choices d.world).foldl (oneChoice d g against p) acc
def stepRows (d : Desk) (g against : Nat) (L : Rows) : Rows := L.foldl (oneState d g against) []
def rowsAt (d : Desk) (b g : Nat) : Nat → Rows
  | 0 => [(d.world.now, [])]
  | t + 1 => stepRows d g (base d b (t + 1)) (rowsAt d b g t)
abbrev End := Option (Nat × List Nat)
def oneLeast (d : Desk) (a w against : Nat) (m : End) (p : Nat × List Nat) : End := if isAim a w p.1 then (match m with
    | none => some (cost d a p.1 against, p.2)
    | some n => if cost d a p.1 against < n.1 then some (cost d a p.1 against, p.2) else some n) else m
def firstLeast (d : Desk) (a w against : Nat) (L : Rows) : End := L.foldl (oneLeast d a w against) none
def endAt (d : Desk) (a w b g t : Nat) : End := firstLeast d a w (base d b t) (rowsAt d b g t)
def ends (d : Desk) (a w b g k : Nat) : List End := (List.range (k + 1)).map (endAt d a w b g)
def oneEnd (m e : End) : End := match e with
  | none => m
  | some n => match m with
    | none => some n
    | some o => if n.1 < o.1 then some n else some o
def leastEnd (l : List End) : End := l.foldl oneEnd none

/-! ### what a step of the search leaves -/
def cand (d : Desk) (L : Rows) : Rows := L.flatMap fun p => (choices d.world).filterMap fun i => (stepBy d.world p.1 i).map fun t => (t, p.2 ++ [i])
def okT (g against : Nat) (p : Nat × List Nat) : Bool := ((p.1 ^^^ against) &&& g) == 0
def add1 (acc : Rows) (p : Nat × List Nat) : Rows := if hasKey acc p.1 then acc else acc ++ [p]
theorem foldChoices (d : Desk) (g against : Nat) (p : Nat × List Nat) : ∀ (l : List Nat) (acc : Rows), l.foldl (oneChoice d g against p) acc = ((l.filterMap fun i => (stepBy d.world p.1 i).map fun t => (t, p.2 ++ [i])).filter (okT g against)).foldl add1 acc
  | [], _ => rfl
  | i :: l, acc => by
    rw [List.foldl_cons, foldChoices d g against p l]
    unfold oneChoice
    cases e : stepBy d.world p.1 i with
    | none => simp [List.filterMap_cons, e]
    | some t =>
      simp only [List.filterMap_cons, e, Option.map_some]
      by_cases hg : ((t ^^^ against) &&& g) = 0
      · have hk : okT g against (t, p.2 ++ [i]) = true := by simp [okT, hg]
        rw [List.filter_cons_of_pos hk, List.foldl_cons]
        congr 1
        unfold addRow add1
        by_cases hh : hasKey acc t = true
        · simp [hh]
        · simp [hh, hg]
      · have hk : ¬ okT g against (t, p.2 ++ [i]) = true := by simp [okT, hg]
        rw [List.filter_cons_of_neg hk]
        congr 1
        unfold addRow
        simp [hg]
theorem foldStates (d : Desk) (g against : Nat) : ∀ (L acc : Rows), L.foldl (oneState d g against) acc = ((cand d L).filter (okT g against)).foldl add1 acc
  | [], _ => rfl
  | p :: L, acc => by
    rw [List.foldl_cons, foldStates d g against L]
    unfold cand
    rw [List.flatMap_cons, List.filter_append, List.foldl_append]
    congr 1
    exact foldChoices d g against p _ _
theorem stepRows_eq (d : Desk) (g against : Nat) (L : Rows) : stepRows d g against L = ((cand d L).filter (okT g against)).foldl add1 [] := foldStates d g against L []
theorem hasKey_iff {L : Rows} {t : Nat} : hasKey L t = true ↔ ∃ r, (t, r) ∈ L := by
  unfold hasKey
  rw [List.any_eq_true]
  constructor
  · rintro ⟨⟨a, r⟩, h, e⟩
    have : a = t := by simpa using e
    subst this
    exact ⟨r, h⟩
  · rintro ⟨r, h⟩
    exact ⟨_, h, by simp⟩
/-- what add1 leaves of a sorted row: a sorted part of it, in which each key stands with its first row -/
structure Kept (L M : Rows) : Prop where
  sub : ∀ p ∈ M, p ∈ L
  srt : M.Pairwise fun p q => lexLt p.2 q.2
  fst : ∀ p ∈ L, ∃ r, (p.1, r) ∈ M ∧ lexLe r p.2
  nd : (M.map (·.1)).Nodup
theorem kept_add1 {L M : Rows} (K : Kept L M) {p : Nat × List Nat} (h : ∀ q ∈ L, lexLt q.2 p.2) : Kept (L ++ [p]) (add1 M p) := by
  unfold add1
  by_cases hk : hasKey M p.1 = true
  · rw [if_pos hk]
    obtain ⟨r, hr⟩ := hasKey_iff.mp hk
    refine ⟨fun q hq => List.mem_append.mpr (Or.inl (K.sub q hq)), K.srt, fun q hq => ?_, K.nd⟩
    rcases List.mem_append.mp hq with hq | hq
    · exact K.fst q hq
    · have : q = p := by simpa using hq
      subst this
      exact ⟨r, hr, lexLt_le (h _ (K.sub _ hr))⟩
  · rw [if_neg hk]
    refine ⟨fun q hq => ?_, ?_, fun q hq => ?_, ?_⟩
    · rcases List.mem_append.mp hq with hq | hq
      · exact List.mem_append.mpr (Or.inl (K.sub q hq))
      · exact List.mem_append.mpr (Or.inr hq)
    · rw [List.pairwise_append]
      refine ⟨K.srt, List.pairwise_singleton _ _, fun a ha b hb => ?_⟩
      have : b = p := by simpa using hb
      subst this
      exact h a (K.sub a ha)
    · rcases List.mem_append.mp hq with hq | hq
      · obtain ⟨r, h1, h2⟩ := K.fst q hq
        exact ⟨r, List.mem_append.mpr (Or.inl h1), h2⟩
      · have : q = p := by simpa using hq
        subst this
        exact ⟨q.2, List.mem_append.mpr (Or.inr (by simp)), lexLe_refl _⟩
    · rw [List.map_append, List.nodup_append]
      refine ⟨K.nd, by simp, fun a ha b hb => ?_⟩
      obtain ⟨q, hq, rfl⟩ := List.mem_map.mp ha
      have : b = p.1 := by simpa using hb
      subst this
      intro e
      exact hk (hasKey_iff.mpr ⟨q.2, by rw [← e]; exact hq⟩)
theorem kept_fold : ∀ (L2 L1 M : Rows), Kept L1 M → (L1 ++ L2).Pairwise (fun p q => lexLt p.2 q.2) → Kept (L1 ++ L2) (L2.foldl add1 M)
  | [], L1, M, K, _ => by
    rw [List.append_nil]
    exact K
  | p :: L2, L1, M, K, h => by
    rw [List.foldl_cons]
    have e : L1 ++ p :: L2 = (L1 ++ [p]) ++ L2 := by simp
    rw [e] at h ⊢
    refine kept_fold L2 (L1 ++ [p]) (add1 M p) (kept_add1 K fun q hq => ?_) h
    have h1 := (List.pairwise_append.mp h).1
    exact (List.pairwise_append.mp h1).2.2 q hq p (by simp)
theorem kept_nil : Kept [] [] := ⟨fun _ h => h, List.Pairwise.nil, fun _ h => (by cases h), by simp⟩
end LC

namespace LC
open Kp371 (World Deed able done_ happen stepBy choices nexts states isAim itself)
open Kp372 (Desk base differ cost guarded layers leastAt costs best backs goRow bestRow played)
/-- all that a deed or an event tells lies within m facts -/
structure OkR (m : Nat) (r : Deed) : Prop where
  needs : r.needs < 2 ^ m
  so : r.so < 2 ^ m
  makes : r.makes < 2 ^ m
  thus : r.thus < 2 ^ m
structure Good (d : Desk) : Prop where
  m2 : 2 ≤ d.world.m
  m5 : d.world.m ≤ 5
  now : d.world.now < 2 ^ d.world.m
  nd : d.world.deeds.length ≤ 6
  ne : d.world.events.length ≤ 3
  dm : ∀ r ∈ d.world.deeds, OkR d.world.m r
  em : ∀ r ∈ d.world.events, OkR d.world.m r
  wl : d.weights.length = d.world.m
  wb : ∀ x ∈ d.weights, x ≤ 100
theorem done_lt {m s : Nat} {r : Deed} (hs : s < 2 ^ m) (h : OkR m r) : done_ s r < 2 ^ m := Nat.or_lt_two_pow (by omega) h.thus
theorem events_lt {m : Nat} : ∀ {l : List Deed} {s : Nat}, (∀ r ∈ l, OkR m r) → s < 2 ^ m → l.foldl (fun (s : Nat) (e : Deed) => if able s e then done_ s e else s) s < 2 ^ m
  | [], _, _, hs => hs
  | r :: l, s, h, hs => by
    rw [List.foldl_cons]
    refine events_lt (fun q hq => h q (List.mem_cons_of_mem _ hq)) ?_
    by_cases c : able s r = true
    · rw [if_pos c]
      exact done_lt hs (h r (List.mem_cons_self ..))
    · rw [if_neg c]
      exact hs
theorem happen_lt {d : Desk} (G : Good d) {s : Nat} (hs : s < 2 ^ d.world.m) : happen d.world s < 2 ^ d.world.m := events_lt G.em hs
theorem step_lt {d : Desk} (G : Good d) {s i t : Nat} (hs : s < 2 ^ d.world.m) (h : stepBy d.world s i = some t) : t < 2 ^ d.world.m := by
  unfold stepBy at h
  cases e : d.world.deeds[i]? with
  | none =>
    rw [e] at h
    by_cases c : i = d.world.deeds.length
    · simp only [c, if_true, Option.some.injEq] at h
      exact h ▸ happen_lt G hs
    · simp [c] at h
  | some r =>
    rw [e] at h
    by_cases c : able s r = true
    · simp only [c, if_true, Option.some.injEq] at h
      exact h ▸ happen_lt G (done_lt hs (G.dm r (List.mem_of_getElem? e)))
    · simp [c] at h
theorem step_choice {w : World} {s i t : Nat} (h : stepBy w s i = some t) : i < w.deeds.length + 1 := by
  unfold stepBy at h
  cases e : w.deeds[i]? with
  | none =>
    rw [e] at h
    by_cases c : i = w.deeds.length
    · omega
    · simp [c] at h
  | some r =>
    have := (List.getElem?_eq_some_iff.mp e).1
    omega
theorem mem_nexts {w : World} {u x : Nat} : x ∈ nexts w u ↔ ∃ i, stepBy w u i = some x := by
  unfold nexts
  rw [List.mem_filterMap]
  constructor
  · rintro ⟨i, _, h⟩
    exact ⟨i, h⟩
  · rintro ⟨i, h⟩
    exact ⟨i, List.mem_range.mpr (step_choice h), h⟩
theorem itself_succ {w : World} : ∀ (k s : Nat), itself w s (k + 1) = happen w (itself w s k)
  | 0, _ => rfl
  | k + 1, s => by
    show itself w (happen w s) (k + 1) = happen w (itself w (happen w s) k)
    exact itself_succ k _
theorem itself_lt {d : Desk} (G : Good d) : ∀ (k : Nat), itself d.world d.world.now k < 2 ^ d.world.m
  | 0 => G.now
  | k + 1 => by
    rw [itself_succ]
    exact happen_lt G (itself_lt G k)
theorem base_lt {d : Desk} (G : Good d) (b t : Nat) : base d b t < 2 ^ d.world.m := by
  unfold base
  by_cases c : b = 0
  · rw [if_pos c]
    exact G.now
  · rw [if_neg c]
    exact itself_lt G t
theorem run_lt {d : Desk} (G : Good d) {b g : Nat} : ∀ {l : List Nat} {t x s : Nat}, x < 2 ^ d.world.m → run d b g t x l = some s → s < 2 ^ d.world.m
  | [], t, x, s, hx, h => by
    have : x = s := by simpa [run] using h
    exact this ▸ hx
  | i :: l, t, x, s, hx, h => by
    obtain ⟨y, h1, _, h2⟩ := run_cons.mp h
    exact run_lt G (step_lt G hx h1) h2

/-! ### the rows that are followed -/
structure RowsOk (d : Desk) (b g t : Nat) (L : Rows) : Prop where
  run : ∀ p ∈ L, run d b g 0 d.world.now p.2 = some p.1 ∧ p.2.length = t
  all : ∀ l s, l.length = t → LC.run d b g 0 d.world.now l = some s → ∃ r, (s, r) ∈ L ∧ lexLe r l
  srt : L.Pairwise fun p q => lexLt p.2 q.2
  nd : (L.map (·.1)).Nodup
theorem range_pair : ∀ n, (List.range n).Pairwise (· < ·) := fun n => List.pairwise_lt_range
theorem cand_mem {d : Desk} {L : Rows} {q : Nat × List Nat} : q ∈ cand d L ↔ ∃ p ∈ L, ∃ i, stepBy d.world p.1 i = some q.1 ∧ q.2 = p.2 ++ [i] := by
  unfold cand
  rw [List.mem_flatMap]
  constructor
  · rintro ⟨p, hp, h⟩
    obtain ⟨i, _, hi⟩ := List.mem_filterMap.mp h
    cases e : stepBy d.world p.1 i with
    | none => rw [e] at hi; cases hi
    | some t =>
      rw [e] at hi
      have : (t, p.2 ++ [i]) = q := by simpa using hi
      subst this
      exact ⟨p, hp, i, e, rfl⟩
  · rintro ⟨p, hp, i, h, e⟩
    refine ⟨p, hp, List.mem_filterMap.mpr ⟨i, List.mem_range.mpr (step_choice h), ?_⟩⟩
    rw [h, ← e]
    rfl
theorem cand_srt {d : Desk} {t : Nat} : ∀ {L : Rows}, (∀ p ∈ L, p.2.length = t) → L.Pairwise (fun p q => lexLt p.2 q.2) → (cand d L).Pairwise (fun p q => lexLt p.2 q.2)
  | [], _, _ => List.Pairwise.nil
  | p :: L, hl, h => by
    obtain ⟨h1, h2⟩ := List.pairwise_cons.mp h
    have e : cand d (p :: L) = ((choices d.world).filterMap fun i => (stepBy d.world p.1 i).map fun t => (t, p.2 ++ [i])) ++ cand d L := by
      unfold cand
      rw [List.flatMap_cons]
    rw [e, List.pairwise_append]
    refine ⟨?_, cand_srt (fun q hq => hl q (List.mem_cons_of_mem _ hq)) h2, fun a ha q hq => ?_⟩
    · rw [List.pairwise_filterMap]
      refine List.Pairwise.imp ?_ (range_pair _)
      intro i j hij x hx y hy
      cases e1 : stepBy d.world p.1 i with
      | none => rw [e1] at hx; cases hx
      | some t1 => cases e2 : stepBy d.world p.1 j with
        | none => rw [e2] at hy; cases hy
        | some t2 =>
          rw [e1] at hx
          rw [e2] at hy
          have hx : (t1, p.2 ++ [i]) = x := by simpa using hx
          have hy : (t2, p.2 ++ [j]) = y := by simpa using hy
          subst hx
          subst hy
          exact lexLt_snoc hij _
    · obtain ⟨i, _, hi⟩ := List.mem_filterMap.mp ha
      cases e1 : stepBy d.world p.1 i with
      | none => rw [e1] at hi; cases hi
      | some t1 =>
        rw [e1] at hi
        have hi : (t1, p.2 ++ [i]) = a := by simpa using hi
        subst hi
        obtain ⟨p', hp', j, _, e2⟩ := cand_mem.mp hq
        rw [e2]
        exact lexLt_app ((hl p (List.mem_cons_self ..)).trans (hl p' (List.mem_cons_of_mem _ hp')).symm) (h1 p' hp')
theorem rowsOk_zero (d : Desk) (b g : Nat) : RowsOk d b g 0 (rowsAt d b g 0) := by
  refine ⟨fun p hp => ?_, fun l s hl h => ?_, List.pairwise_singleton _ _, by simp [rowsAt]⟩
  · have : p = (d.world.now, []) := by simpa [rowsAt] using hp
    subst this
    exact ⟨rfl, rfl⟩
  · have : l = [] := by simpa using hl
    subst this
    have : d.world.now = s := by simpa [run] using h
    subst this
    exact ⟨[], by simp [rowsAt], trivial⟩
theorem rowsOk_succ {d : Desk} {b g t : Nat} {L : Rows} (R : RowsOk d b g t L) : RowsOk d b g (t + 1) (stepRows d g (base d b (t + 1)) L) := by
  rw [stepRows_eq]
  have hs := cand_srt (d := d) (fun p hp => (R.run p hp).2) R.srt
  have hs2 := List.Pairwise.filter (okT g (base d b (t + 1))) hs
  have K := kept_fold ((cand d L).filter (okT g (base d b (t + 1)))) [] [] kept_nil (by simpa using hs2)
  rw [List.nil_append] at K
  have okg : ∀ q : Nat × List Nat, okT g (base d b (t + 1)) q = guarded d b g (t + 1) q.1 := fun q => rfl
  refine ⟨fun q hq => ?_, fun l s hl h => ?_, K.srt, K.nd⟩
  · obtain ⟨h1, h2⟩ := List.mem_filter.mp (K.sub q hq)
    obtain ⟨p, hp, i, e1, e2⟩ := cand_mem.mp h1
    obtain ⟨r1, r2⟩ := R.run p hp
    rw [e2]
    refine ⟨run_snoc.mpr ⟨p.1, r1, e1, ?_⟩, by simp [r2]⟩
    rw [r2, Nat.zero_add]
    exact (okg q) ▸ h2
  · have hne : l ≠ [] := by intro e; simp [e] at hl
    obtain ⟨l1, i, rfl⟩ : ∃ l1 i, l = l1 ++ [i] := ⟨l.dropLast, l.getLast hne, (List.dropLast_concat_getLast hne).symm⟩
    have hl1 : l1.length = t := by simpa using hl
    obtain ⟨u, hu, h1, h2⟩ := run_snoc.mp h
    rw [hl1, Nat.zero_add] at h2
    obtain ⟨r1, hr1, le1⟩ := R.all l1 u hl1 hu
    have hm : (s, r1 ++ [i]) ∈ (cand d L).filter (okT g (base d b (t + 1))) := List.mem_filter.mpr ⟨cand_mem.mpr ⟨_, hr1, i, h1, rfl⟩, (okg _).trans h2⟩
    obtain ⟨r, hr, le⟩ := K.fst _ hm
    exact ⟨r, hr, lexLe_trans le (lexLe_app ((R.run _ hr1).2.trans hl1.symm) le1)⟩
theorem rowsOk (d : Desk) (b g : Nat) : ∀ t, RowsOk d b g t (rowsAt d b g t)
  | 0 => rowsOk_zero d b g
  | t + 1 => rowsOk_succ (rowsOk d b g t)

/-! ### layers -/
def layer (d : Desk) (b g t : Nat) : List Nat := (layers d b g t).getLastD []
theorem getLastD_snoc {α : Type} (l : List α) (x y : α) : (l ++ [x]).getLastD y = x := by
  rw [List.getLastD_eq_getLast?]
  simp
theorem layer_zero (d : Desk) (b g : Nat) : layer d b g 0 = [d.world.now] := rfl
theorem layer_succ (d : Desk) (b g t : Nat) : layer d b g (t + 1) = (states d.world).filter fun x => guarded d b g (t + 1) x && ((layer d b g t).any fun u => (nexts d.world u).contains x) := getLastD_snoc _ _ _
theorem layers_eq (d : Desk) (b g : Nat) : ∀ k, layers d b g k = (List.range (k + 1)).map (layer d b g)
  | 0 => rfl
  | k + 1 => by
    rw [List.range_succ, List.map_append, ← layers_eq d b g k]
    show layers d b g k ++ [_] = layers d b g k ++ [layer d b g (k + 1)]
    rw [layer_succ]
    rfl
theorem layer_mem {d : Desk} (G : Good d) {b g : Nat} : ∀ {t x : Nat}, x ∈ layer d b g t ↔ ∃ l, l.length = t ∧ run d b g 0 d.world.now l = some x
  | 0, x => by
    rw [layer_zero]
    constructor
    · intro h
      have : x = d.world.now := by simpa using h
      subst this
      exact ⟨[], rfl, rfl⟩
    · rintro ⟨l, hl, h⟩
      have : l = [] := by simpa using hl
      subst this
      have : d.world.now = x := by simpa [run] using h
      simp [this]
  | t + 1, x => by
    rw [layer_succ, List.mem_filter, Bool.and_eq_true, List.any_eq_true]
    constructor
    · rintro ⟨_, hg, u, hu, hx⟩
      obtain ⟨l, hl, h⟩ := (layer_mem G).mp hu
      obtain ⟨i, hi⟩ := mem_nexts.mp (List.contains_iff_mem.mp hx)
      refine ⟨l ++ [i], by simp [hl], run_snoc.mpr ⟨u, h, hi, ?_⟩⟩
      rw [hl, Nat.zero_add]
      exact hg
    · rintro ⟨l, hl, h⟩
      have hne : l ≠ [] := by intro e; simp [e] at hl
      obtain ⟨l1, i, rfl⟩ : ∃ l1 i, l = l1 ++ [i] := ⟨l.dropLast, l.getLast hne, (List.dropLast_concat_getLast hne).symm⟩
      have hl1 : l1.length = t := by simpa using hl
      have hlt := run_lt G G.now h
      obtain ⟨u, hu, h1, h2⟩ := run_snoc.mp h
      rw [hl1, Nat.zero_add] at h2
      exact ⟨List.mem_range.mpr hlt, h2, u, (layer_mem G).mpr ⟨l1, hl1, hu⟩, List.contains_iff_mem.mpr (mem_nexts.mpr ⟨i, h1⟩)⟩
theorem key_mem {d : Desk} (G : Good d) {b g t x : Nat} : x ∈ layer d b g t ↔ ∃ r, (x, r) ∈ rowsAt d b g t := by
  rw [layer_mem G]
  constructor
  · rintro ⟨l, hl, h⟩
    obtain ⟨r, hr, _⟩ := (rowsOk d b g t).all l x hl h
    exact ⟨r, hr⟩
  · rintro ⟨r, hr⟩
    obtain ⟨h1, h2⟩ := (rowsOk d b g t).run _ hr
    exact ⟨r, h2, h1⟩

/-! ### the first of the least -/
structure First (d : Desk) (a w against : Nat) (L : Rows) (e : End) : Prop where
  none_ : e = none → ∀ p ∈ L, isAim a w p.1 = false
  some_ : ∀ c r, e = some (c, r) → ∃ A s B, L = A ++ (s, r) :: B ∧ isAim a w s = true ∧ cost d a s against = c ∧ (∀ p ∈ A, isAim a w p.1 = true → c < cost d a p.1 against) ∧ (∀ p ∈ B, isAim a w p.1 = true → c ≤ cost d a p.1 against)
theorem first_step {d : Desk} {a w against : Nat} {L : Rows} {e : End} (F : First d a w against L e) (p : Nat × List Nat) : First d a w against (L ++ [p]) (oneLeast d a w against e p) := by
  unfold oneLeast
  by_cases ha : isAim a w p.1 = true
  · rw [if_pos ha]
    cases e with
    | none =>
      refine ⟨fun h => (by cases h), fun c r h => ?_⟩
      have h : (cost d a p.1 against, p.2) = (c, r) := Option.some.inj h
      obtain ⟨rfl, rfl⟩ := Prod.mk.inj h
      refine ⟨L, p.1, [], rfl, ha, rfl, fun q hq hq2 => ?_, fun q hq => by cases hq⟩
      rw [F.none_ rfl q hq] at hq2
      cases hq2
    | some n =>
      obtain ⟨n1, n2⟩ := n
      obtain ⟨A, s, B, e1, e2, e3, e4, e5⟩ := F.some_ n1 n2 rfl
      by_cases hc : cost d a p.1 against < n1
      · refine ⟨fun h => by simp [hc] at h, fun c r h => ?_⟩
        simp only [hc, if_true, Option.some.injEq, Prod.mk.injEq] at h
        obtain ⟨rfl, rfl⟩ := h
        refine ⟨L, p.1, [], rfl, ha, rfl, fun q hq hq2 => ?_, fun q hq => by cases hq⟩
        rw [e1] at hq
        rcases List.mem_append.mp hq with h | h
        · exact Nat.lt_trans hc (e4 q h hq2)
        · rcases List.mem_cons.mp h with h | h
          · subst h
            rw [e3]
            exact hc
          · exact Nat.lt_of_lt_of_le hc (e5 q h hq2)
      · refine ⟨fun h => by simp [hc] at h, fun c r h => ?_⟩
        simp only [hc, if_false, Option.some.injEq, Prod.mk.injEq] at h
        obtain ⟨rfl, rfl⟩ := h
        refine ⟨A, s, B ++ [p], by rw [e1]; simp, e2, e3, e4, fun q hq hq2 => ?_⟩
        rcases List.mem_append.mp hq with h | h
        · exact e5 q h hq2
        · have : q = p := by simpa using h
          subst this
          exact Nat.le_of_not_lt hc
  · rw [if_neg ha]
    have ha' : isAim a w p.1 = false := by simpa using ha
    refine ⟨fun h q hq => ?_, fun c r h => ?_⟩
    · rcases List.mem_append.mp hq with hq | hq
      · exact F.none_ h q hq
      · have : q = p := by simpa using hq
        subst this
        exact ha'
    · obtain ⟨A, s, B, e1, e2, e3, e4, e5⟩ := F.some_ c r h
      refine ⟨A, s, B ++ [p], by rw [e1]; simp, e2, e3, e4, fun q hq hq2 => ?_⟩
      rcases List.mem_append.mp hq with h | h
      · exact e5 q h hq2
      · have : q = p := by simpa using h
        subst this
        exact absurd hq2 ha
theorem first_fold {d : Desk} {a w against : Nat} : ∀ (L2 L1 : Rows) (e : End), First d a w against L1 e → First d a w against (L1 ++ L2) (L2.foldl (oneLeast d a w against) e)
  | [], L1, e, F => by
    rw [List.append_nil]
    exact F
  | p :: L2, L1, e, F => by
    rw [List.foldl_cons, show L1 ++ p :: L2 = (L1 ++ [p]) ++ L2 by simp]
    exact first_fold L2 _ _ (first_step F p)
theorem first_is (d : Desk) (a w against : Nat) (L : Rows) : First d a w against L (firstLeast d a w against L) := by
  have h := first_fold (d := d) (a := a) (w := w) (against := against) L [] none ⟨fun _ _ h => (by cases h), fun _ _ h => (by cases h)⟩
  rw [List.nil_append] at h
  exact h
theorem endAt_least {d : Desk} (G : Good d) (a w b g t : Nat) : leastAt d a w b t (layer d b g t) = (endAt d a w b g t).map (·.1) := by
  refine (leastAt_is d a w b t (layer d b g t)).uniq ?_
  have F := first_is d a w (base d b t) (rowsAt d b g t)
  have e : endAt d a w b g t = firstLeast d a w (base d b t) (rowsAt d b g t) := rfl
  rw [e]
  cases h : firstLeast d a w (base d b t) (rowsAt d b g t) with
  | none =>
    intro c hc
    obtain ⟨x, hx, hx2, _⟩ := hc
    obtain ⟨r, hr⟩ := (key_mem G).mp hx
    rw [F.none_ h _ hr] at hx2
    cases hx2
  | some n =>
    obtain ⟨c, r⟩ := n
    obtain ⟨A, s, B, e1, e2, e3, e4, e5⟩ := F.some_ c r h
    refine ⟨⟨s, (key_mem G).mpr ⟨r, by rw [e1]; simp⟩, e2, e3.symm⟩, fun c' hc' => ?_⟩
    obtain ⟨x, hx, hx2, rfl⟩ := hc'
    obtain ⟨r', hr'⟩ := (key_mem G).mp hx
    show c ≤ _
    rw [e1] at hr'
    rcases List.mem_append.mp hr' with h | h
    · exact Nat.le_of_lt (e4 _ h hx2)
    · rcases List.mem_cons.mp h with h | h
      · obtain ⟨rfl, rfl⟩ := Prod.mk.inj h
        exact Nat.le_of_eq e3.symm
      · exact e5 _ h hx2
theorem zip_map {α β : Type} (f : Nat → α) (h : α × Nat → β) : ∀ n, (((List.range n).map f).zipIdx).map h = (List.range n).map fun t => h (f t, t)
  | 0 => rfl
  | n + 1 => by
    rw [List.range_succ, List.map_append, List.zipIdx_append, List.map_append, zip_map f h n, List.map_append]
    simp
theorem costs_eq {d : Desk} (G : Good d) (a w b g k : Nat) : costs d a w b g k = (ends d a w b g k).map (Option.map (·.1)) := by
  unfold costs ends
  rw [layers_eq, zip_map, List.map_map]
  exact List.map_congr_left fun t _ => endAt_least G a w b g t
end LC

namespace LC
open Kp371 (World Deed able done_ happen stepBy choices nexts states isAim itself)
open Kp372 (Desk base differ cost guarded layers leastAt costs best backs goRow bestRow played)

/-! ### the least of all -/
def bestStep (m : Option (Nat × Nat)) (x : Option Nat × Nat) : Option (Nat × Nat) := match x.1, m with
  | none, m => m
  | some c, none => some (c, x.2)
  | some c, some n => if c < n.1 then some (c, x.2) else some n
theorem best_fold (d : Desk) (a w b g k : Nat) : best d a w b g k = ((costs d a w b g k).zipIdx).foldl bestStep none := rfl
theorem zip_fold {α β : Type} (f : Nat → α) (h : β → α × Nat → β) (z : β) : ∀ n, (((List.range n).map f).zipIdx).foldl h z = (List.range n).foldl (fun m t => h m (f t, t)) z
  | 0 => rfl
  | n + 1 => by
    rw [List.range_succ, List.map_append, List.zipIdx_append, List.foldl_append, zip_fold f h z n, List.foldl_append]
    simp
def lenE (e : End) : Option (Nat × Nat) := e.map fun n => (n.1, n.2.length)
theorem endAt_len (d : Desk) (a w b g t c : Nat) (r : List Nat) (h : endAt d a w b g t = some (c, r)) : r.length = t := by
  obtain ⟨A, s, B, e1, _⟩ := (first_is d a w (base d b t) (rowsAt d b g t)).some_ c r h
  exact ((rowsOk d b g t).run (s, r) (by rw [e1]; simp)).2
theorem best_range {d : Desk} (G : Good d) (a w b g : Nat) : ∀ n, (List.range n).foldl (fun m t => bestStep m ((endAt d a w b g t).map (·.1), t)) none = lenE (leastEnd ((List.range n).map (endAt d a w b g)))
  | 0 => rfl
  | n + 1 => by
    rw [List.range_succ, List.foldl_append, best_range G a w b g n, List.map_append]
    unfold leastEnd
    rw [List.foldl_append]
    show bestStep (lenE (leastEnd _)) ((endAt d a w b g n).map (·.1), n) = lenE (oneEnd (leastEnd _) (endAt d a w b g n))
    generalize leastEnd ((List.range n).map (endAt d a w b g)) = m
    cases e : endAt d a w b g n with
    | none => rfl
    | some x =>
      obtain ⟨c, r⟩ := x
      have hl := endAt_len d a w b g n c r e
      cases m with
      | none =>
        show some (c, n) = some (c, r.length)
        rw [hl]
      | some o =>
        show (if c < o.1 then some (c, n) else some (o.1, o.2.length)) = lenE (if c < o.1 then some (c, r) else some o)
        by_cases hc : c < o.1
        · rw [if_pos hc, if_pos hc]
          show some (c, n) = some (c, r.length)
          rw [hl]
        · rw [if_neg hc, if_neg hc]
          rfl
theorem best_eq {d : Desk} (G : Good d) (a w b g k : Nat) : best d a w b g k = lenE (leastEnd (ends d a w b g k)) := by
  rw [best_fold, costs_eq G]
  unfold ends
  rw [List.map_map, zip_fold]
  exact best_range G a w b g (k + 1)
/-- the least ending is one of them, and it's the ending of as many steps as it has -/
theorem leastEnd_mem : ∀ (l : List End) (e : Nat × List Nat), leastEnd l = some e → some e ∈ l := by
  intro l
  have h : ∀ (l : List End) (m : End) (e : Nat × List Nat), l.foldl oneEnd m = some e → m = some e ∨ some e ∈ l := by
    intro l
    induction l with
    | nil => exact fun m e h => Or.inl h
    | cons x l ih =>
      intro m e h
      rw [List.foldl_cons] at h
      rcases ih _ e h with h | h
      · unfold oneEnd at h
        cases x with
        | none => exact Or.inl h
        | some n => cases m with
          | none => exact Or.inr (by rw [← h]; exact List.mem_cons_self ..)
          | some o =>
            by_cases hc : n.1 < o.1
            · simp only [hc, if_true] at h
              exact Or.inr (by rw [← h]; exact List.mem_cons_self ..)
            · simp only [hc, if_false] at h
              exact Or.inl h
      · exact Or.inr (List.mem_cons_of_mem _ h)
  intro e he
  rcases h l none e he with h | h
  · cases h
  · exact h

/-! ### the row -/
def Into (d : Desk) (b g t x : Nat) (good : List Nat) (l : List Nat) : Prop := ∃ s, run d b g t x l = some s ∧ s ∈ good
theorem backs_get {d : Desk} {b g t0 : Nat} {good : List Nat} : ∀ {j i : Nat}, (backs d b g t0 good (j + i)).getD i [] = (backs d b g t0 good j).headD []
  | j, 0 => by
    show (backs d b g t0 good j).getD 0 [] = _
    cases backs d b g t0 good j <;> rfl
  | j, i + 1 => by
    show (_ :: backs d b g t0 good (j + i)).getD (i + 1) [] = _
    rw [List.getD_cons_succ]
    exact backs_get
theorem back_mem {d : Desk} (G : Good d) {b g n : Nat} {good : List Nat} (hg : ∀ s ∈ good, s < 2 ^ d.world.m ∧ (n = 0 ∨ guarded d b g n s = true)) : ∀ {j x : Nat}, j ≤ n → (x ∈ (backs d b g n good j).headD [] ↔ x < 2 ^ d.world.m ∧ (n - j = 0 ∨ guarded d b g (n - j) x = true) ∧ ∃ l, l.length = j ∧ Into d b g (n - j) x good l)
  | 0, x, _ => by
    show x ∈ good ↔ _
    constructor
    · intro h
      exact ⟨(hg x h).1, by simpa using (hg x h).2, [], rfl, x, rfl, h⟩
    · rintro ⟨_, _, l, hl, s, h, hs⟩
      have : l = [] := by simpa using hl
      subst this
      have : x = s := by simpa [run] using h
      exact this ▸ hs
  | j + 1, x, hj => by
    show x ∈ (states d.world).filter (fun x => (decide (n - (j + 1) = 0) || guarded d b g (n - (j + 1)) x) && (nexts d.world x).any fun y => ((backs d b g n good j).headD []).contains y) ↔ _
    rw [List.mem_filter, Bool.and_eq_true, Bool.or_eq_true, decide_eq_true_eq, List.any_eq_true]
    have e1 : n - j = n - (j + 1) + 1 := by omega
    constructor
    · rintro ⟨h1, h2, y, hy, hc⟩
      obtain ⟨i, hi⟩ := mem_nexts.mp hy
      obtain ⟨_, c2, l, hl, s, hr, hs⟩ := (back_mem G hg (by omega)).mp (List.contains_iff_mem.mp hc)
      rw [e1] at c2 hr
      refine ⟨List.mem_range.mp h1, h2, i :: l, by simp [hl], s, run_cons.mpr ⟨y, hi, ?_, hr⟩, hs⟩
      exact c2.resolve_left (by omega)
    · rintro ⟨h1, h2, l, hl, s, hr, hs⟩
      cases l with
      | nil => simp at hl
      | cons i l =>
        obtain ⟨y, hi, hgy, hr⟩ := run_cons.mp hr
        refine ⟨List.mem_range.mpr h1, h2, y, mem_nexts.mpr ⟨i, hi⟩, List.contains_iff_mem.mpr ((back_mem G hg (by omega)).mpr ⟨step_lt G h1 hi, ?_, l, by simpa using hl, s, ?_, hs⟩)⟩
        · rw [e1]
          exact Or.inr hgy
        · rw [e1]
          exact hr
theorem find_least {p : Nat → Bool} : ∀ {n i : Nat}, (List.range n).find? p = some i → p i = true ∧ ∀ j, j < i → p j = false := by
  intro n i h
  obtain ⟨h1, as, bs, e, h2⟩ := List.find?_eq_some_iff_append.mp h
  refine ⟨h1, fun j hj => ?_⟩
  have hi : i = as.length := by
    have := congrArg (fun l => l[as.length]?) e
    simp at this
    have hlt : as.length < n := by
      have := congrArg List.length e
      simp at this
      omega
    rw [List.getElem?_eq_getElem (by simpa using hlt)] at this
    simpa using this.symm
  have hm : j ∈ as := by
    have hj2 : j < as.length := by omega
    have := congrArg (fun l => l[j]?) e
    have hlt : j < n := by
      have := congrArg List.length e
      simp at this
      omega
    simp only [List.getElem?_append_left hj2] at this
    rw [List.getElem?_eq_getElem (by simpa using hlt)] at this
    simp at this
    exact List.mem_of_getElem? this.symm
  simpa using h2 j hm
theorem goRow_least {d : Desk} (G : Good d) {b g n : Nat} {good : List Nat} (hg : ∀ s ∈ good, s < 2 ^ d.world.m ∧ (n = 0 ∨ guarded d b g n s = true)) : ∀ {j t x : Nat}, t + j = n → x < 2 ^ d.world.m → (∃ l, l.length = j ∧ Into d b g t x good l) →
    (goRow d (backs d b g n good n) j t x).length = j ∧ Into d b g t x good (goRow d (backs d b g n good n) j t x) ∧ ∀ l, l.length = j → Into d b g t x good l → lexLe (goRow d (backs d b g n good n) j t x) l
  | 0, t, x, _, _, ⟨l, hl, h⟩ => by
    have : l = [] := by simpa using hl
    subst this
    exact ⟨rfl, h, fun _ _ _ => trivial⟩
  | j + 1, t, x, ht, hx, ⟨l, hl, h⟩ => by
    have eb : ∀ y, ((backs d b g n good n).getD (t + 1) []).contains y = true ↔ y < 2 ^ d.world.m ∧ guarded d b g (t + 1) y = true ∧ ∃ l, l.length = j ∧ Into d b g (t + 1) y good l := by
      intro y
      have e := backs_get (d := d) (b := b) (g := g) (t0 := n) (good := good) (j := j) (i := t + 1)
      rw [show j + (t + 1) = n by omega] at e
      rw [e, List.contains_iff_mem, back_mem G hg (by omega), show n - j = t + 1 by omega]
      simp
    have sat : ∀ i, (match stepBy d.world x i with
      | none => false
      | some y => ((backs d b g n good n).getD (t + 1) []).contains y) = true ↔ ∃ l, l.length = j ∧ Into d b g t x good (i :: l) := by
      intro i
      constructor
      · intro hi
        cases e : stepBy d.world x i with
        | none => rw [e] at hi; cases hi
        | some y =>
          rw [e] at hi
          obtain ⟨_, h2, l, hl, s, hr, hs⟩ := (eb y).mp hi
          exact ⟨l, hl, s, run_cons.mpr ⟨y, e, h2, hr⟩, hs⟩
      · rintro ⟨l, hl, s, hr, hs⟩
        obtain ⟨y, e, h2, hr⟩ := run_cons.mp hr
        rw [e]
        exact (eb y).mpr ⟨step_lt G hx e, h2, l, hl, s, hr, hs⟩
    have ic : ∀ i l, Into d b g t x good (i :: l) → i < d.world.deeds.length + 1 := by
      rintro i l ⟨s, hr, hs⟩
      obtain ⟨y, e, _⟩ := run_cons.mp hr
      exact step_choice e
    cases ef : (choices d.world).find? fun i => match stepBy d.world x i with
      | none => false
      | some y => ((backs d b g n good n).getD (t + 1) []).contains y with
    | none =>
      exfalso
      cases l with
      | nil => simp at hl
      | cons i l =>
        have := List.find?_eq_none.mp ef i (List.mem_range.mpr (ic i l h))
        exact this ((sat i).mpr ⟨l, by simpa using hl, h⟩)
    | some i =>
      obtain ⟨f1, f2⟩ := find_least ef
      obtain ⟨l1, hl1, s1, hr1, hs1⟩ := (sat i).mp f1
      obtain ⟨y, ey, hgy, hry⟩ := run_cons.mp hr1
      have er : goRow d (backs d b g n good n) (j + 1) t x = i :: goRow d (backs d b g n good n) j (t + 1) y := by
        show (match (choices d.world).find? fun i => match stepBy d.world x i with
          | none => false
          | some y => ((backs d b g n good n).getD (t + 1) []).contains y with
        | none => []
        | some i => i :: goRow d (backs d b g n good n) j (t + 1) ((stepBy d.world x i).getD x)) = _
        rw [ef]
        show i :: goRow d (backs d b g n good n) j (t + 1) ((stepBy d.world x i).getD x) = _
        rw [ey]
        rfl
      obtain ⟨i1, ⟨s2, hr2, hs2⟩, i3⟩ := goRow_least G hg (j := j) (t := t + 1) (x := y) (by omega) (step_lt G hx ey) ⟨l1, hl1, s1, hry, hs1⟩
      rw [er]
      refine ⟨by simp [i1], ⟨s2, run_cons.mpr ⟨y, ey, hgy, hr2⟩, hs2⟩, fun l hl h => ?_⟩
      cases l with
      | nil => simp at hl
      | cons i' l' =>
        by_cases hlt : i' < i
        · have := f2 i' hlt
          have c := (sat i').mpr ⟨l', by simpa using hl, h⟩
          rw [this] at c
          cases c
        · by_cases he : i = i'
          · subst he
            obtain ⟨s3, hr3, hs3⟩ := h
            obtain ⟨y', ey', _, hr3⟩ := run_cons.mp hr3
            have : y = y' := Option.some.inj (ey.symm.trans ey')
            subst this
            exact Or.inr ⟨rfl, i3 l' (by simpa using hl) ⟨s3, hr3, hs3⟩⟩
          · exact Or.inl (by omega)
theorem layer_guard {d : Desk} {b g t x : Nat} (h : x ∈ layer d b g t) : t = 0 ∨ guarded d b g t x = true := by
  cases t with
  | zero => exact Or.inl rfl
  | succ t =>
    rw [layer_succ, List.mem_filter, Bool.and_eq_true] at h
    exact Or.inr h.2.1
theorem layer_lt {d : Desk} (G : Good d) {b g t x : Nat} (h : x ∈ layer d b g t) : x < 2 ^ d.world.m := by
  obtain ⟨l, _, hr⟩ := (layer_mem G).mp h
  exact run_lt G G.now hr
theorem bestRow_eq {d : Desk} (G : Good d) (a w b g k : Nat) : bestRow d a w b g k = (leastEnd (ends d a w b g k)).map (·.2) := by
  unfold bestRow
  rw [best_eq G]
  cases e : leastEnd (ends d a w b g k) with
  | none => rfl
  | some n =>
    obtain ⟨c, r⟩ := n
    show some _ = some r
    refine congrArg some ?_
    have hm := leastEnd_mem _ _ e
    unfold ends at hm
    obtain ⟨t, ht, he⟩ := List.mem_map.mp hm
    have hlen := endAt_len d a w b g t c r he
    obtain ⟨A, s, B, e1, e2, e3, e4, e5⟩ := (first_is d a w (base d b t) (rowsAt d b g t)).some_ c r he
    have R := rowsOk d b g t
    have hrun := R.run (s, r) (by rw [e1]; simp)
    show goRow d (backs d b g r.length ((layer d b g r.length).filter fun x => isAim a w x && cost d a x (base d b r.length) == c) r.length) r.length 0 d.world.now = r
    rw [hlen]
    have gm : ∀ x, x ∈ ((layer d b g t).filter fun x => isAim a w x && cost d a x (base d b t) == c) ↔ x ∈ layer d b g t ∧ isAim a w x = true ∧ cost d a x (base d b t) = c := by
      intro x
      rw [List.mem_filter, Bool.and_eq_true, beq_iff_eq]
    have hg : ∀ x ∈ ((layer d b g t).filter fun x => isAim a w x && cost d a x (base d b t) == c), x < 2 ^ d.world.m ∧ (t = 0 ∨ guarded d b g t x = true) := by
      intro x hx
      have hx := ((gm x).mp hx).1
      exact ⟨layer_lt G hx, layer_guard hx⟩
    have hin : Into d b g 0 d.world.now ((layer d b g t).filter fun x => isAim a w x && cost d a x (base d b t) == c) r :=
      ⟨s, hrun.1, (gm s).mpr ⟨(layer_mem G).mpr ⟨r, hlen, hrun.1⟩, e2, e3⟩⟩
    obtain ⟨h1, ⟨s', hr', hs'⟩, h3⟩ := goRow_least G hg (j := t) (t := 0) (x := d.world.now) (by omega) G.now ⟨r, hlen, hin⟩
    refine lexLe_antisymm (h1.trans hlen.symm) (h3 r hlen hin) ?_
    obtain ⟨r', hr'm, le⟩ := R.all _ s' h1 hr'
    refine lexLe_trans ?_ le
    obtain ⟨_, a2, a3⟩ := (gm s').mp hs'
    have srt := R.srt
    rw [e1] at hr'm srt
    rcases List.mem_append.mp hr'm with h | h
    · have := e4 _ h a2
      simp only [a3] at this
      omega
    · rcases List.mem_cons.mp h with h | h
      · obtain ⟨rfl, rfl⟩ := Prod.mk.inj h
        exact lexLe_refl _
      · have := (List.pairwise_append.mp srt).2.1
        exact lexLt_le ((List.pairwise_cons.mp this).1 _ h)
/-! ### the fewest steps with which nothing is changed -/
theorem leastEnd_zero : ∀ (l : List End), ((leastEnd l).map (·.1) == some 0) = l.any fun e => e.map (·.1) == some 0 := by
  intro l
  have h : ∀ (l : List End) (m : End), ((l.foldl oneEnd m).map (·.1) == some 0) = ((m.map (·.1) == some 0) || l.any fun e => e.map (·.1) == some 0) := by
    intro l
    induction l with
    | nil => intro m; simp
    | cons x l ih =>
      intro m
      rw [List.foldl_cons, ih, List.any_cons, ← Bool.or_assoc]
      congr 1
      unfold oneEnd
      cases x with
      | none => simp
      | some n => cases m with
        | none => simp
        | some o =>
          by_cases hc : n.1 < o.1
          · have : ¬ o.1 = 0 := by omega
            simp [hc, this]
          · by_cases hz : o.1 = 0
            · simp [hz]
            · have h2 : ¬ n.1 = 0 := by omega
              simp [hc, hz, h2]
  have := h l none
  simpa [leastEnd] using this
theorem best_zero {d : Desk} (G : Good d) (a w b g k : Nat) : (match best d a w b g k with
    | some m => m.1 == 0
    | none => false) = (ends d a w b g k).any fun e => e.map (·.1) == some 0 := by
  rw [best_eq G, ← leastEnd_zero]
  cases leastEnd (ends d a w b g k) with
  | none => rfl
  | some n => simp [lenE]
/-- the first k with which least changed is 0 is the first ending that changes nothing -/
theorem firstFree_eq {d : Desk} (G : Good d) (a w b g n : Nat) : ((List.range (n + 1)).find? fun k => match best d a w b g k with
    | some m => m.1 == 0
    | none => false) = (ends d a w b g n).findIdx? fun e => e.map (·.1) == some 0 := by
  have e : (fun k => match best d a w b g k with
    | some m => m.1 == 0
    | none => false) = fun k => (ends d a w b g k).any fun e => e.map (·.1) == some 0 := funext fun k => best_zero G a w b g k
  rw [e]
  have hk : ∀ k, ((ends d a w b g k).any fun e => e.map (·.1) == some 0) = true ↔ ∃ t, t ≤ k ∧ ((endAt d a w b g t).map (·.1) == some 0) = true := by
    intro k
    unfold ends
    rw [List.any_map, List.any_eq_true]
    constructor
    · rintro ⟨t, ht, h⟩
      exact ⟨t, by have := List.mem_range.mp ht; omega, h⟩
    · rintro ⟨t, ht, h⟩
      exact ⟨t, List.mem_range.mpr (by omega), h⟩
  symm
  cases ei : (ends d a w b g n).findIdx? fun e => e.map (·.1) == some 0 with
  | none =>
    have h := List.findIdx?_eq_none_iff.mp ei
    symm
    refine List.find?_eq_none.mpr fun k hk2 hc => ?_
    obtain ⟨t, ht, h2⟩ := (hk k).mp hc
    have hmem : endAt d a w b g t ∈ ends d a w b g n := List.mem_map.mpr ⟨t, List.mem_range.mpr (by have := List.mem_range.mp hk2; omega), rfl⟩
    rw [h _ hmem] at h2
    cases h2
  | some i =>
    obtain ⟨hi, h1, h2⟩ := List.findIdx?_eq_some_iff_getElem.mp ei
    have hlen : (ends d a w b g n).length = n + 1 := by simp [ends]
    have hget : ∀ t (ht : t < (ends d a w b g n).length), (ends d a w b g n)[t] = endAt d a w b g t := by
      intro t ht
      simp [ends]
    rw [hget] at h1
    cases ef : (List.range (n + 1)).find? fun k => (ends d a w b g k).any fun e => e.map (·.1) == some 0 with
    | none =>
      have := List.find?_eq_none.mp ef i (List.mem_range.mpr (by omega))
      exact absurd ((hk i).mpr ⟨i, Nat.le_refl _, h1⟩) this
    | some j =>
      obtain ⟨f1, f2⟩ := find_least ef
      obtain ⟨t, ht, h3⟩ := (hk j).mp f1
      have hj : j < n + 1 := List.mem_range.mp (List.mem_of_find?_eq_some ef)
      congr 1
      have ge : ¬ t < i := by
        intro hlt
        have := h2 t hlt
        rw [hget] at this
        exact this h3
      have le : ¬ i < j := by
        intro hlt
        have := f2 i hlt
        rw [(hk i).mpr ⟨i, Nat.le_refl _, h1⟩] at this
        cases this
      omega
end LC

namespace LC
open Kp371 (World Deed able done_ happen stepBy choices nexts states isAim itself okDeed okAim)
open Kp372 (Desk base differ cost guarded layers leastAt costs best backs goRow bestRow played)
/-! ### steps -/
theorem step_deed {w : World} {s i : Nat} {r : Deed} (h : w.deeds[i]? = some r) : stepBy w s i = if able s r then some (happen w (done_ s r)) else none := by
  unfold stepBy
  rw [h]
theorem step_wait {w : World} {s : Nat} : stepBy w s w.deeds.length = some (happen w s) := by
  unfold stepBy
  rw [List.getElem?_eq_none (Nat.le_refl _)]
  simp
def ableAt (w : World) (s i : Nat) : Bool := match w.deeds[i]? with
  | some r => able s r
  | none => false
theorem can_eq {w : World} {s i : Nat} (h : i ≤ w.deeds.length) : (decide (i = w.deeds.length) || ableAt w s i) = (stepBy w s i).isSome := by
  by_cases e : i = w.deeds.length
  · subst e
    rw [step_wait]
    simp
  · have hl : i < w.deeds.length := by omega
    have hg : w.deeds[i]? = some w.deeds[i] := List.getElem?_eq_getElem hl
    rw [step_deed hg]
    unfold ableAt
    rw [hg]
    simp only [e, decide_false, Bool.false_or]
    cases able s w.deeds[i] <;> rfl
/-! ### a told row -/
def along (w : World) : Nat → List Nat → List Nat
  | _, [] => []
  | s, i :: r => match stepBy w s i with
    | none => []
    | some t => t :: along w t r
theorem along_none {w : World} {s i : Nat} {r : List Nat} (h : stepBy w s i = none) : along w s (i :: r) = [] := by
  unfold along
  rw [h]
theorem along_some {w : World} {s i t : Nat} {r : List Nat} (h : stepBy w s i = some t) : along w s (i :: r) = t :: along w t r := by
  rw [along, h]
theorem along_len {w : World} : ∀ {s : Nat} {l : List Nat}, (along w s l).length ≤ l.length
  | _, [] => Nat.le_refl _
  | s, i :: r => by
    cases h : stepBy w s i with
    | none =>
      rw [along_none h]
      exact Nat.zero_le _
    | some t =>
      rw [along_some h, List.length_cons, List.length_cons]
      exact Nat.succ_le_succ along_len
def playStep (w : World) (a : Nat × Nat × Bool) (i : Nat) : Nat × Nat × Bool := if a.2.2 then a else match stepBy w a.1 i with
  | none => (a.1, a.2.1, true)
  | some t => (t, a.2.1 + 1, false)
theorem play_true (w : World) : ∀ (l : List Nat) (s n : Nat), l.foldl (playStep w) (s, n, true) = (s, n, true)
  | [], _, _ => rfl
  | i :: l, s, n => by
    rw [List.foldl_cons]
    exact play_true w l s n
theorem play_along (w : World) : ∀ (l : List Nat) (s n : Nat), (l.foldl (playStep w) (s, n, false)).1 = (along w s l).getLastD s ∧ (l.foldl (playStep w) (s, n, false)).2.1 = n + (along w s l).length
  | [], _, _ => ⟨rfl, rfl⟩
  | i :: l, s, n => by
    rw [List.foldl_cons]
    cases h : stepBy w s i with
    | none =>
      rw [along_none h]
      have e : playStep w (s, n, false) i = (s, n, true) := by
        unfold playStep
        simp [h]
      rw [e, play_true]
      exact ⟨rfl, rfl⟩
    | some t =>
      rw [along_some h]
      have e : playStep w (s, n, false) i = (t, n + 1, false) := by
        unfold playStep
        simp [h]
      rw [e]
      obtain ⟨h1, h2⟩ := play_along w l t (n + 1)
      refine ⟨?_, ?_⟩
      · rw [h1, List.getLastD_cons]
      · rw [h2, List.length_cons]
        omega
theorem played_eq (w : World) (l : List Nat) : played w l = ((along w w.now l).getLastD w.now, (along w w.now l).length) := by
  have h := play_along w l w.now 0
  unfold played
  refine Prod.ext ?_ ?_
  · exact h.1
  · show (l.foldl (playStep w) (w.now, 0, false)).2.1 = _
    rw [h.2, Nat.zero_add]
theorem along_lt {d : Desk} (G : Good d) : ∀ {l : List Nat} {s : Nat}, s < 2 ^ d.world.m → ∀ x ∈ along d.world s l, x < 2 ^ d.world.m
  | [], _, _, x, h => by cases h
  | i :: l, s, hs, x, h => by
    cases e : stepBy d.world s i with
    | none =>
      rw [along_none e] at h
      cases h
    | some t =>
      rw [along_some e] at h
      have ht := step_lt G hs e
      rcases List.mem_cons.mp h with h | h
      · exact h ▸ ht
      · exact along_lt G ht x h
theorem last_lt {d : Desk} (G : Good d) (l : List Nat) : (along d.world d.world.now l).getLastD d.world.now < 2 ^ d.world.m := by
  have h := along_lt G (l := l) G.now
  cases e : along d.world d.world.now l with
  | nil => exact G.now
  | cons a r =>
    rw [e] at h
    rw [List.getLastD_eq_getLast?, List.getLast?_eq_some_getLast (by simp)]
    exact h _ (List.getLast_mem _)
/-! ### sets of facts -/
def factsOf (m f : Nat) : List Nat := (List.range m).filter fun q => f.testBit q
theorem bit_is (f q : Nat) : decide (f / 2 ^ q % 2 = 1) = f.testBit q := (Nat.testBit_eq_decide_div_mod_eq).symm
theorem differ_eq (d : Desk) (x y : Nat) : differ d x y = factsOf d.world.m (x ^^^ y) := by
  unfold differ factsOf
  refine List.filter_congr fun q _ => ?_
  rw [Nat.testBit_xor]
theorem besides_bit : ∀ f : Fin 32, ∀ m : Fin 32, ∀ q : Fin 5, (f.1 - (f.1 &&& m.1)).testBit q.1 = (f.1.testBit q.1 && !m.1.testBit q.1) := by decide +kernel
theorem rest_bit : ∀ m : Fin 6, ∀ a : Fin 32, a.1 < 2 ^ m.1 → ∀ q : Fin 5, q.1 < m.1 → (2 ^ m.1 - 1 - a.1).testBit q.1 = !a.1.testBit q.1 := by decide +kernel
theorem lt32 {m x : Nat} (hm : m ≤ 5) (h : x < 2 ^ m) : x < 32 := Nat.lt_of_lt_of_le h (by
  have := Nat.pow_le_pow_right (n := 2) (by decide) hm
  omega)
def weigh (d : Desk) (f : Nat) : Nat := ((factsOf d.world.m f).map fun q => d.weights.getD q 0).sum
theorem foldl_add {α : Type} (g : α → Nat) : ∀ (l : List α) (a : Nat), l.foldl (fun a q => a + g q) a = a + (l.map g).sum
  | [], a => by simp
  | x :: l, a => by
    rw [List.foldl_cons, foldl_add g l, List.map_cons, List.sum_cons]
    omega
theorem cost_eq {d : Desk} (G : Good d) {a x y : Nat} (ha : a < 2 ^ d.world.m) (hx : x < 2 ^ d.world.m) (hy : y < 2 ^ d.world.m) : cost d a x y = weigh d ((x ^^^ y) - ((x ^^^ y) &&& a)) := by
  unfold cost weigh
  rw [foldl_add (fun q => d.weights.getD q 0), Nat.zero_add, differ_eq]
  congr 1
  congr 1
  unfold factsOf
  rw [List.filter_filter]
  refine List.filter_congr fun q hq => ?_
  have hq := List.mem_range.mp hq
  have hxy : x ^^^ y < 2 ^ d.world.m := Nat.xor_lt_two_pow hx hy
  have h := besides_bit ⟨x ^^^ y, lt32 G.m5 hxy⟩ ⟨a, lt32 G.m5 ha⟩ ⟨q, by have := G.m5; omega⟩
  simp only at h
  rw [h, Bool.and_comm]
theorem within_eq (p m : Nat) : decide (p &&& (2 ^ m - 1) = p) = decide (p < 2 ^ m) := by
  rw [Nat.and_two_pow_sub_one_eq_mod]
  by_cases h : p < 2 ^ m
  · rw [decide_eq_true h, decide_eq_true (Nat.mod_eq_of_lt h)]
  · rw [decide_eq_false h, decide_eq_false]
    intro e
    have := Nat.mod_lt p (Nat.two_pow_pos m)
    omega
theorem okAim_eq (w : World) (a b : Nat) : (decide (a &&& (2 ^ w.m - 1) = a) && decide (b &&& a = b)) = okAim w a b := by
  rw [within_eq]
  rfl
theorem okDeed_eq (w : World) (a b c d : Nat) : ((decide (a &&& (2 ^ w.m - 1) = a) && decide (b &&& a = b)) && ((decide (c &&& (2 ^ w.m - 1) = c) && decide (d &&& c = d)) && !decide (c = 0))) = okDeed w a b c d := by
  rw [within_eq, within_eq]
  unfold okDeed
  by_cases h1 : a < 2 ^ w.m <;> by_cases h2 : c < 2 ^ w.m <;> by_cases h3 : b &&& a = b <;> by_cases h4 : d &&& c = d <;> by_cases h5 : c = 0 <;> simp [h1, h2, h3, h4, h5]
theorem and_lt {a b m : Nat} (h : b &&& a = b) (ha : a < 2 ^ m) : b < 2 ^ m := by
  rw [← h]
  exact Nat.and_lt_two_pow b ha
theorem okDeed_ok {w : World} {a b c d : Nat} (h : okDeed w a b c d = true) : OkR w.m ⟨a, b, c, d⟩ := by
  unfold okDeed at h
  simp only [Bool.and_eq_true, decide_eq_true_eq, beq_iff_eq] at h
  obtain ⟨⟨⟨⟨h1, h2⟩, h3⟩, h4⟩, _⟩ := h
  exact ⟨h1, and_lt h3 h1, h2, and_lt h4 h2⟩
theorem okAim_lt {w : World} {a b : Nat} (h : okAim w a b = true) : a < 2 ^ w.m := by
  unfold okAim at h
  simp only [Bool.and_eq_true, decide_eq_true_eq] at h
  exact h.1
/-! ### what can be left untouched -/
theorem others_eq {d : Desk} (G : Good d) {a : Nat} (ha : a < 2 ^ d.world.m) (p : Nat → Bool) : (factsOf d.world.m (2 ^ d.world.m - 1 - a)).filter p = (List.range d.world.m).filter fun q => !a.testBit q && p q := by
  unfold factsOf
  rw [List.filter_filter]
  refine List.filter_congr fun q hq => ?_
  have hq := List.mem_range.mp hq
  have h5 := G.m5
  have h := rest_bit ⟨d.world.m, by omega⟩ ⟨a, lt32 G.m5 ha⟩ ha ⟨q, by omega⟩ hq
  simp only at h
  rw [h, Bool.and_comm]
theorem layers_len (d : Desk) (b g k : Nat) : (layers d b g k).length = k + 1 := by
  rw [layers_eq]
  simp
end LC

namespace LC
open Kp371 (World Deed able done_ happen stepBy choices nexts states isAim itself okDeed okAim)
open Kp372 (Desk base differ cost guarded layers leastAt costs best backs goRow bestRow played)
structure KeysOk (m n : Nat) (L : Rows) : Prop where
  nd : (L.map (·.1)).Nodup
  lt : ∀ p ∈ L, p.1 < 2 ^ m
  rl : ∀ p ∈ L, p.2.length ≤ n
theorem KeysOk.len {m n : Nat} {L : Rows} (h : KeysOk m n L) : L.length ≤ 2 ^ m := by
  have q : L.map (·.1) ⊆ List.range (2 ^ m) := fun x hx => by
    obtain ⟨p, hp, rfl⟩ := List.mem_map.mp hx
    exact List.mem_range.mpr (h.lt p hp)
  have := h.nd.length_le_of_subset q
  simpa using this
theorem keys_choice {d : Desk} (G : Good d) {g against n i : Nat} {p : Nat × List Nat} {acc : Rows} (h : KeysOk d.world.m (n + 1) acc) (hp : p.1 < 2 ^ d.world.m) (hr : p.2.length ≤ n) : KeysOk d.world.m (n + 1) (oneChoice d g against p acc i) := by
  unfold oneChoice
  cases e : stepBy d.world p.1 i with
  | none => exact h
  | some t =>
    show KeysOk d.world.m (n + 1) (addRow g against p.2 acc i t)
    unfold addRow
    by_cases c : hasKey acc t = false ∧ ((t ^^^ against) &&& g) = 0
    · rw [if_pos c]
      refine ⟨?_, fun q hq => ?_, fun q hq => ?_⟩
      · rw [List.map_append, List.nodup_append]
        refine ⟨h.nd, by simp, fun a ha b hb => ?_⟩
        obtain ⟨q, hq, rfl⟩ := List.mem_map.mp ha
        have : b = t := by simpa using hb
        subst this
        intro e2
        have := hasKey_iff.mpr (⟨q.2, by rw [← e2]; exact hq⟩ : ∃ r, (b, r) ∈ acc)
        rw [c.1] at this
        cases this
      · rcases List.mem_append.mp hq with hq | hq
        · exact h.lt q hq
        · have : q = (t, p.2 ++ [i]) := by simpa using hq
          subst this
          exact step_lt G hp e
      · rcases List.mem_append.mp hq with hq | hq
        · exact h.rl q hq
        · have : q = (t, p.2 ++ [i]) := by simpa using hq
          subst this
          simpa using hr
    · rw [if_neg c]
      exact h
theorem keys_nil {m n : Nat} : KeysOk m n [] := ⟨by simp, fun p hp => (by cases hp), fun p hp => (by cases hp)⟩
theorem keys_fold {d : Desk} (G : Good d) {g against n : Nat} {p : Nat × List Nat} (hp : p.1 < 2 ^ d.world.m) (hr : p.2.length ≤ n) : ∀ (l : List Nat) {acc : Rows}, KeysOk d.world.m (n + 1) acc → KeysOk d.world.m (n + 1) (l.foldl (oneChoice d g against p) acc)
  | [], _, h => h
  | i :: l, _, h => keys_fold G hp hr l (keys_choice G h hp hr)
theorem keys_states {d : Desk} (G : Good d) {g against n : Nat} : ∀ (L : Rows) {acc : Rows}, (∀ p ∈ L, p.1 < 2 ^ d.world.m ∧ p.2.length ≤ n) → KeysOk d.world.m (n + 1) acc → KeysOk d.world.m (n + 1) (L.foldl (oneState d g against) acc)
  | [], _, _, h => h
  | p :: L, _, hL, h => keys_states G L (fun q hq => hL q (List.mem_cons_of_mem _ hq)) (keys_fold G (hL p (List.mem_cons_self ..)).1 (hL p (List.mem_cons_self ..)).2 _ h)
theorem keys_rows {d : Desk} (G : Good d) (b g t : Nat) : KeysOk d.world.m t (rowsAt d b g t) := by
  have R := rowsOk d b g t
  exact ⟨R.nd, fun p hp => run_lt G G.now (R.run p hp).1, fun p hp => Nat.le_of_eq (R.run p hp).2⟩
theorem find_key : ∀ {L : Rows} {i s : Nat} {r : List Nat}, (L.map (·.1)).Nodup → L[i]? = some (s, r) → L.find? (fun p => p.1 == s) = some (s, r)
  | [], _, _, _, _, h => by simp at h
  | p :: L, 0, s, r, _, h => by
    have : p = (s, r) := by simpa using h
    subst this
    simp
  | p :: L, i + 1, s, r, hn, h => by
    have h : L[i]? = some (s, r) := by simpa using h
    have hn : (p.1 :: L.map (·.1)).Nodup := hn
    obtain ⟨h1, h2⟩ := List.nodup_cons.mp hn
    have hne : ¬ p.1 = s := fun e => h1 (List.mem_map.mpr ⟨(s, r), List.mem_of_getElem? h, e.symm⟩)
    rw [List.find?_cons_of_neg (by simpa using hne)]
    exact find_key h2 h
theorem base_zero (d : Desk) (b : Nat) : base d b 0 = d.world.now := by
  unfold base
  by_cases h : b = 0
  · rw [if_pos h]
  · rw [if_neg h]
    rfl
end LC

namespace LC
open Kp371 (World Deed stepBy okDeed)
open Kp372 (Desk)
def desk0 : Desk := ⟨⟨0, [], [], 0⟩, []⟩
def newDesk (m : Nat) : Desk := ⟨⟨m, [], [], 0⟩, List.replicate m 1⟩
theorem new_zero : newDesk 0 = desk0 := rfl
def withDeeds (d : Desk) (l : List Deed) : Desk := { d with world := { d.world with deeds := l } }
def withEvents (d : Desk) (l : List Deed) : Desk := { d with world := { d.world with events := l } }
def withNow (d : Desk) (s : Nat) : Desk := { d with world := { d.world with now := s } }
def withWeights (d : Desk) (l : List Nat) : Desk := { d with weights := l }
theorem st_begin (st : Option Desk) (m : Nat) : Kp372.step st (.begin_ m) = if m < 2 ∨ 5 < m then (st, Kp372.say (-22)) else (some (newDesk m), Kp372.say 0) := rfl
theorem st_none (c : Kp372.Call) (h : ∀ m, c ≠ .begin_ m) : Kp372.step none c = (none, Kp372.say (-11)) := by
  cases c <;> first | rfl | (exfalso; exact h _ rfl)
theorem st_deed (d : Desk) (a b c e : Nat) : Kp372.step (some d) (.deed a b c e) = if okDeed d.world a b c e = false then (some d, Kp372.say (-22)) else if 6 ≤ d.world.deeds.length then (some d, Kp372.say (-28)) else (some (withDeeds d (d.world.deeds ++ [⟨a, b, c, e⟩])), Kp372.say (d.world.deeds.length : Nat)) := by
  show Kp372.under (some d) d (.deed a b c e) = _
  unfold Kp372.under
  have h : Kp371.step (some d.world) (.deed a b c e) = if okDeed d.world a b c e = false then (some d.world, Kp371.say (-22)) else if 6 ≤ d.world.deeds.length then (some d.world, Kp371.say (-28)) else (some { d.world with deeds := d.world.deeds ++ [⟨a, b, c, e⟩] }, Kp371.say (d.world.deeds.length : Nat)) := rfl
  rw [h]
  by_cases h1 : okDeed d.world a b c e = false
  · rw [if_pos h1, if_pos h1]
    rfl
  · rw [if_neg h1, if_neg h1]
    by_cases h2 : 6 ≤ d.world.deeds.length
    · rw [if_pos h2, if_pos h2]
      rfl
    · rw [if_neg h2, if_neg h2]
      have h3 : ¬ ((d.world.deeds.length : Nat) : Int) < 0 := by omega
      show (if ((d.world.deeds.length : Nat) : Int) < 0 then _ else _, _) = _
      rw [if_neg h3]
      rfl
theorem st_event (d : Desk) (a b c e : Nat) : Kp372.step (some d) (.event a b c e) = if okDeed d.world a b c e = false then (some d, Kp372.say (-22)) else if 3 ≤ d.world.events.length then (some d, Kp372.say (-28)) else (some (withEvents d (d.world.events ++ [⟨a, b, c, e⟩])), Kp372.say (d.world.events.length : Nat)) := by
  show Kp372.under (some d) d (.event a b c e) = _
  unfold Kp372.under
  have h : Kp371.step (some d.world) (.event a b c e) = if okDeed d.world a b c e = false then (some d.world, Kp371.say (-22)) else if 3 ≤ d.world.events.length then (some d.world, Kp371.say (-28)) else (some { d.world with events := d.world.events ++ [⟨a, b, c, e⟩] }, Kp371.say (d.world.events.length : Nat)) := rfl
  rw [h]
  by_cases h1 : okDeed d.world a b c e = false
  · rw [if_pos h1, if_pos h1]
    rfl
  · rw [if_neg h1, if_neg h1]
    by_cases h2 : 3 ≤ d.world.events.length
    · rw [if_pos h2, if_pos h2]
      rfl
    · rw [if_neg h2, if_neg h2]
      have h3 : ¬ ((d.world.events.length : Nat) : Int) < 0 := by omega
      show (if ((d.world.events.length : Nat) : Int) < 0 then _ else _, _) = _
      rw [if_neg h3]
      rfl
theorem take_drop_erase {α : Type} (l : List α) (i : Nat) : l.take i ++ l.drop (i + 1) = l.eraseIdx i := (List.eraseIdx_eq_take_drop_succ l i).symm
theorem st_undeed (d : Desk) (i : Nat) : Kp372.step (some d) (.undeed i) = if d.world.deeds.length ≤ i then (some d, Kp372.say (-2)) else (some (withDeeds d (d.world.deeds.eraseIdx i)), Kp372.say ((d.world.deeds.length - 1 : Nat) : Int)) := by
  show Kp372.under (some d) d (.undeed i) = _
  unfold Kp372.under
  have h : Kp371.step (some d.world) (.undeed i) = if d.world.deeds.length ≤ i then (some d.world, Kp371.say (-2)) else (some { d.world with deeds := d.world.deeds.take i ++ d.world.deeds.drop (i + 1) }, Kp371.say ((d.world.deeds.length - 1 : Nat) : Int)) := rfl
  rw [h]
  by_cases h1 : d.world.deeds.length ≤ i
  · rw [if_pos h1, if_pos h1]
    rfl
  · rw [if_neg h1, if_neg h1]
    have h3 : ¬ ((d.world.deeds.length - 1 : Nat) : Int) < 0 := by omega
    show (if ((d.world.deeds.length - 1 : Nat) : Int) < 0 then _ else _, _) = _
    rw [if_neg h3, take_drop_erase]
    rfl
theorem st_unevent (d : Desk) (i : Nat) : Kp372.step (some d) (.unevent i) = if d.world.events.length ≤ i then (some d, Kp372.say (-2)) else (some (withEvents d (d.world.events.eraseIdx i)), Kp372.say ((d.world.events.length - 1 : Nat) : Int)) := by
  show Kp372.under (some d) d (.unevent i) = _
  unfold Kp372.under
  have h : Kp371.step (some d.world) (.unevent i) = if d.world.events.length ≤ i then (some d.world, Kp371.say (-2)) else (some { d.world with events := d.world.events.take i ++ d.world.events.drop (i + 1) }, Kp371.say ((d.world.events.length - 1 : Nat) : Int)) := rfl
  rw [h]
  by_cases h1 : d.world.events.length ≤ i
  · rw [if_pos h1, if_pos h1]
    rfl
  · rw [if_neg h1, if_neg h1]
    have h3 : ¬ ((d.world.events.length - 1 : Nat) : Int) < 0 := by omega
    show (if ((d.world.events.length - 1 : Nat) : Int) < 0 then _ else _, _) = _
    rw [if_neg h3, take_drop_erase]
    rfl
theorem st_set (d : Desk) (s : Nat) : Kp372.step (some d) (.set s) = if 2 ^ d.world.m ≤ s then (some d, Kp372.say (-22)) else (some (withNow d s), Kp372.say (d.world.now : Nat)) := by
  show Kp372.under (some d) d (.set s) = _
  unfold Kp372.under
  have h : Kp371.step (some d.world) (.set s) = if 2 ^ d.world.m ≤ s then (some d.world, Kp371.say (-22)) else (some { d.world with now := s }, Kp371.say (d.world.now : Nat)) := rfl
  rw [h]
  by_cases h1 : 2 ^ d.world.m ≤ s
  · rw [if_pos h1, if_pos h1]
    rfl
  · rw [if_neg h1, if_neg h1]
    have h3 : ¬ ((d.world.now : Nat) : Int) < 0 := by omega
    show (if ((d.world.now : Nat) : Int) < 0 then _ else _, _) = _
    rw [if_neg h3]
    rfl
theorem st_now (d : Desk) : Kp372.step (some d) .now = (some d, Kp372.say (d.world.now : Nat)) := by
  show Kp372.under (some d) d .now = _
  unfold Kp372.under
  have h3 : ¬ ((d.world.now : Nat) : Int) < 0 := by omega
  show (if ((d.world.now : Nat) : Int) < 0 then _ else _, _) = _
  rw [if_neg h3]
  rfl
theorem st_do (d : Desk) (i : Nat) : Kp372.step (some d) (.do_ i) = if d.world.deeds.length ≤ i then (some d, Kp372.say (-2)) else (match stepBy d.world d.world.now i with
    | none => (some d, Kp372.say (-6))
    | some t => (some (withNow d t), Kp372.say (t : Nat))) := by
  show Kp372.under (some d) d (.do_ i) = _
  unfold Kp372.under
  have h : Kp371.step (some d.world) (.do_ i) = if d.world.deeds.length ≤ i then (some d.world, Kp371.say (-2)) else (match stepBy d.world d.world.now i with
    | none => (some d.world, Kp371.say (-6))
    | some t => (some { d.world with now := t }, Kp371.say (t : Nat))) := rfl
  rw [h]
  by_cases h1 : d.world.deeds.length ≤ i
  · rw [if_pos h1, if_pos h1]
    rfl
  · rw [if_neg h1, if_neg h1]
    cases hs : stepBy d.world d.world.now i with
    | none => rfl
    | some t =>
      have h3 : ¬ ((t : Nat) : Int) < 0 := by omega
      show (if ((t : Nat) : Int) < 0 then _ else _, _) = _
      rw [if_neg h3]
      rfl
theorem st_weight (d : Desk) (q x : Nat) : Kp372.step (some d) (.weight q x) = if d.world.m ≤ q then (some d, Kp372.say (-2)) else if 100 < x then (some d, Kp372.say (-22)) else (some (withWeights d (d.weights.set q x)), Kp372.say (d.weights.getD q 0 : Nat)) := rfl
/-! ### it stays well told -/
theorem good_new {m : Nat} (h2 : 2 ≤ m) (h5 : m ≤ 5) : Good (newDesk m) :=
  ⟨h2, h5, Nat.two_pow_pos m, Nat.zero_le _, Nat.zero_le _, fun r hr => (by cases hr), fun r hr => (by cases hr), by simp [newDesk], fun x hx => by
    have := List.eq_of_mem_replicate hx
    omega⟩
theorem good_deed {d : Desk} (G : Good d) {r : Deed} (h : OkR d.world.m r) (hl : d.world.deeds.length < 6) : Good (withDeeds d (d.world.deeds ++ [r])) :=
  ⟨G.m2, G.m5, G.now, by
    show (d.world.deeds ++ [r]).length ≤ 6
    rw [List.length_append]
    show d.world.deeds.length + 1 ≤ 6
    omega, G.ne, fun x hx => by
    rcases List.mem_append.mp hx with hx | hx
    · exact G.dm x hx
    · have : x = r := by simpa using hx
      exact this ▸ h, G.em, G.wl, G.wb⟩
theorem good_event {d : Desk} (G : Good d) {r : Deed} (h : OkR d.world.m r) (hl : d.world.events.length < 3) : Good (withEvents d (d.world.events ++ [r])) :=
  ⟨G.m2, G.m5, G.now, G.nd, by
    show (d.world.events ++ [r]).length ≤ 3
    rw [List.length_append]
    show d.world.events.length + 1 ≤ 3
    omega, G.dm, fun x hx => by
    rcases List.mem_append.mp hx with hx | hx
    · exact G.em x hx
    · have : x = r := by simpa using hx
      exact this ▸ h, G.wl, G.wb⟩
theorem good_undeed {d : Desk} (G : Good d) (i : Nat) : Good (withDeeds d (d.world.deeds.eraseIdx i)) :=
  ⟨G.m2, G.m5, G.now, Nat.le_trans (List.length_eraseIdx_le ..) G.nd, G.ne, fun x hx => G.dm x (List.mem_of_mem_eraseIdx hx), G.em, G.wl, G.wb⟩
theorem good_unevent {d : Desk} (G : Good d) (i : Nat) : Good (withEvents d (d.world.events.eraseIdx i)) :=
  ⟨G.m2, G.m5, G.now, G.nd, Nat.le_trans (List.length_eraseIdx_le ..) G.ne, G.dm, fun x hx => G.em x (List.mem_of_mem_eraseIdx hx), G.wl, G.wb⟩
theorem good_now {d : Desk} (G : Good d) {s : Nat} (h : s < 2 ^ d.world.m) : Good (withNow d s) := ⟨G.m2, G.m5, h, G.nd, G.ne, G.dm, G.em, G.wl, G.wb⟩
theorem good_weight {d : Desk} (G : Good d) {q x : Nat} (h : x ≤ 100) : Good (withWeights d (d.weights.set q x)) :=
  ⟨G.m2, G.m5, G.now, G.nd, G.ne, G.dm, G.em, by
    show (d.weights.set q x).length = d.world.m
    rw [List.length_set]
    exact G.wl, fun y hy => by
    rcases List.mem_or_eq_of_mem_set hy with hy | hy
    · exact G.wb y hy
    · exact hy ▸ h⟩
end LC

namespace LC
open PySem PySem.Spec PyProof.Rows L2

/-! ### defs as they stand behind the top, and the calls of them -/
def DefG (K : PySem.W.Frag) (mg : Str → Option Value) (x : Str) (st : Stmt) : Prop := ∃ f fd, Fun K x x st f fd ∧ mg x = some (.ref f)
def DefM (K : PySem.W.Frag) (C : Addr) (m qual : Str) (st : Stmt) : Prop := ∃ f fd, Fun K m qual st f fd ∧ Meth K C m f
def DefI (K : PySem.W.Frag) (C : Addr) (qual : Str) (st : Stmt) : Prop := ∃ f fd, Fun K "__init__" qual st f fd ∧ Mk K C f
def MkC (mg : Str → Option Value) (x : Str) (C : Addr) : Prop := mg x = some (.ref C)
def GOk (P : Program) (w : World) (K : PySem.W.Frag) (mg : Str → Option Value) (base : Heap) (k : Nat) (x : Str) (ps : List Str) (sp : Sp) : Prop :=
  ∃ f fd, FnOk P w K mg base CX0 k f fd ps sp ∧ Binds K fd ps [] ∧ PySem.W.keepIn K (.ref f) = true ∧ mg x = some (.ref f)
def MOk (P : Program) (w : World) (K : PySem.W.Frag) (mg : Str → Option Value) (base : Heap) (k : Nat) (C : Addr) (m : Str) (ps : List Str) (sp : Sp) : Prop :=
  ∃ f fd, FnOk P w K mg base CX0 k f fd ps sp ∧ Binds K fd ps [] ∧ Cls K C ∧ Meth K C m f
def COk (P : Program) (w : World) (K : PySem.W.Frag) (mg : Str → Option Value) (base : Heap) (k : Nat) (x : Str) (C : Addr) (ps : List Str) (sp : Sp) : Prop :=
  ∃ f fd, FnOk P w K mg base CX0 k f fd ps sp ∧ Binds K fd ps [] ∧ Mk K C f ∧ mg x = some (.ref C)
section
variable {P : Program} {w : World} {K : PySem.W.Frag} {mg : Str → Option Value} {base : Heap}
/-- what a def's body has to show -/
abbrev Body (P : Program) (w : World) (K : PySem.W.Frag) (mg : Str → Option Value) (base : Heap) (k : Nat) (qual : Str) (st : Stmt) (N : List Str) (sp : Sp) : Prop :=
  ∀ (f : Addr) (cdv : Value) (A : Around) (outer : List Env) (s : Shared) (H : Hp) (vs : List V) (Q : VK) (E : XK), Room k (A.deeper (envOfC qual (defScope st) s.heap.objs.size f cdv)) → sp vs H Q E →
      ∃ t, PSs (cxOf CX0 P w K mg base N qual (defScope st) f cdv A outer s H E).nox (defBody st) t ∧ t { nx := fun _ H' => Q .non H', rt := Q } (start N vs) H
theorem DefG.ok {x : Str} {st : Stmt} {N ps : List Str} {k : Nat} {sp : Sp} (D : DefG K mg x st) (S : FnScope N ps (defScope st)) (len : ∀ vs H Q E, sp vs H Q E → vs.length = ps.length)
    (hb : ∀ (kV doc pm : Value) (an : Option Addr) (cdv ct : Value) (us : List Value), us.length = ps.length → bindArgs (PySem.W.fnOf x x (defArgs st) (defBody st) (defScope st) .none kV doc pm an cdv ct) ⟨us, []⟩ = pure (ps.zip us))
    (body : Body P w K mg base k x st N sp) : GOk P w K mg base (k + 1) x ps sp := by
  obtain ⟨f, fd, F, g⟩ := D
  exact ⟨f, fd, F.ok S len (fun cdv A outer s H vs Q E hr h => body f cdv A outer s H vs Q E hr h), F.binds hb, F.kp, g⟩
theorem DefM.ok {C : Addr} {m qual : Str} {st : Stmt} {N ps : List Str} {k : Nat} {sp : Sp} (D : DefM K C m qual st) (c : Cls K C) (S : FnScope N ps (defScope st)) (len : ∀ vs H Q E, sp vs H Q E → vs.length = ps.length)
    (hb : ∀ (kV doc pm : Value) (an : Option Addr) (cdv ct : Value) (us : List Value), us.length = ps.length → bindArgs (PySem.W.fnOf m qual (defArgs st) (defBody st) (defScope st) .none kV doc pm an cdv ct) ⟨us, []⟩ = pure (ps.zip us))
    (body : Body P w K mg base k qual st N sp) : MOk P w K mg base (k + 1) C m ps sp := by
  obtain ⟨f, fd, F, g⟩ := D
  exact ⟨f, fd, F.ok S len (fun cdv A outer s H vs Q E hr h => body f cdv A outer s H vs Q E hr h), F.binds hb, c, g⟩
theorem DefI.ok {C : Addr} {x qual : Str} {st : Stmt} {N ps : List Str} {k : Nat} {sp : Sp} (D : DefI K C qual st) (g : MkC mg x C) (S : FnScope N ps (defScope st)) (len : ∀ vs H Q E, sp vs H Q E → vs.length = ps.length)
    (hb : ∀ (kV doc pm : Value) (an : Option Addr) (cdv ct : Value) (us : List Value), us.length = ps.length → bindArgs (PySem.W.fnOf "__init__" qual (defArgs st) (defBody st) (defScope st) .none kV doc pm an cdv ct) ⟨us, []⟩ = pure (ps.zip us))
    (body : Body P w K mg base k qual st N sp) : COk P w K mg base (k + 1) x C ps sp := by
  obtain ⟨f, fd, F, m⟩ := D
  exact ⟨f, fd, F.ok S len (fun cdv A outer s H vs Q E hr h => body f cdv A outer s H vs Q E hr h), F.binds hb, m, g⟩
theorem defG_mk {h : Heap} {x : Str} {st : Stmt} {f : Addr} {oc : Value} {od an : Option Addr} {osl : Array (Option Value)} {kV doc pm cdv ct : Value} (X : K.In h) (G : h.Ns mainGlobals mg) (a : PySem.W.nsIn K mainGlobals x = some (some (.ref f)))
    (l : K.lookup f = some ⟨oc, od, .func (PySem.W.fnOf x x (defArgs st) (defBody st) (defScope st) .none kV doc pm an cdv ct), osl⟩) (c : PySem.W.codeIn K cdv x = true) (k : PySem.W.keepIn K (.ref f) = true) : DefG K mg x st :=
  ⟨f, _, fun_mk l c k, PySem.W.mg_of X G a⟩
theorem defM_mk {C : Addr} {m qual : Str} {st : Stmt} {f : Addr} {oc : Value} {od an : Option Addr} {osl : Array (Option Value)} {kV doc pm cdv ct : Value} (a : PySem.W.findIn K (.ref C) m = some (some (.ref f))) (i : PySem.W.isFn K (.ref f) = true)
    (l : K.lookup f = some ⟨oc, od, .func (PySem.W.fnOf m qual (defArgs st) (defBody st) (defScope st) .none kV doc pm an cdv ct), osl⟩) (c : PySem.W.codeIn K cdv qual = true) (k : PySem.W.keepIn K (.ref f) = true) : DefM K C m qual st :=
  ⟨f, _, fun_mk l c k, ⟨a, i, k⟩⟩
theorem defI_mk {C : Addr} {qual : Str} {st : Stmt} {f : Addr} {oc : Value} {od an : Option Addr} {osl : Array (Option Value)} {kV doc pm cdv ct : Value} (a : PySem.W.findIn K (.ref C) "__init__" = some (some (.ref f))) (i : PySem.W.isFn K (.ref f) = true)
    (l : K.lookup f = some ⟨oc, od, .func (PySem.W.fnOf "__init__" qual (defArgs st) (defBody st) (defScope st) .none kV doc pm an cdv ct), osl⟩) (c : PySem.W.codeIn K cdv qual = true) (k : PySem.W.keepIn K (.ref f) = true)
    (mk : PySem.W.makesIn K C = true) (kc : PySem.W.keepIn K (.ref C) = true) : DefI K C qual st :=
  ⟨f, _, fun_mk l c k, ⟨mk, a, i, kc⟩⟩
end
section
variable {X : Cx} {k j : Nat} {C : Addr} {ps : List Str} {sp : Sp} {x m : Str} {p pos apos : Pos} {e o : Expr} {es : List Expr} {ta : TE} {t : TA}
theorem pe_g (c : GOk X.prog X.w X.K X.mg X.base k x ps sp) (hr : Room j X.A) (ha : PA X (e :: es) t) (hk : k ≤ j := by decide) (hg : Gl X x := by rfl) (hdb : (x == ("__debug__" : Str)) = false := by decide)
    (he : starEach (e :: es) X.env = (false, eval e X.env) :: starEach es X.env := by rfl) (hpl : (backTo pos (starEach es X.env)).any (·.1) = false := by rfl) : PE X (.Call (.Name x p) (e :: es) [] pos) (tCall sp [] E0 t) := by
  obtain ⟨f, fd, F, b, kp, g⟩ := c
  exact pe_call F (hr.mono hk) hg g kp b .nil pass0 ha hdb he hpl
theorem pe_m {pl : Sem Bool} (c : MOk X.prog X.w X.K X.mg X.base k C m ps sp) (hr : Room j X.A) (he : PE X o ta) (ha : PA X (e :: es) t) (hk : k ≤ j := by decide)
    (hst : starEach (e :: es) X.env = (false, eval e X.env) :: starEach es X.env := by rfl) (hpl : (backTo pos (starEach es X.env)).any (·.1) = false := by rfl)
    (ht : eval (.Call (.Attribute o m apos) (e :: es) [] pos) X.env = (do
      let ov ← eval o X.env
      standAt apos.atName
      let (f, first) ← holding [ov] (getMethod ov m pl)
      callWith pos f first (backTo pos (starEach (e :: es) X.env)) (backToKw pos (keywordEach [] X.env))) := by rfl) :
    PE X (.Call (.Attribute o m apos) (e :: es) [] pos) (tMeth C m sp [] E0 ta t) := by
  obtain ⟨f, fd, F, b, cl, mt⟩ := c
  exact pe_meth (pl := pl) he cl mt F (hr.mono hk) b .nil pass0 ha hst hpl ht
theorem pe_m0 {pl : Sem Bool} (c : MOk X.prog X.w X.K X.mg X.base k C m ps sp) (hr : Room j X.A) (he : PE X o ta) (hk : k ≤ j := by decide)
    (ht : eval (.Call (.Attribute o m apos) [] [] pos) X.env = (do
      let ov ← eval o X.env
      standAt apos.atName
      let (f, first) ← holding [ov] (getMethod ov m pl)
      callWith pos f first (backTo pos (starEach [] X.env)) (backToKw pos (keywordEach [] X.env))) := by rfl) :
    PE X (.Call (.Attribute o m apos) [] [] pos) (tMeth C m sp [] E0 ta tNil) := by
  obtain ⟨f, fd, F, b, cl, mt⟩ := c
  exact pe_meth0 (pl := pl) he cl mt F (hr.mono hk) b .nil pass0 ht
theorem pe_new (c : COk X.prog X.w X.K X.mg X.base k x C ps sp) (hr : Room j X.A) (ha : PA X (e :: es) t) (hk : k + 1 ≤ j := by decide) (hg : Gl X x := by rfl) (hdb : (x == ("__debug__" : Str)) = false := by decide)
    (he : starEach (e :: es) X.env = (false, eval e X.env) :: starEach es X.env := by rfl) (hpl : (backTo pos (starEach es X.env)).any (·.1) = false := by rfl) : PE X (.Call (.Name x p) (e :: es) [] pos) (tMake C sp [] E0 t) := by
  obtain ⟨f, fd, F, b, M, g⟩ := c
  exact pe_make M F (hr.mono hk) hg g b .nil pass0 ha hdb he hpl
theorem pe_new0 (c : COk X.prog X.w X.K X.mg X.base k x C ps sp) (hr : Room j X.A) (hk : k + 1 ≤ j := by decide) (hg : Gl X x := by rfl) (hdb : (x == ("__debug__" : Str)) = false := by decide) : PE X (.Call (.Name x p) [] [] pos) (tMake C sp [] E0 tNil) := by
  obtain ⟨f, fd, F, b, M, g⟩ := c
  exact pe_make0 M F (hr.mono hk) hg g b .nil pass0 hdb
/-- a constant of the module -/
theorem pe_k {n : Int} (h : ∃ t, X.mg x = some (.int n t)) (hg : Gl X x := by rfl) (hdb : (x == ("__debug__" : Str)) = false := by decide) : PE X (.Name x pos) (tC (.int n)) := by
  obtain ⟨t, h⟩ := h
  exact pe_glob hg h ⟨t, rfl⟩ hdb
end

def top (i : Nat) : Stmt := PySem.Challenge.pw_leastchange_s01_answers.main.body.getD i (.Pass ⟨0, 0, 0, 0⟩)
abbrev sWithin : Stmt := top 1
abbrev sIsRule : Stmt := top 2
abbrev sRuleInit : Stmt := inClass (top 3) 0
abbrev sRuleCanHappen : Stmt := inClass (top 3) 1
abbrev sRuleHappen : Stmt := inClass (top 3) 2
abbrev sIsAim : Stmt := top 5
abbrev sAimInit : Stmt := inClass (top 6) 0
abbrev sAimIsMet : Stmt := inClass (top 6) 1
abbrev sAimBesides : Stmt := inClass (top 6) 2
abbrev sEndingInit : Stmt := inClass (top 8) 0
abbrev sRowsOneStepOn : Stmt := top 9
abbrev sFirstLeast : Stmt := top 10
abbrev sEndingsBySteps : Stmt := top 11
abbrev sLeastEnding : Stmt := top 12
abbrev sAnswerBegin : Stmt := top 30
abbrev sAddRule : Stmt := top 31
abbrev sAnswerDeed : Stmt := top 32
abbrev sAnswerEvent : Stmt := top 33
abbrev sTakeOut : Stmt := top 34
abbrev sAnswerUndeed : Stmt := top 35
abbrev sAnswerUnevent : Stmt := top 36
abbrev sAnswerSet : Stmt := top 37
abbrev sAnswerNow : Stmt := top 38
abbrev sAnswerDo : Stmt := top 39
abbrev sAnswerWeight : Stmt := top 40
abbrev sAnswerWeights : Stmt := top 41
abbrev sAnswerBase : Stmt := top 42
abbrev sAllChoices : Stmt := top 43
abbrev sCountAndFacts : Stmt := top 44
abbrev sAnswerChanges : Stmt := top 45
abbrev sAnswerTouches : Stmt := top 46
abbrev sAnswerPrice : Stmt := top 47
abbrev sCanBeAsked : Stmt := top 48
abbrev sEndingsAsked : Stmt := top 49
abbrev sWithoutGuard : Stmt := top 50
abbrev sAnswerGuarded : Stmt := top 51
abbrev sAnswerGuardrow : Stmt := top 52
abbrev sAnswerLeast : Stmt := top 53
abbrev sAnswerRow : Stmt := top 54
abbrev sCostsAsked : Stmt := top 55
abbrev sAnswerCosts : Stmt := top 56
abbrev sCanBeLeft : Stmt := top 57
abbrev sAnswerFree : Stmt := top 58
abbrev sAnswerFirstfree : Stmt := top 59
abbrev sAnswerCall : Stmt := top 61
abbrev sWorldInit : Stmt := inClass (top 63) 0
abbrev sWorldBegin : Stmt := inClass (top 63) 1
abbrev sWorldHasBegun : Stmt := inClass (top 63) 2
abbrev sWorldEverything : Stmt := inClass (top 63) 3
abbrev sWorldBehindEvents : Stmt := inClass (top 63) 4
abbrev sWorldWaiting : Stmt := inClass (top 63) 5
abbrev sWorldIsChoice : Stmt := inClass (top 63) 6
abbrev sWorldCanChoose : Stmt := inClass (top 63) 7
abbrev sWorldBehindChoice : Stmt := inClass (top 63) 8
abbrev sWorldStatesAlong : Stmt := inClass (top 63) 9
abbrev sWorldBehindWaiting : Stmt := inClass (top 63) 10
abbrev sWorldHeldAgainst : Stmt := inClass (top 63) 11
abbrev sWorldFactsOf : Stmt := inClass (top 63) 12
abbrev sWorldWeightOf : Stmt := inClass (top 63) 13
abbrev sWorldWeightChanged : Stmt := inClass (top 63) 14
abbrev sHasRow : Stmt := top 68
abbrev sPlainEnd : Stmt := top 69
abbrev sCallEnd : Stmt := top 70
abbrev sGivenNumbers : Stmt := top 71
abbrev sAnswers : Stmt := top 72
theorem scWithin : FnScope ["part", "whole"] ["part", "whole"] (defScope sWithin) := ⟨rfl, rfl, rfl, by decide +kernel, rfl, by decide +kernel, by decide +kernel⟩
theorem scIsRule : FnScope ["everything", "needs", "needs_so", "makes", "makes_so", "needs_fit", "makes_fit"] ["everything", "needs", "needs_so", "makes", "makes_so"] (defScope sIsRule) := ⟨rfl, rfl, rfl, by decide +kernel, rfl, by decide +kernel, by decide +kernel⟩
theorem scRuleInit : FnScope ["self", "needs", "needs_so", "makes", "makes_so"] ["self", "needs", "needs_so", "makes", "makes_so"] (defScope sRuleInit) := ⟨rfl, rfl, rfl, by decide +kernel, rfl, by decide +kernel, by decide +kernel⟩
theorem scRuleCanHappen : FnScope ["self", "state"] ["self", "state"] (defScope sRuleCanHappen) := ⟨rfl, rfl, rfl, by decide +kernel, rfl, by decide +kernel, by decide +kernel⟩
theorem scRuleHappen : FnScope ["self", "state"] ["self", "state"] (defScope sRuleHappen) := ⟨rfl, rfl, rfl, by decide +kernel, rfl, by decide +kernel, by decide +kernel⟩
theorem scIsAim : FnScope ["everything", "facts", "wanted"] ["everything", "facts", "wanted"] (defScope sIsAim) := ⟨rfl, rfl, rfl, by decide +kernel, rfl, by decide +kernel, by decide +kernel⟩
theorem scAimInit : FnScope ["self", "facts", "wanted"] ["self", "facts", "wanted"] (defScope sAimInit) := ⟨rfl, rfl, rfl, by decide +kernel, rfl, by decide +kernel, by decide +kernel⟩
theorem scAimIsMet : FnScope ["self", "state"] ["self", "state"] (defScope sAimIsMet) := ⟨rfl, rfl, rfl, by decide +kernel, rfl, by decide +kernel, by decide +kernel⟩
theorem scAimBesides : FnScope ["self", "facts"] ["self", "facts"] (defScope sAimBesides) := ⟨rfl, rfl, rfl, by decide +kernel, rfl, by decide +kernel, by decide +kernel⟩
theorem scEndingInit : FnScope ["self", "changed", "row"] ["self", "changed", "row"] (defScope sEndingInit) := ⟨rfl, rfl, rfl, by decide +kernel, rfl, by decide +kernel, by decide +kernel⟩
theorem scRowsOneStepOn : FnScope ["world", "rows", "against", "guard", "longer", "state", "choice", "behind"] ["world", "rows", "against", "guard"] (defScope sRowsOneStepOn) := ⟨rfl, rfl, rfl, by decide +kernel, rfl, by decide +kernel, by decide +kernel⟩
theorem scFirstLeast : FnScope ["world", "aim", "rows", "against", "least", "state", "changed"] ["world", "aim", "rows", "against"] (defScope sFirstLeast) := ⟨rfl, rfl, rfl, by decide +kernel, rfl, by decide +kernel, by decide +kernel⟩
theorem scEndingsBySteps : FnScope ["world", "aim", "by_itself", "guard", "most", "rows", "endings", "steps", "against"] ["world", "aim", "by_itself", "guard", "most"] (defScope sEndingsBySteps) := ⟨rfl, rfl, rfl, by decide +kernel, rfl, by decide +kernel, by decide +kernel⟩
theorem scLeastEnding : FnScope ["endings", "least", "ending"] ["endings"] (defScope sLeastEnding) := ⟨rfl, rfl, rfl, by decide +kernel, rfl, by decide +kernel, by decide +kernel⟩
theorem scAnswerBegin : FnScope ["world", "given", "many"] ["world", "given"] (defScope sAnswerBegin) := ⟨rfl, rfl, rfl, by decide +kernel, rfl, by decide +kernel, by decide +kernel⟩
theorem scAddRule : FnScope ["world", "rules", "most", "given"] ["world", "rules", "most", "given"] (defScope sAddRule) := ⟨rfl, rfl, rfl, by decide +kernel, rfl, by decide +kernel, by decide +kernel⟩
theorem scAnswerDeed : FnScope ["world", "given"] ["world", "given"] (defScope sAnswerDeed) := ⟨rfl, rfl, rfl, by decide +kernel, rfl, by decide +kernel, by decide +kernel⟩
theorem scAnswerEvent : FnScope ["world", "given"] ["world", "given"] (defScope sAnswerEvent) := ⟨rfl, rfl, rfl, by decide +kernel, rfl, by decide +kernel, by decide +kernel⟩
theorem scTakeOut : FnScope ["rules", "place"] ["rules", "place"] (defScope sTakeOut) := ⟨rfl, rfl, rfl, by decide +kernel, rfl, by decide +kernel, by decide +kernel⟩
theorem scAnswerUndeed : FnScope ["world", "given"] ["world", "given"] (defScope sAnswerUndeed) := ⟨rfl, rfl, rfl, by decide +kernel, rfl, by decide +kernel, by decide +kernel⟩
theorem scAnswerUnevent : FnScope ["world", "given"] ["world", "given"] (defScope sAnswerUnevent) := ⟨rfl, rfl, rfl, by decide +kernel, rfl, by decide +kernel, by decide +kernel⟩
theorem scAnswerSet : FnScope ["world", "given", "state", "before"] ["world", "given"] (defScope sAnswerSet) := ⟨rfl, rfl, rfl, by decide +kernel, rfl, by decide +kernel, by decide +kernel⟩
theorem scAnswerNow : FnScope ["world", "given"] ["world", "given"] (defScope sAnswerNow) := ⟨rfl, rfl, rfl, by decide +kernel, rfl, by decide +kernel, by decide +kernel⟩
theorem scAnswerDo : FnScope ["world", "given", "deed"] ["world", "given"] (defScope sAnswerDo) := ⟨rfl, rfl, rfl, by decide +kernel, rfl, by decide +kernel, by decide +kernel⟩
theorem scAnswerWeight : FnScope ["world", "given", "fact", "weight", "before"] ["world", "given"] (defScope sAnswerWeight) := ⟨rfl, rfl, rfl, by decide +kernel, rfl, by decide +kernel, by decide +kernel⟩
theorem scAnswerWeights : FnScope ["world", "given"] ["world", "given"] (defScope sAnswerWeights) := ⟨rfl, rfl, rfl, by decide +kernel, rfl, by decide +kernel, by decide +kernel⟩
theorem scAnswerBase : FnScope ["world", "given", "by_itself", "steps"] ["world", "given"] (defScope sAnswerBase) := ⟨rfl, rfl, rfl, by decide +kernel, rfl, by decide +kernel, by decide +kernel⟩
theorem scAllChoices : FnScope ["world", "row", "choice"] ["world", "row"] (defScope sAllChoices) := ⟨rfl, rfl, rfl, by decide +kernel, rfl, by decide +kernel, by decide +kernel⟩
theorem scCountAndFacts : FnScope ["world", "facts", "told"] ["world", "facts"] (defScope sCountAndFacts) := ⟨rfl, rfl, rfl, by decide +kernel, rfl, by decide +kernel, by decide +kernel⟩
theorem scAnswerChanges : FnScope ["world", "given", "by_itself", "row", "states", "against"] ["world", "given"] (defScope sAnswerChanges) := ⟨rfl, rfl, rfl, by decide +kernel, rfl, by decide +kernel, by decide +kernel⟩
theorem scAnswerTouches : FnScope ["world", "given", "choice", "chosen"] ["world", "given"] (defScope sAnswerTouches) := ⟨rfl, rfl, rfl, by decide +kernel, rfl, by decide +kernel, by decide +kernel⟩
theorem scAnswerPrice : FnScope ["world", "given", "by_itself", "row", "aim", "states"] ["world", "given"] (defScope sAnswerPrice) := ⟨rfl, rfl, rfl, by decide +kernel, rfl, by decide +kernel, by decide +kernel⟩
theorem scCanBeAsked : FnScope ["world", "asked", "aim_fits"] ["world", "asked"] (defScope sCanBeAsked) := ⟨rfl, rfl, rfl, by decide +kernel, rfl, by decide +kernel, by decide +kernel⟩
theorem scEndingsAsked : FnScope ["world", "asked"] ["world", "asked"] (defScope sEndingsAsked) := ⟨rfl, rfl, rfl, by decide +kernel, rfl, by decide +kernel, by decide +kernel⟩
theorem scWithoutGuard : FnScope ["given"] ["given"] (defScope sWithoutGuard) := ⟨rfl, rfl, rfl, by decide +kernel, rfl, by decide +kernel, by decide +kernel⟩
theorem scAnswerGuarded : FnScope ["world", "given", "ending"] ["world", "given"] (defScope sAnswerGuarded) := ⟨rfl, rfl, rfl, by decide +kernel, rfl, by decide +kernel, by decide +kernel⟩
theorem scAnswerGuardrow : FnScope ["world", "given", "ending"] ["world", "given"] (defScope sAnswerGuardrow) := ⟨rfl, rfl, rfl, by decide +kernel, rfl, by decide +kernel, by decide +kernel⟩
theorem scAnswerLeast : FnScope ["world", "given"] ["world", "given"] (defScope sAnswerLeast) := ⟨rfl, rfl, rfl, by decide +kernel, rfl, by decide +kernel, by decide +kernel⟩
theorem scAnswerRow : FnScope ["world", "given"] ["world", "given"] (defScope sAnswerRow) := ⟨rfl, rfl, rfl, by decide +kernel, rfl, by decide +kernel, by decide +kernel⟩
theorem scCostsAsked : FnScope ["world", "asked", "endings", "ending"] ["world", "asked"] (defScope sCostsAsked) := ⟨rfl, rfl, rfl, by decide +kernel, rfl, by decide +kernel, by decide +kernel⟩
theorem scAnswerCosts : FnScope ["world", "given", "asked", "costs"] ["world", "given"] (defScope sAnswerCosts) := ⟨rfl, rfl, rfl, by decide +kernel, rfl, by decide +kernel, by decide +kernel⟩
theorem scCanBeLeft : FnScope ["world", "given", "fact", "asked"] ["world", "given", "fact"] (defScope sCanBeLeft) := ⟨rfl, rfl, rfl, by decide +kernel, rfl, by decide +kernel, by decide +kernel⟩
theorem scAnswerFree : FnScope ["world", "given", "others", "left", "fact"] ["world", "given"] (defScope sAnswerFree) := ⟨rfl, rfl, rfl, by decide +kernel, rfl, by decide +kernel, by decide +kernel⟩
theorem scAnswerFirstfree : FnScope ["world", "given", "asked", "costs"] ["world", "given"] (defScope sAnswerFirstfree) := ⟨rfl, rfl, rfl, by decide +kernel, rfl, by decide +kernel, by decide +kernel⟩
theorem scAnswerCall : FnScope ["world", "number", "given"] ["world", "number", "given"] (defScope sAnswerCall) := ⟨rfl, rfl, rfl, by decide +kernel, rfl, by decide +kernel, by decide +kernel⟩
theorem scWorldInit : FnScope ["self"] ["self"] (defScope sWorldInit) := ⟨rfl, rfl, rfl, by decide +kernel, rfl, by decide +kernel, by decide +kernel⟩
theorem scWorldBegin : FnScope ["self", "many"] ["self", "many"] (defScope sWorldBegin) := ⟨rfl, rfl, rfl, by decide +kernel, rfl, by decide +kernel, by decide +kernel⟩
theorem scWorldHasBegun : FnScope ["self"] ["self"] (defScope sWorldHasBegun) := ⟨rfl, rfl, rfl, by decide +kernel, rfl, by decide +kernel, by decide +kernel⟩
theorem scWorldEverything : FnScope ["self"] ["self"] (defScope sWorldEverything) := ⟨rfl, rfl, rfl, by decide +kernel, rfl, by decide +kernel, by decide +kernel⟩
theorem scWorldBehindEvents : FnScope ["self", "state", "event"] ["self", "state"] (defScope sWorldBehindEvents) := ⟨rfl, rfl, rfl, by decide +kernel, rfl, by decide +kernel, by decide +kernel⟩
theorem scWorldWaiting : FnScope ["self"] ["self"] (defScope sWorldWaiting) := ⟨rfl, rfl, rfl, by decide +kernel, rfl, by decide +kernel, by decide +kernel⟩
theorem scWorldIsChoice : FnScope ["self", "choice"] ["self", "choice"] (defScope sWorldIsChoice) := ⟨rfl, rfl, rfl, by decide +kernel, rfl, by decide +kernel, by decide +kernel⟩
theorem scWorldCanChoose : FnScope ["self", "choice", "state"] ["self", "choice", "state"] (defScope sWorldCanChoose) := ⟨rfl, rfl, rfl, by decide +kernel, rfl, by decide +kernel, by decide +kernel⟩
theorem scWorldBehindChoice : FnScope ["self", "choice", "state"] ["self", "choice", "state"] (defScope sWorldBehindChoice) := ⟨rfl, rfl, rfl, by decide +kernel, rfl, by decide +kernel, by decide +kernel⟩
theorem scWorldStatesAlong : FnScope ["self", "row", "state", "states", "choice"] ["self", "row"] (defScope sWorldStatesAlong) := ⟨rfl, rfl, rfl, by decide +kernel, rfl, by decide +kernel, by decide +kernel⟩
theorem scWorldBehindWaiting : FnScope ["self", "steps", "state", "turn"] ["self", "steps"] (defScope sWorldBehindWaiting) := ⟨rfl, rfl, rfl, by decide +kernel, rfl, by decide +kernel, by decide +kernel⟩
theorem scWorldHeldAgainst : FnScope ["self", "by_itself", "steps"] ["self", "by_itself", "steps"] (defScope sWorldHeldAgainst) := ⟨rfl, rfl, rfl, by decide +kernel, rfl, by decide +kernel, by decide +kernel⟩
theorem scWorldFactsOf : FnScope ["self", "facts", "fact"] ["self", "facts"] (defScope sWorldFactsOf) := ⟨rfl, rfl, rfl, by decide +kernel, rfl, by decide +kernel, by decide +kernel⟩
theorem scWorldWeightOf : FnScope ["self", "facts", "fact"] ["self", "facts"] (defScope sWorldWeightOf) := ⟨rfl, rfl, rfl, by decide +kernel, rfl, by decide +kernel, by decide +kernel⟩
theorem scWorldWeightChanged : FnScope ["self", "aim", "state", "against"] ["self", "aim", "state", "against"] (defScope sWorldWeightChanged) := ⟨rfl, rfl, rfl, by decide +kernel, rfl, by decide +kernel, by decide +kernel⟩
theorem scHasRow : FnScope ["number"] ["number"] (defScope sHasRow) := ⟨rfl, rfl, rfl, by decide +kernel, rfl, by decide +kernel, by decide +kernel⟩
theorem scPlainEnd : FnScope ["calls", "place"] ["calls", "place"] (defScope sPlainEnd) := ⟨rfl, rfl, rfl, by decide +kernel, rfl, by decide +kernel, by decide +kernel⟩
theorem scCallEnd : FnScope ["calls", "place", "end"] ["calls", "place"] (defScope sCallEnd) := ⟨rfl, rfl, rfl, by decide +kernel, rfl, by decide +kernel, by decide +kernel⟩
theorem scGivenNumbers : FnScope ["calls", "place", "end", "given"] ["calls", "place"] (defScope sGivenNumbers) := ⟨rfl, rfl, rfl, by decide +kernel, rfl, by decide +kernel, by decide +kernel⟩
theorem scAnswers : FnScope ["calls", "world", "told", "place", "answer"] ["calls"] (defScope sAnswers) := ⟨rfl, rfl, rfl, by decide +kernel, rfl, by decide +kernel, by decide +kernel⟩
def repTab : List Str := ["answer_begin", "answer_deed", "answer_event", "answer_undeed", "answer_unevent", "answer_set", "answer_now", "answer_do", "answer_weight", "answer_weights", "answer_base", "answer_least", "answer_row", "answer_costs", "answer_guarded", "answer_guardrow", "answer_changes", "answer_touches", "answer_price", "answer_free", "answer_firstfree"]
/-- a written dict of ints -/
def KInt (K : PySem.W.Frag) (p : Addr) (i : Nat) (f : Addr) : Prop := ∃ es n, K.lookup p = some ⟨.type "dict", none, .dict es n, #[]⟩ ∧ (∀ e ∈ es.toList, ∃ j t, e.key = Value.int j t ∧ e.hash = hashInt j) ∧ findBy Value.isInt es (i : Int) = some (.ref f)
/-- what the top has written -/
structure Top (K : PySem.W.Frag) (mg : Str → Option Value) (CR CA CE CW : Addr) : Prop where
  cRule : Cls K CR
  nRule_needs : NoAttr K CR "needs"
  nRule_needs_so : NoAttr K CR "needs_so"
  nRule_makes : NoAttr K CR "makes"
  nRule_makes_so : NoAttr K CR "makes_so"
  kRule : MkC mg "Rule" CR
  cAim : Cls K CA
  nAim_facts : NoAttr K CA "facts"
  nAim_wanted : NoAttr K CA "wanted"
  kAim : MkC mg "Aim" CA
  cEnding : Cls K CE
  nEnding_changed : NoAttr K CE "changed"
  nEnding_row : NoAttr K CE "row"
  kEnding : MkC mg "Ending" CE
  cWorld : Cls K CW
  nWorld_many : NoAttr K CW "many"
  nWorld_state : NoAttr K CW "state"
  nWorld_deeds : NoAttr K CW "deeds"
  nWorld_events : NoAttr K CW "events"
  nWorld_weights : NoAttr K CW "weights"
  kWorld : MkC mg "World" CW
  dWithin : DefG K mg "within" sWithin
  dIsRule : DefG K mg "is_rule" sIsRule
  dRuleInit : DefI K CR "Rule.__init__" sRuleInit
  dRuleCanHappen : DefM K CR "can_happen" "Rule.can_happen" sRuleCanHappen
  dRuleHappen : DefM K CR "happen" "Rule.happen" sRuleHappen
  dIsAim : DefG K mg "is_aim" sIsAim
  dAimInit : DefI K CA "Aim.__init__" sAimInit
  dAimIsMet : DefM K CA "is_met" "Aim.is_met" sAimIsMet
  dAimBesides : DefM K CA "besides" "Aim.besides" sAimBesides
  dEndingInit : DefI K CE "Ending.__init__" sEndingInit
  dRowsOneStepOn : DefG K mg "rows_one_step_on" sRowsOneStepOn
  dFirstLeast : DefG K mg "first_least" sFirstLeast
  dEndingsBySteps : DefG K mg "endings_by_steps" sEndingsBySteps
  dLeastEnding : DefG K mg "least_ending" sLeastEnding
  dAnswerBegin : DefG K mg "answer_begin" sAnswerBegin
  dAddRule : DefG K mg "add_rule" sAddRule
  dAnswerDeed : DefG K mg "answer_deed" sAnswerDeed
  dAnswerEvent : DefG K mg "answer_event" sAnswerEvent
  dTakeOut : DefG K mg "take_out" sTakeOut
  dAnswerUndeed : DefG K mg "answer_undeed" sAnswerUndeed
  dAnswerUnevent : DefG K mg "answer_unevent" sAnswerUnevent
  dAnswerSet : DefG K mg "answer_set" sAnswerSet
  dAnswerNow : DefG K mg "answer_now" sAnswerNow
  dAnswerDo : DefG K mg "answer_do" sAnswerDo
  dAnswerWeight : DefG K mg "answer_weight" sAnswerWeight
  dAnswerWeights : DefG K mg "answer_weights" sAnswerWeights
  dAnswerBase : DefG K mg "answer_base" sAnswerBase
  dAllChoices : DefG K mg "all_choices" sAllChoices
  dCountAndFacts : DefG K mg "count_and_facts" sCountAndFacts
  dAnswerChanges : DefG K mg "answer_changes" sAnswerChanges
  dAnswerTouches : DefG K mg "answer_touches" sAnswerTouches
  dAnswerPrice : DefG K mg "answer_price" sAnswerPrice
  dCanBeAsked : DefG K mg "can_be_asked" sCanBeAsked
  dEndingsAsked : DefG K mg "endings_asked" sEndingsAsked
  dWithoutGuard : DefG K mg "without_guard" sWithoutGuard
  dAnswerGuarded : DefG K mg "answer_guarded" sAnswerGuarded
  dAnswerGuardrow : DefG K mg "answer_guardrow" sAnswerGuardrow
  dAnswerLeast : DefG K mg "answer_least" sAnswerLeast
  dAnswerRow : DefG K mg "answer_row" sAnswerRow
  dCostsAsked : DefG K mg "costs_asked" sCostsAsked
  dAnswerCosts : DefG K mg "answer_costs" sAnswerCosts
  dCanBeLeft : DefG K mg "can_be_left" sCanBeLeft
  dAnswerFree : DefG K mg "answer_free" sAnswerFree
  dAnswerFirstfree : DefG K mg "answer_firstfree" sAnswerFirstfree
  dAnswerCall : DefG K mg "answer_call" sAnswerCall
  dWorldInit : DefI K CW "World.__init__" sWorldInit
  dWorldBegin : DefM K CW "begin" "World.begin" sWorldBegin
  dWorldHasBegun : DefM K CW "has_begun" "World.has_begun" sWorldHasBegun
  dWorldEverything : DefM K CW "everything" "World.everything" sWorldEverything
  dWorldBehindEvents : DefM K CW "behind_events" "World.behind_events" sWorldBehindEvents
  dWorldWaiting : DefM K CW "waiting" "World.waiting" sWorldWaiting
  dWorldIsChoice : DefM K CW "is_choice" "World.is_choice" sWorldIsChoice
  dWorldCanChoose : DefM K CW "can_choose" "World.can_choose" sWorldCanChoose
  dWorldBehindChoice : DefM K CW "behind_choice" "World.behind_choice" sWorldBehindChoice
  dWorldStatesAlong : DefM K CW "states_along" "World.states_along" sWorldStatesAlong
  dWorldBehindWaiting : DefM K CW "behind_waiting" "World.behind_waiting" sWorldBehindWaiting
  dWorldHeldAgainst : DefM K CW "held_against" "World.held_against" sWorldHeldAgainst
  dWorldFactsOf : DefM K CW "facts_of" "World.facts_of" sWorldFactsOf
  dWorldWeightOf : DefM K CW "weight_of" "World.weight_of" sWorldWeightOf
  dWorldWeightChanged : DefM K CW "weight_changed" "World.weight_changed" sWorldWeightChanged
  dHasRow : DefG K mg "has_row" sHasRow
  dPlainEnd : DefG K mg "plain_end" sPlainEnd
  dCallEnd : DefG K mg "call_end" sCallEnd
  dGivenNumbers : DefG K mg "given_numbers" sGivenNumbers
  dAnswers : DefG K mg "answers" sAnswers
  b_len : mg "len" = none
  b_range : mg "range" = none
  b_sum : mg "sum" = none
  b_all : mg "all" = none
  neWR : CW ≠ CR
  g_PLAIN : ∃ p, mg "PLAIN_NUMBERS" = some (.ref p) ∧ ∀ H, SqT K H p ([1, 4, 4, 1, 1, 1, 0, 1, 2, 0, 2, 4, 4, 4, 5, 5, 1, 1, 3, 4, 3].map fun n : Nat => V.int (n : Int))
  g_REPLIES : ∃ p, mg "REPLIES" = some (.ref p) ∧ ∀ (i : Nat) (x : Str), repTab[i]? = some x → ∃ f, mg x = some (.ref f) ∧ KInt K p i f
  g_NO_SUCH : ∃ t, mg "NO_SUCH" = some (.int (-2) t)
  g_CANNOT_BE_DONE : ∃ t, mg "CANNOT_BE_DONE" = some (.int (-6) t)
  g_NOT_BEGUN : ∃ t, mg "NOT_BEGUN" = some (.int (-11) t)
  g_NOT_ALLOWED : ∃ t, mg "NOT_ALLOWED" = some (.int (-22) t)
  g_TOO_MANY : ∃ t, mg "TOO_MANY" = some (.int (-28) t)
  g_AIM_NOT_MET : ∃ t, mg "AIM_NOT_MET" = some (.int (-33) t)
  g_FEWEST_FACTS : ∃ t, mg "FEWEST_FACTS" = some (.int (2) t)
  g_MOST_FACTS : ∃ t, mg "MOST_FACTS" = some (.int (5) t)
  g_MOST_DEEDS : ∃ t, mg "MOST_DEEDS" = some (.int (6) t)
  g_MOST_EVENTS : ∃ t, mg "MOST_EVENTS" = some (.int (3) t)
  g_MOST_WEIGHT : ∃ t, mg "MOST_WEIGHT" = some (.int (100) t)
  g_MOST_BASE_STEPS : ∃ t, mg "MOST_BASE_STEPS" = some (.int (40) t)
  g_MOST_STEPS : ∃ t, mg "MOST_STEPS" = some (.int (10) t)
  g_NO_GUARD : ∃ t, mg "NO_GUARD" = some (.int (0) t)
  g_NO_ROW : ∃ t, mg "NO_ROW" = some (.int (-1) t)
  g_BEGIN : ∃ t, mg "BEGIN" = some (.int (0) t)
  g_CHANGES : ∃ t, mg "CHANGES" = some (.int (16) t)
  g_PRICE : ∃ t, mg "PRICE" = some (.int (18) t)
end LC

namespace LC
open PySem PySem.Spec PyProof.Rows L2 Evl
abbrev nI (n : Nat) : V := .int (n : Int)
abbrev lI (l : List Nat) : List V := l.map nI
theorem lk_here {k : Str} {v : V} {r : List (Str × V)} : List.lookup k ((k, v) :: r) = some v := by
  have e : (k == k) = true := beq_self_eq_true k
  simp only [List.lookup, e]
theorem lk_past {k g : Str} {v : V} {r : List (Str × V)} (h : (k == g) = false) : List.lookup k ((g, v) :: r) = List.lookup k r := by
  simp only [List.lookup, h]
theorem put_here {f : Str} {v x : V} {r : List (Str × V)} : putF f v ((f, x) :: r) = (f, v) :: r := if_pos rfl
theorem put_past {f g : Str} {v x : V} {r : List (Str × V)} (h : ¬ g = f) : putF f v ((g, x) :: r) = (g, x) :: putF f v r := if_neg h
def rF (x0 x1 x2 x3 : V) : List (Str × V) := [("needs", x0), ("needs_so", x1), ("makes", x2), ("makes_so", x3)]
theorem rF_needs {x0 x1 x2 x3 : V} : (rF x0 x1 x2 x3).lookup ("needs" : Str) = some x0 := lk_here
theorem rF_needs_so {x0 x1 x2 x3 : V} : (rF x0 x1 x2 x3).lookup ("needs_so" : Str) = some x1 := (lk_past (by decide +kernel)).trans (lk_here)
theorem rF_makes {x0 x1 x2 x3 : V} : (rF x0 x1 x2 x3).lookup ("makes" : Str) = some x2 := (lk_past (by decide +kernel)).trans ((lk_past (by decide +kernel)).trans (lk_here))
theorem rF_makes_so {x0 x1 x2 x3 : V} : (rF x0 x1 x2 x3).lookup ("makes_so" : Str) = some x3 := (lk_past (by decide +kernel)).trans ((lk_past (by decide +kernel)).trans ((lk_past (by decide +kernel)).trans (lk_here)))
theorem rF_can_happen {x0 x1 x2 x3 : V} : (rF x0 x1 x2 x3).lookup ("can_happen" : Str) = none := (lk_past (by decide +kernel)).trans ((lk_past (by decide +kernel)).trans ((lk_past (by decide +kernel)).trans ((lk_past (by decide +kernel)).trans (rfl))))
theorem rF_happen {x0 x1 x2 x3 : V} : (rF x0 x1 x2 x3).lookup ("happen" : Str) = none := (lk_past (by decide +kernel)).trans ((lk_past (by decide +kernel)).trans ((lk_past (by decide +kernel)).trans ((lk_past (by decide +kernel)).trans (rfl))))
theorem rN_needs {x0 : V} : putF "needs" x0 ([] : List (Str × V)) = [(("needs" : Str), x0)] := rfl
theorem rN_needs_so {x0 x1 : V} : putF "needs_so" x1 ([(("needs" : Str), x0)] : List (Str × V)) = [(("needs" : Str), x0), (("needs_so" : Str), x1)] := (put_past (by decide +kernel)).trans (congrArg _ (rfl))
theorem rN_makes {x0 x1 x2 : V} : putF "makes" x2 ([(("needs" : Str), x0), (("needs_so" : Str), x1)] : List (Str × V)) = [(("needs" : Str), x0), (("needs_so" : Str), x1), (("makes" : Str), x2)] := (put_past (by decide +kernel)).trans (congrArg _ ((put_past (by decide +kernel)).trans (congrArg _ (rfl))))
theorem rN_makes_so {x0 x1 x2 x3 : V} : putF "makes_so" x3 ([(("needs" : Str), x0), (("needs_so" : Str), x1), (("makes" : Str), x2)] : List (Str × V)) = [(("needs" : Str), x0), (("needs_so" : Str), x1), (("makes" : Str), x2), (("makes_so" : Str), x3)] := (put_past (by decide +kernel)).trans (congrArg _ ((put_past (by decide +kernel)).trans (congrArg _ ((put_past (by decide +kernel)).trans (congrArg _ (rfl))))))
def aF (x0 x1 : V) : List (Str × V) := [("facts", x0), ("wanted", x1)]
theorem aF_facts {x0 x1 : V} : (aF x0 x1).lookup ("facts" : Str) = some x0 := lk_here
theorem aF_wanted {x0 x1 : V} : (aF x0 x1).lookup ("wanted" : Str) = some x1 := (lk_past (by decide +kernel)).trans (lk_here)
theorem aF_is_met {x0 x1 : V} : (aF x0 x1).lookup ("is_met" : Str) = none := (lk_past (by decide +kernel)).trans ((lk_past (by decide +kernel)).trans (rfl))
theorem aF_besides {x0 x1 : V} : (aF x0 x1).lookup ("besides" : Str) = none := (lk_past (by decide +kernel)).trans ((lk_past (by decide +kernel)).trans (rfl))
theorem aN_facts {x0 : V} : putF "facts" x0 ([] : List (Str × V)) = [(("facts" : Str), x0)] := rfl
theorem aN_wanted {x0 x1 : V} : putF "wanted" x1 ([(("facts" : Str), x0)] : List (Str × V)) = [(("facts" : Str), x0), (("wanted" : Str), x1)] := (put_past (by decide +kernel)).trans (congrArg _ (rfl))
def eF (x0 x1 : V) : List (Str × V) := [("changed", x0), ("row", x1)]
theorem eF_changed {x0 x1 : V} : (eF x0 x1).lookup ("changed" : Str) = some x0 := lk_here
theorem eF_row {x0 x1 : V} : (eF x0 x1).lookup ("row" : Str) = some x1 := (lk_past (by decide +kernel)).trans (lk_here)
theorem eN_changed {x0 : V} : putF "changed" x0 ([] : List (Str × V)) = [(("changed" : Str), x0)] := rfl
theorem eN_row {x0 x1 : V} : putF "row" x1 ([(("changed" : Str), x0)] : List (Str × V)) = [(("changed" : Str), x0), (("row" : Str), x1)] := (put_past (by decide +kernel)).trans (congrArg _ (rfl))
def wF (x0 x1 x2 x3 x4 : V) : List (Str × V) := [("many", x0), ("state", x1), ("deeds", x2), ("events", x3), ("weights", x4)]
theorem wF_many {x0 x1 x2 x3 x4 : V} : (wF x0 x1 x2 x3 x4).lookup ("many" : Str) = some x0 := lk_here
theorem wF_state {x0 x1 x2 x3 x4 : V} : (wF x0 x1 x2 x3 x4).lookup ("state" : Str) = some x1 := (lk_past (by decide +kernel)).trans (lk_here)
theorem wF_deeds {x0 x1 x2 x3 x4 : V} : (wF x0 x1 x2 x3 x4).lookup ("deeds" : Str) = some x2 := (lk_past (by decide +kernel)).trans ((lk_past (by decide +kernel)).trans (lk_here))
theorem wF_events {x0 x1 x2 x3 x4 : V} : (wF x0 x1 x2 x3 x4).lookup ("events" : Str) = some x3 := (lk_past (by decide +kernel)).trans ((lk_past (by decide +kernel)).trans ((lk_past (by decide +kernel)).trans (lk_here)))
theorem wF_weights {x0 x1 x2 x3 x4 : V} : (wF x0 x1 x2 x3 x4).lookup ("weights" : Str) = some x4 := (lk_past (by decide +kernel)).trans ((lk_past (by decide +kernel)).trans ((lk_past (by decide +kernel)).trans ((lk_past (by decide +kernel)).trans (lk_here))))
theorem wF_begin {x0 x1 x2 x3 x4 : V} : (wF x0 x1 x2 x3 x4).lookup ("begin" : Str) = none := (lk_past (by decide +kernel)).trans ((lk_past (by decide +kernel)).trans ((lk_past (by decide +kernel)).trans ((lk_past (by decide +kernel)).trans ((lk_past (by decide +kernel)).trans (rfl)))))
theorem wF_has_begun {x0 x1 x2 x3 x4 : V} : (wF x0 x1 x2 x3 x4).lookup ("has_begun" : Str) = none := (lk_past (by decide +kernel)).trans ((lk_past (by decide +kernel)).trans ((lk_past (by decide +kernel)).trans ((lk_past (by decide +kernel)).trans ((lk_past (by decide +kernel)).trans (rfl)))))
theorem wF_everything {x0 x1 x2 x3 x4 : V} : (wF x0 x1 x2 x3 x4).lookup ("everything" : Str) = none := (lk_past (by decide +kernel)).trans ((lk_past (by decide +kernel)).trans ((lk_past (by decide +kernel)).trans ((lk_past (by decide +kernel)).trans ((lk_past (by decide +kernel)).trans (rfl)))))
theorem wF_behind_events {x0 x1 x2 x3 x4 : V} : (wF x0 x1 x2 x3 x4).lookup ("behind_events" : Str) = none := (lk_past (by decide +kernel)).trans ((lk_past (by decide +kernel)).trans ((lk_past (by decide +kernel)).trans ((lk_past (by decide +kernel)).trans ((lk_past (by decide +kernel)).trans (rfl)))))
theorem wF_waiting {x0 x1 x2 x3 x4 : V} : (wF x0 x1 x2 x3 x4).lookup ("waiting" : Str) = none := (lk_past (by decide +kernel)).trans ((lk_past (by decide +kernel)).trans ((lk_past (by decide +kernel)).trans ((lk_past (by decide +kernel)).trans ((lk_past (by decide +kernel)).trans (rfl)))))
theorem wF_is_choice {x0 x1 x2 x3 x4 : V} : (wF x0 x1 x2 x3 x4).lookup ("is_choice" : Str) = none := (lk_past (by decide +kernel)).trans ((lk_past (by decide +kernel)).trans ((lk_past (by decide +kernel)).trans ((lk_past (by decide +kernel)).trans ((lk_past (by decide +kernel)).trans (rfl)))))
theorem wF_can_choose {x0 x1 x2 x3 x4 : V} : (wF x0 x1 x2 x3 x4).lookup ("can_choose" : Str) = none := (lk_past (by decide +kernel)).trans ((lk_past (by decide +kernel)).trans ((lk_past (by decide +kernel)).trans ((lk_past (by decide +kernel)).trans ((lk_past (by decide +kernel)).trans (rfl)))))
theorem wF_behind_choice {x0 x1 x2 x3 x4 : V} : (wF x0 x1 x2 x3 x4).lookup ("behind_choice" : Str) = none := (lk_past (by decide +kernel)).trans ((lk_past (by decide +kernel)).trans ((lk_past (by decide +kernel)).trans ((lk_past (by decide +kernel)).trans ((lk_past (by decide +kernel)).trans (rfl)))))
theorem wF_states_along {x0 x1 x2 x3 x4 : V} : (wF x0 x1 x2 x3 x4).lookup ("states_along" : Str) = none := (lk_past (by decide +kernel)).trans ((lk_past (by decide +kernel)).trans ((lk_past (by decide +kernel)).trans ((lk_past (by decide +kernel)).trans ((lk_past (by decide +kernel)).trans (rfl)))))
theorem wF_behind_waiting {x0 x1 x2 x3 x4 : V} : (wF x0 x1 x2 x3 x4).lookup ("behind_waiting" : Str) = none := (lk_past (by decide +kernel)).trans ((lk_past (by decide +kernel)).trans ((lk_past (by decide +kernel)).trans ((lk_past (by decide +kernel)).trans ((lk_past (by decide +kernel)).trans (rfl)))))
theorem wF_held_against {x0 x1 x2 x3 x4 : V} : (wF x0 x1 x2 x3 x4).lookup ("held_against" : Str) = none := (lk_past (by decide +kernel)).trans ((lk_past (by decide +kernel)).trans ((lk_past (by decide +kernel)).trans ((lk_past (by decide +kernel)).trans ((lk_past (by decide +kernel)).trans (rfl)))))
theorem wF_facts_of {x0 x1 x2 x3 x4 : V} : (wF x0 x1 x2 x3 x4).lookup ("facts_of" : Str) = none := (lk_past (by decide +kernel)).trans ((lk_past (by decide +kernel)).trans ((lk_past (by decide +kernel)).trans ((lk_past (by decide +kernel)).trans ((lk_past (by decide +kernel)).trans (rfl)))))
theorem wF_weight_of {x0 x1 x2 x3 x4 : V} : (wF x0 x1 x2 x3 x4).lookup ("weight_of" : Str) = none := (lk_past (by decide +kernel)).trans ((lk_past (by decide +kernel)).trans ((lk_past (by decide +kernel)).trans ((lk_past (by decide +kernel)).trans ((lk_past (by decide +kernel)).trans (rfl)))))
theorem wF_weight_changed {x0 x1 x2 x3 x4 : V} : (wF x0 x1 x2 x3 x4).lookup ("weight_changed" : Str) = none := (lk_past (by decide +kernel)).trans ((lk_past (by decide +kernel)).trans ((lk_past (by decide +kernel)).trans ((lk_past (by decide +kernel)).trans ((lk_past (by decide +kernel)).trans (rfl)))))
theorem wN_many {x0 : V} : putF "many" x0 ([] : List (Str × V)) = [(("many" : Str), x0)] := rfl
theorem wN_state {x0 x1 : V} : putF "state" x1 ([(("many" : Str), x0)] : List (Str × V)) = [(("many" : Str), x0), (("state" : Str), x1)] := (put_past (by decide +kernel)).trans (congrArg _ (rfl))
theorem wN_deeds {x0 x1 x2 : V} : putF "deeds" x2 ([(("many" : Str), x0), (("state" : Str), x1)] : List (Str × V)) = [(("many" : Str), x0), (("state" : Str), x1), (("deeds" : Str), x2)] := (put_past (by decide +kernel)).trans (congrArg _ ((put_past (by decide +kernel)).trans (congrArg _ (rfl))))
theorem wN_events {x0 x1 x2 x3 : V} : putF "events" x3 ([(("many" : Str), x0), (("state" : Str), x1), (("deeds" : Str), x2)] : List (Str × V)) = [(("many" : Str), x0), (("state" : Str), x1), (("deeds" : Str), x2), (("events" : Str), x3)] := (put_past (by decide +kernel)).trans (congrArg _ ((put_past (by decide +kernel)).trans (congrArg _ ((put_past (by decide +kernel)).trans (congrArg _ (rfl))))))
theorem wN_weights {x0 x1 x2 x3 x4 : V} : putF "weights" x4 ([(("many" : Str), x0), (("state" : Str), x1), (("deeds" : Str), x2), (("events" : Str), x3)] : List (Str × V)) = [(("many" : Str), x0), (("state" : Str), x1), (("deeds" : Str), x2), (("events" : Str), x3), (("weights" : Str), x4)] := (put_past (by decide +kernel)).trans (congrArg _ ((put_past (by decide +kernel)).trans (congrArg _ ((put_past (by decide +kernel)).trans (congrArg _ ((put_past (by decide +kernel)).trans (congrArg _ (rfl))))))))
theorem wP_many {x0 x1 x2 x3 x4 y : V} : putF "many" y (wF x0 x1 x2 x3 x4) = wF y x1 x2 x3 x4 := put_here
theorem wP_state {x0 x1 x2 x3 x4 y : V} : putF "state" y (wF x0 x1 x2 x3 x4) = wF x0 y x2 x3 x4 := (put_past (by decide +kernel)).trans (congrArg _ (put_here))
theorem wP_deeds {x0 x1 x2 x3 x4 y : V} : putF "deeds" y (wF x0 x1 x2 x3 x4) = wF x0 x1 y x3 x4 := (put_past (by decide +kernel)).trans (congrArg _ ((put_past (by decide +kernel)).trans (congrArg _ (put_here))))
theorem wP_events {x0 x1 x2 x3 x4 y : V} : putF "events" y (wF x0 x1 x2 x3 x4) = wF x0 x1 x2 y x4 := (put_past (by decide +kernel)).trans (congrArg _ ((put_past (by decide +kernel)).trans (congrArg _ ((put_past (by decide +kernel)).trans (congrArg _ (put_here))))))
theorem wP_weights {x0 x1 x2 x3 x4 y : V} : putF "weights" y (wF x0 x1 x2 x3 x4) = wF x0 x1 x2 x3 y := (put_past (by decide +kernel)).trans (congrArg _ ((put_past (by decide +kernel)).trans (congrArg _ ((put_past (by decide +kernel)).trans (congrArg _ ((put_past (by decide +kernel)).trans (congrArg _ (put_here))))))))
/-! ### numbers -/
theorem b_and (a b : Nat) : Builtin.bitAnd (a : Int) (b : Int) = ((a &&& b : Nat) : Int) := by
  rw [bitAnd_pp (by omega) (by omega), Int.toNat_natCast, Int.toNat_natCast]
theorem b_or (a b : Nat) : Builtin.bitOr (a : Int) (b : Int) = ((a ||| b : Nat) : Int) := by
  rw [Bits.bitOr_pp (by omega) (by omega), Int.toNat_natCast, Int.toNat_natCast]
theorem b_xor (a b : Nat) : Builtin.bitXor (a : Int) (b : Int) = ((a ^^^ b : Nat) : Int) := by
  rw [Bits.bitXor_pp (by omega) (by omega), Int.toNat_natCast, Int.toNat_natCast]
theorem nI_inj {a b : Nat} (h : nI a = nI b) : a = b := by
  injection h with h
  exact Int.ofNat.inj h
theorem nI_eq (a b : Nat) : decide (nI a = nI b) = decide (a = b) := by
  by_cases h : a = b
  · subst h
    simp
  · rw [decide_eq_false h, decide_eq_false (fun e => h (nI_inj e))]
/-! ### what readings evaluate to: more of it -/
/-- it evaluates to some value of which R holds then -/
def EvP (te : TE) (σ : L2.St) (H : Hp) (R : V → Hp → Prop) : Prop := ∀ H1, Ex H H1 → ∀ Q : VK, (∀ v H2, Ex H1 H2 → R v H2 → Q v H2) → te σ H1 Q
def RetP (R : V → Hp → Prop) (H : Hp) (Q : VK) : Prop := ∀ v H2, Ex H H2 → R v H2 → Q v H2
section
variable {K : PySem.W.Frag} {σ : L2.St} {H : Hp} {ta tb te : TE} {t : TA} {C a dx : Addr} {fs : List (Str × V)} {f m : Str} {v z : V} {vs : List V} {sp : Sp} {E : XK} {D : Ends} {i j : Int} {a' b' : Nat}
theorem ev_fld (h : Ev ta σ H (.ref a)) (ha : H a = some (.ins C dx fs)) (c : Cls K C) (n : NoAttr K C f) (l : fs.lookup f = some v) : Ev (tFld K ta f) σ H v := fun H1 e Q q =>
  h H1 e _ fun H2 e2 => ⟨a, C, dx, fs, v, rfl, (e.trans e2) a _ ha, c, n, l, q H2 e2⟩
theorem ev_meth (h : Ev ta σ H (.ref a)) (ha : H a = some (.ins C dx fs)) (l : fs.lookup m = none) (hv : EvA t σ H vs) (hs : SpV sp (.ref a :: vs) H z) : Ev (tMeth C m sp [] E ta t) σ H z := fun H1 e Q q =>
  h H1 e _ fun H2 e2 => ⟨a, dx, fs, rfl, (e.trans e2) a _ ha, l, hv H2 (e.trans e2) _ fun H3 e3 => by
    rw [List.append_nil]
    exact hs H3 ((e.trans e2).trans e3) Q (fun H4 e4 => q H4 ((e2.trans e3).trans e4)) E⟩
theorem el_meth {xs : List V} (h : Ev ta σ H (.ref a)) (ha : H a = some (.ins C dx fs)) (l : fs.lookup m = none) (hv : EvA t σ H vs) (hs : SpL sp (.ref a :: vs) H xs) : EvL (tMeth C m sp [] E ta t) σ H xs := fun H1 e Q q =>
  h H1 e _ fun H2 e2 => ⟨a, dx, fs, rfl, (e.trans e2) a _ ha, l, hv H2 (e.trans e2) _ fun H3 e3 => by
    rw [List.append_nil]
    exact hs H3 ((e.trans e2).trans e3) Q (fun p H4 hp e4 h4 => q p H4 (fresh_back (e2.trans e3) hp) ((e2.trans e3).trans e4) h4) E⟩
def SpP (sp : Sp) (vs : List V) (H : Hp) (R : V → Hp → Prop) : Prop := ∀ H1, Ex H H1 → ∀ Q : VK, (∀ v H2, Ex H1 H2 → R v H2 → Q v H2) → ∀ E : XK, sp vs H1 Q E
theorem ep_call {R : V → Hp → Prop} (h : EvA t σ H vs) (hs : SpP sp vs H R) : EvP (tCall sp [] E t) σ H R := fun H1 e Q q =>
  h H1 e _ fun H2 e2 => by
    rw [List.append_nil]
    exact hs H2 (e.trans e2) Q (fun v H3 e3 r => q v H3 (e2.trans e3) r) E
theorem evc {sp : Sp} (h : EvA t σ H vs) (hs : SpV sp vs H z) : Ev (tCall sp [] E t) σ H z := ev_call h (by rw [List.append_nil]; exact hs)
theorem elc {sp : Sp} {xs : List V} (h : EvA t σ H vs) (hs : SpL sp vs H xs) : EvL (tCall sp [] E t) σ H xs := el_call h (by rw [List.append_nil]; exact hs)
theorem ev_and2 {g : Int → Int → V} (ha : Ev ta σ H (.int i)) (hb : Ev tb σ H (.int j)) : Ev (tOp (rI0 g) ta tb) σ H (g i j) := ev_op ha hb rv_I0
theorem ev_eqN {a b : Nat} (ha : Ev ta σ H (nI a)) (hb : Ev tb σ H (nI b)) : Ev (tOp rEq ta tb) σ H (.bl (decide (a = b))) := ev_is (ev_op ha hb (rv_eq rfl)) (by rw [nI_eq])
theorem ev_neN {a b : Nat} (ha : Ev ta σ H (nI a)) (hb : Ev tb σ H (nI b)) : Ev (tOp rNe ta tb) σ H (.bl (!decide (a = b))) := ev_is (ev_op ha hb (rv_ne rfl)) (by rw [nI_eq])
theorem ev_bAnd {a b : Nat} (ha : Ev ta σ H (nI a)) (hb : Ev tb σ H (nI b)) : Ev (tOp (rI0 fun i j => .int (Builtin.bitAnd i j)) ta tb) σ H (nI (a &&& b)) := ev_is (ev_and2 ha hb) (by rw [b_and])
theorem ev_bOr {a b : Nat} (ha : Ev ta σ H (nI a)) (hb : Ev tb σ H (nI b)) : Ev (tOp (rI0 fun i j => .int (Builtin.bitOr i j)) ta tb) σ H (nI (a ||| b)) := ev_is (ev_and2 ha hb) (by rw [b_or])
theorem ev_bXor {a b : Nat} (ha : Ev ta σ H (nI a)) (hb : Ev tb σ H (nI b)) : Ev (tOp (rI0 fun i j => .int (Builtin.bitXor i j)) ta tb) σ H (nI (a ^^^ b)) := ev_is (ev_and2 ha hb) (by rw [b_xor])
theorem ev_subN {a b : Nat} (ha : Ev ta σ H (nI a)) (hb : Ev tb σ H (nI b)) (h : b ≤ a) : Ev (tOp (rI0 fun i j => .int (i - j)) ta tb) σ H (nI (a - b)) := ev_is (ev_and2 ha hb) (by
  show V.int ((a : Int) - (b : Int)) = V.int ((a - b : Nat) : Int)
  congr 1
  omega)
theorem ev_addN {a b : Nat} (ha : Ev ta σ H (nI a)) (hb : Ev tb σ H (nI b)) : Ev (tOp (rI0 fun i j => .int (i + j)) ta tb) σ H (nI (a + b)) := ev_is (ev_and2 ha hb) (by
  show V.int ((a : Int) + (b : Int)) = V.int ((a + b : Nat) : Int)
  congr 1)
theorem ev_ltN {a b : Nat} (ha : Ev ta σ H (nI a)) (hb : Ev tb σ H (nI b)) : Ev (tOp (rI0 fun i j => .bl (decide (i < j))) ta tb) σ H (.bl (decide (a < b))) := ev_is (ev_and2 ha hb) (congrArg V.bl (by simp only [Int.ofNat_lt]))
theorem ev_leN {a b : Nat} (ha : Ev ta σ H (nI a)) (hb : Ev tb σ H (nI b)) : Ev (tOp (rI0 fun i j => .bl (decide (i ≤ j))) ta tb) σ H (.bl (decide (a ≤ b))) := ev_is (ev_and2 ha hb) (congrArg V.bl (by simp only [Int.ofNat_le]))
theorem ev_gtN {a b : Nat} (ha : Ev ta σ H (nI a)) (hb : Ev tb σ H (nI b)) : Ev (tOp (rI0 fun i j => .bl (decide (j < i))) ta tb) σ H (.bl (decide (b < a))) := ev_is (ev_and2 ha hb) (congrArg V.bl (by simp only [Int.ofNat_lt]))
theorem ev_geN {a b : Nat} (ha : Ev ta σ H (nI a)) (hb : Ev tb σ H (nI b)) : Ev (tOp (rI0 fun i j => .bl (decide (j ≤ i))) ta tb) σ H (.bl (decide (b ≤ a))) := ev_is (ev_and2 ha hb) (congrArg V.bl (by simp only [Int.ofNat_le]))
end
/-! ### objects -/
def RuleAt (CR : Addr) (H : Hp) (a : Addr) (r : Kp371.Deed) : Prop := ∃ dx, H a = some (.ins CR dx (rF (nI r.needs) (nI r.so) (nI r.makes) (nI r.thus)))
def AimAt (CA : Addr) (H : Hp) (a : Addr) (m w : Nat) : Prop := ∃ dx, H a = some (.ins CA dx (aF (nI m) (nI w)))
theorem RuleAt.ex {CR : Addr} {H H' : Hp} {a : Addr} {r : Kp371.Deed} (s : Ex H H') (h : RuleAt CR H a r) : RuleAt CR H' a r := by
  obtain ⟨dx, h⟩ := h
  exact ⟨dx, s _ _ h⟩
theorem AimAt.ex {CA : Addr} {H H' : Hp} {a : Addr} {m w : Nat} (s : Ex H H') (h : AimAt CA H a m w) : AimAt CA H' a m w := by
  obtain ⟨dx, h⟩ := h
  exact ⟨dx, s _ _ h⟩
section
variable {P : Program} {w : World} {K : PySem.W.Frag} {mg : Str → Option Value} {base : Heap} {CR CA CE CW : Addr}
/-! ### rule.py -/
def spWithin : Sp := fun vs H Q _ => ∃ p w : Nat, vs = [nI p, nI w] ∧ RetV (.bl (decide (p &&& w = p))) H Q
theorem within_v {H : Hp} {p w : Nat} : SpV spWithin [nI p, nI w] H (.bl (decide (p &&& w = p))) := fun H1 e Q q E => ⟨p, w, rfl, q⟩
theorem ok_within (T : Top K mg CR CA CE CW) : GOk P w K mg base 1 "within" ["part", "whole"] spWithin := by
  refine T.dWithin.ok scWithin (fun vs H Q E h => ?_) (fun _ _ _ _ _ _ us hl => match us, hl with | [_, _], _ => rfl) (fun f cdv A outer s H vs Q E hr h => ?_)
  · obtain ⟨p, w, rfl, _⟩ := h
    rfl
  · obtain ⟨p, w, rfl, k⟩ := h
    refine ⟨_, pss_one (ps_ret (pe_cmpR op_eq (pe_op op_and (pv 0) (pv 1)) (pv 0) (nomark _))), ?_⟩
    exact s_ret (ev_eqN (ev_bAnd (ev_var rfl) (ev_var rfl)) (ev_var rfl)) k
def isRuleB (ev a b c d : Nat) : Bool := (decide (a &&& ev = a) && decide (b &&& a = b)) && ((decide (c &&& ev = c) && decide (d &&& c = d)) && !decide (c = 0))
def spIsRule : Sp := fun vs H Q _ => ∃ ev a b c d : Nat, vs = [nI ev, nI a, nI b, nI c, nI d] ∧ RetV (.bl (isRuleB ev a b c d)) H Q
theorem is_rule_v {H : Hp} {ev a b c d : Nat} : SpV spIsRule [nI ev, nI a, nI b, nI c, nI d] H (.bl (isRuleB ev a b c d)) := fun H1 e Q q E => ⟨ev, a, b, c, d, rfl, q⟩
theorem ok_is_rule (T : Top K mg CR CA CE CW) : GOk P w K mg base 2 "is_rule" ["everything", "needs", "needs_so", "makes", "makes_so"] spIsRule := by
  refine T.dIsRule.ok scIsRule (fun vs H Q E h => ?_) (fun _ _ _ _ _ _ us hl => match us, hl with | [_, _, _, _, _], _ => rfl) (fun f cdv A outer s H vs Q E hr h => ?_)
  · obtain ⟨ev, a, b, c, d, rfl, _⟩ := h
    rfl
  · obtain ⟨ev, a, b, c, d, rfl, k⟩ := h
    have W := ok_within (P := P) (w := w) (base := base) T
    refine ⟨_, pss_cons (ps_set (i := 5) scIsRule.nd rfl (Or.inl rfl) (pe_and (pe_g W hr (pa_cons (pv 1) (pa_cons (pv 0) pa_nil))) (pe_one (pe_g W hr (pa_cons (pv 2) (pa_cons (pv 1) pa_nil))))))
      (pss_cons (ps_set (i := 6) scIsRule.nd rfl (Or.inl rfl) (pe_and (pe_g W hr (pa_cons (pv 3) (pa_cons (pv 0) pa_nil))) (pe_one (pe_g W hr (pa_cons (pv 4) (pa_cons (pv 3) pa_nil))))))
      (pss_one (ps_ret (pe_and (pv 5) (pe_and (pv 6) (pe_one (pe_cmpR op_ne (pv 3) pe_int (nomark _)))))))), ?_⟩
    refine q_asg (ev_andV (evc (ea_cons (ev_var rfl) (ea_cons (ev_var rfl) ea_nil)) within_v) fun _ => evc (ea_cons (ev_var rfl) (ea_cons (ev_var rfl) ea_nil)) within_v) fun H1 e1 => ?_
    refine q_asg (ev_andV (evc (ea_cons (ev_var rfl) (ea_cons (ev_var rfl) ea_nil)) within_v) fun _ => evc (ea_cons (ev_var rfl) (ea_cons (ev_var rfl) ea_nil)) within_v) fun H2 e2 => ?_
    exact s_ret (ev_andV (ev_var rfl) fun _ => ev_andV (ev_var rfl) fun _ => ev_neN (ev_var rfl) ev_c) fun H3 e3 => k H3 ((e1.trans e2).trans e3)
end
end LC

namespace LC
open PySem PySem.Spec PyProof.Rows L2 Evl
/-! ### new objects -/
/-- what __init__ leaves besides its own object -/
abbrev Kept1 (H : Hp) (p : Addr) (H' : Hp) : Prop := ∀ b o, H b = some o → b ≠ p → H' b = some o
theorem ep_make {σ : L2.St} {H : Hp} {t : TA} {C : Addr} {vs : List V} {sp : Sp} {E : XK} {R : V → Hp → Prop} (hv : EvA t σ H vs)
    (hs : ∀ (H1 : Hp) (x dx : Addr) (Q' : VK), Ex H H1 → H1 x = some (.ins C dx []) → (∀ H2, R (.ref x) H2 → Kept1 H1 x H2 → Q' .non H2) → sp (.ref x :: vs) H1 Q' E) : EvP (tMake C sp [] E t) σ H R := fun H1 e Q q =>
  hv H1 e _ fun H2 e2 x dx nx nd ne => by
    rw [List.append_nil]
    have e3 : Ex H2 (upd (upd H2 dx (.own x)) x (.ins C dx [])) := fun b o h => by
      rw [upd_ne (ne_of_none h nx), upd_ne (ne_of_none h nd)]
      exact h
    refine hs _ x dx _ ((e.trans e2).trans e3) upd_same fun H3 r kp => ⟨rfl, q _ H3 (e2.trans fun b o h => ?_) r⟩
    exact kp b o (e3 b o h) (ne_of_none h nx)
def EndAt (CE : Addr) (H : Hp) (v : V) (c : Nat) (r : List Nat) : Prop := ∃ a dx l, v = .ref a ∧ H a = some (.ins CE dx (eF (nI c) (.ref l))) ∧ H l = some (.lst (lI r))
theorem EndAt.ex {CE : Addr} {H H' : Hp} {v : V} {c : Nat} {r : List Nat} (s : Ex H H') (h : EndAt CE H v c r) : EndAt CE H' v c r := by
  obtain ⟨a, dx, l, e, h1, h2⟩ := h
  exact ⟨a, dx, l, e, s _ _ h1, s _ _ h2⟩
section
variable {P : Program} {w : World} {K : PySem.W.Frag} {mg : Str → Option Value} {base : Heap} {CR CA CE CW : Addr}
def spRuleInit (CR : Addr) : Sp := fun vs H Q _ => ∃ (p dx : Addr) (a b c d : Nat), vs = [.ref p, nI a, nI b, nI c, nI d] ∧ H p = some (.ins CR dx []) ∧ ∀ H', RuleAt CR H' p ⟨a, b, c, d⟩ → Kept1 H p H' → Q .non H'
theorem ok_rule_init (T : Top K mg CR CA CE CW) : COk P w K mg base 1 "Rule" CR ["self", "needs", "needs_so", "makes", "makes_so"] (spRuleInit CR) := by
  refine T.dRuleInit.ok T.kRule scRuleInit (fun vs H Q E h => ?_) (fun _ _ _ _ _ _ us hl => match us, hl with | [_, _, _, _, _], _ => rfl) (fun f cdv A outer s H vs Q E hr h => ?_)
  · obtain ⟨p, dx, a, b, c, d, rfl, _⟩ := h
    rfl
  · obtain ⟨p, dx, a, b, c, d, rfl, hp, k⟩ := h
    refine ⟨_, pss_cons (ps_fld (pv 0) (pv 1) rfl) (pss_cons (ps_fld (pv 0) (pv 2) rfl) (pss_cons (ps_fld (pv 0) (pv 3) rfl) (pss_one (ps_fld (pv 0) (pv 4) rfl)))), ?_⟩
    refine ⟨_, rfl, _, rfl, p, CR, dx, [], rfl, hp, T.cRule, T.nRule_needs, (by show 0 < 1000; decide), ?_⟩
    refine ⟨_, rfl, _, rfl, p, CR, dx, _, rfl, upd_same, T.cRule, T.nRule_needs_so, (by show 1 < 1000; decide), ?_⟩
    rw [rN_needs, rN_needs_so]
    refine ⟨_, rfl, _, rfl, p, CR, dx, _, rfl, upd_same, T.cRule, T.nRule_makes, (by show 2 < 1000; decide), ?_⟩
    rw [rN_makes]
    refine ⟨_, rfl, _, rfl, p, CR, dx, _, rfl, upd_same, T.cRule, T.nRule_makes_so, (by show 3 < 1000; decide), ?_⟩
    rw [rN_makes_so]
    exact k _ ⟨dx, upd_same⟩ fun b o e hb => by
      rw [upd_ne hb, upd_ne hb, upd_ne hb, upd_ne hb]
      exact e
theorem rule_new {H : Hp} {σ : L2.St} {t : TA} {a b c d : Nat} (h : EvA t σ H [nI a, nI b, nI c, nI d]) : EvP (tMake CR (spRuleInit CR) [] E0 t) σ H (fun v H' => ∃ p, v = .ref p ∧ RuleAt CR H' p ⟨a, b, c, d⟩) :=
  ep_make h fun H1 x dx Q' e hx k => ⟨x, dx, a, b, c, d, rfl, hx, fun H2 r kp => k H2 ⟨x, rfl, r⟩ kp⟩
def spCan (CR : Addr) : Sp := fun vs H Q _ => ∃ (a : Addr) (r : Kp371.Deed) (s : Nat), vs = [.ref a, nI s] ∧ RuleAt CR H a r ∧ RetV (.bl (Kp371.able s r)) H Q
theorem can_v {H : Hp} {a : Addr} {r : Kp371.Deed} {s : Nat} (h : RuleAt CR H a r) : SpV (spCan CR) [.ref a, nI s] H (.bl (Kp371.able s r)) := fun H1 e Q q E => ⟨a, r, s, rfl, h.ex e, q⟩
theorem ok_can (T : Top K mg CR CA CE CW) : MOk P w K mg base 1 CR "can_happen" ["self", "state"] (spCan CR) := by
  refine T.dRuleCanHappen.ok T.cRule scRuleCanHappen (fun vs H Q E h => ?_) (fun _ _ _ _ _ _ us hl => match us, hl with | [_, _], _ => rfl) (fun f cdv A outer s H vs Q E hr h => ?_)
  · obtain ⟨a, r, s, rfl, _⟩ := h
    rfl
  · obtain ⟨a, r, s, rfl, ⟨dx, hd⟩, k⟩ := h
    refine ⟨_, pss_one (ps_ret (pe_cmpR op_eq (pe_op op_and (pv 1) (pe_fld (pv 0) rfl)) (pe_fld (pv 0) rfl) (nomark _))), ?_⟩
    exact s_ret (ev_eqN (ev_bAnd (ev_var rfl) (ev_fld (ev_var rfl) hd T.cRule T.nRule_needs rF_needs)) (ev_fld (ev_var rfl) hd T.cRule T.nRule_needs_so rF_needs_so)) k
def spHappen (CR : Addr) : Sp := fun vs H Q _ => ∃ (a : Addr) (r : Kp371.Deed) (s : Nat), vs = [.ref a, nI s] ∧ RuleAt CR H a r ∧ RetV (nI (Kp371.done_ s r)) H Q
theorem happen_v {H : Hp} {a : Addr} {r : Kp371.Deed} {s : Nat} (h : RuleAt CR H a r) : SpV (spHappen CR) [.ref a, nI s] H (nI (Kp371.done_ s r)) := fun H1 e Q q E => ⟨a, r, s, rfl, h.ex e, q⟩
theorem ok_happen (T : Top K mg CR CA CE CW) : MOk P w K mg base 1 CR "happen" ["self", "state"] (spHappen CR) := by
  refine T.dRuleHappen.ok T.cRule scRuleHappen (fun vs H Q E h => ?_) (fun _ _ _ _ _ _ us hl => match us, hl with | [_, _], _ => rfl) (fun f cdv A outer s H vs Q E hr h => ?_)
  · obtain ⟨a, r, s, rfl, _⟩ := h
    rfl
  · obtain ⟨a, r, s, rfl, ⟨dx, hd⟩, k⟩ := h
    refine ⟨_, pss_one (ps_ret (pe_op op_or (pe_op op_sub (pv 1) (pe_op op_and (pv 1) (pe_fld (pv 0) rfl))) (pe_fld (pv 0) rfl))), ?_⟩
    exact s_ret (ev_bOr (ev_subN (ev_var rfl) (ev_bAnd (ev_var rfl) (ev_fld (ev_var rfl) hd T.cRule T.nRule_makes rF_makes)) Nat.and_le_left) (ev_fld (ev_var rfl) hd T.cRule T.nRule_makes_so rF_makes_so)) k
/-! ### aim.py -/
def isAimB (ev a w : Nat) : Bool := decide (a &&& ev = a) && decide (w &&& a = w)
def spIsAim : Sp := fun vs H Q _ => ∃ ev a w : Nat, vs = [nI ev, nI a, nI w] ∧ RetV (.bl (isAimB ev a w)) H Q
theorem is_aim_v {H : Hp} {ev a w : Nat} : SpV spIsAim [nI ev, nI a, nI w] H (.bl (isAimB ev a w)) := fun H1 e Q q E => ⟨ev, a, w, rfl, q⟩
theorem ok_is_aim (T : Top K mg CR CA CE CW) : GOk P w K mg base 2 "is_aim" ["everything", "facts", "wanted"] spIsAim := by
  refine T.dIsAim.ok scIsAim (fun vs H Q E h => ?_) (fun _ _ _ _ _ _ us hl => match us, hl with | [_, _, _], _ => rfl) (fun f cdv A outer s H vs Q E hr h => ?_)
  · obtain ⟨ev, a, b, rfl, _⟩ := h
    rfl
  · obtain ⟨ev, a, b, rfl, k⟩ := h
    have W := ok_within (P := P) (w := w) (base := base) T
    refine ⟨_, pss_one (ps_ret (pe_and (pe_g W hr (pa_cons (pv 1) (pa_cons (pv 0) pa_nil))) (pe_one (pe_g W hr (pa_cons (pv 2) (pa_cons (pv 1) pa_nil)))))), ?_⟩
    exact s_ret (ev_andV (evc (ea_cons (ev_var rfl) (ea_cons (ev_var rfl) ea_nil)) within_v) fun _ => evc (ea_cons (ev_var rfl) (ea_cons (ev_var rfl) ea_nil)) within_v) k
def spAimInit (CA : Addr) : Sp := fun vs H Q _ => ∃ (p dx : Addr) (a b : Nat), vs = [.ref p, nI a, nI b] ∧ H p = some (.ins CA dx []) ∧ ∀ H', AimAt CA H' p a b → Kept1 H p H' → Q .non H'
theorem ok_aim_init (T : Top K mg CR CA CE CW) : COk P w K mg base 1 "Aim" CA ["self", "facts", "wanted"] (spAimInit CA) := by
  refine T.dAimInit.ok T.kAim scAimInit (fun vs H Q E h => ?_) (fun _ _ _ _ _ _ us hl => match us, hl with | [_, _, _], _ => rfl) (fun f cdv A outer s H vs Q E hr h => ?_)
  · obtain ⟨p, dx, a, b, rfl, _⟩ := h
    rfl
  · obtain ⟨p, dx, a, b, rfl, hp, k⟩ := h
    refine ⟨_, pss_cons (ps_fld (pv 0) (pv 1) rfl) (pss_one (ps_fld (pv 0) (pv 2) rfl)), ?_⟩
    refine ⟨_, rfl, _, rfl, p, CA, dx, [], rfl, hp, T.cAim, T.nAim_facts, (by show 0 < 1000; decide), ?_⟩
    refine ⟨_, rfl, _, rfl, p, CA, dx, _, rfl, upd_same, T.cAim, T.nAim_wanted, (by show 1 < 1000; decide), ?_⟩
    rw [aN_facts, aN_wanted]
    exact k _ ⟨dx, upd_same⟩ fun b o e hb => by
      rw [upd_ne hb, upd_ne hb]
      exact e
theorem aim_new {H : Hp} {σ : L2.St} {t : TA} {a b : Nat} (h : EvA t σ H [nI a, nI b]) : EvP (tMake CA (spAimInit CA) [] E0 t) σ H (fun v H' => ∃ p, v = .ref p ∧ AimAt CA H' p a b) :=
  ep_make h fun H1 x dx Q' e hx k => ⟨x, dx, a, b, rfl, hx, fun H2 r kp => k H2 ⟨x, rfl, r⟩ kp⟩
def spIsMet (CA : Addr) : Sp := fun vs H Q _ => ∃ (a : Addr) (m u s : Nat), vs = [.ref a, nI s] ∧ AimAt CA H a m u ∧ RetV (.bl (Kp371.isAim m u s)) H Q
theorem is_met_v {H : Hp} {a : Addr} {m u s : Nat} (h : AimAt CA H a m u) : SpV (spIsMet CA) [.ref a, nI s] H (.bl (Kp371.isAim m u s)) := fun H1 e Q q E => ⟨a, m, u, s, rfl, h.ex e, q⟩
theorem ok_is_met (T : Top K mg CR CA CE CW) : MOk P w K mg base 1 CA "is_met" ["self", "state"] (spIsMet CA) := by
  refine T.dAimIsMet.ok T.cAim scAimIsMet (fun vs H Q E h => ?_) (fun _ _ _ _ _ _ us hl => match us, hl with | [_, _], _ => rfl) (fun f cdv A outer s H vs Q E hr h => ?_)
  · obtain ⟨a, m, u, s, rfl, _⟩ := h
    rfl
  · obtain ⟨a, m, u, s, rfl, ⟨dx, hd⟩, k⟩ := h
    refine ⟨_, pss_one (ps_ret (pe_cmpR op_eq (pe_op op_and (pv 1) (pe_fld (pv 0) rfl)) (pe_fld (pv 0) rfl) (nomark _))), ?_⟩
    exact s_ret (ev_eqN (ev_bAnd (ev_var rfl) (ev_fld (ev_var rfl) hd T.cAim T.nAim_facts aF_facts)) (ev_fld (ev_var rfl) hd T.cAim T.nAim_wanted aF_wanted)) k
def besidesN (m f : Nat) : Nat := f - (f &&& m)
def spBesides (CA : Addr) : Sp := fun vs H Q _ => ∃ (a : Addr) (m u f : Nat), vs = [.ref a, nI f] ∧ AimAt CA H a m u ∧ RetV (nI (besidesN m f)) H Q
theorem besides_v {H : Hp} {a : Addr} {m u f : Nat} (h : AimAt CA H a m u) : SpV (spBesides CA) [.ref a, nI f] H (nI (besidesN m f)) := fun H1 e Q q E => ⟨a, m, u, f, rfl, h.ex e, q⟩
theorem ok_besides (T : Top K mg CR CA CE CW) : MOk P w K mg base 1 CA "besides" ["self", "facts"] (spBesides CA) := by
  refine T.dAimBesides.ok T.cAim scAimBesides (fun vs H Q E h => ?_) (fun _ _ _ _ _ _ us hl => match us, hl with | [_, _], _ => rfl) (fun f cdv A outer s H vs Q E hr h => ?_)
  · obtain ⟨a, m, u, s, rfl, _⟩ := h
    rfl
  · obtain ⟨a, m, u, s, rfl, ⟨dx, hd⟩, k⟩ := h
    refine ⟨_, pss_one (ps_ret (pe_op op_sub (pv 1) (pe_op op_and (pv 1) (pe_fld (pv 0) rfl)))), ?_⟩
    exact s_ret (ev_subN (ev_var rfl) (ev_bAnd (ev_var rfl) (ev_fld (ev_var rfl) hd T.cAim T.nAim_facts aF_facts)) Nat.and_le_left) k
/-! ### search.py: Ending -/
def spEndInit (CE : Addr) : Sp := fun vs H Q _ => ∃ (p dx l : Addr) (c : Nat) (r : List Nat), vs = [.ref p, nI c, .ref l] ∧ H p = some (.ins CE dx []) ∧ H l = some (.lst (lI r)) ∧ ∀ H', EndAt CE H' (.ref p) c r → Kept1 H p H' → Q .non H'
theorem ok_end_init (T : Top K mg CR CA CE CW) : COk P w K mg base 1 "Ending" CE ["self", "changed", "row"] (spEndInit CE) := by
  refine T.dEndingInit.ok T.kEnding scEndingInit (fun vs H Q E h => ?_) (fun _ _ _ _ _ _ us hl => match us, hl with | [_, _, _], _ => rfl) (fun f cdv A outer s H vs Q E hr h => ?_)
  · obtain ⟨p, dx, l, c, r, rfl, _⟩ := h
    rfl
  · obtain ⟨p, dx, l, c, r, rfl, hp, hl, k⟩ := h
    refine ⟨_, pss_cons (ps_fld (pv 0) (pv 1) rfl) (pss_one (ps_fld (pv 0) (pv 2) rfl)), ?_⟩
    refine ⟨_, rfl, _, rfl, p, CE, dx, [], rfl, hp, T.cEnding, T.nEnding_changed, (by show 0 < 1000; decide), ?_⟩
    refine ⟨_, rfl, _, rfl, p, CE, dx, _, rfl, upd_same, T.cEnding, T.nEnding_row, (by show 1 < 1000; decide), ?_⟩
    rw [eN_changed, eN_row]
    have nlp : l ≠ p := ne_of hl hp (by intro q; cases q)
    exact k _ ⟨p, dx, l, rfl, upd_same, by rw [upd_ne nlp, upd_ne nlp]; exact hl⟩ fun b o e hb => by
      rw [upd_ne hb, upd_ne hb]
      exact e
theorem end_new {H : Hp} {σ : L2.St} {t : TA} {l : Addr} {c : Nat} {r : List Nat} (h : EvA t σ H [nI c, .ref l]) (hl : H l = some (.lst (lI r))) : EvP (tMake CE (spEndInit CE) [] E0 t) σ H (fun v H' => EndAt CE H' v c r) :=
  ep_make h fun H1 x dx Q' e hx k => ⟨x, dx, l, c, r, rfl, hx, e l _ hl, k⟩
end
end LC

namespace LC
open PySem PySem.Spec PyProof.Rows L2 Evl
/-! ### the world in the heap -/
def Rules (CR : Addr) (H : Hp) (as : List Addr) (rs : List Kp371.Deed) : Prop := as.length = rs.length ∧ ∀ (i : Nat) (a : Addr) (r : Kp371.Deed), as[i]? = some a → rs[i]? = some r → RuleAt CR H a r
structure WA (CR CW : Addr) (H : Hp) (a dx ld le lw : Addr) (ads aes : List Addr) (d : Kp372.Desk) : Prop where
  ins : H a = some (.ins CW dx (wF (nI d.world.m) (nI d.world.now) (.ref ld) (.ref le) (.ref lw)))
  hld : H ld = some (.lst (ads.map V.ref))
  rd : Rules CR H ads d.world.deeds
  hle : H le = some (.lst (aes.map V.ref))
  re : Rules CR H aes d.world.events
  hlw : H lw = some (.lst (lI d.weights))
  n1 : ld ≠ le
  n2 : ld ≠ lw
  n3 : le ≠ lw
def WR (CR CW : Addr) (H : Hp) (a : Addr) (d : Kp372.Desk) : Prop := ∃ dx ld le lw ads aes, WA CR CW H a dx ld le lw ads aes d
theorem Rules.ex {CR : Addr} {H H' : Hp} {as : List Addr} {rs : List Kp371.Deed} (s : Ex H H') (h : Rules CR H as rs) : Rules CR H' as rs := ⟨h.1, fun i a r h1 h2 => (h.2 i a r h1 h2).ex s⟩
theorem WA.ex {CR CW : Addr} {H H' : Hp} {a dx ld le lw : Addr} {ads aes : List Addr} {d : Kp372.Desk} (s : Ex H H') (h : WA CR CW H a dx ld le lw ads aes d) : WA CR CW H' a dx ld le lw ads aes d :=
  ⟨s _ _ h.ins, s _ _ h.hld, h.rd.ex s, s _ _ h.hle, h.re.ex s, s _ _ h.hlw, h.n1, h.n2, h.n3⟩
theorem WR.ex {CR CW : Addr} {H H' : Hp} {a : Addr} {d : Kp372.Desk} (s : Ex H H') (h : WR CR CW H a d) : WR CR CW H' a d := by
  obtain ⟨dx, ld, le, lw, ads, aes, h⟩ := h
  exact ⟨dx, ld, le, lw, ads, aes, h.ex s⟩
section
variable {K : PySem.W.Frag} {σ : L2.St} {H : Hp} {ta : TE}
theorem ev_sumN {ns : List Int} (ha : EvL ta σ H (ns.map V.int)) : Ev (tCB (rSum K) (tCons ta tNil)) σ H (.int ns.sum) := fun H1 e Q q =>
  ha H1 e _ fun p H2 _ e2 h2 => ⟨p, ns, rfl, sq_of h2, q H2 e2⟩
theorem ev_allN {bs : List Bool} (ha : EvL ta σ H (bs.map V.bl)) : Ev (tCB (rAll K) (tCons ta tNil)) σ H (.bl (bs.all id)) := fun H1 e Q q =>
  ha H1 e _ fun p H2 _ e2 h2 => ⟨p, bs, rfl, sq_of h2, q H2 e2⟩
theorem el_is {xs ys : List V} {te : TE} (h : EvL te σ H xs) (e : xs = ys) : EvL te σ H ys := e ▸ h
end
section
variable {P : Program} {w : World} {K : PySem.W.Frag} {mg : Str → Option Value} {base : Heap} {CR CA CE CW : Addr}
/-! ### world.py: what is asked -/
def spBegun (CR CW : Addr) : Sp := fun vs H Q _ => ∃ (a : Addr) (d : Kp372.Desk), vs = [.ref a] ∧ WR CR CW H a d ∧ RetV (.bl (decide (0 < d.world.m))) H Q
theorem begun_v {H : Hp} {a : Addr} {d : Kp372.Desk} (h : WR CR CW H a d) : SpV (spBegun CR CW) [.ref a] H (.bl (decide (0 < d.world.m))) := fun H1 e Q q E => ⟨a, d, rfl, h.ex e, q⟩
theorem ok_begun (T : Top K mg CR CA CE CW) : MOk P w K mg base 1 CW "has_begun" ["self"] (spBegun CR CW) := by
  refine T.dWorldHasBegun.ok T.cWorld scWorldHasBegun (fun vs H Q E h => ?_) (fun _ _ _ _ _ _ us hl => match us, hl with | [_], _ => rfl) (fun f cdv A outer s H vs Q E hr h => ?_)
  · obtain ⟨a, d, rfl, _⟩ := h
    rfl
  · obtain ⟨a, d, rfl, ⟨dx, ld, le, lw, ads, aes, W⟩, k⟩ := h
    refine ⟨_, pss_one (ps_ret (pe_cmpR op_gt (pe_fld (pv 0) rfl) pe_int (nomark _))), ?_⟩
    exact s_ret (ev_gtN (ev_fld (ev_var rfl) W.ins T.cWorld T.nWorld_many wF_many) (b := 0) ev_c) k
def spEvery (CR CW : Addr) : Sp := fun vs H Q _ => ∃ (a : Addr) (d : Kp372.Desk), vs = [.ref a] ∧ WR CR CW H a d ∧ d.world.m ≤ 5 ∧ RetV (nI (2 ^ d.world.m - 1)) H Q
theorem every_v {H : Hp} {a : Addr} {d : Kp372.Desk} (h : WR CR CW H a d) (h5 : d.world.m ≤ 5) : SpV (spEvery CR CW) [.ref a] H (nI (2 ^ d.world.m - 1)) := fun H1 e Q q E => ⟨a, d, rfl, h.ex e, h5, q⟩
theorem shl_is (m : Nat) : ((1 : Int) * 2 ^ ((m : Int).toNat)) = ((2 ^ m : Nat) : Int) := by
  rw [Int.toNat_natCast, Int.one_mul, Int.natCast_pow]
  rfl
theorem ok_every (T : Top K mg CR CA CE CW) : MOk P w K mg base 1 CW "everything" ["self"] (spEvery CR CW) := by
  refine T.dWorldEverything.ok T.cWorld scWorldEverything (fun vs H Q E h => ?_) (fun _ _ _ _ _ _ us hl => match us, hl with | [_], _ => rfl) (fun f cdv A outer s H vs Q E hr h => ?_)
  · obtain ⟨a, d, rfl, _⟩ := h
    rfl
  · obtain ⟨a, d, rfl, ⟨dx, ld, le, lw, ads, aes, W⟩, h5, k⟩ := h
    refine ⟨_, pss_one (ps_ret (pe_op op_sub (pe_op op_shl pe_int (pe_fld (pv 0) rfl)) pe_int)), ?_⟩
    refine s_ret (ev_subN (a := 2 ^ d.world.m) (b := 1) (ev_is (ev_op (x := .int 1) ev_c (ev_fld (ev_var rfl) W.ins T.cWorld T.nWorld_many wF_many) (rv_I ⟨by omega, by omega, by decide⟩)) ?_) ev_c (Nat.one_le_two_pow)) k
    exact congrArg V.int (shl_is d.world.m)
def spWaiting (CR CW : Addr) : Sp := fun vs H Q _ => ∃ (a : Addr) (d : Kp372.Desk), vs = [.ref a] ∧ WR CR CW H a d ∧ RetV (nI d.world.deeds.length) H Q
theorem waiting_v {H : Hp} {a : Addr} {d : Kp372.Desk} (h : WR CR CW H a d) : SpV (spWaiting CR CW) [.ref a] H (nI d.world.deeds.length) := fun H1 e Q q E => ⟨a, d, rfl, h.ex e, q⟩
theorem ok_waiting (T : Top K mg CR CA CE CW) : MOk P w K mg base 1 CW "waiting" ["self"] (spWaiting CR CW) := by
  refine T.dWorldWaiting.ok T.cWorld scWorldWaiting (fun vs H Q E h => ?_) (fun _ _ _ _ _ _ us hl => match us, hl with | [_], _ => rfl) (fun f cdv A outer s H vs Q E hr h => ?_)
  · obtain ⟨a, d, rfl, _⟩ := h
    rfl
  · obtain ⟨a, d, rfl, ⟨dx, ld, le, lw, ads, aes, W⟩, k⟩ := h
    refine ⟨_, pss_one (ps_ret (pe_callB call_len_seq (by rfl) T.b_len PySem.boot_len (pa_cons (pe_fld (pv 0) rfl) pa_nil))), ?_⟩
    refine s_ret (ev_is (ev_len (K := K) (ev_fld (ev_var rfl) W.ins T.cWorld T.nWorld_deeds wF_deeds) (sq_of W.hld)) ?_) k
    rw [List.length_map, W.rd.1]
def spIsChoice (CR CW : Addr) : Sp := fun vs H Q _ => ∃ (a : Addr) (d : Kp372.Desk) (i : Nat), vs = [.ref a, nI i] ∧ WR CR CW H a d ∧ RetV (.bl (decide (i ≤ d.world.deeds.length))) H Q
theorem is_choice_v {H : Hp} {a : Addr} {d : Kp372.Desk} {i : Nat} (h : WR CR CW H a d) : SpV (spIsChoice CR CW) [.ref a, nI i] H (.bl (decide (i ≤ d.world.deeds.length))) := fun H1 e Q q E => ⟨a, d, i, rfl, h.ex e, q⟩
theorem ok_is_choice (T : Top K mg CR CA CE CW) : MOk P w K mg base 2 CW "is_choice" ["self", "choice"] (spIsChoice CR CW) := by
  refine T.dWorldIsChoice.ok T.cWorld scWorldIsChoice (fun vs H Q E h => ?_) (fun _ _ _ _ _ _ us hl => match us, hl with | [_, _], _ => rfl) (fun f cdv A outer s H vs Q E hr h => ?_)
  · obtain ⟨a, d, i, rfl, _⟩ := h
    rfl
  · obtain ⟨a, d, i, rfl, W', k⟩ := h
    obtain ⟨dx, ld, le, lw, ads, aes, W⟩ := W'
    refine ⟨_, pss_one (ps_ret (pe_cmpR op_le (pv 1) (pe_m0 (ok_waiting T) hr (pv 0)) (nomark _))), ?_⟩
    exact s_ret (ev_leN (ev_var rfl) (ev_meth (ev_var rfl) W.ins wF_waiting ea_nil (waiting_v ⟨dx, ld, le, lw, ads, aes, W⟩))) k
def spEvents (CR CW : Addr) : Sp := fun vs H Q _ => ∃ (a : Addr) (d : Kp372.Desk) (s : Nat), vs = [.ref a, nI s] ∧ WR CR CW H a d ∧ RetV (nI (Kp371.happen d.world s)) H Q
theorem events_v {H : Hp} {a : Addr} {d : Kp372.Desk} {s : Nat} (h : WR CR CW H a d) : SpV (spEvents CR CW) [.ref a, nI s] H (nI (Kp371.happen d.world s)) := fun H1 e Q q E => ⟨a, d, s, rfl, h.ex e, q⟩
def evStep (s : Nat) (e : Kp371.Deed) : Nat := if Kp371.able s e then Kp371.done_ s e else s
theorem take_snoc {α : Type} {l : List α} {i : Nat} {x : α} (h : l[i]? = some x) : l.take (i + 1) = l.take i ++ [x] := by
  rw [List.take_succ, h]
  rfl
theorem map_ref {as : List Addr} {i : Nat} {x : V} (h : (as.map V.ref)[i]? = some x) : ∃ c, as[i]? = some c ∧ x = .ref c := by
  rw [List.getElem?_map] at h
  cases e : as[i]? with
  | none =>
    rw [e] at h
    cases h
  | some c =>
    rw [e] at h
    exact ⟨c, rfl, (Option.some.inj h).symm⟩
theorem map_nI {as : List Nat} {i : Nat} {x : V} (h : (lI as)[i]? = some x) : ∃ c, as[i]? = some c ∧ x = nI c := by
  rw [List.getElem?_map] at h
  cases e : as[i]? with
  | none =>
    rw [e] at h
    cases h
  | some c =>
    rw [e] at h
    exact ⟨c, rfl, (Option.some.inj h).symm⟩
theorem Rules.get {H : Hp} {as : List Addr} {rs : List Kp371.Deed} (h : Rules CR H as rs) {i : Nat} {c : Addr} (hc : as[i]? = some c) : ∃ r, rs[i]? = some r ∧ RuleAt CR H c r := by
  have hi := (List.getElem?_eq_some_iff.mp hc).1
  rw [h.1] at hi
  exact ⟨rs[i], List.getElem?_eq_getElem hi, h.2 i c _ hc (List.getElem?_eq_getElem hi)⟩
theorem ok_events (T : Top K mg CR CA CE CW) : MOk P w K mg base 2 CW "behind_events" ["self", "state"] (spEvents CR CW) := by
  refine T.dWorldBehindEvents.ok T.cWorld scWorldBehindEvents (fun vs H Q E h => ?_) (fun _ _ _ _ _ _ us hl => match us, hl with | [_, _], _ => rfl) (fun f cdv A outer s H vs Q E hr h => ?_)
  · obtain ⟨a, d, s, rfl, _⟩ := h
    rfl
  · obtain ⟨a, d, s, rfl, ⟨dx, ld, le, lw, ads, aes, W⟩, k⟩ := h
    refine ⟨_, pss_cons (ps_for PassesOwn.never rfl (pi_list (pe_fld (pv 0) rfl)) (pg_name (i := 2) scWorldBehindEvents.nd rfl (Or.inl rfl))
        (pss_one (ps_if (pt_val (pe_m (ok_can T) hr (pv 2) (pa_cons (pv 1) pa_nil))) (pss_one (ps_set (i := 1) scWorldBehindEvents.nd rfl (Or.inl rfl) (pe_m (ok_happen T) hr (pv 2) (pa_cons (pv 1) pa_nil)))) pss_nil)))
      (pss_one (ps_ret (pv 1))), ?_⟩
    refine q_forLn (K := K) (ev_fld (ev_var rfl) W.ins T.cWorld T.nWorld_events wF_events) (sq_of W.hle)
      (fun i σ H' => ∃ v, σ = [some (.ref a), some (nI ((d.world.events.take i).foldl evStep s)), v] ∧ Ex H H') (fun H1 e => ⟨none, rfl, e⟩) (fun i σ H' _ ⟨_, _, e⟩ => sq_of (e _ _ W.hle)) ?_ ?_
    · rintro i x σ H' hi ⟨v, rfl, e⟩
      obtain ⟨c, hc, rfl⟩ := map_ref hi
      obtain ⟨r, hr', hR⟩ := W.re.get hc
      have hR' := hR.ex e
      obtain ⟨dc, hdc⟩ := hR'
      rw [take_snoc hr', List.foldl_append]
      refine s_if (et_B (ev_meth (ev_var rfl) hdc rF_can_happen (ea_cons (ev_var rfl) ea_nil) (can_v ⟨dc, hdc⟩))) (fun hb H1 e1 => ?_) (fun hb H1 e1 => ?_)
      · refine s_asg (ev_meth (ev_var rfl) (e1 _ _ hdc) rF_happen (ea_cons (ev_var rfl) ea_nil) (happen_v ⟨dc, e1 _ _ hdc⟩)) fun H2 e2 => ⟨some (.ref c), ?_, (e.trans e1).trans e2⟩
        have q : [r].foldl evStep ((d.world.events.take i).foldl evStep s) = Kp371.done_ ((d.world.events.take i).foldl evStep s) r := by
          exact if_pos hb
        rw [q]
        rfl
      · have q : [r].foldl evStep ((d.world.events.take i).foldl evStep s) = ((d.world.events.take i).foldl evStep s) := by
          exact if_neg (by rw [hb]; exact Bool.false_ne_true)
        exact ⟨some (.ref c), by rw [q]; rfl, e.trans e1⟩
    · rintro σ H' ⟨v, rfl, e⟩
      refine s_ret (ev_var rfl) fun H1 e1 => ?_
      rw [List.length_map, W.re.1, List.take_length]
      exact k H1 (e.trans e1)
/-! ### choices -/
def spCanChoose (CR CW : Addr) : Sp := fun vs H Q _ => ∃ (a : Addr) (d : Kp372.Desk) (i s : Nat), vs = [.ref a, nI i, nI s] ∧ WR CR CW H a d ∧ i ≤ d.world.deeds.length ∧ RetV (.bl (Kp371.stepBy d.world s i).isSome) H Q
theorem can_choose_v {H : Hp} {a : Addr} {d : Kp372.Desk} {i s : Nat} (h : WR CR CW H a d) (hi : i ≤ d.world.deeds.length) : SpV (spCanChoose CR CW) [.ref a, nI i, nI s] H (.bl (Kp371.stepBy d.world s i).isSome) := fun H1 e Q q E => ⟨a, d, i, s, rfl, h.ex e, hi, q⟩
theorem Rules.at_ {H : Hp} {as : List Addr} {rs : List Kp371.Deed} (h : Rules CR H as rs) {i : Nat} (hi : i < rs.length) : ∃ c r, (as.map V.ref)[i]? = some (.ref c) ∧ rs[i]? = some r ∧ RuleAt CR H c r := by
  have hi' : i < as.length := by rw [h.1]; exact hi
  refine ⟨as[i], rs[i], ?_, List.getElem?_eq_getElem hi, h.2 i _ _ (List.getElem?_eq_getElem hi') (List.getElem?_eq_getElem hi)⟩
  rw [List.getElem?_map, List.getElem?_eq_getElem hi']
  rfl
theorem ok_can_choose (T : Top K mg CR CA CE CW) : MOk P w K mg base 2 CW "can_choose" ["self", "choice", "state"] (spCanChoose CR CW) := by
  refine T.dWorldCanChoose.ok T.cWorld scWorldCanChoose (fun vs H Q E h => ?_) (fun _ _ _ _ _ _ us hl => match us, hl with | [_, _, _], _ => rfl) (fun f cdv A outer s H vs Q E hr h => ?_)
  · obtain ⟨a, d, i, s, rfl, _⟩ := h
    rfl
  · obtain ⟨a, d, i, s, rfl, W', hi, k⟩ := h
    obtain ⟨dx, ld, le, lw, ads, aes, W⟩ := id W'
    refine ⟨_, pss_one (ps_ret (pe_or (pe_cmpR op_eq (pv 1) (pe_m0 (ok_waiting T) hr (pv 0)) (nomark _)) (pe_one (pe_m (ok_can T) hr (pe_ix ix_list (pe_fld (pv 0) rfl) (pv 1) (fun _ _ => rfl)) (pa_cons (pv 2) pa_nil))))), ?_⟩
    refine s_ret (ev_is (ev_orV (ev_eqN (ev_var rfl) (ev_meth (ev_var rfl) W.ins wF_waiting ea_nil (waiting_v W'))) (b := ableAt d.world s i) fun hf => ?_) (congrArg V.bl (can_eq hi))) k
    have hlt : i < d.world.deeds.length := by
      have := of_decide_eq_false hf
      omega
    obtain ⟨c, r, h1, h2, dc, h3⟩ := W.rd.at_ hlt
    have ea : ableAt d.world s i = Kp371.able s r := by
      unfold ableAt
      rw [h2]
    rw [ea]
    exact ev_meth (ev_op (ev_fld (ev_var rfl) W.ins T.cWorld T.nWorld_deeds wF_deeds) (ev_var rfl) (rv_ixL (sq_of W.hld) (atI_nat h1))) h3 rF_can_happen (ea_cons (ev_var rfl) ea_nil) (can_v ⟨dc, h3⟩)
def spChoose (CR CW : Addr) : Sp := fun vs H Q _ => ∃ (a : Addr) (d : Kp372.Desk) (i s t : Nat), vs = [.ref a, nI i, nI s] ∧ WR CR CW H a d ∧ Kp371.stepBy d.world s i = some t ∧ RetV (nI t) H Q
theorem choose_v {H : Hp} {a : Addr} {d : Kp372.Desk} {i s t : Nat} (h : WR CR CW H a d) (hi : Kp371.stepBy d.world s i = some t) : SpV (spChoose CR CW) [.ref a, nI i, nI s] H (nI t) := fun H1 e Q q E => ⟨a, d, i, s, t, rfl, h.ex e, hi, q⟩
theorem ok_choose (T : Top K mg CR CA CE CW) : MOk P w K mg base 3 CW "behind_choice" ["self", "choice", "state"] (spChoose CR CW) := by
  refine T.dWorldBehindChoice.ok T.cWorld scWorldBehindChoice (fun vs H Q E h => ?_) (fun _ _ _ _ _ _ us hl => match us, hl with | [_, _, _], _ => rfl) (fun f cdv A outer s H vs Q E hr h => ?_)
  · obtain ⟨a, d, i, s, t, rfl, _⟩ := h
    rfl
  · obtain ⟨a, d, i, s, t, rfl, W', hi, k⟩ := h
    obtain ⟨dx, ld, le, lw, ads, aes, W⟩ := id W'
    refine ⟨_, pss_cons (ps_if (pt_cmpR op_eq (pv 1) (pe_m0 (ok_waiting T) hr (pv 0)) (nomark _)) (pss_one (ps_ret (pe_m (ok_events T) hr (pv 0) (pa_cons (pv 2) pa_nil)))) pss_nil)
      (pss_one (ps_ret (pe_m (ok_events T) hr (pv 0) (pa_cons (pe_m (ok_happen T) hr (pe_ix ix_list (pe_fld (pv 0) rfl) (pv 1) (fun _ _ => rfl)) (pa_cons (pv 2) pa_nil)) pa_nil)))), ?_⟩
    refine q_when (et_test (ev_eqN (ev_var rfl) (ev_meth (ev_var rfl) W.ins wF_waiting ea_nil (waiting_v W')))) (fun hb H1 e1 => ?_) (fun hb H1 e1 => ?_)
    · have e := of_decide_eq_true hb
      subst e
      rw [step_wait] at hi
      have e := Option.some.inj hi
      subst e
      exact s_ret (ev_meth (ev_var rfl) (e1 _ _ W.ins) wF_behind_events (ea_cons (ev_var rfl) ea_nil) (events_v (W'.ex e1))) fun H2 e2 => k H2 (e1.trans e2)
    · have hne := of_decide_eq_false hb
      have hlt : i < d.world.deeds.length := by
        have := step_choice hi
        omega
      have W1 := W.ex e1
      obtain ⟨c, r, h1, h2, dc, h3⟩ := W1.rd.at_ hlt
      rw [step_deed h2] at hi
      by_cases ha : Kp371.able s r = true
      · rw [if_pos ha] at hi
        have e := Option.some.inj hi
        subst e
        refine s_ret (ev_meth (ev_var rfl) W1.ins wF_behind_events (ea_cons (ev_meth (ev_op (ev_fld (ev_var rfl) W1.ins T.cWorld T.nWorld_deeds wF_deeds) (ev_var rfl) (rv_ixL (sq_of W1.hld) (atI_nat h1))) h3 rF_happen (ea_cons (ev_var rfl) ea_nil) (happen_v ⟨dc, h3⟩)) ea_nil) (events_v (W'.ex e1))) fun H2 e2 => k H2 (e1.trans e2)
      · rw [if_neg ha] at hi
        cases hi
end
end LC

namespace LC
open PySem PySem.Spec PyProof.Rows L2 Evl
theorem lI_snoc (l : List Nat) (x : Nat) : lI l ++ [nI x] = lI (l ++ [x]) := (List.map_append (f := nI) (l₁ := l) (l₂ := [x])).symm
theorem range_getD {α : Type} (l : List α) (z : α) : (List.range l.length).map (fun i => l.getD i z) = l := by
  refine List.ext_getElem (by simp) fun i h1 h2 => ?_
  rw [List.getElem_map, List.getElem_range, List.getD_eq_getElem?_getD, List.getElem?_eq_getElem h2]
  rfl
theorem given_filter {α : Type} (l : List α) (z : α) (p : α → Bool) (g : α → V) : given l.length (fun i => p (l.getD i z)) (fun i => g (l.getD i z)) = (l.filter p).map g := by
  have e : l.filter p = ((List.range l.length).filter (p ∘ fun i => l.getD i z)).map (fun i => l.getD i z) := by
    rw [← List.filter_map, range_getD]
  rw [e, List.map_map]
  rfl
theorem given_all {α : Type} (l : List α) (z : α) (g : α → V) : given l.length (fun _ => true) (fun i => g (l.getD i z)) = l.map g := by
  have h := given_filter l z (fun _ => true) g
  rw [h, List.filter_eq_self.mpr (fun _ _ => rfl)]
theorem getD_of {α : Type} {l : List α} {i : Nat} {x z : α} (h : l[i]? = some x) : l.getD i z = x := by
  rw [List.getD_eq_getElem?_getD, h]
  rfl
theorem sum_cast {α : Type} (g : α → Nat) : ∀ l : List α, (l.map fun x => ((g x : Nat) : Int)).sum = (((l.map g).sum : Nat) : Int)
  | [] => rfl
  | a :: l => by
    rw [List.map_cons, List.map_cons, List.sum_cons, List.sum_cons, sum_cast g l]
    omega
theorem shr_is (f q : Nat) : ((f : Int) / 2 ^ ((q : Int).toNat)) = ((f / 2 ^ q : Nat) : Int) := by
  rw [Int.toNat_natCast, Int.natCast_ediv, Int.natCast_pow]
  rfl
theorem bit_and (f q : Nat) : decide ((f / 2 ^ q) &&& 1 = 1) = f.testBit q := by
  rw [Nat.and_one_is_mod]
  exact bit_is f q
section
variable {K : PySem.W.Frag} {σ : L2.St} {H : Hp} {ta tb : TE}
theorem ev_shrN {a b : Nat} (ha : Ev ta σ H (nI a)) (hb : Ev tb σ H (nI b)) : Ev (tOp (rI (fun _ j => 0 ≤ j) fun i j => .int (i / 2 ^ j.toNat)) ta tb) σ H (nI (a / 2 ^ b)) := ev_is (ev_op ha hb (rv_I (by omega))) (congrArg V.int (shr_is a b))
end
section
variable {P : Program} {w : World} {K : PySem.W.Frag} {mg : Str → Option Value} {base : Heap} {CR CA CE CW : Addr}
def spFactsOf (CR CW : Addr) : Sp := fun vs H Q _ => ∃ (a : Addr) (d : Kp372.Desk) (f : Nat), vs = [.ref a, nI f] ∧ WR CR CW H a d ∧ d.world.m ≤ 5 ∧ RetL (lI (factsOf d.world.m f)) H Q
theorem facts_of_l {H : Hp} {a : Addr} {d : Kp372.Desk} {f : Nat} (h : WR CR CW H a d) (h5 : d.world.m ≤ 5) : SpL (spFactsOf CR CW) [.ref a, nI f] H (lI (factsOf d.world.m f)) := fun H1 e Q q E => ⟨a, d, f, rfl, h.ex e, h5, q⟩
theorem ok_facts_of (T : Top K mg CR CA CE CW) : MOk P w K mg base 1 CW "facts_of" ["self", "facts"] (spFactsOf CR CW) := by
  refine T.dWorldFactsOf.ok T.cWorld scWorldFactsOf (fun vs H Q E h => ?_) (fun _ _ _ _ _ _ us hl => match us, hl with | [_, _], _ => rfl) (fun f cdv A outer s H vs Q E hr h => ?_)
  · obtain ⟨a, d, f, rfl, _⟩ := h
    rfl
  · obtain ⟨a, d, f, rfl, W', h5, k⟩ := h
    obtain ⟨dx, ld, le, lw, ads, aes, W⟩ := id W'
    refine ⟨_, pss_one (ps_ret (pe_lc (own := [("fact", 2)]) (g := gName 2) rfl scWorldFactsOf.nd (pi_range1 rfl T.b_range (pa_cons (pe_fld (pv 0) rfl) pa_nil)) (blkOk_by (own := [("fact", 2)]) (N := ["self", "facts", "fact"]) (sc := defScope sWorldFactsOf) (by decide +kernel))
      (fun _ _ _ _ _ => pg_name (i := 2) scWorldFactsOf.nd rfl (Or.inl rfl)) (fun _ _ _ _ _ => pts_one (pt_cmpR op_eq (pe_op op_and (pe_op op_shr (pv 1) (pv 2)) pe_int) pe_int (nomark _))) (fun _ _ _ _ _ => pv 2))), ?_⟩
    refine s_retL (el_is (el_lcR1 (fun q => f.testBit q) nI (ea_cons (ev_fld (ev_var rfl) W.ins T.cWorld T.nWorld_many wF_many) ea_nil) ⟨by omega, by omega⟩ (fun x => rfl) (fun i H1 e hi => ?_) (fun i H1 e hi hf => ?_)) ?_) k
    · exact et_is (et_test (ev_eqN (b := 1) (ev_bAnd (b := 1) (ev_shrN (ev_var rfl) (ev_var rfl)) ev_c) ev_c)) (bit_and f i)
    · exact ev_var rfl
    · rw [Int.toNat_natCast]
      rfl
def spWeigh (CR CW : Addr) : Sp := fun vs H Q _ => ∃ (a : Addr) (d : Kp372.Desk) (f : Nat), vs = [.ref a, nI f] ∧ WR CR CW H a d ∧ Good d ∧ RetV (nI (weigh d f)) H Q
theorem weigh_v {H : Hp} {a : Addr} {d : Kp372.Desk} {f : Nat} (h : WR CR CW H a d) (G : Good d) : SpV (spWeigh CR CW) [.ref a, nI f] H (nI (weigh d f)) := fun H1 e Q q E => ⟨a, d, f, rfl, h.ex e, G, q⟩
theorem ok_weigh (T : Top K mg CR CA CE CW) : MOk P w K mg base 2 CW "weight_of" ["self", "facts"] (spWeigh CR CW) := by
  refine T.dWorldWeightOf.ok T.cWorld scWorldWeightOf (fun vs H Q E h => ?_) (fun _ _ _ _ _ _ us hl => match us, hl with | [_, _], _ => rfl) (fun f cdv A outer s H vs Q E hr h => ?_)
  · obtain ⟨a, d, f, rfl, _⟩ := h
    rfl
  · obtain ⟨a, d, f, rfl, W', G, k⟩ := h
    obtain ⟨dx, ld, le, lw, ads, aes, W⟩ := id W'
    refine ⟨_, pss_one (ps_ret (pe_callB (cr_sum rfl) (by rfl) T.b_sum (by decide +kernel) (pa_cons (pe_lc (own := [("fact", 2)]) (g := gName 2) (te := tOp (rIxL K) (tFld K (tVar 0) "weights") (tVar 2)) rfl scWorldWeightOf.nd (pi_list (pe_m (ok_facts_of T) hr (pv 0) (pa_cons (pv 1) pa_nil))) (blkOk_by (own := [("fact", 2)]) (N := ["self", "facts", "fact"]) (sc := defScope sWorldWeightOf) (by decide +kernel))
      (fun _ _ _ _ _ => pg_name (i := 2) scWorldWeightOf.nd rfl (Or.inl rfl)) (fun _ _ _ _ _ => pts_nil) (fun _ _ _ _ _ => by exact pe_ix ix_list (pe_fld (pv 0) rfl) (pv 2) (fun _ _ => rfl))) pa_nil))), ?_⟩
    have hlen : (factsOf d.world.m f).length ≤ 5 := by
      have h := List.length_filter_le (fun q => f.testBit q) (List.range d.world.m)
      rw [List.length_range] at h
      exact Nat.le_trans h G.m5
    refine s_ret (ev_is (ev_sumN (K := K) (ns := (factsOf d.world.m f).map fun q => ((d.weights.getD q 0 : Nat) : Int)) (el_is (el_lcNL (K := K) (fun _ => true) (fun i => nI (d.weights.getD ((factsOf d.world.m f).getD i 0) 0)) (el_meth (ev_var rfl) W.ins wF_facts_of (ea_cons (ev_var rfl) ea_nil) (facts_of_l W' G.m5)) (by rw [List.length_map]; omega) (fun x => rfl) (fun i x H1 e hi => ?_) (fun i x H1 e hi hf => ?_)) ?_)) ?_) k
    · exact fun H2 _ Q q => q H2 (Ex.refl H2)
    · obtain ⟨q, hq, rfl⟩ := map_nI hi
      rw [getD_of hq]
      have hqm : q < d.world.m := List.mem_range.mp (List.mem_filter.mp (List.mem_of_getElem? hq)).1
      have hqw : q < d.weights.length := by rw [G.wl]; exact hqm
      have hw : (lI d.weights)[q]? = some (nI (d.weights.getD q 0)) := by
        rw [List.getElem?_map, List.getD_eq_getElem?_getD, List.getElem?_eq_getElem hqw]
        rfl
      exact ev_op (ev_fld (ev_var rfl) (e _ _ W.ins) T.cWorld T.nWorld_weights wF_weights) (ev_var rfl) (rv_ixL (sq_of (e _ _ W.hlw)) (atI_nat hw))
    · rw [List.length_map, given_all (factsOf d.world.m f) 0 (fun q => nI (d.weights.getD q 0)), List.map_map]
      rfl
    · rw [sum_cast (fun q => d.weights.getD q 0)]
      rfl
def spChanged (CR CW CA : Addr) : Sp := fun vs H Q _ => ∃ (a ai : Addr) (d : Kp372.Desk) (m u x y : Nat), vs = [.ref a, .ref ai, nI x, nI y] ∧ WR CR CW H a d ∧ Good d ∧ AimAt CA H ai m u ∧ m < 2 ^ d.world.m ∧ x < 2 ^ d.world.m ∧ y < 2 ^ d.world.m ∧ RetV (nI (Kp372.cost d m x y)) H Q
theorem changed_v {H : Hp} {a ai : Addr} {d : Kp372.Desk} {m u x y : Nat} (h : WR CR CW H a d) (G : Good d) (A : AimAt CA H ai m u) (hm : m < 2 ^ d.world.m) (hx : x < 2 ^ d.world.m) (hy : y < 2 ^ d.world.m) : SpV (spChanged CR CW CA) [.ref a, .ref ai, nI x, nI y] H (nI (Kp372.cost d m x y)) :=
  fun H1 e Q q E => ⟨a, ai, d, m, u, x, y, rfl, h.ex e, G, A.ex e, hm, hx, hy, q⟩
theorem ok_changed (T : Top K mg CR CA CE CW) : MOk P w K mg base 3 CW "weight_changed" ["self", "aim", "state", "against"] (spChanged CR CW CA) := by
  refine T.dWorldWeightChanged.ok T.cWorld scWorldWeightChanged (fun vs H Q E h => ?_) (fun _ _ _ _ _ _ us hl => match us, hl with | [_, _, _, _], _ => rfl) (fun f cdv A outer s H vs Q E hr h => ?_)
  · obtain ⟨a, ai, d, m, u, x, y, rfl, _⟩ := h
    rfl
  · obtain ⟨a, ai, d, m, u, x, y, rfl, W', G, ⟨da, hA⟩, hm, hx, hy, k⟩ := h
    obtain ⟨dx, ld, le, lw, ads, aes, W⟩ := id W'
    refine ⟨_, pss_one (ps_ret (pe_m (ok_weigh T) hr (pv 0) (pa_cons (pe_m (ok_besides T) hr (pv 1) (pa_cons (pe_op op_xor (pv 2) (pv 3)) pa_nil)) pa_nil))), ?_⟩
    refine s_ret (ev_is (ev_meth (ev_var rfl) W.ins wF_weight_of (ea_cons (ev_meth (ev_var rfl) hA aF_besides (ea_cons (ev_bXor (ev_var rfl) (ev_var rfl)) ea_nil) (besides_v ⟨da, hA⟩)) ea_nil) (weigh_v W' G)) ?_) k
    rw [cost_eq G hm hx hy]
    rfl
/-! ### rows told, waiting -/
def spByWaiting (CR CW : Addr) : Sp := fun vs H Q _ => ∃ (a : Addr) (d : Kp372.Desk) (n : Nat), vs = [.ref a, nI n] ∧ WR CR CW H a d ∧ n ≤ 1000 ∧ RetV (nI (Kp371.itself d.world d.world.now n)) H Q
theorem by_waiting_v {H : Hp} {a : Addr} {d : Kp372.Desk} {n : Nat} (h : WR CR CW H a d) (hn : n ≤ 1000) : SpV (spByWaiting CR CW) [.ref a, nI n] H (nI (Kp371.itself d.world d.world.now n)) := fun H1 e Q q E => ⟨a, d, n, rfl, h.ex e, hn, q⟩
theorem ok_by_waiting (T : Top K mg CR CA CE CW) : MOk P w K mg base 4 CW "behind_waiting" ["self", "steps"] (spByWaiting CR CW) := by
  refine T.dWorldBehindWaiting.ok T.cWorld scWorldBehindWaiting (fun vs H Q E h => ?_) (fun _ _ _ _ _ _ us hl => match us, hl with | [_, _], _ => rfl) (fun f cdv A outer s H vs Q E hr h => ?_)
  · obtain ⟨a, d, n, rfl, _⟩ := h
    rfl
  · obtain ⟨a, d, n, rfl, W', hn, k⟩ := h
    obtain ⟨dx, ld, le, lw, ads, aes, W⟩ := id W'
    refine ⟨_, pss_cons (ps_set (i := 2) scWorldBehindWaiting.nd rfl (Or.inl rfl) (pe_fld (pv 0) rfl)) (pss_cons (ps_for PassesOwn.never rfl (pi_range1 rfl T.b_range (pa_cons (pv 1) pa_nil)) (pg_name (i := 3) scWorldBehindWaiting.nd rfl (Or.inl rfl))
      (pss_one (ps_set (i := 2) scWorldBehindWaiting.nd rfl (Or.inl rfl) (pe_m (ok_choose T) hr (pv 0) (pa_cons (pe_m0 (ok_waiting T) hr (pv 0)) (pa_cons (pv 2) pa_nil))))))
      (pss_one (ps_ret (pv 2)))), ?_⟩
    refine q_asg (ev_fld (ev_var rfl) W.ins T.cWorld T.nWorld_state wF_state) fun H1 e1 => ?_
    refine q_forR1 (n := (n : Int)) (ea_cons (ev_var rfl) ea_nil) ⟨by omega, by omega⟩ (fun i σ H' => ∃ v, σ = [some (.ref a), some (nI n), some (nI (Kp371.itself d.world d.world.now i)), v] ∧ Ex H H') (fun H2 e2 => ⟨none, rfl, e1.trans e2⟩) ?_ ?_
    · rintro i σ H' hi ⟨v, rfl, e⟩
      refine s_asg (ev_meth (ev_var rfl) (e _ _ W.ins) wF_behind_choice (ea_cons (ev_meth (ev_var rfl) (e _ _ W.ins) wF_waiting ea_nil (waiting_v (W'.ex e))) (ea_cons (ev_var rfl) ea_nil)) (choose_v (W'.ex e) step_wait)) fun H2 e2 => ⟨some (nI i), ?_, e.trans e2⟩
      rw [itself_succ]
      rfl
    · rintro σ H' ⟨v, rfl, e⟩
      refine s_ret (ev_var rfl) fun H2 e2 => ?_
      rw [Int.toNat_natCast]
      exact k H2 (e.trans e2)
def spHeld (CR CW : Addr) : Sp := fun vs H Q _ => ∃ (a : Addr) (d : Kp372.Desk) (b n : Nat), vs = [.ref a, nI b, nI n] ∧ WR CR CW H a d ∧ n ≤ 1000 ∧ RetV (nI (Kp372.base d b n)) H Q
theorem held_v {H : Hp} {a : Addr} {d : Kp372.Desk} {b n : Nat} (h : WR CR CW H a d) (hn : n ≤ 1000) : SpV (spHeld CR CW) [.ref a, nI b, nI n] H (nI (Kp372.base d b n)) := fun H1 e Q q E => ⟨a, d, b, n, rfl, h.ex e, hn, q⟩
theorem ok_held (T : Top K mg CR CA CE CW) : MOk P w K mg base 5 CW "held_against" ["self", "by_itself", "steps"] (spHeld CR CW) := by
  refine T.dWorldHeldAgainst.ok T.cWorld scWorldHeldAgainst (fun vs H Q E h => ?_) (fun _ _ _ _ _ _ us hl => match us, hl with | [_, _, _], _ => rfl) (fun f cdv A outer s H vs Q E hr h => ?_)
  · obtain ⟨a, d, b, n, rfl, _⟩ := h
    rfl
  · obtain ⟨a, d, b, n, rfl, W', hn, k⟩ := h
    obtain ⟨dx, ld, le, lw, ads, aes, W⟩ := id W'
    refine ⟨_, pss_cons (ps_if (pt_cmpR op_eq (pv 1) pe_int (nomark _)) (pss_one (ps_ret (pe_fld (pv 0) rfl))) pss_nil) (pss_one (ps_ret (pe_m (ok_by_waiting T) hr (pv 0) (pa_cons (pv 2) pa_nil)))), ?_⟩
    refine q_when (et_test (ev_eqN (b := 0) (ev_var rfl) ev_c)) (fun hb H1 e1 => ?_) (fun hb H1 e1 => ?_)
    · have e : Kp372.base d b n = d.world.now := if_pos (of_decide_eq_true hb)
      rw [e] at k
      exact s_ret (ev_fld (ev_var rfl) (e1 _ _ W.ins) T.cWorld T.nWorld_state wF_state) fun H2 e2 => k H2 (e1.trans e2)
    · have e : Kp372.base d b n = Kp371.itself d.world d.world.now n := if_neg (of_decide_eq_false hb)
      rw [e] at k
      exact s_ret (ev_meth (ev_var rfl) (e1 _ _ W.ins) wF_behind_waiting (ea_cons (ev_var rfl) ea_nil) (by_waiting_v (W'.ex e1) hn)) fun H2 e2 => k H2 (e1.trans e2)
def spAlong (K : PySem.W.Frag) (CR CW : Addr) : Sp := fun vs H Q _ => ∃ (a r : Addr) (d : Kp372.Desk) (l : List Nat), vs = [.ref a, .ref r] ∧ WR CR CW H a d ∧ SqL K H r (lI l) ∧ (∀ i ∈ l, i ≤ d.world.deeds.length) ∧ l.length ≤ 1000 ∧ RetL (lI (d.world.now :: along d.world d.world.now l)) H Q
theorem along_l {H : Hp} {a r : Addr} {d : Kp372.Desk} {l : List Nat} (h : WR CR CW H a d) (hr : SqL K H r (lI l)) (hl : ∀ i ∈ l, i ≤ d.world.deeds.length) (hn : l.length ≤ 1000) : SpL (spAlong K CR CW) [.ref a, .ref r] H (lI (d.world.now :: along d.world d.world.now l)) :=
  fun H1 e Q q E => ⟨a, r, d, l, rfl, h.ex e, ex_l e hr, hl, hn, q⟩
theorem ok_along (T : Top K mg CR CA CE CW) : MOk P w K mg base 4 CW "states_along" ["self", "row"] (spAlong K CR CW) := by
  refine T.dWorldStatesAlong.ok T.cWorld scWorldStatesAlong (fun vs H Q E h => ?_) (fun _ _ _ _ _ _ us hl => match us, hl with | [_, _], _ => rfl) (fun f cdv A outer s H vs Q E hr h => ?_)
  · obtain ⟨a, r, d, l, rfl, _⟩ := h
    rfl
  · obtain ⟨a, r, d, l, rfl, W', hR, hl, hn, k⟩ := h
    obtain ⟨dx, ld, le, lw, ads, aes, W⟩ := id W'
    refine ⟨_, pss_cons (ps_set (i := 2) scWorldStatesAlong.nd rfl (Or.inl rfl) (pe_fld (pv 0) rfl)) (pss_cons (ps_set (i := 3) scWorldStatesAlong.nd rfl (Or.inl rfl) (pe_lst (pa_cons (pv 2) pa_nil)))
      (pss_cons (ps_for PassesOwn.never rfl (pi_list (pv 1)) (pg_name (i := 4) scWorldStatesAlong.nd rfl (Or.inl rfl))
        (pss_cons (ps_if (pt_not (pt_val (pe_m (ok_can_choose T) hr (pv 0) (pa_cons (pv 4) (pa_cons (pv 2) pa_nil))))) (pss_one (ps_ret (pv 3))) pss_nil)
        (pss_cons (ps_set (i := 2) scWorldStatesAlong.nd rfl (Or.inl rfl) (pe_m (ok_choose T) hr (pv 0) (pa_cons (pv 4) (pa_cons (pv 2) pa_nil))))
        (pss_one (ps_expr (pe_bm PySem.F.plainAttrs_list PySem.F.slot_list_append PySem.F.type_list_append mt_append (pv 3) (pa_cons (pv 2) pa_nil)))))))
      (pss_one (ps_ret (pv 3))))), ?_⟩
    refine q_asg (ev_fld (ev_var rfl) W.ins T.cWorld T.nWorld_state wF_state) fun H1 e1 => ?_
    refine q_asgL (el_lst (ea_cons (ev_var rfl) ea_nil) (by show 1 ≤ 100000; decide)) fun p H2 hp e2 h2 => ?_
    have hpH : H p = none := fresh_back e1 hp
    refine q_forLn (K := K) (ev_var rfl) (ex_l (e1.trans e2) hR) (fun i σ H' => ∃ (v : Option V) (st : Nat) (acc : List Nat), σ = [some (.ref a), some (.ref r), some (nI st), some (.ref p), v] ∧ Ex H H' ∧ H' p = some (.lst (lI acc)) ∧ acc.length ≤ i + 1 ∧ acc ++ along d.world st (l.drop i) = d.world.now :: along d.world d.world.now l)
      (fun H3 e3 => ⟨none, d.world.now, [d.world.now], rfl, (e1.trans e2).trans e3, e3 _ _ h2, Nat.le_refl _, rfl⟩) (fun i σ H' _ ⟨_, _, _, _, e, _⟩ => ex_l e hR) ?_ ?_
    · rintro i x σ H' hi ⟨v, st, acc, rfl, e, hH, hlen, hacc⟩
      obtain ⟨c, hc, rfl⟩ := map_nI hi
      have hcl : c ≤ d.world.deeds.length := hl c (List.mem_of_getElem? hc)
      have hi2 : i < l.length := (List.getElem?_eq_some_iff.mp hc).1
      have hdrop : l.drop i = c :: l.drop (i + 1) := by
        rw [List.drop_eq_getElem_cons hi2, (List.getElem?_eq_some_iff.mp hc).2]
      rw [hdrop] at hacc
      refine q_when (et_not (et_B (ev_meth (ev_var rfl) (e _ _ W.ins) wF_can_choose (ea_cons (ev_var rfl) (ea_cons (ev_var rfl) ea_nil)) (can_choose_v (W'.ex e) hcl)))) (fun hb H3 e3 => ?_) (fun hb H3 e3 => ?_)
      · have hn : Kp371.stepBy d.world st c = none := by
          cases hs : Kp371.stepBy d.world st c with
          | none => rfl
          | some t =>
            rw [hs] at hb
            cases hb
        rw [along_none hn, List.append_nil] at hacc
        refine s_ret (ev_var rfl) fun H4 e4 => k p H4 hpH ((e.trans e3).trans e4) ?_
        rw [← hacc]
        exact e4 _ _ (e3 _ _ hH)
      · cases hs : Kp371.stepBy d.world st c with
        | none =>
          rw [hs] at hb
          cases hb
        | some t =>
          rw [along_some hs] at hacc
          refine q_asg (ev_meth (ev_var rfl) ((e.trans e3) _ _ W.ins) wF_behind_choice (ea_cons (ev_var rfl) (ea_cons (ev_var rfl) ea_nil)) (choose_v (W'.ex (e.trans e3)) hs)) fun H4 e4 => ?_
          refine s_app (K := K) (e4 _ _ (e3 _ _ hH)) (ev_var rfl) (ev_var rfl) (by rw [List.length_map]; omega) fun H5 e5 => ?_
          refine ⟨some (nI c), t, acc ++ [t], rfl, Ex.mut (((e.trans e3).trans e4).trans e5) hpH, ?_, ?_, ?_⟩
          · rw [upd_same, lI_snoc]
          · rw [List.length_append]
            show acc.length + 1 ≤ i + 1 + 1
            omega
          · rw [List.append_assoc]
            exact hacc
    · rintro σ H' ⟨v, st, acc, rfl, e, hH, hlen, hacc⟩
      rw [List.length_map, List.drop_length] at hacc
      have q : acc = d.world.now :: along d.world d.world.now l := by
        rw [← hacc]
        exact (List.append_nil acc).symm
      refine s_ret (ev_var rfl) fun H4 e4 => k p H4 hpH (e.trans e4) ?_
      rw [← q]
      exact e4 _ _ hH
end
end LC

namespace LC
open PySem PySem.Spec PyProof.Rows L2 Evl
/-! ### what stays where only dicts are locked -/
def isObj : HO → Bool
  | .lst _ => true
  | .ins _ _ _ => true
  | _ => false
def Kp (H H' : Hp) : Prop := ∀ b o, H b = some o → isObj o = true → H' b = some o
theorem Ex.kp {H H' : Hp} (e : Ex H H') : Kp H H' := fun b o h _ => e b o h
theorem Kp.trans {H H1 H2 : Hp} (a : Kp H H1) (b : Kp H1 H2) : Kp H H2 := fun x o h i => b x o (a x o h i) i
theorem RuleAt.kp {CR : Addr} {H H' : Hp} {a : Addr} {r : Kp371.Deed} (s : Kp H H') (h : RuleAt CR H a r) : RuleAt CR H' a r := by
  obtain ⟨dx, h⟩ := h
  exact ⟨dx, s _ _ h rfl⟩
theorem AimAt.kp {CA : Addr} {H H' : Hp} {a : Addr} {m w : Nat} (s : Kp H H') (h : AimAt CA H a m w) : AimAt CA H' a m w := by
  obtain ⟨dx, h⟩ := h
  exact ⟨dx, s _ _ h rfl⟩
theorem Rules.kp {CR : Addr} {H H' : Hp} {as : List Addr} {rs : List Kp371.Deed} (s : Kp H H') (h : Rules CR H as rs) : Rules CR H' as rs := ⟨h.1, fun i a r h1 h2 => (h.2 i a r h1 h2).kp s⟩
theorem WR.kp {CR CW : Addr} {H H' : Hp} {a : Addr} {d : Kp372.Desk} (s : Kp H H') (h : WR CR CW H a d) : WR CR CW H' a d := by
  obtain ⟨dx, ld, le, lw, ads, aes, h⟩ := h
  exact ⟨dx, ld, le, lw, ads, aes, s _ _ h.ins rfl, s _ _ h.hld rfl, h.rd.kp s, s _ _ h.hle rfl, h.re.kp s, s _ _ h.hlw rfl, h.n1, h.n2, h.n3⟩
theorem EndAt.kp {CE : Addr} {H H' : Hp} {v : V} {c : Nat} {r : List Nat} (s : Kp H H') (h : EndAt CE H v c r) : EndAt CE H' v c r := by
  obtain ⟨a, dx, l, e, h1, h2⟩ := h
  exact ⟨a, dx, l, e, s _ _ h1 rfl, s _ _ h2 rfl⟩
/-- locked: all but the dict itself stays -/
theorem kp_lock {H : Hp} {p : Addr} {kvs : List (Key × V)} {o : HO} (hp : H p = some (.dK kvs)) : Kp H (upd H p o) := fun b u h i => by
  have : b ≠ p := ne_of h hp (fun e => by rw [e] at i; cases i)
  rw [upd_ne this]
  exact h
/-- unlocked again -/
theorem ex_unlock {H H' : Hp} {p : Addr} {u : HO} {od : Obj} (hp : H p = some u) (e : Ex (upd H p (.frz od u)) H') : Ex H (upd H' p u) := fun b o h => by
  by_cases hb : b = p
  · subst hb
    rw [upd_same, ← hp]
    exact h
  · rw [upd_ne hb]
    exact e b o (by rw [upd_ne hb]; exact h)
theorem kp_unlock {H : Hp} {p : Addr} {u : HO} {od : Obj} (hp : H p = some (.frz od u)) : Kp H (upd H p u) := fun b o h i => by
  have : b ≠ p := ne_of h hp (fun e => by rw [e] at i; cases i)
  rw [upd_ne this]
  exact h
/-! ### a dict of rows -/
def DR (H : Hp) : List (Key × V) → Rows → Prop
  | [], [] => True
  | kv :: kvs, p :: L => (kv.1 = Sum.inl (p.1 : Int) ∧ ∃ l, kv.2 = .ref l ∧ H l = some (.lst (lI p.2))) ∧ DR H kvs L
  | _, _ => False
theorem DR.kp {H H' : Hp} (s : Kp H H') : ∀ {kvs : List (Key × V)} {L : Rows}, DR H kvs L → DR H' kvs L
  | [], [], _ => trivial
  | _ :: _, _ :: _, ⟨⟨h1, l, h2, h3⟩, h⟩ => ⟨⟨h1, l, h2, s _ _ h3 rfl⟩, DR.kp s h⟩
theorem DR.len {H : Hp} : ∀ {kvs : List (Key × V)} {L : Rows}, DR H kvs L → kvs.length = L.length
  | [], [], _ => rfl
  | _ :: _, _ :: _, ⟨_, h⟩ => congrArg (· + 1) (DR.len h)
theorem DR.snoc {H : Hp} {t : Nat} {r : List Nat} {l : Addr} (hl : H l = some (.lst (lI r))) : ∀ {kvs : List (Key × V)} {L : Rows}, DR H kvs L → DR H (kvs ++ [(Sum.inl (t : Int), .ref l)]) (L ++ [(t, r)])
  | [], [], _ => ⟨⟨rfl, l, rfl, hl⟩, trivial⟩
  | _ :: _, _ :: _, ⟨h1, h⟩ => ⟨h1, DR.snoc hl h⟩
theorem DR.get {H : Hp} : ∀ {kvs : List (Key × V)} {L : Rows} {i : Nat} {k : Key} {v : V}, DR H kvs L → kvs[i]? = some (k, v) → ∃ s r, L[i]? = some (s, r) ∧ k = Sum.inl (s : Int)
  | [], _, _, _, _, _, h => by simp at h
  | kv :: kvs, p :: L, 0, k, v, ⟨⟨h1, l, h2, h3⟩, _⟩, h => by
    have e : kv = (k, v) := by simpa using h
    subst e
    exact ⟨p.1, p.2, rfl, h1⟩
  | kv :: kvs, p :: L, i + 1, k, v, ⟨_, h⟩, hi => by
    have hi : kvs[i]? = some (k, v) := by simpa using hi
    obtain ⟨s, r, a, b⟩ := DR.get h hi
    exact ⟨s, r, by simpa using a, b⟩
theorem key_inj {a b : Nat} (h : (Sum.inl (a : Int) : Key) = Sum.inl (b : Int)) : a = b := by
  have := Sum.inl.inj h
  omega
theorem DR.none {H : Hp} {t : Nat} : ∀ {kvs : List (Key × V)} {L : Rows}, DR H kvs L → hasKey L t = false → valV kvs (Sum.inl (t : Int)) = none
  | [], [], _, _ => rfl
  | kv :: kvs, p :: L, ⟨⟨h1, _⟩, h⟩, hk => by
    have hk : ((p.1 == t) || hasKey L t) = false := hk
    rw [Bool.or_eq_false_iff] at hk
    rw [valV_neg (by
      intro e
      have := key_inj (h1.symm.trans e)
      rw [this] at hk
      simp at hk)]
    exact DR.none h hk.2
theorem DR.some {H : Hp} {t : Nat} {r : List Nat} : ∀ {kvs : List (Key × V)} {L : Rows}, DR H kvs L → L.find? (fun p => p.1 == t) = some (t, r) → ∃ l, valV kvs (Sum.inl (t : Int)) = some (.ref l) ∧ H l = some (.lst (lI r))
  | [], [], _, h => by simp at h
  | kv :: kvs, p :: L, ⟨⟨h1, l, h2, h3⟩, h⟩, hf => by
    by_cases e : p.1 = t
    · have e2 : p = (t, r) := by
        rw [List.find?_cons_of_pos (by simpa using e)] at hf
        exact Option.some.inj hf
      subst e2
      exact ⟨l, by rw [valV_pos h1, h2], h3⟩
    · rw [List.find?_cons_of_neg (by simpa using e)] at hf
      obtain ⟨l', a, b⟩ := DR.some h hf
      refine ⟨l', ?_, b⟩
      rw [valV_neg (fun q => e (key_inj (h1.symm.trans q)))]
      exact a
theorem DR.has {H : Hp} {t : Nat} {kvs : List (Key × V)} {L : Rows} (h : DR H kvs L) : (valV kvs (Sum.inl (t : Int))).isSome = hasKey L t := by
  cases hk : hasKey L t with
  | false => rw [h.none hk]; rfl
  | true =>
    obtain ⟨r, hr⟩ := hasKey_iff.mp hk
    cases hf : L.find? (fun p => p.1 == t) with
    | none =>
      have := List.find?_eq_none.mp hf _ hr
      simp at this
    | some p =>
      have hp := List.find?_some hf
      have e : p = (t, p.2) := by
        have : p.1 = t := by simpa using hp
        rw [← this]
      rw [e] at hf
      obtain ⟨l, a, _⟩ := h.some hf
      rw [a]
      rfl
def RowsIn (H : Hp) (p : Addr) (L : Rows) : Prop := ∃ kvs, H p = some (.dK kvs) ∧ DR H kvs L
theorem RowsIn.ex {H H' : Hp} {p : Addr} {L : Rows} (s : Ex H H') (h : RowsIn H p L) : RowsIn H' p L := by
  obtain ⟨kvs, h1, h2⟩ := h
  exact ⟨kvs, s _ _ h1, h2.kp (Ex.kp s)⟩
/-! ### walks over a dict's keys -/
theorem for_keys {d : Addr} {o : Obj} {kvs : List (Key × V)} {g : TG} {tb : TS} {D : Ends} {σ : L2.St} {H : Hp} (Pv : Nat → L2.St → Hp → Prop) (h0 : Pv 0 σ H) (hl : ∀ i σ H, i ≤ kvs.length → Pv i σ H → H d = some (.frz o (.dK kvs)))
    (hs : ∀ (i : Nat) k v σ H, kvs[i]? = some (k, v) → Pv i σ H → g (kV k) σ H fun σ2 H2 => tb { D with nx := Pv (i + 1), ct := Pv (i + 1), bk := D.nx } σ2 H2) (hd : ∀ σ H, Pv kvs.length σ H → D.nx σ H) :
    ∃ W : Nat → Nat → L2.St → Hp → Prop, (∃ m, W 0 m σ H) ∧ ∀ i m σ H, W i m σ H →
      ((Itk d o kvs).stop i H ∧ D.nx σ H) ∨ ((Itk d o kvs).go i H ∧ ∃ N : L2.St → Hp → Prop, (∀ σ' H', N σ' H' → ∃ m', m' < m ∧ W (i + 1) m' σ' H') ∧ ∀ x H', (Itk d o kvs).yld i H x H' → g x σ H' fun σ2 H2 => tb { D with nx := N, ct := N, bk := D.nx } σ2 H2) := by
  refine ⟨fun i m σ H => m = kvs.length - i ∧ i ≤ kvs.length ∧ Pv i σ H, ⟨kvs.length, by simp, Nat.zero_le _, h0⟩, ?_⟩
  rintro i m σ H ⟨rfl, hi, p⟩
  have q := hl i σ H hi p
  by_cases hlt : i < kvs.length
  · refine .inr ⟨⟨q, hlt⟩, Pv (i + 1), fun σ' H' p' => ⟨kvs.length - (i + 1), by omega, rfl, hlt, p'⟩, fun x H' y => ?_⟩
    obtain ⟨e, k, v, y, ex⟩ := y
    subst e
    subst ex
    exact hs i k v σ _ y p
  · have e : i = kvs.length := by omega
    subst e
    exact .inl ⟨⟨q, Nat.le_refl _⟩, hd σ H p⟩
/-- the walk under its lock, then the rest -/
theorem q_forK {d : Addr} {kvs : List (Key × V)} {td : TE} {tu tz : TS} {j : Nat} {D : Ends} {σ : L2.St} {H : Hp} (hd : H d = some (.dK kvs)) (hv : ∀ H1, Ev td σ H1 (.ref d)) (Pv : Obj → Nat → L2.St → Hp → Prop)
    (h0 : ∀ od H1, Ex (upd H d (.frz od (.dK kvs))) H1 → Pv od 0 σ H1) (hl : ∀ od i σ H', Pv od i σ H' → H' d = some (.frz od (.dK kvs)))
    (hs : ∀ od (i : Nat) k v σ' H' (D' : Ends), kvs[i]? = some (k, v) → Pv od i σ' H' → D'.nx = Pv od (i + 1) → tu D' (σ'.set j (some (kV k))) H')
    (hz : ∀ od σ' H', Pv od kvs.length σ' H' → tz D σ' (upd H' d (.dK kvs))) : tSeq (tLock (tFor (iKeys td) (gName j) tu)) tz D σ H := by
  refine ⟨d, .dK kvs, hd, trivial, fun od => ?_⟩
  refine hv _ _ (Ex.refl _) _ fun H1 e1 => ⟨d, od, rfl, Or.inl ⟨kvs, e1 _ _ upd_same, ?_⟩⟩
  exact for_keys (Pv od) (h0 od H1 e1) (fun i σ H' _ p => hl od i σ H' p) (fun i k v σ' H' hi p => hs od i k v σ' H' _ hi p rfl) (fun σ' H' p => ⟨hl od _ σ' H' p, hz od σ' H' p⟩)
section
variable {K : PySem.W.Frag} {σ : L2.St} {H : Hp} {ta tb td ty tv : TE} {D : Ends}
theorem ev_dget {d : Addr} {kvs : List (Key × V)} {n : Nat} {v : V} (hd : Ev td σ H (.ref d)) (hy : Ev ty σ H (nI n)) (h : Rd H d (.dK kvs)) (hv : valV kvs (Sum.inl (n : Int)) = some v) : Ev (tDGet td ty) σ H v := fun H1 e Q q =>
  hd H1 e _ fun H2 e2 => hy H2 (e.trans e2) _ fun H3 e3 => ⟨d, v, rfl, Or.inl ⟨kvs, Sum.inl (n : Int), ex_rd ((e.trans e2).trans e3) h, rfl, hv.symm⟩, q H3 (e2.trans e3)⟩
theorem et_notin {d : Addr} {kvs : List (Key × V)} {n : Nat} (hy : Ev ty σ H (nI n)) (hd : Ev td σ H (.ref d)) (h : Rd H d (.dK kvs)) : EvT (tB (tDNotIn ty td)) σ H (!(valV kvs (Sum.inl (n : Int))).isSome) := fun H1 e Q q =>
  hy H1 e _ fun H2 e2 => hd H2 (e.trans e2) _ fun H3 e3 => ⟨d, _, rfl, Or.inl ⟨kvs, Sum.inl (n : Int), ex_rd ((e.trans e2).trans e3) h, rfl, rfl⟩, _, rfl, q H3 (e2.trans e3)⟩
theorem s_dput {d : Addr} {kvs : List (Key × V)} {n : Nat} {xs : List V} (hv : EvL tv σ H xs) (hd : Ev td σ H (.ref d)) (hy : Ev ty σ H (nI n)) (h : H d = some (.dK kvs)) (hz : kvs.length < sizeLine) (k : ∀ l H1, H l = none → Ex H H1 → H1 l = some (.lst xs) → D.nx σ (upd H1 d (.dK (putK kvs (Sum.inl (n : Int)) (.ref l))))) : sDPut td ty tv D σ H :=
  hv H (Ex.refl H) _ fun l H1 hl e1 h1 => hd H1 e1 _ fun H2 e2 => hy H2 (e1.trans e2) _ fun H3 e3 => ⟨d, _, rfl, DPut.k (k := Sum.inl (n : Int)) (((e1.trans e2).trans e3) _ _ h) hz, k l H3 hl ((e1.trans e2).trans e3) (e3 _ _ (e2 _ _ h1))⟩
theorem el_cat {l : Addr} {xs ys : List V} (ha : Ev ta σ H (.ref l)) (h : H l = some (.lst xs)) (hb : EvL tb σ H ys) (hz : xs.length + ys.length ≤ 100000) : EvL (tOp rCat ta tb) σ H (xs ++ ys) := fun H1 e Q q =>
  ha H1 e _ fun H2 e2 => hb H2 (e.trans e2) _ fun p H3 hp e3 h3 => ⟨l, p, xs, ys, rfl, rfl, ((e.trans e2).trans e3) _ _ h, h3, sz_of hz, fun r hr => q r _ (fresh_back (e2.trans e3) hr) ((e2.trans e3).trans (Ex.new hr)) upd_same⟩
theorem el_catN {xs ys : List V} (ha : EvL ta σ H xs) (hb : EvL tb σ H ys) (hz : xs.length + ys.length ≤ 100000) : EvL (tOp rCat ta tb) σ H (xs ++ ys) := fun H1 e Q q =>
  ha H1 e _ fun l H2 hl e2 h2 => hb H2 (e.trans e2) _ fun p H3 hp e3 h3 => ⟨l, p, xs, ys, rfl, rfl, e3 _ _ h2, h3, sz_of hz, fun r hr => q r _ (fresh_back (e2.trans e3) hr) ((e2.trans e3).trans (Ex.new hr)) upd_same⟩
theorem el_catR {l : Addr} {xs ys : List V} (ha : EvL ta σ H xs) (hb : Ev tb σ H (.ref l)) (h : H l = some (.lst ys)) (hz : xs.length + ys.length ≤ 100000) : EvL (tOp rCat ta tb) σ H (xs ++ ys) := fun H1 e Q q =>
  ha H1 e _ fun p H2 hp e2 h2 => hb H2 (e.trans e2) _ fun H3 e3 => ⟨p, l, xs, ys, rfl, rfl, e3 _ _ h2, ((e.trans e2).trans e3) _ _ h, sz_of hz, fun r hr => q r _ (fresh_back (e2.trans e3) hr) ((e2.trans e3).trans (Ex.new hr)) upd_same⟩
end
section
variable {P : Program} {w : World} {K : PySem.W.Frag} {mg : Str → Option Value} {base : Heap} {CR CA CE CW : Addr}
def spStepOn (CR CW : Addr) : Sp := fun vs H Q _ => ∃ (a p : Addr) (d : Kp372.Desk) (ag g n : Nat) (L : Rows), vs = [.ref a, .ref p, nI ag, nI g] ∧ WR CR CW H a d ∧ Good d ∧ RowsIn H p L ∧ KeysOk d.world.m n L ∧ n ≤ 1000 ∧ RetP (fun v H' => ∃ q, v = .ref q ∧ RowsIn H' q (stepRows d g ag L)) H Q
theorem step_on_p {H : Hp} {a p : Addr} {d : Kp372.Desk} {ag g n : Nat} {L : Rows} (h : WR CR CW H a d) (G : Good d) (hR : RowsIn H p L) (hk : KeysOk d.world.m n L) (hn : n ≤ 1000) : SpP (spStepOn CR CW) [.ref a, .ref p, nI ag, nI g] H (fun v H' => ∃ q, v = .ref q ∧ RowsIn H' q (stepRows d g ag L)) :=
  fun H1 e Q q E => ⟨a, p, d, ag, g, n, L, rfl, h.ex e, G, hR.ex e, hk, hn, q⟩
theorem ok_step_on (T : Top K mg CR CA CE CW) : GOk P w K mg base 4 "rows_one_step_on" ["world", "rows", "against", "guard"] (spStepOn CR CW) := by
  refine T.dRowsOneStepOn.ok scRowsOneStepOn (fun vs H Q E h => ?_) (fun _ _ _ _ _ _ us hl => match us, hl with | [_, _, _, _], _ => rfl) (fun f cdv A outer s H vs Q E hr h => ?_)
  · obtain ⟨a, p, d, ag, g, n, L, rfl, _⟩ := h
    rfl
  · obtain ⟨a, p, d, ag, g, n, L, rfl, W0, G, ⟨kvs, hp, hR⟩, hk, hn, k⟩ := h
    have hu := hu_of hr
    refine ⟨_, pss_cons (ps_set (i := 4) scRowsOneStepOn.nd rfl (Or.inl rfl) pe_dnewK)
      (pss_cons (ps_lock (ps_for PassesOwn.never rfl (pi_keys (pv 1)) (pg_name (i := 5) scRowsOneStepOn.nd rfl (Or.inl rfl))
        (pss_one (ps_for PassesOwn.never rfl (pi_range1 rfl T.b_range (pa_cons (pe_op op_add (pe_m0 (ok_waiting T) hr (pv 0)) pe_int) pa_nil)) (pg_name (i := 6) scRowsOneStepOn.nd rfl (Or.inl rfl))
          (pss_one (ps_if (pt_val (pe_m (ok_can_choose T) hr (pv 0) (pa_cons (pv 6) (pa_cons (pv 5) pa_nil))))
            (pss_cons (ps_set (i := 7) scRowsOneStepOn.nd rfl (Or.inl rfl) (pe_m (ok_choose T) hr (pv 0) (pa_cons (pv 6) (pa_cons (pv 5) pa_nil))))
              (pss_one (ps_if (PW.pt (pw_and (pt_cmp (pc_dnotin hu (pv 7) (pv 4))) (pw_and1 (pt_cmpR op_eq (pe_op op_and (pe_op op_xor (pv 7) (pv 2)) (pv 3)) pe_int (nomark _)))))
                (pss_one (ps_dput hu (pv 4) (pv 7) (pe_op op_cat (pe_dget hu (pv 1) (pv 5) (fun _ _ => rfl)) (pe_lst (pa_cons (pv 6) pa_nil))) rfl)) pss_nil))) pss_nil))))))
      (pss_one (ps_ret (pv 4)))), ?_⟩
    -- longer = {}
    intro q hq
    have hne : p ≠ q := ne_of_none hp hq
    have hp1 : upd H q (.dK []) p = some (.dK kvs) := by rw [upd_ne hne]; exact hp
    have e1 : Ex H (upd H q (.dK [])) := Ex.new hq
    -- the outer walk
    refine q_forK (j := 5) hp1 (fun H1 => ev_var rfl) (fun od i σ H' => ∃ (v5 v6 v7 : Option V) (kv2 : List (Key × V)), σ = [some (.ref a), some (.ref p), some (nI ag), some (nI g), some (.ref q), v5, v6, v7] ∧ Ex (upd H p (.frz od (.dK kvs))) H' ∧ H' q = some (.dK kv2) ∧ DR H' kv2 ((L.take i).foldl (oneState d g ag) []))
      (fun od H1 e => ⟨none, none, none, [], rfl, fun b o hb => ?_, e _ _ (by rw [upd_ne (Ne.symm hne)]; exact upd_same), trivial⟩) (fun od i σ H' ⟨_, _, _, _, _, e, _⟩ => e _ _ upd_same) ?_ ?_
    · refine e b o ?_
      by_cases hbp : b = p
      · subst hbp
        rw [upd_same] at hb ⊢
        exact hb
      · rw [upd_ne hbp] at hb ⊢
        rw [upd_ne (ne_of_none hb hq)]
        exact hb
    · rintro od i key v σ H' D' hi ⟨v5, v6, v7, kv2, rfl, e, hq', hD⟩ hD'
      obtain ⟨s, r, hL, rfl⟩ := hR.get hi
      have hmem : (s, r) ∈ L := List.mem_of_getElem? hL
      have hs : s < 2 ^ d.world.m := hk.lt _ hmem
      have hrl : r.length ≤ n := hk.rl _ hmem
      obtain ⟨lr, hval, hlr⟩ := hR.some (find_key hk.nd hL)
      have Wl : WR CR CW (upd H p (.frz od (.dK kvs))) a d := W0.kp (kp_lock hp)
      have hlr' : upd H p (.frz od (.dK kvs)) lr = some (.lst (lI r)) := kp_lock hp _ _ hlr rfl
      have hql : upd H p (.frz od (.dK kvs)) q = none := by rw [upd_ne (Ne.symm hne)]; exact hq
      have hpl : Rd (upd H p (.frz od (.dK kvs))) p (.dK kvs) := Or.inr ⟨od, upd_same⟩
      have K0 : KeysOk d.world.m (n + 1) ((L.take i).foldl (oneState d g ag) []) := keys_states G _ (fun x hx => ⟨hk.lt x (List.mem_of_mem_take hx), hk.rl x (List.mem_of_mem_take hx)⟩) keys_nil
      generalize hacc : (L.take i).foldl (oneState d g ag) [] = acc at hD K0
      obtain ⟨dx, ld, le, lw, ads, aes, W⟩ := id Wl
      refine s_forR1 (n := ((d.world.deeds.length + 1 : Nat) : Int)) (ea_cons (ev_addN (b := 1) (ev_meth (ev_var rfl) (e _ _ W.ins) wF_waiting ea_nil (waiting_v (Wl.ex e))) ev_c) ea_nil) ⟨by omega, by have := G.nd; omega⟩
        (fun c σ H' => ∃ (v6 v7 : Option V) (kv2 : List (Key × V)), σ = [some (.ref a), some (.ref p), some (nI ag), some (nI g), some (.ref q), some (nI s), v6, v7] ∧ Ex (upd H p (.frz od (.dK kvs))) H' ∧ H' q = some (.dK kv2) ∧ DR H' kv2 ((List.range c).foldl (oneChoice d g ag (s, r)) acc))
        (fun H1 e1 => ⟨v6, v7, kv2, rfl, e.trans e1, e1 _ _ hq', hD.kp (Ex.kp e1)⟩) ?_ ?_
      · rintro c σ H1 hc ⟨u6, u7, kv3, rfl, e1, hq1, hD1⟩
        have hc' : c ≤ d.world.deeds.length := by omega
        have K1 : KeysOk d.world.m (n + 1) ((List.range c).foldl (oneChoice d g ag (s, r)) acc) := keys_fold G hs hrl _ K0
        have hz : kv3.length < sizeLine := by
          have h1 := hD1.len
          have h2 := K1.len
          have h3 : 2 ^ d.world.m ≤ 2 ^ 5 := Nat.pow_le_pow_right (by decide) G.m5
          rw [h1]
          exact Nat.lt_of_le_of_lt (Nat.le_trans h2 h3) (by decide)
        rw [List.range_succ, List.foldl_append]
        generalize (List.range c).foldl (oneChoice d g ag (s, r)) acc = acc1 at hD1 K1
        show tIfS _ _ _ _ _ _
        have hone : [c].foldl (oneChoice d g ag (s, r)) acc1 = oneChoice d g ag (s, r) acc1 c := rfl
        rw [hone]
        refine s_if (et_B (ev_meth (ev_var rfl) (e1 _ _ W.ins) wF_can_choose (ea_cons (ev_var rfl) (ea_cons (ev_var rfl) ea_nil)) (can_choose_v (Wl.ex e1) hc'))) (fun hb H2 e2 => ?_) (fun hb H2 e2 => ?_)
        · cases hst : Kp371.stepBy d.world s c with
          | none =>
            rw [hst] at hb
            cases hb
          | some t =>
            have hst' : oneChoice d g ag (s, r) acc1 c = addRow g ag r acc1 c t := by
              unfold oneChoice
              rw [hst]
            rw [hst']
            have e12 := e1.trans e2
            refine q_asg (ev_meth (ev_var rfl) (e12 _ _ W.ins) wF_behind_choice (ea_cons (ev_var rfl) (ea_cons (ev_var rfl) ea_nil)) (choose_v (Wl.ex e12) hst)) fun H3 e3 => ?_
            have e13 := e12.trans e3
            have hD3 : DR H3 kv3 acc1 := hD1.kp (Ex.kp (e2.trans e3))
            have hq3 : H3 q = some (.dK kv3) := e3 _ _ (e2 _ _ hq1)
            refine s_when (et_and (et_notin (ev_var rfl) (ev_var rfl) (Or.inl hq3)) fun _ => et_test (ev_eqN (b := 0) (ev_bAnd (ev_bXor (ev_var rfl) (ev_var rfl)) (ev_var rfl)) ev_c)) (fun hb2 H4 e4 => ?_) (fun hb2 H4 e4 => ?_)
            · rw [hD3.has, Bool.and_eq_true, Bool.not_eq_true', decide_eq_true_eq] at hb2
              unfold addRow
              rw [if_pos hb2]
              have e14 := e13.trans e4
              refine s_dput (el_cat (ev_dget (ev_var rfl) (ev_var rfl) (ex_rd e14 hpl) hval) (e14 _ _ hlr') (el_lst (ea_cons (ev_var rfl) ea_nil) (by show 1 ≤ 100000; decide)) (by rw [List.length_map]; show r.length + 1 ≤ 100000; omega)) (ev_var rfl) (ev_var rfl) (e4 _ _ hq3) hz fun l H5 hl e5 h5 => ?_
              refine ⟨some (nI c), some (nI t), _, rfl, Ex.mut (e14.trans e5) hql, upd_same, ?_⟩
              have e45 : Kp H3 (upd H5 q (.dK (putK kv3 (Sum.inl (t : Int)) (.ref l)))) := (Ex.kp (e4.trans e5)).trans (kp_lock ((e4.trans e5) _ _ hq3))
              rw [putK_new _ (hD3.none hb2.1)]
              rw [putK_new _ (hD3.none hb2.1)] at e45
              refine DR.snoc ?_ (hD3.kp e45)
              have hne2 : l ≠ q := ne_of h5 ((e4.trans e5) _ _ hq3) (by intro z; cases z)
              rw [upd_ne hne2, h5, lI_snoc]
            · rw [hD3.has, Bool.and_eq_false_iff, Bool.not_eq_false', decide_eq_false_iff_not] at hb2
              unfold addRow
              rw [if_neg (by
                rintro ⟨x, y⟩
                rcases hb2 with z | z
                · rw [x] at z
                  cases z
                · exact z y)]
              exact ⟨some (nI c), some (nI t), kv3, rfl, e13.trans e4, e4 _ _ hq3, hD3.kp (Ex.kp e4)⟩
        · have hst : Kp371.stepBy d.world s c = none := by
            cases hst : Kp371.stepBy d.world s c with
            | none => rfl
            | some t =>
              rw [hst] at hb
              cases hb
          have hst' : oneChoice d g ag (s, r) acc1 c = acc1 := by
            unfold oneChoice
            rw [hst]
          rw [hst']
          exact ⟨some (nI c), u7, kv3, rfl, e1.trans e2, e2 _ _ hq1, hD1.kp (Ex.kp e2)⟩
      · rintro σ H1 ⟨u6, u7, kv3, rfl, e1, hq1, hD1⟩
        rw [hD']
        refine ⟨some (nI s), u6, u7, kv3, rfl, e1, hq1, ?_⟩
        rw [take_snoc hL, List.foldl_append, hacc]
        rw [Int.toNat_natCast] at hD1
        exact hD1
    · rintro od σ H' ⟨v5, v6, v7, kv2, rfl, e, hq', hD⟩
      have hpf := e _ _ upd_same
      refine s_ret (ev_var rfl) fun H1 e1' => k _ H1 ((ex_unlock hp e).trans e1') ⟨q, rfl, kv2, ?_, ?_⟩
      · refine e1' _ _ ?_
        rw [upd_ne (Ne.symm hne)]
        exact hq'
      · rw [hR.len, List.take_length] at hD
        exact (hD.kp (kp_unlock hpf)).kp (Ex.kp e1')
end
end LC

namespace LC
open PySem PySem.Spec PyProof.Rows L2 Evl
/-! ### what stays where a list of other things than numbers grows -/
def Ob2 (o : HO) : Prop := (∃ C dx fs, o = .ins C dx fs) ∨ ∃ r, o = .lst (lI r)
def Kn (H H' : Hp) : Prop := ∀ b o, H b = some o → Ob2 o → H' b = some o
theorem Kp.kn {H H' : Hp} (k : Kp H H') : Kn H H' := fun b o h i => k b o h (by
  rcases i with ⟨C, dx, fs, rfl⟩ | ⟨r, rfl⟩ <;> rfl)
theorem kn_upd {H : Hp} {q : Addr} {vs : List V} {o : HO} (hq : H q = some (.lst vs)) (hv : ∀ r, vs ≠ lI r) : Kn H (upd H q o) := fun b u h i => by
  have : b ≠ q := ne_of h hq (fun e => by
    rcases i with ⟨C, dx, fs, z⟩ | ⟨r, z⟩
    · rw [z] at e
      cases e
    · rw [z] at e
      injection e with e
      exact hv r e.symm)
  rw [upd_ne this]
  exact h
theorem DR.kn {H H' : Hp} (s : Kn H H') : ∀ {kvs : List (Key × V)} {L : Rows}, DR H kvs L → DR H' kvs L
  | [], [], _ => trivial
  | _ :: _, _ :: _, ⟨⟨h1, l, h2, h3⟩, h⟩ => ⟨⟨h1, l, h2, s _ _ h3 (Or.inr ⟨_, rfl⟩)⟩, DR.kn s h⟩
theorem EndAt.kn {CE : Addr} {H H' : Hp} {v : V} {c : Nat} {r : List Nat} (s : Kn H H') (h : EndAt CE H v c r) : EndAt CE H' v c r := by
  obtain ⟨a, dx, l, e, h1, h2⟩ := h
  exact ⟨a, dx, l, e, s _ _ h1 (Or.inl ⟨_, _, _, rfl⟩), s _ _ h2 (Or.inr ⟨_, rfl⟩)⟩
/-! ### endings -/
def EndO (CE : Addr) (H : Hp) (v : V) : End → Prop
  | none => v = .non
  | some n => EndAt CE H v n.1 n.2
theorem EndO.kp {CE : Addr} {H H' : Hp} {v : V} (s : Kp H H') : ∀ {e : End}, EndO CE H v e → EndO CE H' v e
  | none, h => h
  | some _, h => EndAt.kp s h
theorem EndO.isNon {CE : Addr} {H : Hp} {v : V} {e : End} (h : EndO CE H v e) : decide (v = V.non) = e.isNone := by
  cases e with
  | none =>
    have : v = .non := h
    subst this
    rfl
  | some n =>
    obtain ⟨a, dx, l, rfl, _⟩ := h
    rfl
theorem EndO.kn {CE : Addr} {H H' : Hp} {v : V} (s : Kn H H') : ∀ {e : End}, EndO CE H v e → EndO CE H' v e
  | none, h => h
  | some _, h => EndAt.kn s h
def EndsIn (CE : Addr) (H : Hp) (vs : List V) (es : List End) : Prop := vs.length = es.length ∧ ∀ (i : Nat) (v : V) (e : End), vs[i]? = some v → es[i]? = some e → EndO CE H v e
theorem EndsIn.kp {CE : Addr} {H H' : Hp} {vs : List V} {es : List End} (s : Kp H H') (h : EndsIn CE H vs es) : EndsIn CE H' vs es := ⟨h.1, fun i v e h1 h2 => (h.2 i v e h1 h2).kp s⟩
theorem EndsIn.kn {CE : Addr} {H H' : Hp} {vs : List V} {es : List End} (s : Kn H H') (h : EndsIn CE H vs es) : EndsIn CE H' vs es := ⟨h.1, fun i v e h1 h2 => EndO.kn s (h.2 i v e h1 h2)⟩
theorem EndsIn.noNat {CE : Addr} {H : Hp} {vs : List V} {es : List End} (h : EndsIn CE H vs es) (hn : es ≠ []) : ∀ r, vs ≠ lI r := by
  intro r e
  have hl : 0 < es.length := List.length_pos_iff.mpr hn
  have hv : 0 < vs.length := by rw [h.1]; exact hl
  have h1 : vs[0]? = some vs[0] := List.getElem?_eq_getElem hv
  have ho := h.2 0 vs[0] es[0] h1 (List.getElem?_eq_getElem hl)
  obtain ⟨c, _, hc⟩ := map_nI (as := r) (i := 0) (x := vs[0]) (by rw [← e]; exact h1)
  rw [hc] at ho
  cases he : es[0] with
  | none =>
    rw [he] at ho
    cases ho
  | some n =>
    rw [he] at ho
    obtain ⟨a, dx, l, z, _⟩ := ho
    cases z
theorem EndsIn.snoc {CE : Addr} {H : Hp} {vs : List V} {es : List End} {v : V} {e : End} (h : EndsIn CE H vs es) (hv : EndO CE H v e) : EndsIn CE H (vs ++ [v]) (es ++ [e]) := by
  refine ⟨by simp [h.1], fun i x y h1 h2 => ?_⟩
  by_cases hi : i < vs.length
  · rw [List.getElem?_append_left hi] at h1
    rw [List.getElem?_append_left (by rw [← h.1]; exact hi)] at h2
    exact h.2 i x y h1 h2
  · rw [List.getElem?_append_right (by omega)] at h1
    rw [List.getElem?_append_right (by rw [← h.1]; omega), ← h.1] at h2
    have hlt := (List.getElem?_eq_some_iff.mp h1).1
    have h0 : i - vs.length = 0 := by
      simp at hlt
      omega
    rw [h0] at h1 h2
    have e1 : v = x := by simpa using h1
    have e2 : e = y := by simpa using h2
    subst e1
    subst e2
    exact hv
section
variable {K : PySem.W.Frag} {σ : L2.St} {H : Hp} {ta te : TE} {D : Ends} {tz : TS}
theorem s_asgP {i : Nat} {R : V → Hp → Prop} (h : EvP te σ H R) (k : ∀ v H1, Ex H H1 → R v H1 → D.nx (σ.set i (some v)) H1) : tAsg te (gName i) D σ H := h H (Ex.refl H) _ fun v H1 e r => k v H1 e r
theorem q_asgP {i : Nat} {R : V → Hp → Prop} (h : EvP te σ H R) (k : ∀ v H1, Ex H H1 → R v H1 → tz D (σ.set i (some v)) H1) : tSeq (tAsg te (gName i)) tz D σ H := s_asgP (D := { D with nx := tz D }) h k
theorem s_retP {R : V → Hp → Prop} (h : EvP te σ H R) (k : ∀ v H1, Ex H H1 → R v H1 → D.rt v H1) : tRet te D σ H := h H (Ex.refl H) _ fun v H1 e r => k v H1 e r
theorem ev_isN {v : V} (h : Ev ta σ H v) : Ev (tOp (fun x y H Q => y = .non ∧ Q (.bl (decide (x = .non))) H) ta (tC .non)) σ H (.bl (decide (v = .non))) := fun H1 e Q q => h H1 e _ fun H2 e2 => ⟨rfl, q H2 e2⟩
theorem ev_notN {v : V} (h : Ev ta σ H v) : Ev (tOp (fun x y H Q => y = .non ∧ Q (.bl (!decide (x = .non))) H) ta (tC .non)) σ H (.bl (!decide (v = .non))) := fun H1 e Q q => h H1 e _ fun H2 e2 => ⟨rfl, q H2 e2⟩
end
def lessB : End → Nat → Bool
  | none, _ => false
  | some n, c => decide (c < n.1)
theorem less_step (d : Kp372.Desk) (a w ag : Nat) (m : End) (p : Nat × List Nat) (ha : Kp371.isAim a w p.1 = true) (hb : (m.isNone || lessB m (Kp372.cost d a p.1 ag)) = true) : oneLeast d a w ag m p = some (Kp372.cost d a p.1 ag, p.2) := by
  unfold oneLeast
  rw [if_pos ha]
  cases m with
  | none => rfl
  | some n =>
    have : Kp372.cost d a p.1 ag < n.1 := by simpa [lessB] using hb
    simp [this]
theorem less_stay (d : Kp372.Desk) (a w ag : Nat) (m : End) (p : Nat × List Nat) (ha : Kp371.isAim a w p.1 = true) (hb : (m.isNone || lessB m (Kp372.cost d a p.1 ag)) = false) : oneLeast d a w ag m p = m := by
  unfold oneLeast
  rw [if_pos ha]
  cases m with
  | none => simp at hb
  | some n =>
    have : ¬ Kp372.cost d a p.1 ag < n.1 := by simpa [lessB] using hb
    simp [this]
section
variable {P : Program} {w : World} {K : PySem.W.Frag} {mg : Str → Option Value} {base : Heap} {CR CA CE CW : Addr}
def spFirstLeast (CR CW CA CE : Addr) : Sp := fun vs H Q _ => ∃ (a ai p : Addr) (d : Kp372.Desk) (m u ag n : Nat) (L : Rows), vs = [.ref a, .ref ai, .ref p, nI ag] ∧ WR CR CW H a d ∧ Good d ∧ AimAt CA H ai m u ∧ m < 2 ^ d.world.m ∧ ag < 2 ^ d.world.m ∧ RowsIn H p L ∧ KeysOk d.world.m n L ∧ RetP (fun v H' => EndO CE H' v (firstLeast d m u ag L)) H Q
theorem first_least_p {H : Hp} {a ai p : Addr} {d : Kp372.Desk} {m u ag n : Nat} {L : Rows} (h : WR CR CW H a d) (G : Good d) (hA : AimAt CA H ai m u) (hm : m < 2 ^ d.world.m) (hag : ag < 2 ^ d.world.m) (hR : RowsIn H p L) (hk : KeysOk d.world.m n L) :
    SpP (spFirstLeast CR CW CA CE) [.ref a, .ref ai, .ref p, nI ag] H (fun v H' => EndO CE H' v (firstLeast d m u ag L)) := fun H1 e Q q E => ⟨a, ai, p, d, m, u, ag, n, L, rfl, h.ex e, G, hA.ex e, hm, hag, hR.ex e, hk, q⟩
theorem ok_first_least (T : Top K mg CR CA CE CW) : GOk P w K mg base 4 "first_least" ["world", "aim", "rows", "against"] (spFirstLeast CR CW CA CE) := by
  refine T.dFirstLeast.ok scFirstLeast (fun vs H Q E h => ?_) (fun _ _ _ _ _ _ us hl => match us, hl with | [_, _, _, _], _ => rfl) (fun f cdv A outer s H vs Q E hr h => ?_)
  · obtain ⟨a, ai, p, d, m, u, ag, n, L, rfl, _⟩ := h
    rfl
  · obtain ⟨a, ai, p, d, m, u, ag, n, L, rfl, W0, G, A0, hm, hag, ⟨kvs, hp, hR⟩, hk, k⟩ := h
    have hu := hu_of hr
    refine ⟨_, pss_cons (ps_set (i := 4) scFirstLeast.nd rfl (Or.inl rfl) pe_non)
      (pss_cons (ps_lock (ps_for PassesOwn.never rfl (pi_keys (pv 2)) (pg_name (i := 5) scFirstLeast.nd rfl (Or.inl rfl))
        (pss_one (ps_if (pt_val (pe_m (ok_is_met T) hr (pv 1) (pa_cons (pv 5) pa_nil)))
          (pss_cons (ps_set (i := 6) scFirstLeast.nd rfl (Or.inl rfl) (pe_m (ok_changed T) hr (pv 0) (pa_cons (pv 1) (pa_cons (pv 5) (pa_cons (pv 3) pa_nil)))))
            (pss_one (ps_if (PW.pt (pw_or (pt_cmpR op_isN (pv 4) pe_non (nomark _)) (pw_or1 (pt_cmpR op_lt (pv 6) (pe_fld (pv 4) rfl) (nomark _)))))
              (pss_one (ps_set (i := 4) scFirstLeast.nd rfl (Or.inl rfl) (pe_new (ok_end_init T) hr (pa_cons (pv 6) (pa_cons (pe_dget hu (pv 2) (pv 5) (fun _ _ => rfl)) pa_nil))))) pss_nil))) pss_nil))))
      (pss_one (ps_ret (pv 4)))), ?_⟩
    refine q_asg ev_c fun H0 e0 => ?_
    have hp0 : H0 p = some (.dK kvs) := e0 _ _ hp
    refine q_forK (j := 5) hp0 (fun H1 => ev_var rfl) (fun od i σ H' => ∃ (v4 : V) (v5 v6 : Option V), σ = [some (.ref a), some (.ref ai), some (.ref p), some (nI ag), some v4, v5, v6] ∧ Ex (upd H0 p (.frz od (.dK kvs))) H' ∧ EndO CE H' v4 ((L.take i).foldl (oneLeast d m u ag) none))
      (fun od H1 e => ⟨.non, none, none, rfl, e, rfl⟩) (fun od i σ H' ⟨_, _, _, _, e, _⟩ => e _ _ upd_same) ?_ ?_
    · rintro od i key v σ H' D' hi ⟨v4, v5, v6, rfl, e, hE⟩ hD'
      obtain ⟨s, r, hL, rfl⟩ := hR.get hi
      have hmem : (s, r) ∈ L := List.mem_of_getElem? hL
      have hs : s < 2 ^ d.world.m := hk.lt _ hmem
      obtain ⟨lr, hval, hlr⟩ := hR.some (find_key hk.nd hL)
      have kl : Kp H (upd H0 p (.frz od (.dK kvs))) := (Ex.kp e0).trans (kp_lock hp0)
      have Wl : WR CR CW (upd H0 p (.frz od (.dK kvs))) a d := W0.kp kl
      have Al : AimAt CA (upd H0 p (.frz od (.dK kvs))) ai m u := A0.kp kl
      have hlr' : upd H0 p (.frz od (.dK kvs)) lr = some (.lst (lI r)) := kl _ _ hlr rfl
      have hpl : Rd (upd H0 p (.frz od (.dK kvs))) p (.dK kvs) := Or.inr ⟨od, upd_same⟩
      obtain ⟨dx, ld, le, lw, ads, aes, W⟩ := id Wl
      obtain ⟨da, hda⟩ := id Al
      have hnext : (L.take (i + 1)).foldl (oneLeast d m u ag) none = oneLeast d m u ag ((L.take i).foldl (oneLeast d m u ag) none) (s, r) := by
        rw [take_snoc hL, List.foldl_append]
        rfl
      generalize (L.take i).foldl (oneLeast d m u ag) none = e4 at hE hnext
      refine s_if (et_B (ev_meth (ev_var rfl) (e _ _ hda) aF_is_met (ea_cons (ev_var rfl) ea_nil) (is_met_v (Al.ex e)))) (fun hb H2 e2 => ?_) (fun hb H2 e2 => ?_)
      · have e02 := e.trans e2
        refine q_asg (ev_meth (ev_var rfl) (e02 _ _ W.ins) wF_weight_changed (ea_cons (ev_var rfl) (ea_cons (ev_var rfl) (ea_cons (ev_var rfl) ea_nil))) (changed_v (Wl.ex e02) G (Al.ex e02) hm hs hag)) fun H3 e3 => ?_
        have e03 := e02.trans e3
        have hE3 : EndO CE H3 v4 e4 := hE.kp (Ex.kp (e2.trans e3))
        refine s_when (et_is (et_or (et_test (ev_isN (ev_var rfl))) (b := lessB e4 (Kp372.cost d m s ag)) fun hf => ?_) (by rw [hE3.isNon])) (fun hb2 H4 e4' => ?_) (fun hb2 H4 e4' => ?_)
        · cases e4 with
          | none =>
            have : v4 = .non := hE3
            subst this
            cases hf
          | some n4 =>
            obtain ⟨q4, dq, lq, rfl, hq1, hq2⟩ := (show EndAt CE H3 v4 n4.1 n4.2 from hE3)
            exact et_test (ev_ltN (ev_var rfl) (ev_fld (ev_var rfl) hq1 T.cEnding T.nEnding_changed eF_changed))
        · have e04 := e03.trans e4'
          refine s_asgP (end_new (CE := CE) (l := lr) (r := r) (ea_cons (ev_var rfl) (ea_cons (ev_dget (ev_var rfl) (ev_var rfl) (ex_rd e04 hpl) hval) ea_nil)) (e04 _ _ hlr')) fun v H5 e5 hv => ?_
          rw [hD']
          refine ⟨v, some (nI s), some (nI (Kp372.cost d m s ag)), rfl, e04.trans e5, ?_⟩
          rw [hnext, less_step d m u ag e4 (s, r) hb hb2]
          exact hv
        · show D'.nx _ H4
          rw [hD']
          refine ⟨v4, some (nI s), some (nI (Kp372.cost d m s ag)), rfl, e03.trans e4', ?_⟩
          rw [hnext, less_stay d m u ag e4 (s, r) hb hb2]
          exact hE3.kp (Ex.kp e4')
      · show D'.nx _ H2
        rw [hD']
        refine ⟨v4, some (nI s), v6, rfl, e.trans e2, ?_⟩
        rw [hnext]
        unfold oneLeast
        rw [if_neg (by rw [hb]; exact Bool.false_ne_true)]
        exact hE.kp (Ex.kp e2)
    · rintro od σ H' ⟨v4, v5, v6, rfl, e, hE⟩
      have hpf := e _ _ upd_same
      rw [hR.len, List.take_length] at hE
      exact s_ret (ev_var rfl) fun H1 e1 => k _ H1 ((e0.trans (ex_unlock hp0 e)).trans e1) ((hE.kp (kp_unlock hpf)).kp (Ex.kp e1))
/-! ### step by step -/
def EndsAt (CE : Addr) (es : List End) (v : V) (H : Hp) : Prop := ∃ l vs, v = .ref l ∧ H l = some (.lst vs) ∧ EndsIn CE H vs es
theorem EndsAt.ex {es : List End} {v : V} {H H' : Hp} (s : Ex H H') (h : EndsAt CE es v H) : EndsAt CE es v H' := by
  obtain ⟨l, vs, e, h1, h2⟩ := h
  exact ⟨l, vs, e, s _ _ h1, h2.kp (Ex.kp s)⟩
def spBySteps (CR CW CA CE : Addr) : Sp := fun vs H Q _ => ∃ (a ai : Addr) (d : Kp372.Desk) (m u b g n : Nat), vs = [.ref a, .ref ai, nI b, nI g, nI n] ∧ WR CR CW H a d ∧ Good d ∧ AimAt CA H ai m u ∧ m < 2 ^ d.world.m ∧ n ≤ 900 ∧ RetP (EndsAt CE (ends d m u b g n)) H Q
theorem by_steps_p {H : Hp} {a ai : Addr} {d : Kp372.Desk} {m u b g n : Nat} (h : WR CR CW H a d) (G : Good d) (hA : AimAt CA H ai m u) (hm : m < 2 ^ d.world.m) (hn : n ≤ 900) :
    SpP (spBySteps CR CW CA CE) [.ref a, .ref ai, nI b, nI g, nI n] H (EndsAt CE (ends d m u b g n)) := fun H1 e Q q E => ⟨a, ai, d, m, u, b, g, n, rfl, h.ex e, G, hA.ex e, hm, hn, q⟩
theorem ok_by_steps (T : Top K mg CR CA CE CW) : GOk P w K mg base 6 "endings_by_steps" ["world", "aim", "by_itself", "guard", "most"] (spBySteps CR CW CA CE) := by
  refine T.dEndingsBySteps.ok scEndingsBySteps (fun vs H Q E h => ?_) (fun _ _ _ _ _ _ us hl => match us, hl with | [_, _, _, _, _], _ => rfl) (fun f cdv A outer s H vs Q E hr h => ?_)
  · obtain ⟨a, ai, d, m, u, b, g, n, rfl, _⟩ := h
    rfl
  · obtain ⟨a, ai, d, m, u, b, g, n, rfl, W0, G, A0, hm, hn, k⟩ := h
    obtain ⟨dx, ld, le, lw, ads, aes, W⟩ := id W0
    refine ⟨_, pss_cons (ps_set (i := 5) scEndingsBySteps.nd rfl (Or.inl rfl) (pe_disp (pps_cons (pe_fld (pv 0) rfl) (pe_lst pa_nil) pps_nil) (by rfl) (by rfl) (fun z => by cases z) (by decide)))
      (pss_cons (ps_set (i := 6) scEndingsBySteps.nd rfl (Or.inl rfl) (pe_lst (pa_cons (pe_g (ok_first_least T) hr (pa_cons (pv 0) (pa_cons (pv 1) (pa_cons (pv 5) (pa_cons (pe_fld (pv 0) rfl) pa_nil))))) pa_nil)))
      (pss_cons (ps_for PassesOwn.never rfl (pi_range2 rfl T.b_range (pa_cons pe_int (pa_cons (pe_op op_add (pv 4) pe_int) pa_nil))) (pg_name (i := 7) scEndingsBySteps.nd rfl (Or.inl rfl))
        (pss_cons (ps_set (i := 8) scEndingsBySteps.nd rfl (Or.inl rfl) (pe_m (ok_held T) hr (pv 0) (pa_cons (pv 2) (pa_cons (pv 7) pa_nil))))
        (pss_cons (ps_set (i := 5) scEndingsBySteps.nd rfl (Or.inl rfl) (pe_g (ok_step_on T) hr (pa_cons (pv 0) (pa_cons (pv 5) (pa_cons (pv 8) (pa_cons (pv 3) pa_nil))))))
        (pss_one (ps_expr (pe_bm PySem.F.plainAttrs_list PySem.F.slot_list_append PySem.F.type_list_append mt_append (pv 6) (pa_cons (pe_g (ok_first_least T) hr (pa_cons (pv 0) (pa_cons (pv 1) (pa_cons (pv 5) (pa_cons (pv 8) pa_nil))))) pa_nil)))))))
      (pss_one (ps_ret (pv 6))))), ?_⟩
    -- rows = {world.state: []}
    intro p hp
    have e1 : Ex H (upd H p (.dK [])) := Ex.new hp
    refine ev_fld (ev_var rfl) (e1 _ _ W.ins) T.cWorld T.nWorld_state wF_state _ (Ex.refl _) _ fun H2 e2 => ?_
    refine el_lst ea_nil (Nat.zero_le _) H2 (Ex.refl _) _ fun l H3 hl e3 h3 => ?_
    have hp3 : H3 p = some (.dK []) := e3 _ _ (e2 _ _ upd_same)
    refine ⟨hp3, [(Sum.inl (d.world.now : Int), .ref l)], rfl, by show 1 ≤ 15; decide, ?_⟩
    have hmk : mergeK [] [((Sum.inl (d.world.now : Int) : Key), V.ref l)] = [(Sum.inl (d.world.now : Int), .ref l)] := putK_new (κ := Key) _ valV_nil
    rw [hmk]
    have e4 : Ex H (upd H3 p (.dK [(Sum.inl (d.world.now : Int), .ref l)])) := Ex.mut ((e1.trans e2).trans e3) hp
    have hlp : l ≠ p := ne_of h3 hp3 (by intro z; cases z)
    have R4 : RowsIn (upd H3 p (.dK [(Sum.inl (d.world.now : Int), .ref l)])) p (rowsAt d b g 0) := ⟨_, upd_same, ⟨rfl, l, rfl, by rw [upd_ne hlp]; exact h3⟩, trivial⟩
    generalize upd H3 p (.dK [(Sum.inl (d.world.now : Int), .ref l)]) = H4 at e4 R4
    -- endings = [..]
    have hb0 := base_zero d b
    refine ep_call (ea_cons (ev_var rfl) (ea_cons (ev_var rfl) (ea_cons (ev_var rfl) (ea_cons (ev_fld (ev_var rfl) (e4 _ _ W.ins) T.cWorld T.nWorld_state wF_state) ea_nil)))) (first_least_p (n := 0) (W0.ex e4) G (A0.ex e4) hm G.now R4 (keys_rows G b g 0)) H4 (Ex.refl _) _ fun v H5 e5 hv => ?_
    refine ⟨by show 1 ≤ sizeLine; decide, fun q hq => ?_⟩
    have e6 : Ex H5 (upd H5 q (.lst [v])) := Ex.new hq
    have hqH : H q = none := fresh_back (e4.trans e5) hq
    -- the steps
    refine q_forR2 (lo := 1) (n := ((n + 1 : Nat) : Int)) (ea_cons ev_c (ea_cons (ev_addN (b := 1) (ev_var rfl) ev_c) ea_nil)) ⟨by omega, by omega, by omega, by omega⟩
      (fun i σ H' => ∃ (r : Addr) (v7 v8 : Option V) (vs : List V), σ = [some (.ref a), some (.ref ai), some (nI b), some (nI g), some (nI n), some (.ref r), some (.ref q), v7, v8] ∧ Ex H H' ∧ RowsIn H' r (rowsAt d b g i) ∧ H' q = some (.lst vs) ∧ EndsIn CE H' vs ((List.range (i + 1)).map (endAt d m u b g)))
      (fun H6 e7 => ⟨p, none, none, [v], rfl, ((e4.trans e5).trans e6).trans e7, R4.ex ((e5.trans e6).trans e7), e7 _ _ upd_same, ?_⟩) ?_ ?_
    · have hv' : EndO CE H5 v (endAt d m u b g 0) := by
        unfold endAt
        rw [hb0]
        exact hv
      refine ⟨rfl, fun i x y h1 h2 => ?_⟩
      cases i with
      | zero =>
        have q1 : v = x := by simpa using h1
        have q2 : endAt d m u b g 0 = y := by simpa using h2
        subst q1
        subst q2
        exact hv'.kp (Ex.kp (e6.trans e7))
      | succ i => simp at h1
    · rintro i σ H' hi ⟨r, v7, v8, vs, rfl, e, R, hq', hE⟩
      have hi' : i < n := by omega
      have ei : (1 : Int) + (i : Int) = ((i + 1 : Nat) : Int) := by omega
      rw [ei]
      refine q_asg (ev_meth (ev_var rfl) (e _ _ W.ins) wF_held_against (ea_cons (ev_var rfl) (ea_cons (ev_var rfl) ea_nil)) (held_v (n := i + 1) (W0.ex e) (by omega))) fun H1 e1 => ?_
      refine q_asgP (ep_call (ea_cons (ev_var rfl) (ea_cons (ev_var rfl) (ea_cons (ev_var rfl) (ea_cons (ev_var rfl) ea_nil)))) (step_on_p (n := i) (W0.ex (e.trans e1)) G (R.ex e1) (keys_rows G b g i) (by omega))) ?_
      rintro w2 H2 e2 ⟨r2, rfl, R2⟩
      have e02 := (e.trans e1).trans e2
      have hq2 : H2 q = some (.lst vs) := e2 _ _ (e1 _ _ hq')
      have hlen : vs.length = i + 1 := by
        rw [hE.1]
        simp
      refine ⟨_, rfl, Or.inl ⟨rfl, vs, sq_of hq2⟩, ?_⟩
      refine ep_call (ea_cons (ev_var rfl) (ea_cons (ev_var rfl) (ea_cons (ev_var rfl) (ea_cons (ev_var rfl) ea_nil)))) (first_least_p (n := i + 1) (W0.ex e02) G (A0.ex e02) hm (base_lt G b (i + 1)) R2 (keys_rows G b g (i + 1))) H2 (Ex.refl _) _ fun v H4' e4' hv => ?_
      refine ⟨q, vs, v, rfl, rfl, e4' _ _ hq2, ?_, ?_⟩
      · rw [hlen]
        exact Nat.lt_of_le_of_lt (by omega : i + 1 ≤ 901) (by decide)
      · have hE4 : EndsIn CE H4' vs ((List.range (i + 1)).map (endAt d m u b g)) := hE.kp (Ex.kp ((e1.trans e2).trans e4'))
        have kn : Kn H4' (upd H4' q (.lst (vs ++ [v]))) := kn_upd (e4' _ _ hq2) (hE4.noNat (by simp))
        refine ⟨r2, _, _, vs ++ [v], rfl, Ex.mut (e02.trans e4') hqH, ?_, upd_same, ?_⟩
        · obtain ⟨kv, hk1, hk2⟩ := R2.ex e4'
          have hne : r2 ≠ q := ne_of hk1 (e4' _ _ hq2) (by intro z; cases z)
          exact ⟨kv, by rw [upd_ne hne]; exact hk1, hk2.kn kn⟩
        · rw [List.range_succ, List.map_append]
          exact (hE4.kn kn).snoc (EndO.kn kn hv)
    · rintro σ H' ⟨r, v7, v8, vs, rfl, e, R, hq', hE⟩
      have en : (((n + 1 : Nat) : Int) - 1).toNat = n := by omega
      rw [en] at hE
      exact s_ret (ev_var rfl) fun H1 e1 => k _ H1 (e.trans e1) ⟨q, vs, rfl, e1 _ _ hq', hE.kp (Ex.kp e1)⟩
end
end LC

namespace LC
open PySem PySem.Spec PyProof.Rows L2 Evl
section
variable {K : PySem.W.Frag} {σ : L2.St} {H : Hp} {ta te : TE} {D : Ends} {tz : TS}
theorem ev_at {g : Addr} {xs : List V} {j : Nat} {v : V} (h : Ev ta σ H (.ref g)) (hs : SqL K H g xs) (hx : xs[j]? = some v) : Ev (tOp (rIxL K) ta (tC (.int (j : Int)))) σ H v := ev_op h ev_c (rv_ixL hs (atI_nat hx))
theorem cut_from (n : Nat) (xs : List V) : cutV xs (some (n : Int)) none = xs.drop n := by
  unfold cutV
  rw [HT.sIx_nat, HT.sIx_none]
  by_cases h : n ≤ xs.length
  · rw [Nat.min_eq_left h, List.take_of_length_le (by rw [List.length_drop]; omega)]
  · rw [Nat.min_eq_right (by omega), List.drop_length, List.drop_eq_nil_of_le (by omega), List.take_nil]
theorem cut_to (n : Nat) (xs : List V) : cutV xs none (some (n : Int)) = xs.take n := by
  unfold cutV
  rw [HT.sIx_nat, HT.sIx_none, List.drop_zero, Nat.sub_zero]
  by_cases h : n ≤ xs.length
  · rw [Nat.min_eq_left h]
  · rw [Nat.min_eq_right (by omega), List.take_length, List.take_of_length_le (by omega)]
theorem cut_mid {m n : Nat} (xs : List V) (hm : m ≤ xs.length) : cutV xs (some (m : Int)) (some (n : Int)) = (xs.drop m).take (n - m) := by
  unfold cutV
  rw [HT.sIx_nat, HT.sIx_nat, Nat.min_eq_left hm]
  by_cases h : n ≤ xs.length
  · rw [Nat.min_eq_left h]
  · rw [Nat.min_eq_right (by omega), List.take_of_length_le (by rw [List.length_drop]; omega), List.take_of_length_le (by rw [List.length_drop]; omega)]
theorem at_last (x : Nat) (l : List Nat) : atI (lI (x :: l)) (-1) = some (nI (l.getLastD x)) := by
  have h : ∀ (l : List Nat) (x : Nat), ∃ i, x :: l = i ++ [l.getLastD x] := by
    intro l
    induction l with
    | nil => exact fun x => ⟨[], rfl⟩
    | cons y l ih =>
      intro x
      obtain ⟨i, hi⟩ := ih y
      refine ⟨x :: i, ?_⟩
      rw [List.getLastD_cons, List.cons_append, ← hi]
  obtain ⟨i, hi⟩ := h l x
  rw [hi, ← lI_snoc]
  exact atI_last _ _
end
def lessE : End → End → Bool
  | some o, some n => decide (n.1 < o.1)
  | _, _ => false
theorem end_step {m e : End} (hb : (!e.isNone && (m.isNone || lessE m e)) = true) : oneEnd m e = e := by
  cases e with
  | none => simp at hb
  | some n => cases m with
    | none => rfl
    | some o =>
      have : n.1 < o.1 := by simpa [lessE] using hb
      simp [oneEnd, this]
theorem end_stay {m e : End} (hb : (!e.isNone && (m.isNone || lessE m e)) = false) : oneEnd m e = m := by
  cases e with
  | none => rfl
  | some n => cases m with
    | none => simp at hb
    | some o =>
      have : ¬ n.1 < o.1 := by simpa [lessE] using hb
      simp [oneEnd, this]
section
variable {P : Program} {w : World} {K : PySem.W.Frag} {mg : Str → Option Value} {base : Heap} {CR CA CE CW : Addr}
def spLeastEnd (CE : Addr) : Sp := fun vs H Q _ => ∃ (v : V) (es : List End), vs = [v] ∧ EndsAt CE es v H ∧ RetP (fun v H' => EndO CE H' v (leastEnd es)) H Q
theorem least_end_p {H : Hp} {v : V} {es : List End} (h : EndsAt CE es v H) : SpP (spLeastEnd CE) [v] H (fun v H' => EndO CE H' v (leastEnd es)) := fun H1 e Q q E => ⟨v, es, rfl, h.ex e, q⟩
theorem ok_least_end (T : Top K mg CR CA CE CW) : GOk P w K mg base 1 "least_ending" ["endings"] (spLeastEnd CE) := by
  refine T.dLeastEnding.ok scLeastEnding (fun vs H Q E h => ?_) (fun _ _ _ _ _ _ us hl => match us, hl with | [_], _ => rfl) (fun f cdv A outer s H vs Q E hr h => ?_)
  · obtain ⟨v, es, rfl, _⟩ := h
    rfl
  · obtain ⟨_, es, rfl, ⟨l, vs, rfl, hl, hE⟩, k⟩ := h
    refine ⟨_, pss_cons (ps_set (i := 1) scLeastEnding.nd rfl (Or.inl rfl) pe_non)
      (pss_cons (ps_for PassesOwn.never rfl (pi_list (pv 0)) (pg_name (i := 2) scLeastEnding.nd rfl (Or.inl rfl))
        (pss_one (ps_if (PW.pt (pw_and (pt_cmpR op_notN (pv 2) pe_non (nomark _)) (pw_and1 (PW.pt (pw_or (pt_cmpR op_isN (pv 1) pe_non (nomark _)) (pw_or1 (pt_cmpR op_lt (pe_fld (pv 2) rfl) (pe_fld (pv 1) rfl) (nomark _))))))))
          (pss_one (ps_set (i := 1) scLeastEnding.nd rfl (Or.inl rfl) (pv 2))) pss_nil)))
      (pss_one (ps_ret (pv 1)))), ?_⟩
    refine q_asg ev_c fun H0 e0 => ?_
    refine q_forLn (K := K) (ev_var rfl) (sq_of (e0 _ _ hl)) (fun i σ H' => ∃ (v1 : V) (v2 : Option V), σ = [some (.ref l), some v1, v2] ∧ Ex H H' ∧ EndO CE H' v1 ((es.take i).foldl oneEnd none))
      (fun H1 e1 => ⟨.non, none, rfl, e0.trans e1, rfl⟩) (fun i σ H' _ ⟨_, _, _, e, _⟩ => sq_of (e _ _ hl)) ?_ ?_
    · rintro i x σ H' hi ⟨v1, v2, rfl, e, hv1⟩
      have hil := (List.getElem?_eq_some_iff.mp hi).1
      rw [hE.1] at hil
      have hes : es[i]? = some es[i] := List.getElem?_eq_getElem hil
      have hx : EndO CE H' x es[i] := (hE.2 i x _ hi hes).kp (Ex.kp e)
      have hnext : (es.take (i + 1)).foldl oneEnd none = oneEnd ((es.take i).foldl oneEnd none) es[i] := by
        rw [take_snoc hes, List.foldl_append]
        rfl
      generalize es[i] = y at hx hnext
      generalize (es.take i).foldl oneEnd none = m at hv1 hnext
      refine s_when (et_is (et_and (et_test (ev_notN (ev_var rfl))) (b := m.isNone || lessE m y) fun hf => et_is (et_or (et_test (ev_isN (ev_var rfl))) (b := lessE m y) fun hg => ?_) (by rw [hv1.isNon])) (by rw [hx.isNon])) (fun hb H2 e2 => ?_) (fun hb H2 e2 => ?_)
      · cases m with
        | none =>
          have : v1 = .non := hv1
          subst this
          cases hg
        | some o => cases y with
          | none =>
            have : x = .non := hx
            subst this
            cases hf
          | some n =>
            obtain ⟨q1, dq1, lq1, rfl, hq1, _⟩ := (show EndAt CE H' x n.1 n.2 from hx)
            obtain ⟨q2, dq2, lq2, rfl, hq2, _⟩ := (show EndAt CE H' v1 o.1 o.2 from hv1)
            exact et_test (ev_ltN (ev_fld (ev_var rfl) hq1 T.cEnding T.nEnding_changed eF_changed) (ev_fld (ev_var rfl) hq2 T.cEnding T.nEnding_changed eF_changed))
      · refine s_asg (ev_var rfl) fun H3 e3 => ⟨x, some x, rfl, (e.trans e2).trans e3, ?_⟩
        rw [hnext, end_step hb]
        exact hx.kp (Ex.kp (e2.trans e3))
      · refine ⟨v1, some x, rfl, e.trans e2, ?_⟩
        rw [hnext, end_stay hb]
        exact hv1.kp (Ex.kp e2)
    · rintro σ H' ⟨v1, v2, rfl, e, hv1⟩
      rw [hE.1, List.take_length] at hv1
      exact s_ret (ev_var rfl) fun H1 e1 => k _ H1 (e.trans e1) (hv1.kp (Ex.kp e1))
/-! ### replies.py: small ones -/
def spAllChoices (K : PySem.W.Frag) (CR CW : Addr) : Sp := fun vs H Q _ => ∃ (a r : Addr) (d : Kp372.Desk) (l : List Nat), vs = [.ref a, .ref r] ∧ WR CR CW H a d ∧ SqL K H r (lI l) ∧ l.length ≤ 1000 ∧ RetV (.bl (l.all fun i => decide (i ≤ d.world.deeds.length))) H Q
theorem all_choices_v {H : Hp} {a r : Addr} {d : Kp372.Desk} {l : List Nat} (h : WR CR CW H a d) (hr : SqL K H r (lI l)) (hl : l.length ≤ 1000) : SpV (spAllChoices K CR CW) [.ref a, .ref r] H (.bl (l.all fun i => decide (i ≤ d.world.deeds.length))) := fun H1 e Q q E => ⟨a, r, d, l, rfl, h.ex e, ex_l e hr, hl, q⟩
theorem ok_all_choices (T : Top K mg CR CA CE CW) : GOk P w K mg base 3 "all_choices" ["world", "row"] (spAllChoices K CR CW) := by
  refine T.dAllChoices.ok scAllChoices (fun vs H Q E h => ?_) (fun _ _ _ _ _ _ us hl => match us, hl with | [_, _], _ => rfl) (fun f cdv A outer s H vs Q E hr h => ?_)
  · obtain ⟨a, r, d, l, rfl, _⟩ := h
    rfl
  · obtain ⟨a, r, d, l, rfl, W', hR, hl, k⟩ := h
    obtain ⟨dx, ld, le, lw, ads, aes, W⟩ := id W'
    refine ⟨_, pss_one (ps_ret (pe_callB (cr_all rfl) (by rfl) T.b_all (by decide +kernel) (pa_cons (pe_lc (own := [("choice", 2)]) (g := gName 2) (te := tMeth CW "is_choice" (spIsChoice CR CW) [] E0 (tVar 0) (tCons (tVar 2) tNil)) rfl scAllChoices.nd (pi_list (pv 1)) (blkOk_by (own := [("choice", 2)]) (N := ["world", "row", "choice"]) (sc := defScope sAllChoices) (by decide +kernel))
      (fun _ _ _ _ _ => pg_name (i := 2) scAllChoices.nd rfl (Or.inl rfl)) (fun _ _ _ _ _ => pts_nil) (fun _ _ _ _ _ => by exact pe_m (ok_is_choice T) (j := 2) hr (pv 0) (pa_cons (pv 2) pa_nil))) pa_nil))), ?_⟩
    refine s_ret (ev_is (ev_allN (K := K) (bs := l.map fun i => decide (i ≤ d.world.deeds.length)) (el_is (el_lcL (K := K) (fun _ => true) (fun i => .bl (decide (l.getD i 0 ≤ d.world.deeds.length))) (ev_var rfl) hR (by rw [List.length_map]; omega) (fun x => rfl) (fun i x H1 e hi => ?_) (fun i x H1 e hi hf => ?_)) ?_)) ?_) k
    · exact fun H2 _ Q q => q H2 (Ex.refl H2)
    · obtain ⟨q, hq, rfl⟩ := map_nI hi
      rw [getD_of hq]
      exact ev_meth (ev_var rfl) (e _ _ W.ins) wF_is_choice (ea_cons (ev_var rfl) ea_nil) (is_choice_v (W'.ex e))
    · rw [List.length_map, given_all l 0 (fun i => V.bl (decide (i ≤ d.world.deeds.length))), List.map_map]
      rfl
    · rw [List.all_map]
      rfl
def rowL (l : List Nat) : List V := nI l.length :: lI l
def spCountFacts (CR CW : Addr) : Sp := fun vs H Q _ => ∃ (a : Addr) (d : Kp372.Desk) (f : Nat), vs = [.ref a, nI f] ∧ WR CR CW H a d ∧ d.world.m ≤ 5 ∧ RetL (rowL (factsOf d.world.m f)) H Q
theorem count_facts_l {H : Hp} {a : Addr} {d : Kp372.Desk} {f : Nat} (h : WR CR CW H a d) (h5 : d.world.m ≤ 5) : SpL (spCountFacts CR CW) [.ref a, nI f] H (rowL (factsOf d.world.m f)) := fun H1 e Q q E => ⟨a, d, f, rfl, h.ex e, h5, q⟩
theorem factsOf_len (m f : Nat) : (factsOf m f).length ≤ m := by
  have h := List.length_filter_le (fun q => f.testBit q) (List.range m)
  rw [List.length_range] at h
  exact h
/-- [len(xs)] + xs -/
theorem el_row {σ : L2.St} {H : Hp} {ta : TE} {p : Addr} {xs : List V} (ha : Ev ta σ H (.ref p)) (h : H p = some (.lst xs)) (hz : xs.length ≤ 10000) : EvL (tOp rCat (tLst (tCons (tCB (rLenS K) (tCons ta tNil)) tNil)) ta) σ H (nI xs.length :: xs) :=
  el_catR (el_lst (ea_cons (ev_len (K := K) ha (sq_of h)) ea_nil) (by show 1 ≤ 100000; decide)) ha h (by show 1 + xs.length ≤ 100000; omega)
theorem ok_count_facts (T : Top K mg CR CA CE CW) : GOk P w K mg base 2 "count_and_facts" ["world", "facts"] (spCountFacts CR CW) := by
  refine T.dCountAndFacts.ok scCountAndFacts (fun vs H Q E h => ?_) (fun _ _ _ _ _ _ us hl => match us, hl with | [_, _], _ => rfl) (fun f cdv A outer s H vs Q E hr h => ?_)
  · obtain ⟨a, d, f, rfl, _⟩ := h
    rfl
  · obtain ⟨a, d, f, rfl, W', h5, k⟩ := h
    obtain ⟨dx, ld, le, lw, ads, aes, W⟩ := id W'
    refine ⟨_, pss_cons (ps_set (i := 2) scCountAndFacts.nd rfl (Or.inl rfl) (pe_m (ok_facts_of T) hr (pv 0) (pa_cons (pv 1) pa_nil)))
      (pss_one (ps_ret (pe_op op_cat (pe_lst (pa_cons (pe_callB call_len_seq (by rfl) T.b_len PySem.boot_len (pa_cons (pv 2) pa_nil)) pa_nil)) (pv 2)))), ?_⟩
    refine q_asgL (el_meth (ev_var rfl) W.ins wF_facts_of (ea_cons (ev_var rfl) ea_nil) (facts_of_l W' h5)) fun p H1 hp e1 h1 => ?_
    refine s_retL (el_is (el_row (K := K) (ev_var rfl) h1 (by rw [List.length_map]; have := factsOf_len d.world.m f; omega)) (by rw [List.length_map]; rfl)) fun q H2 hq e2 h2 => k q H2 (fresh_back e1 hq) (e1.trans e2) h2
/-! ### what is asked of the search -/
def askB (d : Kp372.Desk) (a u b g k : Nat) : Bool := (isAimB (2 ^ d.world.m - 1) a u && decide (b ≤ 1)) && (decide (g &&& (2 ^ d.world.m - 1) = g) && decide (k ≤ 10))
def spCanAsk (K : PySem.W.Frag) (CR CW : Addr) : Sp := fun vs H Q _ => ∃ (x y : Addr) (d : Kp372.Desk) (a u b g k : Nat), vs = [.ref x, .ref y] ∧ WR CR CW H x d ∧ d.world.m ≤ 5 ∧ SqL K H y (lI [a, u, b, g, k]) ∧ RetV (.bl (askB d a u b g k)) H Q
theorem can_ask_v {H : Hp} {x y : Addr} {d : Kp372.Desk} {a u b g k : Nat} (h : WR CR CW H x d) (h5 : d.world.m ≤ 5) (hy : SqL K H y (lI [a, u, b, g, k])) : SpV (spCanAsk K CR CW) [.ref x, .ref y] H (.bl (askB d a u b g k)) := fun H1 e Q q E => ⟨x, y, d, a, u, b, g, k, rfl, h.ex e, h5, ex_l e hy, q⟩
theorem ok_can_ask (T : Top K mg CR CA CE CW) : GOk P w K mg base 3 "can_be_asked" ["world", "asked"] (spCanAsk K CR CW) := by
  refine T.dCanBeAsked.ok scCanBeAsked (fun vs H Q E h => ?_) (fun _ _ _ _ _ _ us hl => match us, hl with | [_, _], _ => rfl) (fun f cdv A outer s H vs Q E hr h => ?_)
  · obtain ⟨x, y, d, a, u, b, g, k, rfl, _⟩ := h
    rfl
  · obtain ⟨x, y, d, a, u, b, g, k, rfl, W', h5, hy, K0⟩ := h
    obtain ⟨dx, ld, le, lw, ads, aes, W⟩ := id W'
    refine ⟨_, pss_cons (ps_set (i := 2) scCanBeAsked.nd rfl (Or.inl rfl) (pe_and (pe_g (ok_is_aim T) hr (pa_cons (pe_m0 (ok_every T) hr (pv 0)) (pa_cons (pe_ix ix_list (pv 1) pe_int (fun _ _ => rfl)) (pa_cons (pe_ix ix_list (pv 1) pe_int (fun _ _ => rfl)) pa_nil))))
        (pe_one (pe_cmpR op_le (pe_ix ix_list (pv 1) pe_int (fun _ _ => rfl)) pe_int (nomark _)))))
      (pss_one (ps_ret (pe_and (pv 2) (pe_and (pe_g (ok_within T) hr (pa_cons (pe_ix ix_list (pv 1) pe_int (fun _ _ => rfl)) (pa_cons (pe_m0 (ok_every T) hr (pv 0)) pa_nil))) (pe_one (pe_cmpR op_le (pe_ix ix_list (pv 1) pe_int (fun _ _ => rfl)) (pe_k T.g_MOST_STEPS) (nomark _))))))), ?_⟩
    refine q_asg (ev_andV (evc (ea_cons (ev_meth (ev_var rfl) W.ins wF_everything ea_nil (every_v W' h5)) (ea_cons (ev_at (K := K) (j := 0) (ev_var rfl) hy rfl) (ea_cons (ev_at (K := K) (j := 1) (ev_var rfl) hy rfl) ea_nil))) is_aim_v) fun _ => ev_leN (b := 1) (ev_at (K := K) (j := 2) (ev_var rfl) hy rfl) ev_c) fun H1 e1 => ?_
    refine s_ret (ev_andV (ev_var rfl) fun _ => ev_andV (evc (ea_cons (ev_at (K := K) (j := 3) (ev_var rfl) (ex_l e1 hy) rfl) (ea_cons (ev_meth (ev_var rfl) (e1 _ _ W.ins) wF_everything ea_nil (every_v (W'.ex e1) h5)) ea_nil)) within_v) fun _ => ev_leN (b := 10) (ev_at (K := K) (j := 4) (ev_var rfl) (ex_l e1 hy) rfl) ev_c) fun H2 e2 => K0 H2 (e1.trans e2)
def spEndsAsked (K : PySem.W.Frag) (CR CW CE : Addr) : Sp := fun vs H Q _ => ∃ (x y : Addr) (d : Kp372.Desk) (a u b g k : Nat), vs = [.ref x, .ref y] ∧ WR CR CW H x d ∧ Good d ∧ SqL K H y (lI [a, u, b, g, k]) ∧ a < 2 ^ d.world.m ∧ k ≤ 10 ∧ RetP (EndsAt CE (ends d a u b g k)) H Q
theorem ends_asked_p {H : Hp} {x y : Addr} {d : Kp372.Desk} {a u b g k : Nat} (h : WR CR CW H x d) (G : Good d) (hy : SqL K H y (lI [a, u, b, g, k])) (ha : a < 2 ^ d.world.m) (hk : k ≤ 10) : SpP (spEndsAsked K CR CW CE) [.ref x, .ref y] H (EndsAt CE (ends d a u b g k)) :=
  fun H1 e Q q E => ⟨x, y, d, a, u, b, g, k, rfl, h.ex e, G, ex_l e hy, ha, hk, q⟩
theorem ok_ends_asked (T : Top K mg CR CA CE CW) : GOk P w K mg base 7 "endings_asked" ["world", "asked"] (spEndsAsked K CR CW CE) := by
  refine T.dEndingsAsked.ok scEndingsAsked (fun vs H Q E h => ?_) (fun _ _ _ _ _ _ us hl => match us, hl with | [_, _], _ => rfl) (fun f cdv A outer s H vs Q E hr h => ?_)
  · obtain ⟨x, y, d, a, u, b, g, k, rfl, _⟩ := h
    rfl
  · obtain ⟨x, y, d, a, u, b, g, k, rfl, W', G, hy, ha, hk, K0⟩ := h
    refine ⟨_, pss_one (ps_ret (pe_g (ok_by_steps T) hr (pa_cons (pv 0) (pa_cons (pe_new (ok_aim_init T) hr (pa_cons (pe_ix ix_list (pv 1) pe_int (fun _ _ => rfl)) (pa_cons (pe_ix ix_list (pv 1) pe_int (fun _ _ => rfl)) pa_nil))) (pa_cons (pe_ix ix_list (pv 1) pe_int (fun _ _ => rfl)) (pa_cons (pe_ix ix_list (pv 1) pe_int (fun _ _ => rfl)) (pa_cons (pe_ix ix_list (pv 1) pe_int (fun _ _ => rfl)) pa_nil))))))), ?_⟩
    refine ⟨_, rfl, ?_⟩
    refine aim_new (CA := CA) (ea_cons (ev_at (K := K) (j := 0) (ev_var rfl) hy rfl) (ea_cons (ev_at (K := K) (j := 1) (ev_var rfl) hy rfl) ea_nil)) H (Ex.refl _) _ ?_
    rintro v H1 e1 ⟨ai, rfl, hA⟩
    refine ea_cons (ev_at (K := K) (j := 2) (ev_var rfl) (ex_l e1 hy) rfl) (ea_cons (ev_at (K := K) (j := 3) (ev_var rfl) (ex_l e1 hy) rfl) (ea_cons (ev_at (K := K) (j := 4) (ev_var rfl) (ex_l e1 hy) rfl) ea_nil)) H1 (Ex.refl _) _ fun H2 e2 => ?_
    exact by_steps_p (W'.ex (e1.trans e2)) G (hA.ex e2) ha (by omega) H2 (Ex.refl _) _ (fun v H3 e3 r => K0 v H3 ((e1.trans e2).trans e3) r) _
def spNoGuard : Sp := fun vs H Q _ => ∃ (y : Addr) (a u b k : Nat), vs = [.ref y] ∧ H y = some (.lst (lI [a, u, b, k])) ∧ RetL (lI [a, u, b, 0, k]) H Q
theorem no_guard_l {H : Hp} {y : Addr} {a u b k : Nat} (hy : H y = some (.lst (lI [a, u, b, k]))) : SpL spNoGuard [.ref y] H (lI [a, u, b, 0, k]) := fun H1 e Q q E => ⟨y, a, u, b, k, rfl, e _ _ hy, q⟩
theorem ok_no_guard (T : Top K mg CR CA CE CW) : GOk P w K mg base 1 "without_guard" ["given"] spNoGuard := by
  refine T.dWithoutGuard.ok scWithoutGuard (fun vs H Q E h => ?_) (fun _ _ _ _ _ _ us hl => match us, hl with | [_], _ => rfl) (fun f cdv A outer s H vs Q E hr h => ?_)
  · obtain ⟨y, a, u, b, k, rfl, _⟩ := h
    rfl
  · obtain ⟨y, a, u, b, k, rfl, hy, K0⟩ := h
    refine ⟨_, pss_one (ps_ret (pe_op op_cat (pe_slice sl_list (pv 0) po_none (po_some pe_int)) (pe_lst (pa_cons (pe_k T.g_NO_GUARD) (pa_cons (pe_ix ix_list (pv 0) pe_int (fun _ _ => rfl)) pa_nil))))), ?_⟩
    refine s_retL (el_is (el_catN (el_sl (K := K) (hi := some ((3 : Nat) : Int)) (ev_var rfl) eo_none (eo_some ev_c) (sq_of hy)) (el_lst (ea_cons (x := nI 0) ev_c (ea_cons (ev_at (K := K) (j := 3) (ev_var rfl) (sq_of hy) rfl) ea_nil)) (by show 2 ≤ 100000; decide)) ?_) ?_) K0
    · rw [cut_to]
      show 5 ≤ 100000
      decide
    · rw [cut_to]
      rfl
end
end LC

namespace LC
open PySem PySem.Spec PyProof.Rows L2 Evl
/-- an answer's numbers -/
def ansV (a : Kp372.Ans) : List V := (a.num :: a.nums).map V.int
theorem ansV_say (n : Int) : ansV (Kp372.say n) = [.int n] := rfl
theorem ansV_row (l : List Nat) : ansV (Kp372.rowA l) = rowL l := by
  unfold ansV Kp372.rowA rowL
  rw [List.map_cons, List.map_map]
  rfl
theorem okAsk_eq (d : Kp372.Desk) (a u b g k : Nat) : askB d a u b g k = (Kp372.okAsk d a u b k && decide (g < 2 ^ d.world.m)) := by
  unfold askB isAimB
  rw [okAim_eq, within_eq]
  unfold Kp372.okAsk Kp372.LONG
  cases Kp371.okAim d.world a u <;> cases decide (b ≤ 1) <;> cases decide (k ≤ 10) <;> cases decide (g < 2 ^ d.world.m) <;> rfl
theorem ask0_eq (d : Kp372.Desk) (a u b k : Nat) : askB d a u b 0 k = Kp372.okAsk d a u b k := by
  rw [okAsk_eq, decide_eq_true (Nat.two_pow_pos _), Bool.and_true]
theorem okAsk_lt {d : Kp372.Desk} {a u b k : Nat} (h : Kp372.okAsk d a u b k = true) : a < 2 ^ d.world.m ∧ b ≤ 1 ∧ k ≤ 10 := by
  unfold Kp372.okAsk Kp372.LONG at h
  simp only [Bool.and_eq_true, decide_eq_true_eq] at h
  exact ⟨okAim_lt h.1.1, h.1.2, h.2⟩
section
variable {K : PySem.W.Frag} {σ : L2.St} {H : Hp} {ta te : TE} {D : Ends} {tz : TS}
theorem el_one {v : V} (h : Ev te σ H v) : EvL (tLst (tCons te tNil)) σ H [v] := el_lst (ea_cons h ea_nil) (by show 1 ≤ 100000; decide)
end
section
variable {P : Program} {w : World} {K : PySem.W.Frag} {mg : Str → Option Value} {base : Heap} {CR CA CE CW : Addr}
/-! ### guarded, guardrow, least, row -/
def guardedA (d : Kp372.Desk) (a u b g k : Nat) : Kp372.Ans := if Kp372.okAsk d a u b k = false ∨ 2 ^ d.world.m ≤ g then Kp372.say (-22) else Kp372.leastAns (Kp372.best d a u b g k)
def guardRowA (d : Kp372.Desk) (a u b g k : Nat) : Kp372.Ans := if Kp372.okAsk d a u b k = false ∨ 2 ^ d.world.m ≤ g then Kp372.say (-22) else Kp372.optRow (Kp372.bestRow d a u b g k)
theorem ask_false {d : Kp372.Desk} {a u b g k : Nat} (h : askB d a u b g k = false) : Kp372.okAsk d a u b k = false ∨ 2 ^ d.world.m ≤ g := by
  rw [okAsk_eq, Bool.and_eq_false_iff, decide_eq_false_iff_not] at h
  rcases h with h | h
  · exact Or.inl h
  · exact Or.inr (by omega)
theorem ask_true {d : Kp372.Desk} {a u b g k : Nat} (h : askB d a u b g k = true) : Kp372.okAsk d a u b k = true ∧ g < 2 ^ d.world.m := by
  rw [okAsk_eq, Bool.and_eq_true, decide_eq_true_eq] at h
  exact h
theorem ask_not {d : Kp372.Desk} {a u b g k : Nat} (h : askB d a u b g k = true) : ¬ (Kp372.okAsk d a u b k = false ∨ 2 ^ d.world.m ≤ g) := by
  obtain ⟨h1, h2⟩ := ask_true h
  rintro (z | z)
  · rw [h1] at z
    cases z
  · omega
def spGuarded (CR CW : Addr) (A : Kp372.Desk → Nat → Nat → Nat → Nat → Nat → Kp372.Ans) : Sp := fun vs H Q _ => ∃ (x y : Addr) (d : Kp372.Desk) (a u b g k : Nat), vs = [.ref x, .ref y] ∧ WR CR CW H x d ∧ Good d ∧ H y = some (.lst (lI [a, u, b, g, k])) ∧ RetL (ansV (A d a u b g k)) H Q
theorem guarded_l {A : Kp372.Desk → Nat → Nat → Nat → Nat → Nat → Kp372.Ans} {H : Hp} {x y : Addr} {d : Kp372.Desk} {a u b g k : Nat} (h : WR CR CW H x d) (G : Good d) (hy : H y = some (.lst (lI [a, u, b, g, k]))) : SpL (spGuarded CR CW A) [.ref x, .ref y] H (ansV (A d a u b g k)) :=
  fun H1 e Q q E => ⟨x, y, d, a, u, b, g, k, rfl, h.ex e, G, e _ _ hy, q⟩
theorem ok_guarded (T : Top K mg CR CA CE CW) : GOk P w K mg base 8 "answer_guarded" ["world", "given"] (spGuarded CR CW guardedA) := by
  refine T.dAnswerGuarded.ok scAnswerGuarded (fun vs H Q E h => ?_) (fun _ _ _ _ _ _ us hl => match us, hl with | [_, _], _ => rfl) (fun f cdv A outer s H vs Q E hr h => ?_)
  · obtain ⟨x, y, d, a, u, b, g, k, rfl, _⟩ := h
    rfl
  · obtain ⟨x, y, d, a, u, b, g, k, rfl, W', G, hy, K0⟩ := h
    refine ⟨_, pss_cons (ps_if (pt_not (pt_val (pe_g (ok_can_ask T) hr (pa_cons (pv 0) (pa_cons (pv 1) pa_nil))))) (pss_one (ps_ret (pe_lst (pa_cons (pe_k T.g_NOT_ALLOWED) pa_nil)))) pss_nil)
      (pss_cons (ps_set (i := 2) scAnswerGuarded.nd rfl (Or.inl rfl) (pe_g (ok_least_end T) hr (pa_cons (pe_g (ok_ends_asked T) hr (pa_cons (pv 0) (pa_cons (pv 1) pa_nil))) pa_nil)))
      (pss_cons (ps_if (pt_cmpR op_isN (pv 2) pe_non (nomark _)) (pss_one (ps_ret (pe_lst (pa_cons (pe_k T.g_AIM_NOT_MET) pa_nil)))) pss_nil)
      (pss_one (ps_ret (pe_lst (pa_cons (pe_fld (pv 2) rfl) (pa_cons (pe_callB call_len_seq (by rfl) T.b_len PySem.boot_len (pa_cons (pe_fld (pv 2) rfl) pa_nil)) pa_nil))))))), ?_⟩
    refine q_when (et_not (et_B (evc (ea_cons (ev_var rfl) (ea_cons (ev_var rfl) ea_nil)) (can_ask_v W' G.m5 (sq_of hy))))) (fun hb H1 e1 => ?_) (fun hb H1 e1 => ?_)
    · have hb : askB d a u b g k = false := by simpa using hb
      have e : guardedA d a u b g k = Kp372.say (-22) := if_pos (ask_false hb)
      rw [e, ansV_say] at K0
      exact s_retL (el_one ev_c) fun p H2 hp e2 h2 => K0 p H2 (fresh_back e1 hp) (e1.trans e2) h2
    · have hb : askB d a u b g k = true := by simpa using hb
      have e : guardedA d a u b g k = Kp372.leastAns (Kp372.best d a u b g k) := if_neg (ask_not hb)
      rw [e, best_eq G] at K0
      obtain ⟨ha, hb1, hk⟩ := okAsk_lt (ask_true hb).1
      refine ep_call (ea_cons (ev_var rfl) (ea_cons (ev_var rfl) ea_nil)) (ends_asked_p (W'.ex e1) G (sq_of (e1 _ _ hy)) ha hk) H1 (Ex.refl _) _ fun v H2 e2 hv => ?_
      show spLeastEnd CE [v] H2 _ E0
      refine least_end_p hv H2 (Ex.refl _) _ (fun v2 H3 e3 hv2 => ?_) E0
      have e03 := (e1.trans e2).trans e3
      refine q_when (et_test (ev_isN (ev_var rfl))) (fun hb2 H4 e4 => ?_) (fun hb2 H4 e4 => ?_)
      · rw [hv2.isNon] at hb2
        have hz : leastEnd (ends d a u b g k) = none := Option.isNone_iff_eq_none.mp hb2
        rw [hz] at K0
        exact s_retL (el_one ev_c) fun p H5 hp e5 h5 => K0 p H5 (fresh_back (e03.trans e4) hp) ((e03.trans e4).trans e5) h5
      · rw [hv2.isNon] at hb2
        cases hz : leastEnd (ends d a u b g k) with
        | none =>
          rw [hz] at hb2
          cases hb2
        | some n =>
          rw [hz] at K0 hv2
          obtain ⟨q, dq, lq, rfl, hq1, hq2⟩ := EndAt.ex e4 (show EndAt CE H3 v2 n.1 n.2 from hv2)
          refine s_retL (el_lst (ea_cons (ev_fld (ev_var rfl) hq1 T.cEnding T.nEnding_changed eF_changed) (ea_cons (ev_len (K := K) (ev_fld (ev_var rfl) hq1 T.cEnding T.nEnding_row eF_row) (sq_of hq2)) ea_nil)) (by show 2 ≤ 100000; decide)) fun p H5 hp e5 h5 => K0 p H5 (fresh_back (e03.trans e4) hp) ((e03.trans e4).trans e5) ?_
          rw [List.length_map] at h5
          exact h5
theorem ok_guardrow (T : Top K mg CR CA CE CW) : GOk P w K mg base 8 "answer_guardrow" ["world", "given"] (spGuarded CR CW guardRowA) := by
  refine T.dAnswerGuardrow.ok scAnswerGuardrow (fun vs H Q E h => ?_) (fun _ _ _ _ _ _ us hl => match us, hl with | [_, _], _ => rfl) (fun f cdv A outer s H vs Q E hr h => ?_)
  · obtain ⟨x, y, d, a, u, b, g, k, rfl, _⟩ := h
    rfl
  · obtain ⟨x, y, d, a, u, b, g, k, rfl, W', G, hy, K0⟩ := h
    refine ⟨_, pss_cons (ps_if (pt_not (pt_val (pe_g (ok_can_ask T) hr (pa_cons (pv 0) (pa_cons (pv 1) pa_nil))))) (pss_one (ps_ret (pe_lst (pa_cons (pe_k T.g_NOT_ALLOWED) pa_nil)))) pss_nil)
      (pss_cons (ps_set (i := 2) scAnswerGuardrow.nd rfl (Or.inl rfl) (pe_g (ok_least_end T) hr (pa_cons (pe_g (ok_ends_asked T) hr (pa_cons (pv 0) (pa_cons (pv 1) pa_nil))) pa_nil)))
      (pss_cons (ps_if (pt_cmpR op_isN (pv 2) pe_non (nomark _)) (pss_one (ps_ret (pe_lst (pa_cons (pe_k T.g_AIM_NOT_MET) pa_nil)))) pss_nil)
      (pss_one (ps_ret (pe_op op_cat (pe_lst (pa_cons (pe_callB call_len_seq (by rfl) T.b_len PySem.boot_len (pa_cons (pe_fld (pv 2) rfl) pa_nil)) pa_nil)) (pe_fld (pv 2) rfl)))))), ?_⟩
    refine q_when (et_not (et_B (evc (ea_cons (ev_var rfl) (ea_cons (ev_var rfl) ea_nil)) (can_ask_v W' G.m5 (sq_of hy))))) (fun hb H1 e1 => ?_) (fun hb H1 e1 => ?_)
    · have hb : askB d a u b g k = false := by simpa using hb
      have e : guardRowA d a u b g k = Kp372.say (-22) := if_pos (ask_false hb)
      rw [e, ansV_say] at K0
      exact s_retL (el_one ev_c) fun p H2 hp e2 h2 => K0 p H2 (fresh_back e1 hp) (e1.trans e2) h2
    · have hb : askB d a u b g k = true := by simpa using hb
      have e : guardRowA d a u b g k = Kp372.optRow (Kp372.bestRow d a u b g k) := if_neg (ask_not hb)
      rw [e, bestRow_eq G] at K0
      obtain ⟨ha, hb1, hk⟩ := okAsk_lt (ask_true hb).1
      refine ep_call (ea_cons (ev_var rfl) (ea_cons (ev_var rfl) ea_nil)) (ends_asked_p (W'.ex e1) G (sq_of (e1 _ _ hy)) ha hk) H1 (Ex.refl _) _ fun v H2 e2 hv => ?_
      show spLeastEnd CE [v] H2 _ E0
      refine least_end_p hv H2 (Ex.refl _) _ (fun v2 H3 e3 hv2 => ?_) E0
      have e03 := (e1.trans e2).trans e3
      refine q_when (et_test (ev_isN (ev_var rfl))) (fun hb2 H4 e4 => ?_) (fun hb2 H4 e4 => ?_)
      · rw [hv2.isNon] at hb2
        have hz : leastEnd (ends d a u b g k) = none := Option.isNone_iff_eq_none.mp hb2
        rw [hz] at K0
        exact s_retL (el_one ev_c) fun p H5 hp e5 h5 => K0 p H5 (fresh_back (e03.trans e4) hp) ((e03.trans e4).trans e5) h5
      · rw [hv2.isNon] at hb2
        cases hz : leastEnd (ends d a u b g k) with
        | none =>
          rw [hz] at hb2
          cases hb2
        | some n =>
          have hm := leastEnd_mem _ _ hz
          unfold ends at hm
          obtain ⟨t, ht, het⟩ := List.mem_map.mp hm
          have hlen := endAt_len d a u b g t n.1 n.2 het
          have ht2 : t < k + 1 := List.mem_range.mp ht
          rw [hz] at K0 hv2
          have K1 : RetL (rowL n.2) H Q := by
            have e : ansV (Kp372.optRow (some n.2)) = rowL n.2 := ansV_row n.2
            rw [← e]
            exact K0
          obtain ⟨q, dq, lq, rfl, hq1, hq2⟩ := EndAt.ex e4 (show EndAt CE H3 v2 n.1 n.2 from hv2)
          refine s_retL (el_row (K := K) (ev_fld (ev_var rfl) hq1 T.cEnding T.nEnding_row eF_row) hq2 (by rw [List.length_map]; omega)) fun p H5 hp e5 h5 => K1 p H5 (fresh_back (e03.trans e4) hp) ((e03.trans e4).trans e5) ?_
          rw [List.length_map] at h5
          exact h5
def leastA (d : Kp372.Desk) (a u b k : Nat) : Kp372.Ans := if Kp372.okAsk d a u b k = false then Kp372.say (-22) else Kp372.leastAns (Kp372.best d a u b 0 k)
def rowAA (d : Kp372.Desk) (a u b k : Nat) : Kp372.Ans := if Kp372.okAsk d a u b k = false then Kp372.say (-22) else Kp372.optRow (Kp372.bestRow d a u b 0 k)
theorem no_guard_iff (d : Kp372.Desk) (a u b k : Nat) : (Kp372.okAsk d a u b k = false ∨ 2 ^ d.world.m ≤ 0) ↔ Kp372.okAsk d a u b k = false := by
  have := Nat.two_pow_pos d.world.m
  constructor
  · rintro (h | h)
    · exact h
    · omega
  · exact Or.inl
theorem least_is (d : Kp372.Desk) (a u b k : Nat) : guardedA d a u b 0 k = leastA d a u b k := by
  unfold guardedA leastA
  simp only [no_guard_iff]
theorem row_is (d : Kp372.Desk) (a u b k : Nat) : guardRowA d a u b 0 k = rowAA d a u b k := by
  unfold guardRowA rowAA
  simp only [no_guard_iff]
/-- a def that is asked by a, w, b, k -/
def spAsk4 (CR CW : Addr) (A : Kp372.Desk → Nat → Nat → Nat → Nat → Kp372.Ans) : Sp := fun vs H Q _ => ∃ (x y : Addr) (d : Kp372.Desk) (a u b k : Nat), vs = [.ref x, .ref y] ∧ WR CR CW H x d ∧ Good d ∧ H y = some (.lst (lI [a, u, b, k])) ∧ RetL (ansV (A d a u b k)) H Q
theorem ok_least (T : Top K mg CR CA CE CW) : GOk P w K mg base 9 "answer_least" ["world", "given"] (spAsk4 CR CW leastA) := by
  refine T.dAnswerLeast.ok scAnswerLeast (fun vs H Q E h => ?_) (fun _ _ _ _ _ _ us hl => match us, hl with | [_, _], _ => rfl) (fun f cdv A outer s H vs Q E hr h => ?_)
  · obtain ⟨x, y, d, a, u, b, k, rfl, _⟩ := h
    rfl
  · obtain ⟨x, y, d, a, u, b, k, rfl, W', G, hy, K0⟩ := h
    refine ⟨_, pss_one (ps_ret (pe_g (ok_guarded T) hr (pa_cons (pv 0) (pa_cons (pe_g (ok_no_guard T) hr (pa_cons (pv 1) pa_nil)) pa_nil)))), ?_⟩
    refine ⟨_, rfl, ?_⟩
    refine elc (ea_cons (ev_var rfl) ea_nil) (no_guard_l hy) H (Ex.refl _) _ fun p H1 hp e1 h1 => ?_
    refine guarded_l (A := guardedA) (W'.ex e1) G h1 H1 (Ex.refl _) _ (fun q H2 hq e2 h2 => K0 q H2 (fresh_back e1 hq) (e1.trans e2) ?_) E0
    rw [← least_is]
    exact h2
theorem ok_row (T : Top K mg CR CA CE CW) : GOk P w K mg base 9 "answer_row" ["world", "given"] (spAsk4 CR CW rowAA) := by
  refine T.dAnswerRow.ok scAnswerRow (fun vs H Q E h => ?_) (fun _ _ _ _ _ _ us hl => match us, hl with | [_, _], _ => rfl) (fun f cdv A outer s H vs Q E hr h => ?_)
  · obtain ⟨x, y, d, a, u, b, k, rfl, _⟩ := h
    rfl
  · obtain ⟨x, y, d, a, u, b, k, rfl, W', G, hy, K0⟩ := h
    refine ⟨_, pss_one (ps_ret (pe_g (ok_guardrow T) hr (pa_cons (pv 0) (pa_cons (pe_g (ok_no_guard T) hr (pa_cons (pv 1) pa_nil)) pa_nil)))), ?_⟩
    refine ⟨_, rfl, ?_⟩
    refine elc (ea_cons (ev_var rfl) ea_nil) (no_guard_l hy) H (Ex.refl _) _ fun p H1 hp e1 h1 => ?_
    refine guarded_l (A := guardRowA) (W'.ex e1) G h1 H1 (Ex.refl _) _ (fun q H2 hq e2 h2 => K0 q H2 (fresh_back e1 hq) (e1.trans e2) ?_) E0
    rw [← row_is]
    exact h2
/-! ### costs -/
def costV : End → V
  | none => .int (-1)
  | some n => nI n.1
def spCostsAsked (K : PySem.W.Frag) (CR CW : Addr) : Sp := fun vs H Q _ => ∃ (x y : Addr) (d : Kp372.Desk) (a u b g k : Nat), vs = [.ref x, .ref y] ∧ WR CR CW H x d ∧ Good d ∧ SqL K H y (lI [a, u, b, g, k]) ∧ a < 2 ^ d.world.m ∧ k ≤ 10 ∧ RetL ((ends d a u b g k).map costV) H Q
theorem costs_asked_l {H : Hp} {x y : Addr} {d : Kp372.Desk} {a u b g k : Nat} (h : WR CR CW H x d) (G : Good d) (hy : SqL K H y (lI [a, u, b, g, k])) (ha : a < 2 ^ d.world.m) (hk : k ≤ 10) : SpL (spCostsAsked K CR CW) [.ref x, .ref y] H ((ends d a u b g k).map costV) :=
  fun H1 e Q q E => ⟨x, y, d, a, u, b, g, k, rfl, h.ex e, G, ex_l e hy, ha, hk, q⟩
theorem ok_costs_asked (T : Top K mg CR CA CE CW) : GOk P w K mg base 8 "costs_asked" ["world", "asked"] (spCostsAsked K CR CW) := by
  refine T.dCostsAsked.ok scCostsAsked (fun vs H Q E h => ?_) (fun _ _ _ _ _ _ us hl => match us, hl with | [_, _], _ => rfl) (fun f cdv A outer s H vs Q E hr h => ?_)
  · obtain ⟨x, y, d, a, u, b, g, k, rfl, _⟩ := h
    rfl
  · obtain ⟨x, y, d, a, u, b, g, k, rfl, W', G, hy, ha, hk, K0⟩ := h
    refine ⟨_, pss_cons (ps_set (i := 2) scCostsAsked.nd rfl (Or.inl rfl) (pe_g (ok_ends_asked T) hr (pa_cons (pv 0) (pa_cons (pv 1) pa_nil))))
      (pss_one (ps_ret (pe_lc (own := [("ending", 3)]) (g := gName 3) (te := tIf (tTest (tOp (fun x y H Q => y = .non ∧ Q (.bl (decide (x = .non))) H) (tVar 3) (tC .non))) (tC (.int (-1))) (tFld K (tVar 3) "changed")) rfl scCostsAsked.nd (pi_list (pv 2)) (blkOk_by (own := [("ending", 3)]) (N := ["world", "asked", "endings", "ending"]) (sc := defScope sCostsAsked) (by decide +kernel))
        (fun _ _ _ _ _ => pg_name (i := 3) scCostsAsked.nd rfl (Or.inl rfl)) (fun _ _ _ _ _ => pts_nil) (fun _ _ _ _ _ => by exact pe_ifExp (pt_cmpR op_isN (pv 3) pe_non (nomark _)) (pe_k T.g_NO_ROW) (pe_fld (pv 3) rfl))))), ?_⟩
    refine q_asgP (ep_call (ea_cons (ev_var rfl) (ea_cons (ev_var rfl) ea_nil)) (ends_asked_p (CE := CE) W' G hy ha hk)) ?_
    rintro v H1 e1 ⟨l, vs, rfl, hl, hE⟩
    have hlen : vs.length ≤ 11 := by
      rw [hE.1]
      unfold ends
      rw [List.length_map, List.length_range]
      omega
    refine s_retL (el_is (el_lcL (K := K) (fun _ => true) (fun i => costV ((ends d a u b g k).getD i none)) (ev_var rfl) (sq_of hl) (by omega) (fun x => rfl) (fun i x H2 e2 hi => ?_) (fun i x H2 e2 hi hf => ?_)) ?_) fun p H5 hp e5 h5 => K0 p H5 (fresh_back e1 hp) (e1.trans e5) h5
    · exact fun H2 _ Q q => q H2 (Ex.refl H2)
    · have hil := (List.getElem?_eq_some_iff.mp hi).1
      rw [hE.1] at hil
      have hes : (ends d a u b g k)[i]? = some (ends d a u b g k)[i] := List.getElem?_eq_getElem hil
      have hx := (hE.2 i x _ hi hes).kp (Ex.kp e2)
      rw [getD_of hes]
      generalize (ends d a u b g k)[i] = y at hx
      refine ev_if (et_test (ev_isN (ev_var rfl))) (fun hb => ?_) (fun hb => ?_)
      · rw [hx.isNon] at hb
        have hz : y = none := Option.isNone_iff_eq_none.mp hb
        subst hz
        exact ev_c
      · rw [hx.isNon] at hb
        cases y with
        | none => cases hb
        | some n =>
          obtain ⟨q, dq, lq, rfl, hq1, hq2⟩ := (show EndAt CE H2 x n.1 n.2 from hx)
          exact ev_fld (ev_var rfl) hq1 T.cEnding T.nEnding_changed eF_changed
    · rw [hE.1, given_all (ends d a u b g k) none costV]
def costsA (d : Kp372.Desk) (a u b k : Nat) : Kp372.Ans := if Kp372.okAsk d a u b k = false then Kp372.say (-22) else (let l := Kp372.costs d a u b 0 k
        ⟨(l.length : Int), l.map fun c => match c with
          | none => -1
          | some n => (n : Int)⟩)
theorem ok_costs (T : Top K mg CR CA CE CW) : GOk P w K mg base 9 "answer_costs" ["world", "given"] (spAsk4 CR CW costsA) := by
  refine T.dAnswerCosts.ok scAnswerCosts (fun vs H Q E h => ?_) (fun _ _ _ _ _ _ us hl => match us, hl with | [_, _], _ => rfl) (fun f cdv A outer s H vs Q E hr h => ?_)
  · obtain ⟨x, y, d, a, u, b, k, rfl, _⟩ := h
    rfl
  · obtain ⟨x, y, d, a, u, b, k, rfl, W', G, hy, K0⟩ := h
    refine ⟨_, pss_cons (ps_set (i := 2) scAnswerCosts.nd rfl (Or.inl rfl) (pe_g (ok_no_guard T) hr (pa_cons (pv 1) pa_nil)))
      (pss_cons (ps_if (pt_not (pt_val (pe_g (ok_can_ask T) hr (pa_cons (pv 0) (pa_cons (pv 2) pa_nil))))) (pss_one (ps_ret (pe_lst (pa_cons (pe_k T.g_NOT_ALLOWED) pa_nil)))) pss_nil)
      (pss_cons (ps_set (i := 3) scAnswerCosts.nd rfl (Or.inl rfl) (pe_g (ok_costs_asked T) hr (pa_cons (pv 0) (pa_cons (pv 2) pa_nil))))
      (pss_one (ps_ret (pe_op op_cat (pe_lst (pa_cons (pe_callB call_len_seq (by rfl) T.b_len PySem.boot_len (pa_cons (pv 3) pa_nil)) pa_nil)) (pv 3)))))), ?_⟩
    refine q_asgL (elc (ea_cons (ev_var rfl) ea_nil) (no_guard_l hy)) fun p H1 hp e1 h1 => ?_
    refine q_when (et_not (et_B (evc (ea_cons (ev_var rfl) (ea_cons (ev_var rfl) ea_nil)) (can_ask_v (W'.ex e1) G.m5 (sq_of h1))))) (fun hb H2 e2 => ?_) (fun hb H2 e2 => ?_)
    · have hb : askB d a u b 0 k = false := by simpa using hb
      rw [ask0_eq] at hb
      have e : costsA d a u b k = Kp372.say (-22) := if_pos hb
      rw [e, ansV_say] at K0
      exact s_retL (el_one ev_c) fun p H3 hp e3 h3 => K0 p H3 (fresh_back (e1.trans e2) hp) ((e1.trans e2).trans e3) h3
    · have hb : askB d a u b 0 k = true := by simpa using hb
      rw [ask0_eq] at hb
      obtain ⟨ha, hb1, hk⟩ := okAsk_lt hb
      have e02 := e1.trans e2
      refine q_asgL (elc (ea_cons (ev_var rfl) (ea_cons (ev_var rfl) ea_nil)) (costs_asked_l (W'.ex e02) G (sq_of (e2 _ _ h1)) ha hk)) fun q H3 hq e3 h3 => ?_
      have hlen : ((ends d a u b 0 k).map costV).length = k + 1 := by
        unfold ends
        rw [List.length_map, List.length_map, List.length_range]
      have e : ansV (costsA d a u b k) = nI ((ends d a u b 0 k).map costV).length :: (ends d a u b 0 k).map costV := by
        unfold costsA
        rw [if_neg (by rw [hb]; decide), costs_eq G]
        unfold ansV
        rw [List.map_cons]
        congr 1
        · show nI (List.map (Option.map fun x => x.fst) (ends d a u b 0 k)).length = nI ((ends d a u b 0 k).map costV).length
          rw [List.length_map, List.length_map]
        · show List.map V.int (List.map _ (List.map (Option.map fun x => x.fst) (ends d a u b 0 k))) = _
          rw [List.map_map, List.map_map]
          refine List.map_congr_left fun z _ => ?_
          cases z <;> rfl
      rw [e] at K0
      exact s_retL (el_row (K := K) (ev_var rfl) h3 (by rw [hlen]; omega)) fun p H4 hp e4 h4 => K0 p H4 (fresh_back (e02.trans e3) hp) ((e02.trans e3).trans e4) h4
end
end LC

namespace LC
open PySem PySem.Spec PyProof.Rows L2 Evl
theorem if_b {c : Bool} {A B : Prop} (h1 : c = true → A) (h2 : c = false → B) : if c = true then A else B := by
  cases c
  · exact iteF (h2 rfl)
  · exact iteT (h1 rfl)
section
variable {P : Program} {w : World} {K : PySem.W.Frag} {mg : Str → Option Value} {base : Heap} {CR CA CE CW : Addr}
/-! ### free -/
def leftB (d : Kp372.Desk) (a u b k q : Nat) : Bool := (leastEnd (ends d a u b (2 ^ q) k)).isSome
def spLeft (CR CW : Addr) : Sp := fun vs H Q _ => ∃ (x y : Addr) (d : Kp372.Desk) (a u b k q : Nat), vs = [.ref x, .ref y, nI q] ∧ WR CR CW H x d ∧ Good d ∧ H y = some (.lst (lI [a, u, b, k])) ∧ a < 2 ^ d.world.m ∧ k ≤ 10 ∧ q ≤ 5 ∧ RetV (.bl (leftB d a u b k q)) H Q
theorem left_v {H : Hp} {x y : Addr} {d : Kp372.Desk} {a u b k q : Nat} (h : WR CR CW H x d) (G : Good d) (hy : H y = some (.lst (lI [a, u, b, k]))) (ha : a < 2 ^ d.world.m) (hk : k ≤ 10) (hq : q ≤ 5) : SpV (spLeft CR CW) [.ref x, .ref y, nI q] H (.bl (leftB d a u b k q)) :=
  fun H1 e Q q0 E => ⟨x, y, d, a, u, b, k, q, rfl, h.ex e, G, e _ _ hy, ha, hk, hq, q0⟩
theorem ok_left (T : Top K mg CR CA CE CW) : GOk P w K mg base 8 "can_be_left" ["world", "given", "fact"] (spLeft CR CW) := by
  refine T.dCanBeLeft.ok scCanBeLeft (fun vs H Q E h => ?_) (fun _ _ _ _ _ _ us hl => match us, hl with | [_, _, _], _ => rfl) (fun f cdv A outer s H vs Q E hr h => ?_)
  · obtain ⟨x, y, d, a, u, b, k, q, rfl, _⟩ := h
    rfl
  · obtain ⟨x, y, d, a, u, b, k, q, rfl, W', G, hy, ha, hk, hq, K0⟩ := h
    refine ⟨_, pss_cons (ps_set (i := 3) scCanBeLeft.nd rfl (Or.inl rfl) (pe_op op_cat (pe_slice sl_list (pv 1) po_none (po_some pe_int)) (pe_lst (pa_cons (pe_op op_shl pe_int (pv 2)) (pa_cons (pe_ix ix_list (pv 1) pe_int (fun _ _ => rfl)) pa_nil)))))
      (pss_one (ps_ret (pe_cmpR op_notN (pe_g (ok_least_end T) hr (pa_cons (pe_g (ok_ends_asked T) hr (pa_cons (pv 0) (pa_cons (pv 3) pa_nil))) pa_nil)) pe_non (nomark _)))), ?_⟩
    refine q_asgL (el_is (ys := lI [a, u, b, 2 ^ q, k]) (el_catN (el_sl (K := K) (hi := some ((3 : Nat) : Int)) (ev_var rfl) eo_none (eo_some ev_c) (sq_of hy)) (el_lst (ea_cons (ev_is (w := nI (2 ^ q)) (ev_op (x := .int 1) ev_c (ev_var rfl) (rv_I ⟨by omega, by omega, by decide⟩)) (congrArg V.int (shl_is q))) (ea_cons (ev_at (K := K) (j := 3) (ev_var rfl) (sq_of hy) rfl) ea_nil)) (by show 2 ≤ 100000; decide)) ?_) ?_) fun p H1 hp e1 h1 => ?_
    · rw [cut_to]
      show 5 ≤ 100000
      decide
    · rw [cut_to]
      rfl
    · refine ep_call (ea_cons (ev_var rfl) (ea_cons (ev_var rfl) ea_nil)) (ends_asked_p (W'.ex e1) G (sq_of h1) ha hk) H1 (Ex.refl _) _ fun v H2 e2 hv => ?_
      show spLeastEnd CE [v] H2 _ E0
      refine least_end_p hv H2 (Ex.refl _) _ (fun v2 H3 e3 hv2 => ⟨rfl, ?_⟩) E0
      have hb : (!decide (v2 = V.non)) = leftB d a u b k q := by
        rw [hv2.isNon]
        unfold leftB
        cases leastEnd (ends d a u b (2 ^ q) k) <;> rfl
      rw [hb]
      exact K0 H3 ((e1.trans e2).trans e3)
def freeA (d : Kp372.Desk) (a u b k : Nat) : Kp372.Ans := if Kp372.okAsk d a u b k = false then Kp372.say (-22) else (let l := (List.range d.world.m).filter fun q => !a.testBit q && (Kp372.best d a u b (2 ^ q) k).isSome
        Kp372.rowA l)
theorem ok_free (T : Top K mg CR CA CE CW) : GOk P w K mg base 9 "answer_free" ["world", "given"] (spAsk4 CR CW freeA) := by
  refine T.dAnswerFree.ok scAnswerFree (fun vs H Q E h => ?_) (fun _ _ _ _ _ _ us hl => match us, hl with | [_, _], _ => rfl) (fun f cdv A outer s H vs Q E hr h => ?_)
  · obtain ⟨x, y, d, a, u, b, k, rfl, _⟩ := h
    rfl
  · obtain ⟨x, y, d, a, u, b, k, rfl, W', G, hy, K0⟩ := h
    obtain ⟨dx, ld, le, lw, ads, aes, W⟩ := id W'
    refine ⟨_, pss_cons (ps_if (pt_not (pt_val (pe_g (ok_can_ask T) hr (pa_cons (pv 0) (pa_cons (pe_g (ok_no_guard T) hr (pa_cons (pv 1) pa_nil)) pa_nil))))) (pss_one (ps_ret (pe_lst (pa_cons (pe_k T.g_NOT_ALLOWED) pa_nil)))) pss_nil)
      (pss_cons (ps_set (i := 2) scAnswerFree.nd rfl (Or.inl rfl) (pe_m (ok_facts_of T) hr (pv 0) (pa_cons (pe_op op_sub (pe_m0 (ok_every T) hr (pv 0)) (pe_ix ix_list (pv 1) pe_int (fun _ _ => rfl))) pa_nil)))
      (pss_cons (ps_setLc (i := 3) (own := [("fact", 4)]) (g := gName 4) (tt := tB (tCall (spLeft CR CW) [] E0 (tCons (tVar 0) (tCons (tVar 1) (tCons (tVar 4) tNil))))) (te := tVar 4) rfl scAnswerFree.nd rfl rfl (sw_true rfl rfl rfl (by decide +kernel)) (pi_list (pv 2)) (blkOk_by (own := [("fact", 4)]) (N := ["world", "given", "others", "left", "fact"]) (sc := defScope sAnswerFree) (by decide +kernel))
        (fun _ _ _ _ _ => pg_name (i := 4) scAnswerFree.nd rfl (Or.inl rfl)) (fun _ _ _ _ _ => pts_one (pt_val (pe_g (ok_left T) (j := 8) hr (pa_cons (pv 0) (pa_cons (pv 1) (pa_cons (pv 4) pa_nil)))))) (fun _ _ _ _ _ => pv 4))
      (pss_one (ps_ret (pe_op op_cat (pe_lst (pa_cons (pe_callB call_len_seq (by rfl) T.b_len PySem.boot_len (pa_cons (pv 3) pa_nil)) pa_nil)) (pv 3)))))), ?_⟩
    refine ⟨_, rfl, ?_⟩
    refine elc (ea_cons (ev_var rfl) ea_nil) (no_guard_l hy) H (Ex.refl _) _ fun p H1 hp e1 h1 => ?_
    refine can_ask_v (K := K) (W'.ex e1) G.m5 (sq_of h1) H1 (Ex.refl _) _ (fun H2 e2 => ?_) E0
    have e02 := e1.trans e2
    refine ⟨_, rfl, if_b (fun hb => ?_) (fun hb => ?_)⟩
    · have hb : askB d a u b 0 k = false := by simpa using hb
      rw [ask0_eq] at hb
      have e : freeA d a u b k = Kp372.say (-22) := if_pos hb
      rw [e, ansV_say] at K0
      exact s_retL (el_one ev_c) fun p H3 hp e3 h3 => K0 p H3 (fresh_back e02 hp) (e02.trans e3) h3
    · have hb : askB d a u b 0 k = true := by simpa using hb
      rw [ask0_eq] at hb
      obtain ⟨ha, hb1, hk⟩ := okAsk_lt hb
      have hy2 := e02 _ _ hy
      refine q_asgL (el_meth (ev_var rfl) (e02 _ _ W.ins) wF_facts_of (ea_cons (ev_subN (ev_meth (ev_var rfl) (e02 _ _ W.ins) wF_everything ea_nil (every_v (W'.ex e02) G.m5)) (ev_at (K := K) (j := 0) (ev_var rfl) (sq_of hy2) rfl) (by omega)) ea_nil) (facts_of_l (W'.ex e02) G.m5)) fun q H3 hq e3 h3 => ?_
      have e03 := e02.trans e3
      have hlen := factsOf_len d.world.m (2 ^ d.world.m - 1 - a)
      have h5 := G.m5
      refine q_asgL (el_is (ys := lI ((factsOf d.world.m (2 ^ d.world.m - 1 - a)).filter (leftB d a u b k))) (el_lcL (K := K) (fun i => leftB d a u b k ((factsOf d.world.m (2 ^ d.world.m - 1 - a)).getD i 0)) (fun i => nI ((factsOf d.world.m (2 ^ d.world.m - 1 - a)).getD i 0)) (ev_var rfl) (sq_of h3) (by rw [List.length_map]; omega) (fun x => rfl) (fun i z H4 e4 hi => ?_) (fun i z H4 e4 hi hf => ?_)) ?_) fun p2 H5 hp2 e5 h5' => ?_
      · obtain ⟨c, hc, rfl⟩ := map_nI hi
        rw [getD_of hc]
        have hcm : c < d.world.m := List.mem_range.mp (List.mem_filter.mp (List.mem_of_getElem? hc)).1
        exact et_B (evc (ea_cons (ev_var rfl) (ea_cons (ev_var rfl) (ea_cons (ev_var rfl) ea_nil))) (left_v (W'.ex (e03.trans e4)) G ((e03.trans e4) _ _ hy) ha hk (by omega)))
      · obtain ⟨c, hc, rfl⟩ := map_nI hi
        rw [getD_of hc]
        exact ev_var rfl
      · rw [List.length_map]
        exact given_filter _ 0 (leftB d a u b k) nI
      · have hl2 : ((factsOf d.world.m (2 ^ d.world.m - 1 - a)).filter (leftB d a u b k)).length ≤ 5 := Nat.le_trans (List.length_filter_le _ _) (by omega)
        have e : ansV (freeA d a u b k) = rowL ((factsOf d.world.m (2 ^ d.world.m - 1 - a)).filter (leftB d a u b k)) := by
          unfold freeA
          rw [if_neg (by rw [hb]; decide)]
          refine (ansV_row _).trans (congrArg rowL ?_)
          rw [others_eq G ha]
          refine List.filter_congr fun q _ => ?_
          rw [best_eq G]
          unfold leftB lenE
          rw [Option.isSome_map]
        rw [e] at K0
        refine s_retL (el_row (K := K) (ev_var rfl) h5' (by rw [List.length_map]; omega)) fun p3 H6 hp3 e6 h6 => K0 p3 H6 (fresh_back (e03.trans e5) hp3) ((e03.trans e5).trans e6) ?_
        rw [List.length_map] at h6
        exact h6
/-! ### firstfree -/
def firstFreeA (d : Kp372.Desk) (a u b : Nat) : Kp372.Ans := if Kp372.okAsk d a u b 0 = false then Kp372.say (-22) else match (List.range (Kp372.LONG + 1)).find? fun k => match Kp372.best d a u b 0 k with
          | some m => m.1 == 0
          | none => false with
        | none => Kp372.say (-33)
        | some k => Kp372.say (k : Nat)
theorem cost_zero (e : End) : eqV (costV e) (.int 0) = (e.map (·.1) == some 0) := by
  cases e with
  | none => rfl
  | some n =>
    show ((n.1 : Int) == 0) = (some n.1 == some 0)
    by_cases h : n.1 = 0
    · rw [h]
      rfl
    · have h1 : ((n.1 : Int) == 0) = false := by
        rw [beq_eq_false_iff_ne]
        omega
      have h2 : (some n.1 == some 0) = false := by
        rw [beq_eq_false_iff_ne]
        exact fun z => h (Option.some.inj z)
      rw [h1, h2]
theorem cost_flat (es : List End) : (es.map costV).all flatV = true := by
  rw [List.all_map, List.all_eq_true]
  intro e _
  cases e <;> rfl
def spAsk3 (CR CW : Addr) (A : Kp372.Desk → Nat → Nat → Nat → Kp372.Ans) : Sp := fun vs H Q _ => ∃ (x y : Addr) (d : Kp372.Desk) (a u b : Nat), vs = [.ref x, .ref y] ∧ WR CR CW H x d ∧ Good d ∧ H y = some (.lst (lI [a, u, b])) ∧ RetL (ansV (A d a u b)) H Q
theorem ok_firstfree (T : Top K mg CR CA CE CW) : GOk P w K mg base 9 "answer_firstfree" ["world", "given"] (spAsk3 CR CW firstFreeA) := by
  refine T.dAnswerFirstfree.ok scAnswerFirstfree (fun vs H Q E h => ?_) (fun _ _ _ _ _ _ us hl => match us, hl with | [_, _], _ => rfl) (fun f cdv A outer s H vs Q E hr h => ?_)
  · obtain ⟨x, y, d, a, u, b, rfl, _⟩ := h
    rfl
  · obtain ⟨x, y, d, a, u, b, rfl, W', G, hy, K0⟩ := h
    refine ⟨_, pss_cons (ps_set (i := 2) scAnswerFirstfree.nd rfl (Or.inl rfl) (pe_op op_cat (pv 1) (pe_lst (pa_cons (pe_k T.g_NO_GUARD) (pa_cons (pe_k T.g_MOST_STEPS) pa_nil)))))
      (pss_cons (ps_if (pt_not (pt_val (pe_g (ok_can_ask T) hr (pa_cons (pv 0) (pa_cons (pv 2) pa_nil))))) (pss_one (ps_ret (pe_lst (pa_cons (pe_k T.g_NOT_ALLOWED) pa_nil)))) pss_nil)
      (pss_cons (ps_set (i := 3) scAnswerFirstfree.nd rfl (Or.inl rfl) (pe_g (ok_costs_asked T) hr (pa_cons (pv 0) (pa_cons (pv 2) pa_nil))))
      (pss_cons (ps_if (pt_cmpR op_notIn_seq pe_int (pv 3) (by rfl)) (pss_one (ps_ret (pe_lst (pa_cons (pe_k T.g_AIM_NOT_MET) pa_nil)))) pss_nil)
      (pss_one (ps_ret (pe_lst (pa_cons (pe_bm PySem.F.plainAttrs_list PySem.F.slot_list_index PySem.F.type_list_index mt_index (pv 3) (pa_cons pe_int pa_nil)) pa_nil))))))), ?_⟩
    refine q_asgL (el_is (ys := lI [a, u, b, 0, 10]) (el_cat (ev_var rfl) hy (el_lst (ea_cons (x := nI 0) ev_c (ea_cons (x := nI 10) ev_c ea_nil)) (by show 2 ≤ 100000; decide)) (by show 5 ≤ 100000; decide)) rfl) fun p H1 hp e1 h1 => ?_
    refine q_when (et_not (et_B (evc (ea_cons (ev_var rfl) (ea_cons (ev_var rfl) ea_nil)) (can_ask_v (W'.ex e1) G.m5 (sq_of h1))))) (fun hb H2 e2 => ?_) (fun hb H2 e2 => ?_)
    · have hb : askB d a u b 0 10 = false := by simpa using hb
      rw [ask0_eq] at hb
      have e : firstFreeA d a u b = Kp372.say (-22) := if_pos hb
      rw [e, ansV_say] at K0
      exact s_retL (el_one ev_c) fun p H3 hp e3 h3 => K0 p H3 (fresh_back (e1.trans e2) hp) ((e1.trans e2).trans e3) h3
    · have hb : askB d a u b 0 10 = true := by simpa using hb
      rw [ask0_eq] at hb
      obtain ⟨ha, hb1, hk⟩ := okAsk_lt hb
      have hb0 : Kp372.okAsk d a u b 0 = true := hb
      have e02 := e1.trans e2
      have eA : firstFreeA d a u b = (match (ends d a u b 0 10).findIdx? (fun e => e.map (·.1) == some 0) with
          | none => Kp372.say (-33)
          | some k => Kp372.say (k : Nat)) := by
        unfold firstFreeA
        rw [if_neg (by rw [hb0]; decide)]
        have h := firstFree_eq G a u b 0 10
        exact congrArg (fun o : Option Nat => match o with
          | none => Kp372.say (-33)
          | some k => Kp372.say (k : Nat)) h
      rw [eA] at K0
      refine q_asgL (elc (ea_cons (ev_var rfl) (ea_cons (ev_var rfl) ea_nil)) (costs_asked_l (W'.ex e02) G (sq_of (e2 _ _ h1)) ha hk)) fun q H3 hq e3 h3 => ?_
      have e03 := e02.trans e3
      refine q_when (et_test (ev_op ev_c (ev_var rfl) (rv_niL (K := K) (sq_of h3) rfl (cost_flat _)))) (fun hb2 H4 e4 => ?_) (fun hb2 H4 e4 => ?_)
      · have hz : (ends d a u b 0 10).findIdx? (fun e => e.map (·.1) == some 0) = none := by
          rw [List.findIdx?_eq_none_iff]
          intro e he
          have hb2 : inV (.int 0) ((ends d a u b 0 10).map costV) = false := by simpa using hb2
          have h2 := List.any_eq_false.mp hb2 (costV e) (List.mem_map.mpr ⟨e, he, rfl⟩)
          rw [← cost_zero]
          simpa using h2
        rw [hz] at K0
        exact s_retL (el_one ev_c) fun p H5 hp e5 h5 => K0 p H5 (fresh_back (e03.trans e4) hp) ((e03.trans e4).trans e5) h5
      · have hb2 : inV (.int 0) ((ends d a u b 0 10).map costV) = true := by simpa using hb2
        obtain ⟨v, hv, hv2⟩ := List.any_eq_true.mp hb2
        obtain ⟨e, he, rfl⟩ := List.mem_map.mp hv
        rw [cost_zero] at hv2
        cases hz : (ends d a u b 0 10).findIdx? (fun e => e.map (·.1) == some 0) with
        | none =>
          have := List.findIdx?_eq_none_iff.mp hz e he
          rw [this] at hv2
          cases hv2
        | some j =>
          rw [hz] at K0
          obtain ⟨hj, hj1, hj2⟩ := List.findIdx?_eq_some_iff_getElem.mp hz
          have h3' := e4 _ _ h3
          have hget : ((ends d a u b 0 10).map costV)[j]? = some (costV (ends d a u b 0 10)[j]) := by
            rw [List.getElem?_map, List.getElem?_eq_getElem hj]
            rfl
          refine s_retL (el_one (v := nI j) fun H5 e5 Q5 q5 => ?_) fun p H5 hp e5 h5 => K0 p H5 (fresh_back (e03.trans e4) hp) ((e03.trans e4).trans e5) h5
          refine ⟨_, rfl, Or.inl ⟨rfl, _, sq_of (e5 _ _ h3')⟩, q, _, _, j, _, rfl, rfl, sq_of (e5 _ _ h3'), rfl, cost_flat _, hget, ?_, ?_, q5 H5 (Ex.refl _)⟩
          · rw [cost_zero]
            exact hj1
          · intro m z hm hz2
            have hm2 : m < (ends d a u b 0 10).length := by omega
            rw [List.getElem?_map, List.getElem?_eq_getElem hm2] at hz2
            have hz3 : costV (ends d a u b 0 10)[m] = z := Option.some.inj hz2
            rw [← hz3, cost_zero]
            have := hj2 m hm
            simpa using this
/-! ### now, weights, base -/
def spNone (CR CW : Addr) (A : Kp372.Desk → Kp372.Ans) : Sp := fun vs H Q _ => ∃ (x y : Addr) (d : Kp372.Desk), vs = [.ref x, .ref y] ∧ WR CR CW H x d ∧ Good d ∧ RetL (ansV (A d)) H Q
theorem ok_now (T : Top K mg CR CA CE CW) : GOk P w K mg base 1 "answer_now" ["world", "given"] (spNone CR CW fun d => Kp372.say (d.world.now : Nat)) := by
  refine T.dAnswerNow.ok scAnswerNow (fun vs H Q E h => ?_) (fun _ _ _ _ _ _ us hl => match us, hl with | [_, _], _ => rfl) (fun f cdv A outer s H vs Q E hr h => ?_)
  · obtain ⟨x, y, d, rfl, _⟩ := h
    rfl
  · obtain ⟨x, y, d, rfl, ⟨dx, ld, le, lw, ads, aes, W⟩, G, K0⟩ := h
    refine ⟨_, pss_one (ps_ret (pe_lst (pa_cons (pe_fld (pv 0) rfl) pa_nil))), ?_⟩
    exact s_retL (el_one (ev_fld (ev_var rfl) W.ins T.cWorld T.nWorld_state wF_state)) K0
theorem ok_weights (T : Top K mg CR CA CE CW) : GOk P w K mg base 1 "answer_weights" ["world", "given"] (spNone CR CW fun d => Kp372.rowA d.weights) := by
  refine T.dAnswerWeights.ok scAnswerWeights (fun vs H Q E h => ?_) (fun _ _ _ _ _ _ us hl => match us, hl with | [_, _], _ => rfl) (fun f cdv A outer s H vs Q E hr h => ?_)
  · obtain ⟨x, y, d, rfl, _⟩ := h
    rfl
  · obtain ⟨x, y, d, rfl, ⟨dx, ld, le, lw, ads, aes, W⟩, G, K0⟩ := h
    refine ⟨_, pss_one (ps_ret (pe_op op_cat (pe_lst (pa_cons (pe_fld (pv 0) rfl) pa_nil)) (pe_fld (pv 0) rfl))), ?_⟩
    have e : ansV (Kp372.rowA d.weights) = [nI d.world.m] ++ lI d.weights := by
      rw [ansV_row]
      unfold rowL
      rw [G.wl]
      rfl
    rw [e] at K0
    refine s_retL (el_catR (el_one (ev_fld (ev_var rfl) W.ins T.cWorld T.nWorld_many wF_many)) (ev_fld (ev_var rfl) W.ins T.cWorld T.nWorld_weights wF_weights) W.hlw ?_) K0
    rw [List.length_map, G.wl]
    have := G.m5
    show 1 + d.world.m ≤ 100000
    omega
def baseA (d : Kp372.Desk) (b t : Nat) : Kp372.Ans := if 1 < b ∨ 40 < t then Kp372.say (-22) else Kp372.say (Kp372.base d b t : Nat)
def spAsk2 (CR CW : Addr) (A : Kp372.Desk → Nat → Nat → Kp372.Ans) : Sp := fun vs H Q _ => ∃ (x y : Addr) (d : Kp372.Desk) (a u : Nat), vs = [.ref x, .ref y] ∧ WR CR CW H x d ∧ Good d ∧ H y = some (.lst (lI [a, u])) ∧ RetL (ansV (A d a u)) H Q
theorem ok_base (T : Top K mg CR CA CE CW) : GOk P w K mg base 6 "answer_base" ["world", "given"] (spAsk2 CR CW baseA) := by
  refine T.dAnswerBase.ok scAnswerBase (fun vs H Q E h => ?_) (fun _ _ _ _ _ _ us hl => match us, hl with | [_, _], _ => rfl) (fun f cdv A outer s H vs Q E hr h => ?_)
  · obtain ⟨x, y, d, b, t, rfl, _⟩ := h
    rfl
  · obtain ⟨x, y, d, b, t, rfl, W', G, hy, K0⟩ := h
    obtain ⟨dx, ld, le, lw, ads, aes, W⟩ := id W'
    refine ⟨_, pss_cons (ps_set (i := 2) scAnswerBase.nd rfl (Or.inl rfl) (pe_ix ix_list (pv 1) pe_int (fun _ _ => rfl)))
      (pss_cons (ps_set (i := 3) scAnswerBase.nd rfl (Or.inl rfl) (pe_ix ix_list (pv 1) pe_int (fun _ _ => rfl)))
      (pss_cons (ps_if (PW.pt (pw_or (pt_cmpR op_gt (pv 2) pe_int (nomark _)) (pw_or1 (pt_cmpR op_gt (pv 3) (pe_k T.g_MOST_BASE_STEPS) (nomark _))))) (pss_one (ps_ret (pe_lst (pa_cons (pe_k T.g_NOT_ALLOWED) pa_nil)))) pss_nil)
      (pss_one (ps_ret (pe_lst (pa_cons (pe_m (ok_held T) hr (pv 0) (pa_cons (pv 2) (pa_cons (pv 3) pa_nil))) pa_nil)))))), ?_⟩
    refine q_asg (ev_at (K := K) (j := 0) (ev_var rfl) (sq_of hy) rfl) fun H1 e1 => ?_
    refine q_asg (ev_at (K := K) (j := 1) (ev_var rfl) (sq_of (e1 _ _ hy)) rfl) fun H2 e2 => ?_
    have e02 := e1.trans e2
    refine q_when (et_or (et_test (ev_gtN (b := 1) (ev_var rfl) ev_c)) fun _ => et_test (ev_gtN (b := 40) (ev_var rfl) ev_c)) (fun hb H3 e3 => ?_) (fun hb H3 e3 => ?_)
    · have hb : 1 < b ∨ 40 < t := by simpa using hb
      have e : baseA d b t = Kp372.say (-22) := if_pos hb
      rw [e, ansV_say] at K0
      exact s_retL (el_one ev_c) fun p H4 hp e4 h4 => K0 p H4 (fresh_back (e02.trans e3) hp) ((e02.trans e3).trans e4) h4
    · have hb : ¬ (1 < b ∨ 40 < t) := by simpa using hb
      have e : baseA d b t = Kp372.say (Kp372.base d b t : Nat) := if_neg hb
      rw [e, ansV_say] at K0
      exact s_retL (el_one (ev_meth (ev_var rfl) ((e02.trans e3) _ _ W.ins) wF_held_against (ea_cons (ev_var rfl) (ea_cons (ev_var rfl) ea_nil)) (held_v (W'.ex (e02.trans e3)) (by omega)))) fun p H4 hp e4 h4 => K0 p H4 (fresh_back (e02.trans e3) hp) ((e02.trans e3).trans e4) h4
/-! ### changes, touches, price -/
def changesA (d : Kp372.Desk) (b : Nat) (l : List Nat) : Kp372.Ans := if Kp372.okChoices d l = false then Kp372.say (-2) else if 1 < b then Kp372.say (-22) else (let r := Kp372.played d.world l
        Kp372.rowA (Kp372.differ d r.1 (Kp372.base d b r.2)))
def spChanges (CR CW : Addr) : Sp := fun vs H Q _ => ∃ (x y : Addr) (d : Kp372.Desk) (b : Nat) (l : List Nat), vs = [.ref x, .ref y] ∧ WR CR CW H x d ∧ Good d ∧ H y = some (.lst (lI (b :: l))) ∧ l.length ≤ 12 ∧ RetL (ansV (changesA d b l)) H Q
theorem ok_changes (T : Top K mg CR CA CE CW) : GOk P w K mg base 6 "answer_changes" ["world", "given"] (spChanges CR CW) := by
  refine T.dAnswerChanges.ok scAnswerChanges (fun vs H Q E h => ?_) (fun _ _ _ _ _ _ us hl => match us, hl with | [_, _], _ => rfl) (fun f cdv A outer s H vs Q E hr h => ?_)
  · obtain ⟨x, y, d, b, l, rfl, _⟩ := h
    rfl
  · obtain ⟨x, y, d, b, l, rfl, W', G, hy, hl, K0⟩ := h
    obtain ⟨dx, ld, le, lw, ads, aes, W⟩ := id W'
    refine ⟨_, pss_cons (ps_set (i := 2) scAnswerChanges.nd rfl (Or.inl rfl) (pe_ix ix_list (pv 1) pe_int (fun _ _ => rfl)))
      (pss_cons (ps_set (i := 3) scAnswerChanges.nd rfl (Or.inl rfl) (pe_slice sl_list (pv 1) (po_some pe_int) po_none))
      (pss_cons (ps_if (pt_not (pt_val (pe_g (ok_all_choices T) hr (pa_cons (pv 0) (pa_cons (pv 3) pa_nil))))) (pss_one (ps_ret (pe_lst (pa_cons (pe_k T.g_NO_SUCH) pa_nil)))) pss_nil)
      (pss_cons (ps_if (pt_cmpR op_gt (pv 2) pe_int (nomark _)) (pss_one (ps_ret (pe_lst (pa_cons (pe_k T.g_NOT_ALLOWED) pa_nil)))) pss_nil)
      (pss_cons (ps_set (i := 4) scAnswerChanges.nd rfl (Or.inl rfl) (pe_m (ok_along T) hr (pv 0) (pa_cons (pv 3) pa_nil)))
      (pss_cons (ps_set (i := 5) scAnswerChanges.nd rfl (Or.inl rfl) (pe_m (ok_held T) hr (pv 0) (pa_cons (pv 2) (pa_cons (pe_op op_sub (pe_callB call_len_seq (by rfl) T.b_len PySem.boot_len (pa_cons (pv 4) pa_nil)) pe_int) pa_nil))))
      (pss_one (ps_ret (pe_g (ok_count_facts T) hr (pa_cons (pv 0) (pa_cons (pe_op op_xor (pe_ix ix_list (pv 4) (pe_un un_neg pe_int) (fun _ _ => rfl)) (pv 5)) pa_nil)))))))))), ?_⟩
    refine q_asg (ev_at (K := K) (j := 0) (ev_var rfl) (sq_of hy) rfl) fun H1 e1 => ?_
    refine q_asgL (el_is (ys := lI l) (el_sl (K := K) (lo := some ((1 : Nat) : Int)) (ev_var rfl) (eo_some ev_c) eo_none (sq_of (e1 _ _ hy))) (by rw [cut_from]; rfl)) fun r H2 hr2 e2 h2 => ?_
    have e02 := e1.trans e2
    refine q_when (et_not (et_B (evc (ea_cons (ev_var rfl) (ea_cons (ev_var rfl) ea_nil)) (all_choices_v (W'.ex e02) (sq_of h2) (by omega))))) (fun hb H3 e3 => ?_) (fun hb H3 e3 => ?_)
    · have hb : Kp372.okChoices d l = false := by
        unfold Kp372.okChoices
        cases h : l.all fun i => decide (i ≤ d.world.deeds.length) with
        | false => rfl
        | true =>
          rw [h] at hb
          cases hb
      have e : changesA d b l = Kp372.say (-2) := if_pos hb
      rw [e, ansV_say] at K0
      exact s_retL (el_one ev_c) fun p H4 hp e4 h4 => K0 p H4 (fresh_back (e02.trans e3) hp) ((e02.trans e3).trans e4) h4
    · have hb : Kp372.okChoices d l = true := by
        unfold Kp372.okChoices
        cases h : l.all fun i => decide (i ≤ d.world.deeds.length) with
        | true => rfl
        | false =>
          rw [h] at hb
          cases hb
      have hall : ∀ i ∈ l, i ≤ d.world.deeds.length := fun i hi => of_decide_eq_true (List.all_eq_true.mp hb i hi)
      have e03 := e02.trans e3
      refine q_when (et_test (ev_gtN (b := 1) (ev_var rfl) ev_c)) (fun hb2 H4 e4 => ?_) (fun hb2 H4 e4 => ?_)
      · have hb2 := of_decide_eq_true hb2
        have e : changesA d b l = Kp372.say (-22) := by
          unfold changesA
          rw [if_neg (by rw [hb]; decide), if_pos hb2]
        rw [e, ansV_say] at K0
        exact s_retL (el_one ev_c) fun p H5 hp e5 h5 => K0 p H5 (fresh_back (e03.trans e4) hp) ((e03.trans e4).trans e5) h5
      · have hb2 := of_decide_eq_false hb2
        have e04 := e03.trans e4
        have e : ansV (changesA d b l) = rowL (factsOf d.world.m ((along d.world d.world.now l).getLastD d.world.now ^^^ Kp372.base d b (along d.world d.world.now l).length)) := by
          unfold changesA
          rw [if_neg (by rw [hb]; decide), if_neg hb2]
          show ansV (Kp372.rowA (Kp372.differ d (Kp372.played d.world l).1 (Kp372.base d b (Kp372.played d.world l).2))) = _
          rw [ansV_row, played_eq, differ_eq]
        rw [e] at K0
        have hal : (along d.world d.world.now l).length ≤ 12 := Nat.le_trans along_len hl
        refine q_asgL (el_meth (ev_var rfl) (e04 _ _ W.ins) wF_states_along (ea_cons (ev_var rfl) ea_nil) (along_l (K := K) (W'.ex e04) (sq_of (e4 _ _ (e3 _ _ h2))) hall (by omega))) fun p H5 hp e5 h5 => ?_
        have e05 := e04.trans e5
        refine q_asg (ev_meth (ev_var rfl) (e05 _ _ W.ins) wF_held_against (ea_cons (ev_var rfl) (ea_cons (ev_subN (b := 1) (ev_is (w := nI ((along d.world d.world.now l).length + 1)) (ev_len (K := K) (ev_var rfl) (sq_of h5)) (by rw [List.length_map]; rfl)) ev_c (by omega)) ea_nil)) (held_v (W'.ex e05) (by omega))) fun H6 e6 => ?_
        rw [Nat.add_sub_cancel]
        have e06 := e05.trans e6
        exact s_retL (elc (ea_cons (ev_var rfl) (ea_cons (ev_bXor (ev_op (ev_var rfl) (ev_un ev_c ru_neg) (rv_ixL (K := K) (sq_of (e6 _ _ h5)) (at_last _ _))) (ev_var rfl)) ea_nil)) (count_facts_l (W'.ex e06) G.m5)) fun p2 H7 hp2 e7 h7 => K0 p2 H7 (fresh_back e06 hp2) (e06.trans e7) h7
def touchesA (d : Kp372.Desk) (i : Nat) : Kp372.Ans := if d.world.deeds.length < i then Kp372.say (-2) else match Kp371.stepBy d.world d.world.now i with
        | none => Kp372.say (-6)
        | some t => Kp372.rowA (Kp372.differ d t (Kp371.happen d.world d.world.now))
def spAsk1 (CR CW : Addr) (A : Kp372.Desk → Nat → Kp372.Ans) : Sp := fun vs H Q _ => ∃ (x y : Addr) (d : Kp372.Desk) (a : Nat), vs = [.ref x, .ref y] ∧ WR CR CW H x d ∧ Good d ∧ H y = some (.lst (lI [a])) ∧ RetL (ansV (A d a)) H Q
theorem ok_touches (T : Top K mg CR CA CE CW) : GOk P w K mg base 5 "answer_touches" ["world", "given"] (spAsk1 CR CW touchesA) := by
  refine T.dAnswerTouches.ok scAnswerTouches (fun vs H Q E h => ?_) (fun _ _ _ _ _ _ us hl => match us, hl with | [_, _], _ => rfl) (fun f cdv A outer s H vs Q E hr h => ?_)
  · obtain ⟨x, y, d, i, rfl, _⟩ := h
    rfl
  · obtain ⟨x, y, d, i, rfl, W', G, hy, K0⟩ := h
    obtain ⟨dx, ld, le, lw, ads, aes, W⟩ := id W'
    refine ⟨_, pss_cons (ps_set (i := 2) scAnswerTouches.nd rfl (Or.inl rfl) (pe_ix ix_list (pv 1) pe_int (fun _ _ => rfl)))
      (pss_cons (ps_if (pt_not (pt_val (pe_m (ok_is_choice T) hr (pv 0) (pa_cons (pv 2) pa_nil)))) (pss_one (ps_ret (pe_lst (pa_cons (pe_k T.g_NO_SUCH) pa_nil)))) pss_nil)
      (pss_cons (ps_if (pt_not (pt_val (pe_m (ok_can_choose T) hr (pv 0) (pa_cons (pv 2) (pa_cons (pe_fld (pv 0) rfl) pa_nil))))) (pss_one (ps_ret (pe_lst (pa_cons (pe_k T.g_CANNOT_BE_DONE) pa_nil)))) pss_nil)
      (pss_cons (ps_set (i := 3) scAnswerTouches.nd rfl (Or.inl rfl) (pe_m (ok_choose T) hr (pv 0) (pa_cons (pv 2) (pa_cons (pe_fld (pv 0) rfl) pa_nil))))
      (pss_one (ps_ret (pe_g (ok_count_facts T) hr (pa_cons (pv 0) (pa_cons (pe_op op_xor (pv 3) (pe_m (ok_by_waiting T) hr (pv 0) (pa_cons pe_int pa_nil))) pa_nil)))))))), ?_⟩
    refine q_asg (ev_at (K := K) (j := 0) (ev_var rfl) (sq_of hy) rfl) fun H1 e1 => ?_
    refine q_when (et_not (et_B (ev_meth (ev_var rfl) (e1 _ _ W.ins) wF_is_choice (ea_cons (ev_var rfl) ea_nil) (is_choice_v (W'.ex e1))))) (fun hb H2 e2 => ?_) (fun hb H2 e2 => ?_)
    · have hb : d.world.deeds.length < i := by simpa using hb
      have e : touchesA d i = Kp372.say (-2) := if_pos hb
      rw [e, ansV_say] at K0
      exact s_retL (el_one ev_c) fun p H4 hp e4 h4 => K0 p H4 (fresh_back (e1.trans e2) hp) ((e1.trans e2).trans e4) h4
    · have hb : i ≤ d.world.deeds.length := by simpa using hb
      have e02 := e1.trans e2
      have eA : touchesA d i = match Kp371.stepBy d.world d.world.now i with
        | none => Kp372.say (-6)
        | some t => Kp372.rowA (Kp372.differ d t (Kp371.happen d.world d.world.now)) := if_neg (by omega)
      rw [eA] at K0
      refine q_when (et_not (et_B (ev_meth (ev_var rfl) (e02 _ _ W.ins) wF_can_choose (ea_cons (ev_var rfl) (ea_cons (ev_fld (ev_var rfl) (e02 _ _ W.ins) T.cWorld T.nWorld_state wF_state) ea_nil)) (can_choose_v (W'.ex e02) hb)))) (fun hb2 H3 e3 => ?_) (fun hb2 H3 e3 => ?_)
      · cases hs : Kp371.stepBy d.world d.world.now i with
        | some t =>
          rw [hs] at hb2
          cases hb2
        | none =>
          rw [hs] at K0
          exact s_retL (el_one ev_c) fun p H4 hp e4 h4 => K0 p H4 (fresh_back (e02.trans e3) hp) ((e02.trans e3).trans e4) h4
      · cases hs : Kp371.stepBy d.world d.world.now i with
        | none =>
          rw [hs] at hb2
          cases hb2
        | some t =>
          rw [hs] at K0
          have e : ansV (Kp372.rowA (Kp372.differ d t (Kp371.happen d.world d.world.now))) = rowL (factsOf d.world.m (t ^^^ Kp371.itself d.world d.world.now 1)) := by
            rw [ansV_row, differ_eq]
            rfl
          have K1 : RetL (rowL (factsOf d.world.m (t ^^^ Kp371.itself d.world d.world.now 1))) H Q := by
            rw [← e]
            exact K0
          have e03 := e02.trans e3
          refine q_asg (ev_meth (ev_var rfl) (e03 _ _ W.ins) wF_behind_choice (ea_cons (ev_var rfl) (ea_cons (ev_fld (ev_var rfl) (e03 _ _ W.ins) T.cWorld T.nWorld_state wF_state) ea_nil)) (choose_v (W'.ex e03) hs)) fun H4 e4 => ?_
          have e04 := e03.trans e4
          exact s_retL (elc (ea_cons (ev_var rfl) (ea_cons (ev_bXor (ev_var rfl) (ev_meth (ev_var rfl) (e04 _ _ W.ins) wF_behind_waiting (ea_cons (x := nI 1) ev_c ea_nil) (by_waiting_v (W'.ex e04) (by omega)))) ea_nil)) (count_facts_l (W'.ex e04) G.m5)) fun p2 H7 hp2 e7 h7 => K1 p2 H7 (fresh_back e04 hp2) (e04.trans e7) h7
end
end LC

namespace LC
open PySem PySem.Spec PyProof.Rows L2 Evl
section
variable {P : Program} {w : World} {K : PySem.W.Frag} {mg : Str → Option Value} {base : Heap} {CR CA CE CW : Addr}
/-! ### price -/
def priceA (d : Kp372.Desk) (a u b : Nat) (l : List Nat) : Kp372.Ans := if Kp372.okChoices d l = false then Kp372.say (-2) else if Kp372.okAsk d a u b 0 = false then Kp372.say (-22) else (let r := Kp372.played d.world l
        if r.2 < l.length then Kp372.say (-6) else if Kp371.isAim a u r.1 = false then Kp372.say (-33) else Kp372.say (Kp372.cost d a r.1 (Kp372.base d b r.2) : Nat))
def spPrice (CR CW : Addr) : Sp := fun vs H Q _ => ∃ (x y : Addr) (d : Kp372.Desk) (a u b : Nat) (l : List Nat), vs = [.ref x, .ref y] ∧ WR CR CW H x d ∧ Good d ∧ H y = some (.lst (lI (a :: u :: b :: l))) ∧ l.length ≤ 12 ∧ RetL (ansV (priceA d a u b l)) H Q
theorem price_ask (d : Kp372.Desk) (a u b : Nat) : (!isAimB (2 ^ d.world.m - 1) a u || decide (1 < b)) = !Kp372.okAsk d a u b 0 := by
  unfold Kp372.okAsk isAimB
  rw [okAim_eq]
  cases Kp371.okAim d.world a u
  · rfl
  · by_cases h : 1 < b
    · have h2 : ¬ b ≤ 1 := by omega
      simp [h, h2]
    · have h2 : b ≤ 1 := by omega
      simp [h, h2]
theorem ok_price (T : Top K mg CR CA CE CW) : GOk P w K mg base 6 "answer_price" ["world", "given"] (spPrice CR CW) := by
  refine T.dAnswerPrice.ok scAnswerPrice (fun vs H Q E h => ?_) (fun _ _ _ _ _ _ us hl => match us, hl with | [_, _], _ => rfl) (fun f cdv A outer s H vs Q E hr h => ?_)
  · obtain ⟨x, y, d, a, u, b, l, rfl, _⟩ := h
    rfl
  · obtain ⟨x, y, d, a, u, b, l, rfl, W', G, hy, hl, K0⟩ := h
    obtain ⟨dx, ld, le, lw, ads, aes, W⟩ := id W'
    refine ⟨_, pss_cons (ps_set (i := 2) scAnswerPrice.nd rfl (Or.inl rfl) (pe_ix ix_list (pv 1) pe_int (fun _ _ => rfl)))
      (pss_cons (ps_set (i := 3) scAnswerPrice.nd rfl (Or.inl rfl) (pe_slice sl_list (pv 1) (po_some pe_int) po_none))
      (pss_cons (ps_if (pt_not (pt_val (pe_g (ok_all_choices T) hr (pa_cons (pv 0) (pa_cons (pv 3) pa_nil))))) (pss_one (ps_ret (pe_lst (pa_cons (pe_k T.g_NO_SUCH) pa_nil)))) pss_nil)
      (pss_cons (ps_if (PW.pt (pw_or (pt_not (pt_val (pe_g (ok_is_aim T) hr (pa_cons (pe_m0 (ok_every T) hr (pv 0)) (pa_cons (pe_ix ix_list (pv 1) pe_int (fun _ _ => rfl)) (pa_cons (pe_ix ix_list (pv 1) pe_int (fun _ _ => rfl)) pa_nil)))))) (pw_or1 (pt_cmpR op_gt (pv 2) pe_int (nomark _))))) (pss_one (ps_ret (pe_lst (pa_cons (pe_k T.g_NOT_ALLOWED) pa_nil)))) pss_nil)
      (pss_cons (ps_set (i := 4) scAnswerPrice.nd rfl (Or.inl rfl) (pe_new (ok_aim_init T) hr (pa_cons (pe_ix ix_list (pv 1) pe_int (fun _ _ => rfl)) (pa_cons (pe_ix ix_list (pv 1) pe_int (fun _ _ => rfl)) pa_nil))))
      (pss_cons (ps_set (i := 5) scAnswerPrice.nd rfl (Or.inl rfl) (pe_m (ok_along T) hr (pv 0) (pa_cons (pv 3) pa_nil)))
      (pss_cons (ps_if (pt_cmpR op_le (pe_callB call_len_seq (by rfl) T.b_len PySem.boot_len (pa_cons (pv 5) pa_nil)) (pe_callB call_len_seq (by rfl) T.b_len PySem.boot_len (pa_cons (pv 3) pa_nil)) (nomark _)) (pss_one (ps_ret (pe_lst (pa_cons (pe_k T.g_CANNOT_BE_DONE) pa_nil)))) pss_nil)
      (pss_cons (ps_if (pt_not (pt_val (pe_m (ok_is_met T) hr (pv 4) (pa_cons (pe_ix ix_list (pv 5) (pe_un un_neg pe_int) (fun _ _ => rfl)) pa_nil)))) (pss_one (ps_ret (pe_lst (pa_cons (pe_k T.g_AIM_NOT_MET) pa_nil)))) pss_nil)
      (pss_one (ps_ret (pe_lst (pa_cons (pe_m (ok_changed T) hr (pv 0) (pa_cons (pv 4) (pa_cons (pe_ix ix_list (pv 5) (pe_un un_neg pe_int) (fun _ _ => rfl)) (pa_cons (pe_m (ok_held T) hr (pv 0) (pa_cons (pv 2) (pa_cons (pe_callB call_len_seq (by rfl) T.b_len PySem.boot_len (pa_cons (pv 3) pa_nil)) pa_nil))) pa_nil)))) pa_nil))))))))))), ?_⟩
    refine q_asg (ev_at (K := K) (j := 2) (ev_var rfl) (sq_of hy) rfl) fun H1 e1 => ?_
    refine q_asgL (el_is (ys := lI l) (el_sl (K := K) (lo := some ((3 : Nat) : Int)) (ev_var rfl) (eo_some ev_c) eo_none (sq_of (e1 _ _ hy))) (by rw [cut_from]; rfl)) fun r H2 hr2 e2 h2 => ?_
    have e02 := e1.trans e2
    refine q_when (et_not (et_B (evc (ea_cons (ev_var rfl) (ea_cons (ev_var rfl) ea_nil)) (all_choices_v (W'.ex e02) (sq_of h2) (by omega))))) (fun hb H3 e3 => ?_) (fun hb H3 e3 => ?_)
    · have hb : Kp372.okChoices d l = false := by
        unfold Kp372.okChoices
        cases h : l.all fun i => decide (i ≤ d.world.deeds.length) with
        | false => rfl
        | true =>
          rw [h] at hb
          cases hb
      have e : priceA d a u b l = Kp372.say (-2) := if_pos hb
      rw [e, ansV_say] at K0
      exact s_retL (el_one ev_c) fun p H4 hp e4 h4 => K0 p H4 (fresh_back (e02.trans e3) hp) ((e02.trans e3).trans e4) h4
    · have hb : Kp372.okChoices d l = true := by
        unfold Kp372.okChoices
        cases h : l.all fun i => decide (i ≤ d.world.deeds.length) with
        | true => rfl
        | false =>
          rw [h] at hb
          cases hb
      have hall : ∀ i ∈ l, i ≤ d.world.deeds.length := fun i hi => of_decide_eq_true (List.all_eq_true.mp hb i hi)
      have e03 := e02.trans e3
      have hy3 := e03 _ _ hy
      refine q_when (et_is (et_or (et_not (et_B (evc (ea_cons (ev_meth (ev_var rfl) (e03 _ _ W.ins) wF_everything ea_nil (every_v (W'.ex e03) G.m5)) (ea_cons (ev_at (K := K) (j := 0) (ev_var rfl) (sq_of hy3) rfl) (ea_cons (ev_at (K := K) (j := 1) (ev_var rfl) (sq_of hy3) rfl) ea_nil))) is_aim_v))) fun _ => et_test (ev_gtN (b := 1) (ev_var rfl) ev_c)) (price_ask d a u b)) (fun hb2 H4 e4 => ?_) (fun hb2 H4 e4 => ?_)
      · have hb2 : Kp372.okAsk d a u b 0 = false := by simpa using hb2
        have e : priceA d a u b l = Kp372.say (-22) := by
          unfold priceA
          rw [if_neg (by rw [hb]; decide), if_pos hb2]
        rw [e, ansV_say] at K0
        exact s_retL (el_one ev_c) fun p H5 hp e5 h5 => K0 p H5 (fresh_back (e03.trans e4) hp) ((e03.trans e4).trans e5) h5
      · have hb2 : Kp372.okAsk d a u b 0 = true := by simpa using hb2
        obtain ⟨ha, hb1, _⟩ := okAsk_lt hb2
        have e04 := e03.trans e4
        have hy4 := e04 _ _ hy
        have eA : priceA d a u b l = if (along d.world d.world.now l).length < l.length then Kp372.say (-6) else if Kp371.isAim a u ((along d.world d.world.now l).getLastD d.world.now) = false then Kp372.say (-33) else Kp372.say (Kp372.cost d a ((along d.world d.world.now l).getLastD d.world.now) (Kp372.base d b (along d.world d.world.now l).length) : Nat) := by
          unfold priceA
          rw [if_neg (by rw [hb]; decide), if_neg (by rw [hb2]; decide), played_eq]
        rw [eA] at K0
        have hal : (along d.world d.world.now l).length ≤ 12 := Nat.le_trans along_len hl
        refine q_asgP (aim_new (CA := CA) (ea_cons (ev_at (K := K) (j := 0) (ev_var rfl) (sq_of hy4) rfl) (ea_cons (ev_at (K := K) (j := 1) (ev_var rfl) (sq_of hy4) rfl) ea_nil))) ?_
        rintro v H5 e5 ⟨ai, rfl, hA⟩
        have e05 := e04.trans e5
        have h25 := e5 _ _ (e4 _ _ (e3 _ _ h2))
        refine q_asgL (el_meth (ev_var rfl) (e05 _ _ W.ins) wF_states_along (ea_cons (ev_var rfl) ea_nil) (along_l (K := K) (W'.ex e05) (sq_of h25) hall (by omega))) fun p H6 hp e6 h6 => ?_
        have e06 := e05.trans e6
        refine q_when (et_test (ev_leN (ev_is (w := nI ((along d.world d.world.now l).length + 1)) (ev_len (K := K) (ev_var rfl) (sq_of h6)) (by rw [List.length_map]; rfl)) (ev_is (w := nI l.length) (ev_len (K := K) (ev_var rfl) (sq_of (e6 _ _ h25))) (by rw [List.length_map])))) (fun hb3 H7 e7 => ?_) (fun hb3 H7 e7 => ?_)
        · have hb3 := of_decide_eq_true hb3
          rw [if_pos (by omega), ansV_say] at K0
          exact s_retL (el_one ev_c) fun p H8 hp e8 h8 => K0 p H8 (fresh_back (e06.trans e7) hp) ((e06.trans e7).trans e8) h8
        · have hb3 := of_decide_eq_false hb3
          have hle : (along d.world d.world.now l).length = l.length := by
            have := along_len (w := d.world) (s := d.world.now) (l := l)
            omega
          rw [if_neg (by omega), hle] at K0
          have e07 := e06.trans e7
          have h67 := e7 _ _ h6
          obtain ⟨da, hda⟩ := hA.ex (e6.trans e7)
          refine q_when (et_not (et_B (ev_meth (ev_var rfl) hda aF_is_met (ea_cons (ev_op (ev_var rfl) (ev_un ev_c ru_neg) (rv_ixL (K := K) (sq_of h67) (at_last _ _))) ea_nil) (is_met_v ⟨da, hda⟩)))) (fun hb4 H8 e8 => ?_) (fun hb4 H8 e8 => ?_)
          · have hb4 : Kp371.isAim a u ((along d.world d.world.now l).getLastD d.world.now) = false := by simpa using hb4
            rw [if_pos hb4, ansV_say] at K0
            exact s_retL (el_one ev_c) fun p H9 hp e9 h9 => K0 p H9 (fresh_back (e07.trans e8) hp) ((e07.trans e8).trans e9) h9
          · have hb4 : Kp371.isAim a u ((along d.world d.world.now l).getLastD d.world.now) = true := by simpa using hb4
            rw [if_neg (by rw [hb4]; decide), ansV_say] at K0
            have e08 := e07.trans e8
            have h25' := e8 _ _ (e7 _ _ (e6 _ _ h25))
            exact s_retL (el_one (ev_meth (ev_var rfl) (e08 _ _ W.ins) wF_weight_changed (ea_cons (ev_var rfl) (ea_cons (ev_op (ev_var rfl) (ev_un ev_c ru_neg) (rv_ixL (K := K) (sq_of (e8 _ _ h67)) (at_last _ _))) (ea_cons (ev_meth (ev_var rfl) (e08 _ _ W.ins) wF_held_against (ea_cons (ev_var rfl) (ea_cons (ev_is (w := nI l.length) (ev_len (K := K) (ev_var rfl) (sq_of h25')) (by rw [List.length_map])) ea_nil)) (held_v (W'.ex e08) (by omega))) ea_nil))) (changed_v (W'.ex e08) G (AimAt.ex e8 ⟨da, hda⟩) ha (last_lt G l) (base_lt G b l.length)))) fun p H9 hp e9 h9 => K0 p H9 (fresh_back e08 hp) (e08.trans e9) h9
end
/-! ### what changes the world -/
def WL (CR CW : Addr) (H : Hp) (a ld le lw : Addr) (d : Kp372.Desk) : Prop := ∃ dx ads aes, WA CR CW H a dx ld le lw ads aes d
theorem WL.wr {CR CW : Addr} {H : Hp} {a ld le lw : Addr} {d : Kp372.Desk} (h : WL CR CW H a ld le lw d) : WR CR CW H a d := by
  obtain ⟨dx, ads, aes, W⟩ := h
  exact ⟨dx, ld, le, lw, ads, aes, W⟩
theorem WL.ex {CR CW : Addr} {H H' : Hp} {a ld le lw : Addr} {d : Kp372.Desk} (e : Ex H H') (h : WL CR CW H a ld le lw d) : WL CR CW H' a ld le lw d := by
  obtain ⟨dx, ads, aes, W⟩ := h
  exact ⟨dx, ads, aes, W.ex e⟩
/-- all but the world's own four objects stays -/
def Fr4 (H : Hp) (a ld le lw : Addr) (H' : Hp) : Prop := ∀ b o, H b = some o → b ≠ a → b ≠ ld → b ≠ le → b ≠ lw → H' b = some o
def New (H : Hp) (ld le lw b : Addr) : Prop := b = ld ∨ b = le ∨ b = lw ∨ H b = none
def Res (CR CW : Addr) (H : Hp) (a ld le lw : Addr) (d' : Kp372.Desk) (ans : List V) (Q : VK) : Prop :=
  ∀ (H' : Hp) (q ld' le' lw' : Addr), WL CR CW H' a ld' le' lw' d' → Fr4 H a ld le lw H' → New H ld le lw ld' → New H ld le lw le' → New H ld le lw lw' → H q = none → H' q = some (.lst ans) → Q (.ref q) H'
theorem upd_fresh {H : Hp} {a p : Addr} {o : HO} (h : upd H a o p = none) : H p = none := by
  by_cases e : p = a
  · rw [e, upd_same] at h
    cases h
  · rw [upd_ne e] at h
    exact h
/-- where nothing is changed -/
theorem Res.same {CR CW : Addr} {H : Hp} {a ld le lw : Addr} {d : Kp372.Desk} {ans : List V} {Q : VK} (W : WL CR CW H a ld le lw d) (h : Res CR CW H a ld le lw d ans Q) : RetL ans H Q :=
  fun q H' hn e hq => h H' q ld le lw (W.ex e) (fun b o hb _ _ _ _ => e b o hb) (Or.inl rfl) (Or.inr (Or.inl rfl)) (Or.inr (Or.inr (Or.inl rfl))) hn hq
theorem Rules.keep {CR : Addr} {H H' : Hp} {as : List Addr} {rs : List Kp371.Deed} (h : Rules CR H as rs) (k : ∀ b C dx fs, H b = some (.ins C dx fs) → C = CR → H' b = some (.ins C dx fs)) : Rules CR H' as rs :=
  ⟨h.1, fun i a r h1 h2 => by
    obtain ⟨dx, q⟩ := h.2 i a r h1 h2
    exact ⟨dx, k _ _ _ _ q rfl⟩⟩
/-- the world's own fields are stored anew (CW is not CR) -/
theorem WA.now {CR CW : Addr} {H : Hp} {a dx ld le lw : Addr} {ads aes : List Addr} {d : Kp372.Desk} (hne : CW ≠ CR) (W : WA CR CW H a dx ld le lw ads aes d) (s : Nat) :
    WA CR CW (upd H a (.ins CW dx (wF (nI d.world.m) (nI s) (.ref ld) (.ref le) (.ref lw)))) a dx ld le lw ads aes (withNow d s) := by
  have kr : ∀ b C dx' fs, H b = some (.ins C dx' fs) → C = CR → upd H a (.ins CW dx (wF (nI d.world.m) (nI s) (.ref ld) (.ref le) (.ref lw))) b = some (.ins C dx' fs) := fun b C dx' fs h hC => by
    have : b ≠ a := ne_of h W.ins (by
      intro z
      injection z with z1
      exact hne (z1.symm.trans hC))
    rw [upd_ne this]
    exact h
  have n1 : ld ≠ a := ne_of W.hld W.ins (by intro z; cases z)
  have n2 : le ≠ a := ne_of W.hle W.ins (by intro z; cases z)
  have n3 : lw ≠ a := ne_of W.hlw W.ins (by intro z; cases z)
  exact ⟨upd_same, by rw [upd_ne n1]; exact W.hld, W.rd.keep kr, by rw [upd_ne n2]; exact W.hle, W.re.keep kr, by rw [upd_ne n3]; exact W.hlw, W.n1, W.n2, W.n3⟩
theorem WA.weights {CR CW : Addr} {H : Hp} {a dx ld le lw : Addr} {ads aes : List Addr} {d : Kp372.Desk} (W : WA CR CW H a dx ld le lw ads aes d) (l : List Nat) : WA CR CW (upd H lw (.lst (lI l))) a dx ld le lw ads aes (withWeights d l) := by
  have kr : ∀ b C dx' fs, H b = some (.ins C dx' fs) → C = CR → upd H lw (.lst (lI l)) b = some (.ins C dx' fs) := fun b C dx' fs h _ => by
    rw [upd_ne (ne_of h W.hlw (by intro z; cases z))]
    exact h
  exact ⟨by rw [upd_ne (ne_of W.ins W.hlw (by intro z; cases z))]; exact W.ins, by rw [upd_ne W.n2]; exact W.hld, W.rd.keep kr, by rw [upd_ne W.n3]; exact W.hle, W.re.keep kr, upd_same, W.n1, W.n2, W.n3⟩
/-- other deeds: told by the heap behind it -/
theorem WA.deeds {CR CW : Addr} {H H' : Hp} {a dx ld le lw : Addr} {ads aes ads' : List Addr} {d : Kp372.Desk} {l : List Kp371.Deed} (W : WA CR CW H a dx ld le lw ads aes d) (k : ∀ b o, H b = some o → b ≠ ld → H' b = some o) (h1 : H' ld = some (.lst (ads'.map V.ref))) (h2 : Rules CR H' ads' l) :
    WA CR CW H' a dx ld le lw ads' aes (withDeeds d l) := by
  have kr : ∀ b C dx' fs, H b = some (.ins C dx' fs) → C = CR → H' b = some (.ins C dx' fs) := fun b C dx' fs h _ => k _ _ h (ne_of h W.hld (by intro z; cases z))
  exact ⟨k _ _ W.ins (ne_of W.ins W.hld (by intro z; cases z)), h1, h2, k _ _ W.hle (Ne.symm W.n1), W.re.keep kr, k _ _ W.hlw (Ne.symm W.n2), W.n1, W.n2, W.n3⟩
theorem WA.events {CR CW : Addr} {H H' : Hp} {a dx ld le lw : Addr} {ads aes aes' : List Addr} {d : Kp372.Desk} {l : List Kp371.Deed} (W : WA CR CW H a dx ld le lw ads aes d) (k : ∀ b o, H b = some o → b ≠ le → H' b = some o) (h1 : H' le = some (.lst (aes'.map V.ref))) (h2 : Rules CR H' aes' l) :
    WA CR CW H' a dx ld le lw ads aes' (withEvents d l) := by
  have kr : ∀ b C dx' fs, H b = some (.ins C dx' fs) → C = CR → H' b = some (.ins C dx' fs) := fun b C dx' fs h _ => k _ _ h (ne_of h W.hle (by intro z; cases z))
  exact ⟨k _ _ W.ins (ne_of W.ins W.hle (by intro z; cases z)), k _ _ W.hld W.n1, W.rd.keep kr, h1, h2, k _ _ W.hlw (Ne.symm W.n3), W.n1, W.n2, W.n3⟩
theorem Rules.snoc {CR : Addr} {H H' : Hp} {as : List Addr} {rs : List Kp371.Deed} {p r : Addr} {x : Kp371.Deed} {vs : List V} (h : Rules CR H as rs) (hr : H r = some (.lst vs)) (k : ∀ b o, H b = some o → b ≠ r → H' b = some o) (hp : RuleAt CR H' p x) : Rules CR H' (as ++ [p]) (rs ++ [x]) := by
  have h' : Rules CR H' as rs := h.keep fun b C dx fs hb _ => k _ _ hb (ne_of hb hr (by intro z; cases z))
  refine ⟨by simp [h.1], fun i a y h1 h2 => ?_⟩
  by_cases hi : i < as.length
  · rw [List.getElem?_append_left hi] at h1
    rw [List.getElem?_append_left (by rw [← h.1]; exact hi)] at h2
    exact h'.2 i a y h1 h2
  · rw [List.getElem?_append_right (by omega)] at h1
    rw [List.getElem?_append_right (by rw [← h.1]; omega), ← h.1] at h2
    have hlt := (List.getElem?_eq_some_iff.mp h1).1
    have h0 : i - as.length = 0 := by
      simp at hlt
      omega
    rw [h0] at h1 h2
    have e1 : p = a := by simpa using h1
    have e2 : x = y := by simpa using h2
    subst e1
    subst e2
    exact hp
theorem Rules.erase {CR : Addr} {H H' : Hp} {as : List Addr} {rs : List Kp371.Deed} {r : Addr} {vs : List V} (h : Rules CR H as rs) (hr : H r = some (.lst vs)) (k : ∀ b o, H b = some o → b ≠ r → H' b = some o) (i : Nat) : Rules CR H' (as.eraseIdx i) (rs.eraseIdx i) := by
  have h' : Rules CR H' as rs := h.keep fun b C dx fs hb _ => k _ _ hb (ne_of hb hr (by intro z; cases z))
  refine ⟨by rw [List.length_eraseIdx, List.length_eraseIdx, h.1], fun j a y h1 h2 => ?_⟩
  rw [List.getElem?_eraseIdx] at h1 h2
  by_cases hj : j < i
  · rw [if_pos hj] at h1 h2
    exact h'.2 j a y h1 h2
  · rw [if_neg hj] at h1 h2
    exact h'.2 (j + 1) a y h1 h2
end LC

namespace LC
open PySem PySem.Spec PyProof.Rows L2 Evl
theorem rep_one (m : Nat) : (List.replicate ((m : Int).toNat) [V.int 1]).flatten = lI (List.replicate m 1) := by
  rw [Int.toNat_natCast]
  induction m with
  | zero => rfl
  | succ m ih =>
    rw [List.replicate_succ, List.flatten_cons, ih, List.replicate_succ]
    rfl
theorem s_retC {σ : L2.St} {H : Hp} {t : TA} {vs : List V} {sp : Sp} {D : Ends} (h : EvA t σ H vs) (k : ∀ H1, Ex H H1 → sp vs H1 D.rt E0) : tRet (tCall sp [] E0 t) D σ H := h H (Ex.refl H) _ fun H1 e => by
  rw [List.append_nil]
  exact k H1 e
section
variable {P : Program} {w : World} {K : PySem.W.Frag} {mg : Str → Option Value} {base : Heap} {CR CA CE CW : Addr}
/-! ### World.begin, World() -/
def spBegin (CR CW : Addr) : Sp := fun vs H Q _ => ∃ (a dx : Addr) (fs : List (Str × V)) (m : Nat), vs = [.ref a, nI m] ∧ H a = some (.ins CW dx fs) ∧ (fs = [] ∨ ∃ x0 x1 x2 x3 x4, fs = wF x0 x1 x2 x3 x4) ∧ m ≤ 5 ∧
  ∀ (H' : Hp) (ld le lw : Addr), WL CR CW H' a ld le lw (newDesk m) → H ld = none → H le = none → H lw = none → Kept1 H a H' → Q .non H'
theorem ok_begin (T : Top K mg CR CA CE CW) : MOk P w K mg base 1 CW "begin" ["self", "many"] (spBegin CR CW) := by
  refine T.dWorldBegin.ok T.cWorld scWorldBegin (fun vs H Q E h => ?_) (fun _ _ _ _ _ _ us hl => match us, hl with | [_, _], _ => rfl) (fun f cdv A outer s H vs Q E hr h => ?_)
  · obtain ⟨a, dx, fs, m, rfl, _⟩ := h
    rfl
  · obtain ⟨a, dx, fs, m, rfl, ha, hfs, h5, k⟩ := h
    refine ⟨_, pss_cons (ps_fld (pv 0) (pv 1) rfl) (pss_cons (ps_fld (pv 0) pe_int rfl) (pss_cons (ps_fld (pv 0) (pe_lst pa_nil) rfl) (pss_cons (ps_fld (pv 0) (pe_lst pa_nil) rfl)
      (pss_one (ps_fld (pv 0) (pe_op op_rep (pe_lst (pa_cons pe_int pa_nil)) (pv 1)) rfl))))), ?_⟩
    have hlen : fs.length ≤ 5 := by
      rcases hfs with rfl | ⟨x0, x1, x2, x3, x4, rfl⟩
      · exact Nat.zero_le _
      · exact Nat.le_refl _
    have hput : ∀ (v0 v1 v2 v3 v4 : V), putF "weights" v4 (putF "events" v3 (putF "deeds" v2 (putF "state" v1 (putF "many" v0 fs)))) = wF v0 v1 v2 v3 v4 := by
      intro v0 v1 v2 v3 v4
      rcases hfs with rfl | ⟨x0, x1, x2, x3, x4, rfl⟩
      · rw [wN_many, wN_state, wN_deeds, wN_events, wN_weights]
        rfl
      · rw [wP_many, wP_state, wP_deeds, wP_events, wP_weights]
    have hput_len : ∀ (f : Str) (v : V) (l : List (Str × V)), (putF f v l).length ≤ l.length + 1 := by
      intro f v l
      induction l with
      | nil => exact Nat.le_refl _
      | cons p l ih =>
        obtain ⟨g, x⟩ := p
        show (if g = f then (g, v) :: l else (g, x) :: putF f v l).length ≤ _
        by_cases h : g = f
        · rw [if_pos h]
          simp
        · rw [if_neg h]
          simp only [List.length_cons]
          omega
    -- many, state
    refine ⟨_, rfl, _, rfl, a, CW, dx, _, rfl, ha, T.cWorld, T.nWorld_many, by omega, ?_⟩
    have l1 := hput_len "many" (nI m) fs
    refine ⟨_, rfl, a, CW, dx, _, rfl, upd_same, T.cWorld, T.nWorld_state, by omega, ?_⟩
    have l2 := hput_len "state" (.int 0) (putF "many" (nI m) fs)
    rw [upd_upd]
    have ex1 : ∀ (o : HO), ∀ b, upd H a o b = none → H b = none := fun o b hb => by
      by_cases hba : b = a
      · rw [hba, upd_same] at hb
        cases hb
      · rw [upd_ne hba] at hb
        exact hb
    -- deeds
    refine ⟨Nat.zero_le _, fun ld hld => ?_⟩
    have nld : ld ≠ a := fun z => by
      rw [z, upd_same] at hld
      cases hld
    have hld0 := ex1 _ ld hld
    refine ⟨_, rfl, a, CW, dx, _, rfl, (by rw [upd_ne (Ne.symm nld)]; exact upd_same), T.cWorld, T.nWorld_deeds, by omega, ?_⟩
    have l3 := hput_len "deeds" (.ref ld) (putF "state" (.int 0) (putF "many" (nI m) fs))
    -- events
    refine ⟨Nat.zero_le _, fun le hle => ?_⟩
    have nle : le ≠ a := fun z => by
      rw [z, upd_same] at hle
      cases hle
    rw [upd_ne nle] at hle
    have ndle : ld ≠ le := fun z => by
      rw [← z, upd_same] at hle
      cases hle
    rw [upd_ne (Ne.symm ndle), upd_ne nle] at hle
    refine ⟨_, rfl, a, CW, dx, _, rfl, (by rw [upd_ne (Ne.symm nle)]; exact upd_same), T.cWorld, T.nWorld_events, by omega, ?_⟩
    have l4 := hput_len "events" (.ref le) (putF "deeds" (.ref ld) (putF "state" (.int 0) (putF "many" (nI m) fs)))
    -- weights
    refine ⟨by show 1 ≤ sizeLine; decide, fun l1' hl1 => ?_⟩
    refine ⟨_, rfl, l1', _, _, rfl, rfl, upd_same, by omega, by omega, ?_, fun lw hlw => ?_⟩
    · rw [Int.toNat_natCast]
      show 1 * m ≤ sizeLine
      exact Nat.le_trans (by omega : 1 * m ≤ 5) (by decide)
    have n1w : l1' ≠ lw := fun z => by
      rw [← z, upd_same] at hlw
      cases hlw
    rw [upd_ne (Ne.symm n1w)] at hlw
    have nlw : lw ≠ a := fun z => by
      rw [z, upd_same] at hlw
      cases hlw
    rw [upd_ne nlw] at hlw
    have nlew : le ≠ lw := fun z => by
      rw [← z, upd_same] at hlw
      cases hlw
    rw [upd_ne (Ne.symm nlew), upd_ne nlw] at hlw
    have nldw : ld ≠ lw := fun z => by
      rw [← z, upd_same] at hlw
      cases hlw
    rw [upd_ne (Ne.symm nldw), upd_ne nlw] at hlw
    have n1a : l1' ≠ a := fun z => by
      rw [z, upd_same] at hl1
      cases hl1
    rw [upd_ne n1a] at hl1
    have n1le : le ≠ l1' := fun z => by
      rw [← z, upd_same] at hl1
      cases hl1
    rw [upd_ne (Ne.symm n1le), upd_ne n1a] at hl1
    have n1ld : ld ≠ l1' := fun z => by
      rw [← z, upd_same] at hl1
      cases hl1
    rw [upd_ne (Ne.symm n1ld), upd_ne n1a] at hl1
    refine ⟨_, rfl, a, CW, dx, _, rfl, (by rw [upd_ne (Ne.symm nlw), upd_ne (Ne.symm n1a)]; exact upd_same), T.cWorld, T.nWorld_weights, by omega, ?_⟩
    rw [hput, rep_one]
    refine k _ ld le lw ⟨dx, [], [], upd_same, ?_, ⟨rfl, fun i a r h => by simp at h⟩, ?_, ⟨rfl, fun i a r h => by simp at h⟩, ?_, ndle, nldw, nlew⟩ hld0 hle hlw ?_
    · rw [upd_ne nld, upd_ne nldw, upd_ne n1ld, upd_ne nld, upd_ne ndle, upd_ne nld]
      exact upd_same
    · rw [upd_ne nle, upd_ne nlew, upd_ne n1le, upd_ne nle]
      exact upd_same
    · rw [upd_ne nlw]
      exact upd_same
    · intro b o hb hba
      rw [upd_ne hba, upd_ne (ne_of_none hb hlw), upd_ne (ne_of_none hb hl1), upd_ne hba, upd_ne (ne_of_none hb hle), upd_ne hba, upd_ne (ne_of_none hb hld0), upd_ne hba]
      exact hb
def spWorldInit (CR CW : Addr) : Sp := fun vs H Q _ => ∃ (p dx : Addr), vs = [.ref p] ∧ H p = some (.ins CW dx []) ∧ ∀ (H' : Hp) (ld le lw : Addr), WL CR CW H' p ld le lw desk0 → H ld = none → H le = none → H lw = none → Kept1 H p H' → Q .non H'
theorem ok_world_init (T : Top K mg CR CA CE CW) : COk P w K mg base 2 "World" CW ["self"] (spWorldInit CR CW) := by
  refine T.dWorldInit.ok T.kWorld scWorldInit (fun vs H Q E h => ?_) (fun _ _ _ _ _ _ us hl => match us, hl with | [_], _ => rfl) (fun f cdv A outer s H vs Q E hr h => ?_)
  · obtain ⟨p, dx, rfl, _⟩ := h
    rfl
  · obtain ⟨p, dx, rfl, hp, k⟩ := h
    refine ⟨_, pss_one (ps_expr (pe_m (ok_begin T) hr (pv 0) (pa_cons pe_int pa_nil))), ?_⟩
    refine ⟨_, rfl, p, dx, [], rfl, hp, rfl, p, dx, [], 0, rfl, hp, Or.inl rfl, Nat.zero_le _, fun H' ld le lw W h1 h2 h3 kp => k H' ld le lw W h1 h2 h3 kp⟩
theorem fresh_init {H H2 H3 : Hp} {x ld le lw p : Addr} {d : Kp372.Desk} (e : Ex H H2) (kp : Kept1 H2 x H3) (W : WL CR CW H3 x ld le lw d) (hp : H3 p = none) : H p = none := by
  cases h : H p with
  | none => rfl
  | some o =>
    obtain ⟨dx, ads, aes, W⟩ := W
    have hx : p ≠ x := fun z => by
      rw [z, W.ins] at hp
      cases hp
    rw [kp p o (e p o h) hx] at hp
    cases hp
/-! ### answer_begin -/
def spABegin (CR CW : Addr) : Sp := fun vs H Q _ => ∃ (x y ld le lw : Addr) (d : Kp372.Desk) (m : Nat), vs = [.ref x, .ref y] ∧ WL CR CW H x ld le lw d ∧ H y = some (.lst (lI [m])) ∧ (m < 2 ∨ 5 < m → Res CR CW H x ld le lw d [.int (-22)] Q) ∧ (¬ (m < 2 ∨ 5 < m) → Res CR CW H x ld le lw (newDesk m) [.int 0] Q)
theorem ok_abegin (T : Top K mg CR CA CE CW) : GOk P w K mg base 2 "answer_begin" ["world", "given"] (spABegin CR CW) := by
  refine T.dAnswerBegin.ok scAnswerBegin (fun vs H Q E h => ?_) (fun _ _ _ _ _ _ us hl => match us, hl with | [_, _], _ => rfl) (fun f cdv A outer s H vs Q E hr h => ?_)
  · obtain ⟨x, y, ld, le, lw, d, m, rfl, _⟩ := h
    rfl
  · obtain ⟨x, y, ld, le, lw, d, m, rfl, ⟨dx, ads, aes, W⟩, hy, k1, k2⟩ := h
    refine ⟨_, pss_cons (ps_set (i := 2) scAnswerBegin.nd rfl (Or.inl rfl) (pe_ix ix_list (pv 1) pe_int (fun _ _ => rfl)))
      (pss_cons (ps_if (PW.pt (pw_or (pt_cmpR op_lt (pv 2) (pe_k T.g_FEWEST_FACTS) (nomark _)) (pw_or1 (pt_cmpR op_gt (pv 2) (pe_k T.g_MOST_FACTS) (nomark _))))) (pss_one (ps_ret (pe_lst (pa_cons (pe_k T.g_NOT_ALLOWED) pa_nil)))) pss_nil)
      (pss_cons (ps_expr (pe_m (ok_begin T) hr (pv 0) (pa_cons (pv 2) pa_nil)))
      (pss_one (ps_ret (pe_lst (pa_cons pe_int pa_nil)))))), ?_⟩
    refine q_asg (ev_at (K := K) (j := 0) (ev_var rfl) (sq_of hy) rfl) fun H1 e1 => ?_
    refine q_when (et_or (et_test (ev_ltN (b := 2) (ev_var rfl) ev_c)) fun _ => et_test (ev_gtN (b := 5) (ev_var rfl) ev_c)) (fun hb H2 e2 => ?_) (fun hb H2 e2 => ?_)
    · have hb : m < 2 ∨ 5 < m := by simpa using hb
      exact s_retL (el_one ev_c) fun p H3 hp e3 h3 => Res.same ⟨dx, ads, aes, W⟩ (k1 hb) p H3 (fresh_back (e1.trans e2) hp) ((e1.trans e2).trans e3) h3
    · have hb : ¬ (m < 2 ∨ 5 < m) := by simpa using hb
      have e02 := e1.trans e2
      refine ⟨_, rfl, x, dx, _, rfl, e02 _ _ W.ins, wF_begin, _, rfl, ?_⟩
      refine ⟨x, dx, _, m, rfl, e02 _ _ W.ins, Or.inr ⟨_, _, _, _, _, rfl⟩, by omega, fun H3 ld' le' lw' W3 n1 n2 n3 kp => ?_⟩
      refine s_retL (σ := [some (.ref x), some (.ref y), some (nI m)]) (el_one ev_c) fun p H4 hp e4 h4 => k2 hb H4 p ld' le' lw' (W3.ex e4) (fun b o hb hba _ _ _ => e4 _ _ (kp b o (e02 b o hb) hba)) (Or.inr (Or.inr (Or.inr (fresh_back e02 n1)))) (Or.inr (Or.inr (Or.inr (fresh_back e02 n2)))) (Or.inr (Or.inr (Or.inr (fresh_back e02 n3)))) (fresh_init (fun b o hb => e02 b o hb) kp W3 hp) h4
/-! ### deeds and events come -/
def spAddRule (CR CW : Addr) : Sp := fun vs H Q _ => ∃ (x r y : Addr) (d : Kp372.Desk) (as : List Addr) (n a b c e : Nat), vs = [.ref x, .ref r, nI n, .ref y] ∧ WR CR CW H x d ∧ Good d ∧ H r = some (.lst (as.map V.ref)) ∧ as.length ≤ 1000 ∧ H y = some (.lst (lI [a, b, c, e])) ∧
  (Kp371.okDeed d.world a b c e = false → RetL [.int (-22)] H Q) ∧ (Kp371.okDeed d.world a b c e = true → n ≤ as.length → RetL [.int (-28)] H Q) ∧
  (Kp371.okDeed d.world a b c e = true → as.length < n → ∀ (H' : Hp) (p q : Addr), Kept1 H r H' → H' r = some (.lst ((as ++ [p]).map V.ref)) → RuleAt CR H' p ⟨a, b, c, e⟩ → H q = none → H' q = some (.lst [nI as.length]) → Q (.ref q) H')
theorem ok_add_rule (T : Top K mg CR CA CE CW) : GOk P w K mg base 3 "add_rule" ["world", "rules", "most", "given"] (spAddRule CR CW) := by
  refine T.dAddRule.ok scAddRule (fun vs H Q E h => ?_) (fun _ _ _ _ _ _ us hl => match us, hl with | [_, _, _, _], _ => rfl) (fun f cdv A outer s H vs Q E hr h => ?_)
  · obtain ⟨x, r, y, d, as, n, a, b, c, e, rfl, _⟩ := h
    rfl
  · obtain ⟨x, r, y, d, as, n, a, b, c, e, rfl, W', G, hr0, hlen, hy, k1, k2, k3⟩ := h
    obtain ⟨dx, ld, le, lw, ads, aes, W⟩ := id W'
    refine ⟨_, pss_cons (ps_if (pt_not (pt_val (pe_g (ok_is_rule T) hr (pa_cons (pe_m0 (ok_every T) hr (pv 0)) (pa_cons (pe_ix ix_list (pv 3) pe_int (fun _ _ => rfl)) (pa_cons (pe_ix ix_list (pv 3) pe_int (fun _ _ => rfl)) (pa_cons (pe_ix ix_list (pv 3) pe_int (fun _ _ => rfl)) (pa_cons (pe_ix ix_list (pv 3) pe_int (fun _ _ => rfl)) pa_nil)))))))) (pss_one (ps_ret (pe_lst (pa_cons (pe_k T.g_NOT_ALLOWED) pa_nil)))) pss_nil)
      (pss_cons (ps_if (pt_cmpR op_ge (pe_callB call_len_seq (by rfl) T.b_len PySem.boot_len (pa_cons (pv 1) pa_nil)) (pv 2) (nomark _)) (pss_one (ps_ret (pe_lst (pa_cons (pe_k T.g_TOO_MANY) pa_nil)))) pss_nil)
      (pss_cons (ps_expr (pe_bm PySem.F.plainAttrs_list PySem.F.slot_list_append PySem.F.type_list_append mt_append (pv 1) (pa_cons (pe_new (ok_rule_init T) hr (pa_cons (pe_ix ix_list (pv 3) pe_int (fun _ _ => rfl)) (pa_cons (pe_ix ix_list (pv 3) pe_int (fun _ _ => rfl)) (pa_cons (pe_ix ix_list (pv 3) pe_int (fun _ _ => rfl)) (pa_cons (pe_ix ix_list (pv 3) pe_int (fun _ _ => rfl)) pa_nil))))) pa_nil)))
      (pss_one (ps_ret (pe_lst (pa_cons (pe_op op_sub (pe_callB call_len_seq (by rfl) T.b_len PySem.boot_len (pa_cons (pv 1) pa_nil)) pe_int) pa_nil)))))), ?_⟩
    refine q_when (et_is (et_not (et_B (evc (ea_cons (ev_meth (ev_var rfl) W.ins wF_everything ea_nil (every_v W' G.m5)) (ea_cons (ev_at (K := K) (j := 0) (ev_var rfl) (sq_of hy) rfl) (ea_cons (ev_at (K := K) (j := 1) (ev_var rfl) (sq_of hy) rfl) (ea_cons (ev_at (K := K) (j := 2) (ev_var rfl) (sq_of hy) rfl) (ea_cons (ev_at (K := K) (j := 3) (ev_var rfl) (sq_of hy) rfl) ea_nil))))) is_rule_v))) (congrArg (! ·) (okDeed_eq d.world a b c e))) (fun hb H1 e1 => ?_) (fun hb H1 e1 => ?_)
    · have hb : Kp371.okDeed d.world a b c e = false := by simpa using hb
      exact s_retL (el_one ev_c) fun p H2 hp e2 h2 => k1 hb p H2 (fresh_back e1 hp) (e1.trans e2) h2
    · have hb : Kp371.okDeed d.world a b c e = true := by simpa using hb
      refine q_when (et_test (ev_geN (ev_is (w := nI as.length) (ev_len (K := K) (ev_var rfl) (sq_of (e1 _ _ hr0))) (by rw [List.length_map])) (ev_var rfl))) (fun hb2 H2 e2 => ?_) (fun hb2 H2 e2 => ?_)
      · have hb2 := of_decide_eq_true hb2
        exact s_retL (el_one ev_c) fun p H3 hp e3 h3 => k2 hb hb2 p H3 (fresh_back (e1.trans e2) hp) ((e1.trans e2).trans e3) h3
      · have hb2 := of_decide_eq_false hb2
        have e02 := e1.trans e2
        have hr2 := e02 _ _ hr0
        have hy2 := e02 _ _ hy
        refine ⟨_, rfl, Or.inl ⟨rfl, _, sq_of hr2⟩, ?_⟩
        refine rule_new (CR := CR) (ea_cons (ev_at (K := K) (j := 0) (ev_var rfl) (sq_of hy2) rfl) (ea_cons (ev_at (K := K) (j := 1) (ev_var rfl) (sq_of hy2) rfl) (ea_cons (ev_at (K := K) (j := 2) (ev_var rfl) (sq_of hy2) rfl) (ea_cons (ev_at (K := K) (j := 3) (ev_var rfl) (sq_of hy2) rfl) ea_nil)))) H2 (Ex.refl _) _ ?_
        rintro v H3 e3 ⟨p, rfl, dp, hp⟩
        have hr3 := e3 _ _ hr2
        refine ⟨r, _, _, rfl, rfl, hr3, ?_, ?_⟩
        · rw [List.length_map]
          exact Nat.lt_of_le_of_lt hlen (by decide)
        · have npr : p ≠ r := ne_of hp hr3 (by intro z; cases z)
          have e03 := e02.trans e3
          have hmap : as.map V.ref ++ [V.ref p] = (as ++ [p]).map V.ref := (List.map_append (f := V.ref) (l₁ := as) (l₂ := [p])).symm
          refine s_retL (el_one (v := nI as.length) (ev_is (ev_subN (b := 1) (ev_is (w := nI (as.length + 1)) (ev_len (K := K) (ev_var rfl) (sq_of upd_same)) (by rw [List.length_append, List.length_map]; rfl)) ev_c (by omega)) (by rw [Nat.add_sub_cancel]))) fun q H4 hq e4 h4 => ?_
          refine k3 hb (by omega) H4 p q (fun b o hb' hbr => e4 _ _ (by rw [upd_ne hbr]; exact e03 _ _ hb')) ?_ ⟨dp, e4 _ _ (by rw [upd_ne npr]; exact hp)⟩ (fresh_back e03 (upd_fresh hq)) h4
          rw [← hmap]
          exact e4 _ _ upd_same
def spADeed (CR CW : Addr) : Sp := fun vs H Q _ => ∃ (x y ld le lw : Addr) (d : Kp372.Desk) (a b c e : Nat), vs = [.ref x, .ref y] ∧ WL CR CW H x ld le lw d ∧ Good d ∧ H y = some (.lst (lI [a, b, c, e])) ∧
  (Kp371.okDeed d.world a b c e = false → Res CR CW H x ld le lw d [.int (-22)] Q) ∧ (Kp371.okDeed d.world a b c e = true → 6 ≤ d.world.deeds.length → Res CR CW H x ld le lw d [.int (-28)] Q) ∧
  (Kp371.okDeed d.world a b c e = true → d.world.deeds.length < 6 → Res CR CW H x ld le lw (withDeeds d (d.world.deeds ++ [⟨a, b, c, e⟩])) [nI d.world.deeds.length] Q)
theorem ok_adeed (T : Top K mg CR CA CE CW) : GOk P w K mg base 4 "answer_deed" ["world", "given"] (spADeed CR CW) := by
  refine T.dAnswerDeed.ok scAnswerDeed (fun vs H Q E h => ?_) (fun _ _ _ _ _ _ us hl => match us, hl with | [_, _], _ => rfl) (fun f cdv A outer s H vs Q E hr h => ?_)
  · obtain ⟨x, y, ld, le, lw, d, a, b, c, e, rfl, _⟩ := h
    rfl
  · obtain ⟨x, y, ld, le, lw, d, a, b, c, e, rfl, W', G, hy, k1, k2, k3⟩ := h
    obtain ⟨dx, ads, aes, W⟩ := id W'
    refine ⟨_, pss_one (ps_ret (pe_g (ok_add_rule T) hr (pa_cons (pv 0) (pa_cons (pe_fld (pv 0) rfl) (pa_cons (pe_k T.g_MOST_DEEDS) (pa_cons (pv 1) pa_nil)))))), ?_⟩
    refine s_retC (ea_cons (ev_var rfl) (ea_cons (ev_fld (ev_var rfl) W.ins T.cWorld T.nWorld_deeds wF_deeds) (ea_cons (x := nI 6) ev_c (ea_cons (ev_var rfl) ea_nil)))) fun H1 e1 => ?_
    have W1 := W.ex e1
    have hlen : ads.length = d.world.deeds.length := W.rd.1
    refine ⟨x, ld, y, d, ads, 6, a, b, c, e, rfl, (W'.ex e1).wr, G, W1.hld, by have := G.nd; omega, e1 _ _ hy, fun hb p H2 hp e2 h2 => ?_, fun hb hl p H2 hp e2 h2 => ?_, fun hb hl H2 p q kp h1 hR hn h2 => ?_⟩
    · exact Res.same W' (k1 hb) p H2 (fresh_back e1 hp) (e1.trans e2) h2
    · exact Res.same W' (k2 hb (by omega)) p H2 (fresh_back e1 hp) (e1.trans e2) h2
    · refine k3 hb (by omega) H2 q ld le lw ⟨dx, _, _, W1.deeds kp h1 (W1.rd.snoc W1.hld kp hR)⟩ (fun b o hb' _ h4 _ _ => kp b o (e1 _ _ hb') h4) (Or.inl rfl) (Or.inr (Or.inl rfl)) (Or.inr (Or.inr (Or.inl rfl))) (fresh_back e1 hn) ?_
      rw [← hlen]
      exact h2
def spAEvent (CR CW : Addr) : Sp := fun vs H Q _ => ∃ (x y ld le lw : Addr) (d : Kp372.Desk) (a b c e : Nat), vs = [.ref x, .ref y] ∧ WL CR CW H x ld le lw d ∧ Good d ∧ H y = some (.lst (lI [a, b, c, e])) ∧
  (Kp371.okDeed d.world a b c e = false → Res CR CW H x ld le lw d [.int (-22)] Q) ∧ (Kp371.okDeed d.world a b c e = true → 3 ≤ d.world.events.length → Res CR CW H x ld le lw d [.int (-28)] Q) ∧
  (Kp371.okDeed d.world a b c e = true → d.world.events.length < 3 → Res CR CW H x ld le lw (withEvents d (d.world.events ++ [⟨a, b, c, e⟩])) [nI d.world.events.length] Q)
theorem ok_aevent (T : Top K mg CR CA CE CW) : GOk P w K mg base 4 "answer_event" ["world", "given"] (spAEvent CR CW) := by
  refine T.dAnswerEvent.ok scAnswerEvent (fun vs H Q E h => ?_) (fun _ _ _ _ _ _ us hl => match us, hl with | [_, _], _ => rfl) (fun f cdv A outer s H vs Q E hr h => ?_)
  · obtain ⟨x, y, ld, le, lw, d, a, b, c, e, rfl, _⟩ := h
    rfl
  · obtain ⟨x, y, ld, le, lw, d, a, b, c, e, rfl, W', G, hy, k1, k2, k3⟩ := h
    obtain ⟨dx, ads, aes, W⟩ := id W'
    refine ⟨_, pss_one (ps_ret (pe_g (ok_add_rule T) hr (pa_cons (pv 0) (pa_cons (pe_fld (pv 0) rfl) (pa_cons (pe_k T.g_MOST_EVENTS) (pa_cons (pv 1) pa_nil)))))), ?_⟩
    refine s_retC (ea_cons (ev_var rfl) (ea_cons (ev_fld (ev_var rfl) W.ins T.cWorld T.nWorld_events wF_events) (ea_cons (x := nI 3) ev_c (ea_cons (ev_var rfl) ea_nil)))) fun H1 e1 => ?_
    have W1 := W.ex e1
    have hlen : aes.length = d.world.events.length := W.re.1
    refine ⟨x, le, y, d, aes, 3, a, b, c, e, rfl, (W'.ex e1).wr, G, W1.hle, by have := G.ne; omega, e1 _ _ hy, fun hb p H2 hp e2 h2 => ?_, fun hb hl p H2 hp e2 h2 => ?_, fun hb hl H2 p q kp h1 hR hn h2 => ?_⟩
    · exact Res.same W' (k1 hb) p H2 (fresh_back e1 hp) (e1.trans e2) h2
    · exact Res.same W' (k2 hb (by omega)) p H2 (fresh_back e1 hp) (e1.trans e2) h2
    · refine k3 hb (by omega) H2 q ld le lw ⟨dx, _, _, W1.events kp h1 (W1.re.snoc W1.hle kp hR)⟩ (fun b o hb' _ _ h4 _ => kp b o (e1 _ _ hb') h4) (Or.inl rfl) (Or.inr (Or.inl rfl)) (Or.inr (Or.inr (Or.inl rfl))) (fresh_back e1 hn) ?_
      rw [← hlen]
      exact h2
/-! ### .. and go -/
def spTakeOut : Sp := fun vs H Q _ => ∃ (r : Addr) (as : List Addr) (i : Nat), vs = [.ref r, nI i] ∧ H r = some (.lst (as.map V.ref)) ∧ as.length ≤ 1000 ∧ (as.length ≤ i → RetL [.int (-2)] H Q) ∧
  (i < as.length → ∀ (H' : Hp) (q : Addr), Kept1 H r H' → H' r = some (.lst ((as.eraseIdx i).map V.ref)) → H q = none → H' q = some (.lst [nI (as.length - 1)]) → Q (.ref q) H')
theorem seqIx {i n : Nat} (h : i < n) : seqIndex? (i : Int) n = some i := by
  have e := (ixN_seq (ixN_nat h)).1
  exact e
theorem map_erase {α β : Type} (f : α → β) : ∀ (l : List α) (i : Nat), (l.map f).eraseIdx i = (l.eraseIdx i).map f
  | [], _ => rfl
  | _ :: _, 0 => rfl
  | a :: l, i + 1 => by
    show f a :: (l.map f).eraseIdx i = f a :: (l.eraseIdx i).map f
    rw [map_erase f l i]
theorem ok_take_out (T : Top K mg CR CA CE CW) : GOk P w K mg base 1 "take_out" ["rules", "place"] spTakeOut := by
  refine T.dTakeOut.ok scTakeOut (fun vs H Q E h => ?_) (fun _ _ _ _ _ _ us hl => match us, hl with | [_, _], _ => rfl) (fun f cdv A outer s H vs Q E hr h => ?_)
  · obtain ⟨r, as, i, rfl, _⟩ := h
    rfl
  · obtain ⟨r, as, i, rfl, hr0, hlen, k1, k2⟩ := h
    refine ⟨_, pss_cons (ps_if (pt_cmpR op_ge (pv 1) (pe_callB call_len_seq (by rfl) T.b_len PySem.boot_len (pa_cons (pv 0) pa_nil)) (nomark _)) (pss_one (ps_ret (pe_lst (pa_cons (pe_k T.g_NO_SUCH) pa_nil)))) pss_nil)
      (pss_cons (ps_expr (pe_bm PySem.F.plainAttrs_list PySem.F.slot_list_pop PySem.F.type_list_pop mt_popAt (pv 0) (pa_cons (pv 1) pa_nil)))
      (pss_one (ps_ret (pe_lst (pa_cons (pe_callB call_len_seq (by rfl) T.b_len PySem.boot_len (pa_cons (pv 0) pa_nil)) pa_nil))))), ?_⟩
    refine q_when (et_test (ev_geN (ev_var rfl) (ev_is (w := nI as.length) (ev_len (K := K) (ev_var rfl) (sq_of hr0)) (by rw [List.length_map])))) (fun hb H1 e1 => ?_) (fun hb H1 e1 => ?_)
    · exact s_retL (el_one ev_c) fun p H2 hp e2 h2 => k1 (of_decide_eq_true hb) p H2 (fresh_back e1 hp) (e1.trans e2) h2
    · have hb : i < as.length := by
        have := of_decide_eq_false hb
        omega
      have hr1 := e1 _ _ hr0
      have hget : (as.map V.ref)[i]? = some (V.ref as[i]) := by
        rw [List.getElem?_map, List.getElem?_eq_getElem hb]
        rfl
      refine ⟨_, rfl, Or.inl ⟨rfl, _, sq_of hr1⟩, _, rfl, r, _, _, i, _, rfl, rfl, hr1, by omega, by omega, seqIx (by rw [List.length_map]; exact hb), hget, ?_⟩
      refine s_retL (el_one (v := nI (as.length - 1)) (ev_is (ev_len (K := K) (ev_var rfl) (sq_of upd_same)) (by rw [List.length_eraseIdx_of_lt (by rw [List.length_map]; exact hb), List.length_map]))) fun q H2 hq e2 h2 => ?_
      refine k2 hb H2 q (fun b o hb' hbr => e2 _ _ (by rw [upd_ne hbr]; exact e1 _ _ hb')) ?_ (fresh_back e1 (upd_fresh hq)) h2
      rw [← map_erase]
      exact e2 _ _ upd_same
def spAUndeed (CR CW : Addr) : Sp := fun vs H Q _ => ∃ (x y ld le lw : Addr) (d : Kp372.Desk) (i : Nat), vs = [.ref x, .ref y] ∧ WL CR CW H x ld le lw d ∧ Good d ∧ H y = some (.lst (lI [i])) ∧
  (d.world.deeds.length ≤ i → Res CR CW H x ld le lw d [.int (-2)] Q) ∧ (i < d.world.deeds.length → Res CR CW H x ld le lw (withDeeds d (d.world.deeds.eraseIdx i)) [nI (d.world.deeds.length - 1)] Q)
theorem ok_aundeed (T : Top K mg CR CA CE CW) : GOk P w K mg base 2 "answer_undeed" ["world", "given"] (spAUndeed CR CW) := by
  refine T.dAnswerUndeed.ok scAnswerUndeed (fun vs H Q E h => ?_) (fun _ _ _ _ _ _ us hl => match us, hl with | [_, _], _ => rfl) (fun f cdv A outer s H vs Q E hr h => ?_)
  · obtain ⟨x, y, ld, le, lw, d, i, rfl, _⟩ := h
    rfl
  · obtain ⟨x, y, ld, le, lw, d, i, rfl, W', G, hy, k1, k2⟩ := h
    obtain ⟨dx, ads, aes, W⟩ := id W'
    refine ⟨_, pss_one (ps_ret (pe_g (ok_take_out T) hr (pa_cons (pe_fld (pv 0) rfl) (pa_cons (pe_ix ix_list (pv 1) pe_int (fun _ _ => rfl)) pa_nil)))), ?_⟩
    refine s_retC (ea_cons (ev_fld (ev_var rfl) W.ins T.cWorld T.nWorld_deeds wF_deeds) (ea_cons (ev_at (K := K) (j := 0) (ev_var rfl) (sq_of hy) rfl) ea_nil)) fun H1 e1 => ?_
    have W1 := W.ex e1
    have hlen : ads.length = d.world.deeds.length := W.rd.1
    refine ⟨ld, ads, i, rfl, W1.hld, by have := G.nd; omega, fun hl p H2 hp e2 h2 => ?_, fun hl H2 q kp h1 hn h2 => ?_⟩
    · exact Res.same W' (k1 (by omega)) p H2 (fresh_back e1 hp) (e1.trans e2) h2
    · refine k2 (by omega) H2 q ld le lw ⟨dx, _, _, W1.deeds kp h1 (W1.rd.erase W1.hld kp i)⟩ (fun b o hb' _ h4 _ _ => kp b o (e1 _ _ hb') h4) (Or.inl rfl) (Or.inr (Or.inl rfl)) (Or.inr (Or.inr (Or.inl rfl))) (fresh_back e1 hn) ?_
      rw [← hlen]
      exact h2
def spAUnevent (CR CW : Addr) : Sp := fun vs H Q _ => ∃ (x y ld le lw : Addr) (d : Kp372.Desk) (i : Nat), vs = [.ref x, .ref y] ∧ WL CR CW H x ld le lw d ∧ Good d ∧ H y = some (.lst (lI [i])) ∧
  (d.world.events.length ≤ i → Res CR CW H x ld le lw d [.int (-2)] Q) ∧ (i < d.world.events.length → Res CR CW H x ld le lw (withEvents d (d.world.events.eraseIdx i)) [nI (d.world.events.length - 1)] Q)
theorem ok_aunevent (T : Top K mg CR CA CE CW) : GOk P w K mg base 2 "answer_unevent" ["world", "given"] (spAUnevent CR CW) := by
  refine T.dAnswerUnevent.ok scAnswerUnevent (fun vs H Q E h => ?_) (fun _ _ _ _ _ _ us hl => match us, hl with | [_, _], _ => rfl) (fun f cdv A outer s H vs Q E hr h => ?_)
  · obtain ⟨x, y, ld, le, lw, d, i, rfl, _⟩ := h
    rfl
  · obtain ⟨x, y, ld, le, lw, d, i, rfl, W', G, hy, k1, k2⟩ := h
    obtain ⟨dx, ads, aes, W⟩ := id W'
    refine ⟨_, pss_one (ps_ret (pe_g (ok_take_out T) hr (pa_cons (pe_fld (pv 0) rfl) (pa_cons (pe_ix ix_list (pv 1) pe_int (fun _ _ => rfl)) pa_nil)))), ?_⟩
    refine s_retC (ea_cons (ev_fld (ev_var rfl) W.ins T.cWorld T.nWorld_events wF_events) (ea_cons (ev_at (K := K) (j := 0) (ev_var rfl) (sq_of hy) rfl) ea_nil)) fun H1 e1 => ?_
    have W1 := W.ex e1
    have hlen : aes.length = d.world.events.length := W.re.1
    refine ⟨le, aes, i, rfl, W1.hle, by have := G.ne; omega, fun hl p H2 hp e2 h2 => ?_, fun hl H2 q kp h1 hn h2 => ?_⟩
    · exact Res.same W' (k1 (by omega)) p H2 (fresh_back e1 hp) (e1.trans e2) h2
    · refine k2 (by omega) H2 q ld le lw ⟨dx, _, _, W1.events kp h1 (W1.re.erase W1.hle kp i)⟩ (fun b o hb' _ _ h4 _ => kp b o (e1 _ _ hb') h4) (Or.inl rfl) (Or.inr (Or.inl rfl)) (Or.inr (Or.inr (Or.inl rfl))) (fresh_back e1 hn) ?_
      rw [← hlen]
      exact h2
end
end LC

namespace LC
open PySem PySem.Spec PyProof.Rows L2 Evl
section
variable {P : Program} {w : World} {K : PySem.W.Frag} {mg : Str → Option Value} {base : Heap} {CR CA CE CW : Addr}
/-! ### set, do, weight -/
def spASet (CR CW : Addr) : Sp := fun vs H Q _ => ∃ (x y ld le lw : Addr) (d : Kp372.Desk) (s : Nat), vs = [.ref x, .ref y] ∧ WL CR CW H x ld le lw d ∧ Good d ∧ H y = some (.lst (lI [s])) ∧
  (2 ^ d.world.m ≤ s → Res CR CW H x ld le lw d [.int (-22)] Q) ∧ (s < 2 ^ d.world.m → Res CR CW H x ld le lw (withNow d s) [nI d.world.now] Q)
theorem ok_aset (T : Top K mg CR CA CE CW) : GOk P w K mg base 2 "answer_set" ["world", "given"] (spASet CR CW) := by
  refine T.dAnswerSet.ok scAnswerSet (fun vs H Q E h => ?_) (fun _ _ _ _ _ _ us hl => match us, hl with | [_, _], _ => rfl) (fun f cdv A outer s H vs Q E hr h => ?_)
  · obtain ⟨x, y, ld, le, lw, d, s, rfl, _⟩ := h
    rfl
  · obtain ⟨x, y, ld, le, lw, d, s, rfl, W', G, hy, k1, k2⟩ := h
    obtain ⟨dx, ads, aes, W⟩ := id W'
    refine ⟨_, pss_cons (ps_set (i := 2) scAnswerSet.nd rfl (Or.inl rfl) (pe_ix ix_list (pv 1) pe_int (fun _ _ => rfl)))
      (pss_cons (ps_if (pt_cmpR op_gt (pv 2) (pe_m0 (ok_every T) hr (pv 0)) (nomark _)) (pss_one (ps_ret (pe_lst (pa_cons (pe_k T.g_NOT_ALLOWED) pa_nil)))) pss_nil)
      (pss_cons (ps_set (i := 3) scAnswerSet.nd rfl (Or.inl rfl) (pe_fld (pv 0) rfl))
      (pss_cons (ps_fld (pv 0) (pv 2) rfl)
      (pss_one (ps_ret (pe_lst (pa_cons (pv 3) pa_nil))))))), ?_⟩
    refine q_asg (ev_at (K := K) (j := 0) (ev_var rfl) (sq_of hy) rfl) fun H1 e1 => ?_
    refine q_when (et_test (ev_gtN (ev_var rfl) (ev_meth (ev_var rfl) (e1 _ _ W.ins) wF_everything ea_nil (every_v (W'.ex e1).wr G.m5)))) (fun hb H2 e2 => ?_) (fun hb H2 e2 => ?_)
    · have hb : 2 ^ d.world.m ≤ s := by
        have := of_decide_eq_true hb
        omega
      exact s_retL (el_one ev_c) fun p H3 hp e3 h3 => Res.same W' (k1 hb) p H3 (fresh_back (e1.trans e2) hp) ((e1.trans e2).trans e3) h3
    · have hb : s < 2 ^ d.world.m := by
        have := of_decide_eq_false hb
        have := Nat.two_pow_pos d.world.m
        omega
      have e02 := e1.trans e2
      refine q_asg (ev_fld (ev_var rfl) (e02 _ _ W.ins) T.cWorld T.nWorld_state wF_state) fun H3 e3 => ?_
      have e03 := e02.trans e3
      have W3 := W.ex e03
      refine ⟨_, rfl, _, rfl, x, CW, dx, _, rfl, W3.ins, T.cWorld, T.nWorld_state, (by show 5 < 1000; decide), ?_⟩
      rw [wP_state]
      refine s_retL (σ := [some (.ref x), some (.ref y), some (nI s), some (nI d.world.now)]) (el_one (ev_var (i := 3) rfl)) fun p H4 hp e4 h4 => k2 hb H4 p ld le lw (WL.ex e4 ⟨dx, ads, aes, W3.now T.neWR s⟩) (fun b o hb' hx _ _ _ => e4 _ _ (by rw [upd_ne hx]; exact e03 _ _ hb')) (Or.inl rfl) (Or.inr (Or.inl rfl)) (Or.inr (Or.inr (Or.inl rfl))) (fresh_back e03 (upd_fresh hp)) h4
def spADo (CR CW : Addr) : Sp := fun vs H Q _ => ∃ (x y ld le lw : Addr) (d : Kp372.Desk) (i : Nat), vs = [.ref x, .ref y] ∧ WL CR CW H x ld le lw d ∧ Good d ∧ H y = some (.lst (lI [i])) ∧
  (d.world.deeds.length ≤ i → Res CR CW H x ld le lw d [.int (-2)] Q) ∧ (i < d.world.deeds.length → Kp371.stepBy d.world d.world.now i = none → Res CR CW H x ld le lw d [.int (-6)] Q) ∧ (∀ t, i < d.world.deeds.length → Kp371.stepBy d.world d.world.now i = some t → Res CR CW H x ld le lw (withNow d t) [nI t] Q)
theorem ok_ado (T : Top K mg CR CA CE CW) : GOk P w K mg base 4 "answer_do" ["world", "given"] (spADo CR CW) := by
  refine T.dAnswerDo.ok scAnswerDo (fun vs H Q E h => ?_) (fun _ _ _ _ _ _ us hl => match us, hl with | [_, _], _ => rfl) (fun f cdv A outer s H vs Q E hr h => ?_)
  · obtain ⟨x, y, ld, le, lw, d, s, rfl, _⟩ := h
    rfl
  · obtain ⟨x, y, ld, le, lw, d, i, rfl, W', G, hy, k1, k2, k3⟩ := h
    obtain ⟨dx, ads, aes, W⟩ := id W'
    refine ⟨_, pss_cons (ps_set (i := 2) scAnswerDo.nd rfl (Or.inl rfl) (pe_ix ix_list (pv 1) pe_int (fun _ _ => rfl)))
      (pss_cons (ps_if (pt_cmpR op_ge (pv 2) (pe_callB call_len_seq (by rfl) T.b_len PySem.boot_len (pa_cons (pe_fld (pv 0) rfl) pa_nil)) (nomark _)) (pss_one (ps_ret (pe_lst (pa_cons (pe_k T.g_NO_SUCH) pa_nil)))) pss_nil)
      (pss_cons (ps_if (pt_not (pt_val (pe_m (ok_can_choose T) hr (pv 0) (pa_cons (pv 2) (pa_cons (pe_fld (pv 0) rfl) pa_nil))))) (pss_one (ps_ret (pe_lst (pa_cons (pe_k T.g_CANNOT_BE_DONE) pa_nil)))) pss_nil)
      (pss_cons (ps_fld (pv 0) (pe_m (ok_choose T) hr (pv 0) (pa_cons (pv 2) (pa_cons (pe_fld (pv 0) rfl) pa_nil))) rfl)
      (pss_one (ps_ret (pe_lst (pa_cons (pe_fld (pv 0) rfl) pa_nil))))))), ?_⟩
    refine q_asg (ev_at (K := K) (j := 0) (ev_var rfl) (sq_of hy) rfl) fun H1 e1 => ?_
    refine q_when (et_test (ev_geN (ev_var rfl) (ev_is (w := nI d.world.deeds.length) (ev_len (K := K) (ev_fld (ev_var rfl) (e1 _ _ W.ins) T.cWorld T.nWorld_deeds wF_deeds) (sq_of (e1 _ _ W.hld))) (by rw [List.length_map, W.rd.1])))) (fun hb H2 e2 => ?_) (fun hb H2 e2 => ?_)
    · have hb := of_decide_eq_true hb
      exact s_retL (el_one ev_c) fun p H3 hp e3 h3 => Res.same W' (k1 hb) p H3 (fresh_back (e1.trans e2) hp) ((e1.trans e2).trans e3) h3
    · have hb : i < d.world.deeds.length := by
        have := of_decide_eq_false hb
        omega
      have e02 := e1.trans e2
      refine q_when (et_not (et_B (ev_meth (ev_var rfl) (e02 _ _ W.ins) wF_can_choose (ea_cons (ev_var rfl) (ea_cons (ev_fld (ev_var rfl) (e02 _ _ W.ins) T.cWorld T.nWorld_state wF_state) ea_nil)) (can_choose_v (W'.ex e02).wr (by omega))))) (fun hb2 H3 e3 => ?_) (fun hb2 H3 e3 => ?_)
      · have hs : Kp371.stepBy d.world d.world.now i = none := by
          cases hs : Kp371.stepBy d.world d.world.now i with
          | none => rfl
          | some t =>
            rw [hs] at hb2
            cases hb2
        exact s_retL (el_one ev_c) fun p H4 hp e4 h4 => Res.same W' (k2 hb hs) p H4 (fresh_back (e02.trans e3) hp) ((e02.trans e3).trans e4) h4
      · cases hs : Kp371.stepBy d.world d.world.now i with
        | none =>
          rw [hs] at hb2
          cases hb2
        | some t =>
          have e03 := e02.trans e3
          refine ev_meth (σ := [some (.ref x), some (.ref y), some (nI i)]) (ev_var (i := 0) rfl) (e03 _ _ W.ins) wF_behind_choice (ea_cons (ev_var (i := 2) rfl) (ea_cons (ev_fld (ev_var (i := 0) rfl) (e03 _ _ W.ins) T.cWorld T.nWorld_state wF_state) ea_nil)) (choose_v (W'.ex e03).wr hs) H3 (Ex.refl _) _ fun H4 e4 => ?_
          have e04 := e03.trans e4
          have W4 := W.ex e04
          refine ⟨_, rfl, x, CW, dx, _, rfl, W4.ins, T.cWorld, T.nWorld_state, (by show 5 < 1000; decide), ?_⟩
          rw [wP_state]
          have W5 := W4.now T.neWR t
          refine s_retL (σ := [some (.ref x), some (.ref y), some (nI i)]) (el_one (ev_fld (ev_var (i := 0) rfl) W5.ins T.cWorld T.nWorld_state wF_state)) fun p H5 hp e5 h5 => k3 t hb hs H5 p ld le lw (WL.ex e5 ⟨dx, ads, aes, W5⟩) (fun b o hb' hx _ _ _ => e5 _ _ (by rw [upd_ne hx]; exact e04 _ _ hb')) (Or.inl rfl) (Or.inr (Or.inl rfl)) (Or.inr (Or.inr (Or.inl rfl))) (fresh_back e04 (upd_fresh hp)) h5
def spAWeight (CR CW : Addr) : Sp := fun vs H Q _ => ∃ (x y ld le lw : Addr) (d : Kp372.Desk) (q v : Nat), vs = [.ref x, .ref y] ∧ WL CR CW H x ld le lw d ∧ Good d ∧ H y = some (.lst (lI [q, v])) ∧
  (d.world.m ≤ q → Res CR CW H x ld le lw d [.int (-2)] Q) ∧ (q < d.world.m → 100 < v → Res CR CW H x ld le lw d [.int (-22)] Q) ∧ (q < d.world.m → v ≤ 100 → Res CR CW H x ld le lw (withWeights d (d.weights.set q v)) [nI (d.weights.getD q 0)] Q)
theorem ok_aweight (T : Top K mg CR CA CE CW) : GOk P w K mg base 1 "answer_weight" ["world", "given"] (spAWeight CR CW) := by
  refine T.dAnswerWeight.ok scAnswerWeight (fun vs H Q E h => ?_) (fun _ _ _ _ _ _ us hl => match us, hl with | [_, _], _ => rfl) (fun f cdv A outer s H vs Q E hr h => ?_)
  · obtain ⟨x, y, ld, le, lw, d, q, v, rfl, _⟩ := h
    rfl
  · obtain ⟨x, y, ld, le, lw, d, q, v, rfl, W', G, hy, k1, k2, k3⟩ := h
    obtain ⟨dx, ads, aes, W⟩ := id W'
    refine ⟨_, pss_cons (ps_set (i := 2) scAnswerWeight.nd rfl (Or.inl rfl) (pe_ix ix_list (pv 1) pe_int (fun _ _ => rfl)))
      (pss_cons (ps_set (i := 3) scAnswerWeight.nd rfl (Or.inl rfl) (pe_ix ix_list (pv 1) pe_int (fun _ _ => rfl)))
      (pss_cons (ps_if (pt_cmpR op_ge (pv 2) (pe_fld (pv 0) rfl) (nomark _)) (pss_one (ps_ret (pe_lst (pa_cons (pe_k T.g_NO_SUCH) pa_nil)))) pss_nil)
      (pss_cons (ps_if (pt_cmpR op_gt (pv 3) (pe_k T.g_MOST_WEIGHT) (nomark _)) (pss_one (ps_ret (pe_lst (pa_cons (pe_k T.g_NOT_ALLOWED) pa_nil)))) pss_nil)
      (pss_cons (ps_set (i := 4) scAnswerWeight.nd rfl (Or.inl rfl) (pe_ix ix_list (pe_fld (pv 0) rfl) (pv 2) (fun _ _ => rfl)))
      (pss_cons (ps_asg (pv 3) (pg_sub (pe_fld (pv 0) rfl) (pv 2) set_list))
      (pss_one (ps_ret (pe_lst (pa_cons (pv 4) pa_nil))))))))), ?_⟩
    refine q_asg (ev_at (K := K) (j := 0) (ev_var rfl) (sq_of hy) rfl) fun H1 e1 => ?_
    refine q_asg (ev_at (K := K) (j := 1) (ev_var rfl) (sq_of (e1 _ _ hy)) rfl) fun H2 e2 => ?_
    have e02 := e1.trans e2
    refine q_when (et_test (ev_geN (ev_var rfl) (ev_fld (ev_var rfl) (e02 _ _ W.ins) T.cWorld T.nWorld_many wF_many))) (fun hb H3 e3 => ?_) (fun hb H3 e3 => ?_)
    · have hb := of_decide_eq_true hb
      exact s_retL (el_one ev_c) fun p H4 hp e4 h4 => Res.same W' (k1 hb) p H4 (fresh_back (e02.trans e3) hp) ((e02.trans e3).trans e4) h4
    · have hb : q < d.world.m := by
        have := of_decide_eq_false hb
        omega
      have e03 := e02.trans e3
      refine q_when (et_test (ev_gtN (b := 100) (ev_var rfl) ev_c)) (fun hb2 H4 e4 => ?_) (fun hb2 H4 e4 => ?_)
      · have hb2 := of_decide_eq_true hb2
        exact s_retL (el_one ev_c) fun p H5 hp e5 h5 => Res.same W' (k2 hb hb2) p H5 (fresh_back (e03.trans e4) hp) ((e03.trans e4).trans e5) h5
      · have hb2 : v ≤ 100 := by
          have := of_decide_eq_false hb2
          omega
        have e04 := e03.trans e4
        have hqw : q < d.weights.length := by rw [G.wl]; exact hb
        have hw : (lI d.weights)[q]? = some (nI (d.weights.getD q 0)) := by
          rw [List.getElem?_map, List.getD_eq_getElem?_getD, List.getElem?_eq_getElem hqw]
          rfl
        refine q_asg (ev_op (ev_fld (ev_var rfl) (e04 _ _ W.ins) T.cWorld T.nWorld_weights wF_weights) (ev_var rfl) (rv_ixL (K := K) (sq_of (e04 _ _ W.hlw)) (atI_nat hw))) fun H5 e5 => ?_
        have e05 := e04.trans e5
        refine q_setL (e05 _ _ W.hlw) (ev_var rfl) (ev_fld (ev_var rfl) (e05 _ _ W.ins) T.cWorld T.nWorld_weights wF_weights) (ev_var rfl) (by rw [List.length_map]; exact hqw) fun H6 e6 => ?_
        have e06 := e05.trans e6
        have hset : (lI d.weights).set q (nI v) = lI (d.weights.set q v) := (List.map_set).symm
        rw [hset]
        refine s_retL (el_one (ev_var rfl)) fun p H7 hp e7 h7 => k3 hb hb2 H7 p ld le lw (WL.ex e7 ⟨dx, ads, aes, (W.ex e06).weights _⟩) (fun b o hb' _ _ _ hx => e7 _ _ (by rw [upd_ne hx]; exact e06 _ _ hb')) (Or.inl rfl) (Or.inr (Or.inl rfl)) (Or.inr (Or.inr (Or.inl rfl))) (fresh_back e06 (upd_fresh hp)) h7
end
/-! ### a call of what a written dict of ints holds -/
section
variable {X : Cx} {j : Nat} {a b e : Expr} {es : List Expr} {ta tb t0 : TE} {t : TA} {p pos : Pos}
def rIxI (K : PySem.W.Frag) : R2 := fun x y H Q => ∃ (p : Addr) (n : Nat) (f : Addr), x = .ref p ∧ y = nI n ∧ KInt K p n f ∧ Q (.ref f) H
theorem ix_kint : IxR X (rIxI X.K) := by
  intro value slice pins s σ H x y v u Q I rx ry h hs
  obtain ⟨p, n, f, rfl, rfl, ⟨es, m, hl, hk, e⟩, q⟩ := h
  obtain rfl : v = Value.ref p := rx
  obtain ⟨t, rfl⟩ := (show ∃ t, u = Value.int (n : Int) t from ry)
  have hm : s.heap.MapOf (intKind X.prog X.w) p (fun k => findBy Value.isInt es k) :=
    ⟨_, es, m, I.kIn _ _ hl, ⟨rfl, rfl, rfl⟩, rfl, fun e he => by
      obtain ⟨z, t, e1, e2⟩ := hk e (Array.mem_toList_iff.mpr he)
      exact ⟨z, by rw [e1]; exact intKind_is X.prog X.w z t, e2⟩, fun _ => rfl⟩
  exact tail_any hm.typeIs slot_dict_getitem.lookup (wpAny_getItem_of (intKind_is X.prog X.w (n : Int) t) hm e ⟨.ref f, H, I.tok _, rfl, q⟩) hs
/-- of several defs that it may be: the promise goes with the address -/
def tCallE (P : Program) (w : World) (K : PySem.W.Frag) (mg : Str → Option Value) (base : Heap) (k : Nat) (t0 : TE) (t : TA) : TE := fun σ H Q => t0 σ H fun x H1 => ∃ (f : Addr) (fd : FuncData) (ps : List Str) (sp : Sp), x = .ref f ∧ FnOk P w K mg base CX0 k f fd ps sp ∧ Binds K fd ps [] ∧ PySem.W.keepIn K (.ref f) = true ∧ t σ H1 fun vs H2 => sp vs H2 Q E0
theorem pe_callE {k : Nat} (h0 : PE X (.Subscript a b p) t0) (hr : Room k X.A) (ha : PA X (e :: es) t) (he : starEach (e :: es) X.env = (false, eval e X.env) :: starEach es X.env := by rfl) (hpl : (backTo pos (starEach es X.env)).any (·.1) = false := by rfl) :
    PE X (.Call (.Subscript a b p) (e :: es) [] pos) (tCallE X.prog X.w X.K X.mg X.base k t0 t) := by
  refine ⟨fun pins s σ H Q I h => ?_⟩
  have eq : eval (.Call (.Subscript a b p) (e :: es) [] pos) X.env = (do
    callWith pos (← eval (.Subscript a b p) X.env) [] (backTo pos (starEach (e :: es) X.env)) (backToKw pos (keywordEach [] X.env))) := rfl
  rw [eq]
  refine wpAny_bind (thn (h0.run pins s σ H _ I h) fun u s1 ⟨x, H1, I1, r1, f, fd, ps, sp, ex, F, hb, hk, q1⟩ => ?_)
  subst ex
  obtain rfl : u = Value.ref f := r1
  refine PySem.W.callWith_K (h₀ := X.base) I.ok.mod.kin hk (thn (ha.run pos pins s1 σ H1 _ I1 q1) fun us s2 ⟨vs, H2, I2, r, q⟩ => ⟨I2.kIn, ?_⟩) he hpl
  exact run_fn F hr hb .nil pass0 I2 r (by rw [List.append_nil]; exact q)
end
end LC

namespace LC
open PySem PySem.Spec PyProof.Rows L2 Evl
abbrev cI (gs : List Nat) : List Int := gs.map fun (n : Nat) => (n : Int)
theorem cI_nat (l : List Nat) : (cI l).map Int.toNat = l := by
  rw [List.map_map]
  have e : (Int.toNat ∘ fun n : Nat => (n : Int)) = id := funext fun n => Int.toNat_natCast n
  rw [e, List.map_id]
def arity : List Nat := [1, 4, 4, 1, 1, 1, 0, 1, 2, 0, 2, 4, 4, 4, 5, 5, 1, 1, 3, 4, 3]
/-- how many numbers a call has -/
def Told (p : Nat) (gs : List Nat) : Prop := p < 21 ∧ (if p = 16 ∨ p = 18 then arity.getD p 0 ≤ gs.length ∧ gs.length ≤ arity.getD p 0 + 12 else gs.length = arity.getD p 0)
def deskOf (st : Option Kp372.Desk) : Kp372.Desk := st.getD desk0
def OkSt (st : Option Kp372.Desk) : Prop := ∀ d, st = some d → Good d
abbrev nStep (st : Option Kp372.Desk) (p : Nat) (gs : List Nat) : Option Kp372.Desk × List Int := Kp372Neutral.step st [(p : Int) :: cI gs]
/-- one call: the same for all -/
def spU (CR CW : Addr) (p : Nat) : Sp := fun vs H Q _ => ∃ (x y ld le lw : Addr) (st : Option Kp372.Desk) (gs : List Nat), vs = [.ref x, .ref y] ∧ WL CR CW H x ld le lw (deskOf st) ∧ OkSt st ∧ (p ≠ 0 → st ≠ none) ∧ H y = some (.lst (lI gs)) ∧ Told p gs ∧
  Res CR CW H x ld le lw (deskOf (nStep st p gs).1) ((nStep st p gs).2.map V.int) Q
/-- what stays well told behind it -/
def Fine (p : Nat) : Prop := ∀ (st : Option Kp372.Desk) (gs : List Nat), OkSt st → (p ≠ 0 → st ≠ none) → Told p gs → OkSt (nStep st p gs).1
theorem len0 {gs : List Nat} (h : gs.length = 0) : gs = [] := List.eq_nil_of_length_eq_zero h
theorem len1 {gs : List Nat} (h : gs.length = 1) : ∃ a, gs = [a] := List.length_eq_one_iff.mp h
theorem len2 {gs : List Nat} (h : gs.length = 2) : ∃ a b, gs = [a, b] := match gs, h with
  | [a, b], _ => ⟨a, b, rfl⟩
theorem len3 {gs : List Nat} (h : gs.length = 3) : ∃ a b c, gs = [a, b, c] := match gs, h with
  | [a, b, c], _ => ⟨a, b, c, rfl⟩
theorem len4 {gs : List Nat} (h : gs.length = 4) : ∃ a b c d, gs = [a, b, c, d] := match gs, h with
  | [a, b, c, d], _ => ⟨a, b, c, d, rfl⟩
theorem len5 {gs : List Nat} (h : gs.length = 5) : ∃ a b c d e, gs = [a, b, c, d, e] := match gs, h with
  | [a, b, c, d, e], _ => ⟨a, b, c, d, e, rfl⟩
theorem GOk.imp {P : Program} {w : World} {K : PySem.W.Frag} {mg : Str → Option Value} {base : Heap} {k j : Nat} {x : Str} {ps : List Str} {sp sp' : Sp} (h : GOk P w K mg base k x ps sp) (hk : k ≤ j) (hi : ∀ vs H Q E, sp' vs H Q E → sp vs H Q E) : GOk P w K mg base j x ps sp' := by
  obtain ⟨f, fd, F, b, kp, g⟩ := h
  exact ⟨f, fd, (F.mono hk).imp hi, b, kp, g⟩
theorem st_some {p : Nat} {st : Option Kp372.Desk} (h : p ≠ 0 → st ≠ none) (hp : p ≠ 0) : ∃ d, st = some d := by
  cases st with
  | none => exact absurd rfl (h hp)
  | some d => exact ⟨d, rfl⟩
section
variable {P : Program} {w : World} {K : PySem.W.Frag} {mg : Str → Option Value} {base : Heap} {CR CA CE CW : Addr}
/-- a call that only asks -/
theorem ask_res {H : Hp} {x ld le lw : Addr} {d : Kp372.Desk} {c : Kp372.Call} {a : Kp372.Ans} {Q : VK} (W : WL CR CW H x ld le lw d) (e : Kp372.step (some d) c = (some d, a)) (h : Res CR CW H x ld le lw (deskOf (Kp372.step (some d) c).1) (ansV (Kp372.step (some d) c).2) Q) : RetL (ansV a) H Q := by
  rw [e] at h
  exact Res.same W h
theorem u_begin (T : Top K mg CR CA CE CW) : GOk P w K mg base 9 "answer_begin" ["world", "given"] (spU CR CW 0) := (ok_abegin T).imp (by decide) fun vs H Q E h => by
  obtain ⟨x, y, ld, le, lw, st, gs, rfl, W, O, _, hy, ⟨_, ht⟩, R⟩ := h
  obtain ⟨m, rfl⟩ := len1 ht
  have R : Res CR CW H x ld le lw (deskOf (Kp372.step st (.begin_ m)).1) (ansV (Kp372.step st (.begin_ m)).2) Q := R
  rw [st_begin] at R
  refine ⟨x, y, ld, le, lw, deskOf st, m, rfl, W, hy, fun hb => ?_, fun hb => ?_⟩
  · rw [if_pos hb] at R
    exact R
  · rw [if_neg hb] at R
    exact R
theorem u_deed (T : Top K mg CR CA CE CW) : GOk P w K mg base 9 "answer_deed" ["world", "given"] (spU CR CW 1) := (ok_adeed T).imp (by decide) fun vs H Q E h => by
  obtain ⟨x, y, ld, le, lw, st, gs, rfl, W, O, n, hy, ⟨_, ht⟩, R⟩ := h
  obtain ⟨d, rfl⟩ := st_some n (by decide)
  obtain ⟨a, b, c, e, rfl⟩ := len4 ht
  have R : Res CR CW H x ld le lw (deskOf (Kp372.step (some d) (.deed a b c e)).1) (ansV (Kp372.step (some d) (.deed a b c e)).2) Q := R
  rw [st_deed] at R
  refine ⟨x, y, ld, le, lw, d, a, b, c, e, rfl, W, O d rfl, hy, fun h1 => ?_, fun h1 h2 => ?_, fun h1 h2 => ?_⟩
  · rw [if_pos h1] at R
    exact R
  · rw [if_neg (by rw [h1]; decide), if_pos h2] at R
    exact R
  · rw [if_neg (by rw [h1]; decide), if_neg (by omega)] at R
    exact R
theorem u_event (T : Top K mg CR CA CE CW) : GOk P w K mg base 9 "answer_event" ["world", "given"] (spU CR CW 2) := (ok_aevent T).imp (by decide) fun vs H Q E h => by
  obtain ⟨x, y, ld, le, lw, st, gs, rfl, W, O, n, hy, ⟨_, ht⟩, R⟩ := h
  obtain ⟨d, rfl⟩ := st_some n (by decide)
  obtain ⟨a, b, c, e, rfl⟩ := len4 ht
  have R : Res CR CW H x ld le lw (deskOf (Kp372.step (some d) (.event a b c e)).1) (ansV (Kp372.step (some d) (.event a b c e)).2) Q := R
  rw [st_event] at R
  refine ⟨x, y, ld, le, lw, d, a, b, c, e, rfl, W, O d rfl, hy, fun h1 => ?_, fun h1 h2 => ?_, fun h1 h2 => ?_⟩
  · rw [if_pos h1] at R
    exact R
  · rw [if_neg (by rw [h1]; decide), if_pos h2] at R
    exact R
  · rw [if_neg (by rw [h1]; decide), if_neg (by omega)] at R
    exact R
theorem u_undeed (T : Top K mg CR CA CE CW) : GOk P w K mg base 9 "answer_undeed" ["world", "given"] (spU CR CW 3) := (ok_aundeed T).imp (by decide) fun vs H Q E h => by
  obtain ⟨x, y, ld, le, lw, st, gs, rfl, W, O, n, hy, ⟨_, ht⟩, R⟩ := h
  obtain ⟨d, rfl⟩ := st_some n (by decide)
  obtain ⟨i, rfl⟩ := len1 ht
  have R : Res CR CW H x ld le lw (deskOf (Kp372.step (some d) (.undeed i)).1) (ansV (Kp372.step (some d) (.undeed i)).2) Q := R
  rw [st_undeed] at R
  refine ⟨x, y, ld, le, lw, d, i, rfl, W, O d rfl, hy, fun h1 => ?_, fun h1 => ?_⟩
  · rw [if_pos h1] at R
    exact R
  · rw [if_neg (by omega)] at R
    exact R
theorem u_unevent (T : Top K mg CR CA CE CW) : GOk P w K mg base 9 "answer_unevent" ["world", "given"] (spU CR CW 4) := (ok_aunevent T).imp (by decide) fun vs H Q E h => by
  obtain ⟨x, y, ld, le, lw, st, gs, rfl, W, O, n, hy, ⟨_, ht⟩, R⟩ := h
  obtain ⟨d, rfl⟩ := st_some n (by decide)
  obtain ⟨i, rfl⟩ := len1 ht
  have R : Res CR CW H x ld le lw (deskOf (Kp372.step (some d) (.unevent i)).1) (ansV (Kp372.step (some d) (.unevent i)).2) Q := R
  rw [st_unevent] at R
  refine ⟨x, y, ld, le, lw, d, i, rfl, W, O d rfl, hy, fun h1 => ?_, fun h1 => ?_⟩
  · rw [if_pos h1] at R
    exact R
  · rw [if_neg (by omega)] at R
    exact R
theorem u_set (T : Top K mg CR CA CE CW) : GOk P w K mg base 9 "answer_set" ["world", "given"] (spU CR CW 5) := (ok_aset T).imp (by decide) fun vs H Q E h => by
  obtain ⟨x, y, ld, le, lw, st, gs, rfl, W, O, n, hy, ⟨_, ht⟩, R⟩ := h
  obtain ⟨d, rfl⟩ := st_some n (by decide)
  obtain ⟨s, rfl⟩ := len1 ht
  have R : Res CR CW H x ld le lw (deskOf (Kp372.step (some d) (.set s)).1) (ansV (Kp372.step (some d) (.set s)).2) Q := R
  rw [st_set] at R
  refine ⟨x, y, ld, le, lw, d, s, rfl, W, O d rfl, hy, fun h1 => ?_, fun h1 => ?_⟩
  · rw [if_pos h1] at R
    exact R
  · rw [if_neg (by omega)] at R
    exact R
theorem u_now (T : Top K mg CR CA CE CW) : GOk P w K mg base 9 "answer_now" ["world", "given"] (spU CR CW 6) := (ok_now T).imp (by decide) fun vs H Q E h => by
  obtain ⟨x, y, ld, le, lw, st, gs, rfl, W, O, n, hy, ⟨_, ht⟩, R⟩ := h
  obtain ⟨d, rfl⟩ := st_some n (by decide)
  have := len0 ht
  subst this
  exact ⟨x, y, d, rfl, W.wr, O d rfl, ask_res W (st_now d) R⟩
theorem u_do (T : Top K mg CR CA CE CW) : GOk P w K mg base 9 "answer_do" ["world", "given"] (spU CR CW 7) := (ok_ado T).imp (by decide) fun vs H Q E h => by
  obtain ⟨x, y, ld, le, lw, st, gs, rfl, W, O, n, hy, ⟨_, ht⟩, R⟩ := h
  obtain ⟨d, rfl⟩ := st_some n (by decide)
  obtain ⟨i, rfl⟩ := len1 ht
  have R : Res CR CW H x ld le lw (deskOf (Kp372.step (some d) (.do_ i)).1) (ansV (Kp372.step (some d) (.do_ i)).2) Q := R
  rw [st_do] at R
  refine ⟨x, y, ld, le, lw, d, i, rfl, W, O d rfl, hy, fun h1 => ?_, fun h1 h2 => ?_, fun t h1 h2 => ?_⟩
  · rw [if_pos h1] at R
    exact R
  · rw [if_neg (by omega), h2] at R
    exact R
  · rw [if_neg (by omega), h2] at R
    exact R
theorem u_weight (T : Top K mg CR CA CE CW) : GOk P w K mg base 9 "answer_weight" ["world", "given"] (spU CR CW 8) := (ok_aweight T).imp (by decide) fun vs H Q E h => by
  obtain ⟨x, y, ld, le, lw, st, gs, rfl, W, O, n, hy, ⟨_, ht⟩, R⟩ := h
  obtain ⟨d, rfl⟩ := st_some n (by decide)
  obtain ⟨q, v, rfl⟩ := len2 ht
  have R : Res CR CW H x ld le lw (deskOf (Kp372.step (some d) (.weight q v)).1) (ansV (Kp372.step (some d) (.weight q v)).2) Q := R
  rw [st_weight] at R
  refine ⟨x, y, ld, le, lw, d, q, v, rfl, W, O d rfl, hy, fun h1 => ?_, fun h1 h2 => ?_, fun h1 h2 => ?_⟩
  · rw [if_pos h1] at R
    exact R
  · rw [if_neg (by omega), if_pos h2] at R
    exact R
  · rw [if_neg (by omega), if_neg (by omega)] at R
    exact R
theorem u_weights (T : Top K mg CR CA CE CW) : GOk P w K mg base 9 "answer_weights" ["world", "given"] (spU CR CW 9) := (ok_weights T).imp (by decide) fun vs H Q E h => by
  obtain ⟨x, y, ld, le, lw, st, gs, rfl, W, O, n, hy, ⟨_, ht⟩, R⟩ := h
  obtain ⟨d, rfl⟩ := st_some n (by decide)
  have := len0 ht
  subst this
  exact ⟨x, y, d, rfl, W.wr, O d rfl, ask_res W (c := .weights) rfl R⟩
theorem u_base (T : Top K mg CR CA CE CW) : GOk P w K mg base 9 "answer_base" ["world", "given"] (spU CR CW 10) := (ok_base T).imp (by decide) fun vs H Q E h => by
  obtain ⟨x, y, ld, le, lw, st, gs, rfl, W, O, n, hy, ⟨_, ht⟩, R⟩ := h
  obtain ⟨d, rfl⟩ := st_some n (by decide)
  obtain ⟨b, t, rfl⟩ := len2 ht
  exact ⟨x, y, d, b, t, rfl, W.wr, O d rfl, hy, ask_res W (c := .base b t) rfl R⟩
theorem u_least (T : Top K mg CR CA CE CW) : GOk P w K mg base 9 "answer_least" ["world", "given"] (spU CR CW 11) := (ok_least T).imp (by decide) fun vs H Q E h => by
  obtain ⟨x, y, ld, le, lw, st, gs, rfl, W, O, n, hy, ⟨_, ht⟩, R⟩ := h
  obtain ⟨d, rfl⟩ := st_some n (by decide)
  obtain ⟨a, u, b, k, rfl⟩ := len4 ht
  exact ⟨x, y, d, a, u, b, k, rfl, W.wr, O d rfl, hy, ask_res W (c := .least a u b k) rfl R⟩
theorem u_row (T : Top K mg CR CA CE CW) : GOk P w K mg base 9 "answer_row" ["world", "given"] (spU CR CW 12) := (ok_row T).imp (by decide) fun vs H Q E h => by
  obtain ⟨x, y, ld, le, lw, st, gs, rfl, W, O, n, hy, ⟨_, ht⟩, R⟩ := h
  obtain ⟨d, rfl⟩ := st_some n (by decide)
  obtain ⟨a, u, b, k, rfl⟩ := len4 ht
  exact ⟨x, y, d, a, u, b, k, rfl, W.wr, O d rfl, hy, ask_res W (c := .row a u b k) rfl R⟩
theorem u_costs (T : Top K mg CR CA CE CW) : GOk P w K mg base 9 "answer_costs" ["world", "given"] (spU CR CW 13) := (ok_costs T).imp (by decide) fun vs H Q E h => by
  obtain ⟨x, y, ld, le, lw, st, gs, rfl, W, O, n, hy, ⟨_, ht⟩, R⟩ := h
  obtain ⟨d, rfl⟩ := st_some n (by decide)
  obtain ⟨a, u, b, k, rfl⟩ := len4 ht
  exact ⟨x, y, d, a, u, b, k, rfl, W.wr, O d rfl, hy, ask_res W (c := .costs a u b k) rfl R⟩
theorem u_guarded (T : Top K mg CR CA CE CW) : GOk P w K mg base 9 "answer_guarded" ["world", "given"] (spU CR CW 14) := (ok_guarded T).imp (by decide) fun vs H Q E h => by
  obtain ⟨x, y, ld, le, lw, st, gs, rfl, W, O, n, hy, ⟨_, ht⟩, R⟩ := h
  obtain ⟨d, rfl⟩ := st_some n (by decide)
  obtain ⟨a, u, b, g, k, rfl⟩ := len5 ht
  exact ⟨x, y, d, a, u, b, g, k, rfl, W.wr, O d rfl, hy, ask_res W (c := .guarded a u b g k) rfl R⟩
theorem u_guardrow (T : Top K mg CR CA CE CW) : GOk P w K mg base 9 "answer_guardrow" ["world", "given"] (spU CR CW 15) := (ok_guardrow T).imp (by decide) fun vs H Q E h => by
  obtain ⟨x, y, ld, le, lw, st, gs, rfl, W, O, n, hy, ⟨_, ht⟩, R⟩ := h
  obtain ⟨d, rfl⟩ := st_some n (by decide)
  obtain ⟨a, u, b, g, k, rfl⟩ := len5 ht
  exact ⟨x, y, d, a, u, b, g, k, rfl, W.wr, O d rfl, hy, ask_res W (c := .guardRow a u b g k) rfl R⟩
theorem call16 (b : Nat) (l : List Nat) : Kp372Neutral.callOf [((16 : Nat) : Int) :: cI (b :: l)] = some (.changes b l) := by
  have e : Kp372Neutral.callOf [((16 : Nat) : Int) :: cI (b :: l)] = some (.changes b ((cI l).map Int.toNat)) := rfl
  rw [e, cI_nat]
theorem call18 (a u b : Nat) (l : List Nat) : Kp372Neutral.callOf [((18 : Nat) : Int) :: cI (a :: u :: b :: l)] = some (.price a u b l) := by
  have e : Kp372Neutral.callOf [((18 : Nat) : Int) :: cI (a :: u :: b :: l)] = some (.price a u b ((cI l).map Int.toNat)) := rfl
  rw [e, cI_nat]
theorem nStep_of {st : Option Kp372.Desk} {p : Nat} {gs : List Nat} {c : Kp372.Call} (h : Kp372Neutral.callOf [(p : Int) :: cI gs] = some c) : nStep st p gs = ((Kp372.step st c).1, (Kp372.step st c).2.num :: (Kp372.step st c).2.nums) := by
  unfold nStep Kp372Neutral.step
  rw [h]
theorem u_changes (T : Top K mg CR CA CE CW) : GOk P w K mg base 9 "answer_changes" ["world", "given"] (spU CR CW 16) := (ok_changes T).imp (by decide) fun vs H Q E h => by
  obtain ⟨x, y, ld, le, lw, st, gs, rfl, W, O, n, hy, ⟨_, ht⟩, R⟩ := h
  obtain ⟨d, rfl⟩ := st_some n (by decide)
  have ht : 1 ≤ gs.length ∧ gs.length ≤ 13 := ht
  cases gs with
  | nil => exact absurd ht.1 (by decide)
  | cons b l =>
    have hl : l.length ≤ 12 := by
      have := ht.2
      simp only [List.length_cons] at this
      omega
    rw [nStep_of (call16 b l)] at R
    exact ⟨x, y, d, b, l, rfl, W.wr, O d rfl, hy, hl, ask_res W (c := .changes b l) rfl R⟩
theorem u_touches (T : Top K mg CR CA CE CW) : GOk P w K mg base 9 "answer_touches" ["world", "given"] (spU CR CW 17) := (ok_touches T).imp (by decide) fun vs H Q E h => by
  obtain ⟨x, y, ld, le, lw, st, gs, rfl, W, O, n, hy, ⟨_, ht⟩, R⟩ := h
  obtain ⟨d, rfl⟩ := st_some n (by decide)
  obtain ⟨i, rfl⟩ := len1 ht
  exact ⟨x, y, d, i, rfl, W.wr, O d rfl, hy, ask_res W (c := .touches i) rfl R⟩
theorem u_price (T : Top K mg CR CA CE CW) : GOk P w K mg base 9 "answer_price" ["world", "given"] (spU CR CW 18) := (ok_price T).imp (by decide) fun vs H Q E h => by
  obtain ⟨x, y, ld, le, lw, st, gs, rfl, W, O, n, hy, ⟨_, ht⟩, R⟩ := h
  obtain ⟨d, rfl⟩ := st_some n (by decide)
  have ht : 3 ≤ gs.length ∧ gs.length ≤ 15 := ht
  match gs, ht, hy, R with
  | [], ht, _, _ => exact absurd ht.1 (by simp)
  | [_], ht, _, _ => exact absurd ht.1 (by simp)
  | [_, _], ht, _, _ => exact absurd ht.1 (by simp)
  | a :: u :: b :: l, ht, hy, R =>
    have hl : l.length ≤ 12 := by
      have := ht.2
      simp only [List.length_cons] at this
      omega
    rw [nStep_of (call18 a u b l)] at R
    exact ⟨x, y, d, a, u, b, l, rfl, W.wr, O d rfl, hy, hl, ask_res W (c := .price a u b l) rfl R⟩
theorem u_free (T : Top K mg CR CA CE CW) : GOk P w K mg base 9 "answer_free" ["world", "given"] (spU CR CW 19) := (ok_free T).imp (by decide) fun vs H Q E h => by
  obtain ⟨x, y, ld, le, lw, st, gs, rfl, W, O, n, hy, ⟨_, ht⟩, R⟩ := h
  obtain ⟨d, rfl⟩ := st_some n (by decide)
  obtain ⟨a, u, b, k, rfl⟩ := len4 ht
  exact ⟨x, y, d, a, u, b, k, rfl, W.wr, O d rfl, hy, ask_res W (c := .free a u b k) rfl R⟩
theorem u_firstfree (T : Top K mg CR CA CE CW) : GOk P w K mg base 9 "answer_firstfree" ["world", "given"] (spU CR CW 20) := (ok_firstfree T).imp (by decide) fun vs H Q E h => by
  obtain ⟨x, y, ld, le, lw, st, gs, rfl, W, O, n, hy, ⟨_, ht⟩, R⟩ := h
  obtain ⟨d, rfl⟩ := st_some n (by decide)
  obtain ⟨a, u, b, rfl⟩ := len3 ht
  exact ⟨x, y, d, a, u, b, rfl, W.wr, O d rfl, hy, ask_res W (c := .firstFree a u b) rfl R⟩
theorem u_all (T : Top K mg CR CA CE CW) : ∀ (p : Nat) (x : Str), repTab[p]? = some x → GOk P w K mg base 9 x ["world", "given"] (spU CR CW p)
  | 0, _, h => (Option.some.inj h) ▸ u_begin T
  | 1, _, h => (Option.some.inj h) ▸ u_deed T
  | 2, _, h => (Option.some.inj h) ▸ u_event T
  | 3, _, h => (Option.some.inj h) ▸ u_undeed T
  | 4, _, h => (Option.some.inj h) ▸ u_unevent T
  | 5, _, h => (Option.some.inj h) ▸ u_set T
  | 6, _, h => (Option.some.inj h) ▸ u_now T
  | 7, _, h => (Option.some.inj h) ▸ u_do T
  | 8, _, h => (Option.some.inj h) ▸ u_weight T
  | 9, _, h => (Option.some.inj h) ▸ u_weights T
  | 10, _, h => (Option.some.inj h) ▸ u_base T
  | 11, _, h => (Option.some.inj h) ▸ u_least T
  | 12, _, h => (Option.some.inj h) ▸ u_row T
  | 13, _, h => (Option.some.inj h) ▸ u_costs T
  | 14, _, h => (Option.some.inj h) ▸ u_guarded T
  | 15, _, h => (Option.some.inj h) ▸ u_guardrow T
  | 16, _, h => (Option.some.inj h) ▸ u_changes T
  | 17, _, h => (Option.some.inj h) ▸ u_touches T
  | 18, _, h => (Option.some.inj h) ▸ u_price T
  | 19, _, h => (Option.some.inj h) ▸ u_free T
  | 20, _, h => (Option.some.inj h) ▸ u_firstfree T
  | n + 21, _, h => by
    have := (List.getElem?_eq_some_iff.mp h).1
    have e : repTab.length = 21 := rfl
    omega
end
end LC

namespace LC
open PySem PySem.Spec PyProof.Rows L2 Evl
/-! ### the calls in the list -/
theorem shape_small : ∀ q : Fin 21, PyKp372.shape ((q.1 : Nat) : Int) = some (arity.getD q.1 0, if q.1 = 16 ∨ q.1 = 18 then 1 else 0) := by decide
theorem shape_nat {q n k : Nat} (h : PyKp372.shape (q : Int) = some (n, k)) : q < 21 ∧ n = arity.getD q 0 ∧ k = if q = 16 ∨ q = 18 then 1 else 0 := by
  by_cases hq : q < 21
  · have e := shape_small ⟨q, hq⟩
    rw [h] at e
    have e := Option.some.inj e
    exact ⟨hq, congrArg Prod.fst e, congrArg Prod.snd e⟩
  · exfalso
    have e : PyKp372.shape (q : Int) = none := by
      unfold PyKp372.shape
      repeat rw [if_neg (by omega)]
    rw [e] at h
    cases h
theorem cI_take (l : List Nat) (n : Nat) : (cI l).take n = cI (l.take n) := (List.map_take).symm
theorem cI_drop (l : List Nat) (n : Nat) : (cI l).drop n = cI (l.drop n) := (List.map_drop).symm
/-- what the first call of a list is -/
inductive OneCall (p : Nat) (r : List Nat) : List Nat → List (List Int) → Nat → Prop
  | plain (h : ¬ (p = 16 ∨ p = 18)) (hl : arity.getD p 0 ≤ r.length) : OneCall p r (r.take (arity.getD p 0)) [(p : Int) :: cI (r.take (arity.getD p 0))] (arity.getD p 0)
  | row (h : p = 16 ∨ p = 18) (hl : arity.getD p 0 ≤ r.length) (m : Nat) (rest : List Nat) (hd : r.drop (arity.getD p 0) = m :: rest) (hm : m ≤ rest.length) :
      OneCall p r (r.take (arity.getD p 0) ++ rest.take m) [(p : Int) :: cI (r.take (arity.getD p 0)), cI (rest.take m)] (arity.getD p 0 + 1 + m)
theorem parse_one {f p : Nat} {r : List Nat} {cs : List (List (List Int))} (h : PyFlat.calls PyKp372.shape f (cI (p :: r)) = some cs) :
    p < 21 ∧ ∃ gs c n cs' f', OneCall p r gs c n ∧ cs = c :: cs' ∧ PyFlat.calls PyKp372.shape f' (cI (r.drop n)) = some cs' ∧ n ≤ r.length := by
  cases f with
  | zero => cases h
  | succ f =>
    have h : (match PyFlat.call PyKp372.shape ((p : Int) :: cI r) with
      | none => none
      | some (c, t) => match PyFlat.calls PyKp372.shape f t with
        | none => none
        | some cs => some (c :: cs)) = some cs := h
    cases hc : PyFlat.call PyKp372.shape ((p : Int) :: cI r) with
    | none =>
      rw [hc] at h
      cases h
    | some q =>
      obtain ⟨c, t⟩ := q
      rw [hc] at h
      have h : (match PyFlat.calls PyKp372.shape f t with
        | none => none
        | some cs => some (c :: cs)) = some cs := h
      cases hcs : PyFlat.calls PyKp372.shape f t with
      | none =>
        rw [hcs] at h
        cases h
      | some cs' =>
        rw [hcs] at h
        have ecs : c :: cs' = cs := Option.some.inj h
        have hc : (match PyKp372.shape (p : Int) with
          | none => none
          | some (n, k) => if (cI r).length < n then none else match PyFlat.rows k ((cI r).drop n) with
            | none => none
            | some (xs, t) => some (((p : Int) :: (cI r).take n) :: xs, t)) = some (c, t) := hc
        cases hs : PyKp372.shape (p : Int) with
        | none =>
          rw [hs] at hc
          cases hc
        | some nk =>
          obtain ⟨n, k⟩ := nk
          rw [hs] at hc
          obtain ⟨hp, hn, hk⟩ := shape_nat hs
          have hc : (if (cI r).length < n then none else match PyFlat.rows k ((cI r).drop n) with
            | none => none
            | some (xs, t) => some (((p : Int) :: (cI r).take n) :: xs, t)) = some (c, t) := hc
          by_cases hl : (cI r).length < n
          · rw [if_pos hl] at hc
            cases hc
          · rw [if_neg hl, cI_drop, cI_take] at hc
            have hl : n ≤ r.length := by
              rw [List.length_map] at hl
              omega
            refine ⟨hp, ?_⟩
            by_cases hrow : p = 16 ∨ p = 18
            · rw [if_pos hrow] at hk
              subst hk
              have hc : (match (match PyFlat.row (cI (r.drop n)) with
                | none => none
                | some (x, s) => match PyFlat.rows 0 s with
                  | none => none
                  | some (xs, t) => some (x :: xs, t)) with
                | none => none
                | some (xs, t) => some (((p : Int) :: cI (r.take n)) :: xs, t)) = some (c, t) := hc
              cases hd : r.drop n with
              | nil =>
                rw [hd] at hc
                cases hc
              | cons m rest =>
                rw [hd] at hc
                have hrw : PyFlat.row (cI (m :: rest)) = if 0 ≤ (m : Int) ∧ ((m : Int)).toNat ≤ (cI rest).length then some ((cI rest).take ((m : Int)).toNat, (cI rest).drop ((m : Int)).toNat) else none := rfl
                by_cases hm : 0 ≤ (m : Int) ∧ ((m : Int)).toNat ≤ (cI rest).length
                · rw [hrw, if_pos hm, Int.toNat_natCast, cI_take, cI_drop] at hc
                  rw [Int.toNat_natCast, List.length_map] at hm
                  have hc : some (((p : Int) :: cI (r.take n)) :: [cI (rest.take m)], cI (rest.drop m)) = some (c, t) := hc
                  have hc := Option.some.inj hc
                  have e1 : ((p : Int) :: cI (r.take n)) :: [cI (rest.take m)] = c := congrArg Prod.fst hc
                  have e2 : cI (rest.drop m) = t := congrArg Prod.snd hc
                  subst hn
                  refine ⟨_, c, _, cs', f, e1 ▸ OneCall.row hrow hl m rest hd hm.2, ecs.symm, ?_, ?_⟩
                  · have e3 : r.drop (arity.getD p 0 + 1 + m) = rest.drop m := by
                      have e4 : r.drop (arity.getD p 0 + 1 + m) = (r.drop (arity.getD p 0)).drop (1 + m) := by
                        rw [List.drop_drop]
                        congr 1
                        omega
                      rw [e4, hd, Nat.add_comm 1 m]
                      rfl
                    rw [e3, e2]
                    exact hcs
                  · have := congrArg List.length hd
                    rw [List.length_drop, List.length_cons] at this
                    omega
                · rw [hrw, if_neg hm] at hc
                  cases hc
            · rw [if_neg hrow] at hk
              subst hk
              have hc : some (((p : Int) :: cI (r.take n)) :: [], cI (r.drop n)) = some (c, t) := hc
              have hc := Option.some.inj hc
              have e1 : ((p : Int) :: cI (r.take n)) :: [] = c := congrArg Prod.fst hc
              have e2 : cI (r.drop n) = t := congrArg Prod.snd hc
              subst hn
              exact ⟨_, c, _, cs', f, e1 ▸ OneCall.plain hrow hl, ecs.symm, by rw [e2]; exact hcs, hl⟩
theorem whole_plain : ∀ {p : Nat} {gs : List Nat}, p < 21 → ¬ (p = 16 ∨ p = 18) → gs.length = arity.getD p 0 → PyKp372.whole [(p : Int) :: cI gs] = [(p : Int) :: cI gs]
  | 0, gs, _, _, h => by obtain ⟨a, rfl⟩ := len1 h; rfl
  | 1, gs, _, _, h => by obtain ⟨a, b, c, d, rfl⟩ := len4 h; rfl
  | 2, gs, _, _, h => by obtain ⟨a, b, c, d, rfl⟩ := len4 h; rfl
  | 3, gs, _, _, h => by obtain ⟨a, rfl⟩ := len1 h; rfl
  | 4, gs, _, _, h => by obtain ⟨a, rfl⟩ := len1 h; rfl
  | 5, gs, _, _, h => by obtain ⟨a, rfl⟩ := len1 h; rfl
  | 6, gs, _, _, h => by have := len0 h; subst this; rfl
  | 7, gs, _, _, h => by obtain ⟨a, rfl⟩ := len1 h; rfl
  | 8, gs, _, _, h => by obtain ⟨a, b, rfl⟩ := len2 h; rfl
  | 9, gs, _, _, h => by have := len0 h; subst this; rfl
  | 10, gs, _, _, h => by obtain ⟨a, b, rfl⟩ := len2 h; rfl
  | 11, gs, _, _, h => by obtain ⟨a, b, c, d, rfl⟩ := len4 h; rfl
  | 12, gs, _, _, h => by obtain ⟨a, b, c, d, rfl⟩ := len4 h; rfl
  | 13, gs, _, _, h => by obtain ⟨a, b, c, d, rfl⟩ := len4 h; rfl
  | 14, gs, _, _, h => by obtain ⟨a, b, c, d, e, rfl⟩ := len5 h; rfl
  | 15, gs, _, _, h => by obtain ⟨a, b, c, d, e, rfl⟩ := len5 h; rfl
  | 16, gs, _, h, _ => absurd (Or.inl rfl) h
  | 17, gs, _, _, h => by obtain ⟨a, rfl⟩ := len1 h; rfl
  | 18, gs, _, h, _ => absurd (Or.inr rfl) h
  | 19, gs, _, _, h => by obtain ⟨a, b, c, d, rfl⟩ := len4 h; rfl
  | 20, gs, _, _, h => by obtain ⟨a, b, c, rfl⟩ := len3 h; rfl
  | n + 21, _, h, _, _ => by omega
theorem cI_app (a b : List Nat) : cI a ++ cI b = cI (a ++ b) := (List.map_append).symm
theorem whole_row {p : Nat} {g1 g2 : List Nat} (hp : p = 16 ∨ p = 18) (h : g1.length = arity.getD p 0) : PyKp372.whole [(p : Int) :: cI g1, cI g2] = [(p : Int) :: cI (g1 ++ g2)] := by
  rcases hp with rfl | rfl
  · obtain ⟨a, rfl⟩ := len1 h
    rfl
  · obtain ⟨a, b, c, rfl⟩ := len3 h
    rfl
theorem row_bound {p : Nat} {g1 g2 : List Nat} (hp : p = 16 ∨ p = 18) (h : PyInside.call PyKp372.bound [(p : Int) :: cI g1, cI g2] = true) : g2.length ≤ 12 := by
  rcases hp with rfl | rfl
  · have h : (PyInside.each [(0, 4294967295)] (cI g1) && PyInside.lists [(0, 4294967295, 0, 12)] [cI g2]) = true := h
    rw [Bool.and_eq_true] at h
    have h2 : (decide (0 ≤ (cI g2).length) && decide ((cI g2).length ≤ 12) && (cI g2).all (PyInside.within 0 4294967295) && true) = true := h.2
    simp only [Bool.and_eq_true, decide_eq_true_eq] at h2
    have := h2.1.1.2
    rw [List.length_map] at this
    exact this
  · have h : (PyInside.each [(0, 4294967295), (0, 4294967295), (0, 4294967295)] (cI g1) && PyInside.lists [(0, 4294967295, 0, 12)] [cI g2]) = true := h
    rw [Bool.and_eq_true] at h
    have h2 : (decide (0 ≤ (cI g2).length) && decide ((cI g2).length ≤ 12) && (cI g2).all (PyInside.within 0 4294967295) && true) = true := h.2
    simp only [Bool.and_eq_true, decide_eq_true_eq] at h2
    have := h2.1.1.2
    rw [List.length_map] at this
    exact this
/-- a call that is read, and what it is to the specification -/
theorem one_told {p n : Nat} {r gs : List Nat} {c : List (List Int)} (hp : p < 21) (h : OneCall p r gs c n) (hb : PyInside.call PyKp372.bound c = true) : Told p gs ∧ PyKp372.whole c = [(p : Int) :: cI gs] := by
  cases h with
  | plain hn hl =>
    have hlen : (r.take (arity.getD p 0)).length = arity.getD p 0 := by
      rw [List.length_take]
      omega
    exact ⟨⟨hp, by rw [if_neg hn]; exact hlen⟩, whole_plain hp hn hlen⟩
  | row hr hl m rest hd hm =>
    have hlen : (r.take (arity.getD p 0)).length = arity.getD p 0 := by
      rw [List.length_take]
      omega
    have h12 := row_bound hr hb
    refine ⟨⟨hp, ?_⟩, whole_row hr hlen⟩
    rw [if_pos hr, List.length_append, hlen]
    omega
/-! ### what is answered, and what stays well told -/
theorem call_some : ∀ {p : Nat} {gs : List Nat}, Told p gs → p ≠ 0 → ∃ c, Kp372Neutral.callOf [(p : Int) :: cI gs] = some c ∧ ∀ m, c ≠ .begin_ m
  | 0, _, _, h => absurd rfl h
  | 1, gs, ⟨_, h⟩, _ => by obtain ⟨a, b, c, d, rfl⟩ := len4 h; exact ⟨_, rfl, fun m => by intro z; cases z⟩
  | 2, gs, ⟨_, h⟩, _ => by obtain ⟨a, b, c, d, rfl⟩ := len4 h; exact ⟨_, rfl, fun m => by intro z; cases z⟩
  | 3, gs, ⟨_, h⟩, _ => by obtain ⟨a, rfl⟩ := len1 h; exact ⟨_, rfl, fun m => by intro z; cases z⟩
  | 4, gs, ⟨_, h⟩, _ => by obtain ⟨a, rfl⟩ := len1 h; exact ⟨_, rfl, fun m => by intro z; cases z⟩
  | 5, gs, ⟨_, h⟩, _ => by obtain ⟨a, rfl⟩ := len1 h; exact ⟨_, rfl, fun m => by intro z; cases z⟩
  | 6, gs, ⟨_, h⟩, _ => by have := len0 h; subst this; exact ⟨_, rfl, fun m => by intro z; cases z⟩
  | 7, gs, ⟨_, h⟩, _ => by obtain ⟨a, rfl⟩ := len1 h; exact ⟨_, rfl, fun m => by intro z; cases z⟩
  | 8, gs, ⟨_, h⟩, _ => by obtain ⟨a, b, rfl⟩ := len2 h; exact ⟨_, rfl, fun m => by intro z; cases z⟩
  | 9, gs, ⟨_, h⟩, _ => by have := len0 h; subst this; exact ⟨_, rfl, fun m => by intro z; cases z⟩
  | 10, gs, ⟨_, h⟩, _ => by obtain ⟨a, b, rfl⟩ := len2 h; exact ⟨_, rfl, fun m => by intro z; cases z⟩
  | 11, gs, ⟨_, h⟩, _ => by obtain ⟨a, b, c, d, rfl⟩ := len4 h; exact ⟨_, rfl, fun m => by intro z; cases z⟩
  | 12, gs, ⟨_, h⟩, _ => by obtain ⟨a, b, c, d, rfl⟩ := len4 h; exact ⟨_, rfl, fun m => by intro z; cases z⟩
  | 13, gs, ⟨_, h⟩, _ => by obtain ⟨a, b, c, d, rfl⟩ := len4 h; exact ⟨_, rfl, fun m => by intro z; cases z⟩
  | 14, gs, ⟨_, h⟩, _ => by obtain ⟨a, b, c, d, e, rfl⟩ := len5 h; exact ⟨_, rfl, fun m => by intro z; cases z⟩
  | 15, gs, ⟨_, h⟩, _ => by obtain ⟨a, b, c, d, e, rfl⟩ := len5 h; exact ⟨_, rfl, fun m => by intro z; cases z⟩
  | 16, gs, ⟨_, h⟩, _ => by
    have h : 1 ≤ gs.length ∧ gs.length ≤ 13 := h
    cases gs with
    | nil => exact absurd h.1 (by decide)
    | cons b l => exact ⟨_, call16 b l, fun m => by intro z; cases z⟩
  | 17, gs, ⟨_, h⟩, _ => by obtain ⟨a, rfl⟩ := len1 h; exact ⟨_, rfl, fun m => by intro z; cases z⟩
  | 18, gs, ⟨_, h⟩, _ => by
    have h : 3 ≤ gs.length ∧ gs.length ≤ 15 := h
    match gs, h with
    | [], ht => exact absurd ht.1 (by simp)
    | [_], ht => exact absurd ht.1 (by simp)
    | [_, _], ht => exact absurd ht.1 (by simp)
    | a :: u :: b :: l, _ => exact ⟨_, call18 a u b l, fun m => by intro z; cases z⟩
  | 19, gs, ⟨_, h⟩, _ => by obtain ⟨a, b, c, d, rfl⟩ := len4 h; exact ⟨_, rfl, fun m => by intro z; cases z⟩
  | 20, gs, ⟨_, h⟩, _ => by obtain ⟨a, b, c, rfl⟩ := len3 h; exact ⟨_, rfl, fun m => by intro z; cases z⟩
  | n + 21, _, ⟨h, _⟩, _ => by omega
theorem nStep_none {p : Nat} {gs : List Nat} (h : Told p gs) (hp : p ≠ 0) : nStep none p gs = (none, [-11]) := by
  obtain ⟨c, hc, hn⟩ := call_some h hp
  rw [nStep_of hc, st_none c hn]
  rfl
/-- no call leaves a world that isn't well told -/
theorem step_good {d : Kp372.Desk} (G : Good d) (c : Kp372.Call) (hc : ∀ m, c ≠ .begin_ m) : OkSt (Kp372.step (some d) c).1 := by
  have same : OkSt (some d) := fun d' e => (Option.some.inj e) ▸ G
  have of : ∀ {d' : Kp372.Desk}, Good d' → OkSt (some d') := fun G' d'' e => (Option.some.inj e) ▸ G'
  cases c with
  | begin_ m => exact absurd rfl (hc m)
  | deed a b c e =>
    rw [st_deed]
    by_cases h1 : Kp371.okDeed d.world a b c e = false
    · rw [if_pos h1]
      exact same
    · rw [if_neg h1]
      by_cases h2 : 6 ≤ d.world.deeds.length
      · rw [if_pos h2]
        exact same
      · rw [if_neg h2]
        exact of (good_deed G (okDeed_ok (by simpa using h1)) (by omega))
  | event a b c e =>
    rw [st_event]
    by_cases h1 : Kp371.okDeed d.world a b c e = false
    · rw [if_pos h1]
      exact same
    · rw [if_neg h1]
      by_cases h2 : 3 ≤ d.world.events.length
      · rw [if_pos h2]
        exact same
      · rw [if_neg h2]
        exact of (good_event G (okDeed_ok (by simpa using h1)) (by omega))
  | undeed i =>
    rw [st_undeed]
    by_cases h1 : d.world.deeds.length ≤ i
    · rw [if_pos h1]
      exact same
    · rw [if_neg h1]
      exact of (good_undeed G i)
  | unevent i =>
    rw [st_unevent]
    by_cases h1 : d.world.events.length ≤ i
    · rw [if_pos h1]
      exact same
    · rw [if_neg h1]
      exact of (good_unevent G i)
  | set s =>
    rw [st_set]
    by_cases h1 : 2 ^ d.world.m ≤ s
    · rw [if_pos h1]
      exact same
    · rw [if_neg h1]
      exact of (good_now G (by omega))
  | now =>
    rw [st_now]
    exact same
  | do_ i =>
    rw [st_do]
    by_cases h1 : d.world.deeds.length ≤ i
    · rw [if_pos h1]
      exact same
    · rw [if_neg h1]
      cases hs : Kp371.stepBy d.world d.world.now i with
      | none => exact same
      | some t => exact of (good_now G (step_lt G G.now hs))
  | weight q x =>
    rw [st_weight]
    by_cases h1 : d.world.m ≤ q
    · rw [if_pos h1]
      exact same
    · rw [if_neg h1]
      by_cases h2 : 100 < x
      · rw [if_pos h2]
        exact same
      · rw [if_neg h2]
        exact of (good_weight G (by omega))
  | weights => exact same
  | base b t => exact same
  | least a w b k => exact same
  | row a w b k => exact same
  | costs a w b k => exact same
  | guarded a w b g k => exact same
  | guardRow a w b g k => exact same
  | changes b l => exact same
  | touches i => exact same
  | price a w b l => exact same
  | free a w b k => exact same
  | firstFree a w b => exact same
theorem nStep_ok {st : Option Kp372.Desk} {p : Nat} {gs : List Nat} (O : OkSt st) (h : Told p gs) : OkSt (nStep st p gs).1 := by
  by_cases hp : p = 0
  · subst hp
    obtain ⟨_, ht⟩ := h
    obtain ⟨m, rfl⟩ := len1 ht
    show OkSt (Kp372.step st (.begin_ m)).1
    rw [st_begin]
    by_cases hm : m < 2 ∨ 5 < m
    · rw [if_pos hm]
      exact O
    · rw [if_neg hm]
      exact fun d' e => (Option.some.inj e) ▸ good_new (by omega) (by omega)
  · cases st with
    | none =>
      rw [nStep_none h hp]
      exact fun d' e => by cases e
    | some d =>
      obtain ⟨c, hc, hn⟩ := call_some h hp
      rw [nStep_of hc]
      exact step_good (O d rfl) c hn
section
variable {P : Program} {w : World} {K : PySem.W.Frag} {mg : Str → Option Value} {base : Heap} {CR CA CE CW : Addr}
/-! ### answer_call -/
def spCall (CR CW : Addr) : Sp := fun vs H Q _ => ∃ (x y ld le lw : Addr) (st : Option Kp372.Desk) (p : Nat) (gs : List Nat), vs = [.ref x, nI p, .ref y] ∧ WL CR CW H x ld le lw (deskOf st) ∧ OkSt st ∧ H y = some (.lst (lI gs)) ∧ Told p gs ∧
  Res CR CW H x ld le lw (deskOf (nStep st p gs).1) ((nStep st p gs).2.map V.int) Q
theorem ok_call (T : Top K mg CR CA CE CW) : GOk P w K mg base 10 "answer_call" ["world", "number", "given"] (spCall CR CW) := by
  refine T.dAnswerCall.ok scAnswerCall (fun vs H Q E h => ?_) (fun _ _ _ _ _ _ us hl => match us, hl with | [_, _, _], _ => rfl) (fun f cdv A outer s H vs Q E hr h => ?_)
  · obtain ⟨x, y, ld, le, lw, st, p, gs, rfl, _⟩ := h
    rfl
  · obtain ⟨x, y, ld, le, lw, st, p, gs, rfl, W', O, hy, ht, R⟩ := h
    obtain ⟨dx, ads, aes, W⟩ := id W'
    obtain ⟨pR, hR, tab⟩ := T.g_REPLIES
    refine ⟨_, pss_cons (ps_if (PW.pt (pw_and (pt_cmpR op_ne (pv 1) (pe_k T.g_BEGIN) (nomark _)) (pw_and1 (pt_not (pt_val (pe_m0 (ok_begun T) hr (pv 0))))))) (pss_one (ps_ret (pe_lst (pa_cons (pe_k T.g_NOT_BEGUN) pa_nil)))) pss_nil)
      (pss_one (ps_ret (pe_callE (k := 9) (pe_ix ix_kint (pe_glob (v := .ref pR) rfl hR rfl) (pv 1) (fun _ _ => rfl)) hr (pa_cons (pv 0) (pa_cons (pv 2) pa_nil))))), ?_⟩
    refine q_when (et_and (et_test (ev_neN (b := 0) (ev_var rfl) ev_c)) fun _ => et_not (et_B (ev_meth (ev_var rfl) W.ins wF_has_begun ea_nil (begun_v W'.wr)))) (fun hb H1 e1 => ?_) (fun hb H1 e1 => ?_)
    · have hb : p ≠ 0 ∧ (deskOf st).world.m = 0 := by simpa using hb
      have hst : st = none := by
        cases st with
        | none => rfl
        | some d =>
          have h2 := (O d rfl).m2
          have h0 : d.world.m = 0 := hb.2
          omega
      subst hst
      rw [nStep_none ht hb.1] at R
      exact s_retL (el_one ev_c) fun q H2 hq e2 h2 => Res.same W' R q H2 (fresh_back e1 hq) (e1.trans e2) h2
    · have hst : p ≠ 0 → st ≠ none := by
        intro hp hs
        subst hs
        have hb : p = 0 ∨ 0 < (deskOf none).world.m := by
          rcases Bool.and_eq_false_iff.mp hb with h | h
          · left
            simpa using h
          · right
            simpa using h
        rcases hb with h | h
        · exact hp h
        · have h : 0 < 0 := h
          omega
      have hlt : p < repTab.length := ht.1
      obtain ⟨f', hf', hk⟩ := tab p repTab[p] (List.getElem?_eq_getElem hlt)
      obtain ⟨f2, fd, F, b, kp, g⟩ := u_all (P := P) (w := w) (base := base) T p repTab[p] (List.getElem?_eq_getElem hlt)
      have ef : f2 = f' := by
        have e := g.symm.trans hf'
        injection e with e
        injection e with e
      subst ef
      refine ⟨_, rfl, pR, p, f2, rfl, rfl, hk, f2, fd, _, _, rfl, F, b, kp, _, rfl, _, rfl, ?_⟩
      refine ⟨x, y, ld, le, lw, st, gs, rfl, W'.ex e1, O, hst, e1 _ _ hy, ht, fun H2 q ld' le' lw' W2 fr n1 n2 n3 hq h2 => ?_⟩
      have nw : ∀ {z}, New H1 ld le lw z → New H ld le lw z := fun {z} hz => by
        rcases hz with hz | hz | hz | hz
        · exact Or.inl hz
        · exact Or.inr (Or.inl hz)
        · exact Or.inr (Or.inr (Or.inl hz))
        · exact Or.inr (Or.inr (Or.inr (fresh_back e1 hz)))
      exact R H2 q ld' le' lw' W2 (fun b o hb' a1 a2 a3 a4 => fr b o (e1 _ _ hb') a1 a2 a3 a4) (nw n1) (nw n2) (nw n3) (fresh_back e1 hq) h2
end
end LC

namespace LC
open PySem PySem.Spec PyProof.Rows L2 Evl
theorem get_drop {ns r : List Nat} {place p : Nat} (h : ns.drop place = p :: r) : ns[place]? = some p ∧ r = ns.drop (place + 1) ∧ place < ns.length := by
  have h1 : ns[place]? = some p := by
    have := congrArg (fun l : List Nat => l[0]?) h
    simpa using this
  have h2 : ns.drop (place + 1) = r := by
    have := congrArg (fun l : List Nat => l.drop 1) h
    simpa using this
  exact ⟨h1, h2.symm, (List.getElem?_eq_some_iff.mp h1).1⟩
theorem lI_get {ns : List Nat} {i p : Nat} (h : ns[i]? = some p) : (lI ns)[i]? = some (nI p) := by
  rw [List.getElem?_map, h]
  rfl
theorem lI_take (l : List Nat) (n : Nat) : (lI l).take n = lI (l.take n) := (List.map_take).symm
theorem lI_drop (l : List Nat) (n : Nat) : (lI l).drop n = lI (l.drop n) := (List.map_drop).symm
theorem lI_app (a b : List Nat) : lI a ++ lI b = lI (a ++ b) := (List.map_append).symm
section
variable {P : Program} {w : World} {K : PySem.W.Frag} {mg : Str → Option Value} {base : Heap} {CR CA CE CW : Addr}
def spHasRow : Sp := fun vs H Q _ => ∃ p : Nat, vs = [nI p] ∧ RetV (.bl (decide (p = 16) || decide (p = 18))) H Q
theorem has_row_v {H : Hp} {p : Nat} : SpV spHasRow [nI p] H (.bl (decide (p = 16) || decide (p = 18))) := fun H1 e Q q E => ⟨p, rfl, q⟩
theorem ok_has_row (T : Top K mg CR CA CE CW) : GOk P w K mg base 1 "has_row" ["number"] spHasRow := by
  refine T.dHasRow.ok scHasRow (fun vs H Q E h => ?_) (fun _ _ _ _ _ _ us hl => match us, hl with | [_], _ => rfl) (fun f cdv A outer s H vs Q E hr h => ?_)
  · obtain ⟨p, rfl, _⟩ := h
    rfl
  · obtain ⟨p, rfl, k⟩ := h
    refine ⟨_, pss_one (ps_ret (pe_or (pe_cmpR op_eq (pv 0) (pe_k T.g_CHANGES) (nomark _)) (pe_one (pe_cmpR op_eq (pv 0) (pe_k T.g_PRICE) (nomark _))))), ?_⟩
    exact s_ret (ev_orV (ev_eqN (b := 16) (ev_var rfl) ev_c) fun _ => ev_eqN (b := 18) (ev_var rfl) ev_c) k
def spPlainEnd (K : PySem.W.Frag) : Sp := fun vs H Q _ => ∃ (c : Addr) (ns : List Nat) (place p : Nat), vs = [.ref c, nI place] ∧ SqL K H c (lI ns) ∧ ns[place]? = some p ∧ p < 21 ∧ RetV (nI (place + 1 + arity.getD p 0)) H Q
theorem plain_end_v {H : Hp} {c : Addr} {ns : List Nat} {place p : Nat} (hc : SqL K H c (lI ns)) (hp : ns[place]? = some p) (hl : p < 21) : SpV (spPlainEnd K) [.ref c, nI place] H (nI (place + 1 + arity.getD p 0)) := fun H1 e Q q E => ⟨c, ns, place, p, rfl, ex_l e hc, hp, hl, q⟩
theorem ok_plain_end (T : Top K mg CR CA CE CW) : GOk P w K mg base 1 "plain_end" ["calls", "place"] (spPlainEnd K) := by
  refine T.dPlainEnd.ok scPlainEnd (fun vs H Q E h => ?_) (fun _ _ _ _ _ _ us hl => match us, hl with | [_, _], _ => rfl) (fun f cdv A outer s H vs Q E hr h => ?_)
  · obtain ⟨c, ns, place, p, rfl, _⟩ := h
    rfl
  · obtain ⟨c, ns, place, p, rfl, hc, hp, hl, k⟩ := h
    obtain ⟨pP, hP, tab⟩ := T.g_PLAIN
    refine ⟨_, pss_one (ps_ret (pe_op op_add (pe_op op_add (pv 1) pe_int) (pe_ix ix_tup (pe_glob (v := .ref pP) rfl hP rfl) (pe_ix ix_list (pv 0) (pv 1) (fun _ _ => rfl)) (fun _ _ => rfl)))), ?_⟩
    have hget : (lI arity)[p]? = some (nI (arity.getD p 0)) := by
      have hl' : p < arity.length := hl
      rw [List.getElem?_map, List.getD_eq_getElem?_getD, List.getElem?_eq_getElem hl']
      rfl
    exact s_ret (ev_addN (ev_addN (b := 1) (ev_var rfl) ev_c) (ev_op ev_c (ev_op (ev_var rfl) (ev_var rfl) (rv_ixL (K := K) hc (atI_nat (lI_get hp)))) (rv_ixT (K := K) (tab H) (atI_nat hget)))) k
def spCallEnd (K : PySem.W.Frag) : Sp := fun vs H Q _ => ∃ (c : Addr) (ns r gs : List Nat) (cc : List (List Int)) (place p n : Nat), vs = [.ref c, nI place] ∧ SqL K H c (lI ns) ∧ ns.drop place = p :: r ∧ p < 21 ∧ OneCall p r gs cc n ∧ RetV (nI (place + 1 + n)) H Q
theorem call_end_v {H : Hp} {c : Addr} {ns r gs : List Nat} {cc : List (List Int)} {place p n : Nat} (hc : SqL K H c (lI ns)) (hp : ns.drop place = p :: r) (hl : p < 21) (o : OneCall p r gs cc n) : SpV (spCallEnd K) [.ref c, nI place] H (nI (place + 1 + n)) := fun H1 e Q q E => ⟨c, ns, r, gs, cc, place, p, n, rfl, ex_l e hc, hp, hl, o, q⟩
theorem ok_call_end (T : Top K mg CR CA CE CW) : GOk P w K mg base 2 "call_end" ["calls", "place"] (spCallEnd K) := by
  refine T.dCallEnd.ok scCallEnd (fun vs H Q E h => ?_) (fun _ _ _ _ _ _ us hl => match us, hl with | [_, _], _ => rfl) (fun f cdv A outer s H vs Q E hr h => ?_)
  · obtain ⟨c, ns, r, gs, cc, place, p, n, rfl, _⟩ := h
    rfl
  · obtain ⟨c, ns, r, gs, cc, place, p, n, rfl, hc, hp, hl, o, k⟩ := h
    obtain ⟨h1, h2, h3⟩ := get_drop hp
    refine ⟨_, pss_cons (ps_set (i := 2) scCallEnd.nd rfl (Or.inl rfl) (pe_g (ok_plain_end T) hr (pa_cons (pv 0) (pa_cons (pv 1) pa_nil))))
      (pss_cons (ps_if (pt_val (pe_g (ok_has_row T) hr (pa_cons (pe_ix ix_list (pv 0) (pv 1) (fun _ _ => rfl)) pa_nil))) (pss_one (ps_ret (pe_op op_add (pe_op op_add (pv 2) pe_int) (pe_ix ix_list (pv 0) (pv 2) (fun _ _ => rfl))))) pss_nil)
      (pss_one (ps_ret (pv 2)))), ?_⟩
    refine q_asg (evc (ea_cons (ev_var rfl) (ea_cons (ev_var rfl) ea_nil)) (plain_end_v hc h1 hl)) fun H1 e1 => ?_
    refine q_when (et_B (evc (ea_cons (ev_op (ev_var rfl) (ev_var rfl) (rv_ixL (K := K) (ex_l e1 hc) (atI_nat (lI_get h1)))) ea_nil) has_row_v)) (fun hb H2 e2 => ?_) (fun hb H2 e2 => ?_)
    · have hb : p = 16 ∨ p = 18 := by simpa using hb
      cases o with
      | plain hn _ => exact absurd hb hn
      | row _ hl2 m rest hd hm =>
        have hm2 : ns[place + 1 + arity.getD p 0]? = some m := by
          rw [h2, List.drop_drop] at hd
          exact (get_drop hd).1
        refine s_ret (ev_is (ev_addN (ev_addN (b := 1) (ev_var rfl) ev_c) (ev_op (ev_var rfl) (ev_var rfl) (rv_ixL (K := K) (ex_l (e1.trans e2) hc) (atI_nat (lI_get hm2))))) ?_) fun H3 e3 => k H3 ((e1.trans e2).trans e3)
        exact congrArg nI (by omega)
    · have hb : ¬ (p = 16 ∨ p = 18) := by simpa using hb
      cases o with
      | row hr _ => exact absurd hr hb
      | plain _ _ => exact s_ret (ev_var rfl) fun H3 e3 => k H3 ((e1.trans e2).trans e3)
def spGiven (K : PySem.W.Frag) : Sp := fun vs H Q _ => ∃ (c : Addr) (ns r gs : List Nat) (cc : List (List Int)) (place p n : Nat), vs = [.ref c, nI place] ∧ SqL K H c (lI ns) ∧ ns.length ≤ 1020 ∧ ns.drop place = p :: r ∧ p < 21 ∧ OneCall p r gs cc n ∧ RetL (lI gs) H Q
theorem given_l {H : Hp} {c : Addr} {ns r gs : List Nat} {cc : List (List Int)} {place p n : Nat} (hc : SqL K H c (lI ns)) (hn : ns.length ≤ 1020) (hp : ns.drop place = p :: r) (hl : p < 21) (o : OneCall p r gs cc n) : SpL (spGiven K) [.ref c, nI place] H (lI gs) := fun H1 e Q q E => ⟨c, ns, r, gs, cc, place, p, n, rfl, ex_l e hc, hn, hp, hl, o, q⟩
theorem ok_given (T : Top K mg CR CA CE CW) : GOk P w K mg base 3 "given_numbers" ["calls", "place"] (spGiven K) := by
  refine T.dGivenNumbers.ok scGivenNumbers (fun vs H Q E h => ?_) (fun _ _ _ _ _ _ us hl => match us, hl with | [_, _], _ => rfl) (fun f cdv A outer s H vs Q E hr h => ?_)
  · obtain ⟨c, ns, r, gs, cc, place, p, n, rfl, _⟩ := h
    rfl
  · obtain ⟨c, ns, r, gs, cc, place, p, n, rfl, hc, hns, hp, hl, o, k⟩ := h
    obtain ⟨h1, h2, h3⟩ := get_drop hp
    have oo := o
    refine ⟨_, pss_cons (ps_set (i := 2) scGivenNumbers.nd rfl (Or.inl rfl) (pe_g (ok_plain_end T) hr (pa_cons (pv 0) (pa_cons (pv 1) pa_nil))))
      (pss_cons (ps_set (i := 3) scGivenNumbers.nd rfl (Or.inl rfl) (pe_slice sl_list (pv 0) (po_some (pe_op op_add (pv 1) pe_int)) (po_some (pv 2))))
      (pss_cons (ps_if (pt_val (pe_g (ok_has_row T) hr (pa_cons (pe_ix ix_list (pv 0) (pv 1) (fun _ _ => rfl)) pa_nil)))
        (pss_one (ps_expr (pe_bm PySem.F.plainAttrs_list PySem.F.slot_list_extend PySem.F.type_list_extend mt_extend (pv 3) (pa_cons (pe_slice sl_list (pv 0) (po_some (pe_op op_add (pv 2) pe_int)) (po_some (pe_g (ok_call_end T) hr (pa_cons (pv 0) (pa_cons (pv 1) pa_nil))))) pa_nil)))) pss_nil)
      (pss_one (ps_ret (pv 3))))), ?_⟩
    refine q_asg (evc (ea_cons (ev_var rfl) (ea_cons (ev_var rfl) ea_nil)) (plain_end_v hc h1 hl)) fun H1 e1 => ?_
    have hcut : cutV (lI ns) (some ((place + 1 : Nat) : Int)) (some ((place + 1 + arity.getD p 0 : Nat) : Int)) = lI (r.take (arity.getD p 0)) := by
      rw [cut_mid _ (by rw [List.length_map]; omega), lI_drop, ← h2, lI_take, Nat.add_sub_cancel_left]
    refine q_asgL (el_is (el_sl (K := K) (ev_var rfl) (eo_some (ev_addN (b := 1) (ev_var rfl) ev_c)) (eo_some (ev_var rfl)) (ex_l e1 hc)) hcut) fun g H2 hg e2 h2' => ?_
    have e02 := e1.trans e2
    have hgH : H g = none := fresh_back e1 hg
    refine q_when (et_B (evc (ea_cons (ev_op (ev_var rfl) (ev_var rfl) (rv_ixL (K := K) (ex_l e02 hc) (atI_nat (lI_get h1)))) ea_nil) has_row_v)) (fun hb H3 e3 => ?_) (fun hb H3 e3 => ?_)
    · have hb : p = 16 ∨ p = 18 := by simpa using hb
      have e03 := e02.trans e3
      cases o with
      | plain hn _ => exact absurd hb hn
      | row _ hl2 m rest hd hm =>
        have hd2 : ns.drop (place + 1 + arity.getD p 0) = m :: rest := by
          rw [h2, List.drop_drop] at hd
          exact hd
        obtain ⟨g1, g2, g3⟩ := get_drop hd2
        have hcut2 : cutV (lI ns) (some ((place + 1 + arity.getD p 0 + 1 : Nat) : Int)) (some ((place + 1 + (arity.getD p 0 + 1 + m) : Nat) : Int)) = lI (rest.take m) := by
          rw [cut_mid _ (by rw [List.length_map]; omega), lI_drop, ← g2, lI_take]
          congr 2
          omega
        refine ⟨_, rfl, Or.inl ⟨rfl, _, sq_of (e3 _ _ h2')⟩, ?_⟩
        refine el_is (el_sl (K := K) (σ := [some (.ref c), some (nI place), some (nI (place + 1 + arity.getD p 0)), some (.ref g)]) (ev_var (i := 0) rfl) (eo_some (ev_addN (b := 1) (ev_var (i := 2) rfl) ev_c)) (eo_some (evc (ea_cons (ev_var (i := 0) rfl) (ea_cons (ev_var (i := 1) rfl) ea_nil)) (call_end_v (ex_l e03 hc) hp hl oo))) (ex_l e03 hc)) hcut2 H3 (Ex.refl _) _ fun q H4 hq e4 h4 => ?_
        have e04 := e03.trans e4
        have hg4 := e4 _ _ (e3 _ _ h2')
        refine ⟨g, q, _, _, rfl, rfl, hg4, h4, ?_, ?_⟩
        · rw [List.length_map, List.length_map, List.length_take, List.length_take]
          have hr1 : r.length ≤ 1020 := by
            rw [h2, List.length_drop]
            omega
          have hr2 : rest.length ≤ 1020 := by
            rw [g2, List.length_drop]
            omega
          exact Nat.le_trans (by omega : _ ≤ 5000) (by decide)
        · rw [lI_app]
          refine s_ret (σ := [some (.ref c), some (nI place), some (nI (place + 1 + arity.getD p 0)), some (.ref g)]) (ev_var (i := 3) rfl) fun H5 e5 => k g H5 hgH ((Ex.mut e04 hgH).trans e5) (e5 _ _ upd_same)
    · have hb : ¬ (p = 16 ∨ p = 18) := by simpa using hb
      cases o with
      | row hr _ => exact absurd hr hb
      | plain _ _ => exact s_ret (ev_var rfl) fun H4 e4 => k g H4 hgH ((e02.trans e3).trans e4) (e4 _ _ (e3 _ _ h2'))
/-! ### answers -/
abbrev ans (nn : List Nat) : List Int := PyKp372.answers (cI nn)
def spAnswers (K : PySem.W.Frag) : Sp := fun vs H Q _ => ∃ (c : Addr) (nn : List Nat), vs = [.ref c] ∧ SqL K H c (lI nn) ∧ nn.length ≤ 1020 ∧ PyKp372.answers_asked (cI nn) = true ∧ ∀ (H' : Hp) (p : Addr), H' p = some (.lst ((ans nn).map V.int)) → Q (.ref p) H'
theorem asked_parts {nn : List Nat} (h : PyKp372.answers_asked (cI nn) = true) : ∃ raw, PyFlat.calls PyKp372.shape (cI nn).length (cI nn) = some raw ∧ (∀ c ∈ raw, PyInside.call PyKp372.bound c = true) ∧ ans nn = PyFlat.told (PyFlat.played Kp372Neutral.step none (raw.map PyKp372.whole)) ∧ (ans nn).length ≤ 10000000 := by
  have h : (match PyFlat.calls PyKp372.shape (cI nn).length (cI nn) with
    | none => false
    | some raw => !raw.isEmpty && PyFlat.atMost 60 raw && PyInside.calls PyKp372.bound raw && Kp372Neutral.asked (raw.map PyKp372.whole) && PyFlat.short 10000000 (PyKp372.answers (cI nn))) = true := h
  cases hr : PyFlat.calls PyKp372.shape (cI nn).length (cI nn) with
  | none =>
    rw [hr] at h
    cases h
  | some raw =>
    rw [hr] at h
    simp only [Bool.and_eq_true] at h
    obtain ⟨⟨⟨⟨_, _⟩, h3⟩, _⟩, h5⟩ := h
    refine ⟨raw, rfl, fun c hc => List.all_eq_true.mp h3 c hc, ?_, of_decide_eq_true h5⟩
    unfold ans PyKp372.answers PyKp372.calls
    rw [hr]
    rfl
/-- the loop's word -/
structure LoopAt (K : PySem.W.Frag) (CR CW : Addr) (nn : List Nat) (H0 : Hp) (c x t : Addr) (place : Nat) (st : Option Kp372.Desk) (tl : List Int) (cs : List (List (List Int))) (ld le lw : Addr) (H' : Hp) : Prop where
  le_ : place ≤ nn.length
  ex : Ex H0 H'
  W : WL CR CW H' x ld le lw (deskOf st)
  O : OkSt st
  n1 : H0 ld = none
  n2 : H0 le = none
  n3 : H0 lw = none
  t1 : t ≠ ld
  t2 : t ≠ le
  t3 : t ≠ lw
  told : H' t = some (.lst (tl.map V.int))
  calls : ∃ f, PyFlat.calls PyKp372.shape f (cI (nn.drop place)) = some cs
  bound : ∀ c ∈ cs, PyInside.call PyKp372.bound c = true
  all : tl ++ PyFlat.told (PyFlat.played Kp372Neutral.step st (cs.map PyKp372.whole)) = ans nn
theorem answers_body (T : Top K mg CR CA CE CW) : Body P w K mg base 10 "answers" sAnswers ["calls", "world", "told", "place", "answer"] (spAnswers K) := by
  intro f cdv A outer s H vs Q E hr h
  obtain ⟨c, nn, rfl, hc, hn, hask, k⟩ := h
  obtain ⟨raw, hraw, hbound, hans, hsize⟩ := asked_parts hask
  refine ⟨_, pss_cons (ps_set (i := 1) scAnswers.nd rfl (Or.inl rfl) (pe_new0 (ok_world_init T) hr))
    (pss_cons (ps_set (i := 2) scAnswers.nd rfl (Or.inl rfl) (pe_lst pa_nil))
    (pss_cons (ps_set (i := 3) scAnswers.nd rfl (Or.inl rfl) pe_int)
    (pss_cons (ps_while PassesOwn.never (pt_cmpR op_lt (pv 3) (pe_callB call_len_seq (by rfl) T.b_len PySem.boot_len (pa_cons (pv 0) pa_nil)) (nomark _))
      (pss_cons (ps_set (i := 4) scAnswers.nd rfl (Or.inl rfl) (pe_g (ok_call T) hr (pa_cons (pv 1) (pa_cons (pe_ix ix_list (pv 0) (pv 3) (fun _ _ => rfl)) (pa_cons (pe_g (ok_given T) hr (pa_cons (pv 0) (pa_cons (pv 3) pa_nil))) pa_nil)))))
      (pss_cons (ps_expr (pe_bm PySem.F.plainAttrs_list PySem.F.slot_list_append PySem.F.type_list_append mt_append (pv 2) (pa_cons (pe_callB call_len_seq (by rfl) T.b_len PySem.boot_len (pa_cons (pv 4) pa_nil)) pa_nil)))
      (pss_cons (ps_expr (pe_bm PySem.F.plainAttrs_list PySem.F.slot_list_extend PySem.F.type_list_extend mt_extend (pv 2) (pa_cons (pv 4) pa_nil)))
      (pss_one (ps_set (i := 3) scAnswers.nd rfl (Or.inl rfl) (pe_g (ok_call_end T) hr (pa_cons (pv 0) (pa_cons (pv 3) pa_nil)))))))))
    (pss_one (ps_ret (pv 2)))))), ?_⟩
  -- world = World()
  intro x dx nx nd ne
  refine ⟨x, dx, rfl, upd_same, fun H1 ld le lw W1 n1 n2 n3 kp => ⟨rfl, ?_⟩⟩
  have e1 : Ex H H1 := fun b o hb => kp b o (by rw [upd_ne (ne_of_none hb nx), upd_ne (ne_of_none hb nd)]; exact hb) (ne_of_none hb nx)
  have n1 : H ld = none := upd_fresh (upd_fresh n1)
  have n2 : H le = none := upd_fresh (upd_fresh n2)
  have n3 : H lw = none := upd_fresh (upd_fresh n3)
  -- told = []
  refine ⟨Nat.zero_le _, fun t ht => ?_⟩
  have e2 : Ex H1 (upd H1 t (.lst [])) := Ex.new ht
  have htH : H t = none := fresh_back e1 ht
  obtain ⟨dx', ads, aes, WA1⟩ := id W1
  have tx : t ≠ x := fun z => by
    rw [z, WA1.ins] at ht
    cases ht
  have t1 : t ≠ ld := fun z => by
    rw [z, WA1.hld] at ht
    cases ht
  have t2 : t ≠ le := fun z => by
    rw [z, WA1.hle] at ht
    cases ht
  have t3 : t ≠ lw := fun z => by
    rw [z, WA1.hlw] at ht
    cases ht
  -- the loop
  show tSeq (tWhile _ _) _ _ _ _
  refine q_while (fun m σ H' => ∃ (place : Nat) (st : Option Kp372.Desk) (tl : List Int) (cs : List (List (List Int))) (ld le lw : Addr) (v4 : Option V), m = nn.length - place ∧ σ = [some (.ref c), some (.ref x), some (.ref t), some (nI place), v4] ∧ LoopAt K CR CW nn H c x t place st tl cs ld le lw H') nn.length
    ⟨0, none, [], raw, ld, le, lw, none, rfl, rfl, ⟨Nat.zero_le _, e1.trans e2, W1.ex e2, fun d z => (by cases z), n1, n2, n3, t1, t2, t3, upd_same, ⟨_, hraw⟩, hbound, hans.symm⟩⟩ ?_
  rintro m σ H' ⟨place, st, tl, cs, ld, le, lw, v4, rfl, rfl, L⟩
  refine ⟨decide (place < nn.length), et_test (ev_ltN (ev_var rfl) (ev_is (w := nI nn.length) (ev_len (K := K) (ev_var rfl) (ex_l L.ex hc)) (by rw [List.length_map]))), fun hb H2 e2' => ?_, fun hb H2 e2' => ?_⟩
  · have hb : place < nn.length := of_decide_eq_true hb
    refine ⟨fun σ2 H2 => ∃ m', m' < nn.length - place ∧ ∃ (place : Nat) (st : Option Kp372.Desk) (tl : List Int) (cs : List (List (List Int))) (ld le lw : Addr) (v4 : Option V), m' = nn.length - place ∧ σ2 = [some (.ref c), some (.ref x), some (.ref t), some (nI place), v4] ∧ LoopAt K CR CW nn H c x t place st tl cs ld le lw H2, fun σ2 H2 h => h, ?_⟩
    obtain ⟨p, r, hdrop⟩ : ∃ p r, nn.drop place = p :: r := by
      cases hd : nn.drop place with
      | nil =>
        have := congrArg List.length hd
        rw [List.length_drop] at this
        simp at this
        omega
      | cons p r => exact ⟨p, r, rfl⟩
    obtain ⟨g1, g2, g3⟩ := get_drop hdrop
    obtain ⟨fu, hcalls⟩ := L.calls
    rw [hdrop] at hcalls
    obtain ⟨hp, gs, cc, n, cs', fu', oc, rfl, hcalls', hnl⟩ := parse_one hcalls
    obtain ⟨htold, hwhole⟩ := one_told hp oc (L.bound cc (List.mem_cons_self ..))
    have e02 : Ex H H2 := L.ex.trans e2'
    have hc2 := ex_l e02 hc
    -- what is answered
    have hall := L.all
    have hplay : PyFlat.told (PyFlat.played Kp372Neutral.step st ((cc :: cs').map PyKp372.whole)) = (((nStep st p gs).2.length : Int) :: (nStep st p gs).2) ++ PyFlat.told (PyFlat.played Kp372Neutral.step (nStep st p gs).1 (cs'.map PyKp372.whole)) := by
      rw [List.map_cons, hwhole]
      rfl
    rw [hplay] at hall
    have hlen : tl.length + ((nStep st p gs).2.length + 1) ≤ 10000000 := by
      have := congrArg List.length hall
      rw [List.length_append, List.length_append, List.length_cons] at this
      omega
    -- answer = answer_call(..)
    refine ⟨_, rfl, ?_⟩
    refine ev_op (σ := [some (.ref c), some (.ref x), some (.ref t), some (nI place), v4]) (ev_var (i := 0) rfl) (ev_var (i := 3) rfl) (rv_ixL (K := K) hc2 (atI_nat (lI_get g1))) H2 (Ex.refl _) _ fun H3 e3 => ?_
    refine elc (σ := [some (.ref c), some (.ref x), some (.ref t), some (nI place), v4]) (ea_cons (ev_var (i := 0) rfl) (ea_cons (ev_var (i := 3) rfl) ea_nil)) (given_l (ex_l e3 hc2) hn hdrop hp oc) H3 (Ex.refl _) _ fun y H4 hy e4 h4 => ?_
    have e24 : Ex H' H4 := (e2'.trans e3).trans e4
    refine ⟨x, y, ld, le, lw, st, p, gs, rfl, L.W.ex e24, L.O, h4, htold, ?_⟩
    intro H5 q ld' le' lw' W5 fr w1 w2 w3 hq h5
    have e04 : Ex H H4 := L.ex.trans e24
    have xnone : H x = none := nx
    have e05 : Ex H H5 := fun b o hb' => fr b o (e04 b o hb') (ne_of_none hb' xnone) (ne_of_none hb' L.n1) (ne_of_none hb' L.n2) (ne_of_none hb' L.n3)
    have ht4 : H4 t = some (.lst (tl.map V.int)) := e24 _ _ L.told
    have ht5 : H5 t = some (.lst (tl.map V.int)) := fr t _ ht4 tx L.t1 L.t2 L.t3
    have tq : t ≠ q := ne_of_none ht4 hq
    have nw : ∀ {z}, New H4 ld le lw z → H z = none ∧ t ≠ z := fun {z} hz => by
      rcases hz with hz | hz | hz | hz
      · rw [hz]
        exact ⟨L.n1, L.t1⟩
      · rw [hz]
        exact ⟨L.n2, L.t2⟩
      · rw [hz]
        exact ⟨L.n3, L.t3⟩
      · exact ⟨fresh_back e04 hz, ne_of_none ht4 hz⟩
    obtain ⟨dx5, ads5, aes5, WA5⟩ := id W5
    -- told.append(len(answer))
    refine ⟨_, rfl, Or.inl ⟨rfl, _, sq_of ht5⟩, ?_⟩
    refine ⟨_, rfl, q, _, rfl, Or.inl (sq_of h5), t, _, _, rfl, rfl, ht5, ?_, ?_⟩
    · rw [List.length_map]
      exact Nat.lt_of_le_of_lt (by omega : tl.length ≤ 10000000) (by decide)
    -- told.extend(answer)
    refine ⟨_, rfl, Or.inl ⟨rfl, _, sq_of upd_same⟩, _, rfl, t, q, _, _, rfl, rfl, upd_same, (by rw [upd_ne (Ne.symm tq)]; exact h5), ?_, ?_⟩
    · rw [List.length_append, List.length_map, List.length_map]
      show tl.length + 1 + (nStep st p gs).2.length ≤ sizeLine
      exact Nat.le_trans (by omega : _ ≤ 10000000) (by decide)
    rw [upd_upd]
    have hsum : List.map V.int tl ++ [V.int ((List.map V.int (nStep st p gs).2).length : Nat)] ++ List.map V.int (nStep st p gs).2 = List.map V.int (tl ++ (((nStep st p gs).2.length : Int) :: (nStep st p gs).2)) := by
      rw [List.length_map, List.map_append, List.map_cons, List.append_assoc]
      rfl
    rw [hsum]
    have e06 : Ex H (upd H5 t (.lst (List.map V.int (tl ++ (((nStep st p gs).2.length : Int) :: (nStep st p gs).2))))) := Ex.mut e05 htH
    -- place = call_end(..)
    refine s_asg (σ := [some (.ref c), some (.ref x), some (.ref t), some (nI place), some (.ref q)]) (evc (ea_cons (ev_var (i := 0) rfl) (ea_cons (ev_var (i := 3) rfl) ea_nil)) (call_end_v (ex_l e06 hc) hdrop hp oc)) fun H7 e7 => ?_
    have hr2 : r.length = nn.length - (place + 1) := by rw [g2, List.length_drop]
    refine ⟨nn.length - (place + 1 + n), by omega, place + 1 + n, (nStep st p gs).1, _, cs', ld', le', lw', some (.ref q), rfl, rfl, ⟨by omega, e06.trans e7, ?_, nStep_ok L.O htold, (nw w1).1, (nw w2).1, (nw w3).1, (nw w1).2, (nw w2).2, (nw w3).2, e7 _ _ upd_same, ⟨fu', ?_⟩, fun z hz => L.bound z (List.mem_cons_of_mem _ hz), ?_⟩⟩
    · refine WL.ex e7 ⟨dx5, ads5, aes5, ?_⟩
      have k5 : ∀ b o, H5 b = some o → b ≠ t → upd H5 t (.lst (List.map V.int (tl ++ (((nStep st p gs).2.length : Int) :: (nStep st p gs).2)))) b = some o := fun b o hb' hbt => by
        rw [upd_ne hbt]
        exact hb'
      have kr : ∀ b C dx' fs, H5 b = some (.ins C dx' fs) → C = CR → upd H5 t (.lst (List.map V.int (tl ++ (((nStep st p gs).2.length : Int) :: (nStep st p gs).2)))) b = some (.ins C dx' fs) := fun b C dx' fs hb' _ => k5 _ _ hb' (ne_of hb' ht5 (by intro z; cases z))
      exact ⟨k5 _ _ WA5.ins (Ne.symm tx), k5 _ _ WA5.hld (Ne.symm (nw w1).2), WA5.rd.keep kr, k5 _ _ WA5.hle (Ne.symm (nw w2).2), WA5.re.keep kr, k5 _ _ WA5.hlw (Ne.symm (nw w3).2), WA5.n1, WA5.n2, WA5.n3⟩
    · have e8 : nn.drop (place + 1 + n) = r.drop n := by rw [g2, List.drop_drop]
      rw [e8]
      exact hcalls'
    · rw [List.append_assoc]
      exact hall
  · have hb := of_decide_eq_false hb
    have hpl : place = nn.length := by
      have := L.le_
      omega
    obtain ⟨fu, hcalls⟩ := L.calls
    rw [hpl, List.drop_length] at hcalls
    have hcs : cs = [] := by
      have h : PyFlat.calls PyKp372.shape fu [] = some cs := hcalls
      have h2 : PyFlat.calls PyKp372.shape fu [] = some [] := by cases fu <;> rfl
      rw [h2] at h
      exact (Option.some.inj h).symm
    subst hcs
    have hall := L.all
    have hall : tl = ans nn := by
      rw [← hall]
      exact (List.append_nil tl).symm
    refine s_ret (ev_var rfl) fun H3 e3 => k H3 t ?_
    rw [← hall]
    exact e3 _ _ (e2' _ _ L.told)
end
end LC

namespace LC
open PySem PySem.Spec PyProof.Rows L2 Evl

theorem rep_keys {w0 w1 w2 w3 w4 w5 w6 w7 w8 w9 w10 w11 w12 w13 w14 w15 w16 w17 w18 w19 w20 : Tok} {h0 h1 h2 h3 h4 h5 h6 h7 h8 h9 h10 h11 h12 h13 h14 h15 h16 h17 h18 h19 h20 : Addr} : ∀ e ∈ (#[⟨0, .int 0 w0, .ref h0⟩, ⟨1, .int 1 w1, .ref h1⟩, ⟨2, .int 2 w2, .ref h2⟩, ⟨3, .int 3 w3, .ref h3⟩, ⟨4, .int 4 w4, .ref h4⟩, ⟨5, .int 5 w5, .ref h5⟩, ⟨6, .int 6 w6, .ref h6⟩, ⟨7, .int 7 w7, .ref h7⟩, ⟨8, .int 8 w8, .ref h8⟩, ⟨9, .int 9 w9, .ref h9⟩, ⟨10, .int 10 w10, .ref h10⟩, ⟨11, .int 11 w11, .ref h11⟩, ⟨12, .int 12 w12, .ref h12⟩, ⟨13, .int 13 w13, .ref h13⟩, ⟨14, .int 14 w14, .ref h14⟩, ⟨15, .int 15 w15, .ref h15⟩, ⟨16, .int 16 w16, .ref h16⟩, ⟨17, .int 17 w17, .ref h17⟩, ⟨18, .int 18 w18, .ref h18⟩, ⟨19, .int 19 w19, .ref h19⟩, ⟨20, .int 20 w20, .ref h20⟩] : Array DictEntry).toList, ∃ j t, e.key = Value.int j t ∧ e.hash = hashInt j := by
  intro e he
  have he : e ∈ [(⟨0, .int 0 w0, .ref h0⟩ : DictEntry), ⟨1, .int 1 w1, .ref h1⟩, ⟨2, .int 2 w2, .ref h2⟩, ⟨3, .int 3 w3, .ref h3⟩, ⟨4, .int 4 w4, .ref h4⟩, ⟨5, .int 5 w5, .ref h5⟩, ⟨6, .int 6 w6, .ref h6⟩, ⟨7, .int 7 w7, .ref h7⟩, ⟨8, .int 8 w8, .ref h8⟩, ⟨9, .int 9 w9, .ref h9⟩, ⟨10, .int 10 w10, .ref h10⟩, ⟨11, .int 11 w11, .ref h11⟩, ⟨12, .int 12 w12, .ref h12⟩, ⟨13, .int 13 w13, .ref h13⟩, ⟨14, .int 14 w14, .ref h14⟩, ⟨15, .int 15 w15, .ref h15⟩, ⟨16, .int 16 w16, .ref h16⟩, ⟨17, .int 17 w17, .ref h17⟩, ⟨18, .int 18 w18, .ref h18⟩, ⟨19, .int 19 w19, .ref h19⟩, ⟨20, .int 20 w20, .ref h20⟩] := he
  simp only [List.mem_cons, List.mem_nil_iff, or_false] at he
  rcases he with rfl | rfl | rfl | rfl | rfl | rfl | rfl | rfl | rfl | rfl | rfl | rfl | rfl | rfl | rfl | rfl | rfl | rfl | rfl | rfl | rfl
  · exact ⟨0, w0, rfl, by show (0 : Int) = hashInt 0; decide⟩
  · exact ⟨1, w1, rfl, by show (1 : Int) = hashInt 1; decide⟩
  · exact ⟨2, w2, rfl, by show (2 : Int) = hashInt 2; decide⟩
  · exact ⟨3, w3, rfl, by show (3 : Int) = hashInt 3; decide⟩
  · exact ⟨4, w4, rfl, by show (4 : Int) = hashInt 4; decide⟩
  · exact ⟨5, w5, rfl, by show (5 : Int) = hashInt 5; decide⟩
  · exact ⟨6, w6, rfl, by show (6 : Int) = hashInt 6; decide⟩
  · exact ⟨7, w7, rfl, by show (7 : Int) = hashInt 7; decide⟩
  · exact ⟨8, w8, rfl, by show (8 : Int) = hashInt 8; decide⟩
  · exact ⟨9, w9, rfl, by show (9 : Int) = hashInt 9; decide⟩
  · exact ⟨10, w10, rfl, by show (10 : Int) = hashInt 10; decide⟩
  · exact ⟨11, w11, rfl, by show (11 : Int) = hashInt 11; decide⟩
  · exact ⟨12, w12, rfl, by show (12 : Int) = hashInt 12; decide⟩
  · exact ⟨13, w13, rfl, by show (13 : Int) = hashInt 13; decide⟩
  · exact ⟨14, w14, rfl, by show (14 : Int) = hashInt 14; decide⟩
  · exact ⟨15, w15, rfl, by show (15 : Int) = hashInt 15; decide⟩
  · exact ⟨16, w16, rfl, by show (16 : Int) = hashInt 16; decide⟩
  · exact ⟨17, w17, rfl, by show (17 : Int) = hashInt 17; decide⟩
  · exact ⟨18, w18, rfl, by show (18 : Int) = hashInt 18; decide⟩
  · exact ⟨19, w19, rfl, by show (19 : Int) = hashInt 19; decide⟩
  · exact ⟨20, w20, rfl, by show (20 : Int) = hashInt 20; decide⟩
theorem rep_mk {K : PySem.W.Frag} {h : Heap} {mg : Str → Option Value} {pR h0 h1 h2 h3 h4 h5 h6 h7 h8 h9 h10 h11 h12 h13 h14 h15 h16 h17 h18 h19 h20 : Addr} {w0 w1 w2 w3 w4 w5 w6 w7 w8 w9 w10 w11 w12 w13 w14 w15 w16 w17 w18 w19 w20 : Tok} {nR : Nat} (X : K.In h) (G : h.Ns mainGlobals mg)
    (lR : K.lookup pR = some ⟨.type "dict", none, .dict #[⟨0, .int 0 w0, .ref h0⟩, ⟨1, .int 1 w1, .ref h1⟩, ⟨2, .int 2 w2, .ref h2⟩, ⟨3, .int 3 w3, .ref h3⟩, ⟨4, .int 4 w4, .ref h4⟩, ⟨5, .int 5 w5, .ref h5⟩, ⟨6, .int 6 w6, .ref h6⟩, ⟨7, .int 7 w7, .ref h7⟩, ⟨8, .int 8 w8, .ref h8⟩, ⟨9, .int 9 w9, .ref h9⟩, ⟨10, .int 10 w10, .ref h10⟩, ⟨11, .int 11 w11, .ref h11⟩, ⟨12, .int 12 w12, .ref h12⟩, ⟨13, .int 13 w13, .ref h13⟩, ⟨14, .int 14 w14, .ref h14⟩, ⟨15, .int 15 w15, .ref h15⟩, ⟨16, .int 16 w16, .ref h16⟩, ⟨17, .int 17 w17, .ref h17⟩, ⟨18, .int 18 w18, .ref h18⟩, ⟨19, .int 19 w19, .ref h19⟩, ⟨20, .int 20 w20, .ref h20⟩] nR, #[]⟩) (e0 : PySem.W.nsIn K mainGlobals "answer_begin" = some (some (.ref h0))) (e1 : PySem.W.nsIn K mainGlobals "answer_deed" = some (some (.ref h1))) (e2 : PySem.W.nsIn K mainGlobals "answer_event" = some (some (.ref h2))) (e3 : PySem.W.nsIn K mainGlobals "answer_undeed" = some (some (.ref h3))) (e4 : PySem.W.nsIn K mainGlobals "answer_unevent" = some (some (.ref h4))) (e5 : PySem.W.nsIn K mainGlobals "answer_set" = some (some (.ref h5))) (e6 : PySem.W.nsIn K mainGlobals "answer_now" = some (some (.ref h6))) (e7 : PySem.W.nsIn K mainGlobals "answer_do" = some (some (.ref h7))) (e8 : PySem.W.nsIn K mainGlobals "answer_weight" = some (some (.ref h8))) (e9 : PySem.W.nsIn K mainGlobals "answer_weights" = some (some (.ref h9))) (e10 : PySem.W.nsIn K mainGlobals "answer_base" = some (some (.ref h10))) (e11 : PySem.W.nsIn K mainGlobals "answer_least" = some (some (.ref h11))) (e12 : PySem.W.nsIn K mainGlobals "answer_row" = some (some (.ref h12))) (e13 : PySem.W.nsIn K mainGlobals "answer_costs" = some (some (.ref h13))) (e14 : PySem.W.nsIn K mainGlobals "answer_guarded" = some (some (.ref h14))) (e15 : PySem.W.nsIn K mainGlobals "answer_guardrow" = some (some (.ref h15))) (e16 : PySem.W.nsIn K mainGlobals "answer_changes" = some (some (.ref h16))) (e17 : PySem.W.nsIn K mainGlobals "answer_touches" = some (some (.ref h17))) (e18 : PySem.W.nsIn K mainGlobals "answer_price" = some (some (.ref h18))) (e19 : PySem.W.nsIn K mainGlobals "answer_free" = some (some (.ref h19))) (e20 : PySem.W.nsIn K mainGlobals "answer_firstfree" = some (some (.ref h20))) :
    ∀ (i : Nat) (x : Str), repTab[i]? = some x → ∃ f, mg x = some (.ref f) ∧ KInt K pR i f
  | 0, _, hx => (Option.some.inj hx) ▸ ⟨h0, PySem.W.mg_of X G e0, _, nR, lR, rep_keys, rfl⟩
  | 1, _, hx => (Option.some.inj hx) ▸ ⟨h1, PySem.W.mg_of X G e1, _, nR, lR, rep_keys, rfl⟩
  | 2, _, hx => (Option.some.inj hx) ▸ ⟨h2, PySem.W.mg_of X G e2, _, nR, lR, rep_keys, rfl⟩
  | 3, _, hx => (Option.some.inj hx) ▸ ⟨h3, PySem.W.mg_of X G e3, _, nR, lR, rep_keys, rfl⟩
  | 4, _, hx => (Option.some.inj hx) ▸ ⟨h4, PySem.W.mg_of X G e4, _, nR, lR, rep_keys, rfl⟩
  | 5, _, hx => (Option.some.inj hx) ▸ ⟨h5, PySem.W.mg_of X G e5, _, nR, lR, rep_keys, rfl⟩
  | 6, _, hx => (Option.some.inj hx) ▸ ⟨h6, PySem.W.mg_of X G e6, _, nR, lR, rep_keys, rfl⟩
  | 7, _, hx => (Option.some.inj hx) ▸ ⟨h7, PySem.W.mg_of X G e7, _, nR, lR, rep_keys, rfl⟩
  | 8, _, hx => (Option.some.inj hx) ▸ ⟨h8, PySem.W.mg_of X G e8, _, nR, lR, rep_keys, rfl⟩
  | 9, _, hx => (Option.some.inj hx) ▸ ⟨h9, PySem.W.mg_of X G e9, _, nR, lR, rep_keys, rfl⟩
  | 10, _, hx => (Option.some.inj hx) ▸ ⟨h10, PySem.W.mg_of X G e10, _, nR, lR, rep_keys, rfl⟩
  | 11, _, hx => (Option.some.inj hx) ▸ ⟨h11, PySem.W.mg_of X G e11, _, nR, lR, rep_keys, rfl⟩
  | 12, _, hx => (Option.some.inj hx) ▸ ⟨h12, PySem.W.mg_of X G e12, _, nR, lR, rep_keys, rfl⟩
  | 13, _, hx => (Option.some.inj hx) ▸ ⟨h13, PySem.W.mg_of X G e13, _, nR, lR, rep_keys, rfl⟩
  | 14, _, hx => (Option.some.inj hx) ▸ ⟨h14, PySem.W.mg_of X G e14, _, nR, lR, rep_keys, rfl⟩
  | 15, _, hx => (Option.some.inj hx) ▸ ⟨h15, PySem.W.mg_of X G e15, _, nR, lR, rep_keys, rfl⟩
  | 16, _, hx => (Option.some.inj hx) ▸ ⟨h16, PySem.W.mg_of X G e16, _, nR, lR, rep_keys, rfl⟩
  | 17, _, hx => (Option.some.inj hx) ▸ ⟨h17, PySem.W.mg_of X G e17, _, nR, lR, rep_keys, rfl⟩
  | 18, _, hx => (Option.some.inj hx) ▸ ⟨h18, PySem.W.mg_of X G e18, _, nR, lR, rep_keys, rfl⟩
  | 19, _, hx => (Option.some.inj hx) ▸ ⟨h19, PySem.W.mg_of X G e19, _, nR, lR, rep_keys, rfl⟩
  | 20, _, hx => (Option.some.inj hx) ▸ ⟨h20, PySem.W.mg_of X G e20, _, nR, lR, rep_keys, rfl⟩
  | n + 21, _, hx => by
    have := (List.getElem?_eq_some_iff.mp hx).1
    have e : repTab.length = 21 := rfl
    omega
theorem top_mk {K : PySem.W.Frag} {h : Heap} {mg : Str → Option Value} {CR CA CE CW pP pR f0 f1 f2 f3 f4 f5 f6 f7 f8 f9 f10 f11 f12 f13 f14 f15 f16 f17 f18 f19 f20 f21 f22 f23 f24 f25 f26 f27 f28 f29 f30 f31 f32 f33 f34 f35 f36 f37 f38 f39 f40 f41 f42 f43 f44 f45 f46 f47 f48 f49 f50 f51 f52 f53 f54 f55 f56 f57 f58 f59 f60 f61 f62 f63 f64 : Addr} (X : K.In h) (G : h.Ns mainGlobals mg)
    {od0 an0 : Option Addr} {sl0 : Array (Option Value)} {oc0 kV0 dc0 pm0 cd0 ct0 : Value}
    {od1 an1 : Option Addr} {sl1 : Array (Option Value)} {oc1 kV1 dc1 pm1 cd1 ct1 : Value}
    {od2 an2 : Option Addr} {sl2 : Array (Option Value)} {oc2 kV2 dc2 pm2 cd2 ct2 : Value}
    {od3 an3 : Option Addr} {sl3 : Array (Option Value)} {oc3 kV3 dc3 pm3 cd3 ct3 : Value}
    {od4 an4 : Option Addr} {sl4 : Array (Option Value)} {oc4 kV4 dc4 pm4 cd4 ct4 : Value}
    {od5 an5 : Option Addr} {sl5 : Array (Option Value)} {oc5 kV5 dc5 pm5 cd5 ct5 : Value}
    {od6 an6 : Option Addr} {sl6 : Array (Option Value)} {oc6 kV6 dc6 pm6 cd6 ct6 : Value}
    {od7 an7 : Option Addr} {sl7 : Array (Option Value)} {oc7 kV7 dc7 pm7 cd7 ct7 : Value}
    {od8 an8 : Option Addr} {sl8 : Array (Option Value)} {oc8 kV8 dc8 pm8 cd8 ct8 : Value}
    {od9 an9 : Option Addr} {sl9 : Array (Option Value)} {oc9 kV9 dc9 pm9 cd9 ct9 : Value}
    {od10 an10 : Option Addr} {sl10 : Array (Option Value)} {oc10 kV10 dc10 pm10 cd10 ct10 : Value}
    {od11 an11 : Option Addr} {sl11 : Array (Option Value)} {oc11 kV11 dc11 pm11 cd11 ct11 : Value}
    {od12 an12 : Option Addr} {sl12 : Array (Option Value)} {oc12 kV12 dc12 pm12 cd12 ct12 : Value}
    {od13 an13 : Option Addr} {sl13 : Array (Option Value)} {oc13 kV13 dc13 pm13 cd13 ct13 : Value}
    {od14 an14 : Option Addr} {sl14 : Array (Option Value)} {oc14 kV14 dc14 pm14 cd14 ct14 : Value}
    {od15 an15 : Option Addr} {sl15 : Array (Option Value)} {oc15 kV15 dc15 pm15 cd15 ct15 : Value}
    {od16 an16 : Option Addr} {sl16 : Array (Option Value)} {oc16 kV16 dc16 pm16 cd16 ct16 : Value}
    {od17 an17 : Option Addr} {sl17 : Array (Option Value)} {oc17 kV17 dc17 pm17 cd17 ct17 : Value}
    {od18 an18 : Option Addr} {sl18 : Array (Option Value)} {oc18 kV18 dc18 pm18 cd18 ct18 : Value}
    {od19 an19 : Option Addr} {sl19 : Array (Option Value)} {oc19 kV19 dc19 pm19 cd19 ct19 : Value}
    {od20 an20 : Option Addr} {sl20 : Array (Option Value)} {oc20 kV20 dc20 pm20 cd20 ct20 : Value}
    {od21 an21 : Option Addr} {sl21 : Array (Option Value)} {oc21 kV21 dc21 pm21 cd21 ct21 : Value}
    {od22 an22 : Option Addr} {sl22 : Array (Option Value)} {oc22 kV22 dc22 pm22 cd22 ct22 : Value}
    {od23 an23 : Option Addr} {sl23 : Array (Option Value)} {oc23 kV23 dc23 pm23 cd23 ct23 : Value}
    {od24 an24 : Option Addr} {sl24 : Array (Option Value)} {oc24 kV24 dc24 pm24 cd24 ct24 : Value}
    {od25 an25 : Option Addr} {sl25 : Array (Option Value)} {oc25 kV25 dc25 pm25 cd25 ct25 : Value}
    {od26 an26 : Option Addr} {sl26 : Array (Option Value)} {oc26 kV26 dc26 pm26 cd26 ct26 : Value}
    {od27 an27 : Option Addr} {sl27 : Array (Option Value)} {oc27 kV27 dc27 pm27 cd27 ct27 : Value}
    {od28 an28 : Option Addr} {sl28 : Array (Option Value)} {oc28 kV28 dc28 pm28 cd28 ct28 : Value}
    {od29 an29 : Option Addr} {sl29 : Array (Option Value)} {oc29 kV29 dc29 pm29 cd29 ct29 : Value}
    {od30 an30 : Option Addr} {sl30 : Array (Option Value)} {oc30 kV30 dc30 pm30 cd30 ct30 : Value}
    {od31 an31 : Option Addr} {sl31 : Array (Option Value)} {oc31 kV31 dc31 pm31 cd31 ct31 : Value}
    {od32 an32 : Option Addr} {sl32 : Array (Option Value)} {oc32 kV32 dc32 pm32 cd32 ct32 : Value}
    {od33 an33 : Option Addr} {sl33 : Array (Option Value)} {oc33 kV33 dc33 pm33 cd33 ct33 : Value}
    {od34 an34 : Option Addr} {sl34 : Array (Option Value)} {oc34 kV34 dc34 pm34 cd34 ct34 : Value}
    {od35 an35 : Option Addr} {sl35 : Array (Option Value)} {oc35 kV35 dc35 pm35 cd35 ct35 : Value}
    {od36 an36 : Option Addr} {sl36 : Array (Option Value)} {oc36 kV36 dc36 pm36 cd36 ct36 : Value}
    {od37 an37 : Option Addr} {sl37 : Array (Option Value)} {oc37 kV37 dc37 pm37 cd37 ct37 : Value}
    {od38 an38 : Option Addr} {sl38 : Array (Option Value)} {oc38 kV38 dc38 pm38 cd38 ct38 : Value}
    {od39 an39 : Option Addr} {sl39 : Array (Option Value)} {oc39 kV39 dc39 pm39 cd39 ct39 : Value}
    {od40 an40 : Option Addr} {sl40 : Array (Option Value)} {oc40 kV40 dc40 pm40 cd40 ct40 : Value}
    {od41 an41 : Option Addr} {sl41 : Array (Option Value)} {oc41 kV41 dc41 pm41 cd41 ct41 : Value}
    {od42 an42 : Option Addr} {sl42 : Array (Option Value)} {oc42 kV42 dc42 pm42 cd42 ct42 : Value}
    {od43 an43 : Option Addr} {sl43 : Array (Option Value)} {oc43 kV43 dc43 pm43 cd43 ct43 : Value}
    {od44 an44 : Option Addr} {sl44 : Array (Option Value)} {oc44 kV44 dc44 pm44 cd44 ct44 : Value}
    {od45 an45 : Option Addr} {sl45 : Array (Option Value)} {oc45 kV45 dc45 pm45 cd45 ct45 : Value}
    {od46 an46 : Option Addr} {sl46 : Array (Option Value)} {oc46 kV46 dc46 pm46 cd46 ct46 : Value}
    {od47 an47 : Option Addr} {sl47 : Array (Option Value)} {oc47 kV47 dc47 pm47 cd47 ct47 : Value}
    {od48 an48 : Option Addr} {sl48 : Array (Option Value)} {oc48 kV48 dc48 pm48 cd48 ct48 : Value}
    {od49 an49 : Option Addr} {sl49 : Array (Option Value)} {oc49 kV49 dc49 pm49 cd49 ct49 : Value}
    {od50 an50 : Option Addr} {sl50 : Array (Option Value)} {oc50 kV50 dc50 pm50 cd50 ct50 : Value}
    {od51 an51 : Option Addr} {sl51 : Array (Option Value)} {oc51 kV51 dc51 pm51 cd51 ct51 : Value}
    {od52 an52 : Option Addr} {sl52 : Array (Option Value)} {oc52 kV52 dc52 pm52 cd52 ct52 : Value}
    {od53 an53 : Option Addr} {sl53 : Array (Option Value)} {oc53 kV53 dc53 pm53 cd53 ct53 : Value}
    {od54 an54 : Option Addr} {sl54 : Array (Option Value)} {oc54 kV54 dc54 pm54 cd54 ct54 : Value}
    {od55 an55 : Option Addr} {sl55 : Array (Option Value)} {oc55 kV55 dc55 pm55 cd55 ct55 : Value}
    {od56 an56 : Option Addr} {sl56 : Array (Option Value)} {oc56 kV56 dc56 pm56 cd56 ct56 : Value}
    {od57 an57 : Option Addr} {sl57 : Array (Option Value)} {oc57 kV57 dc57 pm57 cd57 ct57 : Value}
    {od58 an58 : Option Addr} {sl58 : Array (Option Value)} {oc58 kV58 dc58 pm58 cd58 ct58 : Value}
    {od59 an59 : Option Addr} {sl59 : Array (Option Value)} {oc59 kV59 dc59 pm59 cd59 ct59 : Value}
    {od60 an60 : Option Addr} {sl60 : Array (Option Value)} {oc60 kV60 dc60 pm60 cd60 ct60 : Value}
    {od61 an61 : Option Addr} {sl61 : Array (Option Value)} {oc61 kV61 dc61 pm61 cd61 ct61 : Value}
    {od62 an62 : Option Addr} {sl62 : Array (Option Value)} {oc62 kV62 dc62 pm62 cd62 ct62 : Value}
    {od63 an63 : Option Addr} {sl63 : Array (Option Value)} {oc63 kV63 dc63 pm63 cd63 ct63 : Value}
    {od64 an64 : Option Addr} {sl64 : Array (Option Value)} {oc64 kV64 dc64 pm64 cd64 ct64 : Value}
    {u0 u1 u2 u3 u4 u5 u6 u7 u8 u9 u10 u11 u12 u13 u14 u15 u16 u17 u18 u19 u20 w0 w1 w2 w3 w4 w5 w6 w7 w8 w9 w10 w11 w12 w13 w14 w15 w16 w17 w18 w19 w20 : Tok} {nP nR : Nat} {odP : Option Addr} {slP : Array (Option Value)}
    {z0 z1 z2 z3 z4 z5 z6 z7 z8 z9 z10 z11 z12 z13 z14 z15 z16 z17 : Tok}
    (aRule : PySem.W.nsIn K mainGlobals "Rule" = some (some (.ref CR)))
    (aAim : PySem.W.nsIn K mainGlobals "Aim" = some (some (.ref CA)))
    (aEnding : PySem.W.nsIn K mainGlobals "Ending" = some (some (.ref CE)))
    (aWorld : PySem.W.nsIn K mainGlobals "World" = some (some (.ref CW)))
    (pgRule : PySem.W.plainGet K CR Str.empty = true)
    (hdRule : PySem.W.hasDictIn K CR = true)
    (poRule : PySem.W.plainOver K CR = true)
    (saRule : PySem.W.findIn K (.ref CR) "__setattr__" = some (some (.builtin "object.__setattr__")))
    (mkRule : PySem.W.makesIn K CR = true)
    (kcRule : PySem.W.keepIn K (.ref CR) = true)
    (nRule_needs : PySem.W.findIn K (.ref CR) "needs" = some none)
    (nRule_needs_so : PySem.W.findIn K (.ref CR) "needs_so" = some none)
    (nRule_makes : PySem.W.findIn K (.ref CR) "makes" = some none)
    (nRule_makes_so : PySem.W.findIn K (.ref CR) "makes_so" = some none)
    (pgAim : PySem.W.plainGet K CA Str.empty = true)
    (hdAim : PySem.W.hasDictIn K CA = true)
    (poAim : PySem.W.plainOver K CA = true)
    (saAim : PySem.W.findIn K (.ref CA) "__setattr__" = some (some (.builtin "object.__setattr__")))
    (mkAim : PySem.W.makesIn K CA = true)
    (kcAim : PySem.W.keepIn K (.ref CA) = true)
    (nAim_facts : PySem.W.findIn K (.ref CA) "facts" = some none)
    (nAim_wanted : PySem.W.findIn K (.ref CA) "wanted" = some none)
    (pgEnding : PySem.W.plainGet K CE Str.empty = true)
    (hdEnding : PySem.W.hasDictIn K CE = true)
    (poEnding : PySem.W.plainOver K CE = true)
    (saEnding : PySem.W.findIn K (.ref CE) "__setattr__" = some (some (.builtin "object.__setattr__")))
    (mkEnding : PySem.W.makesIn K CE = true)
    (kcEnding : PySem.W.keepIn K (.ref CE) = true)
    (nEnding_changed : PySem.W.findIn K (.ref CE) "changed" = some none)
    (nEnding_row : PySem.W.findIn K (.ref CE) "row" = some none)
    (pgWorld : PySem.W.plainGet K CW Str.empty = true)
    (hdWorld : PySem.W.hasDictIn K CW = true)
    (poWorld : PySem.W.plainOver K CW = true)
    (saWorld : PySem.W.findIn K (.ref CW) "__setattr__" = some (some (.builtin "object.__setattr__")))
    (mkWorld : PySem.W.makesIn K CW = true)
    (kcWorld : PySem.W.keepIn K (.ref CW) = true)
    (nWorld_many : PySem.W.findIn K (.ref CW) "many" = some none)
    (nWorld_state : PySem.W.findIn K (.ref CW) "state" = some none)
    (nWorld_deeds : PySem.W.findIn K (.ref CW) "deeds" = some none)
    (nWorld_events : PySem.W.findIn K (.ref CW) "events" = some none)
    (nWorld_weights : PySem.W.findIn K (.ref CW) "weights" = some none)
    (a0 : PySem.W.nsIn K mainGlobals "within" = some (some (.ref f0)))
    (l0 : K.lookup f0 = some ⟨oc0, od0, .func (PySem.W.fnOf "within" "within" (defArgs sWithin) (defBody sWithin) (defScope sWithin) .none kV0 dc0 pm0 an0 cd0 ct0), sl0⟩)
    (c0 : PySem.W.codeIn K cd0 "within" = true)
    (k0 : PySem.W.keepIn K (.ref f0) = true)
    (a1 : PySem.W.nsIn K mainGlobals "is_rule" = some (some (.ref f1)))
    (l1 : K.lookup f1 = some ⟨oc1, od1, .func (PySem.W.fnOf "is_rule" "is_rule" (defArgs sIsRule) (defBody sIsRule) (defScope sIsRule) .none kV1 dc1 pm1 an1 cd1 ct1), sl1⟩)
    (c1 : PySem.W.codeIn K cd1 "is_rule" = true)
    (k1 : PySem.W.keepIn K (.ref f1) = true)
    (a2 : PySem.W.findIn K (.ref CR) "__init__" = some (some (.ref f2)))
    (i2 : PySem.W.isFn K (.ref f2) = true)
    (l2 : K.lookup f2 = some ⟨oc2, od2, .func (PySem.W.fnOf "__init__" "Rule.__init__" (defArgs sRuleInit) (defBody sRuleInit) (defScope sRuleInit) .none kV2 dc2 pm2 an2 cd2 ct2), sl2⟩)
    (c2 : PySem.W.codeIn K cd2 "Rule.__init__" = true)
    (k2 : PySem.W.keepIn K (.ref f2) = true)
    (a3 : PySem.W.findIn K (.ref CR) "can_happen" = some (some (.ref f3)))
    (i3 : PySem.W.isFn K (.ref f3) = true)
    (l3 : K.lookup f3 = some ⟨oc3, od3, .func (PySem.W.fnOf "can_happen" "Rule.can_happen" (defArgs sRuleCanHappen) (defBody sRuleCanHappen) (defScope sRuleCanHappen) .none kV3 dc3 pm3 an3 cd3 ct3), sl3⟩)
    (c3 : PySem.W.codeIn K cd3 "Rule.can_happen" = true)
    (k3 : PySem.W.keepIn K (.ref f3) = true)
    (a4 : PySem.W.findIn K (.ref CR) "happen" = some (some (.ref f4)))
    (i4 : PySem.W.isFn K (.ref f4) = true)
    (l4 : K.lookup f4 = some ⟨oc4, od4, .func (PySem.W.fnOf "happen" "Rule.happen" (defArgs sRuleHappen) (defBody sRuleHappen) (defScope sRuleHappen) .none kV4 dc4 pm4 an4 cd4 ct4), sl4⟩)
    (c4 : PySem.W.codeIn K cd4 "Rule.happen" = true)
    (k4 : PySem.W.keepIn K (.ref f4) = true)
    (a5 : PySem.W.nsIn K mainGlobals "is_aim" = some (some (.ref f5)))
    (l5 : K.lookup f5 = some ⟨oc5, od5, .func (PySem.W.fnOf "is_aim" "is_aim" (defArgs sIsAim) (defBody sIsAim) (defScope sIsAim) .none kV5 dc5 pm5 an5 cd5 ct5), sl5⟩)
    (c5 : PySem.W.codeIn K cd5 "is_aim" = true)
    (k5 : PySem.W.keepIn K (.ref f5) = true)
    (a6 : PySem.W.findIn K (.ref CA) "__init__" = some (some (.ref f6)))
    (i6 : PySem.W.isFn K (.ref f6) = true)
    (l6 : K.lookup f6 = some ⟨oc6, od6, .func (PySem.W.fnOf "__init__" "Aim.__init__" (defArgs sAimInit) (defBody sAimInit) (defScope sAimInit) .none kV6 dc6 pm6 an6 cd6 ct6), sl6⟩)
    (c6 : PySem.W.codeIn K cd6 "Aim.__init__" = true)
    (k6 : PySem.W.keepIn K (.ref f6) = true)
    (a7 : PySem.W.findIn K (.ref CA) "is_met" = some (some (.ref f7)))
    (i7 : PySem.W.isFn K (.ref f7) = true)
    (l7 : K.lookup f7 = some ⟨oc7, od7, .func (PySem.W.fnOf "is_met" "Aim.is_met" (defArgs sAimIsMet) (defBody sAimIsMet) (defScope sAimIsMet) .none kV7 dc7 pm7 an7 cd7 ct7), sl7⟩)
    (c7 : PySem.W.codeIn K cd7 "Aim.is_met" = true)
    (k7 : PySem.W.keepIn K (.ref f7) = true)
    (a8 : PySem.W.findIn K (.ref CA) "besides" = some (some (.ref f8)))
    (i8 : PySem.W.isFn K (.ref f8) = true)
    (l8 : K.lookup f8 = some ⟨oc8, od8, .func (PySem.W.fnOf "besides" "Aim.besides" (defArgs sAimBesides) (defBody sAimBesides) (defScope sAimBesides) .none kV8 dc8 pm8 an8 cd8 ct8), sl8⟩)
    (c8 : PySem.W.codeIn K cd8 "Aim.besides" = true)
    (k8 : PySem.W.keepIn K (.ref f8) = true)
    (a9 : PySem.W.findIn K (.ref CE) "__init__" = some (some (.ref f9)))
    (i9 : PySem.W.isFn K (.ref f9) = true)
    (l9 : K.lookup f9 = some ⟨oc9, od9, .func (PySem.W.fnOf "__init__" "Ending.__init__" (defArgs sEndingInit) (defBody sEndingInit) (defScope sEndingInit) .none kV9 dc9 pm9 an9 cd9 ct9), sl9⟩)
    (c9 : PySem.W.codeIn K cd9 "Ending.__init__" = true)
    (k9 : PySem.W.keepIn K (.ref f9) = true)
    (a10 : PySem.W.nsIn K mainGlobals "rows_one_step_on" = some (some (.ref f10)))
    (l10 : K.lookup f10 = some ⟨oc10, od10, .func (PySem.W.fnOf "rows_one_step_on" "rows_one_step_on" (defArgs sRowsOneStepOn) (defBody sRowsOneStepOn) (defScope sRowsOneStepOn) .none kV10 dc10 pm10 an10 cd10 ct10), sl10⟩)
    (c10 : PySem.W.codeIn K cd10 "rows_one_step_on" = true)
    (k10 : PySem.W.keepIn K (.ref f10) = true)
    (a11 : PySem.W.nsIn K mainGlobals "first_least" = some (some (.ref f11)))
    (l11 : K.lookup f11 = some ⟨oc11, od11, .func (PySem.W.fnOf "first_least" "first_least" (defArgs sFirstLeast) (defBody sFirstLeast) (defScope sFirstLeast) .none kV11 dc11 pm11 an11 cd11 ct11), sl11⟩)
    (c11 : PySem.W.codeIn K cd11 "first_least" = true)
    (k11 : PySem.W.keepIn K (.ref f11) = true)
    (a12 : PySem.W.nsIn K mainGlobals "endings_by_steps" = some (some (.ref f12)))
    (l12 : K.lookup f12 = some ⟨oc12, od12, .func (PySem.W.fnOf "endings_by_steps" "endings_by_steps" (defArgs sEndingsBySteps) (defBody sEndingsBySteps) (defScope sEndingsBySteps) .none kV12 dc12 pm12 an12 cd12 ct12), sl12⟩)
    (c12 : PySem.W.codeIn K cd12 "endings_by_steps" = true)
    (k12 : PySem.W.keepIn K (.ref f12) = true)
    (a13 : PySem.W.nsIn K mainGlobals "least_ending" = some (some (.ref f13)))
    (l13 : K.lookup f13 = some ⟨oc13, od13, .func (PySem.W.fnOf "least_ending" "least_ending" (defArgs sLeastEnding) (defBody sLeastEnding) (defScope sLeastEnding) .none kV13 dc13 pm13 an13 cd13 ct13), sl13⟩)
    (c13 : PySem.W.codeIn K cd13 "least_ending" = true)
    (k13 : PySem.W.keepIn K (.ref f13) = true)
    (a14 : PySem.W.nsIn K mainGlobals "answer_begin" = some (some (.ref f14)))
    (l14 : K.lookup f14 = some ⟨oc14, od14, .func (PySem.W.fnOf "answer_begin" "answer_begin" (defArgs sAnswerBegin) (defBody sAnswerBegin) (defScope sAnswerBegin) .none kV14 dc14 pm14 an14 cd14 ct14), sl14⟩)
    (c14 : PySem.W.codeIn K cd14 "answer_begin" = true)
    (k14 : PySem.W.keepIn K (.ref f14) = true)
    (a15 : PySem.W.nsIn K mainGlobals "add_rule" = some (some (.ref f15)))
    (l15 : K.lookup f15 = some ⟨oc15, od15, .func (PySem.W.fnOf "add_rule" "add_rule" (defArgs sAddRule) (defBody sAddRule) (defScope sAddRule) .none kV15 dc15 pm15 an15 cd15 ct15), sl15⟩)
    (c15 : PySem.W.codeIn K cd15 "add_rule" = true)
    (k15 : PySem.W.keepIn K (.ref f15) = true)
    (a16 : PySem.W.nsIn K mainGlobals "answer_deed" = some (some (.ref f16)))
    (l16 : K.lookup f16 = some ⟨oc16, od16, .func (PySem.W.fnOf "answer_deed" "answer_deed" (defArgs sAnswerDeed) (defBody sAnswerDeed) (defScope sAnswerDeed) .none kV16 dc16 pm16 an16 cd16 ct16), sl16⟩)
    (c16 : PySem.W.codeIn K cd16 "answer_deed" = true)
    (k16 : PySem.W.keepIn K (.ref f16) = true)
    (a17 : PySem.W.nsIn K mainGlobals "answer_event" = some (some (.ref f17)))
    (l17 : K.lookup f17 = some ⟨oc17, od17, .func (PySem.W.fnOf "answer_event" "answer_event" (defArgs sAnswerEvent) (defBody sAnswerEvent) (defScope sAnswerEvent) .none kV17 dc17 pm17 an17 cd17 ct17), sl17⟩)
    (c17 : PySem.W.codeIn K cd17 "answer_event" = true)
    (k17 : PySem.W.keepIn K (.ref f17) = true)
    (a18 : PySem.W.nsIn K mainGlobals "take_out" = some (some (.ref f18)))
    (l18 : K.lookup f18 = some ⟨oc18, od18, .func (PySem.W.fnOf "take_out" "take_out" (defArgs sTakeOut) (defBody sTakeOut) (defScope sTakeOut) .none kV18 dc18 pm18 an18 cd18 ct18), sl18⟩)
    (c18 : PySem.W.codeIn K cd18 "take_out" = true)
    (k18 : PySem.W.keepIn K (.ref f18) = true)
    (a19 : PySem.W.nsIn K mainGlobals "answer_undeed" = some (some (.ref f19)))
    (l19 : K.lookup f19 = some ⟨oc19, od19, .func (PySem.W.fnOf "answer_undeed" "answer_undeed" (defArgs sAnswerUndeed) (defBody sAnswerUndeed) (defScope sAnswerUndeed) .none kV19 dc19 pm19 an19 cd19 ct19), sl19⟩)
    (c19 : PySem.W.codeIn K cd19 "answer_undeed" = true)
    (k19 : PySem.W.keepIn K (.ref f19) = true)
    (a20 : PySem.W.nsIn K mainGlobals "answer_unevent" = some (some (.ref f20)))
    (l20 : K.lookup f20 = some ⟨oc20, od20, .func (PySem.W.fnOf "answer_unevent" "answer_unevent" (defArgs sAnswerUnevent) (defBody sAnswerUnevent) (defScope sAnswerUnevent) .none kV20 dc20 pm20 an20 cd20 ct20), sl20⟩)
    (c20 : PySem.W.codeIn K cd20 "answer_unevent" = true)
    (k20 : PySem.W.keepIn K (.ref f20) = true)
    (a21 : PySem.W.nsIn K mainGlobals "answer_set" = some (some (.ref f21)))
    (l21 : K.lookup f21 = some ⟨oc21, od21, .func (PySem.W.fnOf "answer_set" "answer_set" (defArgs sAnswerSet) (defBody sAnswerSet) (defScope sAnswerSet) .none kV21 dc21 pm21 an21 cd21 ct21), sl21⟩)
    (c21 : PySem.W.codeIn K cd21 "answer_set" = true)
    (k21 : PySem.W.keepIn K (.ref f21) = true)
    (a22 : PySem.W.nsIn K mainGlobals "answer_now" = some (some (.ref f22)))
    (l22 : K.lookup f22 = some ⟨oc22, od22, .func (PySem.W.fnOf "answer_now" "answer_now" (defArgs sAnswerNow) (defBody sAnswerNow) (defScope sAnswerNow) .none kV22 dc22 pm22 an22 cd22 ct22), sl22⟩)
    (c22 : PySem.W.codeIn K cd22 "answer_now" = true)
    (k22 : PySem.W.keepIn K (.ref f22) = true)
    (a23 : PySem.W.nsIn K mainGlobals "answer_do" = some (some (.ref f23)))
    (l23 : K.lookup f23 = some ⟨oc23, od23, .func (PySem.W.fnOf "answer_do" "answer_do" (defArgs sAnswerDo) (defBody sAnswerDo) (defScope sAnswerDo) .none kV23 dc23 pm23 an23 cd23 ct23), sl23⟩)
    (c23 : PySem.W.codeIn K cd23 "answer_do" = true)
    (k23 : PySem.W.keepIn K (.ref f23) = true)
    (a24 : PySem.W.nsIn K mainGlobals "answer_weight" = some (some (.ref f24)))
    (l24 : K.lookup f24 = some ⟨oc24, od24, .func (PySem.W.fnOf "answer_weight" "answer_weight" (defArgs sAnswerWeight) (defBody sAnswerWeight) (defScope sAnswerWeight) .none kV24 dc24 pm24 an24 cd24 ct24), sl24⟩)
    (c24 : PySem.W.codeIn K cd24 "answer_weight" = true)
    (k24 : PySem.W.keepIn K (.ref f24) = true)
    (a25 : PySem.W.nsIn K mainGlobals "answer_weights" = some (some (.ref f25)))
    (l25 : K.lookup f25 = some ⟨oc25, od25, .func (PySem.W.fnOf "answer_weights" "answer_weights" (defArgs sAnswerWeights) (defBody sAnswerWeights) (defScope sAnswerWeights) .none kV25 dc25 pm25 an25 cd25 ct25), sl25⟩)
    (c25 : PySem.W.codeIn K cd25 "answer_weights" = true)
    (k25 : PySem.W.keepIn K (.ref f25) = true)
    (a26 : PySem.W.nsIn K mainGlobals "answer_base" = some (some (.ref f26)))
    (l26 : K.lookup f26 = some ⟨oc26, od26, .func (PySem.W.fnOf "answer_base" "answer_base" (defArgs sAnswerBase) (defBody sAnswerBase) (defScope sAnswerBase) .none kV26 dc26 pm26 an26 cd26 ct26), sl26⟩)
    (c26 : PySem.W.codeIn K cd26 "answer_base" = true)
    (k26 : PySem.W.keepIn K (.ref f26) = true)
    (a27 : PySem.W.nsIn K mainGlobals "all_choices" = some (some (.ref f27)))
    (l27 : K.lookup f27 = some ⟨oc27, od27, .func (PySem.W.fnOf "all_choices" "all_choices" (defArgs sAllChoices) (defBody sAllChoices) (defScope sAllChoices) .none kV27 dc27 pm27 an27 cd27 ct27), sl27⟩)
    (c27 : PySem.W.codeIn K cd27 "all_choices" = true)
    (k27 : PySem.W.keepIn K (.ref f27) = true)
    (a28 : PySem.W.nsIn K mainGlobals "count_and_facts" = some (some (.ref f28)))
    (l28 : K.lookup f28 = some ⟨oc28, od28, .func (PySem.W.fnOf "count_and_facts" "count_and_facts" (defArgs sCountAndFacts) (defBody sCountAndFacts) (defScope sCountAndFacts) .none kV28 dc28 pm28 an28 cd28 ct28), sl28⟩)
    (c28 : PySem.W.codeIn K cd28 "count_and_facts" = true)
    (k28 : PySem.W.keepIn K (.ref f28) = true)
    (a29 : PySem.W.nsIn K mainGlobals "answer_changes" = some (some (.ref f29)))
    (l29 : K.lookup f29 = some ⟨oc29, od29, .func (PySem.W.fnOf "answer_changes" "answer_changes" (defArgs sAnswerChanges) (defBody sAnswerChanges) (defScope sAnswerChanges) .none kV29 dc29 pm29 an29 cd29 ct29), sl29⟩)
    (c29 : PySem.W.codeIn K cd29 "answer_changes" = true)
    (k29 : PySem.W.keepIn K (.ref f29) = true)
    (a30 : PySem.W.nsIn K mainGlobals "answer_touches" = some (some (.ref f30)))
    (l30 : K.lookup f30 = some ⟨oc30, od30, .func (PySem.W.fnOf "answer_touches" "answer_touches" (defArgs sAnswerTouches) (defBody sAnswerTouches) (defScope sAnswerTouches) .none kV30 dc30 pm30 an30 cd30 ct30), sl30⟩)
    (c30 : PySem.W.codeIn K cd30 "answer_touches" = true)
    (k30 : PySem.W.keepIn K (.ref f30) = true)
    (a31 : PySem.W.nsIn K mainGlobals "answer_price" = some (some (.ref f31)))
    (l31 : K.lookup f31 = some ⟨oc31, od31, .func (PySem.W.fnOf "answer_price" "answer_price" (defArgs sAnswerPrice) (defBody sAnswerPrice) (defScope sAnswerPrice) .none kV31 dc31 pm31 an31 cd31 ct31), sl31⟩)
    (c31 : PySem.W.codeIn K cd31 "answer_price" = true)
    (k31 : PySem.W.keepIn K (.ref f31) = true)
    (a32 : PySem.W.nsIn K mainGlobals "can_be_asked" = some (some (.ref f32)))
    (l32 : K.lookup f32 = some ⟨oc32, od32, .func (PySem.W.fnOf "can_be_asked" "can_be_asked" (defArgs sCanBeAsked) (defBody sCanBeAsked) (defScope sCanBeAsked) .none kV32 dc32 pm32 an32 cd32 ct32), sl32⟩)
    (c32 : PySem.W.codeIn K cd32 "can_be_asked" = true)
    (k32 : PySem.W.keepIn K (.ref f32) = true)
    (a33 : PySem.W.nsIn K mainGlobals "endings_asked" = some (some (.ref f33)))
    (l33 : K.lookup f33 = some ⟨oc33, od33, .func (PySem.W.fnOf "endings_asked" "endings_asked" (defArgs sEndingsAsked) (defBody sEndingsAsked) (defScope sEndingsAsked) .none kV33 dc33 pm33 an33 cd33 ct33), sl33⟩)
    (c33 : PySem.W.codeIn K cd33 "endings_asked" = true)
    (k33 : PySem.W.keepIn K (.ref f33) = true)
    (a34 : PySem.W.nsIn K mainGlobals "without_guard" = some (some (.ref f34)))
    (l34 : K.lookup f34 = some ⟨oc34, od34, .func (PySem.W.fnOf "without_guard" "without_guard" (defArgs sWithoutGuard) (defBody sWithoutGuard) (defScope sWithoutGuard) .none kV34 dc34 pm34 an34 cd34 ct34), sl34⟩)
    (c34 : PySem.W.codeIn K cd34 "without_guard" = true)
    (k34 : PySem.W.keepIn K (.ref f34) = true)
    (a35 : PySem.W.nsIn K mainGlobals "answer_guarded" = some (some (.ref f35)))
    (l35 : K.lookup f35 = some ⟨oc35, od35, .func (PySem.W.fnOf "answer_guarded" "answer_guarded" (defArgs sAnswerGuarded) (defBody sAnswerGuarded) (defScope sAnswerGuarded) .none kV35 dc35 pm35 an35 cd35 ct35), sl35⟩)
    (c35 : PySem.W.codeIn K cd35 "answer_guarded" = true)
    (k35 : PySem.W.keepIn K (.ref f35) = true)
    (a36 : PySem.W.nsIn K mainGlobals "answer_guardrow" = some (some (.ref f36)))
    (l36 : K.lookup f36 = some ⟨oc36, od36, .func (PySem.W.fnOf "answer_guardrow" "answer_guardrow" (defArgs sAnswerGuardrow) (defBody sAnswerGuardrow) (defScope sAnswerGuardrow) .none kV36 dc36 pm36 an36 cd36 ct36), sl36⟩)
    (c36 : PySem.W.codeIn K cd36 "answer_guardrow" = true)
    (k36 : PySem.W.keepIn K (.ref f36) = true)
    (a37 : PySem.W.nsIn K mainGlobals "answer_least" = some (some (.ref f37)))
    (l37 : K.lookup f37 = some ⟨oc37, od37, .func (PySem.W.fnOf "answer_least" "answer_least" (defArgs sAnswerLeast) (defBody sAnswerLeast) (defScope sAnswerLeast) .none kV37 dc37 pm37 an37 cd37 ct37), sl37⟩)
    (c37 : PySem.W.codeIn K cd37 "answer_least" = true)
    (k37 : PySem.W.keepIn K (.ref f37) = true)
    (a38 : PySem.W.nsIn K mainGlobals "answer_row" = some (some (.ref f38)))
    (l38 : K.lookup f38 = some ⟨oc38, od38, .func (PySem.W.fnOf "answer_row" "answer_row" (defArgs sAnswerRow) (defBody sAnswerRow) (defScope sAnswerRow) .none kV38 dc38 pm38 an38 cd38 ct38), sl38⟩)
    (c38 : PySem.W.codeIn K cd38 "answer_row" = true)
    (k38 : PySem.W.keepIn K (.ref f38) = true)
    (a39 : PySem.W.nsIn K mainGlobals "costs_asked" = some (some (.ref f39)))
    (l39 : K.lookup f39 = some ⟨oc39, od39, .func (PySem.W.fnOf "costs_asked" "costs_asked" (defArgs sCostsAsked) (defBody sCostsAsked) (defScope sCostsAsked) .none kV39 dc39 pm39 an39 cd39 ct39), sl39⟩)
    (c39 : PySem.W.codeIn K cd39 "costs_asked" = true)
    (k39 : PySem.W.keepIn K (.ref f39) = true)
    (a40 : PySem.W.nsIn K mainGlobals "answer_costs" = some (some (.ref f40)))
    (l40 : K.lookup f40 = some ⟨oc40, od40, .func (PySem.W.fnOf "answer_costs" "answer_costs" (defArgs sAnswerCosts) (defBody sAnswerCosts) (defScope sAnswerCosts) .none kV40 dc40 pm40 an40 cd40 ct40), sl40⟩)
    (c40 : PySem.W.codeIn K cd40 "answer_costs" = true)
    (k40 : PySem.W.keepIn K (.ref f40) = true)
    (a41 : PySem.W.nsIn K mainGlobals "can_be_left" = some (some (.ref f41)))
    (l41 : K.lookup f41 = some ⟨oc41, od41, .func (PySem.W.fnOf "can_be_left" "can_be_left" (defArgs sCanBeLeft) (defBody sCanBeLeft) (defScope sCanBeLeft) .none kV41 dc41 pm41 an41 cd41 ct41), sl41⟩)
    (c41 : PySem.W.codeIn K cd41 "can_be_left" = true)
    (k41 : PySem.W.keepIn K (.ref f41) = true)
    (a42 : PySem.W.nsIn K mainGlobals "answer_free" = some (some (.ref f42)))
    (l42 : K.lookup f42 = some ⟨oc42, od42, .func (PySem.W.fnOf "answer_free" "answer_free" (defArgs sAnswerFree) (defBody sAnswerFree) (defScope sAnswerFree) .none kV42 dc42 pm42 an42 cd42 ct42), sl42⟩)
    (c42 : PySem.W.codeIn K cd42 "answer_free" = true)
    (k42 : PySem.W.keepIn K (.ref f42) = true)
    (a43 : PySem.W.nsIn K mainGlobals "answer_firstfree" = some (some (.ref f43)))
    (l43 : K.lookup f43 = some ⟨oc43, od43, .func (PySem.W.fnOf "answer_firstfree" "answer_firstfree" (defArgs sAnswerFirstfree) (defBody sAnswerFirstfree) (defScope sAnswerFirstfree) .none kV43 dc43 pm43 an43 cd43 ct43), sl43⟩)
    (c43 : PySem.W.codeIn K cd43 "answer_firstfree" = true)
    (k43 : PySem.W.keepIn K (.ref f43) = true)
    (a44 : PySem.W.nsIn K mainGlobals "answer_call" = some (some (.ref f44)))
    (l44 : K.lookup f44 = some ⟨oc44, od44, .func (PySem.W.fnOf "answer_call" "answer_call" (defArgs sAnswerCall) (defBody sAnswerCall) (defScope sAnswerCall) .none kV44 dc44 pm44 an44 cd44 ct44), sl44⟩)
    (c44 : PySem.W.codeIn K cd44 "answer_call" = true)
    (k44 : PySem.W.keepIn K (.ref f44) = true)
    (a45 : PySem.W.findIn K (.ref CW) "__init__" = some (some (.ref f45)))
    (i45 : PySem.W.isFn K (.ref f45) = true)
    (l45 : K.lookup f45 = some ⟨oc45, od45, .func (PySem.W.fnOf "__init__" "World.__init__" (defArgs sWorldInit) (defBody sWorldInit) (defScope sWorldInit) .none kV45 dc45 pm45 an45 cd45 ct45), sl45⟩)
    (c45 : PySem.W.codeIn K cd45 "World.__init__" = true)
    (k45 : PySem.W.keepIn K (.ref f45) = true)
    (a46 : PySem.W.findIn K (.ref CW) "begin" = some (some (.ref f46)))
    (i46 : PySem.W.isFn K (.ref f46) = true)
    (l46 : K.lookup f46 = some ⟨oc46, od46, .func (PySem.W.fnOf "begin" "World.begin" (defArgs sWorldBegin) (defBody sWorldBegin) (defScope sWorldBegin) .none kV46 dc46 pm46 an46 cd46 ct46), sl46⟩)
    (c46 : PySem.W.codeIn K cd46 "World.begin" = true)
    (k46 : PySem.W.keepIn K (.ref f46) = true)
    (a47 : PySem.W.findIn K (.ref CW) "has_begun" = some (some (.ref f47)))
    (i47 : PySem.W.isFn K (.ref f47) = true)
    (l47 : K.lookup f47 = some ⟨oc47, od47, .func (PySem.W.fnOf "has_begun" "World.has_begun" (defArgs sWorldHasBegun) (defBody sWorldHasBegun) (defScope sWorldHasBegun) .none kV47 dc47 pm47 an47 cd47 ct47), sl47⟩)
    (c47 : PySem.W.codeIn K cd47 "World.has_begun" = true)
    (k47 : PySem.W.keepIn K (.ref f47) = true)
    (a48 : PySem.W.findIn K (.ref CW) "everything" = some (some (.ref f48)))
    (i48 : PySem.W.isFn K (.ref f48) = true)
    (l48 : K.lookup f48 = some ⟨oc48, od48, .func (PySem.W.fnOf "everything" "World.everything" (defArgs sWorldEverything) (defBody sWorldEverything) (defScope sWorldEverything) .none kV48 dc48 pm48 an48 cd48 ct48), sl48⟩)
    (c48 : PySem.W.codeIn K cd48 "World.everything" = true)
    (k48 : PySem.W.keepIn K (.ref f48) = true)
    (a49 : PySem.W.findIn K (.ref CW) "behind_events" = some (some (.ref f49)))
    (i49 : PySem.W.isFn K (.ref f49) = true)
    (l49 : K.lookup f49 = some ⟨oc49, od49, .func (PySem.W.fnOf "behind_events" "World.behind_events" (defArgs sWorldBehindEvents) (defBody sWorldBehindEvents) (defScope sWorldBehindEvents) .none kV49 dc49 pm49 an49 cd49 ct49), sl49⟩)
    (c49 : PySem.W.codeIn K cd49 "World.behind_events" = true)
    (k49 : PySem.W.keepIn K (.ref f49) = true)
    (a50 : PySem.W.findIn K (.ref CW) "waiting" = some (some (.ref f50)))
    (i50 : PySem.W.isFn K (.ref f50) = true)
    (l50 : K.lookup f50 = some ⟨oc50, od50, .func (PySem.W.fnOf "waiting" "World.waiting" (defArgs sWorldWaiting) (defBody sWorldWaiting) (defScope sWorldWaiting) .none kV50 dc50 pm50 an50 cd50 ct50), sl50⟩)
    (c50 : PySem.W.codeIn K cd50 "World.waiting" = true)
    (k50 : PySem.W.keepIn K (.ref f50) = true)
    (a51 : PySem.W.findIn K (.ref CW) "is_choice" = some (some (.ref f51)))
    (i51 : PySem.W.isFn K (.ref f51) = true)
    (l51 : K.lookup f51 = some ⟨oc51, od51, .func (PySem.W.fnOf "is_choice" "World.is_choice" (defArgs sWorldIsChoice) (defBody sWorldIsChoice) (defScope sWorldIsChoice) .none kV51 dc51 pm51 an51 cd51 ct51), sl51⟩)
    (c51 : PySem.W.codeIn K cd51 "World.is_choice" = true)
    (k51 : PySem.W.keepIn K (.ref f51) = true)
    (a52 : PySem.W.findIn K (.ref CW) "can_choose" = some (some (.ref f52)))
    (i52 : PySem.W.isFn K (.ref f52) = true)
    (l52 : K.lookup f52 = some ⟨oc52, od52, .func (PySem.W.fnOf "can_choose" "World.can_choose" (defArgs sWorldCanChoose) (defBody sWorldCanChoose) (defScope sWorldCanChoose) .none kV52 dc52 pm52 an52 cd52 ct52), sl52⟩)
    (c52 : PySem.W.codeIn K cd52 "World.can_choose" = true)
    (k52 : PySem.W.keepIn K (.ref f52) = true)
    (a53 : PySem.W.findIn K (.ref CW) "behind_choice" = some (some (.ref f53)))
    (i53 : PySem.W.isFn K (.ref f53) = true)
    (l53 : K.lookup f53 = some ⟨oc53, od53, .func (PySem.W.fnOf "behind_choice" "World.behind_choice" (defArgs sWorldBehindChoice) (defBody sWorldBehindChoice) (defScope sWorldBehindChoice) .none kV53 dc53 pm53 an53 cd53 ct53), sl53⟩)
    (c53 : PySem.W.codeIn K cd53 "World.behind_choice" = true)
    (k53 : PySem.W.keepIn K (.ref f53) = true)
    (a54 : PySem.W.findIn K (.ref CW) "states_along" = some (some (.ref f54)))
    (i54 : PySem.W.isFn K (.ref f54) = true)
    (l54 : K.lookup f54 = some ⟨oc54, od54, .func (PySem.W.fnOf "states_along" "World.states_along" (defArgs sWorldStatesAlong) (defBody sWorldStatesAlong) (defScope sWorldStatesAlong) .none kV54 dc54 pm54 an54 cd54 ct54), sl54⟩)
    (c54 : PySem.W.codeIn K cd54 "World.states_along" = true)
    (k54 : PySem.W.keepIn K (.ref f54) = true)
    (a55 : PySem.W.findIn K (.ref CW) "behind_waiting" = some (some (.ref f55)))
    (i55 : PySem.W.isFn K (.ref f55) = true)
    (l55 : K.lookup f55 = some ⟨oc55, od55, .func (PySem.W.fnOf "behind_waiting" "World.behind_waiting" (defArgs sWorldBehindWaiting) (defBody sWorldBehindWaiting) (defScope sWorldBehindWaiting) .none kV55 dc55 pm55 an55 cd55 ct55), sl55⟩)
    (c55 : PySem.W.codeIn K cd55 "World.behind_waiting" = true)
    (k55 : PySem.W.keepIn K (.ref f55) = true)
    (a56 : PySem.W.findIn K (.ref CW) "held_against" = some (some (.ref f56)))
    (i56 : PySem.W.isFn K (.ref f56) = true)
    (l56 : K.lookup f56 = some ⟨oc56, od56, .func (PySem.W.fnOf "held_against" "World.held_against" (defArgs sWorldHeldAgainst) (defBody sWorldHeldAgainst) (defScope sWorldHeldAgainst) .none kV56 dc56 pm56 an56 cd56 ct56), sl56⟩)
    (c56 : PySem.W.codeIn K cd56 "World.held_against" = true)
    (k56 : PySem.W.keepIn K (.ref f56) = true)
    (a57 : PySem.W.findIn K (.ref CW) "facts_of" = some (some (.ref f57)))
    (i57 : PySem.W.isFn K (.ref f57) = true)
    (l57 : K.lookup f57 = some ⟨oc57, od57, .func (PySem.W.fnOf "facts_of" "World.facts_of" (defArgs sWorldFactsOf) (defBody sWorldFactsOf) (defScope sWorldFactsOf) .none kV57 dc57 pm57 an57 cd57 ct57), sl57⟩)
    (c57 : PySem.W.codeIn K cd57 "World.facts_of" = true)
    (k57 : PySem.W.keepIn K (.ref f57) = true)
    (a58 : PySem.W.findIn K (.ref CW) "weight_of" = some (some (.ref f58)))
    (i58 : PySem.W.isFn K (.ref f58) = true)
    (l58 : K.lookup f58 = some ⟨oc58, od58, .func (PySem.W.fnOf "weight_of" "World.weight_of" (defArgs sWorldWeightOf) (defBody sWorldWeightOf) (defScope sWorldWeightOf) .none kV58 dc58 pm58 an58 cd58 ct58), sl58⟩)
    (c58 : PySem.W.codeIn K cd58 "World.weight_of" = true)
    (k58 : PySem.W.keepIn K (.ref f58) = true)
    (a59 : PySem.W.findIn K (.ref CW) "weight_changed" = some (some (.ref f59)))
    (i59 : PySem.W.isFn K (.ref f59) = true)
    (l59 : K.lookup f59 = some ⟨oc59, od59, .func (PySem.W.fnOf "weight_changed" "World.weight_changed" (defArgs sWorldWeightChanged) (defBody sWorldWeightChanged) (defScope sWorldWeightChanged) .none kV59 dc59 pm59 an59 cd59 ct59), sl59⟩)
    (c59 : PySem.W.codeIn K cd59 "World.weight_changed" = true)
    (k59 : PySem.W.keepIn K (.ref f59) = true)
    (a60 : PySem.W.nsIn K mainGlobals "has_row" = some (some (.ref f60)))
    (l60 : K.lookup f60 = some ⟨oc60, od60, .func (PySem.W.fnOf "has_row" "has_row" (defArgs sHasRow) (defBody sHasRow) (defScope sHasRow) .none kV60 dc60 pm60 an60 cd60 ct60), sl60⟩)
    (c60 : PySem.W.codeIn K cd60 "has_row" = true)
    (k60 : PySem.W.keepIn K (.ref f60) = true)
    (a61 : PySem.W.nsIn K mainGlobals "plain_end" = some (some (.ref f61)))
    (l61 : K.lookup f61 = some ⟨oc61, od61, .func (PySem.W.fnOf "plain_end" "plain_end" (defArgs sPlainEnd) (defBody sPlainEnd) (defScope sPlainEnd) .none kV61 dc61 pm61 an61 cd61 ct61), sl61⟩)
    (c61 : PySem.W.codeIn K cd61 "plain_end" = true)
    (k61 : PySem.W.keepIn K (.ref f61) = true)
    (a62 : PySem.W.nsIn K mainGlobals "call_end" = some (some (.ref f62)))
    (l62 : K.lookup f62 = some ⟨oc62, od62, .func (PySem.W.fnOf "call_end" "call_end" (defArgs sCallEnd) (defBody sCallEnd) (defScope sCallEnd) .none kV62 dc62 pm62 an62 cd62 ct62), sl62⟩)
    (c62 : PySem.W.codeIn K cd62 "call_end" = true)
    (k62 : PySem.W.keepIn K (.ref f62) = true)
    (a63 : PySem.W.nsIn K mainGlobals "given_numbers" = some (some (.ref f63)))
    (l63 : K.lookup f63 = some ⟨oc63, od63, .func (PySem.W.fnOf "given_numbers" "given_numbers" (defArgs sGivenNumbers) (defBody sGivenNumbers) (defScope sGivenNumbers) .none kV63 dc63 pm63 an63 cd63 ct63), sl63⟩)
    (c63 : PySem.W.codeIn K cd63 "given_numbers" = true)
    (k63 : PySem.W.keepIn K (.ref f63) = true)
    (a64 : PySem.W.nsIn K mainGlobals "answers" = some (some (.ref f64)))
    (l64 : K.lookup f64 = some ⟨oc64, od64, .func (PySem.W.fnOf "answers" "answers" (defArgs sAnswers) (defBody sAnswers) (defScope sAnswers) .none kV64 dc64 pm64 an64 cd64 ct64), sl64⟩)
    (c64 : PySem.W.codeIn K cd64 "answers" = true)
    (k64 : PySem.W.keepIn K (.ref f64) = true)
    (b_len : PySem.W.nsIn K mainGlobals "len" = some none)
    (b_range : PySem.W.nsIn K mainGlobals "range" = some none)
    (b_sum : PySem.W.nsIn K mainGlobals "sum" = some none)
    (b_all : PySem.W.nsIn K mainGlobals "all" = some none)
    (ne : CW ≠ CR)
    (aP : PySem.W.nsIn K mainGlobals "PLAIN_NUMBERS" = some (some (.ref pP)))
    (lP : K.lookup pP = some ⟨.type "tuple", odP, .seq #[.int 1 u0, .int 4 u1, .int 4 u2, .int 1 u3, .int 1 u4, .int 1 u5, .int 0 u6, .int 1 u7, .int 2 u8, .int 0 u9, .int 2 u10, .int 4 u11, .int 4 u12, .int 4 u13, .int 5 u14, .int 5 u15, .int 1 u16, .int 1 u17, .int 3 u18, .int 4 u19, .int 3 u20] nP, slP⟩)
    (aR : PySem.W.nsIn K mainGlobals "REPLIES" = some (some (.ref pR)))
    (lR : K.lookup pR = some ⟨.type "dict", none, .dict #[⟨0, .int 0 w0, .ref f14⟩, ⟨1, .int 1 w1, .ref f16⟩, ⟨2, .int 2 w2, .ref f17⟩, ⟨3, .int 3 w3, .ref f19⟩, ⟨4, .int 4 w4, .ref f20⟩, ⟨5, .int 5 w5, .ref f21⟩, ⟨6, .int 6 w6, .ref f22⟩, ⟨7, .int 7 w7, .ref f23⟩, ⟨8, .int 8 w8, .ref f24⟩, ⟨9, .int 9 w9, .ref f25⟩, ⟨10, .int 10 w10, .ref f26⟩, ⟨11, .int 11 w11, .ref f37⟩, ⟨12, .int 12 w12, .ref f38⟩, ⟨13, .int 13 w13, .ref f40⟩, ⟨14, .int 14 w14, .ref f35⟩, ⟨15, .int 15 w15, .ref f36⟩, ⟨16, .int 16 w16, .ref f29⟩, ⟨17, .int 17 w17, .ref f30⟩, ⟨18, .int 18 w18, .ref f31⟩, ⟨19, .int 19 w19, .ref f42⟩, ⟨20, .int 20 w20, .ref f43⟩] nR, #[]⟩)
    (g_NO_SUCH : PySem.W.nsIn K mainGlobals "NO_SUCH" = some (some (.int (-2) z0)))
    (g_CANNOT_BE_DONE : PySem.W.nsIn K mainGlobals "CANNOT_BE_DONE" = some (some (.int (-6) z1)))
    (g_NOT_BEGUN : PySem.W.nsIn K mainGlobals "NOT_BEGUN" = some (some (.int (-11) z2)))
    (g_NOT_ALLOWED : PySem.W.nsIn K mainGlobals "NOT_ALLOWED" = some (some (.int (-22) z3)))
    (g_TOO_MANY : PySem.W.nsIn K mainGlobals "TOO_MANY" = some (some (.int (-28) z4)))
    (g_AIM_NOT_MET : PySem.W.nsIn K mainGlobals "AIM_NOT_MET" = some (some (.int (-33) z5)))
    (g_FEWEST_FACTS : PySem.W.nsIn K mainGlobals "FEWEST_FACTS" = some (some (.int (2) z6)))
    (g_MOST_FACTS : PySem.W.nsIn K mainGlobals "MOST_FACTS" = some (some (.int (5) z7)))
    (g_MOST_DEEDS : PySem.W.nsIn K mainGlobals "MOST_DEEDS" = some (some (.int (6) z8)))
    (g_MOST_EVENTS : PySem.W.nsIn K mainGlobals "MOST_EVENTS" = some (some (.int (3) z9)))
    (g_MOST_WEIGHT : PySem.W.nsIn K mainGlobals "MOST_WEIGHT" = some (some (.int (100) z10)))
    (g_MOST_BASE_STEPS : PySem.W.nsIn K mainGlobals "MOST_BASE_STEPS" = some (some (.int (40) z11)))
    (g_MOST_STEPS : PySem.W.nsIn K mainGlobals "MOST_STEPS" = some (some (.int (10) z12)))
    (g_NO_GUARD : PySem.W.nsIn K mainGlobals "NO_GUARD" = some (some (.int (0) z13)))
    (g_NO_ROW : PySem.W.nsIn K mainGlobals "NO_ROW" = some (some (.int (-1) z14)))
    (g_BEGIN : PySem.W.nsIn K mainGlobals "BEGIN" = some (some (.int (0) z15)))
    (g_CHANGES : PySem.W.nsIn K mainGlobals "CHANGES" = some (some (.int (16) z16)))
    (g_PRICE : PySem.W.nsIn K mainGlobals "PRICE" = some (some (.int (18) z17))) :
    Top K mg CR CA CE CW where
  cRule := ⟨pgRule, hdRule, poRule, saRule⟩
  nRule_needs := nRule_needs
  nRule_needs_so := nRule_needs_so
  nRule_makes := nRule_makes
  nRule_makes_so := nRule_makes_so
  kRule := PySem.W.mg_of X G aRule
  cAim := ⟨pgAim, hdAim, poAim, saAim⟩
  nAim_facts := nAim_facts
  nAim_wanted := nAim_wanted
  kAim := PySem.W.mg_of X G aAim
  cEnding := ⟨pgEnding, hdEnding, poEnding, saEnding⟩
  nEnding_changed := nEnding_changed
  nEnding_row := nEnding_row
  kEnding := PySem.W.mg_of X G aEnding
  cWorld := ⟨pgWorld, hdWorld, poWorld, saWorld⟩
  nWorld_many := nWorld_many
  nWorld_state := nWorld_state
  nWorld_deeds := nWorld_deeds
  nWorld_events := nWorld_events
  nWorld_weights := nWorld_weights
  kWorld := PySem.W.mg_of X G aWorld
  dWithin := defG_mk X G a0 l0 c0 k0
  dIsRule := defG_mk X G a1 l1 c1 k1
  dRuleInit := defI_mk a2 i2 l2 c2 k2 mkRule kcRule
  dRuleCanHappen := defM_mk a3 i3 l3 c3 k3
  dRuleHappen := defM_mk a4 i4 l4 c4 k4
  dIsAim := defG_mk X G a5 l5 c5 k5
  dAimInit := defI_mk a6 i6 l6 c6 k6 mkAim kcAim
  dAimIsMet := defM_mk a7 i7 l7 c7 k7
  dAimBesides := defM_mk a8 i8 l8 c8 k8
  dEndingInit := defI_mk a9 i9 l9 c9 k9 mkEnding kcEnding
  dRowsOneStepOn := defG_mk X G a10 l10 c10 k10
  dFirstLeast := defG_mk X G a11 l11 c11 k11
  dEndingsBySteps := defG_mk X G a12 l12 c12 k12
  dLeastEnding := defG_mk X G a13 l13 c13 k13
  dAnswerBegin := defG_mk X G a14 l14 c14 k14
  dAddRule := defG_mk X G a15 l15 c15 k15
  dAnswerDeed := defG_mk X G a16 l16 c16 k16
  dAnswerEvent := defG_mk X G a17 l17 c17 k17
  dTakeOut := defG_mk X G a18 l18 c18 k18
  dAnswerUndeed := defG_mk X G a19 l19 c19 k19
  dAnswerUnevent := defG_mk X G a20 l20 c20 k20
  dAnswerSet := defG_mk X G a21 l21 c21 k21
  dAnswerNow := defG_mk X G a22 l22 c22 k22
  dAnswerDo := defG_mk X G a23 l23 c23 k23
  dAnswerWeight := defG_mk X G a24 l24 c24 k24
  dAnswerWeights := defG_mk X G a25 l25 c25 k25
  dAnswerBase := defG_mk X G a26 l26 c26 k26
  dAllChoices := defG_mk X G a27 l27 c27 k27
  dCountAndFacts := defG_mk X G a28 l28 c28 k28
  dAnswerChanges := defG_mk X G a29 l29 c29 k29
  dAnswerTouches := defG_mk X G a30 l30 c30 k30
  dAnswerPrice := defG_mk X G a31 l31 c31 k31
  dCanBeAsked := defG_mk X G a32 l32 c32 k32
  dEndingsAsked := defG_mk X G a33 l33 c33 k33
  dWithoutGuard := defG_mk X G a34 l34 c34 k34
  dAnswerGuarded := defG_mk X G a35 l35 c35 k35
  dAnswerGuardrow := defG_mk X G a36 l36 c36 k36
  dAnswerLeast := defG_mk X G a37 l37 c37 k37
  dAnswerRow := defG_mk X G a38 l38 c38 k38
  dCostsAsked := defG_mk X G a39 l39 c39 k39
  dAnswerCosts := defG_mk X G a40 l40 c40 k40
  dCanBeLeft := defG_mk X G a41 l41 c41 k41
  dAnswerFree := defG_mk X G a42 l42 c42 k42
  dAnswerFirstfree := defG_mk X G a43 l43 c43 k43
  dAnswerCall := defG_mk X G a44 l44 c44 k44
  dWorldInit := defI_mk a45 i45 l45 c45 k45 mkWorld kcWorld
  dWorldBegin := defM_mk a46 i46 l46 c46 k46
  dWorldHasBegun := defM_mk a47 i47 l47 c47 k47
  dWorldEverything := defM_mk a48 i48 l48 c48 k48
  dWorldBehindEvents := defM_mk a49 i49 l49 c49 k49
  dWorldWaiting := defM_mk a50 i50 l50 c50 k50
  dWorldIsChoice := defM_mk a51 i51 l51 c51 k51
  dWorldCanChoose := defM_mk a52 i52 l52 c52 k52
  dWorldBehindChoice := defM_mk a53 i53 l53 c53 k53
  dWorldStatesAlong := defM_mk a54 i54 l54 c54 k54
  dWorldBehindWaiting := defM_mk a55 i55 l55 c55 k55
  dWorldHeldAgainst := defM_mk a56 i56 l56 c56 k56
  dWorldFactsOf := defM_mk a57 i57 l57 c57 k57
  dWorldWeightOf := defM_mk a58 i58 l58 c58 k58
  dWorldWeightChanged := defM_mk a59 i59 l59 c59 k59
  dHasRow := defG_mk X G a60 l60 c60 k60
  dPlainEnd := defG_mk X G a61 l61 c61 k61
  dCallEnd := defG_mk X G a62 l62 c62 k62
  dGivenNumbers := defG_mk X G a63 l63 c63 k63
  dAnswers := defG_mk X G a64 l64 c64 k64
  b_len := PySem.W.mg_none_of X G b_len
  b_range := PySem.W.mg_none_of X G b_range
  b_sum := PySem.W.mg_none_of X G b_sum
  b_all := PySem.W.mg_none_of X G b_all
  neWR := ne
  g_PLAIN := ⟨pP, PySem.W.mg_of X G aP, fun H => Or.inr ⟨_, _, nP, lP, rfl, rfl, (by show 21 ≤ sizeLine; decide), .cons ⟨u0, rfl⟩ (.cons ⟨u1, rfl⟩ (.cons ⟨u2, rfl⟩ (.cons ⟨u3, rfl⟩ (.cons ⟨u4, rfl⟩ (.cons ⟨u5, rfl⟩ (.cons ⟨u6, rfl⟩ (.cons ⟨u7, rfl⟩ (.cons ⟨u8, rfl⟩ (.cons ⟨u9, rfl⟩ (.cons ⟨u10, rfl⟩ (.cons ⟨u11, rfl⟩ (.cons ⟨u12, rfl⟩ (.cons ⟨u13, rfl⟩ (.cons ⟨u14, rfl⟩ (.cons ⟨u15, rfl⟩ (.cons ⟨u16, rfl⟩ (.cons ⟨u17, rfl⟩ (.cons ⟨u18, rfl⟩ (.cons ⟨u19, rfl⟩ (.cons ⟨u20, rfl⟩ (.nil)))))))))))))))))))))⟩⟩
  g_REPLIES := ⟨pR, PySem.W.mg_of X G aR, rep_mk X G lR a14 a16 a17 a19 a20 a21 a22 a23 a24 a25 a26 a37 a38 a40 a35 a36 a29 a30 a31 a42 a43⟩
  g_NO_SUCH := ⟨z0, PySem.W.mg_of X G g_NO_SUCH⟩
  g_CANNOT_BE_DONE := ⟨z1, PySem.W.mg_of X G g_CANNOT_BE_DONE⟩
  g_NOT_BEGUN := ⟨z2, PySem.W.mg_of X G g_NOT_BEGUN⟩
  g_NOT_ALLOWED := ⟨z3, PySem.W.mg_of X G g_NOT_ALLOWED⟩
  g_TOO_MANY := ⟨z4, PySem.W.mg_of X G g_TOO_MANY⟩
  g_AIM_NOT_MET := ⟨z5, PySem.W.mg_of X G g_AIM_NOT_MET⟩
  g_FEWEST_FACTS := ⟨z6, PySem.W.mg_of X G g_FEWEST_FACTS⟩
  g_MOST_FACTS := ⟨z7, PySem.W.mg_of X G g_MOST_FACTS⟩
  g_MOST_DEEDS := ⟨z8, PySem.W.mg_of X G g_MOST_DEEDS⟩
  g_MOST_EVENTS := ⟨z9, PySem.W.mg_of X G g_MOST_EVENTS⟩
  g_MOST_WEIGHT := ⟨z10, PySem.W.mg_of X G g_MOST_WEIGHT⟩
  g_MOST_BASE_STEPS := ⟨z11, PySem.W.mg_of X G g_MOST_BASE_STEPS⟩
  g_MOST_STEPS := ⟨z12, PySem.W.mg_of X G g_MOST_STEPS⟩
  g_NO_GUARD := ⟨z13, PySem.W.mg_of X G g_NO_GUARD⟩
  g_NO_ROW := ⟨z14, PySem.W.mg_of X G g_NO_ROW⟩
  g_BEGIN := ⟨z15, PySem.W.mg_of X G g_BEGIN⟩
  g_CHANGES := ⟨z16, PySem.W.mg_of X G g_CHANGES⟩
  g_PRICE := ⟨z17, PySem.W.mg_of X G g_PRICE⟩
theorem all_mk {P : Program} {w : World} {K : PySem.W.Frag} {mg : Str → Option Value} {CR CA CE CW fa : Addr} (T : Top K mg CR CA CE CW) (hfa : mg "answers" = some (.ref fa)) :
    ∃ fd : FuncData, (∀ (s : Shared) (us : List Value), us.length = (["calls"] : List Str).length → BindsTo s fd ⟨us, []⟩ ((["calls"] : List Str).zip us)) ∧ ∀ base : Heap, K.In base → base.Ns mainGlobals mg → FnOk P w K mg base CX0 11 fa fd ["calls"] (spAnswers K) := by
  obtain ⟨f, fd, F, g⟩ := id T.dAnswers
  have e := g.symm.trans hfa
  injection e with e
  injection e with e
  subst e
  obtain ⟨oc, od, kV, doc, pm, an, cdv, ct, osl, rfl, lk, hcd⟩ := id F.ex
  refine ⟨PySem.W.fnOf "answers" "answers" (defArgs sAnswers) (defBody sAnswers) (defScope sAnswers) .none kV doc pm an cdv ct, fun s us hu => match us, hu with | [_], _ => .of_eq rfl, fun base _ _ => ?_⟩
  refine F.ok scAnswers (fun vs H Q E h => ?_) (fun cdv A outer s H vs Q E hr h => answers_body T f cdv A outer s H vs Q E hr h)
  obtain ⟨c, nn, rfl, _⟩ := h
  rfl
theorem nat_list : ∀ {l : List Int}, (∀ x ∈ l, 0 ≤ x) → cI (l.map Int.toNat) = l
  | [], _ => rfl
  | a :: l, h => by
    have h1 : ((a.toNat : Nat) : Int) = a := Int.toNat_of_nonneg (h a (List.mem_cons_self ..))
    have h2 := nat_list (l := l) fun x hx => h x (List.mem_cons_of_mem _ hx)
    show ((a.toNat : Nat) : Int) :: cI (l.map Int.toNat) = a :: l
    rw [h1, h2]
theorem req {K : PySem.W.Frag} {H : Hp} {p : Addr} {l : List Int} {Q : VK} {E : XK} (hs : SqL K H p (l.map V.int)) (hlen : l.length ≤ 1020) (hpos : ∀ x ∈ l, 0 ≤ x) (hask : PyKp372.answers_asked l = true)
    (hQ : ∀ (H' : Hp) (q : Addr), H' q = some (.lst ((PyKp372.answers l).map V.int)) → Q (.ref q) H') : spAnswers K [.ref p] H Q E := by
  have e := nat_list hpos
  refine ⟨p, l.map Int.toNat, rfl, ?_, by rw [List.length_map]; exact hlen, by rw [e]; exact hask, fun H' q hq => hQ H' q ?_⟩
  · have e2 : lI (l.map Int.toNat) = (cI (l.map Int.toNat)).map V.int := (List.map_map).symm
    rw [e2, e]
    exact hs
  · have e3 : ans (l.map Int.toNat) = PyKp372.answers l := congrArg PyKp372.answers e
    rw [← e3]
    exact hq
end LC

open PySem PySem.W PyProof.Rows
set_option maxRecDepth 100000 in
set_option maxHeartbeats 0 in
theorem PySem.Challenge.cw_leastchange_s01_answers_holds : PySem.Challenge.rw_leastchange_s01_answers.Holds := by
  w_on; k_headS; (case hw => exact ⟨[.list [.int 6]], by decide +kernel, by decide +kernel⟩)
  k_fillS
  refine L2.walk_specK (r := PySem.Challenge.rw_leastchange_s01_answers) (k := 11) (CX := L2.CX0) (ps := ["calls"]) (sp := LC.spAnswers) (by decide +kernel) rfl rfl ⟨rfl, by decide, by decide⟩ (fun w h Y => PySem.W.kIn_of Y) ?F ?S (fun _ _ _ _ z => z)
  case F =>
    intro w mg fa h Y KX G hmg
    refine' LC.all_mk ?T hmg
    case T =>
      refine' LC.top_mk KX G ?aRule ?aAim ?aEnding ?aWorld ?pgRule ?hdRule ?poRule ?saRule ?mkRule ?kcRule ?nRule_needs ?nRule_needs_so ?nRule_makes ?nRule_makes_so ?pgAim ?hdAim ?poAim ?saAim ?mkAim ?kcAim ?nAim_facts ?nAim_wanted ?pgEnding ?hdEnding ?poEnding ?saEnding ?mkEnding ?kcEnding ?nEnding_changed ?nEnding_row ?pgWorld ?hdWorld ?poWorld ?saWorld ?mkWorld ?kcWorld ?nWorld_many ?nWorld_state ?nWorld_deeds ?nWorld_events ?nWorld_weights ?a0 ?l0 ?c0 ?k0 ?a1 ?l1 ?c1 ?k1 ?a2 ?i2 ?l2 ?c2 ?k2 ?a3 ?i3 ?l3 ?c3 ?k3 ?a4 ?i4 ?l4 ?c4 ?k4 ?a5 ?l5 ?c5 ?k5 ?a6 ?i6 ?l6 ?c6 ?k6 ?a7 ?i7 ?l7 ?c7 ?k7 ?a8 ?i8 ?l8 ?c8 ?k8 ?a9 ?i9 ?l9 ?c9 ?k9 ?a10 ?l10 ?c10 ?k10 ?a11 ?l11 ?c11 ?k11 ?a12 ?l12 ?c12 ?k12 ?a13 ?l13 ?c13 ?k13 ?a14 ?l14 ?c14 ?k14 ?a15 ?l15 ?c15 ?k15 ?a16 ?l16 ?c16 ?k16 ?a17 ?l17 ?c17 ?k17 ?a18 ?l18 ?c18 ?k18 ?a19 ?l19 ?c19 ?k19 ?a20 ?l20 ?c20 ?k20 ?a21 ?l21 ?c21 ?k21 ?a22 ?l22 ?c22 ?k22 ?a23 ?l23 ?c23 ?k23 ?a24 ?l24 ?c24 ?k24 ?a25 ?l25 ?c25 ?k25 ?a26 ?l26 ?c26 ?k26 ?a27 ?l27 ?c27 ?k27 ?a28 ?l28 ?c28 ?k28 ?a29 ?l29 ?c29 ?k29 ?a30 ?l30 ?c30 ?k30 ?a31 ?l31 ?c31 ?k31 ?a32 ?l32 ?c32 ?k32 ?a33 ?l33 ?c33 ?k33 ?a34 ?l34 ?c34 ?k34 ?a35 ?l35 ?c35 ?k35 ?a36 ?l36 ?c36 ?k36 ?a37 ?l37 ?c37 ?k37 ?a38 ?l38 ?c38 ?k38 ?a39 ?l39 ?c39 ?k39 ?a40 ?l40 ?c40 ?k40 ?a41 ?l41 ?c41 ?k41 ?a42 ?l42 ?c42 ?k42 ?a43 ?l43 ?c43 ?k43 ?a44 ?l44 ?c44 ?k44 ?a45 ?i45 ?l45 ?c45 ?k45 ?a46 ?i46 ?l46 ?c46 ?k46 ?a47 ?i47 ?l47 ?c47 ?k47 ?a48 ?i48 ?l48 ?c48 ?k48 ?a49 ?i49 ?l49 ?c49 ?k49 ?a50 ?i50 ?l50 ?c50 ?k50 ?a51 ?i51 ?l51 ?c51 ?k51 ?a52 ?i52 ?l52 ?c52 ?k52 ?a53 ?i53 ?l53 ?c53 ?k53 ?a54 ?i54 ?l54 ?c54 ?k54 ?a55 ?i55 ?l55 ?c55 ?k55 ?a56 ?i56 ?l56 ?c56 ?k56 ?a57 ?i57 ?l57 ?c57 ?k57 ?a58 ?i58 ?l58 ?c58 ?k58 ?a59 ?i59 ?l59 ?c59 ?k59 ?a60 ?l60 ?c60 ?k60 ?a61 ?l61 ?c61 ?k61 ?a62 ?l62 ?c62 ?k62 ?a63 ?l63 ?c63 ?k63 ?a64 ?l64 ?c64 ?k64 ?b_len ?b_range ?b_sum ?b_all ?ne ?aP ?lP ?aR ?lR ?g_NO_SUCH ?g_CANNOT_BE_DONE ?g_NOT_BEGUN ?g_NOT_ALLOWED ?g_TOO_MANY ?g_AIM_NOT_MET ?g_FEWEST_FACTS ?g_MOST_FACTS ?g_MOST_DEEDS ?g_MOST_EVENTS ?g_MOST_WEIGHT ?g_MOST_BASE_STEPS ?g_MOST_STEPS ?g_NO_GUARD ?g_NO_ROW ?g_BEGIN ?g_CHANGES ?g_PRICE
      (case aRule => k_is)
      (case aAim => k_is)
      (case aEnding => k_is)
      (case aWorld => k_is)
      (case pgRule => k_is)
      (case hdRule => k_is)
      (case poRule => k_is)
      (case saRule => k_is)
      (case mkRule => k_is)
      (case kcRule => k_is)
      (case nRule_needs => k_is)
      (case nRule_needs_so => k_is)
      (case nRule_makes => k_is)
      (case nRule_makes_so => k_is)
      (case pgAim => k_is)
      (case hdAim => k_is)
      (case poAim => k_is)
      (case saAim => k_is)
      (case mkAim => k_is)
      (case kcAim => k_is)
      (case nAim_facts => k_is)
      (case nAim_wanted => k_is)
      (case pgEnding => k_is)
      (case hdEnding => k_is)
      (case poEnding => k_is)
      (case saEnding => k_is)
      (case mkEnding => k_is)
      (case kcEnding => k_is)
      (case nEnding_changed => k_is)
      (case nEnding_row => k_is)
      (case pgWorld => k_is)
      (case hdWorld => k_is)
      (case poWorld => k_is)
      (case saWorld => k_is)
      (case mkWorld => k_is)
      (case kcWorld => k_is)
      (case nWorld_many => k_is)
      (case nWorld_state => k_is)
      (case nWorld_deeds => k_is)
      (case nWorld_events => k_is)
      (case nWorld_weights => k_is)
      (case a0 => k_is)
      (case l0 => k_is)
      (case c0 => k_is)
      (case k0 => k_is)
      (case a1 => k_is)
      (case l1 => k_is)
      (case c1 => k_is)
      (case k1 => k_is)
      (case a2 => k_is)
      (case i2 => k_is)
      (case l2 => k_is)
      (case c2 => k_is)
      (case k2 => k_is)
      (case a3 => k_is)
      (case i3 => k_is)
      (case l3 => k_is)
      (case c3 => k_is)
      (case k3 => k_is)
      (case a4 => k_is)
      (case i4 => k_is)
      (case l4 => k_is)
      (case c4 => k_is)
      (case k4 => k_is)
      (case a5 => k_is)
      (case l5 => k_is)
      (case c5 => k_is)
      (case k5 => k_is)
      (case a6 => k_is)
      (case i6 => k_is)
      (case l6 => k_is)
      (case c6 => k_is)
      (case k6 => k_is)
      (case a7 => k_is)
      (case i7 => k_is)
      (case l7 => k_is)
      (case c7 => k_is)
      (case k7 => k_is)
      (case a8 => k_is)
      (case i8 => k_is)
      (case l8 => k_is)
      (case c8 => k_is)
      (case k8 => k_is)
      (case a9 => k_is)
      (case i9 => k_is)
      (case l9 => k_is)
      (case c9 => k_is)
      (case k9 => k_is)
      (case a10 => k_is)
      (case l10 => k_is)
      (case c10 => k_is)
      (case k10 => k_is)
      (case a11 => k_is)
      (case l11 => k_is)
      (case c11 => k_is)
      (case k11 => k_is)
      (case a12 => k_is)
      (case l12 => k_is)
      (case c12 => k_is)
      (case k12 => k_is)
      (case a13 => k_is)
      (case l13 => k_is)
      (case c13 => k_is)
      (case k13 => k_is)
      (case a14 => k_is)
      (case l14 => k_is)
      (case c14 => k_is)
      (case k14 => k_is)
      (case a15 => k_is)
      (case l15 => k_is)
      (case c15 => k_is)
      (case k15 => k_is)
      (case a16 => k_is)
      (case l16 => k_is)
      (case c16 => k_is)
      (case k16 => k_is)
      (case a17 => k_is)
      (case l17 => k_is)
      (case c17 => k_is)
      (case k17 => k_is)
      (case a18 => k_is)
      (case l18 => k_is)
      (case c18 => k_is)
      (case k18 => k_is)
      (case a19 => k_is)
      (case l19 => k_is)
      (case c19 => k_is)
      (case k19 => k_is)
      (case a20 => k_is)
      (case l20 => k_is)
      (case c20 => k_is)
      (case k20 => k_is)
      (case a21 => k_is)
      (case l21 => k_is)
      (case c21 => k_is)
      (case k21 => k_is)
      (case a22 => k_is)
      (case l22 => k_is)
      (case c22 => k_is)
      (case k22 => k_is)
      (case a23 => k_is)
      (case l23 => k_is)
      (case c23 => k_is)
      (case k23 => k_is)
      (case a24 => k_is)
      (case l24 => k_is)
      (case c24 => k_is)
      (case k24 => k_is)
      (case a25 => k_is)
      (case l25 => k_is)
      (case c25 => k_is)
      (case k25 => k_is)
      (case a26 => k_is)
      (case l26 => k_is)
      (case c26 => k_is)
      (case k26 => k_is)
      (case a27 => k_is)
      (case l27 => k_is)
      (case c27 => k_is)
      (case k27 => k_is)
      (case a28 => k_is)
      (case l28 => k_is)
      (case c28 => k_is)
      (case k28 => k_is)
      (case a29 => k_is)
      (case l29 => k_is)
      (case c29 => k_is)
      (case k29 => k_is)
      (case a30 => k_is)
      (case l30 => k_is)
      (case c30 => k_is)
      (case k30 => k_is)
      (case a31 => k_is)
      (case l31 => k_is)
      (case c31 => k_is)
      (case k31 => k_is)
      (case a32 => k_is)
      (case l32 => k_is)
      (case c32 => k_is)
      (case k32 => k_is)
      (case a33 => k_is)
      (case l33 => k_is)
      (case c33 => k_is)
      (case k33 => k_is)
      (case a34 => k_is)
      (case l34 => k_is)
      (case c34 => k_is)
      (case k34 => k_is)
      (case a35 => k_is)
      (case l35 => k_is)
      (case c35 => k_is)
      (case k35 => k_is)
      (case a36 => k_is)
      (case l36 => k_is)
      (case c36 => k_is)
      (case k36 => k_is)
      (case a37 => k_is)
      (case l37 => k_is)
      (case c37 => k_is)
      (case k37 => k_is)
      (case a38 => k_is)
      (case l38 => k_is)
      (case c38 => k_is)
      (case k38 => k_is)
      (case a39 => k_is)
      (case l39 => k_is)
      (case c39 => k_is)
      (case k39 => k_is)
      (case a40 => k_is)
      (case l40 => k_is)
      (case c40 => k_is)
      (case k40 => k_is)
      (case a41 => k_is)
      (case l41 => k_is)
      (case c41 => k_is)
      (case k41 => k_is)
      (case a42 => k_is)
      (case l42 => k_is)
      (case c42 => k_is)
      (case k42 => k_is)
      (case a43 => k_is)
      (case l43 => k_is)
      (case c43 => k_is)
      (case k43 => k_is)
      (case a44 => k_is)
      (case l44 => k_is)
      (case c44 => k_is)
      (case k44 => k_is)
      (case a45 => k_is)
      (case i45 => k_is)
      (case l45 => k_is)
      (case c45 => k_is)
      (case k45 => k_is)
      (case a46 => k_is)
      (case i46 => k_is)
      (case l46 => k_is)
      (case c46 => k_is)
      (case k46 => k_is)
      (case a47 => k_is)
      (case i47 => k_is)
      (case l47 => k_is)
      (case c47 => k_is)
      (case k47 => k_is)
      (case a48 => k_is)
      (case i48 => k_is)
      (case l48 => k_is)
      (case c48 => k_is)
      (case k48 => k_is)
      (case a49 => k_is)
      (case i49 => k_is)
      (case l49 => k_is)
      (case c49 => k_is)
      (case k49 => k_is)
      (case a50 => k_is)
      (case i50 => k_is)
      (case l50 => k_is)
      (case c50 => k_is)
      (case k50 => k_is)
      (case a51 => k_is)
      (case i51 => k_is)
      (case l51 => k_is)
      (case c51 => k_is)
      (case k51 => k_is)
      (case a52 => k_is)
      (case i52 => k_is)
      (case l52 => k_is)
      (case c52 => k_is)
      (case k52 => k_is)
      (case a53 => k_is)
      (case i53 => k_is)
      (case l53 => k_is)
      (case c53 => k_is)
      (case k53 => k_is)
      (case a54 => k_is)
      (case i54 => k_is)
      (case l54 => k_is)
      (case c54 => k_is)
      (case k54 => k_is)
      (case a55 => k_is)
      (case i55 => k_is)
      (case l55 => k_is)
      (case c55 => k_is)
      (case k55 => k_is)
      (case a56 => k_is)
      (case i56 => k_is)
      (case l56 => k_is)
      (case c56 => k_is)
      (case k56 => k_is)
      (case a57 => k_is)
      (case i57 => k_is)
      (case l57 => k_is)
      (case c57 => k_is)
      (case k57 => k_is)
      (case a58 => k_is)
      (case i58 => k_is)
      (case l58 => k_is)
      (case c58 => k_is)
      (case k58 => k_is)
      (case a59 => k_is)
      (case i59 => k_is)
      (case l59 => k_is)
      (case c59 => k_is)
      (case k59 => k_is)
      (case a60 => k_is)
      (case l60 => k_is)
      (case c60 => k_is)
      (case k60 => k_is)
      (case a61 => k_is)
      (case l61 => k_is)
      (case c61 => k_is)
      (case k61 => k_is)
      (case a62 => k_is)
      (case l62 => k_is)
      (case c62 => k_is)
      (case k62 => k_is)
      (case a63 => k_is)
      (case l63 => k_is)
      (case c63 => k_is)
      (case k63 => k_is)
      (case a64 => k_is)
      (case l64 => k_is)
      (case c64 => k_is)
      (case k64 => k_is)
      (case b_len => k_is)
      (case b_range => k_is)
      (case b_sum => k_is)
      (case b_all => k_is)
      (case ne => decide)
      (case aP => k_is)
      (case lP => k_is)
      (case aR => k_is)
      (case lR => k_is)
      (case g_NO_SUCH => k_is)
      (case g_CANNOT_BE_DONE => k_is)
      (case g_NOT_BEGUN => k_is)
      (case g_NOT_ALLOWED => k_is)
      (case g_TOO_MANY => k_is)
      (case g_AIM_NOT_MET => k_is)
      (case g_FEWEST_FACTS => k_is)
      (case g_MOST_FACTS => k_is)
      (case g_MOST_DEEDS => k_is)
      (case g_MOST_EVENTS => k_is)
      (case g_MOST_WEIGHT => k_is)
      (case g_MOST_BASE_STEPS => k_is)
      (case g_MOST_STEPS => k_is)
      (case g_NO_GUARD => k_is)
      (case g_NO_ROW => k_is)
      (case g_BEGIN => k_is)
      (case g_CHANGES => k_is)
      (case g_PRICE => k_is)
  case S =>
    intro K H xs a hO hwi hask hx
    cases hx with
    | cons h1 h2 =>
      cases h2
      cases h1 with
      | lst hs ha =>
        have e := L2.ints_dw a.1 _ ha
        subst e
        have q : ((Codec.inLen 0 1020 a.1 && a.1.all (Codec.inInt 0 4294967295)) && true) = true := hwi
        rw [Bool.and_eq_true, Bool.and_eq_true] at q
        exact LC.req hs (Codec.inNat_iff.mp q.1.1).2 (fun x hx => (Codec.inInt_iff.mp (List.all_eq_true.mp q.1.2 x hx)).1) hask (fun H' p hp => .lst (L2.SqL.of hp) (L2.dw_ints _))
#print axioms PySem.Challenge.cw_leastchange_s01_answers_holds
