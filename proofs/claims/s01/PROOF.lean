import PyProof.Rows.All
import Wide.All
import OpenK.AllK
import Wide.FinOn
import PyProof.EqAt
import PyProof.EqKinds
import PyProof.TupleCall
import Open.SpecLaws
import KE.OsGo
import HandS.Base
import HandS.Call
import HandS.List
import HandS.Comp
import HandS.Ends
import HandS.Iter
import HandS.Words
import HandS.WordsList
import HandS.Spec
import HandS.Wide
import PySem.Challenge.RW_figurefades_s01_answers
set_option Elab.async false
set_option linter.all false
set_option maxRecDepth 100000
set_option maxHeartbeats 2000000
set_option autoImplicit false
namespace FF
/-! ### The invariant of the specification's state -/
structure Wc (g : Ge05.House) : Prop where
  clip : ∀ c ∈ g.clips, 1 ≤ c.long ∧ c.long ≤ 99 ∧ c.events.length ≤ 6
  st : ∀ s ∈ g.states, s.clip < g.clips.length ∧ s.speed ≤ 9
structure Wf (g : Ge05.House) : Prop where
  c : Wc g
  way : ∀ w ∈ g.ways, w.to < g.states.length ∧ w.blend ≤ 50 ∧ w.conds.length ≤ 4 ∧ w.conds.all Ge05.condOk = true
  now : g.now.state < g.states.length ∧ g.now.at_ ≤ 9 * g.ticks
  fad : ∀ x ∈ g.fading, x.1.state < g.states.length ∧ x.1.at_ ≤ 9 * g.ticks ∧ x.2.2 < x.2.1 ∧ x.2.1 ≤ 50
  fl : g.fading.length ≤ g.ticks
  dis : g.fading.Pairwise fun x y => y.2.2 < x.2.2
  wl : g.ways.length ≤ 16
theorem clip_of_eq {g : Ge05.House} {s : Nat} {st : Ge05.State} {c : Ge05.Clip} (h1 : g.states[s]? = some st) (h2 : g.clips[st.clip]? = some c) : Ge05.clipOf g s = c := by
  unfold Ge05.clipOf
  rw [h1]
  show (g.clips[st.clip]?).getD _ = c
  rw [h2]
  rfl
theorem Wc.at_state {g : Ge05.House} (W : Wc g) {s : Nat} (h : s < g.states.length) : ∃ st c, g.states[s]? = some st ∧ g.clips[st.clip]? = some c ∧ Ge05.clipOf g s = c ∧ st ∈ g.states ∧ c ∈ g.clips := by
  have e1 : g.states[s]? = some g.states[s] := List.getElem?_eq_getElem h
  have m1 : g.states[s] ∈ g.states := List.getElem_mem h
  have h2 := (W.st _ m1).1
  have e2 : g.clips[(g.states[s]).clip]? = some g.clips[(g.states[s]).clip] := List.getElem?_eq_getElem h2
  exact ⟨_, _, e1, e2, clip_of_eq e1 e2, m1, List.getElem_mem h2⟩
theorem Wc.clip_ok {g : Ge05.House} (W : Wc g) {s : Nat} (h : s < g.states.length) : 1 ≤ (Ge05.clipOf g s).long ∧ (Ge05.clipOf g s).long ≤ 99 ∧ (Ge05.clipOf g s).events.length ≤ 6 := by
  obtain ⟨st, c, _, _, e, _, m⟩ := W.at_state h
  rw [e]
  exact W.clip c m
theorem down_len : ∀ {l : List (Ge05.Play × Nat × Nat)} {n : Nat}, (l.Pairwise fun x y => y.2.2 < x.2.2) → (∀ x ∈ l, x.2.2 < n) → l.length ≤ n
  | [], n, _, _ => Nat.zero_le _
  | a :: l, n, p, h => by
    have q := List.pairwise_cons.mp p
    have ih := down_len q.2 q.1
    have := h a List.mem_cons_self
    rw [List.length_cons]
    omega
theorem Wf.few {g : Ge05.House} (W : Wf g) : g.fading.length ≤ 50 := down_len W.dis fun x hx => by
  have := W.fad x hx
  omega
def fromOk (g : Ge05.House) (y : Ge05.Way) : Bool := match y.from_ with
  | none => y.to != g.now.state
  | some s => s == g.now.state
theorem may_eq (g : Ge05.House) (y : Ge05.Way) : Ge05.may g y = (fromOk g y && y.conds.all (Ge05.holds g)) := rfl
theorem fromOk_none {g : Ge05.House} {y : Ge05.Way} (h : y.from_ = none) : fromOk g y = (y.to != g.now.state) := by
  unfold fromOk
  rw [h]
theorem fromOk_some {g : Ge05.House} {y : Ge05.Way} {s : Nat} (h : y.from_ = some s) : fromOk g y = (s == g.now.state) := by
  unfold fromOk
  rw [h]
end FF
namespace FF
open Ge05 (House Play Way)
def adv (g : House) (x : Play × Nat × Nat) : Play × Nat × Nat := ((Ge05.played g x.1).1, x.2.1, x.2.2 + 1)
def alive (x : Play × Nat × Nat) : Bool := decide (x.2.2 < x.2.1)
def faded (g : House) : List (Play × Nat × Nat) := ((g.fading.map (adv g)).reverse.takeWhile alive).reverse
def counted (g : House) : House := { g with now := (Ge05.played g g.now).1 }
def unsignal (g : House) (y : Way) : List Nat := g.signals.filter fun s => !(Ge05.takenBy y).contains s
def taken (g : House) (y : Way) : House := { g with signals := unsignal g y, now := ⟨y.to, 0⟩, fading := if y.blend = 0 then [] else g.fading ++ [(g.now, y.blend, 0)] }
def later (g : House) : House := { g with ticks := g.ticks + 1 }
def ticked (g : House) : House := { g with now := (Ge05.played g g.now).1, fading := faded g, ticks := g.ticks + 1 }
theorem tick_eq (g : House) : Ge05.tick g = match (ticked g).ways.find? (Ge05.may (ticked g)) with
    | none => (ticked g, (Ge05.played g g.now).2, none)
    | some y => (taken (ticked g) y, (Ge05.played g g.now).2 ++ Ge05.eventsAt (Ge05.clipOf (ticked g) y.to) 0, some y.to) := rfl
theorem chain (g : House) : { counted (later g) with fading := faded (counted (later g)) } = ticked g := rfl
theorem played_at (g : House) (p : Play) : (Ge05.played g p).1.state = p.state := rfl
theorem played_le {g : House} (W : Wc g) (p : Play) : (Ge05.played g p).1.at_ ≤ p.at_ + 9 := by
  show p.at_ + ((g.states[p.state]?).map fun s => s.speed).getD 0 ≤ p.at_ + 9
  cases e : g.states[p.state]? with
  | none => simp
  | some s =>
    have := (W.st s (List.mem_of_getElem? e)).2
    simpa using this
theorem Wf.later {g : House} (W : Wf g) : Wf (later g) := by
  refine ⟨⟨W.c.clip, W.c.st⟩, W.way, ⟨W.now.1, ?_⟩, fun x hx => ?_, ?_, W.dis, W.wl⟩
  · have := W.now.2
    show g.now.at_ ≤ 9 * (g.ticks + 1)
    omega
  · obtain ⟨a, b, c, d⟩ := W.fad x hx
    exact ⟨a, (show x.1.at_ ≤ 9 * (g.ticks + 1) by omega), c, d⟩
  · have := W.fl
    show g.fading.length ≤ g.ticks + 1
    omega
theorem Wf.counted {g : House} (W : Wf g) : Wf (counted (FF.later g)) := by
  have L := W.later
  refine ⟨⟨W.c.clip, W.c.st⟩, W.way, ⟨W.now.1, ?_⟩, L.fad, L.fl, W.dis, W.wl⟩
  have a1 := W.now.2
  have a2 := played_le W.c g.now
  show (Ge05.played g g.now).1.at_ ≤ 9 * (g.ticks + 1)
  omega
theorem mem_tw {α : Type} {f : α → Bool} {x : α} : ∀ {l : List α}, x ∈ l.takeWhile f → x ∈ l ∧ f x = true
  | [], h => by simp at h
  | a :: l, h => by
    rw [List.takeWhile_cons] at h
    cases c : f a with
    | false => rw [c] at h; simp at h
    | true =>
      rw [c] at h
      simp only [if_true, List.mem_cons] at h
      rcases h with h | h
      · subst h
        exact ⟨List.mem_cons_self, c⟩
      · have := mem_tw h
        exact ⟨List.mem_cons_of_mem _ this.1, this.2⟩
theorem mem_faded {g : House} {x : Play × Nat × Nat} (h : x ∈ faded g) : ∃ y ∈ g.fading, x = adv g y ∧ alive x = true := by
  unfold faded at h
  have h2 := mem_tw (List.mem_reverse.mp h)
  have h3 := List.mem_reverse.mp h2.1
  obtain ⟨y, hy, e⟩ := List.mem_map.mp h3
  exact ⟨y, hy, e.symm, h2.2⟩
theorem tw_len {α : Type} (f : α → Bool) : ∀ l : List α, (l.takeWhile f).length ≤ l.length
  | [] => Nat.le_refl _
  | a :: l => by
    rw [List.takeWhile_cons]
    have := tw_len f l
    cases f a <;> simp <;> omega
theorem faded_len (g : House) : (faded g).length ≤ g.fading.length := by
  unfold faded
  rw [List.length_reverse]
  refine Nat.le_trans (tw_len _ _) ?_
  rw [List.length_reverse, List.length_map]
  exact Nat.le_refl _
theorem faded_down {g : House} (W : Wf g) : (faded g).Pairwise fun x y => y.2.2 < x.2.2 := by
  have p : (g.fading.map (adv g)).Pairwise fun x y => y.2.2 < x.2.2 := by
    rw [List.pairwise_map]
    exact List.Pairwise.imp (fun {x y} h => (by show y.2.2 + 1 < x.2.2 + 1; omega)) W.dis
  refine List.Pairwise.sublist ?_ p
  unfold faded
  have s := (List.takeWhile_sublist alive (l := (g.fading.map (adv g)).reverse)).reverse
  rw [List.reverse_reverse] at s
  exact s
theorem Wf.ticked {g : House} (W : Wf g) : Wf (ticked g) := by
  refine ⟨⟨W.c.clip, W.c.st⟩, W.way, W.counted.now, fun x hx => ?_, ?_, faded_down W, W.wl⟩
  · obtain ⟨y, hy, e, al⟩ := mem_faded (g := g) hx
    obtain ⟨a, b, c, d⟩ := W.fad y hy
    have p := played_le W.c y.1
    have al' := of_decide_eq_true al
    subst e
    exact ⟨a, (show (Ge05.played g y.1).1.at_ ≤ 9 * (g.ticks + 1) by omega), al', d⟩
  · have a1 := faded_len g
    have a2 := W.fl
    show (faded g).length ≤ g.ticks + 1
    omega
theorem Wf.taken {g : House} (W : Wf g) {y : Way} (hy : y ∈ g.ways) : Wf (FF.taken (FF.ticked g) y) := by
  have T := W.ticked
  obtain ⟨h1, h2, h3, h4⟩ := W.way y hy
  refine ⟨⟨W.c.clip, W.c.st⟩, W.way, ⟨h1, Nat.zero_le _⟩, fun x hx => ?_, ?_, ?_, W.wl⟩
  · by_cases z : y.blend = 0
    · have e : (FF.taken (FF.ticked g) y).fading = [] := by show (if y.blend = 0 then _ else _) = _; rw [if_pos z]
      rw [e] at hx
      cases hx
    · have e : (FF.taken (FF.ticked g) y).fading = (FF.ticked g).fading ++ [((FF.ticked g).now, y.blend, 0)] := by show (if y.blend = 0 then _ else _) = _; rw [if_neg z]
      rw [e] at hx
      rcases List.mem_append.mp hx with hx | hx
      · exact T.fad x hx
      · obtain rfl : x = ((FF.ticked g).now, y.blend, 0) := by simpa using hx
        exact ⟨T.now.1, T.now.2, (show 0 < y.blend by omega), h2⟩
  · have a1 := faded_len g
    have a2 := W.fl
    show (if y.blend = 0 then [] else faded g ++ [((FF.ticked g).now, y.blend, 0)]).length ≤ g.ticks + 1
    split
    · exact Nat.zero_le _
    · rw [List.length_append]
      simp
      omega
  · show (if y.blend = 0 then [] else faded g ++ [((FF.ticked g).now, y.blend, 0)]).Pairwise _
    split
    · exact .nil
    · refine List.pairwise_append.mpr ⟨faded_down W, List.pairwise_singleton _ _, fun a ha b hb => ?_⟩
      obtain ⟨z, _, e, _⟩ := mem_faded ha
      obtain rfl : b = ((FF.ticked g).now, y.blend, 0) := by simpa using hb
      rw [e]
      exact Nat.succ_pos _
theorem Wf.tick {g : House} (W : Wf g) : Wf (Ge05.tick g).1 := by
  rw [tick_eq]
  cases e : (FF.ticked g).ways.find? (Ge05.may (FF.ticked g)) with
  | none => exact W.ticked
  | some y => exact W.taken (List.mem_of_find?_eq_some e)
theorem tick_ticks (g : House) : (Ge05.tick g).1.ticks = g.ticks + 1 := by
  rw [tick_eq]
  cases e : (FF.ticked g).ways.find? (Ge05.may (FF.ticked g)) <;> rfl
theorem tick_sigs (g : House) : (Ge05.tick g).1.signals.length ≤ g.signals.length := by
  rw [tick_eq]
  cases e : (FF.ticked g).ways.find? (Ge05.may (FF.ticked g)) with
  | none => exact Nat.le_refl _
  | some y => exact List.length_filter_le _ _
end FF
namespace FF
open Ge05 (House Play Way)
/-! ### a call's numbers -/
def condN : Ge05.Cond → List Nat
  | .atLeast v n => [0, v, n]
  | .atMost v n => [1, v, n]
  | .signal s => [2, s]
  | .over => [3]
def flatC (cs : List Ge05.Cond) : List Nat := cs.flatMap condN
def flat2 (evs : List (Nat × Nat)) : List Nat := evs.flatMap fun e => [e.1, e.2]
def bitN (b : Bool) : Nat := if b = true then 1 else 0
def fromN : Option Nat → Nat
  | none => 0
  | some s => s + 1
def numOf : Ge05.Call → Nat
  | .clip _ => 0
  | .state _ => 1
  | .way _ => 2
  | .set _ _ => 3
  | .signal _ => 4
  | .ticks _ => 5
  | .shown => 6
  | .may => 7
  | .goto _ => 8
  | .now => 9
  | .values => 10
def plainOf : Ge05.Call → List Nat
  | .clip c => [c.long, bitN c.round]
  | .state s => [s.clip, s.speed]
  | .way y => [fromN y.from_, y.to, y.blend]
  | .set v n => [v, n]
  | .signal s => [s]
  | .ticks n => [n]
  | .goto s => [s]
  | _ => []
def rowOf : Ge05.Call → List Nat
  | .clip c => flat2 c.events
  | .way y => flatC y.conds
  | _ => []
def Bd (n : Nat) (g : House) : Prop := g.ticks ≤ 100 * n ∧ g.signals.length ≤ n
/-! ### the invariant over ticks and calls -/
theorem many_wf : ∀ (n : Nat) {g : House}, Wf g → Wf (Ge05.many n g).1 ∧ (Ge05.many n g).1.ticks = g.ticks + n ∧ (Ge05.many n g).1.signals.length ≤ g.signals.length
  | 0, g, W => ⟨W, rfl, Nat.le_refl _⟩
  | n + 1, g, W => by
    obtain ⟨h1, h2, h3⟩ := many_wf n W.tick
    refine ⟨h1, ?_, Nat.le_trans h3 (tick_sigs g)⟩
    show (Ge05.many n (Ge05.tick g).1).1.ticks = _
    rw [h2, tick_ticks]
    omega
theorem step_way (g : House) (y : Way) : Ge05.step g (.way y) = if 50 < y.blend ∨ 4 < y.conds.length ∨ y.conds.all Ge05.condOk = false then (g, [-1]) else if g.states.length < fromN y.from_ ∨ g.states.length ≤ y.to then (g, [-2]) else if 16 ≤ g.ways.length then (g, [-5]) else ({ g with ways := g.ways ++ [y] }, Ge05.ints [g.ways.length]) := by
  cases hf : y.from_ with
  | none => simp only [Ge05.step, hf, fromN, Nat.not_lt_zero, false_or, Bool.false_eq_true, or_false]
  | some s =>
    have e : (g.states.length ≤ y.to ∨ decide (g.states.length ≤ s) = true) = (g.states.length < s + 1 ∨ g.states.length ≤ y.to) := by
      rw [decide_eq_true_eq]
      exact propext ⟨fun h => by omega, fun h => by omega⟩
    simp only [Ge05.step, hf, fromN, e]
    congr
theorem step_wf {g : House} (W : Wf g) (x : Ge05.Call) : Wf (Ge05.step g x).1 := by
  cases x with
  | clip c =>
    simp only [Ge05.step]
    split
    · exact W
    · split
      · exact W
      · rename_i h1 h2
        refine ⟨⟨fun d hd => ?_, fun s hs => ?_⟩, W.way, W.now, W.fad, W.fl, W.dis, W.wl⟩
        · rcases List.mem_append.mp hd with hd | hd
          · exact W.c.clip d hd
          · obtain rfl : d = c := by simpa using hd
            omega
        · have := W.c.st s hs
          exact ⟨(by show s.clip < (g.clips ++ [c]).length; rw [List.length_append]; omega), this.2⟩
  | state s =>
    simp only [Ge05.step]
    split
    · exact W
    · split
      · exact W
      · split
        · exact W
        · rename_i h1 h2 h3
          have ll : (g.states ++ [s]).length = g.states.length + 1 := by simp
          refine ⟨⟨W.c.clip, fun d hd => ?_⟩, fun y hy => ?_, ?_, fun y hy => ?_, W.fl, W.dis, W.wl⟩
          · rcases List.mem_append.mp hd with hd | hd
            · exact W.c.st d hd
            · obtain rfl : d = s := by simpa using hd
              exact ⟨(show d.clip < g.clips.length by omega), by omega⟩
          · have := W.way y hy
            exact ⟨(show y.to < (g.states ++ [s]).length by rw [ll]; omega), this.2⟩
          · exact ⟨(show g.now.state < (g.states ++ [s]).length by have := W.now.1; rw [ll]; omega), W.now.2⟩
          · have := W.fad y hy
            exact ⟨(show y.1.state < (g.states ++ [s]).length by rw [ll]; omega), this.2⟩
  | way y =>
    rw [step_way]
    split
    · exact W
    · split
      · exact W
      · split
        · exact W
        · rename_i h1 h2 h3
          refine ⟨⟨W.c.clip, W.c.st⟩, fun z hz => ?_, W.now, W.fad, W.fl, W.dis, (by show (g.ways ++ [y]).length ≤ 16; rw [List.length_append, List.length_singleton]; omega)⟩
          rcases List.mem_append.mp hz with hz | hz
          · exact W.way z hz
          · obtain rfl : z = y := by simpa using hz
            refine ⟨(show z.to < g.states.length by omega), by omega, by omega, ?_⟩
            cases q : z.conds.all Ge05.condOk with
            | true => rfl
            | false => exact absurd (.inr (.inr q)) h1
  | set v n =>
    simp only [Ge05.step]
    split
    · exact W
    · exact ⟨⟨W.c.clip, W.c.st⟩, W.way, W.now, W.fad, W.fl, W.dis, W.wl⟩
  | signal s =>
    simp only [Ge05.step]
    split
    · exact W
    · exact ⟨⟨W.c.clip, W.c.st⟩, W.way, W.now, W.fad, W.fl, W.dis, W.wl⟩
  | ticks n =>
    simp only [Ge05.step]
    split
    · exact W
    · exact (many_wf n W).1
  | shown => exact W
  | may => exact W
  | goto s =>
    simp only [Ge05.step]
    split
    · exact W
    · refine ⟨⟨W.c.clip, W.c.st⟩, W.way, ⟨(show s < g.states.length by omega), Nat.zero_le _⟩, fun y hy => ?_, Nat.zero_le _, .nil, W.wl⟩
      cases hy
  | now => exact W
  | values => exact W
theorem step_bd {g : House} {n : Nat} (W : Wf g) (B : Bd n g) (x : Ge05.Call) : Bd (n + 1) (Ge05.step g x).1 := by
  obtain ⟨b1, b2⟩ := B
  have same : Bd (n + 1) g := ⟨by omega, by omega⟩
  cases x with
  | clip c =>
    simp only [Ge05.step]
    split
    · exact same
    · split
      · exact same
      · exact same
  | state s =>
    simp only [Ge05.step]
    split
    · exact same
    · split
      · exact same
      · split
        · exact same
        · exact same
  | way y =>
    rw [step_way]
    split
    · exact same
    · split
      · exact same
      · split
        · exact same
        · exact same
  | set v n =>
    simp only [Ge05.step]
    split
    · exact same
    · exact same
  | signal s =>
    simp only [Ge05.step]
    split
    · exact same
    · refine ⟨same.1, ?_⟩
      show (if g.signals.contains s = true then g.signals else g.signals ++ [s]).length ≤ n + 1
      split
      · omega
      · rw [List.length_append]
        simp
        omega
  | ticks m =>
    simp only [Ge05.step]
    split
    · exact same
    · have := many_wf m W
      refine ⟨?_, ?_⟩
      · show (Ge05.many m g).1.ticks ≤ _
        rw [this.2.1]
        omega
      · show (Ge05.many m g).1.signals.length ≤ _
        have := this.2.2
        omega
  | shown => exact same
  | may => exact same
  | goto s =>
    simp only [Ge05.step]
    split
    · exact same
    · exact same
  | now => exact same
  | values => exact same
theorem init_wf : Wf Ge05.init := by
  refine ⟨⟨fun c hc => ?_, fun s hs => ?_⟩, fun y hy => ?_, ⟨by decide, Nat.zero_le _⟩, fun x hx => ?_, Nat.zero_le _, .nil, Nat.zero_le _⟩
  · obtain rfl : c = ⟨1, true, []⟩ := by simpa [Ge05.init] using hc
    decide
  · obtain rfl : s = ⟨0, 1⟩ := by simpa [Ge05.init] using hs
    decide
  · cases hy
  · cases hx
end FF
namespace FF
open Ge05 (House Play Way)
/-! ### settings -/
def look (vs : List (Nat × Nat)) (u : Nat) : Nat := ((vs.find? fun x => x.1 == u).map fun x => x.2).getD 0
theorem look_skip (v u : Nat) (h : u ≠ v) : ∀ (vs : List (Nat × Nat)) (t : List (Nat × Nat)), ((vs.filter fun x => x.1 != v) ++ t).find? (fun x => x.1 == u) = (vs ++ t).find? fun x => x.1 == u
  | [], t => rfl
  | a :: r, t => by
    have ih := look_skip v u h r t
    by_cases z : a.1 = v
    · have e1 : (a.1 != v) = false := by simp [z]
      have e2 : (a.1 == u) = false := by
        rw [z]
        simpa using fun q => h q.symm
      rw [List.filter_cons, e1, List.cons_append, List.find?_cons, e2]
      exact ih
    · have e1 : (a.1 != v) = true := by simpa using z
      rw [List.filter_cons, e1]
      show (a :: ((r.filter fun x => x.1 != v) ++ t)).find? _ = (a :: (r ++ t)).find? _
      rw [List.find?_cons, List.find?_cons, ih]
theorem look_gone (v : Nat) : ∀ vs : List (Nat × Nat), (vs.filter fun x => x.1 != v).find? (fun x => x.1 == v) = none
  | vs => by
    rw [List.find?_eq_none]
    intro x hx
    have := (List.mem_filter.mp hx).2
    simpa using this
theorem look_set (vs : List (Nat × Nat)) (v n u : Nat) : look ((vs.filter fun x => x.1 != v) ++ [(v, n)]) u = if u = v then n else look vs u := by
  unfold look
  by_cases h : u = v
  · subst h
    rw [List.find?_append, look_gone, if_pos rfl]
    simp
  · rw [look_skip v u h, if_neg h, List.find?_append]
    have e : ([(v, n)] : List (Nat × Nat)).find? (fun x => x.1 == u) = none := by
      rw [List.find?_eq_none]
      intro x hx
      obtain rfl : x = (v, n) := by simpa using hx
      simpa using fun q => h q.symm
    rw [e]
    simp
/-! ### many ticks, from their end -/
def rowN (x : Nat × List Nat × Option Nat) : List Nat := [x.1, Ge05.optRow x.2.2, x.2.1.length] ++ x.2.1
def told (g : House) : List (Nat × List Nat × Option Nat) := if (Ge05.tick g).2.1 = [] ∧ (Ge05.tick g).2.2 = none then [] else [((Ge05.tick g).1.ticks, (Ge05.tick g).2.1, (Ge05.tick g).2.2)]
theorem many_first (n : Nat) (g : House) : Ge05.many (n + 1) g = ((Ge05.many n (Ge05.tick g).1).1, told g ++ (Ge05.many n (Ge05.tick g).1).2) := rfl
theorem many_last : ∀ (n : Nat) (g : House), Ge05.many (n + 1) g = ((Ge05.tick (Ge05.many n g).1).1, (Ge05.many n g).2 ++ told (Ge05.many n g).1)
  | 0, g => by
    rw [many_first]
    show ((Ge05.tick g).1, told g ++ []) = ((Ge05.tick g).1, [] ++ told g)
    rw [List.append_nil, List.nil_append]
  | n + 1, g => by
    rw [many_first (n + 1) g, many_last n (Ge05.tick g).1, many_first n g]
    simp only [List.append_assoc]
theorem step_ticks {g : House} {n : Nat} (h : ¬ 100 < n) : Ge05.step g (.ticks n) = ((Ge05.many n g).1, Ge05.ints ((Ge05.many n g).2.length :: (Ge05.many n g).2.flatMap rowN)) := by
  show (if 100 < n then (g, [-1]) else _) = _
  rw [if_neg h]
  rfl
end FF
namespace FF
open Ge05 (House Play Way)
/-! ### the list of calls, read back -/
theorem pairsIn_enc : ∀ (l : List Nat) (e : List (Nat × Nat)), Ge05Neutral.pairsIn l = some e → l = flat2 e
  | [], e, h => by
    simp [Ge05Neutral.pairsIn] at h
    subst h
    rfl
  | [a], e, h => by simp [Ge05Neutral.pairsIn] at h
  | a :: b :: l, e, h => by
    simp [Ge05Neutral.pairsIn] at h
    obtain ⟨r, hr, rfl⟩ := h
    rw [pairsIn_enc l r hr]
    rfl
theorem condsIn_enc : ∀ (n : Nat) (l : List Nat) (e : List Ge05.Cond), l.length ≤ n → Ge05Neutral.condsIn l = some e → l = flatC e
  | n, [], e, hl, h => by
    simp [Ge05Neutral.condsIn] at h
    subst h
    rfl
  | 0, a :: l, e, hl, h => by simp at hl
  | n + 1, a :: l, e, hl, h => by
    unfold Ge05Neutral.condsIn at h
    split at h
    · rename_i q
      cases q
    · rename_i v m l' q
      cases q
      cases z : Ge05Neutral.condsIn l' with
      | none => rw [z] at h; cases h
      | some r =>
        rw [z] at h
        obtain rfl := Option.some.inj h
        rw [condsIn_enc n l' r (by simp at hl; omega) z]
        rfl
    · rename_i v m l' q
      cases q
      cases z : Ge05Neutral.condsIn l' with
      | none => rw [z] at h; cases h
      | some r =>
        rw [z] at h
        obtain rfl := Option.some.inj h
        rw [condsIn_enc n l' r (by simp at hl; omega) z]
        rfl
    · rename_i v l' q
      cases q
      cases z : Ge05Neutral.condsIn l' with
      | none => rw [z] at h; cases h
      | some r =>
        rw [z] at h
        obtain rfl := Option.some.inj h
        rw [condsIn_enc n l' r (by simp at hl; omega) z]
        rfl
    · rename_i l' q
      cases q
      cases z : Ge05Neutral.condsIn l with
      | none => rw [z] at h; cases h
      | some r =>
        rw [z] at h
        obtain rfl := Option.some.inj h
        rw [condsIn_enc n l r (by simp at hl; omega) z]
        rfl
    · cases h
theorem bit_enc {r : Nat} {b : Bool} (h : Ge05Neutral.bit r = some b) : r = bitN b := by
  unfold Ge05Neutral.bit at h
  split at h
  · obtain rfl := Option.some.inj h
    assumption
  · split at h
    · obtain rfl := Option.some.inj h
      assumption
    · cases h
theorem callIn_enc {l : List Nat} {x : Ge05.Call} (h : Ge05Neutral.callIn l = some x) : l = numOf x :: (plainOf x ++ rowOf x) := by
  unfold Ge05Neutral.callIn at h
  split at h
  · rename_i n r l'
    cases z : Ge05Neutral.bit r with
    | none => rw [z] at h; cases h
    | some b =>
      rw [z] at h
      have h : (Ge05Neutral.pairsIn l').map (fun e => Ge05.Call.clip ⟨n, b, e⟩) = some x := h
      cases y : Ge05Neutral.pairsIn l' with
      | none => rw [y] at h; cases h
      | some e =>
        rw [y] at h
        obtain rfl := Option.some.inj h
        rw [pairsIn_enc l' e y, bit_enc z]
        rfl
  · obtain rfl := Option.some.inj h
    rfl
  · rename_i f t b l'
    cases y : Ge05Neutral.condsIn l' with
    | none => rw [y] at h; cases h
    | some e =>
      rw [y] at h
      obtain rfl := Option.some.inj h
      rw [condsIn_enc l'.length l' e (Nat.le_refl _) y]
      by_cases q : f = 0
      · subst q
        rfl
      · show 2 :: f :: t :: b :: flatC e = 2 :: fromN (if f = 0 then none else some (f - 1)) :: t :: b :: flatC e
        rw [if_neg q]
        show 2 :: f :: t :: b :: flatC e = 2 :: (f - 1 + 1) :: t :: b :: flatC e
        rw [Nat.sub_add_cancel (by omega)]
  · obtain rfl := Option.some.inj h
    rfl
  · obtain rfl := Option.some.inj h
    rfl
  · obtain rfl := Option.some.inj h
    rfl
  · obtain rfl := Option.some.inj h
    rfl
  · obtain rfl := Option.some.inj h
    rfl
  · obtain rfl := Option.some.inj h
    rfl
  · obtain rfl := Option.some.inj h
    rfl
  · obtain rfl := Option.some.inj h
    rfl
  · cases h
def toI (l : List Nat) : List Int := l.map fun (n : Nat) => (n : Int)
theorem nat_back {l : List Int} (h : l.all Ge05Neutral.nat = true) : toI (l.map Int.toNat) = l := by
  unfold toI
  rw [List.map_map]
  have e : ∀ z ∈ l, ((fun (n : Nat) => (n : Int)) ∘ Int.toNat) z = id z := fun z hz => by
    have q := List.all_eq_true.mp h z hz
    unfold Ge05Neutral.nat at q
    have := of_decide_eq_true (Bool.and_eq_true_iff.mp q).1
    show ((z.toNat : Nat) : Int) = z
    omega
  rw [List.map_congr_left e, List.map_id]
theorem callOf_enc {l : List Int} {x : Ge05.Call} (h : Ge05Neutral.callOf l = some x) : l = toI (numOf x :: (plainOf x ++ rowOf x)) := by
  unfold Ge05Neutral.callOf at h
  split at h
  · cases h
  · rename_i q
    have q : l.all Ge05Neutral.nat = true := by
      cases z : l.all Ge05Neutral.nat with
      | true => rfl
      | false => exact absurd z q
    rw [← callIn_enc h, nat_back q]
def hasRow : Ge05.Call → Bool
  | .clip _ => true
  | .way _ => true
  | _ => false
def encN (x : Ge05.Call) : List Nat := numOf x :: (plainOf x ++ (if hasRow x = true then (rowOf x).length :: rowOf x else []))
theorem call_parts {shape : Int → Option (Nat × Nat)} {p : Int} {r t : List Int} {c : List (List Int)} {n k : Nat} (hs : shape p = some (n, k)) (h : PyFlat.call shape (p :: r) = some (c, t)) : n ≤ r.length ∧ ∃ xs, PyFlat.rows k (r.drop n) = some (xs, t) ∧ c = (p :: r.take n) :: xs := by
  have h : (match shape p with
    | none => none
    | some (n, k) => if r.length < n then none else match PyFlat.rows k (r.drop n) with
      | none => none
      | some (xs, t) => some ((p :: r.take n) :: xs, t)) = some (c, t) := h
  rw [hs] at h
  have h : (if r.length < n then none else match PyFlat.rows k (r.drop n) with
      | none => none
      | some (xs, t) => some ((p :: r.take n) :: xs, t)) = some (c, t) := h
  by_cases hl : r.length < n
  · rw [if_pos hl] at h
    cases h
  · rw [if_neg hl] at h
    cases z : PyFlat.rows k (r.drop n) with
    | none => rw [z] at h; cases h
    | some q =>
      rw [z] at h
      obtain ⟨xs, t'⟩ := q
      have h : some ((p :: r.take n) :: xs, t') = some (c, t) := h
      have e := Option.some.inj h
      injection e with e1 e2
      subst e1 e2
      exact ⟨by omega, xs, rfl, rfl⟩
theorem row_one {l t : List Int} {xs : List (List Int)} (h : PyFlat.rows 1 l = some (xs, t)) : ∃ x0, xs = [x0] ∧ l = (x0.length : Int) :: (x0 ++ t) := by
  cases l with
  | nil => cases h
  | cons m q =>
    by_cases c : 0 ≤ m ∧ m.toNat ≤ q.length
    · have e : PyFlat.row (m :: q) = some (q.take m.toNat, q.drop m.toNat) := by
        show (if 0 ≤ m ∧ m.toNat ≤ q.length then some (q.take m.toNat, q.drop m.toNat) else none) = _
        rw [if_pos c]
      have h : (match PyFlat.row (m :: q) with
        | none => none
        | some (x, s) => match PyFlat.rows 0 s with
          | none => none
          | some (xs, t) => some (x :: xs, t)) = some (xs, t) := h
      rw [e] at h
      have h : some ([q.take m.toNat], q.drop m.toNat) = some (xs, t) := h
      have e2 := Option.some.inj h
      injection e2 with e3 e4
      subst e3 e4
      refine ⟨_, rfl, ?_⟩
      rw [List.take_append_drop, List.length_take, Nat.min_eq_left c.2, Int.toNat_of_nonneg c.1]
    · have e : PyFlat.row (m :: q) = none := by
        show (if 0 ≤ m ∧ m.toNat ≤ q.length then some (q.take m.toNat, q.drop m.toNat) else none) = _
        rw [if_neg c]
      have h : (match PyFlat.row (m :: q) with
        | none => none
        | some (x, s) => match PyFlat.rows 0 s with
          | none => none
          | some (xs, t) => some (x :: xs, t)) = some (xs, t) := h
      rw [e] at h
      cases h
theorem no_row {x : Ge05.Call} (h0 : numOf x ≠ 0) (h2 : numOf x ≠ 2) : hasRow x = false ∧ rowOf x = [] := by
  cases x with
  | clip c => exact absurd rfl h0
  | way y => exact absurd rfl h2
  | _ => exact ⟨rfl, rfl⟩
theorem toI_app (a b : List Nat) : toI (a ++ b) = toI a ++ toI b := List.map_append ..
theorem flat_call {p : Int} {l t : List Int} {x : Ge05.Call} (eh : p :: l = toI (numOf x :: (plainOf x ++ rowOf x))) (h0 : p ≠ 0) (h2 : p ≠ 2) : p :: (l ++ t) = toI (encN x) ++ t ∧ (rowOf x).length ≤ 100 := by
  have e1 : p = ((numOf x : Nat) : Int) := (List.cons.inj eh).1
  obtain ⟨n1, n2⟩ := no_row (x := x) (fun z => h0 (by rw [e1, z]; rfl)) (fun z => h2 (by rw [e1, z]; rfl))
  refine ⟨?_, by rw [n2]; exact Nat.zero_le _⟩
  unfold encN
  rw [n1]
  rw [n2] at eh
  show p :: (l ++ t) = toI (numOf x :: (plainOf x ++ [])) ++ t
  rw [← eh]
  rfl
/-- one call read off -/
theorem call_one {p : Int} {r t : List Int} {c : List (List Int)} {x : Ge05.Call} (h : PyFlat.call PyGe05.shape (p :: r) = some (c, t)) (hx : Ge05Neutral.callOf ((PyGe05.whole c).headD []) = some x) (hin : PyInside.call PyGe05.bound c = true) :
    p :: r = toI (encN x) ++ t ∧ (rowOf x).length ≤ 100 := by
  have eh := callOf_enc hx
  have none0 : ∀ {l t' : List Int} {xs : List (List Int)}, PyFlat.rows 0 l = some (xs, t') → xs = [] ∧ l = t' := fun h => by
    have e := Option.some.inj h
    injection e with e1 e2
    exact ⟨e1.symm, e2⟩
  by_cases p0 : p = 0
  · subst p0
    obtain ⟨hn, xs, hr, rfl⟩ := call_parts (n := 2) (k := 1) rfl h
    match r, hn with
    | a :: b :: q, _ =>
      obtain ⟨x0, rfl, e⟩ := row_one hr
      have e : q = (x0.length : Int) :: (x0 ++ t) := e
      have eh : (0 : Int) :: a :: b :: x0 = toI (numOf x :: (plainOf x ++ rowOf x)) := eh
      have en : numOf x = 0 := by
        have z := (List.cons.inj eh).1
        have z : (0 : Int) = ((numOf x : Nat) : Int) := z
        omega
      cases x with
      | clip y =>
        have eh : (0 : Int) :: a :: b :: x0 = 0 :: (y.long : Int) :: ((bitN y.round : Nat) : Int) :: toI (flat2 y.events) := eh
        injection eh with _ eh
        injection eh with e1 eh
        injection eh with e2 e3
        have hl : x0.length = (flat2 y.events).length := by rw [e3]; exact List.length_map ..
        refine ⟨?_, ?_⟩
        · rw [e, e1, e2, hl, e3]
          rfl
        · show (flat2 y.events).length ≤ 100
          rw [← hl]
          have q1 : (PyInside.each [(0, 4294967295), (0, 1)] [a, b] && (decide (0 ≤ x0.length) && decide (x0.length ≤ 100) && x0.all (PyInside.within 0 4294967295) && true)) = true := hin
          simp only [Bool.and_eq_true, decide_eq_true_eq] at q1
          exact q1.2.1.1.2
      | _ => cases en
  by_cases p2 : p = 2
  · subst p2
    obtain ⟨hn, xs, hr, rfl⟩ := call_parts (n := 3) (k := 1) rfl h
    match r, hn with
    | a :: b :: d :: q, _ =>
      obtain ⟨x0, rfl, e⟩ := row_one hr
      have e : q = (x0.length : Int) :: (x0 ++ t) := e
      have eh : (2 : Int) :: a :: b :: d :: x0 = toI (numOf x :: (plainOf x ++ rowOf x)) := eh
      have en : numOf x = 2 := by
        have z := (List.cons.inj eh).1
        have z : (2 : Int) = ((numOf x : Nat) : Int) := z
        omega
      cases x with
      | way y =>
        have eh : (2 : Int) :: a :: b :: d :: x0 = 2 :: ((fromN y.from_ : Nat) : Int) :: (y.to : Int) :: (y.blend : Int) :: toI (flatC y.conds) := eh
        injection eh with _ eh
        injection eh with e1 eh
        injection eh with e2 eh
        injection eh with e4 e3
        have hl : x0.length = (flatC y.conds).length := by rw [e3]; exact List.length_map ..
        refine ⟨?_, ?_⟩
        · rw [e, e1, e2, e4, hl, e3]
          rfl
        · show (flatC y.conds).length ≤ 100
          rw [← hl]
          have q1 : (PyInside.each [(0, 4294967295), (0, 4294967295), (0, 4294967295)] [a, b, d] && (decide (0 ≤ x0.length) && decide (x0.length ≤ 100) && x0.all (PyInside.within 0 4294967295) && true)) = true := hin
          simp only [Bool.and_eq_true, decide_eq_true_eq] at q1
          exact q1.2.1.1.2
      | _ => cases en
  have two : ∀ q : Int, p = q → PyGe05.shape q = some (2, 0) → (∀ a b, (PyGe05.whole [[q, a, b]]).headD [] = [q, a, b]) → p :: r = toI (encN x) ++ t ∧ (rowOf x).length ≤ 100 := by
    intro q hq hs hw
    subst hq
    obtain ⟨hn, xs, hr, rfl⟩ := call_parts hs h
    obtain ⟨rfl, e⟩ := none0 hr
    match r, hn with
    | a :: b :: q', _ =>
      have e : q' = t := e
      subst e
      exact flat_call (l := [a, b]) ((hw a b).symm.trans eh) p0 p2
  have one : ∀ q : Int, p = q → PyGe05.shape q = some (1, 0) → (∀ a, (PyGe05.whole [[q, a]]).headD [] = [q, a]) → p :: r = toI (encN x) ++ t ∧ (rowOf x).length ≤ 100 := by
    intro q hq hs hw
    subst hq
    obtain ⟨hn, xs, hr, rfl⟩ := call_parts hs h
    obtain ⟨rfl, e⟩ := none0 hr
    match r, hn with
    | a :: q', _ =>
      have e : q' = t := e
      subst e
      exact flat_call (l := [a]) ((hw a).symm.trans eh) p0 p2
  have zero : ∀ q : Int, p = q → PyGe05.shape q = some (0, 0) → (PyGe05.whole [[q]]).headD [] = [q] → p :: r = toI (encN x) ++ t ∧ (rowOf x).length ≤ 100 := by
    intro q hq hs hw
    subst hq
    obtain ⟨hn, xs, hr, rfl⟩ := call_parts hs h
    obtain ⟨rfl, e⟩ := none0 hr
    have e : r = t := e
    subst e
    exact flat_call (l := []) (hw.symm.trans eh) p0 p2
  by_cases p1 : p = 1
  · exact two 1 p1 rfl fun _ _ => rfl
  by_cases p3 : p = 3
  · exact two 3 p3 rfl fun _ _ => rfl
  by_cases p4 : p = 4
  · exact one 4 p4 rfl fun _ => rfl
  by_cases p5 : p = 5
  · exact one 5 p5 rfl fun _ => rfl
  by_cases p6 : p = 6
  · exact zero 6 p6 rfl rfl
  by_cases p7 : p = 7
  · exact zero 7 p7 rfl rfl
  by_cases p8 : p = 8
  · exact one 8 p8 rfl fun _ => rfl
  by_cases p9 : p = 9
  · exact zero 9 p9 rfl rfl
  by_cases p10 : p = 10
  · exact zero 10 p10 rfl rfl
  have hs : PyGe05.shape p = none := by
    unfold PyGe05.shape
    rw [if_neg p0, if_neg p1, if_neg p2, if_neg p3, if_neg p4, if_neg p5, if_neg p6, if_neg p7, if_neg p8, if_neg p9, if_neg p10]
  have h : (match PyGe05.shape p with
    | none => none
    | some (n, k) => if r.length < n then none else match PyFlat.rows k (r.drop n) with
      | none => none
      | some (xs, t) => some ((p :: r.take n) :: xs, t)) = some (c, t) := h
  rw [hs] at h
  cases h
def run : House → List Ge05.Call → List Int
  | _, [] => []
  | g, x :: r => ((Ge05.step g x).2.length : Int) :: ((Ge05.step g x).2 ++ run (Ge05.step g x).1 r)
theorem calls_all : ∀ (f : Nat) (l : List Int) (raw : List (List (List Int))), PyFlat.calls PyGe05.shape f l = some raw → (∀ c ∈ raw, (Ge05Neutral.callOf ((PyGe05.whole c).headD [])).isSome = true) → (∀ c ∈ raw, PyInside.call PyGe05.bound c = true) →
    ∃ xs : List Ge05.Call, xs.length = raw.length ∧ l = toI (xs.flatMap encN) ∧ (∀ x ∈ xs, (rowOf x).length ≤ 100) ∧ ∀ g, PyFlat.told (PyFlat.played (fun s c => Ge05Neutral.step s (c.headD [])) g (raw.map PyGe05.whole)) = run g xs
  | f, [], raw, h, _, _ => by
    have h : some [] = some raw := by
      cases f <;> exact h
    obtain rfl := Option.some.inj h
    exact ⟨[], rfl, rfl, (fun x hx => by cases hx), fun g => rfl⟩
  | 0, p :: r, raw, h, _, _ => by cases h
  | f + 1, p :: r, raw, h, ha, hi => by
    have h : (match PyFlat.call PyGe05.shape (p :: r) with
      | none => none
      | some (c, t) => match PyFlat.calls PyGe05.shape f t with
        | none => none
        | some cs => some (c :: cs)) = some raw := h
    cases z : PyFlat.call PyGe05.shape (p :: r) with
    | none => rw [z] at h; cases h
    | some q =>
      obtain ⟨c, t⟩ := q
      rw [z] at h
      have h : (match PyFlat.calls PyGe05.shape f t with
        | none => none
        | some cs => some (c :: cs)) = some raw := h
      cases y : PyFlat.calls PyGe05.shape f t with
      | none => rw [y] at h; cases h
      | some cs =>
        rw [y] at h
        obtain rfl := Option.some.inj h
        obtain ⟨xs, h1, h2, h3, h4⟩ := calls_all f t cs y (fun d hd => ha d (List.mem_cons_of_mem _ hd)) (fun d hd => hi d (List.mem_cons_of_mem _ hd))
        obtain ⟨x, hx⟩ := Option.isSome_iff_exists.mp (ha c List.mem_cons_self)
        obtain ⟨e1, e2⟩ := call_one z hx (hi c List.mem_cons_self)
        refine ⟨x :: xs, by rw [List.length_cons, List.length_cons, h1], ?_, fun d hd => ?_, fun g => ?_⟩
        · rw [e1, List.flatMap_cons, toI_app, ← h2]
        · rcases List.mem_cons.mp hd with hd | hd
          · rw [hd]
            exact e2
          · exact h3 d hd
        · have e3 : Ge05Neutral.step g ((PyGe05.whole c).headD []) = Ge05.step g x := by
            unfold Ge05Neutral.step
            rw [hx]
          have e4 := h4 (Ge05.step g x).1
          show (((Ge05Neutral.step g ((PyGe05.whole c).headD [])).2.length : Int) :: (Ge05Neutral.step g ((PyGe05.whole c).headD [])).2) ++ PyFlat.told (PyFlat.played _ (Ge05Neutral.step g ((PyGe05.whole c).headD [])).1 (cs.map PyGe05.whole)) = _
          rw [e3, e4]
          rfl
/-- what is handed in, read back: the calls, and what is due -/
theorem decode {ns : List Int} (h : PyGe05.answers_asked ns = true) : ∃ xs : List Ge05.Call, ns = toI (xs.flatMap encN) ∧ xs.length ≤ 40 ∧ (∀ x ∈ xs, (rowOf x).length ≤ 100) ∧ PyGe05.answers ns = run Ge05.init xs ∧ (run Ge05.init xs).length ≤ 10000000 := by
  unfold PyGe05.answers_asked at h
  cases z : PyFlat.calls PyGe05.shape ns.length ns with
  | none => rw [z] at h; cases h
  | some raw =>
    rw [z] at h
    have h : (!raw.isEmpty && PyFlat.atMost 40 raw && PyInside.calls PyGe05.bound raw && Ge05Neutral.asked ((raw.map PyGe05.whole).map fun c => c.headD []) && PyFlat.short 10000000 (PyGe05.answers ns)) = true := h
    simp only [Bool.and_eq_true] at h
    obtain ⟨⟨⟨⟨_, h40⟩, hin⟩, hask⟩, hsh⟩ := h
    have h40 := of_decide_eq_true h40
    have hin := List.all_eq_true.mp hin
    unfold Ge05Neutral.asked at hask
    have hall := List.all_eq_true.mp (Bool.and_eq_true_iff.mp hask).1
    obtain ⟨xs, h1, h2, h3, h4⟩ := calls_all ns.length ns raw z (fun c hc => hall _ (List.mem_map.mpr ⟨PyGe05.whole c, List.mem_map.mpr ⟨c, hc, rfl⟩, rfl⟩)) hin
    have e : PyGe05.answers ns = run Ge05.init xs := by
      have : PyGe05.calls ns = some (raw.map PyGe05.whole) := by
        unfold PyGe05.calls
        rw [z]
      unfold PyGe05.answers
      rw [this]
      exact h4 Ge05.init
    have hsh := of_decide_eq_true hsh
    rw [e] at hsh
    exact ⟨xs, h2, by omega, h3, e, hsh⟩
end FF
namespace FF
open PySem L2
/-! ### 1. The text by places -/
def top (i : Nat) : Stmt := PySem.Challenge.pw_figurefades_s01_answers.main.body.getD i (.Pass ⟨0, 0, 0, 0⟩)

/-! ### 2. Lists -/
theorem paired_get {α β : Type} {R : α → β → Prop} : ∀ {as : List α} {bs : List β}, Paired R as bs → ∀ {i : Nat} {b : β}, bs[i]? = some b → ∃ a, as[i]? = some a ∧ R a b
  | _, _, .nil, i, b, h => by simp at h
  | _, _, .cons r t, 0, b, h => by
    simp at h
    subst h
    exact ⟨_, rfl, r⟩
  | _, _, .cons r t, i + 1, b, h => by
    have h' : _ := h
    rw [List.getElem?_cons_succ] at h'
    obtain ⟨a, e, q⟩ := paired_get t h'
    exact ⟨a, by rw [List.getElem?_cons_succ]; exact e, q⟩
theorem paired_getL {α β : Type} {R : α → β → Prop} : ∀ {as : List α} {bs : List β}, Paired R as bs → ∀ {i : Nat} {a : α}, as[i]? = some a → ∃ b, bs[i]? = some b ∧ R a b
  | _, _, .nil, i, b, h => by simp at h
  | _, _, .cons r t, 0, b, h => by
    simp at h
    subst h
    exact ⟨_, rfl, r⟩
  | _, _, .cons r t, i + 1, b, h => by
    have h' : _ := h
    rw [List.getElem?_cons_succ] at h'
    obtain ⟨a, e, q⟩ := paired_getL t h'
    exact ⟨a, by rw [List.getElem?_cons_succ]; exact e, q⟩
theorem take_more {α : Type} : ∀ {l : List α} {i : Nat} {x : α}, l[i]? = some x → l.take (i + 1) = l.take i ++ [x]
  | [], i, x, h => by simp at h
  | a :: l, 0, x, h => by
    have e : a = x := Option.some.inj h
    subst e
    rfl
  | a :: l, i + 1, x, h => by
    have ih := take_more (l := l) (i := i) (x := x) h
    show a :: l.take (i + 1) = a :: l.take i ++ [x]
    rw [ih]
    rfl
theorem map_get {α : Type} {f : α → V} {l : List α} {i : Nat} {y : V} (h : (l.map f)[i]? = some y) : ∃ x, l[i]? = some x ∧ y = f x := by
  rw [List.getElem?_map] at h
  cases e : l[i]? with
  | none => rw [e] at h; cases h
  | some x => rw [e] at h; exact ⟨x, rfl, (Option.some.inj h).symm⟩
theorem mem_get {α : Type} {l : List α} {i : Nat} {x : α} (h : l[i]? = some x) : x ∈ l := List.mem_of_getElem? h
theorem lt_get {α : Type} {l : List α} {i : Nat} {x : α} (h : l[i]? = some x) : i < l.length := (List.getElem?_eq_some_iff.mp h).1

/-! ### 3. Heaps: the part of a heap beside a footprint -/
def off (F : List Addr) (H : Hp) : Hp := fun b => if b ∈ F then none else H b
theorem off_of {F : List Addr} {H : Hp} {b : Addr} {o : HO} (h : H b = some o) (n : b ∉ F) : off F H b = some o := by
  unfold off
  rw [if_neg n]
  exact h
theorem off_some {F : List Addr} {H : Hp} {b : Addr} {o : HO} (h : off F H b = some o) : b ∉ F ∧ H b = some o := by
  unfold off at h
  by_cases c : b ∈ F
  · rw [if_pos c] at h
    cases h
  · rw [if_neg c] at h
    exact ⟨c, h⟩
theorem off_in {F : List Addr} {H : Hp} {p : Addr} {o : HO} (hp : p ∈ F) : off F (upd H p o) = off F H := by
  funext b
  unfold off
  by_cases c : b ∈ F
  · rw [if_pos c, if_pos c]
  · rw [if_neg c, if_neg c]
    exact upd_ne fun e => c (e ▸ hp)
theorem off_sub {F : List Addr} {H : Hp} : Same (off F H) H := fun _ _ h => (off_some h).2
theorem same_off {F : List Addr} {H H' : Hp} (s : Same H H') : Same (off F H) (off F H') := fun b o h => off_of (s b o (off_some h).2) (off_some h).1
theorem same_new {H : Hp} {p : Addr} {o : HO} (h : H p = none) : Same H (upd H p o) := fun b u e => by
  rw [upd_ne (ne_of_none e h)]
  exact e
/-! ### 4. The figure in the heap -/
structure Cs where
  cl : Addr
  st : Addr
  wy : Addr
  fd : Addr
  fg : Addr
structure Ft where
  a : Addr
  lc : Addr
  ls : Addr
  lw : Addr
  lv : Addr
  lg : Addr
  lf : Addr
  x : List Addr
/-- the figure's own changing objects, and those that its callers hold -/
def Ft.s (F : Ft) : List Addr := [F.a, F.lc, F.ls, F.lw, F.lv, F.lg, F.lf]
def Ft.l (F : Ft) : List Addr := F.s ++ F.x
theorem mem_l {F : Ft} {p : Addr} (h : p ∈ F.s) : p ∈ F.l := List.mem_append_left _ h
theorem mem_x {F : Ft} {p : Addr} (h : p ∈ F.x) : p ∈ F.l := List.mem_append_right _ h
/-- all that stood beside the footprint stands, and beside the new one; what the callers hold is as it was -/
structure Kept (F : Ft) (H : Hp) (F' : Ft) (H' : Hp) : Prop where
  sm : Same (off F.l H) (off F'.l H')
  ex : F'.x = F.x
  own : ∀ p ∈ F.x, ∀ o, H p = some o → H' p = some o
theorem Kept.trans {F F1 F2 : Ft} {H H1 H2 : Hp} (a : Kept F H F1 H1) (b : Kept F1 H1 F2 H2) : Kept F H F2 H2 :=
  ⟨Same.trans a.sm b.sm, b.ex.trans a.ex, fun p hp o e => b.own p (a.ex.symm ▸ hp) o (a.own p hp o e)⟩
theorem Kept.refl (F : Ft) (H : Hp) : Kept F H F H := ⟨Same.refl _, rfl, fun _ _ _ e => e⟩
theorem Kept.of_same {F : Ft} {H H' : Hp} (s : Same H H') : Kept F H F H' := ⟨same_off s, rfl, fun _ _ _ e => s _ _ e⟩
theorem Kept.get {F F' : Ft} {H H' : Hp} (k : Kept F H F' H') {b : Addr} {o : HO} (h : H b = some o) (n : b ∉ F.l) : H' b = some o ∧ b ∉ F'.l :=
  have q := off_some (k.sm b o (off_of h n))
  ⟨q.2, q.1⟩
def b2n (b : Bool) : Int := if b = true then 1 else 0
def cF (n r : Int) (e : V) : List (Str × V) := [("pictures", .int n), ("goes_round", .int r), ("events", e)]
def sF (c s : Int) : List (Str × V) := [("clip", .int c), ("speed", .int s)]
def wF (f t b : Int) (e : V) : List (Str × V) := [("leads_from", .int f), ("leads_to", .int t), ("blend", .int b), ("conditions", e)]
def dF (s c h t : Int) : List (Str × V) := [("state", .int s), ("count", .int c), ("had", .int h), ("takes", .int t)]
def fF (F : Ft) (p c t : Int) : List (Str × V) := [("clips", .ref F.lc), ("states", .ref F.ls), ("ways", .ref F.lw), ("settings", .ref F.lv), ("signals", .ref F.lg), ("plays", .int p), ("count", .int c), ("fades", .ref F.lf), ("ticks", .int t)]
def evV (e : Nat × Nat) : List V := [.int e.1, .int e.2]
def condV : Ge05.Cond → List V
  | .atLeast v n => [.int 0, .int v, .int n]
  | .atMost v n => [.int 1, .int v, .int n]
  | .signal s => [.int 2, .int s]
  | .over => [.int 3]
def fromV : Option Nat → Int
  | none => 0
  | some s => (s : Int) + 1
/-- a list of tuples at e -/
def TupsAt (H : Hp) (e : Addr) (ls : List (List V)) : Prop := ∃ ts : List Addr, H e = some (.lst (ts.map V.ref)) ∧ Paired (fun t l => H t = some (.tup l)) ts ls
def ClipAt (C : Cs) (H : Hp) (p : Addr) (c : Ge05.Clip) : Prop := ∃ dx e, H p = some (.ins C.cl dx (cF c.long (b2n c.round) (.ref e))) ∧ TupsAt H e (c.events.map evV)
def StateAt (C : Cs) (H : Hp) (p : Addr) (s : Ge05.State) : Prop := ∃ dx, H p = some (.ins C.st dx (sF s.clip s.speed))
def WayAt (C : Cs) (H : Hp) (p : Addr) (w : Ge05.Way) : Prop := ∃ dx e, H p = some (.ins C.wy dx (wF (fromV w.from_) w.to w.blend (.ref e))) ∧ TupsAt H e (w.conds.map condV)
def FadeAt (C : Cs) (H : Hp) (p : Addr) (x : Ge05.Play × Nat × Nat) : Prop := ∃ dx, H p = some (.ins C.fd dx (dF x.1.state x.1.at_ x.2.2 x.2.1))
structure FigAt (C : Cs) (F : Ft) (H : Hp) (g : Ge05.House) : Prop where
  nd : F.l.Nodup
  fig : ∃ dx, H F.a = some (.ins C.fg dx (fF F g.now.state g.now.at_ g.ticks))
  clips : ∃ ps : List Addr, H F.lc = some (.lst (ps.map V.ref)) ∧ Paired (ClipAt C (off F.l H)) ps g.clips
  states : ∃ ps : List Addr, H F.ls = some (.lst (ps.map V.ref)) ∧ Paired (StateAt C (off F.l H)) ps g.states
  ways : ∃ ps : List Addr, H F.lw = some (.lst (ps.map V.ref)) ∧ Paired (WayAt C (off F.l H)) ps g.ways
  vals : H F.lv = some (.lst ((List.range 10).map fun v => V.int (Ge05.valueOf g v)))
  sigs : H F.lg = some (.lst (g.signals.map fun (n : Nat) => V.int n))
  fads : ∃ ps : List Addr, H F.lf = some (.lst (ps.map V.ref)) ∧ Paired (FadeAt C (off F.l H)) ps g.fading.reverse
  own : ∀ p ∈ F.x, ∃ o, H p = some o
theorem FigAt.nds {C : Cs} {F : Ft} {H : Hp} {g : Ge05.House} (h : FigAt C F H g) : F.s.Nodup := (List.nodup_append.mp h.nd).1
theorem FigAt.apart {C : Cs} {F : Ft} {H : Hp} {g : Ge05.House} (h : FigAt C F H g) {p q : Addr} (hp : p ∈ F.s) (hq : q ∈ F.x) : p ≠ q := (List.nodup_append.mp h.nd).2.2 p hp q hq
theorem FigAt.kput {C : Cs} {F : Ft} {H : Hp} {g : Ge05.House} (h : FigAt C F H g) {p : Addr} {o : HO} {H' : Hp} (hp : p ∈ F.s) : Kept F H' F (upd H' p o) := by
  refine ⟨?_, rfl, fun q hq u e => ?_⟩
  · rw [off_in (mem_l hp)]
    exact Same.refl _
  · rw [upd_ne (Ne.symm (h.apart hp hq))]
    exact e
theorem tracked {H : Hp} {p q : Addr} {u : HO} (h : ∃ o, H q = some o) : ∃ o, upd H p u q = some o := by
  by_cases e : q = p
  · subst e
    exact ⟨u, upd_same⟩
  · rw [upd_ne e]
    exact h
theorem TupsAt.mono {H H' : Hp} (s : Same H H') {e : Addr} {ls : List (List V)} (h : TupsAt H e ls) : TupsAt H' e ls := by
  obtain ⟨ts, h1, h2⟩ := h
  exact ⟨ts, s _ _ h1, Paired.mapP h2 fun a b q => s _ _ q⟩
theorem ClipAt.mono {C : Cs} {H H' : Hp} (s : Same H H') {p : Addr} {c : Ge05.Clip} (h : ClipAt C H p c) : ClipAt C H' p c := by
  obtain ⟨dx, e, h1, h2⟩ := h
  exact ⟨dx, e, s _ _ h1, h2.mono s⟩
theorem StateAt.mono {C : Cs} {H H' : Hp} (s : Same H H') {p : Addr} {c : Ge05.State} (h : StateAt C H p c) : StateAt C H' p c := by
  obtain ⟨dx, h1⟩ := h
  exact ⟨dx, s _ _ h1⟩
theorem WayAt.mono {C : Cs} {H H' : Hp} (s : Same H H') {p : Addr} {c : Ge05.Way} (h : WayAt C H p c) : WayAt C H' p c := by
  obtain ⟨dx, e, h1, h2⟩ := h
  exact ⟨dx, e, s _ _ h1, h2.mono s⟩
theorem FadeAt.mono {C : Cs} {H H' : Hp} (s : Same H H') {p : Addr} {c : Ge05.Play × Nat × Nat} (h : FadeAt C H p c) : FadeAt C H' p c := by
  obtain ⟨dx, h1⟩ := h
  exact ⟨dx, s _ _ h1⟩
theorem FigAt.same {C : Cs} {F : Ft} {H H' : Hp} {g : Ge05.House} (s : Same H H') (h : FigAt C F H g) : FigAt C F H' g := by
  obtain ⟨nd, ⟨dx, f⟩, ⟨p1, c1, c2⟩, ⟨p2, s1, s2⟩, ⟨p3, w1, w2⟩, v, g1, ⟨p4, d1, d2⟩, ow⟩ := h
  have so := same_off (F := F.l) s
  exact ⟨nd, ⟨dx, s _ _ f⟩, ⟨p1, s _ _ c1, Paired.mapP c2 fun _ _ q => q.mono so⟩, ⟨p2, s _ _ s1, Paired.mapP s2 fun _ _ q => q.mono so⟩, ⟨p3, s _ _ w1, Paired.mapP w2 fun _ _ q => q.mono so⟩, s _ _ v, s _ _ g1, ⟨p4, s _ _ d1, Paired.mapP d2 fun _ _ q => q.mono so⟩, fun p hp => (ow p hp).elim fun o e => ⟨o, s _ _ e⟩⟩
/-- every address of the footprint is tracked -/
theorem FigAt.mem {C : Cs} {F : Ft} {H : Hp} {g : Ge05.House} (h : FigAt C F H g) {p : Addr} (hp : p ∈ F.l) : ∃ o, H p = some o := by
  obtain ⟨nd, ⟨dx, f⟩, ⟨p1, c1, _⟩, ⟨p2, s1, _⟩, ⟨p3, w1, _⟩, v, g1, ⟨p4, d1, _⟩, ow⟩ := h
  rcases List.mem_append.mp hp with hp | hp
  rotate_left
  · exact ow p hp
  unfold Ft.s at hp
  simp only [List.mem_cons, List.not_mem_nil, or_false] at hp
  rcases hp with e | e | e | e | e | e | e <;> subst e
  · exact ⟨_, f⟩
  · exact ⟨_, c1⟩
  · exact ⟨_, s1⟩
  · exact ⟨_, w1⟩
  · exact ⟨_, v⟩
  · exact ⟨_, g1⟩
  · exact ⟨_, d1⟩
theorem FigAt.notin {C : Cs} {F : Ft} {H : Hp} {g : Ge05.House} (h : FigAt C F H g) {p : Addr} (hp : H p = none) : p ∉ F.l := fun m => by
  obtain ⟨o, e⟩ := h.mem m
  rw [hp] at e
  cases e

/-! ### 5. Attributes by name -/
theorem lk_here {k : Str} {v : V} {r : List (Str × V)} : List.lookup k ((k, v) :: r) = some v := by
  have e : (k == k) = true := beq_self_eq_true k
  simp only [List.lookup, e]
theorem lk_past {k g : Str} {v : V} {r : List (Str × V)} (h : (k == g) = false) : List.lookup k ((g, v) :: r) = List.lookup k r := by
  simp only [List.lookup, h]
theorem put_here {f : Str} {v x : V} {r : List (Str × V)} : putF f v ((f, x) :: r) = (f, v) :: r := if_pos rfl
theorem put_past {f g : Str} {v x : V} {r : List (Str × V)} (h : ¬ g = f) : putF f v ((g, x) :: r) = (g, x) :: putF f v r := if_neg h
section
variable {n r : Int} {e : V} {F : Ft} {p c t h b f s : Int}
theorem cF_pictures : (cF n r e).lookup ("pictures" : Str) = some (.int n) := lk_here
theorem cF_goes : (cF n r e).lookup ("goes_round" : Str) = some (.int r) := (lk_past (by decide +kernel)).trans lk_here
theorem cF_events : (cF n r e).lookup ("events" : Str) = some e := (lk_past (by decide +kernel)).trans ((lk_past (by decide +kernel)).trans lk_here)
theorem sF_clip : (sF c s).lookup ("clip" : Str) = some (.int c) := lk_here
theorem sF_speed : (sF c s).lookup ("speed" : Str) = some (.int s) := (lk_past (by decide +kernel)).trans lk_here
theorem wF_from : (wF f t b e).lookup ("leads_from" : Str) = some (.int f) := lk_here
theorem wF_to : (wF f t b e).lookup ("leads_to" : Str) = some (.int t) := (lk_past (by decide +kernel)).trans lk_here
theorem wF_blend : (wF f t b e).lookup ("blend" : Str) = some (.int b) := (lk_past (by decide +kernel)).trans ((lk_past (by decide +kernel)).trans lk_here)
theorem wF_conds : (wF f t b e).lookup ("conditions" : Str) = some e := (lk_past (by decide +kernel)).trans ((lk_past (by decide +kernel)).trans ((lk_past (by decide +kernel)).trans lk_here))
theorem dF_state : (dF s c h t).lookup ("state" : Str) = some (.int s) := lk_here
theorem dF_count : (dF s c h t).lookup ("count" : Str) = some (.int c) := (lk_past (by decide +kernel)).trans lk_here
theorem dF_had : (dF s c h t).lookup ("had" : Str) = some (.int h) := (lk_past (by decide +kernel)).trans ((lk_past (by decide +kernel)).trans lk_here)
theorem dF_takes : (dF s c h t).lookup ("takes" : Str) = some (.int t) := (lk_past (by decide +kernel)).trans ((lk_past (by decide +kernel)).trans ((lk_past (by decide +kernel)).trans lk_here))
theorem fF_clips : (fF F p c t).lookup ("clips" : Str) = some (.ref F.lc) := lk_here
theorem fF_states : (fF F p c t).lookup ("states" : Str) = some (.ref F.ls) := (lk_past (by decide +kernel)).trans lk_here
theorem fF_ways : (fF F p c t).lookup ("ways" : Str) = some (.ref F.lw) := (lk_past (by decide +kernel)).trans ((lk_past (by decide +kernel)).trans lk_here)
theorem fF_settings : (fF F p c t).lookup ("settings" : Str) = some (.ref F.lv) := (lk_past (by decide +kernel)).trans ((lk_past (by decide +kernel)).trans ((lk_past (by decide +kernel)).trans lk_here))
theorem fF_signals : (fF F p c t).lookup ("signals" : Str) = some (.ref F.lg) := (lk_past (by decide +kernel)).trans ((lk_past (by decide +kernel)).trans ((lk_past (by decide +kernel)).trans ((lk_past (by decide +kernel)).trans lk_here)))
theorem fF_plays : (fF F p c t).lookup ("plays" : Str) = some (.int p) := (lk_past (by decide +kernel)).trans ((lk_past (by decide +kernel)).trans ((lk_past (by decide +kernel)).trans ((lk_past (by decide +kernel)).trans ((lk_past (by decide +kernel)).trans lk_here))))
theorem fF_count : (fF F p c t).lookup ("count" : Str) = some (.int c) := (lk_past (by decide +kernel)).trans ((lk_past (by decide +kernel)).trans ((lk_past (by decide +kernel)).trans ((lk_past (by decide +kernel)).trans ((lk_past (by decide +kernel)).trans ((lk_past (by decide +kernel)).trans lk_here)))))
theorem fF_fades : (fF F p c t).lookup ("fades" : Str) = some (.ref F.lf) := (lk_past (by decide +kernel)).trans ((lk_past (by decide +kernel)).trans ((lk_past (by decide +kernel)).trans ((lk_past (by decide +kernel)).trans ((lk_past (by decide +kernel)).trans ((lk_past (by decide +kernel)).trans ((lk_past (by decide +kernel)).trans lk_here))))))
theorem fF_ticks : (fF F p c t).lookup ("ticks" : Str) = some (.int t) := (lk_past (by decide +kernel)).trans ((lk_past (by decide +kernel)).trans ((lk_past (by decide +kernel)).trans ((lk_past (by decide +kernel)).trans ((lk_past (by decide +kernel)).trans ((lk_past (by decide +kernel)).trans ((lk_past (by decide +kernel)).trans ((lk_past (by decide +kernel)).trans lk_here)))))))
theorem fF_len : (fF F p c t).length < 1000 := by show 9 < 1000; decide
theorem fF_putSignals {D : Addr} : putF "signals" (.ref D) (fF F p c t) = fF { F with lg := D } p c t :=
  (put_past (by decide +kernel)).trans (congrArg _ ((put_past (by decide +kernel)).trans (congrArg _ ((put_past (by decide +kernel)).trans (congrArg _ ((put_past (by decide +kernel)).trans (congrArg _ put_here)))))))
theorem fF_putPlays {x : Int} : putF "plays" (.int x) (fF F p c t) = fF F x c t :=
  (put_past (by decide +kernel)).trans (congrArg _ ((put_past (by decide +kernel)).trans (congrArg _ ((put_past (by decide +kernel)).trans (congrArg _ ((put_past (by decide +kernel)).trans (congrArg _ ((put_past (by decide +kernel)).trans (congrArg _ put_here)))))))))
theorem fF_putCount {x : Int} : putF "count" (.int x) (fF F p c t) = fF F p x t :=
  (put_past (by decide +kernel)).trans (congrArg _ ((put_past (by decide +kernel)).trans (congrArg _ ((put_past (by decide +kernel)).trans (congrArg _ ((put_past (by decide +kernel)).trans (congrArg _ ((put_past (by decide +kernel)).trans (congrArg _ ((put_past (by decide +kernel)).trans (congrArg _ put_here)))))))))))
theorem fF_putFades {D : Addr} : putF "fades" (.ref D) (fF F p c t) = fF { F with lf := D } p c t :=
  (put_past (by decide +kernel)).trans (congrArg _ ((put_past (by decide +kernel)).trans (congrArg _ ((put_past (by decide +kernel)).trans (congrArg _ ((put_past (by decide +kernel)).trans (congrArg _ ((put_past (by decide +kernel)).trans (congrArg _ ((put_past (by decide +kernel)).trans (congrArg _ ((put_past (by decide +kernel)).trans (congrArg _ put_here)))))))))))))
theorem fF_putTicks {x : Int} : putF "ticks" (.int x) (fF F p c t) = fF F p c x :=
  (put_past (by decide +kernel)).trans (congrArg _ ((put_past (by decide +kernel)).trans (congrArg _ ((put_past (by decide +kernel)).trans (congrArg _ ((put_past (by decide +kernel)).trans (congrArg _ ((put_past (by decide +kernel)).trans (congrArg _ ((put_past (by decide +kernel)).trans (congrArg _ ((put_past (by decide +kernel)).trans (congrArg _ ((put_past (by decide +kernel)).trans (congrArg _ put_here)))))))))))))))
end
end FF
namespace FF
open PySem PySem.Spec PyProof.Rows L2
/-! ### 6. Own words: a def of the module that keeps a promise; a class that may be made -/
structure Cal (P : Program) (w : World) (K : PySem.W.Frag) (mg : Str → Option Value) (base : Heap) (k : Nat) (x : Str) (sp : Sp) : Prop where
  ex : ∃ (f : Addr) (fd : FuncData) (ps : List Str), FnOk P w K mg base CX0 k f fd ps sp ∧ mg x = some (.ref f) ∧ PySem.W.keepIn K (.ref f) = true ∧ Binds K fd ps []
structure Def (K : PySem.W.Frag) (mg : Str → Option Value) (x : Str) (st : Stmt) (ps : List Str) : Prop where
  ex : ∃ (f : Addr) (fd : FuncData), Fun K x x st f fd ∧ mg x = some (.ref f) ∧ Binds K fd ps []
structure Mak (P : Program) (w : World) (K : PySem.W.Frag) (mg : Str → Option Value) (base : Heap) (k : Nat) (x : Str) (C : Addr) (sp : Sp) : Prop where
  ex : ∃ (f : Addr) (fd : FuncData) (ps : List Str), Mk K C f ∧ FnOk P w K mg base CX0 k f fd ps sp ∧ mg x = some (.ref C) ∧ Binds K fd ps []
structure DefI (K : PySem.W.Frag) (mg : Str → Option Value) (x q : Str) (C : Addr) (st : Stmt) (ps : List Str) : Prop where
  ex : ∃ (f : Addr) (fd : FuncData), Mk K C f ∧ Fun K "__init__" q st f fd ∧ mg x = some (.ref C) ∧ Binds K fd ps []
section
variable {P : Program} {w : World} {K : PySem.W.Frag} {mg : Str → Option Value} {base : Heap}
theorem cal_of {x : Str} {st : Stmt} {N ps : List Str} {k : Nat} {sp : Sp} (D : Def K mg x st ps) (S : FnScope N ps (defScope st)) (len : ∀ vs H Q E, sp vs H Q E → vs.length = ps.length)
    (hbody : ∀ (f : Addr) (cdv : Value) (A : Around) (outer : List Env) (s : Shared) (H : Hp) (vs : List V) (Q : VK) (E : XK), Room k (A.deeper (envOfC x (defScope st) s.heap.objs.size f cdv)) → sp vs H Q E →
      ∃ t, PSs (cxOf CX0 P w K mg base N x (defScope st) f cdv A outer s H E).nox (defBody st) t ∧ t { nx := fun _ H' => Q .non H', rt := Q } (start N vs) H) : Cal P w K mg base (k + 1) x sp := by
  obtain ⟨f, fd, F, hm, b⟩ := D.ex
  exact ⟨f, fd, ps, F.ok S len (hbody f), hm, F.kp, b⟩
theorem mak_of {x q : Str} {C : Addr} {st : Stmt} {N ps : List Str} {k : Nat} {sp : Sp} (D : DefI K mg x q C st ps) (S : FnScope N ps (defScope st)) (len : ∀ vs H Q E, sp vs H Q E → vs.length = ps.length)
    (hbody : ∀ (f : Addr) (cdv : Value) (A : Around) (outer : List Env) (s : Shared) (H : Hp) (vs : List V) (Q : VK) (E : XK), Room k (A.deeper (envOfC q (defScope st) s.heap.objs.size f cdv)) → sp vs H Q E →
      ∃ t, PSs (cxOf CX0 P w K mg base N q (defScope st) f cdv A outer s H E).nox (defBody st) t ∧ t { nx := fun _ H' => Q .non H', rt := Q } (start N vs) H) : Mak P w K mg base (k + 1) x C sp := by
  obtain ⟨f, fd, M, F, hm, b⟩ := D.ex
  exact ⟨f, fd, ps, M, F.ok S len (hbody f), hm, b⟩
end
/-- an if whose test is known -/
theorem ifT {c : Bool} {A B : Prop} (hc : c = true) (h : A) : if c = true then A else B := by
  rw [if_pos hc]
  exact h
theorem ifF {c : Bool} {A B : Prop} (hc : c = false) (h : B) : if c = true then A else B := by
  rw [hc, if_neg Bool.false_ne_true]
  exact h
section
variable {X : Cx} {k j : Nat} {C : Addr} {x : Str} {sp : Sp} {p pos : Pos} {e : Expr} {es : List Expr} {t : TA}
def tCl (sp : Sp) (t : TA) : TE := fun σ H Q => t σ H fun vs H1 => sp vs H1 Q E0
def tMk (C : Addr) (sp : Sp) (t : TA) : TE := fun σ H Q => t σ H fun vs H1 => ∀ x dx, H1 x = none → H1 dx = none → dx ≠ x → sp (.ref x :: vs) (upd (upd H1 dx (.own x)) x (.ins C dx [])) (fun v H2 => v = .non ∧ Q (.ref x) H2) E0
theorem pe_weak {e : Expr} {t u : TE} (h : PE X e t) (k : ∀ σ H Q, u σ H Q → t σ H Q) : PE X e u := ⟨fun pins s σ H Q I q => h.run pins s σ H Q I (k σ H Q q)⟩
theorem pe_c (c : Cal X.prog X.w X.K X.mg X.base k x sp) (hr : Room j X.A) (ha : PA X (e :: es) t) (hk : k ≤ j := by decide) (hg : Gl X x := by rfl)
    (hdb : (x == ("__debug__" : Str)) = false := by decide) (he : starEach (e :: es) X.env = (false, eval e X.env) :: starEach es X.env := by rfl) (hpl : (backTo pos (starEach es X.env)).any (·.1) = false := by rfl) :
    PE X (.Call (.Name x p) (e :: es) [] pos) (tCl sp t) := by
  obtain ⟨f, fd, ps, F, hm, kp, b⟩ := c.ex
  refine pe_weak (pe_call F (hr.mono hk) hg hm kp b .nil pass0 ha hdb he hpl) fun σ H Q q => ?_
  have e0 : (fun (vs : List V) (H1 : Hp) => sp (vs ++ []) H1 Q E0) = fun vs H1 => sp vs H1 Q E0 := by
    funext vs H1
    rw [List.append_nil]
  show t σ H (fun vs H1 => sp (vs ++ []) H1 Q E0)
  rw [e0]
  exact q
theorem pe_mk (c : Mak X.prog X.w X.K X.mg X.base k x C sp) (hr : Room j X.A) (ha : PA X (e :: es) t) (hk : k + 1 ≤ j := by decide) (hg : Gl X x := by rfl)
    (hdb : (x == ("__debug__" : Str)) = false := by decide) (he : starEach (e :: es) X.env = (false, eval e X.env) :: starEach es X.env := by rfl) (hpl : (backTo pos (starEach es X.env)).any (·.1) = false := by rfl) :
    PE X (.Call (.Name x p) (e :: es) [] pos) (tMk C sp t) := by
  obtain ⟨f, fd, ps, M, F, hm, b⟩ := c.ex
  refine pe_weak (pe_make M F (hr.mono hk) hg hm b .nil pass0 ha hdb he hpl) fun σ H Q q => ?_
  have e0 : (fun (vs : List V) (H1 : Hp) => ∀ x dx, H1 x = none → H1 dx = none → dx ≠ x → sp (.ref x :: (vs ++ [])) (upd (upd H1 dx (.own x)) x (.ins C dx [])) (fun v H2 => v = .non ∧ Q (.ref x) H2) E0) = fun vs H1 => ∀ x dx, H1 x = none → H1 dx = none → dx ≠ x → sp (.ref x :: vs) (upd (upd H1 dx (.own x)) x (.ins C dx [])) (fun v H2 => v = .non ∧ Q (.ref x) H2) E0 := by
    funext vs H1
    rw [List.append_nil]
  show t σ H (fun vs H1 => ∀ x dx, H1 x = none → H1 dx = none → dx ≠ x → sp (.ref x :: (vs ++ [])) (upd (upd H1 dx (.own x)) x (.ins C dx [])) (fun v H2 => v = .non ∧ Q (.ref x) H2) E0)
  rw [e0]
  exact q
theorem pe_mk0 (c : Mak X.prog X.w X.K X.mg X.base k x C sp) (hr : Room j X.A) (hk : k + 1 ≤ j := by decide) (hg : Gl X x := by rfl) (hdb : (x == ("__debug__" : Str)) = false := by decide) :
    PE X (.Call (.Name x p) [] [] pos) (tMk C sp tNil) := by
  obtain ⟨f, fd, ps, M, F, hm, b⟩ := c.ex
  refine pe_weak (pe_make0 M F (hr.mono hk) hg hm b .nil pass0 hdb) fun σ H Q q => ?_
  exact q
theorem pe_gc {v : V} (h : ∃ u, X.mg x = some u ∧ RelV v u) (hg : Gl X x := by rfl) (hd : (x == ("__debug__" : Str)) = false := by decide) : PE X (.Name x pos) (tC v) := by
  obtain ⟨u, hm, r⟩ := h
  exact pe_glob hg hm r hd
end
end FF
namespace FF
open PySem PySem.Spec PyProof.Rows L2
/-! ### the text: printed by a script from the program -/
abbrev s_IClip : Stmt := inClass (top 1) 0
theorem sc_IClip : FnScope ["self", "pictures", "goes_round", "events"] ["self", "pictures", "goes_round", "events"] (defScope s_IClip) := ⟨rfl, rfl, rfl, by decide +kernel, rfl, by decide +kernel, by decide +kernel⟩
abbrev s_IState : Stmt := inClass (top 2) 0
theorem sc_IState : FnScope ["self", "clip", "speed"] ["self", "clip", "speed"] (defScope s_IState) := ⟨rfl, rfl, rfl, by decide +kernel, rfl, by decide +kernel, by decide +kernel⟩
abbrev s_IWay : Stmt := inClass (top 3) 0
theorem sc_IWay : FnScope ["self", "leads_from", "leads_to", "blend", "conditions"] ["self", "leads_from", "leads_to", "blend", "conditions"] (defScope s_IWay) := ⟨rfl, rfl, rfl, by decide +kernel, rfl, by decide +kernel, by decide +kernel⟩
abbrev s_IFade : Stmt := inClass (top 4) 0
theorem sc_IFade : FnScope ["self", "state", "count", "had", "takes"] ["self", "state", "count", "had", "takes"] (defScope s_IFade) := ⟨rfl, rfl, rfl, by decide +kernel, rfl, by decide +kernel, by decide +kernel⟩
abbrev s_IFigure : Stmt := inClass (top 5) 0
theorem sc_IFigure : FnScope ["self"] ["self"] (defScope s_IFigure) := ⟨rfl, rfl, rfl, by decide +kernel, rfl, by decide +kernel, by decide +kernel⟩
abbrev s_clip_of : Stmt := top 6
theorem sc_clip_of : FnScope ["figure", "state"] ["figure", "state"] (defScope s_clip_of) := ⟨rfl, rfl, rfl, by decide +kernel, rfl, by decide +kernel, by decide +kernel⟩
abbrev s_picture_at : Stmt := top 7
theorem sc_picture_at : FnScope ["clip", "count"] ["clip", "count"] (defScope s_picture_at) := ⟨rfl, rfl, rfl, by decide +kernel, rfl, by decide +kernel, by decide +kernel⟩
abbrev s_is_over : Stmt := top 8
theorem sc_is_over : FnScope ["clip", "count"] ["clip", "count"] (defScope s_is_over) := ⟨rfl, rfl, rfl, by decide +kernel, rfl, by decide +kernel, by decide +kernel⟩
abbrev s_events_at : Stmt := top 9
theorem sc_events_at : FnScope ["clip", "count", "picture", "event"] ["clip", "count"] (defScope s_events_at) := ⟨rfl, rfl, rfl, by decide +kernel, rfl, by decide +kernel, by decide +kernel⟩
abbrev s_clip_refusal : Stmt := top 28
theorem sc_clip_refusal : FnScope ["figure", "pictures", "events", "event"] ["figure", "pictures", "events"] (defScope s_clip_refusal) := ⟨rfl, rfl, rfl, by decide +kernel, rfl, by decide +kernel, by decide +kernel⟩
abbrev s_state_refusal : Stmt := top 29
theorem sc_state_refusal : FnScope ["figure", "clip", "speed"] ["figure", "clip", "speed"] (defScope s_state_refusal) := ⟨rfl, rfl, rfl, by decide +kernel, rfl, by decide +kernel, by decide +kernel⟩
abbrev s_condition_refusal : Stmt := top 30
theorem sc_condition_refusal : FnScope ["condition", "kind"] ["condition"] (defScope s_condition_refusal) := ⟨rfl, rfl, rfl, by decide +kernel, rfl, by decide +kernel, by decide +kernel⟩
abbrev s_way_refusal : Stmt := top 31
theorem sc_way_refusal : FnScope ["figure", "leads_from", "leads_to", "blend", "conditions", "condition"] ["figure", "leads_from", "leads_to", "blend", "conditions"] (defScope s_way_refusal) := ⟨rfl, rfl, rfl, by decide +kernel, rfl, by decide +kernel, by decide +kernel⟩
abbrev s_set_refusal : Stmt := top 32
theorem sc_set_refusal : FnScope ["value", "number"] ["value", "number"] (defScope s_set_refusal) := ⟨rfl, rfl, rfl, by decide +kernel, rfl, by decide +kernel, by decide +kernel⟩
abbrev s_signal_refusal : Stmt := top 33
theorem sc_signal_refusal : FnScope ["which"] ["which"] (defScope s_signal_refusal) := ⟨rfl, rfl, rfl, by decide +kernel, rfl, by decide +kernel, by decide +kernel⟩
abbrev s_ticks_refusal : Stmt := top 34
theorem sc_ticks_refusal : FnScope ["many"] ["many"] (defScope s_ticks_refusal) := ⟨rfl, rfl, rfl, by decide +kernel, rfl, by decide +kernel, by decide +kernel⟩
abbrev s_goto_refusal : Stmt := top 35
theorem sc_goto_refusal : FnScope ["figure", "state"] ["figure", "state"] (defScope s_goto_refusal) := ⟨rfl, rfl, rfl, by decide +kernel, rfl, by decide +kernel, by decide +kernel⟩
abbrev s_common_divisor : Stmt := top 37
theorem sc_common_divisor : FnScope ["first", "second", "rest"] ["first", "second"] (defScope s_common_divisor) := ⟨rfl, rfl, rfl, by decide +kernel, rfl, by decide +kernel, by decide +kernel⟩
abbrev s_in_lowest_terms : Stmt := top 38
theorem sc_in_lowest_terms : FnScope ["above", "below", "divisor"] ["above", "below"] (defScope s_in_lowest_terms) := ⟨rfl, rfl, rfl, by decide +kernel, rfl, by decide +kernel, by decide +kernel⟩
abbrev s_shares_of : Stmt := top 39
theorem sc_shares_of : FnScope ["fades", "shares", "left", "fade", "below"] ["fades"] (defScope s_shares_of) := ⟨rfl, rfl, rfl, by decide +kernel, rfl, by decide +kernel, by decide +kernel⟩
abbrev s_condition_holds : Stmt := top 41
theorem sc_condition_holds : FnScope ["figure", "condition", "kind"] ["figure", "condition"] (defScope s_condition_holds) := ⟨rfl, rfl, rfl, by decide +kernel, rfl, by decide +kernel, by decide +kernel⟩
abbrev s_may_be_taken : Stmt := top 42
theorem sc_may_be_taken : FnScope ["figure", "way", "condition"] ["figure", "way"] (defScope s_may_be_taken) := ⟨rfl, rfl, rfl, by decide +kernel, rfl, by decide +kernel, by decide +kernel⟩
abbrev s_first_way : Stmt := top 43
theorem sc_first_way : FnScope ["figure", "way"] ["figure"] (defScope s_first_way) := ⟨rfl, rfl, rfl, by decide +kernel, rfl, by decide +kernel, by decide +kernel⟩
abbrev s_count_on : Stmt := top 44
theorem sc_count_on : FnScope ["figure", "clip", "end", "told", "count"] ["figure"] (defScope s_count_on) := ⟨rfl, rfl, rfl, by decide +kernel, rfl, by decide +kernel, by decide +kernel⟩
abbrev s_fade_on : Stmt := top 45
theorem sc_fade_on : FnScope ["figure", "kept", "fade", "had"] ["figure"] (defScope s_fade_on) := ⟨rfl, rfl, rfl, by decide +kernel, rfl, by decide +kernel, by decide +kernel⟩
abbrev s_take_signals : Stmt := top 46
theorem sc_take_signals : FnScope ["figure", "way", "asked", "condition", "which"] ["figure", "way"] (defScope s_take_signals) := ⟨rfl, rfl, rfl, by decide +kernel, rfl, by decide +kernel, by decide +kernel⟩
abbrev s_take_way : Stmt := top 47
theorem sc_take_way : FnScope ["figure", "way"] ["figure", "way"] (defScope s_take_way) := ⟨rfl, rfl, rfl, by decide +kernel, rfl, by decide +kernel, by decide +kernel⟩
abbrev s_tick : Stmt := top 48
theorem sc_tick : FnScope ["figure", "told", "way"] ["figure"] (defScope s_tick) := ⟨rfl, rfl, rfl, by decide +kernel, rfl, by decide +kernel, by decide +kernel⟩
abbrev s_event_pairs : Stmt := top 53
theorem sc_event_pairs : FnScope ["row", "at"] ["row"] (defScope s_event_pairs) := ⟨rfl, rfl, rfl, by decide +kernel, rfl, by decide +kernel, by decide +kernel⟩
abbrev s_split_conditions : Stmt := top 54
theorem sc_split_conditions : FnScope ["row", "conditions", "at", "end"] ["row"] (defScope s_split_conditions) := ⟨rfl, rfl, rfl, by decide +kernel, rfl, by decide +kernel, by decide +kernel⟩
abbrev s_clip_answer : Stmt := top 55
theorem sc_clip_answer : FnScope ["figure", "plain", "row", "events", "refusal"] ["figure", "plain", "row"] (defScope s_clip_answer) := ⟨rfl, rfl, rfl, by decide +kernel, rfl, by decide +kernel, by decide +kernel⟩
abbrev s_state_answer : Stmt := top 56
theorem sc_state_answer : FnScope ["figure", "plain", "row", "refusal"] ["figure", "plain", "row"] (defScope s_state_answer) := ⟨rfl, rfl, rfl, by decide +kernel, rfl, by decide +kernel, by decide +kernel⟩
abbrev s_way_answer : Stmt := top 57
theorem sc_way_answer : FnScope ["figure", "plain", "row", "conditions", "refusal"] ["figure", "plain", "row"] (defScope s_way_answer) := ⟨rfl, rfl, rfl, by decide +kernel, rfl, by decide +kernel, by decide +kernel⟩
abbrev s_set_answer : Stmt := top 58
theorem sc_set_answer : FnScope ["figure", "plain", "row", "refusal"] ["figure", "plain", "row"] (defScope s_set_answer) := ⟨rfl, rfl, rfl, by decide +kernel, rfl, by decide +kernel, by decide +kernel⟩
abbrev s_signal_answer : Stmt := top 59
theorem sc_signal_answer : FnScope ["figure", "plain", "row", "refusal"] ["figure", "plain", "row"] (defScope s_signal_answer) := ⟨rfl, rfl, rfl, by decide +kernel, rfl, by decide +kernel, by decide +kernel⟩
abbrev s_ticks_answer : Stmt := top 60
theorem sc_ticks_answer : FnScope ["figure", "plain", "row", "refusal", "ticks_told", "told", "turn", "outcome", "come_to", "events"] ["figure", "plain", "row"] (defScope s_ticks_answer) := ⟨rfl, rfl, rfl, by decide +kernel, rfl, by decide +kernel, by decide +kernel⟩
abbrev s_shown_answer : Stmt := top 61
theorem sc_shown_answer : FnScope ["figure", "plain", "row", "shown", "shares", "told", "place", "state", "fade"] ["figure", "plain", "row"] (defScope s_shown_answer) := ⟨rfl, rfl, rfl, by decide +kernel, rfl, by decide +kernel, by decide +kernel⟩
abbrev s_may_answer : Stmt := top 62
theorem sc_may_answer : FnScope ["figure", "plain", "row", "ways", "number"] ["figure", "plain", "row"] (defScope s_may_answer) := ⟨rfl, rfl, rfl, by decide +kernel, rfl, by decide +kernel, by decide +kernel⟩
abbrev s_goto_answer : Stmt := top 63
theorem sc_goto_answer : FnScope ["figure", "plain", "row", "refusal"] ["figure", "plain", "row"] (defScope s_goto_answer) := ⟨rfl, rfl, rfl, by decide +kernel, rfl, by decide +kernel, by decide +kernel⟩
abbrev s_now_answer : Stmt := top 64
theorem sc_now_answer : FnScope ["figure", "plain", "row", "clip", "over"] ["figure", "plain", "row"] (defScope s_now_answer) := ⟨rfl, rfl, rfl, by decide +kernel, rfl, by decide +kernel, by decide +kernel⟩
abbrev s_values_answer : Stmt := top 65
theorem sc_values_answer : FnScope ["figure", "plain", "row"] ["figure", "plain", "row"] (defScope s_values_answer) := ⟨rfl, rfl, rfl, by decide +kernel, rfl, by decide +kernel, by decide +kernel⟩
abbrev s_answers : Stmt := top 67
theorem sc_answers : FnScope ["calls", "figure", "given", "at", "call", "end", "plain", "row", "start", "answer"] ["calls"] (defScope s_answers) := ⟨rfl, rfl, rfl, by decide +kernel, rfl, by decide +kernel, by decide +kernel⟩
structure Txt (K : PySem.W.Frag) (mg : Str → Option Value) (C : Cs) : Prop where
  c_Clip : Cls K C.cl
  n_Clip_events : NoAttr K C.cl "events"
  n_Clip_goes_round : NoAttr K C.cl "goes_round"
  n_Clip_pictures : NoAttr K C.cl "pictures"
  c_State : Cls K C.st
  n_State_clip : NoAttr K C.st "clip"
  n_State_speed : NoAttr K C.st "speed"
  c_Way : Cls K C.wy
  n_Way_blend : NoAttr K C.wy "blend"
  n_Way_conditions : NoAttr K C.wy "conditions"
  n_Way_leads_from : NoAttr K C.wy "leads_from"
  n_Way_leads_to : NoAttr K C.wy "leads_to"
  c_Fade : Cls K C.fd
  n_Fade_count : NoAttr K C.fd "count"
  n_Fade_had : NoAttr K C.fd "had"
  n_Fade_state : NoAttr K C.fd "state"
  n_Fade_takes : NoAttr K C.fd "takes"
  c_Figure : Cls K C.fg
  n_Figure_clips : NoAttr K C.fg "clips"
  n_Figure_count : NoAttr K C.fg "count"
  n_Figure_fades : NoAttr K C.fg "fades"
  n_Figure_plays : NoAttr K C.fg "plays"
  n_Figure_settings : NoAttr K C.fg "settings"
  n_Figure_signals : NoAttr K C.fg "signals"
  n_Figure_states : NoAttr K C.fg "states"
  n_Figure_ticks : NoAttr K C.fg "ticks"
  n_Figure_ways : NoAttr K C.fg "ways"
  k_GRANTED : ∃ u, mg "GRANTED" = some u ∧ RelV (.int (0)) u
  k_TOO_MUCH : ∃ u, mg "TOO_MUCH" = some u ∧ RelV (.int (-1)) u
  k_NOT_THERE : ∃ u, mg "NOT_THERE" = some u ∧ RelV (.int (-2)) u
  k_FULL : ∃ u, mg "FULL" = some u ∧ RelV (.int (-5)) u
  k_MOST_PICTURES : ∃ u, mg "MOST_PICTURES" = some u ∧ RelV (.int (99)) u
  k_MOST_EVENTS : ∃ u, mg "MOST_EVENTS" = some u ∧ RelV (.int (6)) u
  k_LAST_EVENT : ∃ u, mg "LAST_EVENT" = some u ∧ RelV (.int (99)) u
  k_MOST_CLIPS : ∃ u, mg "MOST_CLIPS" = some u ∧ RelV (.int (8)) u
  k_MOST_SPEED : ∃ u, mg "MOST_SPEED" = some u ∧ RelV (.int (9)) u
  k_MOST_STATES : ∃ u, mg "MOST_STATES" = some u ∧ RelV (.int (8)) u
  k_MOST_BLEND : ∃ u, mg "MOST_BLEND" = some u ∧ RelV (.int (50)) u
  k_MOST_CONDITIONS : ∃ u, mg "MOST_CONDITIONS" = some u ∧ RelV (.int (4)) u
  k_MOST_WAYS : ∃ u, mg "MOST_WAYS" = some u ∧ RelV (.int (16)) u
  k_LAST_VALUE : ∃ u, mg "LAST_VALUE" = some u ∧ RelV (.int (9)) u
  k_MOST_NUMBER : ∃ u, mg "MOST_NUMBER" = some u ∧ RelV (.int (999)) u
  k_LAST_SIGNAL : ∃ u, mg "LAST_SIGNAL" = some u ∧ RelV (.int (9)) u
  k_MOST_TICKS : ∃ u, mg "MOST_TICKS" = some u ∧ RelV (.int (100)) u
  k_PLAIN_NUMBERS : ∃ p, mg "PLAIN_NUMBERS" = some (.ref p) ∧ ∀ H : Hp, SqT K H p [.int 2, .int 2, .int 3, .int 2, .int 1, .int 1, .int 0, .int 0, .int 1, .int 0, .int 0]
  k_HAS_ROW : ∃ p, mg "HAS_ROW" = some (.ref p) ∧ ∀ H : Hp, SqT K H p [.bl true, .bl false, .bl true, .bl false, .bl false, .bl false, .bl false, .bl false, .bl false, .bl false, .bl false]
  k_CONDITION_NUMBERS : ∃ p, mg "CONDITION_NUMBERS" = some (.ref p) ∧ ∀ H : Hp, SqT K H p [.int 3, .int 3, .int 2, .int 1]
  k_CALL_ANSWERS : ∃ p f0 f1 f2 f3 f4 f5 f6 f7 f8 f9 f10 : Addr, mg "CALL_ANSWERS" = some (.ref p) ∧ (∀ H : Hp, SqT K H p [.ref f0, .ref f1, .ref f2, .ref f3, .ref f4, .ref f5, .ref f6, .ref f7, .ref f8, .ref f9, .ref f10]) ∧ mg "clip_answer" = some (.ref f0) ∧ mg "state_answer" = some (.ref f1) ∧ mg "way_answer" = some (.ref f2) ∧ mg "set_answer" = some (.ref f3) ∧ mg "signal_answer" = some (.ref f4) ∧ mg "ticks_answer" = some (.ref f5) ∧ mg "shown_answer" = some (.ref f6) ∧ mg "may_answer" = some (.ref f7) ∧ mg "goto_answer" = some (.ref f8) ∧ mg "now_answer" = some (.ref f9) ∧ mg "values_answer" = some (.ref f10)
  b_min : mg "min" = none
  b_len : mg "len" = none
  b_range : mg "range" = none
  b_tuple : mg "tuple" = none
end FF
namespace FF
open PySem PySem.Spec PyProof.Rows L2
section
variable {P : Program} {w : World} {K : PySem.W.Frag} {mg : Str → Option Value} {base : Heap} {C : Cs}
/-! ### the classes -/
theorem put_len {f : Str} {v : V} : ∀ {fs : List (Str × V)} {n : Nat}, fs.length < n → (putF f v fs).length < n + 1
  | [], n, h => by show 1 < n + 1; exact Nat.succ_lt_succ h
  | (g, x) :: r, n, h => by
    by_cases c : g = f
    · rw [show putF f v ((g, x) :: r) = (g, v) :: r from if_pos c]
      exact Nat.lt_succ_of_lt h
    · rw [put_past c]
      cases n with
      | zero => exact absurd h (Nat.not_lt_zero _)
      | succ n => exact Nat.succ_lt_succ (put_len (Nat.lt_of_succ_lt_succ h))
theorem cF_new {a b : Int} {v : V} : putF "events" v (putF "goes_round" (.int b) (putF "pictures" (.int a) [])) = cF a b v :=
  (congrArg _ (put_past (by decide +kernel))).trans ((put_past (by decide +kernel)).trans (congrArg _ ((put_past (by decide +kernel)).trans rfl)))
theorem sF_new {a b : Int} : putF "speed" (.int b) (putF "clip" (.int a) []) = sF a b := (put_past (by decide +kernel)).trans rfl
theorem wF_new {a b c : Int} {v : V} : putF "conditions" v (putF "blend" (.int c) (putF "leads_to" (.int b) (putF "leads_from" (.int a) []))) = wF a b c v := by
  have e1 : putF "leads_to" (.int b) (putF "leads_from" (.int a) []) = ([("leads_from", V.int a), ("leads_to", .int b)] : List (Str × V)) := (put_past (by decide +kernel)).trans rfl
  have e2 : putF "blend" (.int c) ([("leads_from", V.int a), ("leads_to", .int b)] : List (Str × V)) = ([("leads_from", V.int a), ("leads_to", .int b), ("blend", .int c)] : List (Str × V)) := (put_past (by decide +kernel)).trans (congrArg _ ((put_past (by decide +kernel)).trans rfl))
  rw [e1, e2]
  exact (put_past (by decide +kernel)).trans (congrArg _ ((put_past (by decide +kernel)).trans (congrArg _ ((put_past (by decide +kernel)).trans rfl))))
theorem dF_new {a b c d : Int} : putF "takes" (.int d) (putF "had" (.int c) (putF "count" (.int b) (putF "state" (.int a) []))) = dF a b c d := by
  have e1 : putF "count" (.int b) (putF "state" (.int a) []) = ([("state", V.int a), ("count", .int b)] : List (Str × V)) := (put_past (by decide +kernel)).trans rfl
  have e2 : putF "had" (.int c) ([("state", V.int a), ("count", .int b)] : List (Str × V)) = ([("state", V.int a), ("count", .int b), ("had", .int c)] : List (Str × V)) := (put_past (by decide +kernel)).trans (congrArg _ ((put_past (by decide +kernel)).trans rfl))
  rw [e1, e2]
  exact (put_past (by decide +kernel)).trans (congrArg _ ((put_past (by decide +kernel)).trans (congrArg _ ((put_past (by decide +kernel)).trans rfl))))
def spIClip (C : Cs) : Sp := fun vs H Q _ => ∃ (p dx : Addr) (a b : Int) (v : V), vs = [.ref p, .int a, .int b, v] ∧ H p = some (.ins C.cl dx []) ∧ Q .non (upd H p (.ins C.cl dx (cF a b v)))
def spIState (C : Cs) : Sp := fun vs H Q _ => ∃ (p dx : Addr) (a b : Int), vs = [.ref p, .int a, .int b] ∧ H p = some (.ins C.st dx []) ∧ Q .non (upd H p (.ins C.st dx (sF a b)))
def spIWay (C : Cs) : Sp := fun vs H Q _ => ∃ (p dx : Addr) (a b c : Int) (v : V), vs = [.ref p, .int a, .int b, .int c, v] ∧ H p = some (.ins C.wy dx []) ∧ Q .non (upd H p (.ins C.wy dx (wF a b c v)))
def spIFade (C : Cs) : Sp := fun vs H Q _ => ∃ (p dx : Addr) (a b c d : Int), vs = [.ref p, .int a, .int b, .int c, .int d] ∧ H p = some (.ins C.fd dx []) ∧ Q .non (upd H p (.ins C.fd dx (dF a b c d)))
theorem ok_IClip (D : DefI K mg "Clip" "Clip.__init__" C.cl s_IClip ["self", "pictures", "goes_round", "events"]) (T : Txt K mg C) : Mak P w K mg base 1 "Clip" C.cl (spIClip C) := by
  refine mak_of D sc_IClip (fun vs H Q E h => ?_) (fun f cdv A outer s H vs Q E hr h => ?_)
  · obtain ⟨p, dx, a, b, v, rfl, _⟩ := h
    rfl
  · obtain ⟨p, dx, a, b, v, rfl, hp, k⟩ := h
    refine ⟨_, pss_cons (ps_fld (pv 0) (pv 1) rfl) (pss_cons (ps_fld (pv 0) (pv 2) rfl) (pss_one (ps_fld (pv 0) (pv 3) rfl))), ?_⟩
    refine ⟨_, rfl, _, rfl, p, C.cl, dx, [], rfl, hp, T.c_Clip, T.n_Clip_pictures, (by show 0 < 1000; decide), ?_⟩
    refine ⟨_, rfl, _, rfl, p, C.cl, dx, _, rfl, upd_same, T.c_Clip, T.n_Clip_goes_round, (by show 1 < 1000; decide), ?_⟩
    refine ⟨_, rfl, _, rfl, p, C.cl, dx, _, rfl, upd_same, T.c_Clip, T.n_Clip_events, (put_len (put_len (by show 0 < 998; decide))), ?_⟩
    rw [upd_upd, upd_upd, cF_new]
    exact k
theorem ok_IState (D : DefI K mg "State" "State.__init__" C.st s_IState ["self", "clip", "speed"]) (T : Txt K mg C) : Mak P w K mg base 1 "State" C.st (spIState C) := by
  refine mak_of D sc_IState (fun vs H Q E h => ?_) (fun f cdv A outer s H vs Q E hr h => ?_)
  · obtain ⟨p, dx, a, b, rfl, _⟩ := h
    rfl
  · obtain ⟨p, dx, a, b, rfl, hp, k⟩ := h
    refine ⟨_, pss_cons (ps_fld (pv 0) (pv 1) rfl) (pss_one (ps_fld (pv 0) (pv 2) rfl)), ?_⟩
    refine ⟨_, rfl, _, rfl, p, C.st, dx, [], rfl, hp, T.c_State, T.n_State_clip, (by show 0 < 1000; decide), ?_⟩
    refine ⟨_, rfl, _, rfl, p, C.st, dx, _, rfl, upd_same, T.c_State, T.n_State_speed, (by show 1 < 1000; decide), ?_⟩
    rw [upd_upd, sF_new]
    exact k
theorem ok_IWay (D : DefI K mg "Way" "Way.__init__" C.wy s_IWay ["self", "leads_from", "leads_to", "blend", "conditions"]) (T : Txt K mg C) : Mak P w K mg base 1 "Way" C.wy (spIWay C) := by
  refine mak_of D sc_IWay (fun vs H Q E h => ?_) (fun f cdv A outer s H vs Q E hr h => ?_)
  · obtain ⟨p, dx, a, b, c, v, rfl, _⟩ := h
    rfl
  · obtain ⟨p, dx, a, b, c, v, rfl, hp, k⟩ := h
    refine ⟨_, pss_cons (ps_fld (pv 0) (pv 1) rfl) (pss_cons (ps_fld (pv 0) (pv 2) rfl) (pss_cons (ps_fld (pv 0) (pv 3) rfl) (pss_one (ps_fld (pv 0) (pv 4) rfl)))), ?_⟩
    refine ⟨_, rfl, _, rfl, p, C.wy, dx, [], rfl, hp, T.c_Way, T.n_Way_leads_from, (by show 0 < 1000; decide), ?_⟩
    refine ⟨_, rfl, _, rfl, p, C.wy, dx, _, rfl, upd_same, T.c_Way, T.n_Way_leads_to, (by show 1 < 1000; decide), ?_⟩
    refine ⟨_, rfl, _, rfl, p, C.wy, dx, _, rfl, upd_same, T.c_Way, T.n_Way_blend, (put_len (put_len (by show 0 < 998; decide))), ?_⟩
    refine ⟨_, rfl, _, rfl, p, C.wy, dx, _, rfl, upd_same, T.c_Way, T.n_Way_conditions, (put_len (put_len (put_len (by show 0 < 997; decide)))), ?_⟩
    rw [upd_upd, upd_upd, upd_upd, wF_new]
    exact k
theorem ok_IFade (D : DefI K mg "Fade" "Fade.__init__" C.fd s_IFade ["self", "state", "count", "had", "takes"]) (T : Txt K mg C) : Mak P w K mg base 1 "Fade" C.fd (spIFade C) := by
  refine mak_of D sc_IFade (fun vs H Q E h => ?_) (fun f cdv A outer s H vs Q E hr h => ?_)
  · obtain ⟨p, dx, a, b, c, d, rfl, _⟩ := h
    rfl
  · obtain ⟨p, dx, a, b, c, d, rfl, hp, k⟩ := h
    refine ⟨_, pss_cons (ps_fld (pv 0) (pv 1) rfl) (pss_cons (ps_fld (pv 0) (pv 2) rfl) (pss_cons (ps_fld (pv 0) (pv 3) rfl) (pss_one (ps_fld (pv 0) (pv 4) rfl)))), ?_⟩
    refine ⟨_, rfl, _, rfl, p, C.fd, dx, [], rfl, hp, T.c_Fade, T.n_Fade_state, (by show 0 < 1000; decide), ?_⟩
    refine ⟨_, rfl, _, rfl, p, C.fd, dx, _, rfl, upd_same, T.c_Fade, T.n_Fade_count, (by show 1 < 1000; decide), ?_⟩
    refine ⟨_, rfl, _, rfl, p, C.fd, dx, _, rfl, upd_same, T.c_Fade, T.n_Fade_had, (put_len (put_len (by show 0 < 998; decide))), ?_⟩
    refine ⟨_, rfl, _, rfl, p, C.fd, dx, _, rfl, upd_same, T.c_Fade, T.n_Fade_takes, (put_len (put_len (put_len (by show 0 < 997; decide)))), ?_⟩
    rw [upd_upd, upd_upd, upd_upd, dF_new]
    exact k
end
end FF
namespace FF
open PySem PySem.Spec PyProof.Rows L2
section
variable {P : Program} {w : World} {K : PySem.W.Frag} {mg : Str → Option Value} {base : Heap} {C : Cs}
/-! ### figure.py: its defs -/
def spClipOf (C : Cs) : Sp := fun vs H Q _ => ∃ (F : Ft) (g : Ge05.House) (s : Nat), vs = [.ref F.a, .int s] ∧ FigAt C F H g ∧ Wc g ∧ s < g.states.length ∧ ∀ p, ClipAt C (off F.l H) p (Ge05.clipOf g s) → Q (.ref p) H
theorem ok_clip_of (D : Def K mg "clip_of" s_clip_of ["figure", "state"]) (T : Txt K mg C) : Cal P w K mg base 1 "clip_of" (spClipOf C) := by
  refine cal_of D sc_clip_of (fun vs H Q E h => ?_) (fun f cdv A outer s H vs Q E hr h => ?_)
  · obtain ⟨F, g, n, rfl, _⟩ := h
    rfl
  · obtain ⟨F, g, n, rfl, fg, wf, hn, k⟩ := h
    refine ⟨_, pss_one (ps_ret (pe_ix ix_list (pe_fld (pv 0) rfl) (pe_fld (pe_ix ix_list (pe_fld (pv 0) rfl) (pv 1) (fun _ _ => rfl)) rfl) (fun _ _ => rfl))), ?_⟩
    obtain ⟨dx, hf⟩ := fg.fig
    obtain ⟨ps, hc, pc⟩ := fg.clips
    obtain ⟨qs, hs, pq⟩ := fg.states
    obtain ⟨st, c, e1, e2, e3, _, _⟩ := wf.at_state hn
    obtain ⟨q, eq, ⟨dq, hq⟩⟩ := paired_get pq e1
    obtain ⟨p, ep, hp⟩ := paired_get pc e2
    refine ⟨_, rfl, F.a, C.fg, dx, _, _, rfl, hf, T.c_Figure, T.n_Figure_clips, fF_clips, ?_⟩
    refine ⟨_, rfl, F.a, C.fg, dx, _, _, rfl, hf, T.c_Figure, T.n_Figure_states, fF_states, _, rfl, F.ls, _, _, .ref q, rfl, rfl, SqL.of hs, atI_nat (by rw [List.getElem?_map, eq]; rfl), ?_⟩
    refine ⟨q, C.st, dq, _, _, rfl, off_sub _ _ hq, T.c_State, T.n_State_clip, sF_clip, ?_⟩
    refine ⟨F.lc, _, _, .ref p, rfl, rfl, SqL.of hc, atI_nat (by rw [List.getElem?_map, ep]; rfl), ?_⟩
    exact k p (by rw [e3]; exact hp)
def spPicture (C : Cs) : Sp := fun vs H Q _ => ∃ (p : Addr) (c : Ge05.Clip) (n : Nat), vs = [.ref p, .int n] ∧ ClipAt C H p c ∧ 1 ≤ c.long ∧ Q (.int (Ge05.picture c n)) H
theorem round_eq {b : Bool} : (decide (V.int (b2n b) = V.int 1)) = b := by cases b <;> rfl
theorem stays_eq {b : Bool} : (decide (V.int (b2n b) = V.int 0)) = !b := by cases b <;> rfl
theorem ok_picture_at (D : Def K mg "picture_at" s_picture_at ["clip", "count"]) (T : Txt K mg C) : Cal P w K mg base 1 "picture_at" (spPicture C) := by
  refine cal_of D sc_picture_at (fun vs H Q E h => ?_) (fun f cdv A outer s H vs Q E hr h => ?_)
  · obtain ⟨p, c, n, rfl, _⟩ := h
    rfl
  · obtain ⟨p, c, n, rfl, ⟨dx, e, hp, he⟩, hl, k⟩ := h
    refine ⟨_, pss_cons (ps_if (pt_cmpR op_eq (pe_fld (pv 0) rfl) pe_int (nomark _)) (pss_one (ps_ret (pe_op op_mod (pv 1) (pe_fld (pv 0) rfl)))) pss_nil)
      (pss_one (ps_ret (pe_callB (call_min2 rfl) (by rfl) T.b_min (by decide +kernel) (pa_cons (pv 1) (pa_cons (pe_op op_sub (pe_fld (pv 0) rfl) pe_int) pa_nil))))), ?_⟩
    refine ⟨_, rfl, p, C.cl, dx, _, _, rfl, hp, T.c_Clip, T.n_Clip_goes_round, cF_goes, rfl, _, rfl, ?_⟩
    rw [round_eq]
    cases hr : c.round with
    | true =>
      refine iteT ⟨_, rfl, _, rfl, p, C.cl, dx, _, _, rfl, hp, T.c_Clip, T.n_Clip_pictures, cF_pictures, _, _, rfl, rfl, ?_, ?_⟩
      · show (0 : Int) < (c.long : Int)
        omega
      · have e : Ge05.picture c n = n % c.long := by unfold Ge05.picture; rw [if_pos hr]
        rw [e] at k
        exact k
    | false =>
      refine iteF ⟨_, rfl, _, rfl, p, C.cl, dx, _, _, rfl, hp, T.c_Clip, T.n_Clip_pictures, cF_pictures, _, _, rfl, rfl, _, _, rfl, ?_⟩
      have e : Ge05.picture c n = min n (c.long - 1) := by unfold Ge05.picture; rw [if_neg (by rw [hr]; exact Bool.false_ne_true)]
      rw [e] at k
      have e2 : (if (c.long : Int) - 1 < (n : Int) then (c.long : Int) - 1 else (n : Int)) = ((min n (c.long - 1) : Nat) : Int) := by
        split <;> omega
      show Q (.int (if (c.long : Int) - 1 < (n : Int) then (c.long : Int) - 1 else (n : Int))) H
      rw [e2]
      exact k
def spOver (C : Cs) : Sp := fun vs H Q _ => ∃ (p : Addr) (c : Ge05.Clip) (n : Nat), vs = [.ref p, .int n] ∧ ClipAt C H p c ∧ 1 ≤ c.long ∧ Q (.bl (Ge05.isOver c n)) H
theorem ok_is_over (D : Def K mg "is_over" s_is_over ["clip", "count"]) (T : Txt K mg C) : Cal P w K mg base 1 "is_over" (spOver C) := by
  refine cal_of D sc_is_over (fun vs H Q E h => ?_) (fun f cdv A outer s H vs Q E hr h => ?_)
  · obtain ⟨p, c, n, rfl, _⟩ := h
    rfl
  · obtain ⟨p, c, n, rfl, ⟨dx, e, hp, he⟩, hl, k⟩ := h
    refine ⟨_, pss_one (ps_ret (pe_and (pe_cmpR op_eq (pe_fld (pv 0) rfl) pe_int (nomark _)) (pe_one (pe_cmpR op_ge (pv 1) (pe_op op_sub (pe_fld (pv 0) rfl) pe_int) (nomark _))))), ?_⟩
    refine ⟨_, rfl, p, C.cl, dx, _, _, rfl, hp, T.c_Clip, T.n_Clip_goes_round, cF_goes, rfl, _, rfl, ?_⟩
    rw [stays_eq]
    unfold Ge05.isOver at k
    cases hr : c.round with
    | true =>
      rw [hr] at k
      exact iteF k
    | false =>
      rw [hr] at k
      refine iteT ⟨_, rfl, _, rfl, p, C.cl, dx, _, _, rfl, hp, T.c_Clip, T.n_Clip_pictures, cF_pictures, _, _, rfl, rfl, _, _, rfl, rfl, ?_⟩
      have e2 : decide ((c.long : Int) - 1 ≤ (n : Int)) = decide (c.long ≤ n + 1) := by
        by_cases q : c.long ≤ n + 1
        · rw [decide_eq_true q, decide_eq_true (by omega)]
        · rw [decide_eq_false q, decide_eq_false (by omega)]
      show Q (.bl (decide ((c.long : Int) - 1 ≤ (n : Int)))) H
      rw [e2]
      exact k
end
end FF
namespace FF
open PySem PySem.Spec PyProof.Rows L2
section
variable {P : Program} {w : World} {K : PySem.W.Frag} {mg : Str → Option Value} {base : Heap} {C : Cs}
def nV (l : List Nat) : List V := l.map fun (n : Nat) => V.int n
def spEvents (C : Cs) : Sp := fun vs H Q _ => ∃ (p : Addr) (c : Ge05.Clip) (n : Nat), vs = [.ref p, .int n] ∧ ClipAt C H p c ∧ 1 ≤ c.long ∧ c.events.length ≤ 6 ∧ ∀ l, H l = none → Q (.ref l) (upd H l (.lst (nV (Ge05.eventsAt c n))))
theorem size7 {n : Nat} (h : n ≤ 6) : n < sizeLine := Nat.lt_of_le_of_lt h (by decide)
theorem filt_more {evs : List (Nat × Nat)} {i : Nat} {ev : Nat × Nat} {f : Nat × Nat → Bool} (h : evs[i]? = some ev) (b : Bool) (hb : f ev = b) :
    nV (((evs.take (i + 1)).filter f).map fun e => e.2) = if b = true then nV (((evs.take i).filter f).map fun e => e.2) ++ [V.int ev.2] else nV (((evs.take i).filter f).map fun e => e.2) := by
  rw [take_more h, List.filter_append]
  unfold nV
  cases b with
  | true => simp [List.filter, hb]
  | false => simp [List.filter, hb]
theorem int_inj {a b : Nat} (h : V.int (a : Int) = V.int (b : Int)) : a = b := by
  injection h with h
  omega
theorem ok_events_at (D : Def K mg "events_at" s_events_at ["clip", "count"]) (T : Txt K mg C) (cP : Cal P w K mg base 1 "picture_at" (spPicture C)) : Cal P w K mg base 2 "events_at" (spEvents C) := by
  refine cal_of D sc_events_at (fun vs H Q E h => ?_) (fun f cdv A outer s H vs Q E hr h => ?_)
  · obtain ⟨p, c, n, rfl, _⟩ := h
    rfl
  · obtain ⟨p, c, n, rfl, hc, hl, h6, k⟩ := h
    refine ⟨_, pss_cons (ps_if (PW.pt (pw_and (pt_cmpR op_eq (pe_fld (pv 0) rfl) pe_int (nomark _)) (pw_and1 (pt_cmpR op_ge (pv 1) (pe_fld (pv 0) rfl) (nomark _))))) (pss_one (ps_ret (pe_lst pa_nil))) pss_nil)
      (pss_cons (ps_set (i := 2) sc_events_at.nd rfl (Or.inr rfl) (pe_c cP hr (pa_cons (pv 0) (pa_cons (pv 1) pa_nil))))
      (pss_one (ps_ret (pe_lc (own := [("event", 3)]) (g := gName 3) (tt := tTest (tOp rEq (tOp (rIxT K) (tVar 3) (tC (.int 0))) (tVar 2))) (te := tOp (rIxT K) (tVar 3) (tC (.int 1))) (by rfl) sc_events_at.nd (pi_list (pe_fld (pv 0) rfl)) (blkOk_by (own := [("event", 3)]) (N := ["clip", "count", "picture", "event"]) (sc := defScope s_events_at) (by decide +kernel))
        (fun _ _ _ _ _ => pg_name (i := 3) sc_events_at.nd rfl (Or.inl rfl)) (fun _ _ _ _ _ => pts_one (pt_cmpR op_eq (pe_ix ix_tup (pv 3) pe_int (fun _ _ => rfl)) (pv 2) (nomark _))) (fun _ _ _ _ _ => pe_ix ix_tup (pv 3) pe_int (fun _ _ => rfl)))))), ?_⟩
    obtain ⟨dx, e, hp, ts, he, pt⟩ := id hc
    have rest : ∀ (hx : ¬ (c.round = false ∧ c.long ≤ n)), Ge05.eventsAt c n = (c.events.filter fun e => e.1 == Ge05.picture c n).map fun e => e.2 := fun hx => by unfold Ge05.eventsAt; rw [if_neg hx]
    refine ⟨_, rfl, p, C.cl, dx, _, _, rfl, hp, T.c_Clip, T.n_Clip_goes_round, cF_goes, rfl, _, rfl, ?_⟩
    rw [stays_eq]
    by_cases hx : c.round = false ∧ c.long ≤ n
    · refine ifT (by rw [hx.1]; rfl) ⟨_, rfl, _, rfl, p, C.cl, dx, _, _, rfl, hp, T.c_Clip, T.n_Clip_pictures, cF_pictures, _, _, rfl, rfl, _, rfl, ifT (decide_eq_true ?_) ⟨Nat.zero_le _, fun l hl => ?_⟩⟩
      · have := hx.2
        omega
      · have e : Ge05.eventsAt c n = [] := by unfold Ge05.eventsAt; rw [if_pos hx]
        have q := k l hl
        rw [e] at q
        exact q
    · have hx' := rest hx
      refine ite2 (fun h1 => ⟨_, rfl, _, rfl, p, C.cl, dx, _, _, rfl, hp, T.c_Clip, T.n_Clip_pictures, cF_pictures, _, _, rfl, rfl, _, rfl, ifF (decide_eq_false ?a) ?b⟩) (fun h1 => iteF ?c)
      case a => 
        have h2 : c.round = false := by simpa using h1
        have h3 : ¬ c.long ≤ n := fun h => hx ⟨h2, h⟩
        omega
      all_goals
        refine ⟨_, rfl, _, rfl, p, c, n, rfl, hc, hl, ?_⟩
        refine ⟨_, rfl, p, C.cl, dx, _, _, rfl, hp, T.c_Clip, T.n_Clip_events, cF_events, e, rfl, ⟨_, SqL.of he⟩, fun D hD => ?_⟩
        refine lc_list (K := K) (a := e) (xs := ts.map V.ref) (fun i H' => H' = upd H D (.lst (nV (((c.events.take i).filter fun e => e.1 == Ge05.picture c n).map fun e => e.2)))) rfl (fun i H' _ q => ?_) (fun i x H' hi q => ?_) (fun H' q => ?_)
        · rw [q]
          exact SqL.of (same_new hD _ _ he)
        · obtain ⟨t, ht, rfl⟩ := map_get hi
          obtain ⟨lv, hlv, htt⟩ := paired_getL pt ht
          rw [List.getElem?_map] at hlv
          obtain ⟨ev, hev, rfl⟩ : ∃ ev, c.events[i]? = some ev ∧ lv = evV ev := by
            cases z : c.events[i]? with
            | none => rw [z] at hlv; cases hlv
            | some ev => rw [z] at hlv; exact ⟨ev, rfl, (Option.some.inj hlv).symm⟩
          have ht' : H' t = some (.tup (evV ev)) := by
            rw [q]
            exact same_new hD _ _ htt
          refine ⟨rfl, _, rfl, t, _, _, _, rfl, rfl, SqT.of ht', rfl, _, rfl, rfl, _, rfl, ?_⟩
          by_cases z : ev.1 = Ge05.picture c n
          · refine ifT (decide_eq_true (by rw [z])) ⟨_, rfl, t, _, _, _, rfl, rfl, SqT.of ht', rfl, _, by rw [q]; exact upd_same, ?_, ?_⟩
            · unfold nV
              rw [List.length_map, List.length_map]
              refine size7 (Nat.le_trans (List.length_filter_le _ _) ?_)
              rw [List.length_take]
              omega
            · show _ = _
              rw [q, upd_upd, filt_more hev true (by simp [z])]
              rfl
          · refine ifF (decide_eq_false fun h => z (int_inj h)) ?_
            show _ = _
            rw [q, filt_more hev false (by simp [z])]
            rfl
        · rw [q]
          have q2 := k D hD
          rw [hx'] at q2
          rw [List.length_map, Paired.length pt, List.length_map, List.take_length]
          exact q2
end
end FF
namespace FF
open PySem PySem.Spec PyProof.Rows L2
section
variable {P : Program} {w : World} {K : PySem.W.Frag} {mg : Str → Option Value} {base : Heap} {C : Cs}
/-! ### refusals.py -/
theorem dlt {a b : Int} (h : ¬ (decide (a < b)) = true) : ¬ a < b := fun q => h (decide_eq_true q)
theorem dle {a b : Int} (h : ¬ (decide (a ≤ b)) = true) : ¬ a ≤ b := fun q => h (decide_eq_true q)
def evOk (n : Nat) (e : Nat × Nat) : Bool := decide (e.1 < n) && decide (e.2 ≤ 99)
def clipBad (n : Nat) (evs : List (Nat × Nat)) : Prop := n = 0 ∨ 99 < n ∨ 6 < evs.length ∨ (evs.all (evOk n)) = false
def clipRef (g : Ge05.House) (n : Nat) (evs : List (Nat × Nat)) (r : Int) : Prop := (clipBad n evs ∧ r = -1) ∨ (¬ clipBad n evs ∧ 8 ≤ g.clips.length ∧ r = -5) ∨ (¬ clipBad n evs ∧ ¬ 8 ≤ g.clips.length ∧ r = 0)
def spClipRef (C : Cs) : Sp := fun vs H Q _ => ∃ (F : Ft) (g : Ge05.House) (n : Nat) (e : Addr) (evs : List (Nat × Nat)), vs = [.ref F.a, .int n, .ref e] ∧ FigAt C F H g ∧ TupsAt H e (evs.map evV) ∧ ∀ r, clipRef g n evs r → Q (.int r) H
theorem all_take {α : Type} {f : α → Bool} {l : List α} {i : Nat} {x : α} (h : l[i]? = some x) (a : (l.take i).all f = true) (b : f x = true) : (l.take (i + 1)).all f = true := by
  rw [take_more h, List.all_append, a]
  simp [b]
theorem not_all {α : Type} {f : α → Bool} {l : List α} {i : Nat} {x : α} (h : l[i]? = some x) (b : f x = false) : l.all f = false := by
  cases c : l.all f with
  | false => rfl
  | true =>
    have := List.all_eq_true.mp c x (mem_get h)
    rw [b] at this
    cases this
theorem map_get_of {α β : Type} {f : α → β} {l : List α} {i : Nat} {y : β} (h : (l.map f)[i]? = some y) : ∃ x, l[i]? = some x ∧ y = f x := by
  rw [List.getElem?_map] at h
  cases e : l[i]? with
  | none => rw [e] at h; cases h
  | some x => rw [e] at h; exact ⟨x, rfl, (Option.some.inj h).symm⟩
theorem ok_clip_refusal (D : Def K mg "clip_refusal" s_clip_refusal ["figure", "pictures", "events"]) (T : Txt K mg C) : Cal P w K mg base 1 "clip_refusal" (spClipRef C) := by
  refine cal_of D sc_clip_refusal (fun vs H Q E h => ?_) (fun f cdv A outer s H vs Q E hr h => ?_)
  · obtain ⟨F, g, n, e, evs, rfl, _⟩ := h
    rfl
  · obtain ⟨F, g, n, e, evs, rfl, fg, ⟨ts, he, pt⟩, k⟩ := h
    refine ⟨_, pss_cons (ps_if (PW.pt (pw_or (pt_cmpR op_lt (pv 1) pe_int (nomark _)) (pw_or (pt_cmpR op_gt (pv 1) (pe_gc T.k_MOST_PICTURES) (nomark _)) (pw_or1 (pt_cmpR op_gt (pe_callB call_len_seq (by rfl) T.b_len PySem.boot_len (pa_cons (pv 2) pa_nil)) (pe_gc T.k_MOST_EVENTS) (nomark _)))))) (pss_one (ps_ret (pe_gc T.k_TOO_MUCH))) pss_nil)
      (pss_cons (ps_for PassesOwn.never rfl (pi_list (pv 2)) (pg_name (i := 3) sc_clip_refusal.nd rfl (Or.inl rfl))
        (pss_one (ps_if (PW.pt (pw_or (pt_cmpR op_ge (pe_ix ix_tup (pv 3) pe_int (fun _ _ => rfl)) (pv 1) (nomark _)) (pw_or1 (pt_cmpR op_gt (pe_ix ix_tup (pv 3) pe_int (fun _ _ => rfl)) (pe_gc T.k_LAST_EVENT) (nomark _))))) (pss_one (ps_ret (pe_gc T.k_TOO_MUCH))) pss_nil)))
      (pss_cons (ps_if (pt_cmpR op_ge (pe_callB call_len_seq (by rfl) T.b_len PySem.boot_len (pa_cons (pe_fld (pv 0) rfl) pa_nil)) (pe_gc T.k_MOST_CLIPS) (nomark _)) (pss_one (ps_ret (pe_gc T.k_FULL))) pss_nil)
      (pss_one (ps_ret (pe_gc T.k_GRANTED))))), ?_⟩
    have bad : clipBad n evs → Q (.int (-1)) H := fun b => k _ (.inl ⟨b, rfl⟩)
    have hlen : ts.length = evs.length := by rw [Paired.length pt, List.length_map]
    refine ⟨_, rfl, _, _, rfl, rfl, _, rfl, ite2 (fun c1 => iteT (bad (.inl ?_))) (fun c1 => ⟨_, rfl, _, _, rfl, rfl, _, rfl, ite2 (fun c2 => iteT (bad (.inr (.inl ?_)))) (fun c2 => ⟨_, rfl, e, _, rfl, .inl (SqL.of he), _, _, rfl, rfl, _, rfl, ite2 (fun c3 => bad (.inr (.inr (.inl ?_)))) (fun c3 => ?_)⟩)⟩)⟩
    · have := of_decide_eq_true c1
      omega
    · have := of_decide_eq_true c2
      omega
    · have := of_decide_eq_true c3
      rw [List.length_map, hlen] at this
      omega
    · have c1' := dlt c1
      have c2' := dlt c2
      have c3' := dlt c3
      rw [List.length_map, hlen] at c3'
      refine ⟨_, rfl, e, rfl, ⟨_, SqL.of he⟩, for_list (K := K) (a := e) (xs := ts.map V.ref) (fun i σ H' => H' = H ∧ (∃ v, σ = [some (.ref F.a), some (.int n), some (.ref e), v]) ∧ (evs.take i).all (evOk n) = true)
        ⟨rfl, ⟨none, rfl⟩, rfl⟩ (fun i σ H' _ ⟨q, _, _⟩ => by rw [q]; exact SqL.of he) ?_ ?_⟩
      · rintro i x σ H' hi ⟨rfl, ⟨v, rfl⟩, ha⟩
        obtain ⟨t, ht, rfl⟩ := map_get hi
        obtain ⟨lv, hlv, htt⟩ := paired_getL pt ht
        obtain ⟨ev, hev, rfl⟩ := map_get_of hlv
        refine ⟨_, rfl, t, _, _, _, rfl, rfl, SqT.of htt, rfl, _, rfl, _, _, rfl, rfl, _, rfl, ite2 (fun c4 => iteT (bad (.inr (.inr (.inr ?_))))) (fun c4 => ⟨_, rfl, t, _, _, _, rfl, rfl, SqT.of htt, rfl, _, _, rfl, rfl, _, rfl, ite2 (fun c5 => bad (.inr (.inr (.inr ?_)))) (fun c5 => ⟨rfl, ⟨_, rfl⟩, ?_⟩)⟩)⟩
        · have := of_decide_eq_true c4
          exact not_all hev (by unfold evOk; rw [decide_eq_false (by omega)]; rfl)
        · have := of_decide_eq_true c5
          exact not_all hev (by unfold evOk; rw [decide_eq_false (p := ev.2 ≤ 99) (by omega), Bool.and_false])
        · have c4' := dle c4
          have c5' := dlt c5
          exact all_take hev ha (by unfold evOk; rw [decide_eq_true (by omega), decide_eq_true (by omega)]; rfl)
      · rintro σ H' ⟨rfl, ⟨v, rfl⟩, ha⟩
        rw [List.length_map, hlen, List.take_length] at ha
        have nb : ¬ clipBad n evs := fun b => by
          rcases b with b | b | b | b
          · omega
          · omega
          · omega
          · rw [ha] at b
            cases b
        obtain ⟨dx, hf⟩ := fg.fig
        obtain ⟨ps, hc, pc⟩ := fg.clips
        have hl2 : ps.length = g.clips.length := Paired.length pc
        refine ⟨_, rfl, F.a, C.fg, dx, _, _, rfl, hf, T.c_Figure, T.n_Figure_clips, fF_clips, F.lc, _, rfl, .inl (SqL.of hc), _, _, rfl, rfl, _, rfl, ite2 (fun c6 => k _ (.inr (.inl ⟨nb, ?_, rfl⟩))) (fun c6 => k _ (.inr (.inr ⟨nb, ?_, rfl⟩)))⟩
        · have := of_decide_eq_true c6
          rw [List.length_map, hl2] at this
          omega
        · have := dle c6
          rw [List.length_map, hl2] at this
          omega
end
end FF
namespace FF
open PySem PySem.Spec PyProof.Rows L2
section
variable {P : Program} {w : World} {K : PySem.W.Frag} {mg : Str → Option Value} {base : Heap} {C : Cs}
def stRef (g : Ge05.House) (c s : Nat) (r : Int) : Prop := (9 < s ∧ r = -1) ∨ (¬ 9 < s ∧ g.clips.length ≤ c ∧ r = -2) ∨ (¬ 9 < s ∧ ¬ g.clips.length ≤ c ∧ 8 ≤ g.states.length ∧ r = -5) ∨ (¬ 9 < s ∧ ¬ g.clips.length ≤ c ∧ ¬ 8 ≤ g.states.length ∧ r = 0)
def spStRef (C : Cs) : Sp := fun vs H Q _ => ∃ (F : Ft) (g : Ge05.House) (c n : Nat), vs = [.ref F.a, .int c, .int n] ∧ FigAt C F H g ∧ ∀ r, stRef g c n r → Q (.int r) H
theorem ok_state_refusal (D : Def K mg "state_refusal" s_state_refusal ["figure", "clip", "speed"]) (T : Txt K mg C) : Cal P w K mg base 1 "state_refusal" (spStRef C) := by
  refine cal_of D sc_state_refusal (fun vs H Q E h => ?_) (fun f cdv A outer s H vs Q E hr h => ?_)
  · obtain ⟨F, g, c, n, rfl, _⟩ := h
    rfl
  · obtain ⟨F, g, c, n, rfl, fg, k⟩ := h
    refine ⟨_, pss_cons (ps_if (pt_cmpR op_gt (pv 2) (pe_gc T.k_MOST_SPEED) (nomark _)) (pss_one (ps_ret (pe_gc T.k_TOO_MUCH))) pss_nil)
      (pss_cons (ps_if (pt_cmpR op_ge (pv 1) (pe_callB call_len_seq (by rfl) T.b_len PySem.boot_len (pa_cons (pe_fld (pv 0) rfl) pa_nil)) (nomark _)) (pss_one (ps_ret (pe_gc T.k_NOT_THERE))) pss_nil)
      (pss_cons (ps_if (pt_cmpR op_ge (pe_callB call_len_seq (by rfl) T.b_len PySem.boot_len (pa_cons (pe_fld (pv 0) rfl) pa_nil)) (pe_gc T.k_MOST_STATES) (nomark _)) (pss_one (ps_ret (pe_gc T.k_FULL))) pss_nil)
      (pss_one (ps_ret (pe_gc T.k_GRANTED))))), ?_⟩
    obtain ⟨dx, hf⟩ := fg.fig
    obtain ⟨ps, hc, pc⟩ := fg.clips
    obtain ⟨qs, hs, pq⟩ := fg.states
    have l1 : ps.length = g.clips.length := Paired.length pc
    have l2 : qs.length = g.states.length := Paired.length pq
    refine ⟨_, rfl, _, _, rfl, rfl, _, rfl, ite2 (fun c1 => k _ (.inl ⟨?_, rfl⟩)) (fun c1 => ⟨_, rfl, _, rfl, F.a, C.fg, dx, _, _, rfl, hf, T.c_Figure, T.n_Figure_clips, fF_clips, F.lc, _, rfl, .inl (SqL.of hc), _, _, rfl, rfl, _, rfl,
      ite2 (fun c2 => k _ (.inr (.inl ⟨?_, ?_, rfl⟩))) (fun c2 => ⟨_, rfl, F.a, C.fg, dx, _, _, rfl, hf, T.c_Figure, T.n_Figure_states, fF_states, F.ls, _, rfl, .inl (SqL.of hs), _, _, rfl, rfl, _, rfl,
      ite2 (fun c3 => k _ (.inr (.inr (.inl ⟨?_, ?_, ?_, rfl⟩)))) (fun c3 => k _ (.inr (.inr (.inr ⟨?_, ?_, ?_, rfl⟩))))⟩)⟩)⟩
    all_goals simp only [List.length_map, l1, l2, decide_eq_true_eq] at *
    all_goals omega
def setBad (v n : Nat) : Prop := 9 < v ∨ 999 < n
def okRef (bad : Prop) (r : Int) : Prop := (bad ∧ r = -1) ∨ (¬ bad ∧ r = 0)
def spSetRef : Sp := fun vs H Q _ => ∃ (v n : Nat), vs = [.int v, .int n] ∧ ∀ r, okRef (setBad v n) r → Q (.int r) H
theorem ok_set_refusal (D : Def K mg "set_refusal" s_set_refusal ["value", "number"]) (T : Txt K mg C) : Cal P w K mg base 1 "set_refusal" spSetRef := by
  refine cal_of D sc_set_refusal (fun vs H Q E h => ?_) (fun f cdv A outer s H vs Q E hr h => ?_)
  · obtain ⟨v, n, rfl, _⟩ := h
    rfl
  · obtain ⟨v, n, rfl, k⟩ := h
    refine ⟨_, pss_cons (ps_if (PW.pt (pw_or (pt_cmpR op_gt (pv 0) (pe_gc T.k_LAST_VALUE) (nomark _)) (pw_or1 (pt_cmpR op_gt (pv 1) (pe_gc T.k_MOST_NUMBER) (nomark _))))) (pss_one (ps_ret (pe_gc T.k_TOO_MUCH))) pss_nil)
      (pss_one (ps_ret (pe_gc T.k_GRANTED))), ?_⟩
    have bad : setBad v n → Q (.int (-1)) H := fun b => k _ (.inl ⟨b, rfl⟩)
    refine ⟨_, rfl, _, _, rfl, rfl, _, rfl, ite2 (fun c1 => iteT (bad (.inl ?_))) (fun c1 => ⟨_, rfl, _, _, rfl, rfl, _, rfl, ite2 (fun c2 => bad (.inr ?_)) (fun c2 => k _ (.inr ⟨fun b => ?_, rfl⟩))⟩)⟩
    · have := of_decide_eq_true c1
      omega
    · have := of_decide_eq_true c2
      omega
    · have := dlt c1
      have := dlt c2
      unfold setBad at b
      omega
def spSigRef : Sp := fun vs H Q _ => ∃ (v : Nat), vs = [.int v] ∧ ∀ r, okRef (9 < v) r → Q (.int r) H
theorem ok_signal_refusal (D : Def K mg "signal_refusal" s_signal_refusal ["which"]) (T : Txt K mg C) : Cal P w K mg base 1 "signal_refusal" spSigRef := by
  refine cal_of D sc_signal_refusal (fun vs H Q E h => ?_) (fun f cdv A outer s H vs Q E hr h => ?_)
  · obtain ⟨v, rfl, _⟩ := h
    rfl
  · obtain ⟨v, rfl, k⟩ := h
    refine ⟨_, pss_cons (ps_if (pt_cmpR op_gt (pv 0) (pe_gc T.k_LAST_SIGNAL) (nomark _)) (pss_one (ps_ret (pe_gc T.k_TOO_MUCH))) pss_nil) (pss_one (ps_ret (pe_gc T.k_GRANTED))), ?_⟩
    refine ⟨_, rfl, _, _, rfl, rfl, _, rfl, ite2 (fun c1 => k _ (.inl ⟨?_, rfl⟩)) (fun c1 => k _ (.inr ⟨?_, rfl⟩))⟩
    · have := of_decide_eq_true c1
      omega
    · have := dlt c1
      omega
def spTickRef : Sp := fun vs H Q _ => ∃ (v : Nat), vs = [.int v] ∧ ∀ r, okRef (100 < v) r → Q (.int r) H
theorem ok_ticks_refusal (D : Def K mg "ticks_refusal" s_ticks_refusal ["many"]) (T : Txt K mg C) : Cal P w K mg base 1 "ticks_refusal" spTickRef := by
  refine cal_of D sc_ticks_refusal (fun vs H Q E h => ?_) (fun f cdv A outer s H vs Q E hr h => ?_)
  · obtain ⟨v, rfl, _⟩ := h
    rfl
  · obtain ⟨v, rfl, k⟩ := h
    refine ⟨_, pss_cons (ps_if (pt_cmpR op_gt (pv 0) (pe_gc T.k_MOST_TICKS) (nomark _)) (pss_one (ps_ret (pe_gc T.k_TOO_MUCH))) pss_nil) (pss_one (ps_ret (pe_gc T.k_GRANTED))), ?_⟩
    refine ⟨_, rfl, _, _, rfl, rfl, _, rfl, ite2 (fun c1 => k _ (.inl ⟨?_, rfl⟩)) (fun c1 => k _ (.inr ⟨?_, rfl⟩))⟩
    · have := of_decide_eq_true c1
      omega
    · have := dlt c1
      omega
theorem okRef.iff {a b : Prop} (h : a ↔ b) {r : Int} (x : okRef a r) : okRef b r := by
  rcases x with ⟨p, q⟩ | ⟨p, q⟩
  · exact .inl ⟨h.mp p, q⟩
  · exact .inr ⟨fun z => p (h.mpr z), q⟩
theorem set_cond (v n : Nat) : setBad v n ↔ (decide (v ≤ 9) && decide (n ≤ 999)) = false := by
  unfold setBad
  rw [Bool.and_eq_false_iff, decide_eq_false_iff_not, decide_eq_false_iff_not]
  omega
theorem sig_cond (v : Nat) : 9 < v ↔ decide (v ≤ 9) = false := by
  rw [decide_eq_false_iff_not]
  omega
def spCondRef : Sp := fun vs H Q _ => ∃ (t : Addr) (c : Ge05.Cond), vs = [.ref t] ∧ H t = some (.tup (condV c)) ∧ ∀ r, okRef (Ge05.condOk c = false) r → Q (.int r) H
theorem ok_condition_refusal (D : Def K mg "condition_refusal" s_condition_refusal ["condition"]) (T : Txt K mg C) (cS : Cal P w K mg base 1 "set_refusal" spSetRef) (cG : Cal P w K mg base 1 "signal_refusal" spSigRef) : Cal P w K mg base 2 "condition_refusal" spCondRef := by
  refine cal_of D sc_condition_refusal (fun vs H Q E h => ?_) (fun f cdv A outer s H vs Q E hr h => ?_)
  · obtain ⟨v, n, rfl, _⟩ := h
    rfl
  · obtain ⟨t, c, rfl, ht, k⟩ := h
    refine ⟨_, pss_cons (ps_set (i := 1) sc_condition_refusal.nd rfl (Or.inl rfl) (pe_ix ix_tup (pv 0) pe_int (fun _ _ => rfl)))
      (pss_cons (ps_if (PW.pt (pw_or (pt_cmpR op_eq (pv 1) pe_int (nomark _)) (pw_or1 (pt_cmpR op_eq (pv 1) pe_int (nomark _))))) (pss_one (ps_ret (pe_c cS hr (pa_cons (pe_ix ix_tup (pv 0) pe_int (fun _ _ => rfl)) (pa_cons (pe_ix ix_tup (pv 0) pe_int (fun _ _ => rfl)) pa_nil))))) pss_nil)
      (pss_cons (ps_if (pt_cmpR op_eq (pv 1) pe_int (nomark _)) (pss_one (ps_ret (pe_c cG hr (pa_cons (pe_ix ix_tup (pv 0) pe_int (fun _ _ => rfl)) pa_nil)))) pss_nil)
      (pss_one (ps_ret (pe_gc T.k_GRANTED))))), ?_⟩
    cases c with
    | atLeast v n =>
      refine ⟨_, rfl, t, _, _, .int 0, rfl, rfl, SqT.of ht, rfl, _, rfl, rfl, _, rfl, ?_⟩
      refine ifT rfl (iteT (A := _) ?_)
      exact ⟨_, rfl, t, _, _, .int v, rfl, rfl, SqT.of ht, rfl, _, rfl, t, _, _, .int n, rfl, rfl, SqT.of ht, rfl, v, n, rfl, fun r hr => k r (hr.iff (set_cond v n))⟩
    | atMost v n =>
      refine ⟨_, rfl, t, _, _, .int 1, rfl, rfl, SqT.of ht, rfl, _, rfl, rfl, _, rfl, ?_⟩
      refine ifF rfl ⟨_, rfl, rfl, _, rfl, ifT rfl ?_⟩
      exact ⟨_, rfl, t, _, _, .int v, rfl, rfl, SqT.of ht, rfl, _, rfl, t, _, _, .int n, rfl, rfl, SqT.of ht, rfl, v, n, rfl, fun r hr => k r (hr.iff (set_cond v n))⟩
    | signal v =>
      refine ⟨_, rfl, t, _, _, .int 2, rfl, rfl, SqT.of ht, rfl, _, rfl, rfl, _, rfl, ?_⟩
      refine ifF rfl ⟨_, rfl, rfl, _, rfl, ifF rfl ⟨_, rfl, rfl, _, rfl, ifT rfl ?_⟩⟩
      exact ⟨_, rfl, t, _, _, .int v, rfl, rfl, SqT.of ht, rfl, v, rfl, fun r hr => k r (hr.iff (sig_cond v))⟩
    | over =>
      refine ⟨_, rfl, t, _, _, .int 3, rfl, rfl, SqT.of ht, rfl, _, rfl, rfl, _, rfl, ?_⟩
      refine ifF rfl ⟨_, rfl, rfl, _, rfl, ifF rfl ⟨_, rfl, rfl, _, rfl, ifF rfl ?_⟩⟩
      exact k 0 (.inr ⟨fun z => Bool.noConfusion (show true = false from z), rfl⟩)
def wayBad (b : Nat) (cs : List Ge05.Cond) : Prop := 50 < b ∨ 4 < cs.length ∨ cs.all Ge05.condOk = false
def wayRef (g : Ge05.House) (f t b : Nat) (cs : List Ge05.Cond) (r : Int) : Prop := (wayBad b cs ∧ r = -1) ∨ (¬ wayBad b cs ∧ (g.states.length < f ∨ g.states.length ≤ t) ∧ r = -2) ∨
  (¬ wayBad b cs ∧ ¬ (g.states.length < f ∨ g.states.length ≤ t) ∧ 16 ≤ g.ways.length ∧ r = -5) ∨ (¬ wayBad b cs ∧ ¬ (g.states.length < f ∨ g.states.length ≤ t) ∧ ¬ 16 ≤ g.ways.length ∧ r = 0)
def spWayRef (C : Cs) : Sp := fun vs H Q _ => ∃ (F : Ft) (g : Ge05.House) (f t b : Nat) (e : Addr) (cs : List Ge05.Cond), vs = [.ref F.a, .int f, .int t, .int b, .ref e] ∧ FigAt C F H g ∧ TupsAt H e (cs.map condV) ∧ ∀ r, wayRef g f t b cs r → Q (.int r) H
theorem ok_way_refusal (D : Def K mg "way_refusal" s_way_refusal ["figure", "leads_from", "leads_to", "blend", "conditions"]) (T : Txt K mg C) (cC : Cal P w K mg base 2 "condition_refusal" spCondRef) : Cal P w K mg base 3 "way_refusal" (spWayRef C) := by
  refine cal_of D sc_way_refusal (fun vs H Q E h => ?_) (fun f cdv A outer s H vs Q E hr h => ?_)
  · obtain ⟨F, g, a, t, b, e, cs, rfl, _⟩ := h
    rfl
  · obtain ⟨F, g, a, t, b, e, cs, rfl, fg, ⟨ts, he, pt⟩, k⟩ := h
    refine ⟨_, pss_cons (ps_if (PW.pt (pw_or (pt_cmpR op_gt (pv 3) (pe_gc T.k_MOST_BLEND) (nomark _)) (pw_or1 (pt_cmpR op_gt (pe_callB call_len_seq (by rfl) T.b_len PySem.boot_len (pa_cons (pv 4) pa_nil)) (pe_gc T.k_MOST_CONDITIONS) (nomark _))))) (pss_one (ps_ret (pe_gc T.k_TOO_MUCH))) pss_nil)
      (pss_cons (ps_for PassesOwn.never rfl (pi_list (pv 4)) (pg_name (i := 5) sc_way_refusal.nd rfl (Or.inl rfl))
        (pss_one (ps_if (pt_cmpR op_lt (pe_c cC hr (pa_cons (pv 5) pa_nil)) pe_int (nomark _)) (pss_one (ps_ret (pe_gc T.k_TOO_MUCH))) pss_nil)))
      (pss_cons (ps_if (PW.pt (pw_or (pt_cmpR op_gt (pv 1) (pe_callB call_len_seq (by rfl) T.b_len PySem.boot_len (pa_cons (pe_fld (pv 0) rfl) pa_nil)) (nomark _)) (pw_or1 (pt_cmpR op_ge (pv 2) (pe_callB call_len_seq (by rfl) T.b_len PySem.boot_len (pa_cons (pe_fld (pv 0) rfl) pa_nil)) (nomark _))))) (pss_one (ps_ret (pe_gc T.k_NOT_THERE))) pss_nil)
      (pss_cons (ps_if (pt_cmpR op_ge (pe_callB call_len_seq (by rfl) T.b_len PySem.boot_len (pa_cons (pe_fld (pv 0) rfl) pa_nil)) (pe_gc T.k_MOST_WAYS) (nomark _)) (pss_one (ps_ret (pe_gc T.k_FULL))) pss_nil)
      (pss_one (ps_ret (pe_gc T.k_GRANTED)))))), ?_⟩
    have bad : wayBad b cs → Q (.int (-1)) H := fun z => k _ (.inl ⟨z, rfl⟩)
    have hlen : ts.length = cs.length := by rw [Paired.length pt, List.length_map]
    refine ⟨_, rfl, _, _, rfl, rfl, _, rfl, ite2 (fun c1 => iteT (bad (.inl ?_))) (fun c1 => ⟨_, rfl, e, _, rfl, .inl (SqL.of he), _, _, rfl, rfl, _, rfl, ite2 (fun c2 => bad (.inr (.inl ?_))) (fun c2 => ?_)⟩)⟩
    · have := of_decide_eq_true c1
      omega
    · have := of_decide_eq_true c2
      rw [List.length_map, hlen] at this
      omega
    · have c1' := dlt c1
      have c2' := dlt c2
      rw [List.length_map, hlen] at c2'
      refine ⟨_, rfl, e, rfl, ⟨_, SqL.of he⟩, for_list (K := K) (a := e) (xs := ts.map V.ref) (fun i σ H' => H' = H ∧ (∃ v, σ = [some (.ref F.a), some (.int a), some (.int t), some (.int b), some (.ref e), v]) ∧ (cs.take i).all Ge05.condOk = true)
        ⟨rfl, ⟨none, rfl⟩, rfl⟩ (fun i σ H' _ ⟨q, _, _⟩ => by rw [q]; exact SqL.of he) ?_ ?_⟩
      · rintro i x σ H' hi ⟨rfl, ⟨v, rfl⟩, ha⟩
        obtain ⟨u, hu, rfl⟩ := map_get hi
        obtain ⟨lv, hlv, htt⟩ := paired_getL pt hu
        obtain ⟨cd, hcd, rfl⟩ := map_get_of hlv
        refine ⟨_, rfl, u, cd, rfl, htt, fun r hr => ⟨_, _, rfl, rfl, _, rfl, ?_⟩⟩
        rcases hr with ⟨z, rfl⟩ | ⟨z, rfl⟩
        · exact ifT rfl (bad (.inr (.inr (not_all hcd z))))
        · refine ifF rfl ⟨rfl, ⟨_, rfl⟩, all_take hcd ha ?_⟩
          cases y : Ge05.condOk cd with
          | true => rfl
          | false => exact absurd y z
      · rintro σ H' ⟨rfl, ⟨v, rfl⟩, ha⟩
        rw [List.length_map, hlen, List.take_length] at ha
        have nb : ¬ wayBad b cs := fun z => by
          rcases z with z | z | z
          · omega
          · omega
          · rw [ha] at z
            cases z
        obtain ⟨dx, hf⟩ := fg.fig
        obtain ⟨ps, hw, pw⟩ := fg.ways
        obtain ⟨qs, hs, pq⟩ := fg.states
        have l1 : ps.length = g.ways.length := Paired.length pw
        have l2 : qs.length = g.states.length := Paired.length pq
        refine ⟨_, rfl, _, rfl, F.a, C.fg, dx, _, _, rfl, hf, T.c_Figure, T.n_Figure_states, fF_states, F.ls, _, rfl, .inl (SqL.of hs), _, _, rfl, rfl, _, rfl,
          ite2 (fun c3 => iteT (k _ (.inr (.inl ⟨nb, .inl ?_, rfl⟩)))) (fun c3 => ⟨_, rfl, _, rfl, F.a, C.fg, dx, _, _, rfl, hf, T.c_Figure, T.n_Figure_states, fF_states, F.ls, _, rfl, .inl (SqL.of hs), _, _, rfl, rfl, _, rfl,
          ite2 (fun c4 => k _ (.inr (.inl ⟨nb, .inr ?_, rfl⟩))) (fun c4 => ⟨_, rfl, F.a, C.fg, dx, _, _, rfl, hf, T.c_Figure, T.n_Figure_ways, fF_ways, F.lw, _, rfl, .inl (SqL.of hw), _, _, rfl, rfl, _, rfl,
          ite2 (fun c5 => k _ (.inr (.inr (.inl ⟨nb, ?_, ?_, rfl⟩)))) (fun c5 => k _ (.inr (.inr (.inr ⟨nb, ?_, ?_, rfl⟩))))⟩)⟩)⟩
        all_goals simp only [List.length_map, l1, l2, decide_eq_true_eq] at *
        all_goals omega
end
end FF
namespace FF
open PySem PySem.Spec PyProof.Rows L2
section
variable {P : Program} {w : World} {K : PySem.W.Frag} {mg : Str → Option Value} {base : Heap} {C : Cs}
/-! ### ticking.py: what may be taken -/
theorem inV_nat (s : Nat) : ∀ l : List Nat, inV (.int s) (l.map fun (n : Nat) => V.int n) = l.contains s
  | [] => rfl
  | a :: l => by
    have ih := inV_nat s l
    unfold inV at ih ⊢
    rw [List.map_cons, List.any_cons, ih, List.contains_cons]
    congr 1
    show ((a : Int) == (s : Int)) = (s == a)
    by_cases h : s = a
    · subst h
      simp
    · have h1 : (s == a) = false := by simpa using h
      have h2 : ((a : Int) == (s : Int)) = false := by
        rw [beq_eq_false_iff_ne]
        omega
      rw [h1, h2]
theorem flat_nat : ∀ l : List Nat, (l.map fun (n : Nat) => V.int n).all flatV = true
  | [] => rfl
  | a :: l => by
    rw [List.map_cons, List.all_cons, flat_nat l]
    rfl
def spHolds (C : Cs) : Sp := fun vs H Q _ => ∃ (F : Ft) (g : Ge05.House) (t : Addr) (c : Ge05.Cond), vs = [.ref F.a, .ref t] ∧ FigAt C F H g ∧ Wf g ∧ H t = some (.tup (condV c)) ∧ Ge05.condOk c = true ∧ Q (.bl (Ge05.holds g c)) H
theorem setting_at {g : Ge05.House} {v : Nat} (h : v ≤ 9) : ((List.range 10).map fun v => V.int (Ge05.valueOf g v))[v]? = some (.int (Ge05.valueOf g v)) := by
  rw [List.getElem?_map, List.getElem?_range (by omega)]
  rfl
theorem dle_nat {a b : Nat} : decide ((a : Int) ≤ (b : Int)) = decide (a ≤ b) := by
  by_cases h : a ≤ b
  · rw [decide_eq_true h, decide_eq_true (by omega)]
  · rw [decide_eq_false h, decide_eq_false (by omega)]
theorem ok_condition_holds (D : Def K mg "condition_holds" s_condition_holds ["figure", "condition"]) (T : Txt K mg C) (cC : Cal P w K mg base 1 "clip_of" (spClipOf C)) (cO : Cal P w K mg base 1 "is_over" (spOver C)) : Cal P w K mg base 2 "condition_holds" (spHolds C) := by
  refine cal_of D sc_condition_holds (fun vs H Q E h => ?_) (fun f cdv A outer s H vs Q E hr h => ?_)
  · obtain ⟨F, g, t, c, rfl, _⟩ := h
    rfl
  · obtain ⟨F, g, t, c, rfl, fg, wf, ht, hok, k⟩ := h
    refine ⟨_, pss_cons (ps_set (i := 2) sc_condition_holds.nd rfl (Or.inl rfl) (pe_ix ix_tup (pv 1) pe_int (fun _ _ => rfl)))
      (pss_cons (ps_if (pt_cmpR op_eq (pv 2) pe_int (nomark _)) (pss_one (ps_ret (pe_cmpR op_ge (pe_ix ix_list (pe_fld (pv 0) rfl) (pe_ix ix_tup (pv 1) pe_int (fun _ _ => rfl)) (fun _ _ => rfl)) (pe_ix ix_tup (pv 1) pe_int (fun _ _ => rfl)) (nomark _)))) pss_nil)
      (pss_cons (ps_if (pt_cmpR op_eq (pv 2) pe_int (nomark _)) (pss_one (ps_ret (pe_cmpR op_le (pe_ix ix_list (pe_fld (pv 0) rfl) (pe_ix ix_tup (pv 1) pe_int (fun _ _ => rfl)) (fun _ _ => rfl)) (pe_ix ix_tup (pv 1) pe_int (fun _ _ => rfl)) (nomark _)))) pss_nil)
      (pss_cons (ps_if (pt_cmpR op_eq (pv 2) pe_int (nomark _)) (pss_one (ps_ret (pe_cmpR op_in_seq (pe_ix ix_tup (pv 1) pe_int (fun _ _ => rfl)) (pe_fld (pv 0) rfl) (by rfl)))) pss_nil)
      (pss_one (ps_ret (pe_c cO hr (pa_cons (pe_c cC hr (pa_cons (pv 0) (pa_cons (pe_fld (pv 0) rfl) pa_nil))) (pa_cons (pe_fld (pv 0) rfl) pa_nil)))))))), ?_⟩
    obtain ⟨dx, hf⟩ := fg.fig
    cases c with
    | atLeast v n =>
      have hv : v ≤ 9 := by
        have := (Bool.and_eq_true_iff.mp hok).1
        exact of_decide_eq_true this
      refine ⟨_, rfl, t, _, _, .int 0, rfl, rfl, SqT.of ht, rfl, _, rfl, rfl, _, rfl, ifT rfl ?_⟩
      refine ⟨_, rfl, F.a, C.fg, dx, _, _, rfl, hf, T.c_Figure, T.n_Figure_settings, fF_settings, _, rfl, t, _, _, .int v, rfl, rfl, SqT.of ht, rfl, F.lv, _, _, _, rfl, rfl, SqL.of fg.vals, atI_nat (setting_at hv), _, rfl, t, _, _, .int n, rfl, rfl, SqT.of ht, rfl, _, _, rfl, rfl, ?_⟩
      have q := k
      show Q (.bl (decide ((n : Int) ≤ ((Ge05.valueOf g v : Nat) : Int)))) H
      rw [dle_nat]
      exact q
    | atMost v n =>
      have hv : v ≤ 9 := by
        have := (Bool.and_eq_true_iff.mp hok).1
        exact of_decide_eq_true this
      refine ⟨_, rfl, t, _, _, .int 1, rfl, rfl, SqT.of ht, rfl, _, rfl, rfl, _, rfl, ifF rfl ⟨_, rfl, rfl, _, rfl, ifT rfl ?_⟩⟩
      refine ⟨_, rfl, F.a, C.fg, dx, _, _, rfl, hf, T.c_Figure, T.n_Figure_settings, fF_settings, _, rfl, t, _, _, .int v, rfl, rfl, SqT.of ht, rfl, F.lv, _, _, _, rfl, rfl, SqL.of fg.vals, atI_nat (setting_at hv), _, rfl, t, _, _, .int n, rfl, rfl, SqT.of ht, rfl, _, _, rfl, rfl, ?_⟩
      have q := k
      show Q (.bl (decide (((Ge05.valueOf g v : Nat) : Int) ≤ (n : Int)))) H
      rw [dle_nat]
      exact q
    | signal v =>
      refine ⟨_, rfl, t, _, _, .int 2, rfl, rfl, SqT.of ht, rfl, _, rfl, rfl, _, rfl, ifF rfl ⟨_, rfl, rfl, _, rfl, ifF rfl ⟨_, rfl, rfl, _, rfl, ifT rfl ?_⟩⟩⟩
      refine ⟨_, rfl, t, _, _, .int v, rfl, rfl, SqT.of ht, rfl, _, rfl, F.a, C.fg, dx, _, _, rfl, hf, T.c_Figure, T.n_Figure_signals, fF_signals, F.lg, _, rfl, .inl (SqL.of fg.sigs), rfl, flat_nat _, ?_⟩
      have q := k
      show Q (.bl (inV (.int v) (g.signals.map fun (n : Nat) => V.int n))) H
      rw [inV_nat]
      exact q
    | over =>
      refine ⟨_, rfl, t, _, _, .int 3, rfl, rfl, SqT.of ht, rfl, _, rfl, rfl, _, rfl, ifF rfl ⟨_, rfl, rfl, _, rfl, ifF rfl ⟨_, rfl, rfl, _, rfl, ifF rfl ?_⟩⟩⟩
      refine ⟨_, rfl, _, rfl, F.a, C.fg, dx, _, _, rfl, hf, T.c_Figure, T.n_Figure_plays, fF_plays, F, g, g.now.state, rfl, fg, wf.c, wf.now.1, fun p hp => ?_⟩
      refine ⟨_, rfl, F.a, C.fg, dx, _, _, rfl, hf, T.c_Figure, T.n_Figure_count, fF_count, p, _, _, rfl, hp.mono off_sub, (wf.c.clip_ok wf.now.1).1, ?_⟩
      exact k
theorem may_loop {F : Ft} {g : Ge05.House} {p e : Addr} {y : Ge05.Way} {H : Hp} {Q : VK} {ts : List Addr} (T : Txt K mg C) (fg : FigAt C F H g) (wf : Wf g) {dw : Addr} (hp : H p = some (.ins C.wy dw (wF (fromV y.from_) y.to y.blend (.ref e)))) (he : H e = some (.lst (ts.map V.ref)))
    (pt : Paired (fun t l => H t = some (.tup l)) ts (y.conds.map condV)) (hok : y.conds.all Ge05.condOk = true) (k : Q (.bl (y.conds.all (Ge05.holds g))) H) :
    tSeq (tFor (iList K (tFld K (tVar 1) "conditions")) (gName 2) (tIfS (tNot (tB (tCl (spHolds C) (tCons (tVar 0) (tCons (tVar 2) tNil))))) (tRet (tC (.bl false))) tNext)) (tRet (tC (.bl true))) { nx := fun _ H' => Q .non H', rt := Q } [some (.ref F.a), some (.ref p), none] H := by
  have hlen : ts.length = y.conds.length := by rw [Paired.length pt, List.length_map]
  refine ⟨_, rfl, p, C.wy, dw, _, _, rfl, hp, T.c_Way, T.n_Way_conditions, wF_conds, e, rfl, ⟨_, SqL.of he⟩, for_list (K := K) (a := e) (xs := ts.map V.ref) (fun i σ H' => H' = H ∧ (∃ v, σ = [some (.ref F.a), some (.ref p), v]) ∧ (y.conds.take i).all (Ge05.holds g) = true)
    ⟨rfl, ⟨none, rfl⟩, rfl⟩ (fun i σ H' _ ⟨q, _, _⟩ => by rw [q]; exact SqL.of he) ?_ ?_⟩
  · rintro i x σ H' hi ⟨rfl, ⟨v, rfl⟩, ha⟩
    obtain ⟨t, ht, rfl⟩ := map_get hi
    obtain ⟨lv, hlv, htt⟩ := paired_getL pt ht
    obtain ⟨c, hc, rfl⟩ := map_get_of hlv
    refine ⟨_, rfl, _, rfl, F, g, t, c, rfl, fg, wf, htt, List.all_eq_true.mp hok c (mem_get hc), _, rfl, ?_⟩
    cases z : Ge05.holds g c with
    | false =>
      refine ifT rfl ?_
      have e0 : y.conds.all (Ge05.holds g) = false := not_all hc z
      rw [e0] at k
      exact k
    | true => exact ifF rfl ⟨rfl, ⟨_, rfl⟩, all_take hc ha z⟩
  · rintro σ H' ⟨rfl, ⟨v, rfl⟩, ha⟩
    rw [List.length_map, hlen, List.take_length] at ha
    rw [ha] at k
    exact k
def spMay (C : Cs) : Sp := fun vs H Q _ => ∃ (F : Ft) (g : Ge05.House) (p : Addr) (y : Ge05.Way), vs = [.ref F.a, .ref p] ∧ FigAt C F H g ∧ Wf g ∧ WayAt C H p y ∧ y.conds.all Ge05.condOk = true ∧ Q (.bl (Ge05.may g y)) H
theorem ok_may_be_taken (D : Def K mg "may_be_taken" s_may_be_taken ["figure", "way"]) (T : Txt K mg C) (cH : Cal P w K mg base 2 "condition_holds" (spHolds C)) : Cal P w K mg base 3 "may_be_taken" (spMay C) := by
  refine cal_of D sc_may_be_taken (fun vs H Q E h => ?_) (fun f cdv A outer s H vs Q E hr h => ?_)
  · obtain ⟨F, g, p, y, rfl, _⟩ := h
    rfl
  · obtain ⟨F, g, p, y, rfl, fg, wf, ⟨dw, e, hp, ts, he, pt⟩, hok, k⟩ := h
    refine ⟨_, pss_cons (ps_if (pt_cmpR op_eq (pe_fld (pv 1) rfl) pe_int (nomark _)) (pss_one (ps_if (pt_cmpR op_eq (pe_fld (pv 0) rfl) (pe_fld (pv 1) rfl) (nomark _)) (pss_one (ps_ret pe_bl)) pss_nil))
        (pss_one (ps_if (pt_cmpR op_ne (pe_fld (pv 0) rfl) (pe_op op_sub (pe_fld (pv 1) rfl) pe_int) (nomark _)) (pss_one (ps_ret pe_bl)) pss_nil)))
      (pss_cons (ps_for PassesOwn.never rfl (pi_list (pe_fld (pv 1) rfl)) (pg_name (i := 2) sc_may_be_taken.nd rfl (Or.inl rfl))
        (pss_one (ps_if (pt_not (pt_val (pe_c cH hr (pa_cons (pv 0) (pa_cons (pv 2) pa_nil))))) (pss_one (ps_ret pe_bl)) pss_nil)))
      (pss_one (ps_ret pe_bl))), ?_⟩
    obtain ⟨dx, hf⟩ := fg.fig
    have hlen : ts.length = y.conds.length := by rw [Paired.length pt, List.length_map]
    rw [may_eq] at k
    have no : fromOk g y = false → Q (.bl false) H := fun z => by
      rw [z] at k
      exact k
    have yes : fromOk g y = true → Q (.bl (y.conds.all (Ge05.holds g))) H := fun z => by
      rw [z, Bool.true_and] at k
      exact k
    cases hfr : y.from_ with
    | none =>
      have hp' := hp
      rw [hfr] at hp'
      refine ⟨_, rfl, p, C.wy, dw, _, _, rfl, hp', T.c_Way, T.n_Way_leads_from, wF_from, rfl, _, rfl, ifT rfl ⟨_, rfl, F.a, C.fg, dx, _, _, rfl, hf, T.c_Figure, T.n_Figure_plays, fF_plays, _, rfl, p, C.wy, dw, _, _, rfl, hp', T.c_Way, T.n_Way_leads_to, wF_to, rfl, _, rfl, ite2 (fun c => no ?_) (fun c => ?_)⟩⟩
      · have := int_inj (of_decide_eq_true c)
        rw [fromOk_none hfr, this]
        simp
      · have hy := yes (by
          rw [fromOk_none hfr]
          have : ¬ y.to = g.now.state := fun z => c (decide_eq_true (by rw [z]))
          simpa using this)
        exact may_loop T fg wf hp he pt hok hy
    | some n =>
      have hp' := hp
      rw [hfr] at hp'
      have e1 : decide (V.int (fromV (some n)) = V.int 0) = false := decide_eq_false fun z => by
        injection z with z
        have : (n : Int) + 1 = 0 := z
        omega
      refine ⟨_, rfl, p, C.wy, dw, _, _, rfl, hp', T.c_Way, T.n_Way_leads_from, wF_from, rfl, _, rfl, ifF e1 ⟨_, rfl, F.a, C.fg, dx, _, _, rfl, hf, T.c_Figure, T.n_Figure_plays, fF_plays, _, rfl, p, C.wy, dw, _, _, rfl, hp', T.c_Way, T.n_Way_leads_from, wF_from, _, _, rfl, rfl, rfl, _, rfl, ?_⟩⟩
      have e2 : decide (V.int (g.now.state : Int) = V.int (fromV (some n) - 1)) = decide (n = g.now.state) := by
        have e3 : fromV (some n) - 1 = (n : Int) := by show (n : Int) + 1 - 1 = n; omega
        rw [e3]
        by_cases z : n = g.now.state
        · rw [decide_eq_true z, z, decide_eq_true rfl]
        · rw [decide_eq_false z, decide_eq_false fun q => z (int_inj q).symm]
      show (if (!decide (V.int (g.now.state : Int) = V.int (fromV (some n) - 1))) = true then _ else _)
      rw [e2]
      by_cases z : n = g.now.state
      · refine ifF (by rw [decide_eq_true z]; rfl) ?_
        exact may_loop T fg wf hp he pt hok (yes (by rw [fromOk_some hfr, z]; simp))
      · refine ifT (by rw [decide_eq_false z]; rfl) ?_
        exact no (by rw [fromOk_some hfr]; simpa using z)
end
end FF
namespace FF
open PySem PySem.Spec PyProof.Rows L2
/-! ### the figure changes -/
theorem Ft.ne {F : Ft} (h : F.s.Nodup) : (F.lc ≠ F.a ∧ F.ls ≠ F.a ∧ F.lw ≠ F.a ∧ F.lv ≠ F.a ∧ F.lg ≠ F.a ∧ F.lf ≠ F.a) ∧ (F.ls ≠ F.lc ∧ F.lw ≠ F.lc ∧ F.lv ≠ F.lc ∧ F.lg ≠ F.lc ∧ F.lf ≠ F.lc) ∧ (F.lw ≠ F.ls ∧ F.lv ≠ F.ls ∧ F.lg ≠ F.ls ∧ F.lf ≠ F.ls) ∧ (F.lv ≠ F.lw ∧ F.lg ≠ F.lw ∧ F.lf ≠ F.lw) ∧ (F.lg ≠ F.lv ∧ F.lf ≠ F.lv) ∧ F.lf ≠ F.lg := by
  unfold Ft.s at h
  simp only [List.nodup_cons, List.mem_cons, List.not_mem_nil, or_false, not_or, not_false_eq_true, List.nodup_nil, and_true] at h
  obtain ⟨⟨a1, a2, a3, a4, a5, a6⟩, ⟨b1, b2, b3, b4, b5⟩, ⟨c1, c2, c3, c4⟩, ⟨d1, d2, d3⟩, ⟨e1, e2⟩, f1⟩ := h
  exact ⟨⟨Ne.symm a1, Ne.symm a2, Ne.symm a3, Ne.symm a4, Ne.symm a5, Ne.symm a6⟩, ⟨Ne.symm b1, Ne.symm b2, Ne.symm b3, Ne.symm b4, Ne.symm b5⟩, ⟨Ne.symm c1, Ne.symm c2, Ne.symm c3, Ne.symm c4⟩, ⟨Ne.symm d1, Ne.symm d2, Ne.symm d3⟩, ⟨Ne.symm e1, Ne.symm e2⟩, Ne.symm f1⟩
section
variable {F : Ft}
theorem in_a : F.a ∈ F.s := List.mem_cons_self
theorem in_lc : F.lc ∈ F.s := List.mem_cons_of_mem _ List.mem_cons_self
theorem in_ls : F.ls ∈ F.s := List.mem_cons_of_mem _ (List.mem_cons_of_mem _ List.mem_cons_self)
theorem in_lw : F.lw ∈ F.s := List.mem_cons_of_mem _ (List.mem_cons_of_mem _ (List.mem_cons_of_mem _ List.mem_cons_self))
theorem in_lv : F.lv ∈ F.s := List.mem_cons_of_mem _ (List.mem_cons_of_mem _ (List.mem_cons_of_mem _ (List.mem_cons_of_mem _ List.mem_cons_self)))
theorem in_lg : F.lg ∈ F.s := List.mem_cons_of_mem _ (List.mem_cons_of_mem _ (List.mem_cons_of_mem _ (List.mem_cons_of_mem _ (List.mem_cons_of_mem _ List.mem_cons_self))))
theorem in_lf : F.lf ∈ F.s := List.mem_cons_of_mem _ (List.mem_cons_of_mem _ (List.mem_cons_of_mem _ (List.mem_cons_of_mem _ (List.mem_cons_of_mem _ (List.mem_cons_of_mem _ List.mem_cons_self)))))
end
section
variable {C : Cs} {F : Ft} {H H0 : Hp} {g : Ge05.House} {dx D : Addr}
/-- plays, count, ticks are set -/
theorem FigAt.put (fg : FigAt C F H g) {p c t : Nat} : FigAt C F (upd H F.a (.ins C.fg dx (fF F p c t))) { g with now := ⟨p, c⟩, ticks := t } := by
  obtain ⟨⟨a1, a2, a3, a4, a5, a6⟩, _⟩ := Ft.ne fg.nds
  obtain ⟨nd, f, ⟨p1, c1, c2⟩, ⟨p2, s1, s2⟩, ⟨p3, w1, w2⟩, v, g1, ⟨p4, d1, d2⟩, ow⟩ := fg
  have o := off_in (H := H) (o := .ins C.fg dx (fF F p c t)) (mem_l (in_a (F := F)))
  refine ⟨nd, ⟨dx, upd_same⟩, ⟨p1, (upd_ne a1).trans c1, ?_⟩, ⟨p2, (upd_ne a2).trans s1, ?_⟩, ⟨p3, (upd_ne a3).trans w1, ?_⟩, (upd_ne a4).trans v, (upd_ne a5).trans g1, ⟨p4, (upd_ne a6).trans d1, ?_⟩, fun p hp => tracked (ow p hp)⟩
  · rw [o]; exact c2
  · rw [o]; exact s2
  · rw [o]; exact w2
  · rw [o]; exact d2
/-- a clip more -/
theorem FigAt.clip (fg : FigAt C F H g) {ps : List Addr} (hl : H F.lc = some (.lst (ps.map V.ref))) {p : Addr} {c : Ge05.Clip} (hp : ClipAt C (off F.l H) p c) : FigAt C F (upd H F.lc (.lst (ps.map V.ref ++ [.ref p]))) { g with clips := g.clips ++ [c] } := by
  obtain ⟨⟨a1, a2, a3, a4, a5, a6⟩, ⟨b1, b2, b3, b4, b5⟩, _⟩ := Ft.ne fg.nds
  obtain ⟨nd, ⟨dx, f⟩, ⟨p1, c1, c2⟩, ⟨p2, s1, s2⟩, ⟨p3, w1, w2⟩, v, g1, ⟨p4, d1, d2⟩, ow⟩ := fg
  have o := off_in (H := H) (o := .lst (ps.map V.ref ++ [.ref p])) (mem_l (in_lc (F := F)))
  have e : ps = p1 := by
    rw [hl] at c1
    have q := Option.some.inj c1
    injection q with q
    exact (List.map_inj_right (fun a b z => by injection z)).mp q
  subst e
  refine ⟨nd, ⟨dx, (upd_ne (Ne.symm a1)).trans f⟩, ⟨ps ++ [p], by rw [upd_same, List.map_append]; rfl, ?_⟩, ⟨p2, (upd_ne b1).trans s1, ?_⟩, ⟨p3, (upd_ne b2).trans w1, ?_⟩, (upd_ne b3).trans v, (upd_ne b4).trans g1, ⟨p4, (upd_ne b5).trans d1, ?_⟩, fun p hp => tracked (ow p hp)⟩
  · rw [o]; exact Paired.snoc c2 hp
  · rw [o]; exact s2
  · rw [o]; exact w2
  · rw [o]; exact d2
theorem FigAt.state (fg : FigAt C F H g) {ps : List Addr} (hl : H F.ls = some (.lst (ps.map V.ref))) {p : Addr} {c : Ge05.State} (hp : StateAt C (off F.l H) p c) : FigAt C F (upd H F.ls (.lst (ps.map V.ref ++ [.ref p]))) { g with states := g.states ++ [c] } := by
  obtain ⟨⟨a1, a2, a3, a4, a5, a6⟩, ⟨b1, b2, b3, b4, b5⟩, ⟨x1, x2, x3, x4⟩, _⟩ := Ft.ne fg.nds
  obtain ⟨nd, ⟨dx, f⟩, ⟨p1, c1, c2⟩, ⟨p2, s1, s2⟩, ⟨p3, w1, w2⟩, v, g1, ⟨p4, d1, d2⟩, ow⟩ := fg
  have o := off_in (H := H) (o := .lst (ps.map V.ref ++ [.ref p])) (mem_l (in_ls (F := F)))
  have e : ps = p2 := by
    rw [hl] at s1
    have q := Option.some.inj s1
    injection q with q
    exact (List.map_inj_right (fun a b z => by injection z)).mp q
  subst e
  refine ⟨nd, ⟨dx, (upd_ne (Ne.symm a2)).trans f⟩, ⟨p1, (upd_ne (Ne.symm b1)).trans c1, ?_⟩, ⟨ps ++ [p], by rw [upd_same, List.map_append]; rfl, ?_⟩, ⟨p3, (upd_ne x1).trans w1, ?_⟩, (upd_ne x2).trans v, (upd_ne x3).trans g1, ⟨p4, (upd_ne x4).trans d1, ?_⟩, fun p hp => tracked (ow p hp)⟩
  · rw [o]; exact c2
  · rw [o]; exact Paired.snoc s2 hp
  · rw [o]; exact w2
  · rw [o]; exact d2
theorem FigAt.way (fg : FigAt C F H g) {ps : List Addr} (hl : H F.lw = some (.lst (ps.map V.ref))) {p : Addr} {c : Ge05.Way} (hp : WayAt C (off F.l H) p c) : FigAt C F (upd H F.lw (.lst (ps.map V.ref ++ [.ref p]))) { g with ways := g.ways ++ [c] } := by
  obtain ⟨⟨a1, a2, a3, a4, a5, a6⟩, ⟨b1, b2, b3, b4, b5⟩, ⟨x1, x2, x3, x4⟩, ⟨y1, y2, y3⟩, _⟩ := Ft.ne fg.nds
  obtain ⟨nd, ⟨dx, f⟩, ⟨p1, c1, c2⟩, ⟨p2, s1, s2⟩, ⟨p3, w1, w2⟩, v, g1, ⟨p4, d1, d2⟩, ow⟩ := fg
  have o := off_in (H := H) (o := .lst (ps.map V.ref ++ [.ref p])) (mem_l (in_lw (F := F)))
  have e : ps = p3 := by
    rw [hl] at w1
    have q := Option.some.inj w1
    injection q with q
    exact (List.map_inj_right (fun a b z => by injection z)).mp q
  subst e
  refine ⟨nd, ⟨dx, (upd_ne (Ne.symm a3)).trans f⟩, ⟨p1, (upd_ne (Ne.symm b2)).trans c1, ?_⟩, ⟨p2, (upd_ne (Ne.symm x1)).trans s1, ?_⟩, ⟨ps ++ [p], by rw [upd_same, List.map_append]; rfl, ?_⟩, (upd_ne y1).trans v, (upd_ne y2).trans g1, ⟨p4, (upd_ne y3).trans d1, ?_⟩, fun p hp => tracked (ow p hp)⟩
  · rw [o]; exact c2
  · rw [o]; exact s2
  · rw [o]; exact Paired.snoc w2 hp
  · rw [o]; exact d2
/-- settings and signals by their lists -/
theorem FigAt.vals_put (fg : FigAt C F H g) {vs : List (Nat × Nat)} {xs : List V} (hx : xs = (List.range 10).map fun v => V.int (Ge05.valueOf { g with values := vs } v)) : FigAt C F (upd H F.lv (.lst xs)) { g with values := vs } := by
  obtain ⟨⟨a1, a2, a3, a4, a5, a6⟩, ⟨b1, b2, b3, b4, b5⟩, ⟨x1, x2, x3, x4⟩, ⟨y1, y2, y3⟩, ⟨z1, z2⟩, _⟩ := Ft.ne fg.nds
  obtain ⟨nd, ⟨dx, f⟩, ⟨p1, c1, c2⟩, ⟨p2, s1, s2⟩, ⟨p3, w1, w2⟩, v, g1, ⟨p4, d1, d2⟩, ow⟩ := fg
  have o := off_in (H := H) (o := .lst xs) (mem_l (in_lv (F := F)))
  refine ⟨nd, ⟨dx, (upd_ne (Ne.symm a4)).trans f⟩, ⟨p1, (upd_ne (Ne.symm b3)).trans c1, ?_⟩, ⟨p2, (upd_ne (Ne.symm x2)).trans s1, ?_⟩, ⟨p3, (upd_ne (Ne.symm y1)).trans w1, ?_⟩, by rw [upd_same, hx], (upd_ne z1).trans g1, ⟨p4, (upd_ne z2).trans d1, ?_⟩, fun p hp => tracked (ow p hp)⟩
  · rw [o]; exact c2
  · rw [o]; exact s2
  · rw [o]; exact w2
  · rw [o]; exact d2
theorem FigAt.sigs_put (fg : FigAt C F H g) {ss : List Nat} {xs : List V} (hx : xs = ss.map fun (n : Nat) => V.int n) : FigAt C F (upd H F.lg (.lst xs)) { g with signals := ss } := by
  obtain ⟨⟨a1, a2, a3, a4, a5, a6⟩, ⟨b1, b2, b3, b4, b5⟩, ⟨x1, x2, x3, x4⟩, ⟨y1, y2, y3⟩, ⟨z1, z2⟩, u1⟩ := Ft.ne fg.nds
  obtain ⟨nd, ⟨dx, f⟩, ⟨p1, c1, c2⟩, ⟨p2, s1, s2⟩, ⟨p3, w1, w2⟩, v, g1, ⟨p4, d1, d2⟩, ow⟩ := fg
  have o := off_in (H := H) (o := .lst xs) (mem_l (in_lg (F := F)))
  refine ⟨nd, ⟨dx, (upd_ne (Ne.symm a5)).trans f⟩, ⟨p1, (upd_ne (Ne.symm b4)).trans c1, ?_⟩, ⟨p2, (upd_ne (Ne.symm x3)).trans s1, ?_⟩, ⟨p3, (upd_ne (Ne.symm y2)).trans w1, ?_⟩, (upd_ne (Ne.symm z1)).trans v, by rw [upd_same, hx], ⟨p4, (upd_ne u1).trans d1, ?_⟩, fun p hp => tracked (ow p hp)⟩
  · rw [o]; exact c2
  · rw [o]; exact s2
  · rw [o]; exact w2
  · rw [o]; exact d2
/-- what stood stands beside the new footprint, too: D is new -/
theorem off_lf (fg : FigAt C F H0 g) (s : Same H0 H) (hD : H0 D = none) {o : HO} : Same (off F.l H0) (off ({ F with lf := D } : Ft).l (upd H F.a o)) := fun b u h => by
  obtain ⟨n, hb⟩ := off_some h
  have nD : b ≠ D := ne_of_none hb hD
  have na : b ≠ F.a := fun e => n (e ▸ mem_l in_a)
  refine off_of ((upd_ne na).trans (s _ _ hb)) fun m => ?_
  unfold Ft.l Ft.s at m n
  simp only [List.mem_append, List.mem_cons, List.not_mem_nil, or_false, not_or] at m n
  obtain ⟨⟨n1, n2, n3, n4, n5, n6, n7⟩, n8⟩ := n
  rcases m with m | m
  rotate_left
  · exact n8 m
  rcases m with m | m | m | m | m | m | m
  · exact n1 m
  · exact n2 m
  · exact n3 m
  · exact n4 m
  · exact n5 m
  · exact n6 m
  · exact nD m
theorem off_lg (fg : FigAt C F H0 g) (s : Same H0 H) (hD : H0 D = none) {o : HO} : Same (off F.l H0) (off ({ F with lg := D } : Ft).l (upd H F.a o)) := fun b u h => by
  obtain ⟨n, hb⟩ := off_some h
  have nD : b ≠ D := ne_of_none hb hD
  have na : b ≠ F.a := fun e => n (e ▸ mem_l in_a)
  refine off_of ((upd_ne na).trans (s _ _ hb)) fun m => ?_
  unfold Ft.l Ft.s at m n
  simp only [List.mem_append, List.mem_cons, List.not_mem_nil, or_false, not_or] at m n
  obtain ⟨⟨n1, n2, n3, n4, n5, n6, n7⟩, n8⟩ := n
  rcases m with m | m
  rotate_left
  · exact n8 m
  rcases m with m | m | m | m | m | m | m
  · exact n1 m
  · exact n2 m
  · exact n3 m
  · exact n4 m
  · exact n5 m
  · exact nD m
  · exact n7 m
theorem kept_lf (fg : FigAt C F H0 g) (s : Same H0 H) (hD : H0 D = none) {o : HO} : Kept F H0 { F with lf := D } (upd H F.a o) :=
  ⟨off_lf fg s hD, rfl, fun p hp u e => (upd_ne (Ne.symm (fg.apart in_a hp))).trans (s _ _ e)⟩
theorem kept_lg (fg : FigAt C F H0 g) (s : Same H0 H) (hD : H0 D = none) {o : HO} : Kept F H0 { F with lg := D } (upd H F.a o) :=
  ⟨off_lg fg s hD, rfl, fun p hp u e => (upd_ne (Ne.symm (fg.apart in_a hp))).trans (s _ _ e)⟩
theorem nd_lf (nd : F.l.Nodup) (h : D ∉ F.l) : ({ F with lf := D } : Ft).l.Nodup := by
  obtain ⟨nd, nx, ap⟩ := List.nodup_append.mp nd
  have hx : D ∉ F.x := fun m => h (mem_x m)
  have h : D ∉ F.s := fun m => h (mem_l m)
  refine List.nodup_append.mpr ⟨?_, nx, fun p hp q hq => ?_⟩
  rotate_left
  · intro e
    subst e
    unfold Ft.s at hp ap
    simp only [List.mem_cons, List.not_mem_nil, or_false] at hp ap
    rcases hp with hp | hp | hp | hp | hp | hp | hp
    · exact ap p (.inl hp) p hq rfl
    · exact ap p (.inr (.inl hp)) p hq rfl
    · exact ap p (.inr (.inr (.inl hp))) p hq rfl
    · exact ap p (.inr (.inr (.inr (.inl hp)))) p hq rfl
    · exact ap p (.inr (.inr (.inr (.inr (.inl hp))))) p hq rfl
    · exact ap p (.inr (.inr (.inr (.inr (.inr (.inl hp)))))) p hq rfl
    · exact hx (hp ▸ hq)
  clear ap nx hx
  unfold Ft.s at *
  simp only [List.nodup_cons, List.mem_cons, List.not_mem_nil, or_false, not_or, not_false_eq_true, List.nodup_nil, and_true] at *
  obtain ⟨n1, n2, n3, n4, n5, n6, n7⟩ := h
  obtain ⟨⟨a1, a2, a3, a4, a5, a6⟩, ⟨b1, b2, b3, b4, b5⟩, ⟨c1, c2, c3, c4⟩, ⟨d1, d2, d3⟩, ⟨e1, e2⟩, f1⟩ := nd
  exact ⟨⟨a1, a2, a3, a4, a5, Ne.symm n1⟩, ⟨b1, b2, b3, b4, Ne.symm n2⟩, ⟨c1, c2, c3, Ne.symm n3⟩, ⟨d1, d2, Ne.symm n4⟩, ⟨e1, Ne.symm n5⟩, Ne.symm n6⟩
theorem nd_lg (nd : F.l.Nodup) (h : D ∉ F.l) : ({ F with lg := D } : Ft).l.Nodup := by
  obtain ⟨nd, nx, ap⟩ := List.nodup_append.mp nd
  have hx : D ∉ F.x := fun m => h (mem_x m)
  have h : D ∉ F.s := fun m => h (mem_l m)
  refine List.nodup_append.mpr ⟨?_, nx, fun p hp q hq => ?_⟩
  rotate_left
  · intro e
    subst e
    unfold Ft.s at hp ap
    simp only [List.mem_cons, List.not_mem_nil, or_false] at hp ap
    rcases hp with hp | hp | hp | hp | hp | hp | hp
    · exact ap p (.inl hp) p hq rfl
    · exact ap p (.inr (.inl hp)) p hq rfl
    · exact ap p (.inr (.inr (.inl hp))) p hq rfl
    · exact ap p (.inr (.inr (.inr (.inl hp)))) p hq rfl
    · exact ap p (.inr (.inr (.inr (.inr (.inl hp))))) p hq rfl
    · exact hx (hp ▸ hq)
    · exact ap p (.inr (.inr (.inr (.inr (.inr (.inr hp)))))) p hq rfl
  clear ap nx hx
  unfold Ft.s at *
  simp only [List.nodup_cons, List.mem_cons, List.not_mem_nil, or_false, not_or, not_false_eq_true, List.nodup_nil, and_true] at *
  obtain ⟨n1, n2, n3, n4, n5, n6, n7⟩ := h
  obtain ⟨⟨a1, a2, a3, a4, a5, a6⟩, ⟨b1, b2, b3, b4, b5⟩, ⟨c1, c2, c3, c4⟩, ⟨d1, d2, d3⟩, ⟨e1, e2⟩, f1⟩ := nd
  exact ⟨⟨a1, a2, a3, a4, Ne.symm n1, a6⟩, ⟨b1, b2, b3, Ne.symm n2, b5⟩, ⟨c1, c2, Ne.symm n3, c4⟩, ⟨d1, Ne.symm n4, d3⟩, ⟨Ne.symm n5, e2⟩, n7⟩
/-- fades is another list -/
theorem FigAt.fades (fg : FigAt C F H0 g) (s : Same H0 H) (hD : H0 D = none) {ps : List Addr} (hl : H D = some (.lst (ps.map V.ref))) {fs : List (Ge05.Play × Nat × Nat)}
    (pf : Paired (fun p x => p ∉ F.l ∧ FadeAt C H p x) ps fs.reverse) {p c t : Nat} : FigAt C { F with lf := D } (upd H F.a (.ins C.fg dx (fF { F with lf := D } p c t))) { g with now := ⟨p, c⟩, ticks := t, fading := fs } := by
  have nD : D ∉ F.l := fg.notin hD
  have so := off_lf (H := H) (o := .ins C.fg dx (fF { F with lf := D } p c t)) fg s hD
  have nDa : D ≠ F.a := fun e => nD (e ▸ mem_l in_a)
  obtain ⟨⟨a1, a2, a3, a4, a5, a6⟩, _⟩ := Ft.ne fg.nds
  obtain ⟨nd, f, ⟨p1, c1, c2⟩, ⟨p2, s1, s2⟩, ⟨p3, w1, w2⟩, v, g1, ⟨p4, d1, d2⟩, ow⟩ := fg
  refine ⟨nd_lf nd nD, ⟨dx, upd_same⟩, ⟨p1, (upd_ne a1).trans (s _ _ c1), Paired.mapP c2 fun _ _ q => q.mono so⟩, ⟨p2, (upd_ne a2).trans (s _ _ s1), Paired.mapP s2 fun _ _ q => q.mono so⟩, ⟨p3, (upd_ne a3).trans (s _ _ w1), Paired.mapP w2 fun _ _ q => q.mono so⟩, (upd_ne a4).trans (s _ _ v), (upd_ne a5).trans (s _ _ g1), ⟨ps, (upd_ne nDa).trans hl, Paired.mapP pf fun b x q => ?_⟩, fun p hp => tracked ((ow p hp).elim fun o e => ⟨o, s _ _ e⟩)⟩
  obtain ⟨n, db, hb⟩ := q
  have nb : b ≠ D := ne_of hb hl (by intro z; cases z)
  have nba : b ≠ F.a := fun e => n (e ▸ mem_l in_a)
  refine ⟨db, off_of ((upd_ne nba).trans hb) fun m => ?_⟩
  unfold Ft.l Ft.s at m n
  simp only [List.mem_append, List.mem_cons, List.not_mem_nil, or_false, not_or] at m n
  obtain ⟨⟨n1, n2, n3, n4, n5, n6, n7⟩, n8⟩ := n
  rcases m with m | m
  rotate_left
  · exact n8 m
  rcases m with m | m | m | m | m | m | m
  · exact n1 m
  · exact n2 m
  · exact n3 m
  · exact n4 m
  · exact n5 m
  · exact n6 m
  · exact nb m
/-- signals is another list -/
theorem FigAt.signals (fg : FigAt C F H0 g) (s : Same H0 H) (hD : H0 D = none) {ss : List Nat} (hl : H D = some (.lst (ss.map fun (n : Nat) => V.int n)))
    {p c t : Nat} (hp : g.now = ⟨p, c⟩) (ht : g.ticks = t) : FigAt C { F with lg := D } (upd H F.a (.ins C.fg dx (fF { F with lg := D } p c t))) { g with signals := ss } := by
  have nD : D ∉ F.l := fg.notin hD
  have so := off_lg (H := H) (o := .ins C.fg dx (fF { F with lg := D } p c t)) fg s hD
  have nDa : D ≠ F.a := fun e => nD (e ▸ mem_l in_a)
  obtain ⟨⟨a1, a2, a3, a4, a5, a6⟩, _⟩ := Ft.ne fg.nds
  obtain ⟨nd, f, ⟨p1, c1, c2⟩, ⟨p2, s1, s2⟩, ⟨p3, w1, w2⟩, v, g1, ⟨p4, d1, d2⟩, ow⟩ := fg
  refine ⟨nd_lg nd nD, ⟨dx, ?_⟩, ⟨p1, (upd_ne a1).trans (s _ _ c1), Paired.mapP c2 fun _ _ q => q.mono so⟩, ⟨p2, (upd_ne a2).trans (s _ _ s1), Paired.mapP s2 fun _ _ q => q.mono so⟩, ⟨p3, (upd_ne a3).trans (s _ _ w1), Paired.mapP w2 fun _ _ q => q.mono so⟩, (upd_ne a4).trans (s _ _ v), (upd_ne nDa).trans hl, ⟨p4, (upd_ne a6).trans (s _ _ d1), Paired.mapP d2 fun _ _ q => q.mono so⟩, fun p hp => tracked ((ow p hp).elim fun o e => ⟨o, s _ _ e⟩)⟩
  show upd H F.a _ F.a = some (.ins C.fg dx (fF { F with lg := D } g.now.state g.now.at_ g.ticks))
  rw [upd_same, hp, ht]
end
end FF
namespace FF
open PySem PySem.Spec PyProof.Rows L2
section
variable {P : Program} {w : World} {K : PySem.W.Frag} {mg : Str → Option Value} {base : Heap} {C : Cs}
/-! ### ticking.py: what changes the figure -/
def spFirst (C : Cs) : Sp := fun vs H Q _ => ∃ (F : Ft) (g : Ge05.House), vs = [.ref F.a] ∧ FigAt C F H g ∧ Wf g ∧ (g.ways.find? (Ge05.may g) = none → Q .non H) ∧ (∀ y p, g.ways.find? (Ge05.may g) = some y → WayAt C (off F.l H) p y → Q (.ref p) H)
theorem find_take {α : Type} {f : α → Bool} {l : List α} {i : Nat} {x : α} (h : l[i]? = some x) (a : (l.take i).all (fun y => !f y) = true) (b : f x = true) : l.find? f = some x := by
  have e : l = l.take i ++ x :: l.drop (i + 1) := by
    have hi := lt_get h
    have hx : l[i] = x := (List.getElem?_eq_some_iff.mp h).2
    rw [← hx, List.getElem_cons_drop hi, List.take_append_drop]
  have n : (l.take i).find? f = none := by
    rw [List.find?_eq_none]
    intro y hy
    have := List.all_eq_true.mp a y hy
    simpa using this
  rw [e, List.find?_append, n, List.find?_cons, b]
  rfl
theorem ok_first_way (D : Def K mg "first_way" s_first_way ["figure"]) (T : Txt K mg C) (cM : Cal P w K mg base 3 "may_be_taken" (spMay C)) : Cal P w K mg base 4 "first_way" (spFirst C) := by
  refine cal_of D sc_first_way (fun vs H Q E h => ?_) (fun f cdv A outer s H vs Q E hr h => ?_)
  · obtain ⟨F, g, rfl, _⟩ := h
    rfl
  · obtain ⟨F, g, rfl, fg, wf, k0, k1⟩ := h
    refine ⟨_, pss_cons (ps_for PassesOwn.never rfl (pi_list (pe_fld (pv 0) rfl)) (pg_name (i := 1) sc_first_way.nd rfl (Or.inl rfl))
        (pss_one (ps_if (pt_val (pe_c cM hr (pa_cons (pv 0) (pa_cons (pv 1) pa_nil)))) (pss_one (ps_ret (pv 1))) pss_nil)))
      (pss_one (ps_ret pe_non)), ?_⟩
    obtain ⟨dx, hf⟩ := fg.fig
    obtain ⟨ps, hw, pw⟩ := fg.ways
    have hlen : ps.length = g.ways.length := Paired.length pw
    refine ⟨_, rfl, F.a, C.fg, dx, _, _, rfl, hf, T.c_Figure, T.n_Figure_ways, fF_ways, F.lw, rfl, ⟨_, SqL.of hw⟩, for_list (K := K) (a := F.lw) (xs := ps.map V.ref) (fun i σ H' => H' = H ∧ (∃ v, σ = [some (.ref F.a), v]) ∧ (g.ways.take i).all (fun y => !Ge05.may g y) = true)
      ⟨rfl, ⟨none, rfl⟩, rfl⟩ (fun i σ H' _ ⟨q, _, _⟩ => by rw [q]; exact SqL.of hw) ?_ ?_⟩
    · rintro i x σ H' hi ⟨rfl, ⟨v, rfl⟩, ha⟩
      obtain ⟨p, hp, rfl⟩ := map_get hi
      obtain ⟨y, hy, hyp⟩ := paired_getL pw hp
      refine ⟨_, rfl, _, rfl, F, g, p, y, rfl, fg, wf, hyp.mono off_sub, (wf.way y (mem_get hy)).2.2.2, _, rfl, ?_⟩
      cases z : Ge05.may g y with
      | true => exact ifT rfl ⟨_, rfl, k1 y p (find_take hy ha z) hyp⟩
      | false => exact ifF rfl ⟨rfl, ⟨_, rfl⟩, all_take hy ha (by rw [z]; rfl)⟩
    · rintro σ H' ⟨rfl, ⟨v, rfl⟩, ha⟩
      rw [List.length_map, hlen, List.take_length] at ha
      refine k0 ?_
      rw [List.find?_eq_none]
      intro y hy
      have := List.all_eq_true.mp ha y hy
      simpa using this
def spCountOn (C : Cs) : Sp := fun vs H Q _ => ∃ (F : Ft) (g : Ge05.House), vs = [.ref F.a] ∧ FigAt C F H g ∧ Wf g ∧ g.ticks ≤ 100000 ∧
  ∀ H' l, H l = none → FigAt C F H' (counted g) → Kept F H F H' → H' l = some (.lst (nV (Ge05.played g g.now).2)) → l ∉ F.l → Q (.ref l) H'
theorem events_len (c : Ge05.Clip) (n : Nat) : (Ge05.eventsAt c n).length ≤ c.events.length := by
  unfold Ge05.eventsAt
  split
  · exact Nat.zero_le _
  · rw [List.length_map]
    exact List.length_filter_le _ _
theorem flat_len {c : Ge05.Clip} (h : c.events.length ≤ 6) : ∀ l : List Nat, (l.flatMap (Ge05.eventsAt c)).length ≤ 6 * l.length
  | [] => Nat.le_refl _
  | a :: l => by
    have ih := flat_len h l
    have := events_len c a
    rw [List.flatMap_cons, List.length_append, List.length_cons]
    omega
theorem gone_more (a i : Nat) : ((List.range (i + 1)).map fun j => a + j + 1) = ((List.range i).map fun j => a + j + 1) ++ [a + i + 1] := by
  rw [List.range_succ, List.map_append]
  rfl
theorem nV_len (l : List Nat) : (nV l).length = l.length := List.length_map ..
theorem nV_app (a b : List Nat) : nV (a ++ b) = nV a ++ nV b := List.map_append ..
theorem ok_count_on (D : Def K mg "count_on" s_count_on ["figure"]) (T : Txt K mg C) (cC : Cal P w K mg base 1 "clip_of" (spClipOf C)) (cE : Cal P w K mg base 2 "events_at" (spEvents C)) : Cal P w K mg base 3 "count_on" (spCountOn C) := by
  refine cal_of D sc_count_on (fun vs H Q E h => ?_) (fun f cdv A outer s H vs Q E hr h => ?_)
  · obtain ⟨F, g, rfl, _⟩ := h
    rfl
  · obtain ⟨F, g, rfl, fg, wf, ht, k⟩ := h
    refine ⟨_, pss_cons (ps_set (i := 1) sc_count_on.nd rfl (Or.inl rfl) (pe_c cC hr (pa_cons (pv 0) (pa_cons (pe_fld (pv 0) rfl) pa_nil))))
      (pss_cons (ps_set (i := 2) sc_count_on.nd rfl (Or.inl rfl) (pe_op op_add (pe_fld (pv 0) rfl) (pe_fld (pe_ix ix_list (pe_fld (pv 0) rfl) (pe_fld (pv 0) rfl) (fun _ _ => rfl)) rfl)))
      (pss_cons (ps_set (i := 3) sc_count_on.nd rfl (Or.inl rfl) (pe_lst pa_nil))
      (pss_cons (ps_for PassesOwn.never rfl (pi_range2 (by rfl) T.b_range (pa_cons (pe_op op_add (pe_fld (pv 0) rfl) pe_int) (pa_cons (pe_op op_add (pv 2) pe_int) pa_nil))) (pg_name (i := 4) sc_count_on.nd rfl (Or.inl rfl))
        (pss_one (ps_expr (pe_bm PySem.F.plainAttrs_list PySem.F.slot_list_extend PySem.F.type_list_extend mt_extend (pv 3) (pa_cons (pe_c cE hr (pa_cons (pv 1) (pa_cons (pv 4) pa_nil))) pa_nil)))))
      (pss_cons (ps_fld (pv 0) (pv 2) rfl)
      (pss_one (ps_ret (pv 3))))))), ?_⟩
    obtain ⟨dx, hf⟩ := fg.fig
    obtain ⟨qs, hs, pq⟩ := fg.states
    obtain ⟨st, c, e1, e2, e3, m1, m2⟩ := wf.c.at_state wf.now.1
    obtain ⟨q, eq, ⟨dq, hq⟩⟩ := paired_get pq e1
    have hsp := (wf.c.st st m1).2
    have hco := wf.c.clip c m2
    have hat := wf.now.2
    refine ⟨_, rfl, _, rfl, F.a, C.fg, dx, _, _, rfl, hf, T.c_Figure, T.n_Figure_plays, fF_plays, F, g, g.now.state, rfl, fg, wf.c, wf.now.1, fun p hp => ?_⟩
    rw [e3] at hp
    refine ⟨_, rfl, F.a, C.fg, dx, _, _, rfl, hf, T.c_Figure, T.n_Figure_count, fF_count, _, rfl, F.a, C.fg, dx, _, _, rfl, hf, T.c_Figure, T.n_Figure_states, fF_states, _, rfl, F.a, C.fg, dx, _, _, rfl, hf, T.c_Figure, T.n_Figure_plays, fF_plays, F.ls, _, _, .ref q, rfl, rfl, SqL.of hs, atI_nat (by rw [List.getElem?_map, eq]; rfl), q, C.st, dq, _, _, rfl, off_sub _ _ hq, T.c_State, T.n_State_speed, sF_speed, _, _, rfl, rfl, ?_⟩
    refine ⟨Nat.zero_le _, fun l hl => ?_⟩
    have s1 : Same H (upd H l (.lst [])) := same_new hl
    have hlF : l ∉ F.l := fg.notin hl
    refine ⟨_, rfl, F.a, C.fg, dx, _, _, rfl, s1 _ _ hf, T.c_Figure, T.n_Figure_count, fF_count, _, _, rfl, rfl, _, rfl, _, _, rfl, rfl, _, _, rfl, ⟨?_, ?_, ?_, ?_⟩, ?_⟩
    · omega
    · omega
    · omega
    · omega
    have en : ((g.now.at_ : Int) + (st.speed : Int) + 1 - ((g.now.at_ : Int) + 1)).toNat = st.speed := by omega
    refine for_range (lo := (g.now.at_ : Int) + 1) (fun i σ H' => (∃ v, σ = [some (.ref F.a), some (.ref p), some (.int ((g.now.at_ : Int) + (st.speed : Int))), some (.ref l), v]) ∧ Same H H' ∧ H' l = some (.lst (nV (((List.range i).map fun j => g.now.at_ + j + 1).flatMap (Ge05.eventsAt c)))))
      ⟨⟨none, rfl⟩, s1, upd_same⟩ ?_ ?_
    · rintro i σ H' hi ⟨⟨v, rfl⟩, sm, hL⟩
      rw [en] at hi
      have ei : (g.now.at_ : Int) + 1 + (i : Int) = ((g.now.at_ + i + 1 : Nat) : Int) := by omega
      refine ⟨_, rfl, .inl ⟨rfl, _, SqL.of hL⟩, _, rfl, _, rfl, p, c, g.now.at_ + i + 1, ?_, hp.mono (Same.trans off_sub sm), hco.1, hco.2.2, fun y hy => ⟨l, y, _, _, rfl, rfl, same_new hy _ _ hL, upd_same, ?_, ?_⟩⟩
      · rw [ei]
      · rw [nV_len, nV_len]
        have a1 := flat_len hco.2.2 ((List.range i).map fun j => g.now.at_ + j + 1)
        have a2 := events_len c (g.now.at_ + i + 1)
        rw [List.length_map, List.length_range] at a1
        exact Nat.le_trans (show _ ≤ 1000 by omega) (by decide)
      · refine ⟨⟨_, rfl⟩, fun b o e => ?_, ?_⟩
        · rw [upd_ne (ne_of_none e hl)]
          exact same_new hy _ _ (sm _ _ e)
        · rw [upd_same, gone_more, List.flatMap_append, nV_app]
          simp
    · rintro σ H' ⟨⟨v, rfl⟩, sm, hL⟩
      rw [en] at hL
      have fg' := fg.same sm
      have ep : Ge05.played g g.now = (⟨g.now.state, g.now.at_ + st.speed⟩, ((List.range st.speed).map fun j => g.now.at_ + j + 1).flatMap (Ge05.eventsAt c)) := by
        unfold Ge05.played Ge05.gone
        rw [e1, e3]
        simp
      refine ⟨_, rfl, _, rfl, F.a, C.fg, dx, _, rfl, sm _ _ hf, T.c_Figure, T.n_Figure_count, fF_len, ?_⟩
      refine ⟨_, rfl, ?_⟩
      have hla : l ≠ F.a := fun e => hlF (e ▸ mem_l in_a)
      have fin := fg'.put (dx := dx) (p := g.now.state) (c := g.now.at_ + st.speed) (t := g.ticks)
      refine k _ l hl ?_ (Kept.trans (Kept.of_same sm) (fg.kput in_a)) ?_ hlF
      · rw [fF_putCount]
        unfold counted
        rw [ep]
        exact fin
      · rw [upd_ne hla, hL, ep]
end
end FF
namespace FF
open PySem PySem.Spec PyProof.Rows L2
section
variable {P : Program} {w : World} {K : PySem.W.Frag} {mg : Str → Option Value} {base : Heap} {C : Cs}
theorem tw_break {α : Type} {f : α → Bool} {x : α} : ∀ {l : List α} {i : Nat}, l[i]? = some x → (l.take i).all f = true → f x = false → l.takeWhile f = l.take i
  | [], i, h, _, _ => by simp at h
  | a :: l, 0, h, _, b => by
    have e : a = x := Option.some.inj h
    subst e
    simp [List.takeWhile, b]
  | a :: l, i + 1, h, c, b => by
    have c' : (f a && (l.take i).all f) = true := by simpa using c
    obtain ⟨c1, c2⟩ := Bool.and_eq_true_iff.mp c'
    have ih := tw_break (l := l) (i := i) (by simpa using h) c2 b
    simp [List.takeWhile, c1, ih]
theorem tw_all {α : Type} {f : α → Bool} : ∀ {l : List α}, l.all f = true → l.takeWhile f = l
  | [], _ => rfl
  | a :: l, c => by
    have c' : (f a && l.all f) = true := by simpa using c
    obtain ⟨c1, c2⟩ := Bool.and_eq_true_iff.mp c'
    simp [List.takeWhile, c1, tw_all c2]
def spFadeOn (C : Cs) : Sp := fun vs H Q _ => ∃ (F : Ft) (g : Ge05.House), vs = [.ref F.a] ∧ FigAt C F H g ∧ Wf g ∧ g.ticks ≤ 100000 ∧
  ∀ H' F', F'.a = F.a → FigAt C F' H' { g with fading := faded g } → Kept F H F' H' → Q .non H'
theorem ok_fade_on (D : Def K mg "fade_on" s_fade_on ["figure"]) (T : Txt K mg C) (cF : Mak P w K mg base 1 "Fade" C.fd (spIFade C)) : Cal P w K mg base 3 "fade_on" (spFadeOn C) := by
  refine cal_of D sc_fade_on (fun vs H Q E h => ?_) (fun f cdv A outer s H vs Q E hr h => ?_)
  · obtain ⟨F, g, rfl, _⟩ := h
    rfl
  · obtain ⟨F, g, rfl, fg, wf, ht, k⟩ := h
    refine ⟨_, pss_cons (ps_set (i := 1) sc_fade_on.nd rfl (Or.inl rfl) (pe_lst pa_nil))
      (pss_cons (ps_for PassesOwn.never rfl (pi_list (pe_fld (pv 0) rfl)) (pg_name (i := 2) sc_fade_on.nd rfl (Or.inl rfl))
        (pss_cons (ps_set (i := 3) sc_fade_on.nd rfl (Or.inl rfl) (pe_op op_add (pe_fld (pv 2) rfl) pe_int))
        (pss_cons (ps_if (pt_cmpR op_ge (pv 3) (pe_fld (pv 2) rfl) (nomark _)) (pss_one ps_break) pss_nil)
        (pss_one (ps_expr (pe_bm PySem.F.plainAttrs_list PySem.F.slot_list_append PySem.F.type_list_append mt_append (pv 1) (pa_cons (pe_mk cF hr (pa_cons (pe_fld (pv 2) rfl) (pa_cons (pe_op op_add (pe_fld (pv 2) rfl) (pe_fld (pe_ix ix_list (pe_fld (pv 0) rfl) (pe_fld (pv 2) rfl) (fun _ _ => rfl)) rfl)) (pa_cons (pv 3) (pa_cons (pe_fld (pv 2) rfl) pa_nil))))) pa_nil)))))))
      (pss_one (ps_fld (pv 0) (pv 1) rfl))), ?_⟩
    obtain ⟨dx, hf⟩ := fg.fig
    obtain ⟨qs, hs, pq⟩ := fg.states
    obtain ⟨ds, hd, pd⟩ := fg.fads
    have hlen : ds.length = g.fading.reverse.length := Paired.length pd
    refine ⟨Nat.zero_le _, fun l hl => ?_⟩
    have s1 : Same H (upd H l (.lst [])) := same_new hl
    have hlF : l ∉ F.l := fg.notin hl
    -- what is done when the loop is left behind i turns
    have fin : ∀ (i : Nat) (H' : Hp) (σ : L2.St) (v2 v3 : Option V) (ps : List Addr), faded g = ((g.fading.reverse.map (adv g)).take i).reverse → σ = [some (.ref F.a), some (.ref l), v2, v3] → Same H H' → H' l = some (.lst (ps.map V.ref)) → Paired (fun p x => p ∉ F.l ∧ FadeAt C H' p x) ps ((g.fading.reverse.map (adv g)).take i) →
        sFld K (tVar 0) (tVar 1) "fades" { nx := fun _ H' => Q .non H', rt := Q } σ H' := by
      intro i H' σ v2 v3 ps e hσ sm hL pp
      subst hσ
      refine ⟨_, rfl, _, rfl, F.a, C.fg, dx, _, rfl, sm _ _ hf, T.c_Figure, T.n_Figure_fades, fF_len, ?_⟩
      rw [fF_putFades]
      refine k _ { F with lf := l } rfl ?_ (kept_lf fg sm hl)
      exact fg.fades (dx := dx) (p := g.now.state) (c := g.now.at_) (t := g.ticks) sm hl hL (by rw [e, List.reverse_reverse]; exact pp)
    refine ⟨_, rfl, F.a, C.fg, dx, _, _, rfl, s1 _ _ hf, T.c_Figure, T.n_Figure_fades, fF_fades, F.lf, rfl, ⟨_, SqL.of (s1 _ _ hd)⟩, for_list (K := K) (a := F.lf) (xs := ds.map V.ref)
      (fun i σ H' => (∃ v2 v3, σ = [some (.ref F.a), some (.ref l), v2, v3]) ∧ Same H H' ∧ ((g.fading.reverse.map (adv g)).take i).all alive = true ∧ ∃ ps : List Addr, H' l = some (.lst (ps.map V.ref)) ∧ Paired (fun p x => p ∉ F.l ∧ FadeAt C H' p x) ps ((g.fading.reverse.map (adv g)).take i))
      ⟨⟨none, none, rfl⟩, s1, rfl, [], upd_same, .nil⟩ (fun i σ H' _ ⟨_, sm, _⟩ => SqL.of (sm _ _ hd)) ?_ ?_⟩
    · rintro i x σ H' hi ⟨⟨v2, v3, rfl⟩, sm, ha, ps, hL, pp⟩
      obtain ⟨b, hb, rfl⟩ := map_get hi
      obtain ⟨y, hy, ⟨db, hbb⟩⟩ := paired_getL pd hb
      have hbH := sm _ _ (off_sub _ _ hbb)
      have hbH : H' b = _ := hbH
      have hym : y ∈ g.fading := List.mem_reverse.mp (mem_get hy)
      obtain ⟨y1, y2, y3, y4⟩ := wf.fad y hym
      obtain ⟨st, c, e1, e2, e3, m1, m2⟩ := wf.c.at_state y1
      obtain ⟨q, eq, ⟨dq, hq⟩⟩ := paired_get pq e1
      have hadv : (g.fading.reverse.map (adv g))[i]? = some (adv g y) := by rw [List.getElem?_map, hy]; rfl
      have eadv : adv g y = (⟨y.1.state, y.1.at_ + st.speed⟩, y.2.1, y.2.2 + 1) := by
        unfold adv Ge05.played
        rw [e1]
        rfl
      have er : (g.fading.map (adv g)).reverse = g.fading.reverse.map (adv g) := List.map_reverse.symm
      refine ⟨_, rfl, b, C.fd, db, _, _, rfl, hbH, T.c_Fade, T.n_Fade_had, dF_had, _, _, rfl, rfl, _, rfl, _, rfl, b, C.fd, db, _, _, rfl, hbH, T.c_Fade, T.n_Fade_takes, dF_takes, _, _, rfl, rfl, _, rfl, ?_⟩
      by_cases z : y.2.1 ≤ y.2.2 + 1
      · refine ifT (decide_eq_true (by omega)) ?_
        have ew : faded g = ((g.fading.reverse.map (adv g)).take i).reverse := by
          unfold faded
          rw [er, tw_break hadv ha (by rw [eadv]; exact decide_eq_false (by show ¬ y.2.2 + 1 < y.2.1; omega))]
        exact fin i H' _ _ _ ps ew rfl sm hL pp
      · refine ifF (decide_eq_false (by omega)) ?_
        refine ⟨_, rfl, .inl ⟨rfl, _, SqL.of hL⟩, ?_⟩
        refine ⟨_, rfl, b, C.fd, db, _, _, rfl, hbH, T.c_Fade, T.n_Fade_state, dF_state, ?_⟩
        refine ⟨_, rfl, b, C.fd, db, _, _, rfl, hbH, T.c_Fade, T.n_Fade_count, dF_count, _, rfl, F.a, C.fg, dx, _, _, rfl, sm _ _ hf, T.c_Figure, T.n_Figure_states, fF_states, _, rfl, b, C.fd, db, _, _, rfl, hbH, T.c_Fade, T.n_Fade_state, dF_state, F.ls, _, _, .ref q, rfl, rfl, SqL.of (sm _ _ hs), atI_nat (by rw [List.getElem?_map, eq]; rfl), q, C.st, dq, _, _, rfl, sm _ _ (off_sub _ _ hq), T.c_State, T.n_State_speed, sF_speed, _, _, rfl, rfl, ?_⟩
        refine ⟨_, rfl, _, rfl, b, C.fd, db, _, _, rfl, hbH, T.c_Fade, T.n_Fade_takes, dF_takes, ?_⟩
        intro x dx' nx nd ne
        refine ⟨x, dx', _, _, _, _, rfl, upd_same, rfl, ?_⟩
        rw [upd_upd]
        have s2 : Same H' (upd (upd H' dx' (.own x)) x (.ins C.fd dx' (dF y.1.state (y.1.at_ + st.speed) (y.2.2 + 1) y.2.1))) := fun a o e => by
          rw [upd_ne (ne_of_none e nx), upd_ne (ne_of_none e nd)]
          exact e
        refine ⟨l, _, _, rfl, rfl, s2 _ _ hL, ?_, ?_⟩
        · have hpl : ps.length ≤ i := by
            rw [Paired.length pp, List.length_take]
            exact Nat.min_le_left _ _
          have hil := lt_get hb
          have := wf.fl
          rw [hlen, List.length_reverse] at hil
          rw [List.length_map]
          exact Nat.lt_of_le_of_lt (show _ ≤ 100000 by omega) (by decide)
        · have hlx : ∀ a o, H a = some o → a ≠ l := fun a o e => ne_of_none e hl
          have xl : x ≠ l := fun e => by
            rw [e, hL] at nx
            cases nx
          have s3 : ∀ a o, H' a = some o → a ≠ l → upd (upd (upd H' dx' (.own x)) x (.ins C.fd dx' (dF y.1.state (y.1.at_ + st.speed) (y.2.2 + 1) y.2.1))) l (.lst (ps.map V.ref ++ [.ref x])) a = some o := fun a o e n => by
            rw [upd_ne n]
            exact s2 _ _ e
          refine ⟨⟨_, _, rfl⟩, fun a o e => s3 a o (sm _ _ e) (hlx _ _ e), all_take hadv ha (by rw [eadv]; exact decide_eq_true (by show y.2.2 + 1 < y.2.1; omega)), ps ++ [x], by rw [upd_same, List.map_append]; rfl, ?_⟩
          rw [take_more hadv]
          refine Paired.snoc (Paired.mapP pp fun a o ⟨n, d, e⟩ => ⟨n, d, s3 _ _ e (ne_of e hL (by intro z; cases z))⟩) ⟨fg.notin (sm.free nx), dx', ?_⟩
          rw [upd_ne xl, upd_same, eadv]
          rfl
    · rintro σ H' ⟨⟨v2, v3, rfl⟩, sm, ha, ps, hL, pp⟩
      have el : (ds.map V.ref).length = (g.fading.reverse.map (adv g)).length := by rw [List.length_map, List.length_map, hlen]
      rw [el, List.take_length] at ha
      rw [el] at pp
      refine fin _ H' _ _ _ ps ?_ rfl sm hL pp
      unfold faded
      rw [List.take_length, List.map_reverse.symm, tw_all ha]
end
end FF
namespace FF
open PySem PySem.Spec PyProof.Rows L2
section
variable {P : Program} {w : World} {K : PySem.W.Frag} {mg : Str → Option Value} {base : Heap} {C : Cs}
def sigOf : Ge05.Cond → Option Nat
  | .signal s => some s
  | _ => none
def takes (cs : List Ge05.Cond) : List Nat := cs.filterMap sigOf
theorem takenBy_eq (y : Ge05.Way) : Ge05.takenBy y = takes y.conds := by
  unfold Ge05.takenBy takes
  congr 1
theorem takes_more {cs : List Ge05.Cond} {i : Nat} {c : Ge05.Cond} (h : cs[i]? = some c) : takes (cs.take (i + 1)) = takes (cs.take i) ++ (sigOf c).toList := by
  rw [take_more h]
  unfold takes
  rw [List.filterMap_append]
  congr 1
theorem takes_len (cs : List Ge05.Cond) : (takes cs).length ≤ cs.length := List.length_filterMap_le _ _
theorem keep_more {l : List Nat} {i n : Nat} {f : Nat → Bool} (h : l[i]? = some n) (b : Bool) (hb : f n = b) :
    nV ((l.take (i + 1)).filter f) = if b = true then nV ((l.take i).filter f) ++ [V.int n] else nV ((l.take i).filter f) := by
  rw [take_more h, List.filter_append]
  unfold nV
  cases b with
  | true => simp [List.filter, hb]
  | false => simp [List.filter, hb]
def spTakeSig (C : Cs) : Sp := fun vs H Q _ => ∃ (F : Ft) (g : Ge05.House) (p : Addr) (y : Ge05.Way), vs = [.ref F.a, .ref p] ∧ FigAt C F H g ∧ WayAt C H p y ∧ y.conds.length ≤ 4 ∧ g.signals.length ≤ 100000 ∧
  ∀ H' F', F'.a = F.a → FigAt C F' H' { g with signals := unsignal g y } → Kept F H F' H' → Q .non H'
theorem sw_cell {elt : Expr} {gs : List Comprehension} {scope : Scope} {pos py : Pos} {y : Str} {l : Nat} {env : Env} (hy : env.scope.names.lookup y = some .cell) : swapsWith (.ListComp elt gs scope pos) (some (.Name y py)) l env = pure false := by
  have ky : env.kindOf y = some .cell := hy
  unfold swapsWith
  simp only [ky]
  have z : (NameKind.cell == NameKind.local) = false := rfl
  simp [z]
theorem ok_take_signals (D : Def K mg "take_signals" s_take_signals ["figure", "way"]) (T : Txt K mg C) : Cal P w K mg base 1 "take_signals" (spTakeSig C) := by
  refine cal_of D sc_take_signals (fun vs H Q E h => ?_) (fun f cdv A outer s H vs Q E hr h => ?_)
  · obtain ⟨F, g, p, y, rfl, _⟩ := h
    rfl
  · obtain ⟨F, g, p, y, rfl, fg, ⟨dw, e, hp, ts, he, pt⟩, h4, hsig, k⟩ := h
    refine ⟨_, pss_cons (ps_set (i := 2) sc_take_signals.nd rfl (Or.inr rfl) (pe_lc (own := [("condition", 3)]) (g := gName 3) (tt := tTest (tOp rEq (tOp (rIxT K) (tVar 3) (tC (.int 0))) (tC (.int 2)))) (te := tOp (rIxT K) (tVar 3) (tC (.int 1))) (by rfl) sc_take_signals.nd (pi_list (pe_fld (pv 1) rfl)) (blkOk_by (own := [("condition", 3)]) (N := ["figure", "way", "asked", "condition", "which"]) (sc := defScope s_take_signals) (by decide +kernel))
        (fun _ _ _ _ _ => pg_name (i := 3) sc_take_signals.nd rfl (Or.inl rfl)) (fun _ _ _ _ _ => pts_one (pt_cmpR op_eq (pe_ix ix_tup (pv 3) pe_int (fun _ _ => rfl)) pe_int (nomark _))) (fun _ _ _ _ _ => pe_ix ix_tup (pv 3) pe_int (fun _ _ => rfl))) (sw_cell (by rfl)))
      (pss_one (ps_fld (pv 0) (pe_lc (own := [("which", 4)]) (g := gName 4) (tt := tTest (tOp (rIn K true) (tVar 4) (tVar 2))) (te := tVar 4) (by rfl) sc_take_signals.nd (pi_list (pe_fld (pv 0) rfl)) (blkOk_by (own := [("which", 4)]) (N := ["figure", "way", "asked", "condition", "which"]) (sc := defScope s_take_signals) (by decide +kernel))
        (fun _ _ _ _ _ => pg_name (i := 4) sc_take_signals.nd rfl (Or.inl rfl)) (fun _ _ _ _ _ => pts_one (pt_cmpR op_notIn_seq (pv 4) (pv 2) (by rfl))) (fun _ _ _ _ _ => pv 4)) rfl)), ?_⟩
    obtain ⟨dx, hf⟩ := fg.fig
    have hlen : ts.length = y.conds.length := by rw [Paired.length pt, List.length_map]
    refine ⟨_, rfl, p, C.wy, dw, _, _, rfl, hp, T.c_Way, T.n_Way_conditions, wF_conds, e, rfl, ⟨_, SqL.of he⟩, fun D hD => ?_⟩
    refine lc_list (K := K) (a := e) (xs := ts.map V.ref) (fun i H' => H' = upd H D (.lst (nV (takes (y.conds.take i))))) rfl (fun i H' _ q => ?_) (fun i x H' hi q => ?_) (fun H' q => ?_)
    · rw [q]
      exact SqL.of (same_new hD _ _ he)
    · obtain ⟨t, ht, rfl⟩ := map_get hi
      obtain ⟨lv, hlv, htt⟩ := paired_getL pt ht
      obtain ⟨c, hc, rfl⟩ := map_get_of hlv
      have ht' : H' t = some (.tup (condV c)) := by
        rw [q]
        exact same_new hD _ _ htt
      have more := takes_more hc
      have hz : (nV (takes (y.conds.take i))).length < sizeLine := by
        rw [nV_len]
        have a1 := takes_len (y.conds.take i)
        rw [List.length_take] at a1
        exact Nat.lt_of_le_of_lt (show _ ≤ 4 by omega) (by decide)
      cases c with
      | atLeast v n =>
        refine ⟨rfl, _, rfl, t, _, _, .int 0, rfl, rfl, SqT.of ht', rfl, rfl, _, rfl, ifF rfl ?_⟩
        rw [q, more]
        simp [sigOf]
      | atMost v n =>
        refine ⟨rfl, _, rfl, t, _, _, .int 1, rfl, rfl, SqT.of ht', rfl, rfl, _, rfl, ifF rfl ?_⟩
        rw [q, more]
        simp [sigOf]
      | signal v =>
        refine ⟨rfl, _, rfl, t, _, _, .int 2, rfl, rfl, SqT.of ht', rfl, rfl, _, rfl, ifT rfl ⟨_, rfl, t, _, _, .int v, rfl, rfl, SqT.of ht', rfl, _, by rw [q]; exact upd_same, hz, ?_⟩⟩
        rw [q, upd_upd, more, nV_app]
        rfl
      | over =>
        refine ⟨rfl, _, rfl, t, _, _, .int 3, rfl, rfl, SqT.of ht', rfl, rfl, _, rfl, ifF rfl ?_⟩
        rw [q, more]
        simp [sigOf]
    · rw [List.length_map, hlen, List.take_length] at q
      have s1 : Same H H' := by
        rw [q]
        exact same_new hD
      have hA : H' D = some (.lst (nV (takes y.conds))) := by rw [q]; exact upd_same
      refine ⟨_, rfl, F.a, C.fg, dx, _, _, rfl, s1 _ _ hf, T.c_Figure, T.n_Figure_signals, fF_signals, F.lg, rfl, ⟨_, SqL.of (s1 _ _ fg.sigs)⟩, fun E hE => ?_⟩
      refine lc_list (K := K) (a := F.lg) (xs := g.signals.map fun (n : Nat) => V.int n) (fun i H2 => H2 = upd H' E (.lst (nV ((g.signals.take i).filter fun s => !(Ge05.takenBy y).contains s)))) rfl (fun i H2 _ q2 => ?_) (fun i x H2 hi q2 => ?_) (fun H2 q2 => ?_)
      · rw [q2]
        exact SqL.of (same_new hE _ _ (s1 _ _ fg.sigs))
      · obtain ⟨n, hn, rfl⟩ := map_get hi
        have hA2 : H2 D = some (.lst (nV (takes y.conds))) := by
          rw [q2]
          exact same_new hE _ _ hA
        refine ⟨rfl, _, rfl, _, rfl, D, _, rfl, .inl (SqL.of hA2), rfl, flat_nat _, _, rfl, ?_⟩
        show (if (!inV (.int n) (nV (takes y.conds))) = true then _ else _)
        have e4 : inV (.int n) (nV (takes y.conds)) = (Ge05.takenBy y).contains n := by
          rw [takenBy_eq]
          exact inV_nat n _
        rw [e4]
        cases z : (Ge05.takenBy y).contains n with
        | true =>
          refine ifF rfl ?_
          rw [q2, keep_more hn false (by rw [z]; rfl)]
          rfl
        | false =>
          refine ifT rfl ⟨_, rfl, _, by rw [q2]; exact upd_same, ?_, ?_⟩
          · rw [nV_len]
            have a1 := List.length_filter_le (fun s => !(Ge05.takenBy y).contains s) (g.signals.take i)
            rw [List.length_take] at a1
            exact Nat.lt_of_le_of_lt (show _ ≤ 100000 by omega) (by decide)
          · rw [q2, upd_upd, keep_more hn true (by rw [z]; rfl)]
            rfl
      · rw [List.length_map, List.take_length] at q2
        have s2 : Same H H2 := by
          rw [q2]
          exact s1.trans (same_new hE)
        have hE0 : H E = none := s1.free hE
        refine ⟨_, rfl, F.a, C.fg, dx, _, rfl, s2 _ _ hf, T.c_Figure, T.n_Figure_signals, fF_len, ?_⟩
        rw [fF_putSignals]
        exact k _ { F with lg := E } rfl (fg.signals (dx := dx) s2 hE0 (by rw [q2]; exact upd_same) rfl rfl) (kept_lg fg s2 hE0)
end
end FF
namespace FF
open PySem PySem.Spec PyProof.Rows L2
section
variable {P : Program} {w : World} {K : PySem.W.Frag} {mg : Str → Option Value} {base : Heap} {C : Cs}
def spTakeWay (C : Cs) : Sp := fun vs H Q _ => ∃ (F : Ft) (g : Ge05.House) (p : Addr) (y : Ge05.Way), vs = [.ref F.a, .ref p] ∧ FigAt C F H g ∧ Wc g ∧ WayAt C (off F.l H) p y ∧ y.to < g.states.length ∧ y.conds.length ≤ 4 ∧ g.signals.length ≤ 100000 ∧ g.fading.length ≤ 100000 ∧
  ∀ H' F' l, F'.a = F.a → FigAt C F' H' (taken g y) → Kept F H F' H' → H' l = some (.lst (nV (Ge05.eventsAt (Ge05.clipOf g y.to) 0))) → l ∉ F'.l → Q (.ref l) H'
theorem way_end {F0 : Ft} {H0 : Hp} {F : Ft} {g : Ge05.House} {p : Addr} {y : Ge05.Way} {H : Hp} {Q : VK} {a : Addr} (T : Txt K mg C) (ea : F.a = a) (fg : FigAt C F H g) (wc : Wc g) (hy : WayAt C (off F.l H) p y) (hto : y.to < g.states.length) (kp : Kept F0 H0 F H)
    (k : ∀ H' l, FigAt C F H' { g with now := ⟨y.to, 0⟩ } → Kept F0 H0 F H' → H' l = some (.lst (nV (Ge05.eventsAt (Ge05.clipOf g y.to) 0))) → l ∉ F.l → Q (.ref l) H') :
    tSeq (sFld K (tVar 0) (tFld K (tVar 1) "leads_to") "plays") (tSeq (sFld K (tVar 0) (tC (.int 0)) "count") (tRet (tCl (spEvents C) (tCons (tCl (spClipOf C) (tCons (tVar 0) (tCons (tFld K (tVar 0) "plays") tNil))) (tCons (tC (.int 0)) tNil))))) { nx := fun _ H' => Q .non H', rt := Q } [some (.ref a), some (.ref p)] H := by
  subst ea
  obtain ⟨dx, hf⟩ := fg.fig
  obtain ⟨dw, e, hp, _⟩ := hy
  refine ⟨_, rfl, p, C.wy, dw, _, _, rfl, off_sub _ _ hp, T.c_Way, T.n_Way_leads_to, wF_to, _, rfl, F.a, C.fg, dx, _, rfl, hf, T.c_Figure, T.n_Figure_plays, fF_len, ?_⟩
  rw [fF_putPlays]
  refine ⟨_, rfl, F.a, C.fg, dx, _, rfl, upd_same, T.c_Figure, T.n_Figure_count, fF_len, ?_⟩
  rw [fF_putCount, upd_upd]
  have fg2 := fg.put (dx := dx) (p := y.to) (c := 0) (t := g.ticks)
  refine ⟨_, rfl, _, rfl, F.a, C.fg, dx, _, _, rfl, upd_same, T.c_Figure, T.n_Figure_plays, fF_plays, F, { g with now := ⟨y.to, 0⟩ }, y.to, rfl, fg2, ⟨wc.clip, wc.st⟩, hto, fun q hq => ?_⟩
  have wk := wc.clip_ok hto
  have ec : Ge05.clipOf { g with now := ⟨y.to, 0⟩ } y.to = Ge05.clipOf g y.to := rfl
  rw [ec] at hq
  refine ⟨q, _, 0, rfl, hq.mono off_sub, wk.1, wk.2.2, fun l hl => ?_⟩
  refine k _ l (fg2.same (same_new hl)) ?_ upd_same (fg2.notin hl)
  exact Kept.trans kp (Kept.trans (fg.kput in_a) (Kept.of_same (same_new hl)))
theorem ok_take_way (D : Def K mg "take_way" s_take_way ["figure", "way"]) (T : Txt K mg C) (cS : Cal P w K mg base 1 "take_signals" (spTakeSig C)) (cF : Mak P w K mg base 1 "Fade" C.fd (spIFade C)) (cE : Cal P w K mg base 2 "events_at" (spEvents C)) (cC : Cal P w K mg base 1 "clip_of" (spClipOf C)) : Cal P w K mg base 3 "take_way" (spTakeWay C) := by
  refine cal_of D sc_take_way (fun vs H Q E h => ?_) (fun f cdv A outer s H vs Q E hr h => ?_)
  · obtain ⟨F, g, p, y, rfl, _⟩ := h
    rfl
  · obtain ⟨F, g, p, y, rfl, fg, wc, hy, hto, h4, hsig, hfad, k⟩ := h
    refine ⟨_, pss_cons (ps_expr (pe_c cS hr (pa_cons (pv 0) (pa_cons (pv 1) pa_nil))))
      (pss_cons (ps_if (pt_cmpR op_eq (pe_fld (pv 1) rfl) pe_int (nomark _)) (pss_one (ps_fld (pv 0) (pe_lst pa_nil) rfl))
        (pss_one (ps_fld (pv 0) (pe_op op_cat (pe_lst (pa_cons (pe_mk cF hr (pa_cons (pe_fld (pv 0) rfl) (pa_cons (pe_fld (pv 0) rfl) (pa_cons pe_int (pa_cons (pe_fld (pv 1) rfl) pa_nil))))) pa_nil)) (pe_fld (pv 0) rfl)) rfl)))
      (pss_cons (ps_fld (pv 0) (pe_fld (pv 1) rfl) rfl)
      (pss_cons (ps_fld (pv 0) pe_int rfl)
      (pss_one (ps_ret (pe_c cE hr (pa_cons (pe_c cC hr (pa_cons (pv 0) (pa_cons (pe_fld (pv 0) rfl) pa_nil))) (pa_cons pe_int pa_nil)))))))), ?_⟩
    refine ⟨_, rfl, _, rfl, F, g, p, y, rfl, fg, hy.mono off_sub, h4, hsig, fun H1 F1 ea fg1 kp1 => ?_⟩
    have hy1 : WayAt C (off F1.l H1) p y := hy.mono kp1.sm
    obtain ⟨a1, lc1, ls1, lw1, lv1, lg1, lf1, xx⟩ := F1
    obtain rfl : a1 = F.a := ea
    obtain ⟨dx, hf⟩ := fg1.fig
    have hf : H1 F.a = some (.ins C.fg dx (fF ⟨F.a, lc1, ls1, lw1, lv1, lg1, lf1, xx⟩ g.now.state g.now.at_ g.ticks)) := hf
    obtain ⟨dw, e, hp, hp2⟩ := id hy1
    have hpp := off_sub _ _ hp
    refine ⟨_, rfl, p, C.wy, dw, _, _, rfl, hpp, T.c_Way, T.n_Way_blend, wF_blend, rfl, _, rfl, ?_⟩
    by_cases z : y.blend = 0
    · refine ifT (decide_eq_true (by rw [z]; rfl)) ⟨Nat.zero_le _, fun D hD => ?_⟩
      have s2 : Same H1 (upd H1 D (.lst [])) := same_new hD
      refine ⟨_, rfl, F.a, C.fg, dx, _, rfl, s2 _ _ hf, T.c_Figure, T.n_Figure_fades, fF_len, ?_⟩
      rw [fF_putFades]
      have fg2 := fg1.fades (dx := dx) (p := g.now.state) (c := g.now.at_) (t := g.ticks) (fs := []) s2 hD (ps := []) upd_same .nil
      have kp2 := kept_lf (o := .ins C.fg dx (fF ⟨F.a, lc1, ls1, lw1, lv1, lg1, D, xx⟩ g.now.state g.now.at_ g.ticks)) fg1 s2 hD
      refine way_end (F := (⟨F.a, lc1, ls1, lw1, lv1, lg1, D, xx⟩ : Ft)) (F0 := F) (H0 := H) T rfl fg2 ⟨wc.clip, wc.st⟩ (hy1.mono kp2.sm) hto (Kept.trans kp1 kp2) fun H' l fg3 kp3 hl hn => k H' (⟨F.a, lc1, ls1, lw1, lv1, lg1, D, xx⟩ : Ft) l rfl ?_ kp3 hl hn
      have et : taken g y = { { g with signals := unsignal g y } with now := ⟨y.to, 0⟩, fading := [] } := by unfold taken; rw [if_pos z]
      rw [et]
      exact fg3
    · refine ifF (decide_eq_false fun q => z (int_inj (b := 0) q)) ?_
      refine ⟨_, rfl, F.a, C.fg, dx, _, _, rfl, hf, T.c_Figure, T.n_Figure_plays, fF_plays, _, rfl, F.a, C.fg, dx, _, _, rfl, hf, T.c_Figure, T.n_Figure_count, fF_count, _, rfl, p, C.wy, dw, _, _, rfl, hpp, T.c_Way, T.n_Way_blend, wF_blend, ?_⟩
      intro x dx' nx nd ne
      refine ⟨x, dx', _, _, _, _, rfl, upd_same, rfl, ?_⟩
      rw [upd_upd]
      have s2 : Same H1 (upd (upd H1 dx' (.own x)) x (.ins C.fd dx' (dF g.now.state g.now.at_ 0 y.blend))) := fun a o e => by
        rw [upd_ne (ne_of_none e nx), upd_ne (ne_of_none e nd)]
        exact e
      obtain ⟨ds, hd, pd⟩ := fg1.fads
      refine ⟨(by show 1 ≤ sizeLine; decide), fun L hL => ?_⟩
      have s3 := s2.trans (same_new (o := .lst [.ref x]) hL)
      refine ⟨_, rfl, F.a, C.fg, dx, _, _, rfl, s3 _ _ hf, T.c_Figure, T.n_Figure_fades, fF_fades, _, _, _, _, rfl, rfl, upd_same, s3 _ _ hd, ?_, fun D hD => ?_⟩
      · rw [List.length_map, Paired.length pd, List.length_reverse]
        exact Nat.le_trans (show [V.ref x].length + g.fading.length ≤ 100001 by simp; omega) (by decide)
      · have s4 := s3.trans (same_new (o := .lst ([.ref x] ++ ds.map V.ref)) hD)
        have hD1 : H1 D = none := s3.free hD
        refine ⟨_, rfl, F.a, C.fg, dx, _, rfl, s4 _ _ hf, T.c_Figure, T.n_Figure_fades, fF_len, ?_⟩
        rw [fF_putFades]
        have fg2 := fg1.fades (dx := dx) (p := g.now.state) (c := g.now.at_) (t := g.ticks) (fs := g.fading ++ [(g.now, y.blend, 0)]) s4 hD1 (ps := x :: ds) upd_same (by
          rw [List.reverse_append]
          refine .cons ⟨fg1.notin nx, dx', ?_⟩ (Paired.mapP pd fun a o ⟨d, e⟩ => ⟨(off_some e).1, d, s4 _ _ (off_some e).2⟩)
          have hxL : x ≠ L := fun e => by
            rw [← e, upd_same] at hL
            cases hL
          have hxD : x ≠ D := fun e => by
            rw [← e, upd_ne hxL, upd_same] at hD
            cases hD
          rw [upd_ne hxD, upd_ne hxL, upd_same]
          rfl)
        have kp2 := kept_lf (o := .ins C.fg dx (fF ⟨F.a, lc1, ls1, lw1, lv1, lg1, D, xx⟩ g.now.state g.now.at_ g.ticks)) fg1 s4 hD1
        refine way_end (F := (⟨F.a, lc1, ls1, lw1, lv1, lg1, D, xx⟩ : Ft)) (F0 := F) (H0 := H) T rfl fg2 ⟨wc.clip, wc.st⟩ (hy1.mono kp2.sm) hto (Kept.trans kp1 kp2) fun H' l fg3 kp3 hl hn => k H' (⟨F.a, lc1, ls1, lw1, lv1, lg1, D, xx⟩ : Ft) l rfl ?_ kp3 hl hn
        have et : taken g y = { { g with signals := unsignal g y } with now := ⟨y.to, 0⟩, fading := g.fading ++ [(g.now, y.blend, 0)] } := by unfold taken; rw [if_neg z]
        rw [et]
        exact fg3
end
end FF
namespace FF
open PySem PySem.Spec PyProof.Rows L2
section
variable {P : Program} {w : World} {K : PySem.W.Frag} {mg : Str → Option Value} {base : Heap} {C : Cs}
def spTick (C : Cs) : Sp := fun vs H Q _ => ∃ (F : Ft) (g : Ge05.House), vs = [.ref F.a] ∧ FigAt C F H g ∧ Wf g ∧ g.ticks ≤ 99999 ∧ g.signals.length ≤ 100000 ∧
  ∀ H' F' t l, F'.a = F.a → FigAt C F' H' (Ge05.tick g).1 → Kept F H F' H' → H' t = some (.tup [.int (Ge05.optRow (Ge05.tick g).2.2), .ref l]) → H' l = some (.lst (nV (Ge05.tick g).2.1)) → off F.l H l = none → l ∉ F'.l → Q (.ref t) H'
theorem off_none {F : List Addr} {H : Hp} {b : Addr} (h : H b = none) : off F H b = none := by
  unfold off
  split
  · rfl
  · exact h
theorem Kept.none {F F' : Ft} {H H' : Hp} (k : Kept F H F' H') {b : Addr} (h : H' b = none) : off F.l H b = none := by
  cases e : off F.l H b with
  | none => rfl
  | some o =>
    have := (off_some (k.sm b o e)).2
    rw [h] at this
    cases this
theorem played_len {g : Ge05.House} (wf : Wf g) : (Ge05.played g g.now).2.length ≤ 54 := by
  obtain ⟨st, c, e1, e2, e3, m1, m2⟩ := wf.c.at_state wf.now.1
  have h1 := (wf.c.st st m1).2
  have h2 := (wf.c.clip c m2).2.2
  unfold Ge05.played Ge05.gone
  rw [e1, e3]
  have h3 := flat_len h2 ((List.range (g.now.at_ + ((some st).map fun s => s.speed).getD 0 - g.now.at_)).map fun i => g.now.at_ + i + 1)
  rw [List.length_map, List.length_range] at h3
  have h4 : g.now.at_ + ((some st).map fun s => s.speed).getD 0 - g.now.at_ = st.speed := by simp
  rw [h4] at h3
  show (List.flatMap (Ge05.eventsAt c) ((List.range (g.now.at_ + ((some st).map fun s => s.speed).getD 0 - g.now.at_)).map fun i => g.now.at_ + i + 1)).length ≤ 54
  rw [h4]
  omega
theorem ok_tick (D : Def K mg "tick" s_tick ["figure"]) (T : Txt K mg C) (cO : Cal P w K mg base 3 "count_on" (spCountOn C)) (cF : Cal P w K mg base 3 "fade_on" (spFadeOn C)) (cW : Cal P w K mg base 4 "first_way" (spFirst C)) (cT : Cal P w K mg base 3 "take_way" (spTakeWay C)) : Cal P w K mg base 5 "tick" (spTick C) := by
  refine cal_of D sc_tick (fun vs H Q E h => ?_) (fun f cdv A outer s H vs Q E hr h => ?_)
  · obtain ⟨F, g, rfl, _⟩ := h
    rfl
  · obtain ⟨F, g, rfl, fg, wf, ht, hsg, k⟩ := h
    refine ⟨_, pss_cons (ps_fldaug (pv 0) pe_int in_add)
      (pss_cons (ps_set (i := 1) sc_tick.nd rfl (Or.inl rfl) (pe_c cO hr (pa_cons (pv 0) pa_nil)))
      (pss_cons (ps_expr (pe_c cF hr (pa_cons (pv 0) pa_nil)))
      (pss_cons (ps_set (i := 2) sc_tick.nd rfl (Or.inl rfl) (pe_c cW hr (pa_cons (pv 0) pa_nil)))
      (pss_cons (ps_if (pt_cmp (pc_isN (pv 2))) (pss_one (ps_ret (pe_tup (pa_cons pe_int (pa_cons (pv 1) pa_nil))))) pss_nil)
      (pss_one (ps_ret (pe_tup (pa_cons (pe_op op_add (pe_fld (pv 2) rfl) pe_int) (pa_cons (pe_op op_cat (pv 1) (pe_c cT hr (pa_cons (pv 0) (pa_cons (pv 2) pa_nil)))) pa_nil))))))))), ?_⟩
    obtain ⟨dx, hf⟩ := fg.fig
    refine ⟨_, rfl, F.a, C.fg, dx, _, _, rfl, hf, T.c_Figure, T.n_Figure_ticks, fF_ticks, _, _, rfl, rfl, dx, _, hf, fF_len, ?_⟩
    rw [fF_putTicks]
    have fg1 : FigAt C F (upd H F.a (.ins C.fg dx (fF F g.now.state g.now.at_ ((g.ticks : Int) + 1)))) (later g) := fg.put (dx := dx) (p := g.now.state) (c := g.now.at_) (t := g.ticks + 1)
    have kp1 : Kept F H F (upd H F.a (.ins C.fg dx (fF F g.now.state g.now.at_ ((g.ticks : Int) + 1)))) := fg.kput in_a
    refine ⟨_, rfl, F, later g, rfl, fg1, wf.later, (show g.ticks + 1 ≤ 100000 by omega), fun H2 l hl fg2 kp2 hL hlF => ?_⟩
    have hl0 : off F.l H l = none := kp1.none hl
    refine ⟨_, rfl, F, counted (later g), rfl, fg2, wf.counted, (show g.ticks + 1 ≤ 100000 by omega), fun H3 F3 ea fg3 kp3 => ?_⟩
    obtain ⟨a1, lc1, ls1, lw1, lv1, lg1, lf1, xx⟩ := F3
    obtain rfl : a1 = F.a := ea
    have fg3 : FigAt C ⟨F.a, lc1, ls1, lw1, lv1, lg1, lf1, xx⟩ H3 (ticked g) := fg3
    have hL3 := kp3.get hL hlF
    have kp13 := Kept.trans (Kept.trans kp1 kp2) kp3
    refine ⟨_, rfl, ⟨F.a, lc1, ls1, lw1, lv1, lg1, lf1, xx⟩, ticked g, rfl, fg3, wf.ticked, fun e => ?_, fun y p e hy => ?_⟩
    · refine ⟨_, rfl, _, rfl, ifT rfl ?_⟩
      refine ⟨_, rfl, (by show 2 ≤ sizeLine; decide), fun t ht => ?_⟩
      have et : Ge05.tick g = (ticked g, (Ge05.played g g.now).2, none) := by rw [tick_eq, e]
      refine k _ ⟨F.a, lc1, ls1, lw1, lv1, lg1, lf1, xx⟩ t l rfl ?_ (Kept.trans kp13 (Kept.of_same (same_new ht))) ?_ ?_ hl0 hL3.2
      · rw [et]
        exact fg3.same (same_new ht)
      · rw [et]
        exact upd_same
      · rw [et]
        exact same_new ht _ _ hL3.1
    · have et : Ge05.tick g = (taken (ticked g) y, (Ge05.played g g.now).2 ++ Ge05.eventsAt (Ge05.clipOf (ticked g) y.to) 0, some y.to) := by rw [tick_eq, e]
      have hym : y ∈ g.ways := List.mem_of_find?_eq_some e
      obtain ⟨y1, y2, y3, y4⟩ := wf.way y hym
      obtain ⟨dw, ew, hp, _⟩ := id hy
      refine ⟨_, rfl, _, rfl, ifF rfl ?_⟩
      refine ⟨_, rfl, p, C.wy, dw, _, _, rfl, off_sub _ _ hp, T.c_Way, T.n_Way_leads_to, wF_to, _, _, rfl, rfl, ?_⟩
      refine ⟨_, rfl, _, rfl, _, rfl, ⟨F.a, lc1, ls1, lw1, lv1, lg1, lf1, xx⟩, ticked g, p, y, rfl, fg3, wf.ticked.c, hy, y1, y3, hsg, ?_, fun H4 F4 q ea4 fg4 kp4 hq hqF => ?_⟩
      · have a1 := faded_len g
        have a2 := wf.fl
        show (faded g).length ≤ 100000
        omega
      · have hL4 := kp4.get hL3.1 hL3.2
        refine ⟨l, q, _, _, rfl, rfl, hL4.1, hq, ?_, fun D hD => ?_⟩
        · have a1 := played_len wf
          have a2 := events_len (Ge05.clipOf (ticked g) y.to) 0
          have a3 := (wf.ticked.c.clip_ok y1).2.2
          rw [nV_len, nV_len]
          exact Nat.le_trans (show (Ge05.played g g.now).2.length + _ ≤ 60 by omega) (by decide)
        · refine ⟨(by show 2 ≤ sizeLine; decide), fun t ht => ?_⟩
          have sD := same_new (o := .lst (nV (Ge05.played (later g) (later g).now).2 ++ nV (Ge05.eventsAt (Ge05.clipOf (ticked g) y.to) 0))) hD
          refine k _ F4 t D ea4 ?_ (Kept.trans kp13 (Kept.trans kp4 (Kept.of_same (Same.trans sD (same_new ht))))) ?_ ?_ ((Kept.trans kp13 kp4).none hD) (fg4.notin hD)
          · rw [et]
            exact (fg4.same sD).same (same_new ht)
          · rw [et]
            exact upd_same
          · rw [et]
            have e9 := same_new (o := .tup [.int ((y.to : Int) + 1), .ref D]) ht _ _ (upd_same (H := H4) (a := D) (o := .lst (nV (Ge05.played (later g) (later g).now).2 ++ nV (Ge05.eventsAt (Ge05.clipOf (ticked g) y.to) 0))))
            rw [nV_app]
            exact e9
end
end FF
namespace FF
open PySem PySem.Spec PyProof.Rows L2
section
variable {P : Program} {w : World} {K : PySem.W.Frag} {mg : Str → Option Value} {base : Heap} {C : Cs}
/-! ### moves.py: reading rows -/
theorem lc_rangeC {lo c : Int} {n : Nat} {g : TG} {tt : TT} {te : TE} {vs : List Nat} {σ : L2.St} {H1 : Hp} {D : Addr} {Qd : Hp → Prop} (Pv : Nat → Hp → Prop) (h0 : Pv 0 (upd H1 D (.lst [])))
    (hs : ∀ i H, i < n → Pv i H → g (.int (lo + (i : Nat) * c)) (wipe σ vs) H fun σ2 H2 => wipe σ2 vs = wipe σ vs ∧ tt σ2 H2 fun b H3 =>
      if b = true then te σ2 H3 fun y H4 => ∃ acc, H4 D = some (.lst acc) ∧ acc.length < sizeLine ∧ Pv (i + 1) (upd H4 D (.lst (acc ++ [y]))) else Pv (i + 1) H3) (hd : ∀ H, Pv n H → Qd H) :
    ∃ W : Nat → Nat → Hp → Prop, (∃ m, W 0 m (upd H1 D (.lst []))) ∧ ∀ i m H, W i m H →
      ((Itc lo c n).stop i H ∧ Qd H) ∨ ((Itc lo c n).go i H ∧ ∃ Nx : Hp → Prop, (∀ H', Nx H' → ∃ m', m' < m ∧ W (i + 1) m' H') ∧ ∀ x H', (Itc lo c n).yld i H x H' → g x (wipe σ vs) H' fun σ2 H2 => wipe σ2 vs = wipe σ vs ∧ tt σ2 H2 fun b H3 =>
        if b = true then te σ2 H3 fun y H4 => ∃ acc, H4 D = some (.lst acc) ∧ acc.length < sizeLine ∧ Nx (upd H4 D (.lst (acc ++ [y]))) else Nx H3) := by
  refine ⟨fun j left G => j + left = n ∧ Pv j G, ⟨n, Nat.zero_add n, h0⟩, fun j left G hj => ?_⟩
  cases left with
  | zero =>
    have ej : n = j := hj.1.symm
    exact Or.inl ⟨Nat.le_of_eq ej, hd G (ej ▸ hj.2)⟩
  | succ left =>
    have lt : j < n := by have := hj.1; omega
    refine Or.inr ⟨lt, fun G' => Pv (j + 1) G', fun G' hp => ⟨left, Nat.lt_succ_self left, by have := hj.1; omega, hp⟩, fun v G' hy => ?_⟩
    rw [hy.2, hy.1]
    exact hs j G lt hj.2
theorem rgC_two {k : Nat} (h : k ≤ 1000) : RgC 0 (2 * (k : Int)) 2 k := by
  have hs : Builtin.Range.rangeSize 0 (2 * (k : Int)) 2 = (k : Int) := by
    unfold Builtin.Range.rangeSize
    simp only [show (2 : Int) > 0 by decide, if_true]
    split <;> omega
  refine ⟨by decide, by decide, ?_, hs⟩
  have fit : ∀ i : Int, -1000000 ≤ i → i ≤ 1000000 → Builtin.Range.rangeFitsLong i = true := fun i h1 h2 => by
    unfold Builtin.Range.rangeFitsLong
    rw [decide_eq_true (by omega), decide_eq_true (by omega)]
    rfl
  unfold Builtin.Range.small
  rw [hs]
  rw [if_pos (show (2 : Int) > 0 by decide), fit 0 (by omega) (by omega), fit (2 * (k : Int)) (by omega) (by omega), fit 2 (by omega) (by omega), fit (k : Int) (by omega) (by omega), fit (2 * (k : Int) + (2 - 1)) (by omega) (by omega)]
  simp
theorem flat2_len : ∀ evs : List (Nat × Nat), (flat2 evs).length = 2 * evs.length
  | [] => rfl
  | e :: r => by
    have ih := flat2_len r
    show (e.1 :: e.2 :: flat2 r).length = 2 * (r.length + 1)
    rw [List.length_cons, List.length_cons, ih]
    omega
theorem flat2_get : ∀ {evs : List (Nat × Nat)} {i : Nat} {e : Nat × Nat}, evs[i]? = some e → (flat2 evs)[2 * i]? = some e.1 ∧ (flat2 evs)[2 * i + 1]? = some e.2
  | [], i, e, h => by simp at h
  | x :: r, 0, e, h => by
    have q : x = e := Option.some.inj h
    subst q
    exact ⟨rfl, rfl⟩
  | x :: r, i + 1, e, h => by
    have h' : r[i]? = some e := by simpa using h
    have ih := flat2_get h'
    show (x.1 :: x.2 :: flat2 r)[2 * (i + 1)]? = _ ∧ (x.1 :: x.2 :: flat2 r)[2 * (i + 1) + 1]? = _
    rw [show 2 * (i + 1) = 2 * i + 1 + 1 by omega]
    exact ih
theorem nV_get {l : List Nat} {i n : Nat} (h : l[i]? = some n) : (nV l)[i]? = some (.int n) := by
  unfold nV
  rw [List.getElem?_map, h]
  rfl
/-- new tuples in a new list -/
def NewTups (H H' : Hp) (l : Addr) (ls : List (List V)) : Prop := Same H H' ∧ H l = none ∧ ∃ ts : List Addr, (∀ t ∈ ts, H t = none) ∧ H' l = some (.lst (ts.map V.ref)) ∧ Paired (fun t x => H' t = some (.tup x)) ts ls
theorem NewTups.at {H H' : Hp} {l : Addr} {ls : List (List V)} (n : NewTups H H' l ls) : TupsAt H' l ls := by
  obtain ⟨_, _, ts, _, h1, h2⟩ := n
  exact ⟨ts, h1, h2⟩
theorem NewTups.off {F : List Addr} {H H' : Hp} {l : Addr} {ls : List (List V)} (n : NewTups H H' l ls) (h : ∀ b, H b = none → b ∉ F) : TupsAt (off F H') l ls := by
  obtain ⟨_, hl, ts, ht, h1, h2⟩ := n
  refine ⟨ts, off_of h1 (h l hl), ?_⟩
  have : ∀ {ts : List Addr} {ls : List (List V)}, (∀ t ∈ ts, H t = none) → Paired (fun t x => H' t = some (.tup x)) ts ls → Paired (fun t x => FF.off F H' t = some (.tup x)) ts ls := by
    intro ts ls q p
    induction p with
    | nil => exact .nil
    | cons r _ ih => exact .cons (off_of r (h _ (q _ List.mem_cons_self))) (ih fun t ht => q t (List.mem_cons_of_mem _ ht))
  exact this ht h2
def spPairs (K : PySem.W.Frag) : Sp := fun vs H Q _ => ∃ (r : Addr) (evs : List (Nat × Nat)), vs = [.ref r] ∧ SqL K H r (nV (flat2 evs)) ∧ evs.length ≤ 50 ∧ ∀ H' l, NewTups H H' l (evs.map evV) → Q (.ref l) H'
theorem ok_event_pairs (D : Def K mg "event_pairs" s_event_pairs ["row"]) (T : Txt K mg C) : Cal P w K mg base 1 "event_pairs" (spPairs K) := by
  refine cal_of D sc_event_pairs (fun vs H Q E h => ?_) (fun f cdv A outer s H vs Q E hr h => ?_)
  · obtain ⟨r, evs, rfl, _⟩ := h
    rfl
  · obtain ⟨r, evs, rfl, hS, h50, k⟩ := h
    refine ⟨_, pss_one (ps_ret (pe_lc (own := [("at", 1)]) (g := gName 1) (tt := tYes) (te := tTup (tCons (tOp (rIxL K) (tVar 0) (tVar 1)) (tCons (tOp (rIxL K) (tVar 0) (tOp (rI0 fun i j => .int (i + j)) (tVar 1) (tC (.int 1)))) tNil))) (by rfl) sc_event_pairs.nd
      (pi_range3 (by rfl) T.b_range (pa_cons pe_int (pa_cons (pe_callB call_len_seq (by rfl) T.b_len PySem.boot_len (pa_cons (pv 0) pa_nil)) (pa_cons pe_int pa_nil))))
      (blkOk_by (own := [("at", 1)]) (N := ["row", "at"]) (sc := defScope s_event_pairs) (by decide +kernel))
      (fun _ _ _ _ _ => pg_name (i := 1) sc_event_pairs.nd rfl (Or.inl rfl)) (fun _ _ _ _ _ => pts_nil)
      (fun _ _ _ _ _ => pe_tup (pa_cons (pe_ix ix_list (pv 0) (pv 1) (fun _ _ => rfl)) (pa_cons (pe_ix ix_list (pv 0) (pe_op op_add (pv 1) pe_int) (fun _ _ => rfl)) pa_nil))))), ?_⟩
    have el : ((nV (flat2 evs)).length : Int) = 2 * (evs.length : Int) := by
      rw [nV_len, flat2_len]
      omega
    refine ⟨_, rfl, r, _, rfl, .inl hS, _, _, _, evs.length, rfl, ?_, fun D hD => ?_⟩
    · show RgC 0 ((nV (flat2 evs)).length : Int) 2 evs.length
      rw [el]
      exact rgC_two (by omega)
    · refine lc_rangeC (fun i H' => Same H H' ∧ ∃ ts : List Addr, (∀ t ∈ ts, H t = none) ∧ H' D = some (.lst (ts.map V.ref)) ∧ Paired (fun t x => H' t = some (.tup x)) ts ((evs.take i).map evV)) ⟨same_new hD, [], (fun t h => by cases h), upd_same, .nil⟩ (fun i H' hi q => ?_) (fun H' q => ?_)
      · obtain ⟨sm, ts, hts, hDl, pp⟩ := q
        obtain ⟨ev, hev⟩ : ∃ ev, evs[i]? = some ev := ⟨_, List.getElem?_eq_getElem hi⟩
        obtain ⟨g1, g2⟩ := flat2_get hev
        have e1 : (0 : Int) + (i : Nat) * 2 = ((2 * i : Nat) : Int) := by omega
        refine ⟨rfl, ⟨_, rfl, _, rfl, r, _, _, .int ev.1, rfl, rfl, sm.seq hS, at_of e1 (nV_get g1), _, rfl, _, rfl, _, _, rfl, rfl, r, _, _, .int ev.2, rfl, rfl, sm.seq hS, at_of (j := 2 * i + 1) (by omega) (nV_get g2), (by show 2 ≤ sizeLine; decide), fun t ht => ⟨_, same_new ht _ _ hDl, ?_, ?_⟩⟩⟩
        · have hl : ts.length ≤ i := by
            rw [Paired.length pp, List.length_map, List.length_take]
            exact Nat.min_le_left _ _
          rw [List.length_map]
          exact Nat.lt_of_le_of_lt (show ts.length ≤ 50 by omega) (by decide)
        · have tD : t ≠ D := fun e => by
            rw [e, hDl] at ht
            cases ht
          have keep : ∀ b o, H' b = some o → b ≠ D → upd (upd H' t (.tup [.int ev.1, .int ev.2])) D (.lst (ts.map V.ref ++ [.ref t])) b = some o := fun b o e n => by
            rw [upd_ne n]
            exact same_new ht _ _ e
          refine ⟨fun b o e => keep b o (sm _ _ e) (ne_of_none e hD), ts ++ [t], fun u hu => ?_, by rw [upd_same, List.map_append]; rfl, ?_⟩
          · rcases List.mem_append.mp hu with hu | hu
            · exact hts u hu
            · obtain rfl : u = t := by simpa using hu
              exact sm.free ht
          · rw [take_more hev, List.map_append]
            refine Paired.snoc (Paired.mapP pp fun a o e => keep a _ e (ne_of e hDl (by intro z; cases z))) ?_
            rw [upd_ne tD, upd_same]
            rfl
      · obtain ⟨sm, ts, hts, hDl, pp⟩ := q
        rw [List.take_length] at pp
        exact k H' D ⟨sm, hD, ts, hts, hDl, pp⟩
end
end FF
namespace FF
open PySem PySem.Spec PyProof.Rows L2
section
variable {P : Program} {w : World} {K : PySem.W.Frag} {mg : Str → Option Value} {base : Heap} {C : Cs}
theorem condV_eq (c : Ge05.Cond) : condV c = nV (condN c) := by cases c <;> rfl
theorem cut_nat {xs : List V} {a b : Nat} (h : a ≤ b) (hb : b ≤ xs.length) : cutV xs (some (a : Int)) (some (b : Int)) = (xs.drop a).take (b - a) := by
  unfold cutV
  rw [HT.sIx_nat, HT.sIx_nat, Nat.min_eq_left (Nat.le_trans h hb), Nat.min_eq_left hb]
theorem flatC_split {cs : List Ge05.Cond} {i : Nat} {c : Ge05.Cond} (h : cs[i]? = some c) : flatC cs = flatC (cs.take i) ++ (condN c ++ flatC (cs.drop (i + 1))) := by
  have e : cs = cs.take i ++ c :: cs.drop (i + 1) := by
    have hi := lt_get h
    have hx : cs[i] = c := (List.getElem?_eq_some_iff.mp h).2
    rw [← hx, List.getElem_cons_drop hi, List.take_append_drop]
  have q : flatC (cs.take i ++ c :: cs.drop (i + 1)) = flatC (cs.take i) ++ (condN c ++ flatC (cs.drop (i + 1))) := by
    unfold flatC
    rw [List.flatMap_append, List.flatMap_cons]
  rw [← e] at q
  exact q
theorem flatC_more {cs : List Ge05.Cond} {i : Nat} {c : Ge05.Cond} (h : cs[i]? = some c) : flatC (cs.take (i + 1)) = flatC (cs.take i) ++ condN c := by
  rw [take_more h]
  unfold flatC
  rw [List.flatMap_append]
  simp
theorem condN_pos (c : Ge05.Cond) : 1 ≤ (condN c).length := by cases c <;> simp [condN]
theorem flatC_len : ∀ cs : List Ge05.Cond, cs.length ≤ (flatC cs).length
  | [] => Nat.le_refl _
  | c :: r => by
    have ih := flatC_len r
    have := condN_pos c
    show r.length + 1 ≤ (condN c ++ flatC r).length
    rw [List.length_append]
    omega
def spSplit (K : PySem.W.Frag) : Sp := fun vs H Q _ => ∃ (r : Addr) (cs : List Ge05.Cond), vs = [.ref r] ∧ SqL K H r (nV (flatC cs)) ∧ (flatC cs).length ≤ 100 ∧ ∀ H' l, NewTups H H' l (cs.map condV) → Q (.ref l) H'
theorem cond_head (c : Ge05.Cond) : ∃ n, (condN c)[0]? = some n ∧ ([V.int 3, V.int 3, V.int 2, V.int 1] : List V)[n]? = some (.int (condN c).length) := by
  cases c with
  | atLeast v n => exact ⟨0, rfl, rfl⟩
  | atMost v n => exact ⟨1, rfl, rfl⟩
  | signal s => exact ⟨2, rfl, rfl⟩
  | over => exact ⟨3, rfl, rfl⟩
theorem ok_split_conditions (D : Def K mg "split_conditions" s_split_conditions ["row"]) (T : Txt K mg C) : Cal P w K mg base 1 "split_conditions" (spSplit K) := by
  refine cal_of D sc_split_conditions (fun vs H Q E h => ?_) (fun f cdv A outer s H vs Q E hr h => ?_)
  · obtain ⟨r, cs, rfl, _⟩ := h
    rfl
  · obtain ⟨r, cs, rfl, hS, h100, k⟩ := h
    obtain ⟨pc, hm, hq⟩ := T.k_CONDITION_NUMBERS
    refine ⟨_, pss_cons (ps_set (i := 1) sc_split_conditions.nd rfl (Or.inl rfl) (pe_lst pa_nil))
      (pss_cons (ps_set (i := 2) sc_split_conditions.nd rfl (Or.inl rfl) pe_int)
      (pss_cons (ps_while PassesOwn.never (pt_cmpR op_lt (pv 2) (pe_callB call_len_seq (by rfl) T.b_len PySem.boot_len (pa_cons (pv 0) pa_nil)) (nomark _))
        (pss_cons (ps_set (i := 3) sc_split_conditions.nd rfl (Or.inl rfl) (pe_op op_add (pv 2) (pe_ix ix_tup (pe_glob (v := .ref pc) (by rfl) hm rfl) (pe_ix ix_list (pv 0) (pv 2) (fun _ _ => rfl)) (fun _ _ => rfl))))
        (pss_cons (ps_expr (pe_bm PySem.F.plainAttrs_list PySem.F.slot_list_append PySem.F.type_list_append mt_append (pv 1) (pa_cons (pe_callTy call_tuple_of (by rfl) T.b_tuple (by decide +kernel) (pa_cons (pe_slice sl_list (pv 0) (po_some (pv 2)) (po_some (pv 3))) pa_nil)) pa_nil)))
        (pss_one (ps_set (i := 2) sc_split_conditions.nd rfl (Or.inl rfl) (pv 3))))))
      (pss_one (ps_ret (pv 1))))), ?_⟩
    refine ⟨Nat.zero_le _, fun D hD => ?_⟩
    refine ⟨fun m σ H' => ∃ (i : Nat) (v : Option V), m = cs.length - i ∧ i ≤ cs.length ∧ σ = [some (.ref r), some (.ref D), some (.int ((flatC (cs.take i)).length : Int)), v] ∧ Same H H' ∧ ∃ ts : List Addr, (∀ t ∈ ts, H t = none) ∧ H' D = some (.lst (ts.map V.ref)) ∧ Paired (fun t x => H' t = some (.tup x)) ts ((cs.take i).map condV),
      ⟨_, 0, none, rfl, Nat.zero_le _, rfl, same_new hD, [], (fun t h => by cases h), upd_same, .nil⟩, ?_⟩
    rintro m σ H' ⟨i, v, rfl, hi, rfl, sm, ts, hts, hDl, pp⟩
    refine ⟨_, rfl, _, rfl, r, _, rfl, .inl (sm.seq hS), _, _, rfl, rfl, _, rfl, ?_⟩
    rw [nV_len]
    by_cases z : i < cs.length
    · obtain ⟨c, hc⟩ : ∃ c, cs[i]? = some c := ⟨_, List.getElem?_eq_getElem z⟩
      have es := flatC_split hc
      have em := flatC_more hc
      have ll : (flatC cs).length = (flatC (cs.take i)).length + ((condN c).length + (flatC (cs.drop (i + 1))).length) := by
        rw [es, List.length_append, List.length_append]
      have cp := condN_pos c
      refine ifT (decide_eq_true (by omega)) ⟨fun σ' H2 => ∃ (v : Option V), σ' = [some (.ref r), some (.ref D), some (.int ((flatC (cs.take (i + 1))).length : Int)), v] ∧ Same H H2 ∧ ∃ ts : List Addr, (∀ t ∈ ts, H t = none) ∧ H2 D = some (.lst (ts.map V.ref)) ∧ Paired (fun t x => H2 t = some (.tup x)) ts ((cs.take (i + 1)).map condV),
        fun σ' H2 ⟨v', h1, h2⟩ => ⟨cs.length - (i + 1), by omega, i + 1, v', rfl, z, h1, h2⟩, ?_⟩
      obtain ⟨n, hn1, hn2⟩ := cond_head c
      have hrow : (nV (flatC cs))[(flatC (cs.take i)).length]? = some (.int n) := by
        refine nV_get ?_
        rw [es, List.getElem?_append_right (Nat.le_refl _), Nat.sub_self, List.getElem?_append_left (by omega)]
        exact hn1
      refine ⟨_, rfl, _, rfl, _, rfl, r, _, _, .int n, rfl, rfl, sm.seq hS, atI_nat hrow, pc, _, _, _, rfl, rfl, hq H', atI_nat hn2, _, _, rfl, rfl, ?_⟩
      have e3 : ((flatC (cs.take i)).length : Int) + ((condN c).length : Int) = (((flatC (cs.take (i + 1))).length : Nat) : Int) := by
        rw [em, List.length_append]
        omega
      refine ⟨_, rfl, .inl ⟨rfl, _, SqL.of hDl⟩, _, rfl, _, rfl, _, rfl, _, rfl, _, rfl, r, _, rfl, sm.seq hS, fun q hq0 => ?_⟩
      have hcut : cutV (nV (flatC cs)) (some ((flatC (cs.take i)).length : Int)) (some (((flatC (cs.take i)).length : Int) + ((condN c).length : Int))) = condV c := by
        rw [e3, cut_nat (by rw [em, List.length_append]; omega) (by rw [nV_len, em, List.length_append]; omega), condV_eq, em, List.length_append, Nat.add_sub_cancel_left]
        unfold nV
        rw [← List.map_drop, ← List.map_take]
        congr 1
        rw [es, List.drop_left, List.take_left]
      refine ⟨q, condV c, rfl, .inl ⟨SqL.of (upd_same.trans (congrArg (fun z => some (HO.lst z)) hcut)), fun t ht => ?_⟩⟩
      have sq : Same H' (upd H' q (.lst (cutV (nV (flatC cs)) (some ((flatC (cs.take i)).length : Int)) (some (((flatC (cs.take i)).length : Int) + ((condN c).length : Int)))))) := same_new hq0
      have st := same_new (o := .tup (condV c)) ht
      refine ⟨D, _, _, rfl, rfl, st _ _ (sq _ _ hDl), ?_, ?_⟩
      · have hl : ts.length ≤ i := by
          rw [Paired.length pp, List.length_map, List.length_take]
          exact Nat.min_le_left _ _
        have := flatC_len cs
        rw [List.length_map]
        exact Nat.lt_of_le_of_lt (show ts.length ≤ 100 by omega) (by decide)
      · have tD : t ≠ D := fun e => by
          rw [e, sq _ _ hDl] at ht
          cases ht
        have keep : ∀ b o, H' b = some o → b ≠ D → upd (upd (upd H' q (.lst (cutV (nV (flatC cs)) (some ((flatC (cs.take i)).length : Int)) (some (((flatC (cs.take i)).length : Int) + ((condN c).length : Int)))))) t (.tup (condV c))) D (.lst (ts.map V.ref ++ [.ref t])) b = some o := fun b o e n => by
          rw [upd_ne n]
          exact st _ _ (sq _ _ e)
        refine ⟨_, rfl, _, congrArg (fun z => [some (V.ref r), some (V.ref D), some (V.int z), _]) e3, fun b o e => keep b o (sm _ _ e) (ne_of_none e hD), ts ++ [t], fun u hu => ?_, by rw [upd_same, List.map_append]; rfl, ?_⟩
        · rcases List.mem_append.mp hu with hu | hu
          · exact hts u hu
          · obtain rfl : u = t := by simpa using hu
            exact sm.free (sq.free ht)
        · rw [take_more hc, List.map_append]
          refine Paired.snoc (Paired.mapP pp fun a o e => keep a _ e (ne_of e hDl (by intro z; cases z))) ?_
          rw [upd_ne tD, upd_same]
    · have e : i = cs.length := by omega
      subst e
      rw [List.take_length] at *
      refine ifF (decide_eq_false (by omega)) ⟨_, rfl, k H' D ⟨sm, hD, ts, hts, hDl, pp⟩⟩
end
end FF
namespace FF
open PySem PySem.Spec PyProof.Rows L2
section
variable {P : Program} {w : World} {K : PySem.W.Frag} {mg : Str → Option Value} {base : Heap} {C : Cs}
/-! ### moves.py: the answers -/
def zV (l : List Int) : List V := l.map V.int
/-- a def that answers the calls of number n: the figure, the plain numbers, the row -/
def spAns (K : PySem.W.Frag) (C : Cs) (n : Nat) : Sp := fun vs H Q _ => ∃ (F : Ft) (g : Ge05.House) (x : Ge05.Call) (pl rw : Addr), vs = [.ref F.a, .ref pl, .ref rw] ∧ numOf x = n ∧ FigAt C F H g ∧ Wf g ∧ Bd 40 g ∧ (rowOf x).length ≤ 100 ∧
  SqL K H pl (nV (plainOf x)) ∧ SqL K H rw (nV (rowOf x)) ∧
  ∀ H' F' l, F'.a = F.a → FigAt C F' H' (Ge05.step g x).1 → Kept F H F' H' → H' l = some (.lst (zV (Ge05.step g x).2)) → off F.l H l = none → l ∉ F'.l → Q (.ref l) H'
theorem pick {α : Type} {s : α × List Int} {a : α} {l : List Int} (h : s = (a, l)) : s.1 = a ∧ s.2 = l := by subst h; exact ⟨rfl, rfl⟩
theorem bit_b2n (b : Bool) : ((bitN b : Nat) : Int) = b2n b := by cases b <;> rfl
theorem ok_clip_answer (D : Def K mg "clip_answer" s_clip_answer ["figure", "plain", "row"]) (T : Txt K mg C) (cP : Cal P w K mg base 1 "event_pairs" (spPairs K)) (cR : Cal P w K mg base 1 "clip_refusal" (spClipRef C)) (cI : Mak P w K mg base 1 "Clip" C.cl (spIClip C)) : Cal P w K mg base 3 "clip_answer" (spAns K C 0) := by
  refine cal_of D sc_clip_answer (fun vs H Q E h => ?_) (fun f cdv A outer s H vs Q E hr h => ?_)
  · obtain ⟨F, g, x, pl, rw, rfl, _⟩ := h
    rfl
  · obtain ⟨F, g, x, pl, rw, rfl, hx, fg, wf, bd, h100, hpl, hrw, k⟩ := h
    refine ⟨_, pss_cons (ps_set (i := 3) sc_clip_answer.nd rfl (Or.inl rfl) (pe_c cP hr (pa_cons (pv 2) pa_nil)))
      (pss_cons (ps_set (i := 4) sc_clip_answer.nd rfl (Or.inl rfl) (pe_c cR hr (pa_cons (pv 0) (pa_cons (pe_ix ix_list (pv 1) pe_int (fun _ _ => rfl)) (pa_cons (pv 3) pa_nil)))))
      (pss_cons (ps_if (pt_cmpR op_lt (pv 4) pe_int (nomark _)) (pss_one (ps_ret (pe_lst (pa_cons (pv 4) pa_nil)))) pss_nil)
      (pss_cons (ps_expr (pe_bm PySem.F.plainAttrs_list PySem.F.slot_list_append PySem.F.type_list_append mt_append (pe_fld (pv 0) rfl) (pa_cons (pe_mk cI hr (pa_cons (pe_ix ix_list (pv 1) pe_int (fun _ _ => rfl)) (pa_cons (pe_ix ix_list (pv 1) pe_int (fun _ _ => rfl)) (pa_cons (pv 3) pa_nil)))) pa_nil)))
      (pss_one (ps_ret (pe_lst (pa_cons (pe_op op_sub (pe_callB call_len_seq (by rfl) T.b_len PySem.boot_len (pa_cons (pe_fld (pv 0) rfl) pa_nil)) pe_int) pa_nil))))))), ?_⟩
    cases x with
    | clip c =>
      have h50 : c.events.length ≤ 50 := by
        have := flat2_len c.events
        have : (flat2 c.events).length ≤ 100 := h100
        omega
      refine ⟨_, rfl, rw, c.events, rfl, hrw, h50, fun H1 e nt => ?_⟩
      have s1 := nt.1
      have fg1 := fg.same s1
      refine ⟨_, rfl, _, rfl, pl, _, _, .int c.long, rfl, rfl, s1.seq hpl, atI_nat rfl, _, rfl, F, g, c.long, e, c.events, rfl, fg1, nt.at, fun r hr => ?_⟩
      refine ⟨_, rfl, _, _, rfl, rfl, _, rfl, ?_⟩
      rcases hr with ⟨b, rfl⟩ | ⟨b, b2, rfl⟩ | ⟨b, b2, rfl⟩
      · refine ifT rfl ⟨_, rfl, (by show 1 ≤ sizeLine; decide), fun l hl => ?_⟩
        obtain ⟨p1, p2⟩ := pick (show Ge05.step g (.clip c) = (g, [-1]) from if_pos b)
        refine k _ F l rfl ?_ (Kept.of_same (s1.trans (same_new hl))) ?_ (off_none (s1.free hl)) (fg.notin (s1.free hl))
        · rw [p1]
          exact fg1.same (same_new hl)
        · rw [p2]
          exact upd_same
      · refine ifT rfl ⟨_, rfl, (by show 1 ≤ sizeLine; decide), fun l hl => ?_⟩
        obtain ⟨p1, p2⟩ := pick (show Ge05.step g (.clip c) = (g, [-5]) from (if_neg b).trans (if_pos b2))
        refine k _ F l rfl ?_ (Kept.of_same (s1.trans (same_new hl))) ?_ (off_none (s1.free hl)) (fg.notin (s1.free hl))
        · rw [p1]
          exact fg1.same (same_new hl)
        · rw [p2]
          exact upd_same
      · refine ifF rfl ?_
        obtain ⟨p1, p2⟩ := pick (show Ge05.step g (.clip c) = ({ g with clips := g.clips ++ [c] }, Ge05.ints [g.clips.length]) from (if_neg b).trans (if_neg b2))
        obtain ⟨dx, hf⟩ := fg1.fig
        obtain ⟨ps, hc, pc⟩ := fg1.clips
        have hpsl : ps.length = g.clips.length := Paired.length pc
        refine ⟨_, rfl, F.a, C.fg, dx, _, _, rfl, hf, T.c_Figure, T.n_Figure_clips, fF_clips, .inl ⟨rfl, _, SqL.of hc⟩, ?_⟩
        refine ⟨_, rfl, pl, _, _, .int c.long, rfl, rfl, s1.seq hpl, atI_nat rfl, _, rfl, pl, _, _, .int (bitN c.round), rfl, rfl, s1.seq hpl, atI_nat rfl, _, rfl, ?_⟩
        intro y dy ny ndy ney
        refine ⟨y, dy, _, _, _, rfl, upd_same, rfl, ?_⟩
        rw [upd_upd]
        have s2 : Same H1 (upd (upd H1 dy (.own y)) y (.ins C.cl dy (cF c.long (bitN c.round) (.ref e)))) := fun a o e => by
          rw [upd_ne (ne_of_none e ny), upd_ne (ne_of_none e ndy)]
          exact e
        have fg2 := fg1.same s2
        have hy : ClipAt C (off F.l (upd (upd H1 dy (.own y)) y (.ins C.cl dy (cF c.long (bitN c.round) (.ref e))))) y c := by
          refine ⟨dy, e, off_of ?_ (fg1.notin ny), (nt.off (fun b hb => fg.notin hb)).mono (same_off s2)⟩
          rw [upd_same, bit_b2n]
        have fg3 := fg2.clip (s2 _ _ hc) hy
        refine ⟨F.lc, _, _, rfl, rfl, s2 _ _ hc, ?_, ?_⟩
        · rw [List.length_map, hpsl]
          exact Nat.lt_of_le_of_lt (show _ ≤ 8 by omega) (by decide)
        · obtain ⟨dx3, hf3⟩ := fg3.fig
          refine ⟨_, rfl, F.a, C.fg, dx3, _, _, rfl, hf3, T.c_Figure, T.n_Figure_clips, fF_clips, F.lc, _, rfl, .inl (SqL.of upd_same), _, _, rfl, rfl, (by show 1 ≤ sizeLine; decide), fun l hl => ?_⟩
          have kp : Kept F H F (upd (upd (upd H1 dy (.own y)) y (.ins C.cl dy (cF c.long (bitN c.round) (.ref e)))) F.lc (.lst (ps.map V.ref ++ [.ref y]))) := Kept.trans (Kept.of_same (s1.trans s2)) (fg.kput in_lc)
          refine k _ F l rfl ?_ (Kept.trans kp (Kept.of_same (same_new hl))) ?_ (kp.none hl) (fg3.notin hl)
          · rw [p1]
            exact fg3.same (same_new hl)
          · rw [p2, upd_same]
            have e9 : (((ps.map V.ref ++ [V.ref y]).length : Nat) : Int) - 1 = ((g.clips.length : Nat) : Int) := by
              rw [List.length_append, List.length_map, hpsl]
              simp
            show some (HO.lst [V.int ((((ps.map V.ref ++ [V.ref y]).length : Nat) : Int) - 1)]) = _
            rw [e9]
            rfl
    | _ => cases hx
end
end FF
namespace FF
open PySem PySem.Spec PyProof.Rows L2
section
variable {P : Program} {w : World} {K : PySem.W.Frag} {mg : Str → Option Value} {base : Heap} {C : Cs}
theorem from_fromN (o : Option Nat) : ((fromN o : Nat) : Int) = fromV o := by
  cases o with
  | none => rfl
  | some s => rfl
theorem ok_state_answer (D : Def K mg "state_answer" s_state_answer ["figure", "plain", "row"]) (T : Txt K mg C) (cR : Cal P w K mg base 1 "state_refusal" (spStRef C)) (cI : Mak P w K mg base 1 "State" C.st (spIState C)) : Cal P w K mg base 3 "state_answer" (spAns K C 1) := by
  refine cal_of D sc_state_answer (fun vs H Q E h => ?_) (fun f cdv A outer s H vs Q E hr h => ?_)
  · obtain ⟨F, g, x, pl, rw, rfl, _⟩ := h
    rfl
  · obtain ⟨F, g, x, pl, rw, rfl, hx, fg, wf, bd, h100, hpl, hrw, k⟩ := h
    refine ⟨_, pss_cons (ps_set (i := 3) sc_state_answer.nd rfl (Or.inl rfl) (pe_c cR hr (pa_cons (pv 0) (pa_cons (pe_ix ix_list (pv 1) pe_int (fun _ _ => rfl)) (pa_cons (pe_ix ix_list (pv 1) pe_int (fun _ _ => rfl)) pa_nil)))))
      (pss_cons (ps_if (pt_cmpR op_lt (pv 3) pe_int (nomark _)) (pss_one (ps_ret (pe_lst (pa_cons (pv 3) pa_nil)))) pss_nil)
      (pss_cons (ps_expr (pe_bm PySem.F.plainAttrs_list PySem.F.slot_list_append PySem.F.type_list_append mt_append (pe_fld (pv 0) rfl) (pa_cons (pe_mk cI hr (pa_cons (pe_ix ix_list (pv 1) pe_int (fun _ _ => rfl)) (pa_cons (pe_ix ix_list (pv 1) pe_int (fun _ _ => rfl)) pa_nil))) pa_nil)))
      (pss_one (ps_ret (pe_lst (pa_cons (pe_op op_sub (pe_callB call_len_seq (by rfl) T.b_len PySem.boot_len (pa_cons (pe_fld (pv 0) rfl) pa_nil)) pe_int) pa_nil)))))), ?_⟩
    cases x with
    | state c =>
      refine ⟨_, rfl, _, rfl, pl, _, _, .int c.clip, rfl, rfl, hpl, atI_nat rfl, _, rfl, pl, _, _, .int c.speed, rfl, rfl, hpl, atI_nat rfl, F, g, c.clip, c.speed, rfl, fg, fun r hr => ?_⟩
      refine ⟨_, rfl, _, _, rfl, rfl, _, rfl, ?_⟩
      have ref : ∀ r : Int, r < 0 → Ge05.step g (.state c) = (g, [r]) → ∀ l, H l = none → Q (.ref l) (upd H l (.lst [.int r])) := fun r _ e l hl => by
        obtain ⟨p1, p2⟩ := pick e
        refine k _ F l rfl ?_ (Kept.of_same (same_new hl)) ?_ (off_none hl) (fg.notin hl)
        · rw [p1]
          exact fg.same (same_new hl)
        · rw [p2]
          exact upd_same
      rcases hr with ⟨b, rfl⟩ | ⟨b, b2, rfl⟩ | ⟨b, b2, b3, rfl⟩ | ⟨b, b2, b3, rfl⟩
      · exact ifT rfl ⟨_, rfl, (by show 1 ≤ sizeLine; decide), ref _ (by decide) (if_pos b)⟩
      · exact ifT rfl ⟨_, rfl, (by show 1 ≤ sizeLine; decide), ref _ (by decide) ((if_neg b).trans (if_pos b2))⟩
      · exact ifT rfl ⟨_, rfl, (by show 1 ≤ sizeLine; decide), ref _ (by decide) ((if_neg b).trans ((if_neg b2).trans (if_pos b3)))⟩
      · refine ifF rfl ?_
        obtain ⟨p1, p2⟩ := pick (show Ge05.step g (.state c) = ({ g with states := g.states ++ [c] }, Ge05.ints [g.states.length]) from (if_neg b).trans ((if_neg b2).trans (if_neg b3)))
        obtain ⟨dx, hf⟩ := fg.fig
        obtain ⟨ps, hc, pc⟩ := fg.states
        have hpsl : ps.length = g.states.length := Paired.length pc
        refine ⟨_, rfl, F.a, C.fg, dx, _, _, rfl, hf, T.c_Figure, T.n_Figure_states, fF_states, .inl ⟨rfl, _, SqL.of hc⟩, ?_⟩
        refine ⟨_, rfl, pl, _, _, .int c.clip, rfl, rfl, hpl, atI_nat rfl, _, rfl, pl, _, _, .int c.speed, rfl, rfl, hpl, atI_nat rfl, ?_⟩
        intro y dy ny ndy ney
        refine ⟨y, dy, _, _, rfl, upd_same, rfl, ?_⟩
        rw [upd_upd]
        have s2 : Same H (upd (upd H dy (.own y)) y (.ins C.st dy (sF c.clip c.speed))) := fun a o e => by
          rw [upd_ne (ne_of_none e ny), upd_ne (ne_of_none e ndy)]
          exact e
        have fg2 := fg.same s2
        have hy : StateAt C (off F.l (upd (upd H dy (.own y)) y (.ins C.st dy (sF c.clip c.speed)))) y c := ⟨dy, off_of upd_same (fg.notin ny)⟩
        have fg3 := fg2.state (s2 _ _ hc) hy
        refine ⟨F.ls, _, _, rfl, rfl, s2 _ _ hc, ?_, ?_⟩
        · rw [List.length_map, hpsl]
          exact Nat.lt_of_le_of_lt (show _ ≤ 8 by omega) (by decide)
        · obtain ⟨dx3, hf3⟩ := fg3.fig
          refine ⟨_, rfl, F.a, C.fg, dx3, _, _, rfl, hf3, T.c_Figure, T.n_Figure_states, fF_states, F.ls, _, rfl, .inl (SqL.of upd_same), _, _, rfl, rfl, (by show 1 ≤ sizeLine; decide), fun l hl => ?_⟩
          have kp : Kept F H F (upd (upd (upd H dy (.own y)) y (.ins C.st dy (sF c.clip c.speed))) F.ls (.lst (ps.map V.ref ++ [.ref y]))) := Kept.trans (Kept.of_same s2) (fg.kput in_ls)
          refine k _ F l rfl ?_ (Kept.trans kp (Kept.of_same (same_new hl))) ?_ (kp.none hl) (fg3.notin hl)
          · rw [p1]
            exact fg3.same (same_new hl)
          · rw [p2, upd_same]
            have e9 : (((ps.map V.ref ++ [V.ref y]).length : Nat) : Int) - 1 = ((g.states.length : Nat) : Int) := by
              rw [List.length_append, List.length_map, hpsl]
              simp
            show some (HO.lst [V.int ((((ps.map V.ref ++ [V.ref y]).length : Nat) : Int) - 1)]) = _
            rw [e9]
            rfl
    | _ => cases hx
theorem ok_way_answer (D : Def K mg "way_answer" s_way_answer ["figure", "plain", "row"]) (T : Txt K mg C) (cP : Cal P w K mg base 1 "split_conditions" (spSplit K)) (cR : Cal P w K mg base 3 "way_refusal" (spWayRef C)) (cI : Mak P w K mg base 1 "Way" C.wy (spIWay C)) : Cal P w K mg base 4 "way_answer" (spAns K C 2) := by
  refine cal_of D sc_way_answer (fun vs H Q E h => ?_) (fun f cdv A outer s H vs Q E hr h => ?_)
  · obtain ⟨F, g, x, pl, rw, rfl, _⟩ := h
    rfl
  · obtain ⟨F, g, x, pl, rw, rfl, hx, fg, wf, bd, h100, hpl, hrw, k⟩ := h
    refine ⟨_, pss_cons (ps_set (i := 3) sc_way_answer.nd rfl (Or.inl rfl) (pe_c cP hr (pa_cons (pv 2) pa_nil)))
      (pss_cons (ps_set (i := 4) sc_way_answer.nd rfl (Or.inl rfl) (pe_c cR hr (pa_cons (pv 0) (pa_cons (pe_ix ix_list (pv 1) pe_int (fun _ _ => rfl)) (pa_cons (pe_ix ix_list (pv 1) pe_int (fun _ _ => rfl)) (pa_cons (pe_ix ix_list (pv 1) pe_int (fun _ _ => rfl)) (pa_cons (pv 3) pa_nil)))))))
      (pss_cons (ps_if (pt_cmpR op_lt (pv 4) pe_int (nomark _)) (pss_one (ps_ret (pe_lst (pa_cons (pv 4) pa_nil)))) pss_nil)
      (pss_cons (ps_expr (pe_bm PySem.F.plainAttrs_list PySem.F.slot_list_append PySem.F.type_list_append mt_append (pe_fld (pv 0) rfl) (pa_cons (pe_mk cI hr (pa_cons (pe_ix ix_list (pv 1) pe_int (fun _ _ => rfl)) (pa_cons (pe_ix ix_list (pv 1) pe_int (fun _ _ => rfl)) (pa_cons (pe_ix ix_list (pv 1) pe_int (fun _ _ => rfl)) (pa_cons (pv 3) pa_nil))))) pa_nil)))
      (pss_one (ps_ret (pe_lst (pa_cons (pe_op op_sub (pe_callB call_len_seq (by rfl) T.b_len PySem.boot_len (pa_cons (pe_fld (pv 0) rfl) pa_nil)) pe_int) pa_nil))))))), ?_⟩
    cases x with
    | way c =>
      refine ⟨_, rfl, rw, c.conds, rfl, hrw, h100, fun H1 e nt => ?_⟩
      have s1 := nt.1
      have fg1 := fg.same s1
      refine ⟨_, rfl, _, rfl, pl, _, _, .int (fromN c.from_), rfl, rfl, s1.seq hpl, atI_nat rfl, _, rfl, pl, _, _, .int c.to, rfl, rfl, s1.seq hpl, atI_nat rfl, _, rfl, pl, _, _, .int c.blend, rfl, rfl, s1.seq hpl, atI_nat rfl, _, rfl, F, g, fromN c.from_, c.to, c.blend, e, c.conds, rfl, fg1, nt.at, fun r hr => ?_⟩
      refine ⟨_, rfl, _, _, rfl, rfl, _, rfl, ?_⟩
      have ref : ∀ r : Int, r < 0 → Ge05.step g (.way c) = (g, [r]) → ∀ l, H1 l = none → Q (.ref l) (upd H1 l (.lst [.int r])) := fun r _ e l hl => by
        obtain ⟨p1, p2⟩ := pick e
        refine k _ F l rfl ?_ (Kept.of_same (s1.trans (same_new hl))) ?_ (off_none (s1.free hl)) (fg1.notin hl)
        · rw [p1]
          exact fg1.same (same_new hl)
        · rw [p2]
          exact upd_same
      rcases hr with ⟨b, rfl⟩ | ⟨b, b2, rfl⟩ | ⟨b, b2, b3, rfl⟩ | ⟨b, b2, b3, rfl⟩
      · exact ifT rfl ⟨_, rfl, (by show 1 ≤ sizeLine; decide), ref _ (by decide) ((step_way g c).trans (if_pos b))⟩
      · exact ifT rfl ⟨_, rfl, (by show 1 ≤ sizeLine; decide), ref _ (by decide) ((step_way g c).trans ((if_neg b).trans (if_pos b2)))⟩
      · exact ifT rfl ⟨_, rfl, (by show 1 ≤ sizeLine; decide), ref _ (by decide) ((step_way g c).trans ((if_neg b).trans ((if_neg b2).trans (if_pos b3))))⟩
      · refine ifF rfl ?_
        obtain ⟨p1, p2⟩ := pick (show Ge05.step g (.way c) = ({ g with ways := g.ways ++ [c] }, Ge05.ints [g.ways.length]) from (step_way g c).trans ((if_neg b).trans ((if_neg b2).trans (if_neg b3))))
        obtain ⟨dx, hf⟩ := fg1.fig
        obtain ⟨ps, hc, pc⟩ := fg1.ways
        have hpsl : ps.length = g.ways.length := Paired.length pc
        refine ⟨_, rfl, F.a, C.fg, dx, _, _, rfl, hf, T.c_Figure, T.n_Figure_ways, fF_ways, .inl ⟨rfl, _, SqL.of hc⟩, ?_⟩
        refine ⟨_, rfl, pl, _, _, .int (fromN c.from_), rfl, rfl, s1.seq hpl, atI_nat rfl, _, rfl, pl, _, _, .int c.to, rfl, rfl, s1.seq hpl, atI_nat rfl, _, rfl, pl, _, _, .int c.blend, rfl, rfl, s1.seq hpl, atI_nat rfl, _, rfl, ?_⟩
        intro y dy ny ndy ney
        refine ⟨y, dy, _, _, _, _, rfl, upd_same, rfl, ?_⟩
        rw [upd_upd]
        have s2 : Same H1 (upd (upd H1 dy (.own y)) y (.ins C.wy dy (wF (fromN c.from_) c.to c.blend (.ref e)))) := fun a o e => by
          rw [upd_ne (ne_of_none e ny), upd_ne (ne_of_none e ndy)]
          exact e
        have fg2 := fg1.same s2
        have hy : WayAt C (off F.l (upd (upd H1 dy (.own y)) y (.ins C.wy dy (wF (fromN c.from_) c.to c.blend (.ref e))))) y c := by
          refine ⟨dy, e, off_of ?_ (fg1.notin ny), (nt.off (fun b hb => fg.notin hb)).mono (same_off s2)⟩
          rw [upd_same, from_fromN]
        have fg3 := fg2.way (s2 _ _ hc) hy
        refine ⟨F.lw, _, _, rfl, rfl, s2 _ _ hc, ?_, ?_⟩
        · rw [List.length_map, hpsl]
          exact Nat.lt_of_le_of_lt (show _ ≤ 16 by omega) (by decide)
        · obtain ⟨dx3, hf3⟩ := fg3.fig
          refine ⟨_, rfl, F.a, C.fg, dx3, _, _, rfl, hf3, T.c_Figure, T.n_Figure_ways, fF_ways, F.lw, _, rfl, .inl (SqL.of upd_same), _, _, rfl, rfl, (by show 1 ≤ sizeLine; decide), fun l hl => ?_⟩
          have kp : Kept F H F (upd (upd (upd H1 dy (.own y)) y (.ins C.wy dy (wF (fromN c.from_) c.to c.blend (.ref e)))) F.lw (.lst (ps.map V.ref ++ [.ref y]))) := Kept.trans (Kept.of_same (s1.trans s2)) (fg.kput in_lw)
          refine k _ F l rfl ?_ (Kept.trans kp (Kept.of_same (same_new hl))) ?_ (kp.none hl) (fg3.notin hl)
          · rw [p1]
            exact fg3.same (same_new hl)
          · rw [p2, upd_same]
            have e9 : (((ps.map V.ref ++ [V.ref y]).length : Nat) : Int) - 1 = ((g.ways.length : Nat) : Int) := by
              rw [List.length_append, List.length_map, hpsl]
              simp
            show some (HO.lst [V.int ((((ps.map V.ref ++ [V.ref y]).length : Nat) : Int) - 1)]) = _
            rw [e9]
            rfl
    | _ => cases hx
end
end FF
namespace FF
open PySem PySem.Spec PyProof.Rows L2
/-! ### what a caller holds -/
section
variable {C : Cs} {F F1 F2 : Ft} {H H1 H2 : Hp} {g : Ge05.House} {d : Addr} {u : HO}
theorem same_hold (hd : H d = none) : Same (off F.l H) (off ({ F with x := d :: F.x } : Ft).l (upd H d u)) := fun b o h => by
  obtain ⟨n, hb⟩ := off_some h
  have nd : b ≠ d := ne_of_none hb hd
  refine off_of ((upd_ne nd).trans hb) fun m => ?_
  rcases List.mem_append.mp m with m | m
  · exact n (mem_l m)
  · rcases List.mem_cons.mp m with m | m
    · exact nd m
    · exact n (mem_x m)
theorem FigAt.hold (fg : FigAt C F H g) (hd : H d = none) : FigAt C { F with x := d :: F.x } (upd H d u) g := by
  have so := same_hold (F := F) (u := u) hd
  have s := same_new (o := u) hd
  have nd := fg.notin hd
  obtain ⟨n, ⟨dx, f⟩, ⟨p1, c1, c2⟩, ⟨p2, s1, s2⟩, ⟨p3, w1, w2⟩, v, g1, ⟨p4, d1, d2⟩, ow⟩ := fg
  refine ⟨?_, ⟨dx, s _ _ f⟩, ⟨p1, s _ _ c1, Paired.mapP c2 fun _ _ q => q.mono so⟩, ⟨p2, s _ _ s1, Paired.mapP s2 fun _ _ q => q.mono so⟩, ⟨p3, s _ _ w1, Paired.mapP w2 fun _ _ q => q.mono so⟩, s _ _ v, s _ _ g1, ⟨p4, s _ _ d1, Paired.mapP d2 fun _ _ q => q.mono so⟩, fun p hp => ?_⟩
  · obtain ⟨n1, n2, n3⟩ := List.nodup_append.mp n
    refine List.nodup_append.mpr ⟨n1, List.nodup_cons.mpr ⟨fun m => nd (mem_x m), n2⟩, fun a ha b hb => ?_⟩
    rcases List.mem_cons.mp hb with hb | hb
    · intro e
      exact nd (mem_l ((e.trans hb) ▸ ha))
    · exact n3 a ha b hb
  · rcases List.mem_cons.mp hp with hp | hp
    · subst hp
      exact ⟨u, upd_same⟩
    · exact tracked (ow p hp)
theorem FigAt.write (fg : FigAt C F H g) (hd : d ∈ F.x) : FigAt C F (upd H d u) g := by
  have o := off_in (H := H) (o := u) (mem_x hd)
  have ap : ∀ {p : Addr}, p ∈ F.s → p ≠ d := fun hp => fg.apart hp hd
  obtain ⟨n, ⟨dx, f⟩, ⟨p1, c1, c2⟩, ⟨p2, s1, s2⟩, ⟨p3, w1, w2⟩, v, g1, ⟨p4, d1, d2⟩, ow⟩ := fg
  refine ⟨n, ⟨dx, (upd_ne (ap in_a)).trans f⟩, ⟨p1, (upd_ne (ap in_lc)).trans c1, ?_⟩, ⟨p2, (upd_ne (ap in_ls)).trans s1, ?_⟩, ⟨p3, (upd_ne (ap in_lw)).trans w1, ?_⟩, (upd_ne (ap in_lv)).trans v, (upd_ne (ap in_lg)).trans g1, ⟨p4, (upd_ne (ap in_lf)).trans d1, ?_⟩, fun p hp => tracked (ow p hp)⟩
  · rw [o]; exact c2
  · rw [o]; exact s2
  · rw [o]; exact w2
  · rw [o]; exact d2
theorem same_drop {xs : List Addr} (hx : F.x = d :: xs) : Same (off F.l H) (off ({ F with x := xs } : Ft).l H) := fun b o h => by
  obtain ⟨n, hb⟩ := off_some h
  refine off_of hb fun m => n ?_
  rcases List.mem_append.mp m with m | m
  · exact mem_l m
  · exact mem_x (hx ▸ List.mem_cons_of_mem _ m)
theorem FigAt.drop {xs : List Addr} (fg : FigAt C F H g) (hx : F.x = d :: xs) : FigAt C { F with x := xs } H g := by
  have so := same_drop (F := F) (H := H) hx
  obtain ⟨n, ⟨dx, f⟩, ⟨p1, c1, c2⟩, ⟨p2, s1, s2⟩, ⟨p3, w1, w2⟩, v, g1, ⟨p4, d1, d2⟩, ow⟩ := fg
  refine ⟨?_, ⟨dx, f⟩, ⟨p1, c1, Paired.mapP c2 fun _ _ q => q.mono so⟩, ⟨p2, s1, Paired.mapP s2 fun _ _ q => q.mono so⟩, ⟨p3, w1, Paired.mapP w2 fun _ _ q => q.mono so⟩, v, g1, ⟨p4, d1, Paired.mapP d2 fun _ _ q => q.mono so⟩, fun p hp => ow p (hx ▸ List.mem_cons_of_mem _ hp)⟩
  obtain ⟨n1, n2, n3⟩ := List.nodup_append.mp n
  rw [hx] at n2 n3
  exact List.nodup_append.mpr ⟨n1, (List.nodup_cons.mp n2).2, fun a ha b hb => n3 a ha b (List.mem_cons_of_mem _ hb)⟩
/-- as Kept, with one more thing held -/
structure KeptD (d : Addr) (F : Ft) (H : Hp) (F' : Ft) (H' : Hp) : Prop where
  sm : Same (off F.l H) (off F'.l H')
  ex : F'.x = d :: F.x
  own : ∀ p ∈ F.x, ∀ o, H p = some o → H' p = some o
theorem KeptD.start (hd : H d = none) : KeptD d F H { F with x := d :: F.x } (upd H d u) := ⟨same_hold hd, rfl, fun p hp o e => same_new hd _ _ e⟩
theorem KeptD.step (a : KeptD d F H F1 H1) (b : Kept F1 H1 F2 H2) : KeptD d F H F2 H2 :=
  ⟨Same.trans a.sm b.sm, b.ex.trans a.ex, fun p hp o e => b.own p (a.ex.symm ▸ List.mem_cons_of_mem _ hp) o (a.own p hp o e)⟩
theorem KeptD.write (a : KeptD d F H F1 H1) (fg : FigAt C F1 H1 g) : KeptD d F H F1 (upd H1 d u) := by
  have hd : d ∈ F1.x := a.ex.symm ▸ List.mem_cons_self
  have n2 := (List.nodup_append.mp fg.nd).2.1
  rw [a.ex] at n2
  refine ⟨?_, a.ex, fun p hp o e => ?_⟩
  · rw [off_in (mem_x hd)]
    exact a.sm
  · have np : p ≠ d := fun z => (List.nodup_cons.mp n2).1 (z ▸ hp)
    rw [upd_ne np]
    exact a.own p hp o e
theorem KeptD.fin (a : KeptD d F H F1 H1) : Kept F H { F1 with x := F.x } H1 := ⟨Same.trans a.sm (same_drop a.ex), rfl, a.own⟩
end
section
variable {P : Program} {w : World} {K : PySem.W.Frag} {mg : Str → Option Value} {base : Heap} {C : Cs}
theorem set_range {f f' : Nat → Nat} {v n : Nat} (hv : v ≤ 9) (h : ∀ u, f' u = if u = v then n else f u) : ((List.range 10).map fun u => V.int (f u)).set v (.int n) = (List.range 10).map fun u => V.int (f' u) := by
  apply List.ext_getElem?
  intro i
  rw [List.getElem?_set, List.getElem?_map, List.getElem?_map, List.length_map, List.length_range]
  by_cases e : v = i
  · subst e
    rw [if_pos rfl, if_pos (show v < 10 by omega), List.getElem?_range (by omega)]
    show _ = some (V.int (f' v))
    rw [h v, if_pos rfl]
  · rw [if_neg e]
    by_cases z : i < 10
    · rw [List.getElem?_range z]
      show some (V.int (f i)) = some (V.int (f' i))
      rw [h i, if_neg fun q => e q.symm]
    · rw [List.getElem?_eq_none (by rw [List.length_range]; omega)]
      rfl
theorem ok_set_answer (D : Def K mg "set_answer" s_set_answer ["figure", "plain", "row"]) (T : Txt K mg C) (cR : Cal P w K mg base 1 "set_refusal" spSetRef) : Cal P w K mg base 2 "set_answer" (spAns K C 3) := by
  refine cal_of D sc_set_answer (fun vs H Q E h => ?_) (fun f cdv A outer s H vs Q E hr h => ?_)
  · obtain ⟨F, g, x, pl, rw, rfl, _⟩ := h
    rfl
  · obtain ⟨F, g, x, pl, rw, rfl, hx, fg, wf, bd, h100, hpl, hrw, k⟩ := h
    refine ⟨_, pss_cons (ps_set (i := 3) sc_set_answer.nd rfl (Or.inl rfl) (pe_c cR hr (pa_cons (pe_ix ix_list (pv 1) pe_int (fun _ _ => rfl)) (pa_cons (pe_ix ix_list (pv 1) pe_int (fun _ _ => rfl)) pa_nil))))
      (pss_cons (ps_if (pt_cmpR op_lt (pv 3) pe_int (nomark _)) (pss_one (ps_ret (pe_lst (pa_cons (pv 3) pa_nil)))) pss_nil)
      (pss_cons (ps_asg (pe_ix ix_list (pv 1) pe_int (fun _ _ => rfl)) (pg_sub (pe_fld (pv 0) rfl) (pe_ix ix_list (pv 1) pe_int (fun _ _ => rfl)) set_list))
      (pss_one (ps_ret (pe_lst (pa_cons pe_int pa_nil)))))), ?_⟩
    cases x with
    | set v n =>
      refine ⟨_, rfl, pl, _, _, .int v, rfl, rfl, hpl, atI_nat rfl, _, rfl, pl, _, _, .int n, rfl, rfl, hpl, atI_nat rfl, v, n, rfl, fun r hr => ⟨_, rfl, _, _, rfl, rfl, _, rfl, ?_⟩⟩
      rcases hr with ⟨b, rfl⟩ | ⟨b, rfl⟩
      · refine ifT rfl ⟨_, rfl, (by show 1 ≤ sizeLine; decide), fun l hl => ?_⟩
        obtain ⟨p1, p2⟩ := pick (show Ge05.step g (.set v n) = (g, [-1]) from if_pos b)
        refine k _ F l rfl ?_ (Kept.of_same (same_new hl)) ?_ (off_none hl) (fg.notin hl)
        · rw [p1]
          exact fg.same (same_new hl)
        · rw [p2]
          exact upd_same
      · refine ifF rfl ?_
        obtain ⟨p1, p2⟩ := pick (show Ge05.step g (.set v n) = ({ g with values := (g.values.filter fun x => x.1 != v) ++ [(v, n)] }, [0]) from if_neg b)
        have hv : v ≤ 9 := by
          unfold setBad at b
          omega
        obtain ⟨dx, hf⟩ := fg.fig
        refine ⟨_, rfl, pl, _, _, .int n, rfl, rfl, hpl, atI_nat rfl, _, rfl, F.a, C.fg, dx, _, _, rfl, hf, T.c_Figure, T.n_Figure_settings, fF_settings, _, rfl, pl, _, _, .int v, rfl, rfl, hpl, atI_nat rfl, F.lv, _, _, v, rfl, rfl, fg.vals, ?_, ?_⟩
        · unfold ixN
          rw [List.length_map, List.length_range, if_pos (Int.natCast_nonneg _), if_pos (show ((v : Nat) : Int) < ((10 : Nat) : Int) by omega), Int.toNat_natCast]
        · have fg2 := fg.vals_put (vs := (g.values.filter fun x => x.1 != v) ++ [(v, n)]) (set_range (f := Ge05.valueOf g) hv fun u => look_set g.values v n u)
          refine ⟨(by show 1 ≤ sizeLine; decide), fun l hl => ?_⟩
          have kp : Kept F H F (upd H F.lv (.lst (((List.range 10).map fun v => V.int (Ge05.valueOf g v)).set v (.int n)))) := fg.kput in_lv
          refine k _ F l rfl ?_ (Kept.trans kp (Kept.of_same (same_new hl))) ?_ (kp.none hl) (fg2.notin hl)
          · rw [p1]
            exact fg2.same (same_new hl)
          · rw [p2, upd_same]
            rfl
    | _ => cases hx
theorem ok_signal_answer (D : Def K mg "signal_answer" s_signal_answer ["figure", "plain", "row"]) (T : Txt K mg C) (cR : Cal P w K mg base 1 "signal_refusal" spSigRef) : Cal P w K mg base 2 "signal_answer" (spAns K C 4) := by
  refine cal_of D sc_signal_answer (fun vs H Q E h => ?_) (fun f cdv A outer s H vs Q E hr h => ?_)
  · obtain ⟨F, g, x, pl, rw, rfl, _⟩ := h
    rfl
  · obtain ⟨F, g, x, pl, rw, rfl, hx, fg, wf, bd, h100, hpl, hrw, k⟩ := h
    refine ⟨_, pss_cons (ps_set (i := 3) sc_signal_answer.nd rfl (Or.inl rfl) (pe_c cR hr (pa_cons (pe_ix ix_list (pv 1) pe_int (fun _ _ => rfl)) pa_nil)))
      (pss_cons (ps_if (pt_cmpR op_lt (pv 3) pe_int (nomark _)) (pss_one (ps_ret (pe_lst (pa_cons (pv 3) pa_nil)))) pss_nil)
      (pss_cons (ps_if (pt_cmpR op_notIn_seq (pe_ix ix_list (pv 1) pe_int (fun _ _ => rfl)) (pe_fld (pv 0) rfl) (by rfl)) (pss_one (ps_expr (pe_bm PySem.F.plainAttrs_list PySem.F.slot_list_append PySem.F.type_list_append mt_append (pe_fld (pv 0) rfl) (pa_cons (pe_ix ix_list (pv 1) pe_int (fun _ _ => rfl)) pa_nil)))) pss_nil)
      (pss_one (ps_ret (pe_lst (pa_cons (pe_callB call_len_seq (by rfl) T.b_len PySem.boot_len (pa_cons (pe_fld (pv 0) rfl) pa_nil)) pa_nil)))))), ?_⟩
    cases x with
    | signal v =>
      refine ⟨_, rfl, pl, _, _, .int v, rfl, rfl, hpl, atI_nat rfl, v, rfl, fun r hr => ⟨_, rfl, _, _, rfl, rfl, _, rfl, ?_⟩⟩
      rcases hr with ⟨b, rfl⟩ | ⟨b, rfl⟩
      · refine ifT rfl ⟨_, rfl, (by show 1 ≤ sizeLine; decide), fun l hl => ?_⟩
        obtain ⟨p1, p2⟩ := pick (show Ge05.step g (.signal v) = (g, [-1]) from if_pos b)
        refine k _ F l rfl ?_ (Kept.of_same (same_new hl)) ?_ (off_none hl) (fg.notin hl)
        · rw [p1]
          exact fg.same (same_new hl)
        · rw [p2]
          exact upd_same
      · refine ifF rfl ?_
        obtain ⟨p1, p2⟩ := pick (show Ge05.step g (.signal v) = ({ g with signals := if g.signals.contains v = true then g.signals else g.signals ++ [v] }, Ge05.ints [(if g.signals.contains v = true then g.signals else g.signals ++ [v]).length]) from if_neg b)
        obtain ⟨dx, hf⟩ := fg.fig
        refine ⟨_, rfl, pl, _, _, .int v, rfl, rfl, hpl, atI_nat rfl, _, rfl, F.a, C.fg, dx, _, _, rfl, hf, T.c_Figure, T.n_Figure_signals, fF_signals, F.lg, _, rfl, .inl (SqL.of fg.sigs), rfl, flat_nat _, _, rfl, ?_⟩
        show (if (!inV (.int v) (g.signals.map fun (n : Nat) => V.int n)) = true then _ else _)
        rw [inV_nat]
        have bs := bd.2
        cases z : g.signals.contains v with
        | true =>
          rw [z] at p1 p2
          refine ifF rfl ⟨_, rfl, F.a, C.fg, dx, _, _, rfl, hf, T.c_Figure, T.n_Figure_signals, fF_signals, F.lg, _, rfl, .inl (SqL.of fg.sigs), (by show 1 ≤ sizeLine; decide), fun l hl => ?_⟩
          refine k _ F l rfl ?_ (Kept.of_same (same_new hl)) ?_ (off_none hl) (fg.notin hl)
          · rw [p1]
            exact fg.same (same_new hl)
          · rw [p2, upd_same]
            show some (HO.lst [V.int (((g.signals.map fun (n : Nat) => V.int n).length : Nat) : Int)]) = _
            rw [List.length_map]
            rfl
        | false =>
          rw [z] at p1 p2
          refine ifT rfl ⟨_, rfl, F.a, C.fg, dx, _, _, rfl, hf, T.c_Figure, T.n_Figure_signals, fF_signals, .inl ⟨rfl, _, SqL.of fg.sigs⟩, _, rfl, pl, _, _, .int v, rfl, rfl, hpl, atI_nat rfl, F.lg, _, _, rfl, rfl, fg.sigs, ?_, ?_⟩
          · rw [List.length_map]
            exact Nat.lt_of_le_of_lt bs (by decide)
          · have fg2 := fg.sigs_put (ss := g.signals ++ [v]) (xs := (g.signals.map fun (n : Nat) => V.int n) ++ [.int v]) (by rw [List.map_append]; rfl)
            obtain ⟨dx2, hf2⟩ := fg2.fig
            refine ⟨_, rfl, F.a, C.fg, dx2, _, _, rfl, hf2, T.c_Figure, T.n_Figure_signals, fF_signals, F.lg, _, rfl, .inl (SqL.of upd_same), (by show 1 ≤ sizeLine; decide), fun l hl => ?_⟩
            have kp : Kept F H F (upd H F.lg (.lst ((g.signals.map fun (n : Nat) => V.int n) ++ [.int v]))) := fg.kput in_lg
            refine k _ F l rfl ?_ (Kept.trans kp (Kept.of_same (same_new hl))) ?_ (kp.none hl) (fg2.notin hl)
            · rw [p1]
              exact fg2.same (same_new hl)
            · rw [p2, upd_same]
              show some (HO.lst [V.int ((((g.signals.map fun (n : Nat) => V.int n) ++ [V.int v]).length : Nat) : Int)]) = some (HO.lst [V.int (((g.signals ++ [v]).length : Nat) : Int)])
              rw [List.length_append, List.length_append, List.length_map]
              rfl
    | _ => cases hx
theorem tick_len {g : Ge05.House} (wf : Wf g) : (Ge05.tick g).2.1.length ≤ 60 := by
  have a1 := played_len wf
  rw [tick_eq]
  cases e : (ticked g).ways.find? (Ge05.may (ticked g)) with
  | none => exact Nat.le_trans a1 (by decide)
  | some y =>
    have hy := (wf.way y (List.mem_of_find?_eq_some e)).1
    have a2 := events_len (Ge05.clipOf (ticked g) y.to) 0
    have a3 := (wf.ticked.c.clip_ok hy).2.2
    show ((Ge05.played g g.now).2 ++ Ge05.eventsAt (Ge05.clipOf (ticked g) y.to) 0).length ≤ 60
    rw [List.length_append]
    omega
theorem told_len {g : Ge05.House} (wf : Wf g) : (told g).length ≤ 1 ∧ ((told g).flatMap rowN).length ≤ 63 := by
  unfold told
  split
  · exact ⟨Nat.zero_le _, Nat.zero_le _⟩
  · have := tick_len wf
    refine ⟨Nat.le_refl _, ?_⟩
    simp [rowN]
    omega
theorem many_len {g : Ge05.House} (wf : Wf g) : ∀ n, (Ge05.many n g).2.length ≤ n ∧ ((Ge05.many n g).2.flatMap rowN).length ≤ 63 * n
  | 0 => ⟨Nat.le_refl _, Nat.le_refl _⟩
  | n + 1 => by
    obtain ⟨a, b⟩ := many_len wf n
    obtain ⟨c, d⟩ := told_len (many_wf n wf).1
    rw [many_last]
    show ((Ge05.many n g).2 ++ told (Ge05.many n g).1).length ≤ n + 1 ∧ (((Ge05.many n g).2 ++ told (Ge05.many n g).1).flatMap rowN).length ≤ 63 * (n + 1)
    rw [List.flatMap_append, List.length_append, List.length_append]
    omega
end
end FF
namespace FF
open PySem PySem.Spec PyProof.Rows L2
section
variable {P : Program} {w : World} {K : PySem.W.Frag} {mg : Str → Option Value} {base : Heap} {C : Cs}
theorem zV_ints (l : List Nat) : zV (Ge05.ints l) = nV l := by
  unfold zV Ge05.ints nV
  rw [List.map_map]
  rfl
theorem told_some {g : Ge05.House} (h : ¬ ((Ge05.tick g).2.1 = [] ∧ (Ge05.tick g).2.2 = none)) : told g = [((Ge05.tick g).1.ticks, (Ge05.tick g).2.1, (Ge05.tick g).2.2)] := by
  unfold told
  rw [if_neg h]
theorem told_none {g : Ge05.House} (h : (Ge05.tick g).2.1 = [] ∧ (Ge05.tick g).2.2 = none) : told g = [] := by
  unfold told
  rw [if_pos h]
theorem ok_ticks_answer (D : Def K mg "ticks_answer" s_ticks_answer ["figure", "plain", "row"]) (T : Txt K mg C) (cR : Cal P w K mg base 1 "ticks_refusal" spTickRef) (cT : Cal P w K mg base 5 "tick" (spTick C)) : Cal P w K mg base 6 "ticks_answer" (spAns K C 5) := by
  refine cal_of D sc_ticks_answer (fun vs H Q E h => ?_) (fun f cdv A outer s H vs Q E hr h => ?_)
  · obtain ⟨F, g, x, pl, rw, rfl, _⟩ := h
    rfl
  · obtain ⟨F, g, x, pl, rw, rfl, hx, fg, wf, bd, h100, hpl, hrw, k⟩ := h
    refine ⟨_, pss_cons (ps_set (i := 3) sc_ticks_answer.nd rfl (Or.inl rfl) (pe_c cR hr (pa_cons (pe_ix ix_list (pv 1) pe_int (fun _ _ => rfl)) pa_nil)))
      (pss_cons (ps_if (pt_cmpR op_lt (pv 3) pe_int (nomark _)) (pss_one (ps_ret (pe_lst (pa_cons (pv 3) pa_nil)))) pss_nil)
      (pss_cons (ps_set (i := 4) sc_ticks_answer.nd rfl (Or.inl rfl) pe_int)
      (pss_cons (ps_set (i := 5) sc_ticks_answer.nd rfl (Or.inl rfl) (pe_lst pa_nil))
      (pss_cons (ps_for PassesOwn.never rfl (pi_range1 (by rfl) T.b_range (pa_cons (pe_ix ix_list (pv 1) pe_int (fun _ _ => rfl)) pa_nil)) (pg_name (i := 6) sc_ticks_answer.nd rfl (Or.inl rfl))
        (pss_cons (ps_set (i := 7) sc_ticks_answer.nd rfl (Or.inl rfl) (pe_c cT hr (pa_cons (pv 0) pa_nil)))
        (pss_cons (ps_set (i := 8) sc_ticks_answer.nd rfl (Or.inl rfl) (pe_ix ix_tup (pv 7) pe_int (fun _ _ => rfl)))
        (pss_cons (ps_set (i := 9) sc_ticks_answer.nd rfl (Or.inl rfl) (pe_ix ix_tup (pv 7) pe_int (fun _ _ => rfl)))
        (pss_one (ps_if (PW.pt (pw_or (pt_cmpR op_gt (pv 8) pe_int (nomark _)) (pw_or1 (pt_cmpR op_gt (pe_callB call_len_seq (by rfl) T.b_len PySem.boot_len (pa_cons (pv 9) pa_nil)) pe_int (nomark _)))))
          (pss_cons (ps_aug (i := 4) sc_ticks_answer.nd rfl (Or.inl rfl) pe_int ip_add)
          (pss_cons (ps_expr (pe_bm PySem.F.plainAttrs_list PySem.F.slot_list_extend PySem.F.type_list_extend mt_extend (pv 5) (pa_cons (pe_lst (pa_cons (pe_fld (pv 0) rfl) (pa_cons (pv 8) (pa_cons (pe_callB call_len_seq (by rfl) T.b_len PySem.boot_len (pa_cons (pv 9) pa_nil)) pa_nil)))) pa_nil)))
          (pss_one (ps_expr (pe_bm PySem.F.plainAttrs_list PySem.F.slot_list_extend PySem.F.type_list_extend mt_extend (pv 5) (pa_cons (pv 9) pa_nil)))))) pss_nil))))))
      (pss_one (ps_ret (pe_op op_cat (pe_lst (pa_cons (pv 4) pa_nil)) (pv 5)))))))), ?_⟩
    cases x with
    | ticks n =>
      refine ⟨_, rfl, pl, _, _, .int n, rfl, rfl, hpl, atI_nat rfl, n, rfl, fun r hr => ⟨_, rfl, _, _, rfl, rfl, _, rfl, ?_⟩⟩
      rcases hr with ⟨b, rfl⟩ | ⟨b, rfl⟩
      · refine ifT rfl ⟨_, rfl, (by show 1 ≤ sizeLine; decide), fun l hl => ?_⟩
        obtain ⟨p1, p2⟩ := pick (show Ge05.step g (.ticks n) = (g, [-1]) from if_pos b)
        refine k _ F l rfl ?_ (Kept.of_same (same_new hl)) ?_ (off_none hl) (fg.notin hl)
        · rw [p1]
          exact fg.same (same_new hl)
        · rw [p2]
          exact upd_same
      · refine ifF rfl ?_
        obtain ⟨p1, p2⟩ := pick (step_ticks (g := g) b)
        refine ⟨Nat.zero_le _, fun d hd => ?_⟩
        have ml := many_len wf
        refine ⟨_, rfl, pl, _, _, .int n, rfl, rfl, (same_new hd).seq hpl, atI_nat rfl, _, rfl, ?_, ?_, ?_⟩
        · omega
        · omega
        refine for_range (lo := 0) (fun i σ H' => ∃ F', F'.a = F.a ∧ (∃ v6 v7 v8 v9, σ = [some (.ref F.a), some (.ref pl), some (.ref rw), some (.int 0), some (.int (((Ge05.many i g).2.length : Nat) : Int)), some (.ref d), v6, v7, v8, v9]) ∧ FigAt C F' H' (Ge05.many i g).1 ∧ KeptD d F H F' H' ∧ H' d = some (.lst (nV ((Ge05.many i g).2.flatMap rowN))))
          ⟨{ F with x := d :: F.x }, rfl, ⟨none, none, none, none, rfl⟩, fg.hold hd, KeptD.start hd, upd_same⟩ ?_ ?_
        · rintro i σ H' hi ⟨F', ea, ⟨v6, v7, v8, v9, rfl⟩, fg', kd, hL⟩
          have hin : i < n := by omega
          obtain ⟨a1, lc1, ls1, lw1, lv1, lg1, lf1, xx⟩ := F'
          obtain rfl : a1 = F.a := ea
          obtain ⟨mw, mt, ms⟩ := many_wf i wf
          have hdx : d ∈ xx := by
            have := kd.ex
            rw [show xx = d :: F.x from this]
            exact List.mem_cons_self
          have gt : (Ge05.many i g).1.ticks ≤ 99999 := by
            have := bd.1
            omega
          have gs : (Ge05.many i g).1.signals.length ≤ 100000 := by
            have := bd.2
            omega
          obtain ⟨ml1, ml2⟩ := ml i
          have tl := tick_len mw
          have em := many_last i g
          refine ⟨_, rfl, ⟨F.a, lc1, ls1, lw1, lv1, lg1, lf1, xx⟩, (Ge05.many i g).1, rfl, fg', mw, gt, gs, fun H2 F2 t l ea2 fg2 kp2 ht hl _ hln => ?_⟩
          obtain ⟨a2, lc2, ls2, lw2, lv2, lg2, lf2, xx2⟩ := F2
          obtain rfl : a2 = F.a := ea2
          have kd2 := kd.step kp2
          have hL2 : H2 d = some (.lst (nV ((Ge05.many i g).2.flatMap rowN))) := kp2.own d hdx _ hL
          have hdx2 : d ∈ xx2 := by
            have := kd2.ex
            rw [show xx2 = d :: F.x from this]
            exact List.mem_cons_self
          have hld : l ≠ d := fun e => hln (e ▸ mem_x (F := ⟨F.a, lc2, ls2, lw2, lv2, lg2, lf2, xx2⟩) hdx2)
          refine ⟨_, rfl, t, _, _, .int (Ge05.optRow (Ge05.tick (Ge05.many i g).1).2.2), rfl, rfl, SqT.of ht, rfl, ?_⟩
          refine ⟨_, rfl, t, _, _, .ref l, rfl, rfl, SqT.of ht, rfl, ?_⟩
          refine ⟨_, rfl, _, _, rfl, rfl, _, rfl, ?_⟩
          by_cases z : (Ge05.tick (Ge05.many i g).1).2.1 = [] ∧ (Ge05.tick (Ge05.many i g).1).2.2 = none
          · have et := told_none z
            refine ifF (decide_eq_false (by rw [z.2]; decide)) ⟨_, rfl, l, _, rfl, .inl (SqL.of hl), _, _, rfl, rfl, _, rfl, ifF (decide_eq_false (by rw [nV_len, z.1]; decide)) ?_⟩
            have el : (((Ge05.many i g).2.length : Nat) : Int) = (((Ge05.many (i + 1) g).2.length : Nat) : Int) := by rw [em, et, List.append_nil]
            refine ⟨⟨F.a, lc2, ls2, lw2, lv2, lg2, lf2, xx2⟩, rfl, ⟨_, _, _, _, congrArg (fun z => [some (V.ref F.a), some (V.ref pl), some (V.ref rw), some (V.int 0), some (V.int z), some (V.ref d), _, _, _, _]) el⟩, ?_, kd2, ?_⟩
            · rw [em]
              exact fg2
            · rw [em, et, List.append_nil]
              exact hL2
          · have et := told_some z
            obtain ⟨dx2, hf2⟩ := fg2.fig
            have fin : ∀ (H3 : Hp) (q : Addr), H2 q = none → H3 = upd (upd (upd H2 q (.lst [.int (Ge05.tick (Ge05.many i g).1).1.ticks, .int (Ge05.optRow (Ge05.tick (Ge05.many i g).1).2.2), .int (((nV (Ge05.tick (Ge05.many i g).1).2.1).length : Nat) : Int)])) d (.lst (nV ((Ge05.many i g).2.flatMap rowN) ++ [.int (Ge05.tick (Ge05.many i g).1).1.ticks, .int (Ge05.optRow (Ge05.tick (Ge05.many i g).1).2.2), .int (((nV (Ge05.tick (Ge05.many i g).1).2.1).length : Nat) : Int)]))) d (.lst ((nV ((Ge05.many i g).2.flatMap rowN) ++ [.int (Ge05.tick (Ge05.many i g).1).1.ticks, .int (Ge05.optRow (Ge05.tick (Ge05.many i g).1).2.2), .int (((nV (Ge05.tick (Ge05.many i g).1).2.1).length : Nat) : Int)]) ++ nV (Ge05.tick (Ge05.many i g).1).2.1)) →
                FigAt C ⟨F.a, lc2, ls2, lw2, lv2, lg2, lf2, xx2⟩ H3 (Ge05.many (i + 1) g).1 ∧ KeptD d F H ⟨F.a, lc2, ls2, lw2, lv2, lg2, lf2, xx2⟩ H3 ∧ H3 d = some (.lst (nV ((Ge05.many (i + 1) g).2.flatMap rowN))) := by
              intro H3 q hq e3
              have g3 := fg2.same (same_new (o := .lst [.int (Ge05.tick (Ge05.many i g).1).1.ticks, .int (Ge05.optRow (Ge05.tick (Ge05.many i g).1).2.2), .int (((nV (Ge05.tick (Ge05.many i g).1).2.1).length : Nat) : Int)]) hq)
              have k3 := kd2.step (Kept.of_same (same_new (o := .lst [.int (Ge05.tick (Ge05.many i g).1).1.ticks, .int (Ge05.optRow (Ge05.tick (Ge05.many i g).1).2.2), .int (((nV (Ge05.tick (Ge05.many i g).1).2.1).length : Nat) : Int)]) hq))
              refine ⟨?_, ?_, ?_⟩
              · rw [em, e3]
                exact (g3.write hdx2).write hdx2
              · rw [e3, upd_upd]
                exact k3.write g3
              · rw [em, e3, upd_same, et, List.flatMap_append, nV_app, List.append_assoc]
                congr 2
                congr 1
                unfold rowN
                simp [nV]
            have el : (((Ge05.many i g).2.length : Nat) : Int) + 1 = (((Ge05.many (i + 1) g).2.length : Nat) : Int) := by
              rw [em, et, List.length_append]
              rfl
            refine ite2 (fun c1 => iteT ?_) (fun c1 => ⟨_, rfl, l, _, rfl, .inl (SqL.of hl), _, _, rfl, rfl, _, rfl, ifT (decide_eq_true ?cc) ?_⟩)
            case cc =>
              have c1' := dlt c1
              have zn : (Ge05.tick (Ge05.many i g).1).2.2 = none := by
                cases q : (Ge05.tick (Ge05.many i g).1).2.2 with
                | none => rfl
                | some m =>
                  rw [q] at c1'
                  have : ¬ (0 : Int) < (((m + 1 : Nat)) : Int) := c1'
                  omega
              have ze : (Ge05.tick (Ge05.many i g).1).2.1 ≠ [] := fun q => z ⟨q, zn⟩
              rw [nV_len]
              have := List.length_pos_iff.mpr ze
              omega
            all_goals
              refine ⟨_, rfl, _, _, rfl, rfl, ?_⟩
              refine ⟨_, rfl, .inl ⟨rfl, _, SqL.of hL2⟩, _, rfl, F.a, C.fg, dx2, _, _, rfl, hf2, T.c_Figure, T.n_Figure_ticks, fF_ticks, _, rfl, _, rfl, l, _, rfl, .inl (SqL.of hl), (by show 3 ≤ sizeLine; decide), fun q hq => ⟨d, q, _, _, rfl, rfl, same_new hq _ _ hL2, upd_same, ?_, ?_⟩⟩
              · rw [nV_len]
                exact Nat.le_trans (show ((Ge05.many i g).2.flatMap rowN).length + 3 ≤ 100000 by omega) (by decide)
              refine ⟨_, rfl, .inl ⟨rfl, _, SqL.of upd_same⟩, _, rfl, d, l, _, _, rfl, rfl, upd_same, (upd_ne hld).trans (same_new hq _ _ hl), ?_, ?_⟩
              · rw [List.length_append, nV_len, nV_len]
                exact Nat.le_trans (show ((Ge05.many i g).2.flatMap rowN).length + 3 + (Ge05.tick (Ge05.many i g).1).2.1.length ≤ 100000 by omega) (by decide)
              obtain ⟨f1, f2, f3⟩ := fin _ q hq rfl
              exact ⟨⟨F.a, lc2, ls2, lw2, lv2, lg2, lf2, xx2⟩, rfl, ⟨_, _, _, _, congrArg (fun z => [some (V.ref F.a), some (V.ref pl), some (V.ref rw), some (V.int 0), some (V.int z), some (V.ref d), _, _, _, _]) el⟩, f1, f2, f3⟩
        · rintro σ H' ⟨F', ea, ⟨v6, v7, v8, v9, rfl⟩, fg', kd, hL⟩
          have en : ((n : Nat) : Int).toNat = n := Int.toNat_natCast n
          rw [en] at fg' hL ⊢
          obtain ⟨a1, lc1, ls1, lw1, lv1, lg1, lf1, xx⟩ := F'
          obtain rfl : a1 = F.a := ea
          obtain ⟨ml1, ml2⟩ := ml n
          refine ⟨_, rfl, (by show 1 ≤ sizeLine; decide), fun q hq => ?_⟩
          refine ⟨_, rfl, q, d, _, _, rfl, rfl, upd_same, same_new hq _ _ hL, ?_, fun D hD => ?_⟩
          · rw [nV_len]
            exact Nat.le_trans (show [_].length + ((Ge05.many n g).2.flatMap rowN).length ≤ 10000 by rw [List.length_singleton]; omega) (by decide)
          · have s2 := same_new (o := .lst [.int (((Ge05.many n g).2.length : Nat) : Int)]) hq
            have s3 := s2.trans (same_new (o := .lst ([.int (((Ge05.many n g).2.length : Nat) : Int)] ++ nV ((Ge05.many n g).2.flatMap rowN))) hD)
            have fg3 := (fg'.same s3).drop (d := d) (xs := F.x) kd.ex
            have kd3 := (kd.step (Kept.of_same s3)).fin
            refine k _ ⟨F.a, lc1, ls1, lw1, lv1, lg1, lf1, F.x⟩ D rfl ?_ kd3 ?_ ((kd.step (Kept.of_same s2)).fin.none hD) ?_
            · rw [p1]
              exact fg3
            · rw [p2, zV_ints]
              exact upd_same
            · exact ((fg'.same s2).drop (d := d) (xs := F.x) kd.ex).notin hD
    | _ => cases hx
end
end FF
namespace FF
open PySem PySem.Spec PyProof.Rows L2
/-! ### a new figure -/
def Sx (p : Addr) (H H' : Hp) : Prop := ∀ b o, b ≠ p → H b = some o → H' b = some o
theorem Sx.trans {p : Addr} {H H1 H2 : Hp} (a : Sx p H H1) (b : Sx p H1 H2) : Sx p H H2 := fun c o n e => b c o n (a c o n e)
theorem Sx.refl (p : Addr) (H : Hp) : Sx p H H := fun _ _ _ e => e
theorem Sx.new {p q : Addr} {H : Hp} {o : HO} (h : H q = none) : Sx p H (upd H q o) := fun b u _ e => same_new h b u e
theorem Sx.put {p : Addr} {H : Hp} {o : HO} : Sx p H (upd H p o) := fun b u n e => (upd_ne n).trans e
theorem Sx.free {p q : Addr} {H H' : Hp} (s : Sx p H H') (n : q ≠ p) (h : H' q = none) : H q = none := by
  cases e : H q with
  | none => rfl
  | some o =>
    rw [s q o n e] at h
    cases h
theorem put_end {f : Str} {v : V} : ∀ {fs : List (Str × V)}, (fs.all fun x => !decide (x.1 = f)) = true → putF f v fs = fs ++ [(f, v)]
  | [], _ => rfl
  | (g, x) :: r, h => by
    rw [List.all_cons, Bool.and_eq_true] at h
    have n : ¬ g = f := by simpa using h.1
    rw [put_past n, put_end h.2]
    rfl
theorem fF_new {F : Ft} : putF "ticks" (.int 0) (putF "fades" (.ref F.lf) (putF "count" (.int 0) (putF "plays" (.int 0) (putF "signals" (.ref F.lg) (putF "settings" (.ref F.lv) (putF "ways" (.ref F.lw) (putF "states" (.ref F.ls) (putF "clips" (.ref F.lc) [])))))))) = fF F 0 0 0 := by
  have e1 : putF "clips" (.ref F.lc) [] = ([("clips", .ref F.lc)] : List (Str × V)) := rfl
  rw [e1]
  have e2 : putF "states" (.ref F.ls) ([("clips", .ref F.lc)] : List (Str × V)) = ([("clips", .ref F.lc), ("states", .ref F.ls)] : List (Str × V)) := (put_past (by decide +kernel)).trans rfl
  rw [e2]
  have e3 : putF "ways" (.ref F.lw) ([("clips", .ref F.lc), ("states", .ref F.ls)] : List (Str × V)) = ([("clips", .ref F.lc), ("states", .ref F.ls), ("ways", .ref F.lw)] : List (Str × V)) := (put_past (by decide +kernel)).trans (congrArg _ ((put_past (by decide +kernel)).trans rfl))
  rw [e3]
  have e4 : putF "settings" (.ref F.lv) ([("clips", .ref F.lc), ("states", .ref F.ls), ("ways", .ref F.lw)] : List (Str × V)) = ([("clips", .ref F.lc), ("states", .ref F.ls), ("ways", .ref F.lw), ("settings", .ref F.lv)] : List (Str × V)) := (put_past (by decide +kernel)).trans (congrArg _ ((put_past (by decide +kernel)).trans (congrArg _ ((put_past (by decide +kernel)).trans rfl))))
  rw [e4]
  have e5 : putF "signals" (.ref F.lg) ([("clips", .ref F.lc), ("states", .ref F.ls), ("ways", .ref F.lw), ("settings", .ref F.lv)] : List (Str × V)) = ([("clips", .ref F.lc), ("states", .ref F.ls), ("ways", .ref F.lw), ("settings", .ref F.lv), ("signals", .ref F.lg)] : List (Str × V)) := (put_past (by decide +kernel)).trans (congrArg _ ((put_past (by decide +kernel)).trans (congrArg _ ((put_past (by decide +kernel)).trans (congrArg _ ((put_past (by decide +kernel)).trans rfl))))))
  rw [e5]
  have e6 : putF "plays" (.int 0) ([("clips", .ref F.lc), ("states", .ref F.ls), ("ways", .ref F.lw), ("settings", .ref F.lv), ("signals", .ref F.lg)] : List (Str × V)) = ([("clips", .ref F.lc), ("states", .ref F.ls), ("ways", .ref F.lw), ("settings", .ref F.lv), ("signals", .ref F.lg), ("plays", .int 0)] : List (Str × V)) := (put_past (by decide +kernel)).trans (congrArg _ ((put_past (by decide +kernel)).trans (congrArg _ ((put_past (by decide +kernel)).trans (congrArg _ ((put_past (by decide +kernel)).trans (congrArg _ ((put_past (by decide +kernel)).trans rfl))))))))
  rw [e6]
  have e7 : putF "count" (.int 0) ([("clips", .ref F.lc), ("states", .ref F.ls), ("ways", .ref F.lw), ("settings", .ref F.lv), ("signals", .ref F.lg), ("plays", .int 0)] : List (Str × V)) = ([("clips", .ref F.lc), ("states", .ref F.ls), ("ways", .ref F.lw), ("settings", .ref F.lv), ("signals", .ref F.lg), ("plays", .int 0), ("count", .int 0)] : List (Str × V)) := (put_past (by decide +kernel)).trans (congrArg _ ((put_past (by decide +kernel)).trans (congrArg _ ((put_past (by decide +kernel)).trans (congrArg _ ((put_past (by decide +kernel)).trans (congrArg _ ((put_past (by decide +kernel)).trans (congrArg _ ((put_past (by decide +kernel)).trans rfl))))))))))
  rw [e7]
  have e8 : putF "fades" (.ref F.lf) ([("clips", .ref F.lc), ("states", .ref F.ls), ("ways", .ref F.lw), ("settings", .ref F.lv), ("signals", .ref F.lg), ("plays", .int 0), ("count", .int 0)] : List (Str × V)) = ([("clips", .ref F.lc), ("states", .ref F.ls), ("ways", .ref F.lw), ("settings", .ref F.lv), ("signals", .ref F.lg), ("plays", .int 0), ("count", .int 0), ("fades", .ref F.lf)] : List (Str × V)) := (put_past (by decide +kernel)).trans (congrArg _ ((put_past (by decide +kernel)).trans (congrArg _ ((put_past (by decide +kernel)).trans (congrArg _ ((put_past (by decide +kernel)).trans (congrArg _ ((put_past (by decide +kernel)).trans (congrArg _ ((put_past (by decide +kernel)).trans (congrArg _ ((put_past (by decide +kernel)).trans rfl))))))))))))
  rw [e8]
  exact (put_past (by decide +kernel)).trans (congrArg _ ((put_past (by decide +kernel)).trans (congrArg _ ((put_past (by decide +kernel)).trans (congrArg _ ((put_past (by decide +kernel)).trans (congrArg _ ((put_past (by decide +kernel)).trans (congrArg _ ((put_past (by decide +kernel)).trans (congrArg _ ((put_past (by decide +kernel)).trans (congrArg _ ((put_past (by decide +kernel)).trans rfl))))))))))))))
section
variable {P : Program} {w : World} {K : PySem.W.Frag} {mg : Str → Option Value} {base : Heap} {C : Cs}
def spIFigure (C : Cs) : Sp := fun vs H Q _ => ∃ (p dx : Addr), vs = [.ref p] ∧ H p = some (.ins C.fg dx []) ∧ ∀ H' F, F.a = p → F.x = [] → FigAt C F H' Ge05.init → Sx p H H' → (∀ q ∈ F.s, q ≠ p → H q = none) → Q .non H'
theorem ok_IFigure (D : DefI K mg "Figure" "Figure.__init__" C.fg s_IFigure ["self"]) (T : Txt K mg C) (cC : Mak P w K mg base 1 "Clip" C.cl (spIClip C)) (cS : Mak P w K mg base 1 "State" C.st (spIState C)) : Mak P w K mg base 3 "Figure" C.fg (spIFigure C) := by
  refine mak_of D sc_IFigure (fun vs H Q E h => ?_) (fun f cdv A outer s H vs Q E hr h => ?_)
  · obtain ⟨p, dx, rfl, _⟩ := h
    rfl
  · obtain ⟨p, dx, rfl, hp, k⟩ := h
    refine ⟨_, pss_cons (ps_fld (pv 0) (pe_lst (pa_cons (pe_mk cC hr (pa_cons pe_int (pa_cons pe_int (pa_cons (pe_lst pa_nil) pa_nil)))) pa_nil)) rfl)
      (pss_cons (ps_fld (pv 0) (pe_lst (pa_cons (pe_mk cS hr (pa_cons pe_int (pa_cons pe_int pa_nil))) pa_nil)) rfl)
      (pss_cons (ps_fld (pv 0) (pe_lst pa_nil) rfl)
      (pss_cons (ps_fld (pv 0) (pe_op op_rep (pe_lst (pa_cons pe_int pa_nil)) pe_int) rfl)
      (pss_cons (ps_fld (pv 0) (pe_lst pa_nil) rfl)
      (pss_cons (ps_fld (pv 0) pe_int rfl)
      (pss_cons (ps_fld (pv 0) pe_int rfl)
      (pss_cons (ps_fld (pv 0) (pe_lst pa_nil) rfl)
      (pss_one (ps_fld (pv 0) pe_int rfl))))))))), ?_⟩
    -- clips
    refine ⟨Nat.zero_le _, fun e he => ?_⟩
    intro c dc nc ndc nec
    refine ⟨c, dc, _, _, _, rfl, upd_same, rfl, ?_⟩
    rw [upd_upd]
    refine ⟨(by show 1 ≤ sizeLine; decide), fun lc hlc => ?_⟩
    have t1 := same_new (o := .lst []) he
    have t2 : Same (upd H e (.lst [])) (upd (upd (upd H e (.lst [])) dc (.own c)) c (.ins C.cl dc (cF 1 1 (.ref e)))) := fun a o q => by
      rw [upd_ne (ne_of_none q nc), upd_ne (ne_of_none q ndc)]
      exact q
    have t3 := same_new (o := .lst [.ref c]) hlc
    obtain ⟨Ha, eHa⟩ : ∃ Ha, Ha = upd (upd (upd (upd H e (.lst [])) dc (.own c)) c (.ins C.cl dc (cF 1 1 (.ref e)))) lc (.lst [.ref c]) := ⟨_, rfl⟩
    rw [← eHa] at t3 ⊢
    have ta : Same H Ha := t1.trans (t2.trans t3)
    have he1 : Ha e = some (.lst []) := t3 _ _ (t2 _ _ upd_same)
    have hc1 : Ha c = some (.ins C.cl dc (cF 1 1 (.ref e))) := t3 _ _ upd_same
    have hl1 : Ha lc = some (.lst [.ref c]) := by rw [eHa]; exact upd_same
    have ne1 : e ≠ p := Ne.symm (ne_of_none hp he)
    have nc1 : c ≠ p := Ne.symm (ne_of_none (t1 _ _ hp) nc)
    have nl1 : lc ≠ p := Ne.symm (ne_of_none (t2 _ _ (t1 _ _ hp)) hlc)
    have nle : e ≠ lc := ne_of_none (t2 _ _ upd_same) hlc
    have flc : H lc = none := (t1.trans t2).free hlc
    clear eHa t1 t2 t3 hlc nc ndc he
    refine ⟨_, rfl, p, C.fg, dx, [], rfl, ta _ _ hp, T.c_Figure, T.n_Figure_clips, (by show 0 < 1000; decide), ?_⟩
    obtain ⟨H1, eH1⟩ : ∃ H1, H1 = upd Ha p (.ins C.fg dx (putF "clips" (.ref lc) [])) := ⟨_, rfl⟩
    rw [← eH1]
    have sx1 : Sx p H H1 := by
      rw [eH1]
      exact Sx.trans (fun b o _ q => ta b o q) Sx.put
    have he2 : H1 e = some (.lst []) := by rw [eH1, upd_ne ne1]; exact he1
    have hc2 : H1 c = some (.ins C.cl dc (cF 1 1 (.ref e))) := by rw [eH1, upd_ne nc1]; exact hc1
    have hl2 : H1 lc = some (.lst [.ref c]) := by rw [eH1, upd_ne nl1]; exact hl1
    have hp2 : H1 p = some (.ins C.fg dx (putF "clips" (.ref lc) [])) := by rw [eH1]; exact upd_same
    clear eH1 he1 hc1 hl1 ta Ha
    -- states
    intro st ds nst nds nes
    refine ⟨st, ds, _, _, rfl, upd_same, rfl, ?_⟩
    rw [upd_upd]
    refine ⟨(by show 1 ≤ sizeLine; decide), fun ls hls => ?_⟩
    have t2 : Same H1 (upd (upd H1 ds (.own st)) st (.ins C.st ds (sF 0 1))) := fun a o q => by
      rw [upd_ne (ne_of_none q nst), upd_ne (ne_of_none q nds)]
      exact q
    have t3 := same_new (o := .lst [.ref st]) hls
    obtain ⟨Hb, eHb⟩ : ∃ Hb, Hb = upd (upd (upd H1 ds (.own st)) st (.ins C.st ds (sF 0 1))) ls (.lst [.ref st]) := ⟨_, rfl⟩
    rw [← eHb] at t3 ⊢
    have tb : Same H1 Hb := t2.trans t3
    have hs1 : Hb st = some (.ins C.st ds (sF 0 1)) := t3 _ _ upd_same
    have hls1 : Hb ls = some (.lst [.ref st]) := by rw [eHb]; exact upd_same
    have ns1 : st ≠ p := Ne.symm (ne_of_none hp2 nst)
    have nls1 : ls ≠ p := Ne.symm (ne_of_none (t2 _ _ hp2) hls)
    have nlse : e ≠ ls := ne_of_none (t2 _ _ he2) hls
    have nlsc : lc ≠ ls := ne_of_none (t2 _ _ hl2) hls
    have fls : H1 ls = none := t2.free hls
    clear eHb t2 t3 hls nst nds
    refine ⟨_, rfl, p, C.fg, dx, _, rfl, tb _ _ hp2, T.c_Figure, T.n_Figure_states, put_len (by show 0 < 999; decide), ?_⟩
    obtain ⟨H2, eH2⟩ : ∃ H2, H2 = upd Hb p (.ins C.fg dx (putF "states" (.ref ls) (putF "clips" (.ref lc) []))) := ⟨_, rfl⟩
    rw [← eH2]
    have sx2 : Sx p H1 H2 := by
      rw [eH2]
      exact Sx.trans (fun b o _ q => tb b o q) Sx.put
    have hs2 : H2 st = some (.ins C.st ds (sF 0 1)) := by rw [eH2, upd_ne ns1]; exact hs1
    have hls2 : H2 ls = some (.lst [.ref st]) := by rw [eH2, upd_ne nls1]; exact hls1
    have hp3 : H2 p = some (.ins C.fg dx (putF "states" (.ref ls) (putF "clips" (.ref lc) []))) := by rw [eH2]; exact upd_same
    clear eH2 hs1 hls1 tb Hb
    -- ways
    refine ⟨Nat.zero_le _, fun lw hlw => ?_⟩
    have nlw : lw ≠ p := Ne.symm (ne_of_none hp3 hlw)
    refine ⟨_, rfl, p, C.fg, dx, _, rfl, same_new hlw _ _ hp3, T.c_Figure, T.n_Figure_ways, put_len (put_len (by show 0 < 998; decide)), ?_⟩
    obtain ⟨H3, eH3⟩ : ∃ H3, H3 = upd (upd H2 lw (.lst [])) p (.ins C.fg dx (putF "ways" (.ref lw) (putF "states" (.ref ls) (putF "clips" (.ref lc) [])))) := ⟨_, rfl⟩
    rw [← eH3]
    have sx3 : Sx p H2 H3 := by
      rw [eH3]
      exact Sx.trans (Sx.new hlw) Sx.put
    have hlw3 : H3 lw = some (.lst []) := by rw [eH3, upd_ne nlw]; exact upd_same
    have hp4 : H3 p = some (.ins C.fg dx (putF "ways" (.ref lw) (putF "states" (.ref ls) (putF "clips" (.ref lc) [])))) := by rw [eH3]; exact upd_same
    clear eH3
    -- settings
    refine ⟨(by show 1 ≤ sizeLine; decide), fun z hz => ⟨z, 10, _, rfl, rfl, upd_same, (by decide), (by decide), (by show 1 * 10 ≤ sizeLine; decide), fun lv hlv => ?_⟩⟩
    have tz := same_new (o := .lst [.int 0]) hz
    have nlv : lv ≠ p := Ne.symm (ne_of_none (tz _ _ hp4) hlv)
    refine ⟨_, rfl, p, C.fg, dx, _, rfl, same_new hlv _ _ (tz _ _ hp4), T.c_Figure, T.n_Figure_settings, put_len (put_len (put_len (by show 0 < 997; decide))), ?_⟩
    obtain ⟨H4, eH4⟩ : ∃ H4, H4 = upd (upd (upd H3 z (.lst [.int 0])) lv (.lst (List.replicate (10 : Int).toNat [V.int 0]).flatten)) p (.ins C.fg dx (putF "settings" (.ref lv) (putF "ways" (.ref lw) (putF "states" (.ref ls) (putF "clips" (.ref lc) []))))) := ⟨_, rfl⟩
    rw [← eH4]
    have sx4 : Sx p H3 H4 := by
      rw [eH4]
      exact Sx.trans (Sx.new hz) (Sx.trans (Sx.new hlv) Sx.put)
    have hlv4 : H4 lv = some (.lst [.int 0, .int 0, .int 0, .int 0, .int 0, .int 0, .int 0, .int 0, .int 0, .int 0]) := by rw [eH4, upd_ne nlv]; exact upd_same
    have hp5 : H4 p = some (.ins C.fg dx (putF "settings" (.ref lv) (putF "ways" (.ref lw) (putF "states" (.ref ls) (putF "clips" (.ref lc) []))))) := by rw [eH4]; exact upd_same
    have hlv0 : H3 lv = none := (same_new (o := .lst [.int 0]) hz).free hlv
    clear eH4 tz
    -- signals
    refine ⟨Nat.zero_le _, fun lg hlg => ?_⟩
    have nlg : lg ≠ p := Ne.symm (ne_of_none hp5 hlg)
    refine ⟨_, rfl, p, C.fg, dx, _, rfl, same_new hlg _ _ hp5, T.c_Figure, T.n_Figure_signals, put_len (put_len (put_len (put_len (by show 0 < 996; decide)))), ?_⟩
    refine ⟨_, rfl, p, C.fg, dx, _, rfl, upd_same, T.c_Figure, T.n_Figure_plays, put_len (put_len (put_len (put_len (put_len (by show 0 < 995; decide))))), ?_⟩
    refine ⟨_, rfl, p, C.fg, dx, _, rfl, upd_same, T.c_Figure, T.n_Figure_count, put_len (put_len (put_len (put_len (put_len (put_len (by show 0 < 994; decide)))))), ?_⟩
    rw [upd_upd, upd_upd]
    obtain ⟨H5, eH5⟩ : ∃ H5, H5 = upd (upd H4 lg (.lst [])) p (.ins C.fg dx (putF "count" (.int 0) (putF "plays" (.int 0) (putF "signals" (.ref lg) (putF "settings" (.ref lv) (putF "ways" (.ref lw) (putF "states" (.ref ls) (putF "clips" (.ref lc) [])))))))) := ⟨_, rfl⟩
    rw [← eH5]
    have sx5 : Sx p H4 H5 := by
      rw [eH5]
      exact Sx.trans (Sx.new hlg) Sx.put
    have hlg5 : H5 lg = some (.lst []) := by rw [eH5, upd_ne nlg]; exact upd_same
    have hp6 : H5 p = some (.ins C.fg dx (putF "count" (.int 0) (putF "plays" (.int 0) (putF "signals" (.ref lg) (putF "settings" (.ref lv) (putF "ways" (.ref lw) (putF "states" (.ref ls) (putF "clips" (.ref lc) [])))))))) := by rw [eH5]; exact upd_same
    clear eH5
    -- fades
    refine ⟨Nat.zero_le _, fun lf hlf => ?_⟩
    have nlf : lf ≠ p := Ne.symm (ne_of_none hp6 hlf)
    refine ⟨_, rfl, p, C.fg, dx, _, rfl, same_new hlf _ _ hp6, T.c_Figure, T.n_Figure_fades, put_len (put_len (put_len (put_len (put_len (put_len (put_len (by show 0 < 993; decide))))))), ?_⟩
    refine ⟨_, rfl, p, C.fg, dx, _, rfl, upd_same, T.c_Figure, T.n_Figure_ticks, put_len (put_len (put_len (put_len (put_len (put_len (put_len (put_len (by show 0 < 992; decide)))))))), ?_⟩
    rw [upd_upd]
    obtain ⟨H6, eH6⟩ : ∃ H6, H6 = upd (upd H5 lf (.lst [])) p (.ins C.fg dx (putF "ticks" (.int 0) (putF "fades" (.ref lf) (putF "count" (.int 0) (putF "plays" (.int 0) (putF "signals" (.ref lg) (putF "settings" (.ref lv) (putF "ways" (.ref lw) (putF "states" (.ref ls) (putF "clips" (.ref lc) [])))))))))) := ⟨_, rfl⟩
    rw [← eH6]
    have sx6 : Sx p H5 H6 := by
      rw [eH6]
      exact Sx.trans (Sx.new hlf) Sx.put
    have hlf6 : H6 lf = some (.lst []) := by rw [eH6, upd_ne nlf]; exact upd_same
    have hp7 : H6 p = some (.ins C.fg dx (fF ⟨p, lc, ls, lw, lv, lg, lf, []⟩ 0 0 0)) := by
      rw [eH6, upd_same]
      exact congrArg (fun q => some (HO.ins C.fg dx q)) (fF_new (F := ⟨p, lc, ls, lw, lv, lg, lf, []⟩))
    clear eH6
    have x16 := sx2.trans (sx3.trans (sx4.trans (sx5.trans sx6)))
    have x26 := sx3.trans (sx4.trans (sx5.trans sx6))
    have x36 := sx4.trans (sx5.trans sx6)
    have x46 := sx5.trans sx6
    have b1 : H2 lc = _ := sx2 _ _ nl1 hl2
    have b2 : H2 e = _ := sx2 _ _ ne1 he2
    have b3 : H3 lc = _ := sx3 _ _ nl1 b1
    have b4 : H3 e = _ := sx3 _ _ ne1 b2
    have b5 : H3 ls = _ := sx3 _ _ nls1 hls2
    have b6 : H4 lc = _ := sx4 _ _ nl1 b3
    have b7 : H4 e = _ := sx4 _ _ ne1 b4
    have b8 : H4 ls = _ := sx4 _ _ nls1 b5
    have b9 : H4 lw = _ := sx4 _ _ nlw hlw3
    have c1 : H5 lc = _ := sx5 _ _ nl1 b6
    have c2 : H5 e = _ := sx5 _ _ ne1 b7
    have c3 : H5 ls = _ := sx5 _ _ nls1 b8
    have c4 : H5 lw = _ := sx5 _ _ nlw b9
    have c5 : H5 lv = _ := sx5 _ _ nlv hlv4
    have kc : H6 c = some (.ins C.cl dc (cF 1 1 (.ref e))) := x16 _ _ nc1 hc2
    have ke : H6 e = some (.lst []) := x16 _ _ ne1 he2
    have klc : H6 lc = some (.lst [.ref c]) := x16 _ _ nl1 hl2
    have kst : H6 st = some (.ins C.st ds (sF 0 1)) := x26 _ _ ns1 hs2
    have kls : H6 ls = some (.lst [.ref st]) := x26 _ _ nls1 hls2
    have klw : H6 lw = some (.lst []) := x36 _ _ nlw hlw3
    have klv := x46 _ _ nlv hlv4
    have klg : H6 lg = some (.lst []) := sx6 _ _ nlg hlg5
    have li : ∀ {a b : Addr} {xs : List V} {D d : Addr} {fs : List (Str × V)}, H6 a = some (.ins D d fs) → H6 b = some (.lst xs) → a ≠ b := fun h1 h2 => ne_of h1 h2 (by intro z; cases z)
    have m1 : lw ≠ lc := Ne.symm (ne_of_none b1 hlw)
    have m2 : lw ≠ ls := Ne.symm (ne_of_none hls2 hlw)
    have m3 : e ≠ lw := ne_of_none b2 hlw
    have m4 : lv ≠ lc := Ne.symm (ne_of_none b3 hlv0)
    have m5 : lv ≠ ls := Ne.symm (ne_of_none b5 hlv0)
    have m6 : lv ≠ lw := Ne.symm (ne_of_none hlw3 hlv0)
    have m7 : e ≠ lv := ne_of_none b4 hlv0
    have m8 : lg ≠ lc := Ne.symm (ne_of_none b6 hlg)
    have m9 : lg ≠ ls := Ne.symm (ne_of_none b8 hlg)
    have m10 : lg ≠ lw := Ne.symm (ne_of_none b9 hlg)
    have m11 : lg ≠ lv := Ne.symm (ne_of_none hlv4 hlg)
    have m12 : e ≠ lg := ne_of_none b7 hlg
    have m13 : lf ≠ lc := Ne.symm (ne_of_none c1 hlf)
    have m14 : lf ≠ ls := Ne.symm (ne_of_none c3 hlf)
    have m15 : lf ≠ lw := Ne.symm (ne_of_none c4 hlf)
    have m16 : lf ≠ lv := Ne.symm (ne_of_none c5 hlf)
    have m17 : lf ≠ lg := Ne.symm (ne_of_none hlg5 hlf)
    have m18 : e ≠ lf := ne_of_none c2 hlf
    refine k H6 ⟨p, lc, ls, lw, lv, lg, lf, []⟩ rfl rfl ?_ (sx1.trans x16) ?fr
    case fr =>
      intro q hq nq
      unfold Ft.s at hq
      simp only [List.mem_cons, List.not_mem_nil, or_false] at hq
      rcases hq with hq | hq | hq | hq | hq | hq | hq
      · exact absurd hq nq
      · rw [hq]; exact flc
      · rw [hq]; exact sx1.free nls1 fls
      · rw [hq]; exact (sx1.trans sx2).free nlw hlw
      · rw [hq]; exact (sx1.trans (sx2.trans sx3)).free nlv hlv0
      · rw [hq]; exact (sx1.trans (sx2.trans (sx3.trans sx4))).free nlg hlg
      · rw [hq]; exact (sx1.trans (sx2.trans (sx3.trans (sx4.trans sx5)))).free nlf hlf
    have ins_off : ∀ {a D d : Addr} {fs : List (Str × V)}, H6 a = some (.ins D d fs) → a ≠ p → off (⟨p, lc, ls, lw, lv, lg, lf, []⟩ : Ft).l H6 a = some (.ins D d fs) := fun {a D d fs} h n => off_of h fun m => by
      unfold Ft.l Ft.s at m
      simp only [List.append_nil, List.mem_cons, List.not_mem_nil, or_false] at m
      rcases m with m | m | m | m | m | m | m
      · exact n m
      · exact li h klc m
      · exact li h kls m
      · exact li h klw m
      · exact li h klv m
      · exact li h klg m
      · exact li h hlf6 m
    refine ⟨?_, ⟨dx, hp7⟩, ⟨[c], klc, .cons ⟨dc, e, ins_off kc nc1, [], off_of ke fun m => ?_, .nil⟩ .nil⟩, ⟨[st], kls, .cons ⟨ds, ins_off kst ns1⟩ .nil⟩, ⟨[], klw, .nil⟩, klv, klg, ⟨[], hlf6, .nil⟩, fun q hq => by cases hq⟩
    · unfold Ft.l Ft.s
      simp only [List.append_nil, List.nodup_cons, List.mem_cons, List.not_mem_nil, or_false, not_or, not_false_eq_true, List.nodup_nil, and_true]
      exact ⟨⟨Ne.symm nl1, Ne.symm nls1, Ne.symm nlw, Ne.symm nlv, Ne.symm nlg, Ne.symm nlf⟩, ⟨nlsc, Ne.symm m1, Ne.symm m4, Ne.symm m8, Ne.symm m13⟩, ⟨Ne.symm m2, Ne.symm m5, Ne.symm m9, Ne.symm m14⟩, ⟨Ne.symm m6, Ne.symm m10, Ne.symm m15⟩, ⟨Ne.symm m11, Ne.symm m16⟩, Ne.symm m17⟩
    · unfold Ft.l Ft.s at m
      simp only [List.append_nil, List.mem_cons, List.not_mem_nil, or_false] at m
      rcases m with m | m | m | m | m | m | m
      · exact ne1 m
      · exact nle m
      · exact nlse m
      · exact m3 m
      · exact m7 m
      · exact m12 m
      · exact m18 m
end
end FF
namespace FF
open PySem PySem.Spec PyProof.Rows L2
/-! ### a call of what an expression gives -/
section
variable {X : Cx} {k : Nat} {p pos : Pos} {fe e : Expr} {es : List Expr} {tf : TE} {t : TA}
def tCallE (S : Addr → Sp → Prop) (tf : TE) (t : TA) : TE := fun σ H Q => tf σ H fun y H1 => ∃ f sp, y = .ref f ∧ S f sp ∧ t σ H1 fun vs H2 => sp vs H2 Q E0
theorem pe_callE {S : Addr → Sp → Prop} (A : ∀ f sp, S f sp → ∃ (j : Nat) (fd : FuncData) (ps : List Str), j ≤ k ∧ FnOk X.prog X.w X.K X.mg X.base CX0 j f fd ps sp ∧ PySem.W.keepIn X.K (.ref f) = true ∧ Binds X.K fd ps []) (hr : Room k X.A) (hf : PE X fe tf) (ha : PA X (e :: es) t)
    (ht : eval (.Call fe (e :: es) [] pos) X.env = (do callWith pos (← eval fe X.env) [] (backTo pos (starEach (e :: es) X.env)) (backToKw pos (keywordEach [] X.env))) := by rfl)
    (he : starEach (e :: es) X.env = (false, eval e X.env) :: starEach es X.env := by rfl) (hpl : (backTo pos (starEach es X.env)).any (·.1) = false := by rfl) : PE X (.Call fe (e :: es) [] pos) (tCallE S tf t) := by
  refine ⟨fun pins s σ H Q I h => ?_⟩
  refine Call_ (thn (hf.run pins s σ H _ I h) fun u s1 ⟨y, H1, I1, ry, f, sp, ey, hS, q⟩ => ?_) ht
  subst ey
  obtain rfl : u = Value.ref f := ry
  obtain ⟨j, fd, ps, hj, F, hk, hb⟩ := A f sp hS
  refine PySem.W.callWith_K (h₀ := X.base) I.ok.mod.kin hk (thn (ha.run pos pins s1 σ H1 _ I1 q) fun us s2 ⟨vs, H2, I2, r, q2⟩ => ⟨I2.kIn, ?_⟩) he hpl
  exact run_fn F (hr.mono hj) hb .nil pass0 I2 r (by rw [List.append_nil]; exact q2)
end
end FF
namespace FF
open PySem PySem.Spec PyProof.Rows L2
/-! ### what is handed in is only read -/
def RdOnly (K : PySem.W.Frag) (F : Ft) (H : Hp) (a : Addr) (xs : List V) : Prop := (Rd H a (.lst xs) ∧ a ∉ F.l) ∨ ∀ H' : Hp, SqL K H' a xs
section
variable {K : PySem.W.Frag} {F F' : Ft} {H H' : Hp} {a : Addr} {xs : List V}
theorem RdOnly.seq (h : RdOnly K F H a xs) : SqL K H a xs := by
  rcases h with h | h
  · exact .inl h.1
  · exact h H
theorem RdOnly.kept (h : RdOnly K F H a xs) (k : Kept F H F' H') : RdOnly K F' H' a xs := by
  rcases h with ⟨h | ⟨o, h⟩, n⟩ | h
  · have := k.get h n
    exact .inl ⟨.inl this.1, this.2⟩
  · have := k.get h n
    exact .inl ⟨.inr ⟨o, this.1⟩, this.2⟩
  · exact .inr h
theorem RdOnly.same (h : RdOnly K F H a xs) (s : Same H H') : RdOnly K F H' a xs := h.kept (Kept.of_same s)
theorem RdOnly.write (h : RdOnly K F H a xs) {d : Addr} {o : HO} (hd : d ∈ F.x) : RdOnly K F (upd H d o) a xs := by
  rcases h with ⟨h, n⟩ | h
  · have nd : a ≠ d := fun e => n (e ▸ mem_x hd)
    refine .inl ⟨?_, n⟩
    rcases h with h | ⟨u, h⟩
    · exact .inl ((upd_ne nd).trans h)
    · exact .inr ⟨u, (upd_ne nd).trans h⟩
  · exact .inr h
theorem RdOnly.start (h : SqL K H a xs) (s : Same H H') (n : ∀ o, H a = some o → a ∉ F.l) : RdOnly K F H' a xs := by
  rcases h with h | h
  · refine .inl ⟨?_, ?_⟩
    · rcases h with h | ⟨o, h⟩
      · exact .inl (s _ _ h)
      · exact .inr ⟨o, s _ _ h⟩
    · rcases h with h | ⟨o, h⟩
      · exact n _ h
      · exact n _ h
  · exact .inr fun H' => .inr h
end
theorem toI_V (l : List Nat) : (toI l).map V.int = nV l := by
  unfold toI nV
  rw [List.map_map]
  rfl
/-! ### the numbers of one call among all -/
section
variable {L R : List Nat} {x : Ge05.Call}
theorem at_num : (nV (L ++ (encN x ++ R)))[L.length]? = some (.int (numOf x)) := by
  refine nV_get ?_
  rw [List.getElem?_append_right (Nat.le_refl _), Nat.sub_self]
  rfl
theorem cut_plain : cutV (nV (L ++ (encN x ++ R))) (some ((L.length : Int) + 1)) (some ((L.length : Int) + 1 + ((plainOf x).length : Int))) = nV (plainOf x) := by
  have hl : L.length + 1 + (plainOf x).length ≤ (nV (L ++ (encN x ++ R))).length := by
    rw [nV_len, List.length_append, List.length_append]
    unfold encN
    rw [List.length_cons, List.length_append]
    omega
  have e := cut_nat (xs := nV (L ++ (encN x ++ R))) (a := L.length + 1) (b := L.length + 1 + (plainOf x).length) (by omega) hl
  refine Eq.trans ?_ (e.trans ?_)
  · congr 1
  · rw [Nat.add_sub_cancel_left]
    unfold nV
    rw [← List.map_drop, ← List.map_take]
    congr 1
    have : L ++ (encN x ++ R) = (L ++ [numOf x]) ++ (plainOf x ++ ((if hasRow x = true then (rowOf x).length :: rowOf x else []) ++ R)) := by
      unfold encN
      simp
    rw [this, List.drop_left' (by simp), List.take_left' rfl]
theorem enc_row (h : hasRow x = true) : L ++ (encN x ++ R) = (L ++ (numOf x :: plainOf x)) ++ ((rowOf x).length :: (rowOf x ++ R)) := by
  unfold encN
  rw [if_pos h]
  simp
theorem at_row (h : hasRow x = true) : (nV (L ++ (encN x ++ R)))[L.length + 1 + (plainOf x).length]? = some (.int (rowOf x).length) := by
  refine nV_get ?_
  rw [enc_row h, List.getElem?_append_right (by simp; omega)]
  have : L.length + 1 + (plainOf x).length - (L ++ numOf x :: plainOf x).length = 0 := by simp; omega
  rw [this]
  rfl
theorem cut_row (h : hasRow x = true) : cutV (nV (L ++ (encN x ++ R))) (some ((L.length : Int) + 1 + ((plainOf x).length : Int) + 1)) (some ((L.length : Int) + 1 + ((plainOf x).length : Int) + 1 + ((rowOf x).length : Int))) = nV (rowOf x) := by
  have hl : L.length + 1 + (plainOf x).length + 1 + (rowOf x).length ≤ (nV (L ++ (encN x ++ R))).length := by
    rw [nV_len, enc_row h]
    simp
    omega
  have e := cut_nat (xs := nV (L ++ (encN x ++ R))) (a := L.length + 1 + (plainOf x).length + 1) (b := L.length + 1 + (plainOf x).length + 1 + (rowOf x).length) (by omega) hl
  refine Eq.trans ?_ (e.trans ?_)
  · congr 1
  · rw [Nat.add_sub_cancel_left]
    unfold nV
    rw [← List.map_drop, ← List.map_take]
    congr 1
    have : L ++ (encN x ++ R) = (L ++ (numOf x :: plainOf x) ++ [(rowOf x).length]) ++ (rowOf x ++ R) := by
      rw [enc_row h]
      simp
    rw [this, List.drop_left' (by simp; omega), List.take_left' rfl]
theorem enc_len : (encN x).length = if hasRow x = true then 1 + (plainOf x).length + 1 + (rowOf x).length else 1 + (plainOf x).length := by
  unfold encN
  split <;> simp <;> omega
end
theorem row_nil {x : Ge05.Call} (h : hasRow x = false) : rowOf x = [] := by cases x <;> first | rfl | cases h
theorem Bd.mono {n m : Nat} {g : Ge05.House} (b : Bd n g) (h : n ≤ m) : Bd m g := ⟨Nat.le_trans b.1 (Nat.mul_le_mul_left _ h), Nat.le_trans b.2 h⟩
theorem zV_app (a b : List Int) : zV (a ++ b) = zV a ++ zV b := List.map_append ..
end FF
namespace FF
open Ge05 (House Play Way)
/-! ### shares -/
theorem low_eq {a b : Nat} (hb : 0 < b) : Ge05.low a b = (a / Nat.gcd a b, b / Nat.gcd a b) := by
  unfold Ge05.low
  by_cases h : a = 0
  · subst h
    rw [if_pos rfl, Nat.gcd_zero_left, Nat.zero_div, Nat.div_self hb]
  · rw [if_neg h]
theorem low_scale {x y d : Nat} (hy : 0 < y) (hd : 0 < d) : Ge05.low (x * d) (y * d) = Ge05.low x y := by
  rw [low_eq (Nat.mul_pos hy hd), low_eq hy, Nat.gcd_mul_right, Nat.mul_div_mul_right _ _ hd, Nat.mul_div_mul_right _ _ hd]
theorem low_pos {a b : Nat} (hb : 0 < b) : 0 < (Ge05.low a b).2 := by
  rw [low_eq hb]
  exact Nat.div_pos (Nat.gcd_le_right a hb) (Nat.gcd_pos_of_pos_right a hb)
theorem low_le {a b : Nat} (hb : 0 < b) : (Ge05.low a b).2 ≤ b := by
  rw [low_eq hb]
  exact Nat.div_le_self _ _
/-- a fraction in lowest terms, taken further, is the fraction taken further -/
theorem low_on {a b h n : Nat} (hb : 0 < b) (hn : 0 < n) : Ge05.low ((Ge05.low a b).1 * h) ((Ge05.low a b).2 * n) = Ge05.low (a * h) (b * n) := by
  have g0 := Nat.gcd_pos_of_pos_right a hb
  have ea : (Ge05.low a b).1 * Nat.gcd a b = a := by
    rw [low_eq hb]
    exact Nat.div_mul_cancel (Nat.gcd_dvd_left a b)
  have eb : (Ge05.low a b).2 * Nat.gcd a b = b := by
    rw [low_eq hb]
    exact Nat.div_mul_cancel (Nat.gcd_dvd_right a b)
  have q := low_scale (x := (Ge05.low a b).1 * h) (y := (Ge05.low a b).2 * n) (d := Nat.gcd a b) (Nat.mul_pos (low_pos hb) hn) g0
  rw [← q, Nat.mul_right_comm, ea, Nat.mul_right_comm, eb]
/-- the shares of what is left, a of b, over fades from the newest on -/
def parts : List (Play × Nat × Nat) → Nat → Nat → List (Nat × Nat)
  | [], a, b => [Ge05.low a b]
  | x :: l, a, b => Ge05.low (a * x.2.2) (b * x.2.1) :: parts l (a * (x.2.1 - x.2.2)) (b * x.2.1)
theorem parts_len : ∀ (l : List (Play × Nat × Nat)) (a b : Nat), (parts l a b).length = l.length + 1
  | [], _, _ => rfl
  | x :: l, a, b => by
    show (parts l _ _).length + 1 = _
    rw [parts_len l]
    rfl
def tell (g : House) (p : Play) (s : Nat × Nat) : Nat × Nat × Nat × Nat := (p.state, Ge05.picture (Ge05.clipOf g p.state) p.at_, s)
theorem rest_eq (g : House) : ∀ (r : List (Play × Nat × Nat)) (x : Play × Nat × Nat) (a b : Nat), (Ge05.shareRest (x :: r) a b).map (fun y => (y.1.state, Ge05.picture (Ge05.clipOf g y.1.state) y.1.at_, Ge05.low y.2.1 y.2.2)) = List.zipWith (tell g) (x.1 :: r.map fun x => x.1) (parts r a b)
  | [], x, a, b => rfl
  | y :: r, x, a, b => by
    show (x.1.state, Ge05.picture (Ge05.clipOf g x.1.state) x.1.at_, Ge05.low (a * y.2.2) (b * y.2.1)) :: (Ge05.shareRest (y :: r) (a * (y.2.1 - y.2.2)) (b * y.2.1)).map _ = _
    rw [rest_eq g r y]
    rfl
/-- what is shown, from what plays on -/
def seen (g : House) : List Play := g.now :: g.fading.reverse.map fun x => x.1
theorem shown_eq (g : House) : Ge05.shown g = List.zipWith (tell g) (seen g) (parts g.fading.reverse 1 1) := by
  unfold Ge05.shown seen
  cases e : g.fading.reverse with
  | nil => rfl
  | cons x r =>
    show (g.now.state, Ge05.picture (Ge05.clipOf g g.now.state) g.now.at_, Ge05.low x.2.2 x.2.1) :: (Ge05.shareRest (x :: r) (x.2.1 - x.2.2) x.2.1).map _ = tell g g.now (Ge05.low (1 * x.2.2) (1 * x.2.1)) :: List.zipWith (tell g) (x.1 :: r.map fun x => x.1) (parts r (1 * (x.2.1 - x.2.2)) (1 * x.2.1))
    rw [rest_eq g r x, Nat.one_mul, Nat.one_mul, Nat.one_mul]
    rfl
theorem seen_len (g : House) : (seen g).length = g.fading.length + 1 := by
  unfold seen
  rw [List.length_cons, List.length_map, List.length_reverse]
theorem shown_len (g : House) : (Ge05.shown g).length = g.fading.length + 1 := by
  rw [shown_eq, List.length_zipWith, seen_len, parts_len, List.length_reverse, Nat.min_self]
theorem shown_get {g : House} {i : Nat} {p : Play} {s : Nat × Nat} (h1 : (seen g)[i]? = some p) (h2 : (parts g.fading.reverse 1 1)[i]? = some s) : (Ge05.shown g)[i]? = some (tell g p s) := by
  rw [shown_eq, List.getElem?_zipWith, h1, h2]
def row4 (x : Nat × Nat × Nat × Nat) : List Nat := [x.1, x.2.1, x.2.2.1, x.2.2.2]
theorem row4_len (l : List (Nat × Nat × Nat × Nat)) : (l.flatMap row4).length = 4 * l.length := by
  induction l with
  | nil => rfl
  | cons x r ih =>
    rw [List.flatMap_cons, List.length_append, ih, List.length_cons]
    show 4 + _ = _
    omega
theorem step_shown (g : House) : Ge05.step g .shown = (g, Ge05.ints ((Ge05.shown g).length :: (Ge05.shown g).flatMap row4)) := rfl
def mayN (g : House) (i : Nat) : Bool := ((g.ways[i]?).map (Ge05.may g)).getD false
theorem step_may (g : House) : Ge05.step g .may = (g, Ge05.ints (((List.range g.ways.length).filter (mayN g)).length :: (List.range g.ways.length).filter (mayN g))) := rfl
theorem step_now (g : House) : Ge05.step g .now = (g, Ge05.ints [g.now.state, g.now.at_, Ge05.picture (Ge05.clipOf g g.now.state) g.now.at_, if Ge05.isOver (Ge05.clipOf g g.now.state) g.now.at_ = true then 1 else 0, g.fading.length, g.ticks]) := rfl
theorem step_values (g : House) : Ge05.step g .values = (g, Ge05.ints ((List.range 10).map (Ge05.valueOf g) ++ g.signals.length :: g.signals)) := rfl
/-! ### the greatest common divisor, by rests -/
theorem gcd_turn {a b : Nat} : Nat.gcd b (a % b) = Nat.gcd a b := by
  rw [Nat.gcd_comm a b, Nat.gcd_rec b a, Nat.gcd_comm]
/-- what a loop over the fades has: the shares so far, and what is left of what -/
structure Part (l : List (Play × Nat × Nat)) (i : Nat) (out : List (Nat × Nat)) (s : Nat × Nat) : Prop where
  ex : ∃ a b, 0 < b ∧ b ≤ 64 ^ i ∧ s = Ge05.low a b ∧ parts l 1 1 = out ++ parts (l.drop i) a b
theorem Part.start (l : List (Play × Nat × Nat)) : Part l 0 [] (1, 1) := ⟨1, 1, by decide, by decide, by decide, rfl⟩
theorem Part.pos {l : List (Play × Nat × Nat)} {i : Nat} {out : List (Nat × Nat)} {s : Nat × Nat} (p : Part l i out s) : 0 < s.2 := by
  obtain ⟨a, b, hb, _, rfl, _⟩ := p.ex
  exact low_pos hb
theorem Part.small {l : List (Play × Nat × Nat)} {i : Nat} {out : List (Nat × Nat)} {s : Nat × Nat} (p : Part l i out s) (hi : i ≤ 50) {n : Nat} (hn : n ≤ 50) : s.2 * n < 2 ^ 9000 := by
  obtain ⟨a, b, hb, h64, rfl, _⟩ := p.ex
  have h1 : (Ge05.low a b).2 ≤ 64 ^ 50 := Nat.le_trans (low_le hb) (Nat.le_trans h64 (Nat.pow_le_pow_right (by decide) hi))
  exact Nat.lt_of_le_of_lt (Nat.mul_le_mul h1 hn) (by decide +kernel)
theorem Part.step {l : List (Play × Nat × Nat)} {i : Nat} {out : List (Nat × Nat)} {s : Nat × Nat} (p : Part l i out s) {x : Play × Nat × Nat} (hx : l[i]? = some x) (h1 : x.2.2 < x.2.1) (h2 : x.2.1 ≤ 50) :
    Part l (i + 1) (out ++ [Ge05.low (s.1 * x.2.2) (s.2 * x.2.1)]) (Ge05.low (s.1 * (x.2.1 - x.2.2)) (s.2 * x.2.1)) := by
  obtain ⟨a, b, hb, h64, rfl, e⟩ := p.ex
  have hn : 0 < x.2.1 := by omega
  have hd : l.drop i = x :: l.drop (i + 1) := by
    have hi := (List.getElem?_eq_some_iff.mp hx).1
    have hv : l[i] = x := (List.getElem?_eq_some_iff.mp hx).2
    rw [← hv, List.getElem_cons_drop hi]
  refine ⟨a * (x.2.1 - x.2.2), b * x.2.1, Nat.mul_pos hb hn, ?_, low_on hb hn, ?_⟩
  · rw [Nat.pow_succ]
    exact Nat.mul_le_mul h64 (by omega)
  · rw [e, hd, low_on hb hn, List.append_assoc]
    rfl
theorem Part.fin {l : List (Play × Nat × Nat)} {out : List (Nat × Nat)} {s : Nat × Nat} (p : Part l l.length out s) : parts l 1 1 = out ++ [s] := by
  obtain ⟨a, b, hb, h64, rfl, e⟩ := p.ex
  rw [e, List.drop_length]
  rfl
end FF
namespace FF
open PySem PySem.Spec PyProof.Rows L2
section
variable {P : Program} {w : World} {K : PySem.W.Frag} {mg : Str → Option Value} {base : Heap} {C : Cs}
/-! ### goto, now, values, may -/
def gotoRef (g : Ge05.House) (n : Nat) (r : Int) : Prop := (g.states.length ≤ n ∧ r = -2) ∨ (¬ g.states.length ≤ n ∧ r = 0)
def spGotoRef (C : Cs) : Sp := fun vs H Q _ => ∃ (F : Ft) (g : Ge05.House) (n : Nat), vs = [.ref F.a, .int n] ∧ FigAt C F H g ∧ ∀ r, gotoRef g n r → Q (.int r) H
theorem ok_goto_refusal (D : Def K mg "goto_refusal" s_goto_refusal ["figure", "state"]) (T : Txt K mg C) : Cal P w K mg base 1 "goto_refusal" (spGotoRef C) := by
  refine cal_of D sc_goto_refusal (fun vs H Q E h => ?_) (fun f cdv A outer s H vs Q E hr h => ?_)
  · obtain ⟨F, g, n, rfl, _⟩ := h
    rfl
  · obtain ⟨F, g, n, rfl, fg, k⟩ := h
    refine ⟨_, pss_cons (ps_if (pt_cmpR op_ge (pv 1) (pe_callB call_len_seq (by rfl) T.b_len PySem.boot_len (pa_cons (pe_fld (pv 0) rfl) pa_nil)) (nomark _)) (pss_one (ps_ret (pe_gc T.k_NOT_THERE))) pss_nil)
      (pss_one (ps_ret (pe_gc T.k_GRANTED))), ?_⟩
    obtain ⟨dx, hf⟩ := fg.fig
    obtain ⟨qs, hs, pq⟩ := fg.states
    have l2 : qs.length = g.states.length := Paired.length pq
    refine ⟨_, rfl, _, rfl, F.a, C.fg, dx, _, _, rfl, hf, T.c_Figure, T.n_Figure_states, fF_states, F.ls, _, rfl, .inl (SqL.of hs), _, _, rfl, rfl, _, rfl, ite2 (fun c1 => k _ (.inl ⟨?_, rfl⟩)) (fun c1 => k _ (.inr ⟨?_, rfl⟩))⟩
    all_goals simp only [List.length_map, l2, decide_eq_true_eq] at *
    all_goals omega
theorem ok_goto_answer (D : Def K mg "goto_answer" s_goto_answer ["figure", "plain", "row"]) (T : Txt K mg C) (cR : Cal P w K mg base 1 "goto_refusal" (spGotoRef C)) : Cal P w K mg base 2 "goto_answer" (spAns K C 8) := by
  refine cal_of D sc_goto_answer (fun vs H Q E h => ?_) (fun f cdv A outer s H vs Q E hr h => ?_)
  · obtain ⟨F, g, x, pl, rw, rfl, _⟩ := h
    rfl
  · obtain ⟨F, g, x, pl, rw, rfl, hx, fg, wf, bd, h100, hpl, hrw, k⟩ := h
    refine ⟨_, pss_cons (ps_set (i := 3) sc_goto_answer.nd rfl (Or.inl rfl) (pe_c cR hr (pa_cons (pv 0) (pa_cons (pe_ix ix_list (pv 1) pe_int (fun _ _ => rfl)) pa_nil))))
      (pss_cons (ps_if (pt_cmpR op_lt (pv 3) pe_int (nomark _)) (pss_one (ps_ret (pe_lst (pa_cons (pv 3) pa_nil)))) pss_nil)
      (pss_cons (ps_fld (pv 0) (pe_ix ix_list (pv 1) pe_int (fun _ _ => rfl)) rfl)
      (pss_cons (ps_fld (pv 0) pe_int rfl)
      (pss_cons (ps_fld (pv 0) (pe_lst pa_nil) rfl)
      (pss_one (ps_ret (pe_lst (pa_cons pe_int pa_nil)))))))), ?_⟩
    cases x with
    | goto v =>
      refine ⟨_, rfl, _, rfl, pl, _, _, .int v, rfl, rfl, hpl, atI_nat rfl, F, g, v, rfl, fg, fun r hr => ⟨_, rfl, _, _, rfl, rfl, _, rfl, ?_⟩⟩
      rcases hr with ⟨b, rfl⟩ | ⟨b, rfl⟩
      · refine ifT rfl ⟨_, rfl, (by show 1 ≤ sizeLine; decide), fun l hl => ?_⟩
        obtain ⟨p1, p2⟩ := pick (show Ge05.step g (.goto v) = (g, [-2]) from if_pos b)
        refine k _ F l rfl ?_ (Kept.of_same (same_new hl)) ?_ (off_none hl) (fg.notin hl)
        · rw [p1]
          exact fg.same (same_new hl)
        · rw [p2]
          exact upd_same
      · refine ifF rfl ?_
        obtain ⟨p1, p2⟩ := pick (show Ge05.step g (.goto v) = ({ g with now := ⟨v, 0⟩, fading := [] }, [0]) from if_neg b)
        obtain ⟨dx, hf⟩ := fg.fig
        refine ⟨_, rfl, pl, _, _, .int v, rfl, rfl, hpl, atI_nat rfl, _, rfl, F.a, C.fg, dx, _, rfl, hf, T.c_Figure, T.n_Figure_plays, fF_len, ?_⟩
        rw [fF_putPlays]
        refine ⟨_, rfl, F.a, C.fg, dx, _, rfl, upd_same, T.c_Figure, T.n_Figure_count, fF_len, ?_⟩
        rw [fF_putCount, upd_upd]
        have fg1 := fg.put (dx := dx) (p := v) (c := 0) (t := g.ticks)
        have kp1 : Kept F H F (upd H F.a (.ins C.fg dx (fF F v 0 g.ticks))) := fg.kput in_a
        refine ⟨Nat.zero_le _, fun d hd => ?_⟩
        have s2 := same_new (o := .lst []) hd
        refine ⟨_, rfl, F.a, C.fg, dx, _, rfl, s2 _ _ upd_same, T.c_Figure, T.n_Figure_fades, fF_len, ?_⟩
        rw [fF_putFades]
        have fg2 := fg1.fades (dx := dx) (p := v) (c := 0) (t := g.ticks) (fs := []) s2 hd (ps := []) upd_same .nil
        have kp2 := kept_lf (o := .ins C.fg dx (fF { F with lf := d } v 0 g.ticks)) fg1 s2 hd
        have kp := Kept.trans kp1 kp2
        refine ⟨(by show 1 ≤ sizeLine; decide), fun l hl => ?_⟩
        refine k _ { F with lf := d } l rfl ?_ (Kept.trans kp (Kept.of_same (same_new hl))) ?_ (kp.none hl) (fg2.notin hl)
        · rw [p1]
          exact fg2.same (same_new hl)
        · rw [p2, upd_same]
          rfl
    | _ => cases hx
theorem ok_now_answer (D : Def K mg "now_answer" s_now_answer ["figure", "plain", "row"]) (T : Txt K mg C) (cC : Cal P w K mg base 1 "clip_of" (spClipOf C)) (cO : Cal P w K mg base 1 "is_over" (spOver C)) (cP : Cal P w K mg base 1 "picture_at" (spPicture C)) : Cal P w K mg base 2 "now_answer" (spAns K C 9) := by
  refine cal_of D sc_now_answer (fun vs H Q E h => ?_) (fun f cdv A outer s H vs Q E hr h => ?_)
  · obtain ⟨F, g, x, pl, rw, rfl, _⟩ := h
    rfl
  · obtain ⟨F, g, x, pl, rw, rfl, hx, fg, wf, bd, h100, hpl, hrw, k⟩ := h
    refine ⟨_, pss_cons (ps_set (i := 3) sc_now_answer.nd rfl (Or.inl rfl) (pe_c cC hr (pa_cons (pv 0) (pa_cons (pe_fld (pv 0) rfl) pa_nil))))
      (pss_cons (ps_set (i := 4) sc_now_answer.nd rfl (Or.inl rfl) (pe_ifExp (pt_val (pe_c cO hr (pa_cons (pv 3) (pa_cons (pe_fld (pv 0) rfl) pa_nil)))) pe_int pe_int))
      (pss_one (ps_ret (pe_lst (pa_cons (pe_fld (pv 0) rfl) (pa_cons (pe_fld (pv 0) rfl) (pa_cons (pe_c cP hr (pa_cons (pv 3) (pa_cons (pe_fld (pv 0) rfl) pa_nil))) (pa_cons (pv 4) (pa_cons (pe_callB call_len_seq (by rfl) T.b_len PySem.boot_len (pa_cons (pe_fld (pv 0) rfl) pa_nil)) (pa_cons (pe_fld (pv 0) rfl) pa_nil)))))))))), ?_⟩
    cases x with
    | now =>
      obtain ⟨p1, p2⟩ := pick (step_now g)
      obtain ⟨dx, hf⟩ := fg.fig
      obtain ⟨ds, hd, pd⟩ := fg.fads
      have hdl : ds.length = g.fading.length := by rw [Paired.length pd, List.length_reverse]
      refine ⟨_, rfl, _, rfl, F.a, C.fg, dx, _, _, rfl, hf, T.c_Figure, T.n_Figure_plays, fF_plays, F, g, g.now.state, rfl, fg, wf.c, wf.now.1, fun p hp => ?_⟩
      have c1 := (wf.c.clip_ok wf.now.1).1
      refine ⟨_, rfl, _, rfl, F.a, C.fg, dx, _, _, rfl, hf, T.c_Figure, T.n_Figure_count, fF_count, p, _, _, rfl, hp.mono off_sub, c1, _, rfl, ?_⟩
      have fin : ∀ o : Nat, o = (if Ge05.isOver (Ge05.clipOf g g.now.state) g.now.at_ = true then 1 else 0) → ∀ l, H l = none → Q (.ref l) (upd H l (.lst [.int g.now.state, .int g.now.at_, .int (Ge05.picture (Ge05.clipOf g g.now.state) g.now.at_), .int o, .int (((ds.map V.ref).length : Nat) : Int), .int g.ticks])) := fun o eo l hl => by
        refine k _ F l rfl ?_ (Kept.of_same (same_new hl)) ?_ (off_none hl) (fg.notin hl)
        · rw [p1]
          exact fg.same (same_new hl)
        · rw [p2, zV_ints, upd_same, ← eo, List.length_map, hdl]
          rfl
      cases z : Ge05.isOver (Ge05.clipOf g g.now.state) g.now.at_ with
      | true =>
        refine ifT rfl ⟨_, rfl, F.a, C.fg, dx, _, _, rfl, hf, T.c_Figure, T.n_Figure_plays, fF_plays, _, rfl, F.a, C.fg, dx, _, _, rfl, hf, T.c_Figure, T.n_Figure_count, fF_count, _, rfl, _, rfl, F.a, C.fg, dx, _, _, rfl, hf, T.c_Figure, T.n_Figure_count, fF_count, p, _, _, rfl, hp.mono off_sub, c1, _, rfl, _, rfl, F.a, C.fg, dx, _, _, rfl, hf, T.c_Figure, T.n_Figure_fades, fF_fades, F.lf, _, rfl, .inl (SqL.of hd), _, rfl, F.a, C.fg, dx, _, _, rfl, hf, T.c_Figure, T.n_Figure_ticks, fF_ticks, (by show 6 ≤ sizeLine; decide), fin 1 (by rw [z]; rfl)⟩
      | false =>
        refine ifF rfl ⟨_, rfl, F.a, C.fg, dx, _, _, rfl, hf, T.c_Figure, T.n_Figure_plays, fF_plays, _, rfl, F.a, C.fg, dx, _, _, rfl, hf, T.c_Figure, T.n_Figure_count, fF_count, _, rfl, _, rfl, F.a, C.fg, dx, _, _, rfl, hf, T.c_Figure, T.n_Figure_count, fF_count, p, _, _, rfl, hp.mono off_sub, c1, _, rfl, _, rfl, F.a, C.fg, dx, _, _, rfl, hf, T.c_Figure, T.n_Figure_fades, fF_fades, F.lf, _, rfl, .inl (SqL.of hd), _, rfl, F.a, C.fg, dx, _, _, rfl, hf, T.c_Figure, T.n_Figure_ticks, fF_ticks, (by show 6 ≤ sizeLine; decide), fin 0 (by rw [z]; rfl)⟩
    | _ => cases hx
end
end FF
namespace FF
open PySem PySem.Spec PyProof.Rows L2
section
variable {P : Program} {w : World} {K : PySem.W.Frag} {mg : Str → Option Value} {base : Heap} {C : Cs}
theorem ok_values_answer (D : Def K mg "values_answer" s_values_answer ["figure", "plain", "row"]) (T : Txt K mg C) : Cal P w K mg base 1 "values_answer" (spAns K C 10) := by
  refine cal_of D sc_values_answer (fun vs H Q E h => ?_) (fun f cdv A outer s H vs Q E hr h => ?_)
  · obtain ⟨F, g, x, pl, rw, rfl, _⟩ := h
    rfl
  · obtain ⟨F, g, x, pl, rw, rfl, hx, fg, wf, bd, h100, hpl, hrw, k⟩ := h
    refine ⟨_, pss_one (ps_ret (pe_op op_cat (pe_op op_cat (pe_fld (pv 0) rfl) (pe_lst (pa_cons (pe_callB call_len_seq (by rfl) T.b_len PySem.boot_len (pa_cons (pe_fld (pv 0) rfl) pa_nil)) pa_nil))) (pe_fld (pv 0) rfl))), ?_⟩
    cases x with
    | values =>
      obtain ⟨p1, p2⟩ := pick (step_values g)
      obtain ⟨dx, hf⟩ := fg.fig
      have bs := bd.2
      refine ⟨_, rfl, F.a, C.fg, dx, _, _, rfl, hf, T.c_Figure, T.n_Figure_settings, fF_settings, _, rfl, F.a, C.fg, dx, _, _, rfl, hf, T.c_Figure, T.n_Figure_signals, fF_signals, F.lg, _, rfl, .inl (SqL.of fg.sigs), (by show 1 ≤ sizeLine; decide), fun l hl => ?_⟩
      have s1 := same_new (o := .lst [.int (((g.signals.map fun (n : Nat) => V.int n).length : Nat) : Int)]) hl
      refine ⟨F.lv, l, _, _, rfl, rfl, s1 _ _ fg.vals, upd_same, (by rw [List.length_map, List.length_range]; show 11 ≤ sizeLine; decide), fun d hd => ?_⟩
      have s2 := s1.trans (same_new (o := .lst (((List.range 10).map fun v => V.int (Ge05.valueOf g v)) ++ [.int (((g.signals.map fun (n : Nat) => V.int n).length : Nat) : Int)])) hd)
      refine ⟨_, rfl, F.a, C.fg, dx, _, _, rfl, s2 _ _ hf, T.c_Figure, T.n_Figure_signals, fF_signals, d, F.lg, _, _, rfl, rfl, upd_same, s2 _ _ fg.sigs, ?_, fun e he => ?_⟩
      · rw [List.length_append, List.length_map, List.length_map, List.length_range]
        exact Nat.le_trans (show 10 + 1 + g.signals.length ≤ 60 by omega) (by decide)
      · have s3 := s2.trans (same_new (o := .lst ((((List.range 10).map fun v => V.int (Ge05.valueOf g v)) ++ [.int (((g.signals.map fun (n : Nat) => V.int n).length : Nat) : Int)]) ++ g.signals.map fun (n : Nat) => V.int n)) he)
        refine k _ F e rfl ?_ (Kept.of_same s3) ?_ (off_none (s2.free he)) (fg.notin (s2.free he))
        · rw [p1]
          exact fg.same s3
        · rw [p2, zV_ints, upd_same, List.length_map, nV_app]
          unfold nV
          rw [List.map_map, List.append_assoc]
          rfl
    | _ => cases hx
theorem may_more {g : Ge05.House} {i : Nat} (b : Bool) (hb : mayN g i = b) : nV ((List.range (i + 1)).filter (mayN g)) = if b = true then nV ((List.range i).filter (mayN g)) ++ [V.int i] else nV ((List.range i).filter (mayN g)) := by
  rw [List.range_succ, List.filter_append]
  unfold nV
  cases b with
  | true => simp [List.filter, hb]
  | false => simp [List.filter, hb]
theorem ok_may_answer (D : Def K mg "may_answer" s_may_answer ["figure", "plain", "row"]) (T : Txt K mg C) (cM : Cal P w K mg base 3 "may_be_taken" (spMay C)) : Cal P w K mg base 4 "may_answer" (spAns K C 7) := by
  refine cal_of D sc_may_answer (fun vs H Q E h => ?_) (fun f cdv A outer s H vs Q E hr h => ?_)
  · obtain ⟨F, g, x, pl, rw, rfl, _⟩ := h
    rfl
  · obtain ⟨F, g, x, pl, rw, rfl, hx, fg, wf, bd, h100, hpl, hrw, k⟩ := h
    refine ⟨_, pss_cons (ps_setLc (i := 3) (own := [("number", 4)]) (g := gName 4) (tt := tB (tCl (spMay C) (tCons (tVar 0) (tCons (tOp (rIxL K) (tFld K (tVar 0) "ways") (tVar 4)) tNil)))) (te := tVar 4) (by rfl) sc_may_answer.nd rfl rfl (sw_true rfl rfl rfl (by decide +kernel))
        (pi_range1 (by rfl) T.b_range (pa_cons (pe_callB call_len_seq (by rfl) T.b_len PySem.boot_len (pa_cons (pe_fld (pv 0) rfl) pa_nil)) pa_nil))
        (blkOk_by (own := [("number", 4)]) (N := ["figure", "plain", "row", "ways", "number"]) (sc := defScope s_may_answer) (by decide +kernel))
        (fun _ _ _ _ _ => pg_name (i := 4) sc_may_answer.nd rfl (Or.inl rfl)) (fun _ _ _ _ _ => pts_one (pt_val (pe_c cM hr (pa_cons (pv 0) (pa_cons (pe_ix ix_list (pe_fld (pv 0) rfl) (pv 4) (fun _ _ => rfl)) pa_nil))))) (fun _ _ _ _ _ => pv 4))
      (pss_one (ps_ret (pe_op op_cat (pe_lst (pa_cons (pe_callB call_len_seq (by rfl) T.b_len PySem.boot_len (pa_cons (pv 3) pa_nil)) pa_nil)) (pv 3)))), ?_⟩
    cases x with
    | may =>
      obtain ⟨p1, p2⟩ := pick (step_may g)
      obtain ⟨dx, hf⟩ := fg.fig
      obtain ⟨ps, hw, pw⟩ := fg.ways
      have hlen : ps.length = g.ways.length := Paired.length pw
      have hwl := wf.wl
      refine ⟨_, rfl, F.a, C.fg, dx, _, _, rfl, hf, T.c_Figure, T.n_Figure_ways, fF_ways, F.lw, _, rfl, .inl (SqL.of hw), _, rfl, ?_, ?_, fun d hd => ?_⟩
      · omega
      · rw [List.length_map, hlen]
        omega
      rw [List.length_map, hlen, Int.toNat_natCast]
      refine lc_range (fun i H' => H' = upd H d (.lst (nV ((List.range i).filter (mayN g))))) rfl (fun i H' hi q => ?_) (fun H' q => ?_)
      · have sm : Same H H' := by
          rw [q]
          exact same_new hd
        obtain ⟨y, hy⟩ : ∃ y, g.ways[i]? = some y := ⟨_, List.getElem?_eq_getElem hi⟩
        obtain ⟨p, ep, hp⟩ := paired_get pw hy
        have em : mayN g i = Ge05.may g y := by
          unfold mayN
          rw [hy]
          rfl
        have e0 : (0 : Int) + (i : Nat) = ((i : Nat) : Int) := by omega
        refine ⟨rfl, _, rfl, _, rfl, F.a, C.fg, dx, _, _, rfl, sm _ _ hf, T.c_Figure, T.n_Figure_ways, fF_ways, _, rfl, F.lw, _, _, .ref p, rfl, rfl, SqL.of (sm _ _ hw), at_of e0 (by rw [List.getElem?_map, ep]; rfl), F, g, p, y, rfl, fg.same sm, wf, (hp.mono off_sub).mono sm, (wf.way y (mem_get hy)).2.2.2, _, rfl, ?_⟩
        rw [← em]
        cases z : mayN g i with
        | true =>
          refine ifT rfl ⟨_, rfl, _, by rw [q]; exact upd_same, ?_, ?_⟩
          · rw [nV_len]
            have a1 := List.length_filter_le (mayN g) (List.range i)
            rw [List.length_range] at a1
            exact Nat.lt_of_le_of_lt (show _ ≤ 16 by omega) (by decide)
          · rw [q, upd_upd, may_more true z, e0]
            rfl
        | false =>
          refine ifF rfl ?_
          rw [q, may_more false z]
          rfl
      · have sm : Same H H' := by
          rw [q]
          exact same_new hd
        have hD : H' d = some (.lst (nV ((List.range g.ways.length).filter (mayN g)))) := by rw [q]; exact upd_same
        have a1 := List.length_filter_le (mayN g) (List.range g.ways.length)
        rw [List.length_range] at a1
        refine ⟨_, rfl, d, _, rfl, .inl (SqL.of hD), (by show 1 ≤ sizeLine; decide), fun l hl => ?_⟩
        have s2 := sm.trans (same_new (o := .lst [.int (((nV ((List.range g.ways.length).filter (mayN g))).length : Nat) : Int)]) hl)
        refine ⟨_, rfl, l, d, _, _, rfl, rfl, upd_same, same_new hl _ _ hD, ?_, fun e he => ?_⟩
        · rw [nV_len]
          exact Nat.le_trans (show [_].length + ((List.range g.ways.length).filter (mayN g)).length ≤ 17 by rw [List.length_singleton]; omega) (by decide)
        · have s3 := s2.trans (same_new (o := .lst ([.int (((nV ((List.range g.ways.length).filter (mayN g))).length : Nat) : Int)] ++ nV ((List.range g.ways.length).filter (mayN g)))) he)
          refine k _ F e rfl ?_ (Kept.of_same s3) ?_ (off_none (s2.free he)) (fg.notin (s2.free he))
          · rw [p1]
            exact fg.same s3
          · rw [p2, zV_ints, upd_same, nV_len]
            rfl
    | _ => cases hx
end
end FF
namespace FF
open PySem PySem.Spec PyProof.Rows L2
/-! ### a list, extended by a tuple -/
theorem extend_tup (l : Addr) (items : Array Value) (n : Nat) (b : Addr) (items2 : Array Value) (n2 : Nat) (od : Option Addr) (sl : Array (Option Value)) (hs0 : ¬(!items.isEmpty && Builtin.List.listTooLong (items.size + items2.size)) = true) (hs1 : items.size ≤ sizeLine) (hs2 : items.size + items2.size ≤ sizeLine + 1) :
    Meets (Builtin.«list.extend» ⟨[.ref l, .ref b], []⟩) (fun _ R s => s.heap.get? l = some { cls := .type "list", dict := none, data := .seq items n, slots := #[] } ∧ s.heap.get? b = some { cls := .type "tuple", dict := od, data := .seq items2 n2, slots := sl } ∧ R (.ok (.ret Value.none)) { s with heap := s.heap.update l (Obj.mapSeq fun x => x ++ items2), toks := s.toks }) :=
  .of_wp fun prog wo ar R st hh => by
    obtain ⟨hp, gs, dr, tk, os⟩ := st
    obtain ⟨hL, hT, fin⟩ := hh
    have i1 := AutoSeq1.idx_int
    have i2 := AutoSeq1.sub_tuple_tuple
    have i3 := AutoSeq1.sub_list_list
    have i4 := AutoSeq1.sub_tuple_list
    have i5 := AutoSeq1.sub_list_tuple
    have room : (items ++ items2).size ≤ sizeLine + 1 := Array.size_append ▸ hs2
    wp_walk using (wpAny_updateSeq hL rfl (hz := hs1) (_hz' := room)), AutoSeq1.wpAny_loadPart' hL, AutoSeq1.wpAny_loadPart' hT
    exact ⟨_, rfl, fin⟩
section
variable {X : Cx}
def rExtendT (K : PySem.W.Frag) : V → List V → Hp → VK → Prop := fun x vs H Q => ∃ l b xs zs, x = .ref l ∧ vs = [.ref b] ∧ H l = some (.lst xs) ∧ SqT K H b zs ∧ xs.length + zs.length ≤ sizeLine ∧ Q .non (upd H l (.lst (xs ++ zs)))
theorem mt_extendT : MtM X "list.extend" (rExtendT X.K) := by
  intro pn st σ H x vs v us Q iv rx rv ⟨l, b, xs, zs, ex, ev, hL, hT, hz, fin⟩
  subst ex ev
  cases rx
  obtain ⟨u, eu, ru⟩ := rv.one
  subst eu
  cases ru
  obtain ⟨z, ys, n, vr, el, ob⟩ := iv.lstM hL
  obtain ⟨ys2, vr2, ⟨o, ob2, hc, n2, hd⟩, z2⟩ := iv.tuple hT
  have el2 := vr2.length
  obtain ⟨cls, od, data, sl⟩ := o
  cases hc
  cases hd
  have fits : ys.toArray.size + ys2.toArray.size ≤ sizeLine := by
    rw [List.size_toArray, List.size_toArray]
    omega
  have door : ¬ (!ys.toArray.isEmpty && Builtin.List.listTooLong (ys.toArray.size + ys2.toArray.size)) = true := by
    rw [notLongL fits, Bool.and_false]
    decide
  refine call_meets F.slot_list_extend ⟨_, ob, rfl⟩ F.entry_list_extend (F.args_list_extend_2 _ _) (extend_tup l ys.toArray n b ys2.toArray n2 od sl door (by rw [List.size_toArray]; omega) (by omega)) ⟨ob, ob2, .non, _, iv.lset (its' := ys ++ ys2) hL ob (by simp) (vr.append vr2) ?_, rfl, fin⟩
  exact List.length_append ▸ hz
end
section
variable {P : Program} {w : World} {K : PySem.W.Frag} {mg : Str → Option Value} {base : Heap} {C : Cs}
/-! ### shares.py -/
def spGcd : Sp := fun vs H Q _ => ∃ (a b : Nat), vs = [.int a, .int b] ∧ Q (.int (Nat.gcd a b)) H
theorem ok_common_divisor (D : Def K mg "common_divisor" s_common_divisor ["first", "second"]) (T : Txt K mg C) : Cal P w K mg base 1 "common_divisor" spGcd := by
  refine cal_of D sc_common_divisor (fun vs H Q E h => ?_) (fun f cdv A outer s H vs Q E hr h => ?_)
  · obtain ⟨a, b, rfl, _⟩ := h
    rfl
  · obtain ⟨a, b, rfl, k⟩ := h
    refine ⟨_, pss_cons (ps_while PassesOwn.never (pt_cmpR op_gt (pv 1) pe_int (nomark _))
        (pss_cons (ps_set (i := 2) sc_common_divisor.nd rfl (Or.inl rfl) (pe_op op_mod (pv 0) (pv 1)))
        (pss_cons (ps_set (i := 0) sc_common_divisor.nd rfl (Or.inl rfl) (pv 1))
        (pss_one (ps_set (i := 1) sc_common_divisor.nd rfl (Or.inl rfl) (pv 2))))))
      (pss_one (ps_ret (pv 0))), ?_⟩
    refine ⟨fun m σ H' => ∃ (x : Nat) (v : Option V), σ = [some (.int x), some (.int m), v] ∧ H' = H ∧ Nat.gcd x m = Nat.gcd a b, ⟨b, a, none, rfl, rfl, rfl⟩, ?_⟩
    rintro m σ H' ⟨x, v, rfl, rfl, e⟩
    refine ⟨_, rfl, _, _, rfl, rfl, _, rfl, ?_⟩
    by_cases z : m = 0
    · subst z
      refine ifF (by decide) ⟨_, rfl, ?_⟩
      rw [Nat.gcd_zero_right] at e
      rw [e]
      exact k
    · refine ifT (decide_eq_true (by omega)) ⟨fun σ' H2 => ∃ v, σ' = [some (.int m), some (.int ((x % m : Nat) : Int)), v] ∧ H2 = H', fun σ' H2 ⟨v', h1, h2⟩ => ⟨x % m, Nat.mod_lt _ (by omega), m, v', h1, h2, gcd_turn.trans e⟩, ?_⟩
      exact ⟨_, rfl, _, rfl, _, _, rfl, rfl, (by show (0 : Int) < (m : Int); omega), _, rfl, _, rfl, _, rfl, rfl⟩
def pV (s : Nat × Nat) : List V := [.int s.1, .int s.2]
def spLow : Sp := fun vs H Q _ => ∃ (a b : Nat), vs = [.int a, .int b] ∧ 0 < b ∧ b < 2 ^ 9000 ∧ ∀ t, H t = none → Q (.ref t) (upd H t (.tup (pV (Ge05.low a b))))
theorem ok_in_lowest_terms (D : Def K mg "in_lowest_terms" s_in_lowest_terms ["above", "below"]) (T : Txt K mg C) (cG : Cal P w K mg base 1 "common_divisor" spGcd) : Cal P w K mg base 2 "in_lowest_terms" spLow := by
  refine cal_of D sc_in_lowest_terms (fun vs H Q E h => ?_) (fun f cdv A outer s H vs Q E hr h => ?_)
  · obtain ⟨a, b, rfl, _⟩ := h
    rfl
  · obtain ⟨a, b, rfl, hb, hb2, k⟩ := h
    refine ⟨_, pss_cons (ps_set (i := 2) sc_in_lowest_terms.nd rfl (Or.inl rfl) (pe_c cG hr (pa_cons (pv 0) (pa_cons (pv 1) pa_nil))))
      (pss_one (ps_ret (pe_tup (pa_cons (pe_op op_fdivW (pv 0) (pv 2)) (pa_cons (pe_op op_fdivW (pv 1) (pv 2)) pa_nil))))), ?_⟩
    have g0 := Nat.gcd_pos_of_pos_right a hb
    have g1 := Nat.gcd_le_right a hb
    have cw : ∀ i : Int, CDivW i ((Nat.gcd a b : Nat) : Int) := fun i => wide_div (b := 9000) (by omega) (by rw [Int.natAbs_natCast]; exact Nat.lt_of_le_of_lt g1 hb2) (by decide) (by decide)
    refine ⟨_, rfl, _, rfl, a, b, rfl, _, rfl, _, rfl, _, _, rfl, rfl, cw _, _, rfl, _, rfl, _, _, rfl, rfl, cw _, (by show 2 ≤ sizeLine; decide), fun t ht => ?_⟩
    have q := k t ht
    rw [low_eq hb] at q
    exact q
end
end FF
namespace FF
open PySem PySem.Spec PyProof.Rows L2
section
variable {P : Program} {w : World} {K : PySem.W.Frag} {mg : Str → Option Value} {base : Heap} {C : Cs}
def spShares (C : Cs) : Sp := fun vs H Q _ => ∃ (F : Ft) (g : Ge05.House), vs = [.ref F.lf] ∧ FigAt C F H g ∧ Wf g ∧ ∀ H' l, NewTups H H' l ((parts g.fading.reverse 1 1).map pV) → Q (.ref l) H'
theorem ok_shares_of (D : Def K mg "shares_of" s_shares_of ["fades"]) (T : Txt K mg C) (cL : Cal P w K mg base 2 "in_lowest_terms" spLow) : Cal P w K mg base 3 "shares_of" (spShares C) := by
  refine cal_of D sc_shares_of (fun vs H Q E h => ?_) (fun f cdv A outer s H vs Q E hr h => ?_)
  · obtain ⟨F, g, rfl, _⟩ := h
    rfl
  · obtain ⟨F, g, rfl, fg, wf, k⟩ := h
    refine ⟨_, pss_cons (ps_set (i := 1) sc_shares_of.nd rfl (Or.inl rfl) (pe_lst pa_nil))
      (pss_cons (ps_set (i := 2) sc_shares_of.nd rfl (Or.inl rfl) (pe_tup (pa_cons pe_int (pa_cons pe_int pa_nil))))
      (pss_cons (ps_for PassesOwn.never rfl (pi_list (pv 0)) (pg_name (i := 3) sc_shares_of.nd rfl (Or.inl rfl))
        (pss_cons (ps_set (i := 4) sc_shares_of.nd rfl (Or.inl rfl) (pe_op op_mul (pe_ix ix_tup (pv 2) pe_int (fun _ _ => rfl)) (pe_fld (pv 3) rfl)))
        (pss_cons (ps_expr (pe_bm PySem.F.plainAttrs_list PySem.F.slot_list_append PySem.F.type_list_append mt_append (pv 1) (pa_cons (pe_c cL hr (pa_cons (pe_op op_mul (pe_ix ix_tup (pv 2) pe_int (fun _ _ => rfl)) (pe_fld (pv 3) rfl)) (pa_cons (pv 4) pa_nil))) pa_nil)))
        (pss_one (ps_set (i := 2) sc_shares_of.nd rfl (Or.inl rfl) (pe_c cL hr (pa_cons (pe_op op_mul (pe_ix ix_tup (pv 2) pe_int (fun _ _ => rfl)) (pe_op op_sub (pe_fld (pv 3) rfl) (pe_fld (pv 3) rfl))) (pa_cons (pv 4) pa_nil))))))))
      (pss_cons (ps_expr (pe_bm PySem.F.plainAttrs_list PySem.F.slot_list_append PySem.F.type_list_append mt_append (pv 1) (pa_cons (pv 2) pa_nil)))
      (pss_one (ps_ret (pv 1)))))), ?_⟩
    obtain ⟨ds, hd, pd⟩ := fg.fads
    have hlen : ds.length = g.fading.reverse.length := Paired.length pd
    have h50 := wf.few
    refine ⟨Nat.zero_le _, fun l hl => ?_⟩
    have s1 : Same H (upd H l (.lst [])) := same_new hl
    refine ⟨(by show 2 ≤ sizeLine; decide), fun q0 hq0 => ?_⟩
    have s2 := s1.trans (same_new (o := .tup [.int 1, .int 1]) hq0)
    have ql : l ≠ q0 := ne_of_none (upd_same (H := H) (a := l) (o := .lst [])) hq0
    refine ⟨_, rfl, F.lf, rfl, ⟨_, SqL.of (s2 _ _ hd)⟩, for_list (K := K) (a := F.lf) (xs := ds.map V.ref)
      (fun i σ H' => ∃ (q : Addr) (v3 v4 : Option V) (st : Nat × Nat) (out : List (Nat × Nat)) (ts : List Addr), σ = [some (.ref F.lf), some (.ref l), some (.ref q), v3, v4] ∧ Same H H' ∧ H q = none ∧ H' q = some (.tup (pV st)) ∧ Part g.fading.reverse i out st ∧
        (∀ t ∈ ts, H t = none) ∧ H' l = some (.lst (ts.map V.ref)) ∧ Paired (fun t x => H' t = some (.tup x)) ts (out.map pV) ∧ out.length = i)
      ⟨q0, none, none, (1, 1), [], [], rfl, s2, s1.free hq0, upd_same, Part.start _, (fun t h => by cases h), (upd_ne ql).trans upd_same, .nil, rfl⟩ (fun i σ H' _ ⟨_, _, _, _, _, _, _, sm, _⟩ => SqL.of (sm _ _ hd)) ?_ ?_⟩
    · rintro i x σ H' hi ⟨q, v3, v4, st, out, ts, rfl, sm, hq0', hq, pt, hts, hL, pp, eo⟩
      obtain ⟨b, hb, rfl⟩ := map_get hi
      obtain ⟨y, hy, ⟨db, hbb⟩⟩ := paired_getL pd hb
      have hbH : H' b = _ := sm _ _ (off_sub _ _ hbb)
      obtain ⟨y1, y2, y3, y4⟩ := wf.fad y (List.mem_reverse.mp (mem_get hy))
      have hil := lt_get hb
      rw [hlen, List.length_reverse] at hil
      have pos := Nat.mul_pos pt.pos (show 0 < y.2.1 by omega)
      have sma := pt.small (by omega) y4
      refine ⟨_, rfl, q, _, _, .int st.2, rfl, rfl, SqT.of hq, rfl, _, rfl, b, C.fd, db, _, _, rfl, hbH, T.c_Fade, T.n_Fade_takes, dF_takes, _, _, rfl, rfl, .inr ⟨by omega, by omega⟩, ?_⟩
      refine ⟨_, rfl, .inl ⟨rfl, _, SqL.of hL⟩, _, rfl, q, _, _, .int st.1, rfl, rfl, SqT.of hq, rfl, _, rfl, b, C.fd, db, _, _, rfl, hbH, T.c_Fade, T.n_Fade_had, dF_had, _, _, rfl, rfl, .inr ⟨by omega, by omega⟩, _, rfl, st.1 * y.2.2, st.2 * y.2.1, rfl, pos, sma, fun t1 ht1 => ?_⟩
      have sa := same_new (o := .tup (pV (Ge05.low (st.1 * y.2.2) (st.2 * y.2.1)))) ht1
      have tl : t1 ≠ l := fun e => by
        rw [e, hL] at ht1
        cases ht1
      have keep : ∀ a o, H' a = some o → a ≠ l → upd (upd H' t1 (.tup (pV (Ge05.low (st.1 * y.2.2) (st.2 * y.2.1))))) l (.lst (ts.map V.ref ++ [.ref t1])) a = some o := fun a o e n => by
        rw [upd_ne n]
        exact sa _ _ e
      refine ⟨l, _, _, rfl, rfl, sa _ _ hL, ?_, ?_⟩
      · rw [List.length_map, Paired.length pp, List.length_map, eo]
        exact Nat.lt_of_le_of_lt (show i ≤ 50 by omega) (by decide)
      have hlo : ∀ a o, H a = some o → a ≠ l := fun a o e => ne_of_none e hl
      have hq2 := keep q _ hq (ne_of hq hL (by intro z; cases z))
      have hb2 := keep b _ hbH (ne_of hbH hL (by intro z; cases z))
      refine ⟨_, rfl, q, _, _, .int st.1, rfl, rfl, SqT.of hq2, rfl, _, rfl, b, C.fd, db, _, _, rfl, hb2, T.c_Fade, T.n_Fade_takes, dF_takes, _, rfl, b, C.fd, db, _, _, rfl, hb2, T.c_Fade, T.n_Fade_had, dF_had, _, _, rfl, rfl, _, _, rfl, rfl, .inr ⟨by omega, by omega⟩, _, rfl, st.1 * (y.2.1 - y.2.2), st.2 * y.2.1, ?_, pos, sma, fun t2 ht2 => ?_⟩
      · rw [← Int.ofNat_sub (Nat.le_of_lt y3)]
        rfl
      have t2l : t2 ≠ l := fun e => by
        rw [e, upd_same] at ht2
        cases ht2
      have sb := same_new (o := .tup (pV (Ge05.low (st.1 * (y.2.1 - y.2.2)) (st.2 * y.2.1)))) ht2
      have sm2 : Same H (upd (upd H' t1 (.tup (pV (Ge05.low (st.1 * y.2.2) (st.2 * y.2.1))))) l (.lst (ts.map V.ref ++ [.ref t1]))) := fun a o e => keep a o (sm _ _ e) (hlo _ _ e)
      refine ⟨t2, _, _, _, _, ts ++ [t1], rfl, sm2.trans sb, sm2.free ht2, upd_same, pt.step hy y3 y4, fun u hu => ?_, ?_, ?_, ?_⟩
      · rcases List.mem_append.mp hu with hu | hu
        · exact hts u hu
        · obtain rfl : u = t1 := by simpa using hu
          exact sm.free ht1
      · rw [upd_ne (Ne.symm t2l), upd_same, List.map_append]
        rfl
      · rw [List.map_append]
        refine Paired.snoc (Paired.mapP pp fun a o e => sb _ _ (keep a _ e (ne_of e hL (by intro z; cases z)))) (sb _ _ ?_)
        rw [upd_ne tl, upd_same]
      · rw [List.length_append, eo]
        rfl
    · rintro σ H' ⟨q, v3, v4, st, out, ts, rfl, sm, hq0', hq, pt, hts, hL, pp, eo⟩
      rw [List.length_map, hlen] at pt eo
      have ef := pt.fin
      rw [List.length_reverse] at eo
      refine ⟨_, rfl, .inl ⟨rfl, _, SqL.of hL⟩, _, rfl, l, _, _, rfl, rfl, hL, ?_, ?_⟩
      · rw [List.length_map, Paired.length pp, List.length_map, eo]
        exact Nat.lt_of_le_of_lt (show g.fading.length ≤ 50 by omega) (by decide)
      have keep : ∀ a o, H' a = some o → a ≠ l → upd H' l (.lst (ts.map V.ref ++ [.ref q])) a = some o := fun a o e n => (upd_ne n).trans e
      refine ⟨_, rfl, k _ l ⟨fun a o e => keep a o (sm _ _ e) (ne_of_none e hl), hl, ts ++ [q], fun u hu => ?_, by rw [upd_same, List.map_append]; rfl, ?_⟩⟩
      · rcases List.mem_append.mp hu with hu | hu
        · exact hts u hu
        · obtain rfl : u = q := by simpa using hu
          exact hq0'
      · rw [ef, List.map_append]
        exact Paired.snoc (Paired.mapP pp fun a o e => keep a _ e (ne_of e hL (by intro z; cases z))) (keep q _ hq (ne_of hq hL (by intro z; cases z)))
end
end FF
namespace FF
open PySem PySem.Spec PyProof.Rows L2
section
variable {P : Program} {w : World} {K : PySem.W.Frag} {mg : Str → Option Value} {base : Heap} {C : Cs}
def sV (p : Ge05.Play) : List V := [.int p.state, .int p.at_]
theorem tups_get {α : Type} {H : Hp} {ts : List Addr} {f : α → List V} {l : List α} (pt : Paired (fun t x => H t = some (.tup x)) ts (l.map f)) {i : Nat} {x : α} (h : l[i]? = some x) : ∃ t, (ts.map V.ref)[i]? = some (.ref t) ∧ H t = some (.tup (f x)) := by
  obtain ⟨t, e, q⟩ := paired_get pt (show (l.map f)[i]? = some (f x) by rw [List.getElem?_map, h]; rfl)
  exact ⟨t, by rw [List.getElem?_map, e]; rfl, q⟩
theorem seen_state {g : Ge05.House} (wf : Wf g) {p : Ge05.Play} (h : p ∈ seen g) : p.state < g.states.length := by
  unfold seen at h
  rcases List.mem_cons.mp h with h | h
  · rw [h]
    exact wf.now.1
  · obtain ⟨x, hx, rfl⟩ := List.mem_map.mp h
    exact (wf.fad x (List.mem_reverse.mp hx)).1
theorem row_more {g : Ge05.House} {i n : Nat} {x : Nat × Nat × Nat × Nat} (h : (Ge05.shown g)[i]? = some x) : nV (n :: ((Ge05.shown g).take (i + 1)).flatMap row4) = nV (n :: ((Ge05.shown g).take i).flatMap row4) ++ nV (row4 x) := by
  rw [take_more h, List.flatMap_append, ← nV_app]
  simp
theorem ok_shown_answer (D : Def K mg "shown_answer" s_shown_answer ["figure", "plain", "row"]) (T : Txt K mg C) (cS : Cal P w K mg base 3 "shares_of" (spShares C)) (cC : Cal P w K mg base 1 "clip_of" (spClipOf C)) (cP : Cal P w K mg base 1 "picture_at" (spPicture C)) : Cal P w K mg base 4 "shown_answer" (spAns K C 6) := by
  refine cal_of D sc_shown_answer (fun vs H Q E h => ?_) (fun f cdv A outer s H vs Q E hr h => ?_)
  · obtain ⟨F, g, x, pl, rw, rfl, _⟩ := h
    rfl
  · obtain ⟨F, g, x, pl, rw, rfl, hx, fg, wf, bd, h100, hpl, hrw, k⟩ := h
    refine ⟨_, pss_cons (ps_set (i := 3) sc_shown_answer.nd rfl (Or.inl rfl) (pe_op op_cat (pe_lst (pa_cons (pe_tup (pa_cons (pe_fld (pv 0) rfl) (pa_cons (pe_fld (pv 0) rfl) pa_nil))) pa_nil))
        (pe_lc (own := [("fade", 8)]) (g := gName 8) (tt := tYes) (te := tTup (tCons (tFld K (tVar 8) "state") (tCons (tFld K (tVar 8) "count") tNil))) (by rfl) sc_shown_answer.nd (pi_list (pe_fld (pv 0) rfl)) (blkOk_by (own := [("fade", 8)]) (N := ["figure", "plain", "row", "shown", "shares", "told", "place", "state", "fade"]) (sc := defScope s_shown_answer) (by decide +kernel))
          (fun _ _ _ _ _ => pg_name (i := 8) sc_shown_answer.nd rfl (Or.inl rfl)) (fun _ _ _ _ _ => pts_nil) (fun _ _ _ _ _ => pe_tup (pa_cons (pe_fld (pv 8) rfl) (pa_cons (pe_fld (pv 8) rfl) pa_nil))))))
      (pss_cons (ps_set (i := 4) sc_shown_answer.nd rfl (Or.inl rfl) (pe_c cS hr (pa_cons (pe_fld (pv 0) rfl) pa_nil)))
      (pss_cons (ps_set (i := 5) sc_shown_answer.nd rfl (Or.inl rfl) (pe_lst (pa_cons (pe_callB call_len_seq (by rfl) T.b_len PySem.boot_len (pa_cons (pv 3) pa_nil)) pa_nil)))
      (pss_cons (ps_for PassesOwn.never rfl (pi_range1 (by rfl) T.b_range (pa_cons (pe_callB call_len_seq (by rfl) T.b_len PySem.boot_len (pa_cons (pv 3) pa_nil)) pa_nil)) (pg_name (i := 6) sc_shown_answer.nd rfl (Or.inl rfl))
        (pss_cons (ps_set (i := 7) sc_shown_answer.nd rfl (Or.inl rfl) (pe_ix ix_tup (pe_ix ix_list (pv 3) (pv 6) (fun _ _ => rfl)) pe_int (fun _ _ => rfl)))
        (pss_cons (ps_expr (pe_bm PySem.F.plainAttrs_list PySem.F.slot_list_extend PySem.F.type_list_extend mt_extend (pv 5) (pa_cons (pe_lst (pa_cons (pv 7) (pa_cons (pe_c cP hr (pa_cons (pe_c cC hr (pa_cons (pv 0) (pa_cons (pv 7) pa_nil))) (pa_cons (pe_ix ix_tup (pe_ix ix_list (pv 3) (pv 6) (fun _ _ => rfl)) pe_int (fun _ _ => rfl)) pa_nil))) pa_nil))) pa_nil)))
        (pss_one (ps_expr (pe_bm PySem.F.plainAttrs_list PySem.F.slot_list_extend PySem.F.type_list_extend mt_extendT (pv 5) (pa_cons (pe_ix ix_list (pv 4) (pv 6) (fun _ _ => rfl)) pa_nil)))))))
      (pss_one (ps_ret (pv 5)))))), ?_⟩
    cases x with
    | shown =>
      obtain ⟨p1, p2⟩ := pick (step_shown g)
      obtain ⟨dx, hf⟩ := fg.fig
      obtain ⟨ds, hd, pd⟩ := fg.fads
      have hlen : ds.length = g.fading.reverse.length := Paired.length pd
      have h50 := wf.few
      -- shown
      refine ⟨_, rfl, F.a, C.fg, dx, _, _, rfl, hf, T.c_Figure, T.n_Figure_plays, fF_plays, _, rfl, F.a, C.fg, dx, _, _, rfl, hf, T.c_Figure, T.n_Figure_count, fF_count, (by show 2 ≤ sizeLine; decide), fun t0 ht0 => ⟨(by show 1 ≤ sizeLine; decide), fun l0 hl0 => ?_⟩⟩
      have sa := same_new (o := .tup (sV g.now)) ht0
      have sb := sa.trans (same_new (o := .lst [.ref t0]) hl0)
      obtain ⟨Hb, eHb⟩ : ∃ Hb, Hb = upd (upd H t0 (.tup (sV g.now))) l0 (.lst [.ref t0]) := ⟨_, rfl⟩
      have ht0b : Hb t0 = some (.tup (sV g.now)) := by rw [eHb]; exact same_new hl0 _ _ upd_same
      have hl0b : Hb l0 = some (.lst [.ref t0]) := by rw [eHb]; exact upd_same
      have sb : Same H Hb := by rw [eHb]; exact sb
      show tLc _ _ _ _ _ _ (upd (upd H t0 (.tup (sV g.now))) l0 (.lst [.ref t0])) _
      rw [← eHb]
      clear eHb sa
      refine ⟨_, rfl, F.a, C.fg, dx, _, _, rfl, sb _ _ hf, T.c_Figure, T.n_Figure_fades, fF_fades, F.lf, rfl, ⟨_, SqL.of (sb _ _ hd)⟩, fun d hd0 => ?_⟩
      refine lc_list (K := K) (a := F.lf) (xs := ds.map V.ref) (fun i H' => Same Hb H' ∧ ∃ ts : List Addr, H' d = some (.lst (ts.map V.ref)) ∧ Paired (fun t x => H' t = some (.tup x)) ts ((g.fading.reverse.take i).map fun x => sV x.1)) ⟨same_new hd0, [], upd_same, .nil⟩ (fun i H' _ q => SqL.of (q.1 _ _ (sb _ _ hd))) (fun i x H' hi q => ?_) (fun H1 q => ?_)
      · obtain ⟨sm, ts, hD, pp⟩ := q
        obtain ⟨b, hb, rfl⟩ := map_get hi
        obtain ⟨y, hy, ⟨db, hbb⟩⟩ := paired_getL pd hb
        have hbH : H' b = _ := sm _ _ (sb _ _ (off_sub _ _ hbb))
        have hil := lt_get hb
        rw [hlen, List.length_reverse] at hil
        refine ⟨rfl, _, rfl, b, C.fd, db, _, _, rfl, hbH, T.c_Fade, T.n_Fade_state, dF_state, _, rfl, b, C.fd, db, _, _, rfl, hbH, T.c_Fade, T.n_Fade_count, dF_count, (by show 2 ≤ sizeLine; decide), fun t ht => ⟨_, same_new ht _ _ hD, ?_, ?_⟩⟩
        · have hl : ts.length ≤ i := by
            rw [Paired.length pp, List.length_map, List.length_take]
            exact Nat.min_le_left _ _
          rw [List.length_map]
          exact Nat.lt_of_le_of_lt (show ts.length ≤ 50 by omega) (by decide)
        · have tD : t ≠ d := fun e => by
            rw [e, hD] at ht
            cases ht
          have keep : ∀ a o, H' a = some o → a ≠ d → upd (upd H' t (.tup (sV y.1))) d (.lst (ts.map V.ref ++ [.ref t])) a = some o := fun a o e n => by
            rw [upd_ne n]
            exact same_new ht _ _ e
          refine ⟨fun a o e => keep a o (sm _ _ e) (ne_of_none e hd0), ts ++ [t], by rw [upd_same, List.map_append]; rfl, ?_⟩
          rw [take_more hy, List.map_append]
          refine Paired.snoc (Paired.mapP pp fun a o e => keep a _ e (ne_of e hD (by intro z; cases z))) ?_
          rw [upd_ne tD, upd_same]
          rfl
      obtain ⟨sm, ts, hD, pp⟩ := q
      rw [List.length_map, hlen, List.take_length] at pp
      have htl : ts.length = g.fading.length := by rw [Paired.length pp, List.length_map, List.length_reverse]
      refine ⟨l0, d, _, _, rfl, rfl, sm _ _ hl0b, hD, ?_, fun e he => ?_⟩
      · rw [List.length_map, htl]
        exact Nat.le_trans (show [V.ref t0].length + g.fading.length ≤ 51 by rw [List.length_singleton]; omega) (by decide)
      have s1 : Same H (upd H1 e (.lst ([.ref t0] ++ ts.map V.ref))) := (sb.trans sm).trans (same_new he)
      have hE : upd H1 e (.lst ([.ref t0] ++ ts.map V.ref)) e = some (.lst ((t0 :: ts).map V.ref)) := upd_same
      have pE : Paired (fun t x => upd H1 e (.lst ([.ref t0] ++ ts.map V.ref)) t = some (.tup x)) (t0 :: ts) ((seen g).map sV) := by
        unfold seen
        rw [List.map_cons, List.map_map]
        exact .cons (same_new he _ _ (sm _ _ ht0b)) (Paired.mapP pp fun a o z => same_new he _ _ z)
      obtain ⟨H2, eH2⟩ : ∃ H2, H2 = upd H1 e (.lst ([.ref t0] ++ ts.map V.ref)) := ⟨_, rfl⟩
      rw [← eH2] at s1 hE pE ⊢
      clear eH2 pp hD sm hd0 ht0b hl0b
      -- shares
      refine ⟨_, rfl, F.a, C.fg, dx, _, _, rfl, s1 _ _ hf, T.c_Figure, T.n_Figure_fades, fF_fades, F, g, rfl, fg.same s1, wf, fun H3 l3 nt => ?_⟩
      obtain ⟨s2, _, us, _, hS, pS⟩ := nt
      have hE3 := s2 _ _ hE
      have pE3 := Paired.mapP pE fun a o z => s2 a _ z
      have s3 := s1.trans s2
      have fg3 := fg.same s3
      have hsl : (t0 :: ts).length = (Ge05.shown g).length := by rw [List.length_cons, htl, shown_len]
      have hsn := shown_len g
      -- told
      refine ⟨_, rfl, e, _, rfl, .inl (SqL.of hE3), (by show 1 ≤ sizeLine; decide), fun m hm => ?_⟩
      rw [List.length_map, hsl]
      have sm := same_new (o := .lst [.int (((Ge05.shown g).length : Nat) : Int)]) hm
      refine ⟨_, rfl, e, _, rfl, .inl (SqL.of (sm _ _ hE3)), _, rfl, ?_, ?_, ?_⟩
      · omega
      · rw [List.length_map, hsl]
        omega
      rw [List.length_map, hsl, Int.toNat_natCast]
      refine for_range (lo := 0) (fun i σ H' => (∃ v6 v7, σ = [some (.ref F.a), some (.ref pl), some (.ref rw), some (.ref e), some (.ref l3), some (.ref m), v6, v7, none]) ∧ Same H3 H' ∧ H' m = some (.lst (nV ((Ge05.shown g).length :: ((Ge05.shown g).take i).flatMap row4))))
        ⟨⟨none, none, rfl⟩, sm, upd_same⟩ ?_ ?_
      · rintro i σ H' hi ⟨⟨v6, v7, rfl⟩, sm, hL⟩
        have hi1 : i < (seen g).length := by rw [seen_len]; omega
        have hi2 : i < (parts g.fading.reverse 1 1).length := by rw [parts_len, List.length_reverse]; omega
        obtain ⟨p, hp⟩ : ∃ p, (seen g)[i]? = some p := ⟨_, List.getElem?_eq_getElem hi1⟩
        obtain ⟨st, hst⟩ : ∃ st, (parts g.fading.reverse 1 1)[i]? = some st := ⟨_, List.getElem?_eq_getElem hi2⟩
        have hsh := shown_get hp hst
        obtain ⟨t, et, ht⟩ := tups_get pE3 hp
        obtain ⟨u, eu, hu⟩ := tups_get pS hst
        have hps := seen_state wf (mem_get hp)
        have c1 := (wf.c.clip_ok hps).1
        have e0 : (0 : Int) + (i : Nat) = ((i : Nat) : Int) := by omega
        have hE' := SqL.of (K := K) (sm _ _ hE3)
        have ht' := SqT.of (K := K) (sm _ _ ht)
        have tl := row4_len ((Ge05.shown g).take i)
        rw [List.length_take] at tl
        refine ⟨_, rfl, _, rfl, e, _, _, .ref t, rfl, rfl, hE', at_of e0 et, t, _, _, .int p.state, rfl, rfl, ht', rfl, ?_⟩
        refine ⟨_, rfl, .inl ⟨rfl, _, SqL.of hL⟩, _, rfl, _, rfl, _, rfl, F, g, p.state, rfl, fg3.same sm, wf.c, hps, fun q hq => ?_⟩
        refine ⟨_, rfl, _, rfl, e, _, _, .ref t, rfl, rfl, hE', at_of e0 et, t, _, _, .int p.at_, rfl, rfl, ht', rfl, q, _, p.at_, rfl, hq.mono off_sub, c1, (by show 2 ≤ sizeLine; decide), fun a ha => ?_⟩
        refine ⟨m, a, _, _, rfl, rfl, same_new ha _ _ hL, upd_same, ?_, ?_⟩
        · rw [nV_len, List.length_cons]
          exact Nat.le_trans (show (((Ge05.shown g).take i).flatMap row4).length + 1 + 2 ≤ 1000 by omega) (by decide)
        have sa := sm.trans (same_new (o := .lst [.int p.state, .int (Ge05.picture (Ge05.clipOf g p.state) p.at_)]) ha)
        have keep : ∀ b o v, H3 b = some o → upd (upd H' a (.lst [.int p.state, .int (Ge05.picture (Ge05.clipOf g p.state) p.at_)])) m v b = some o := fun b o v z => by
          rw [upd_ne (ne_of_none z hm)]
          exact sa _ _ z
        refine ⟨_, rfl, .inl ⟨rfl, _, SqL.of upd_same⟩, _, rfl, _, rfl, l3, _, _, .ref u, rfl, rfl, SqL.of (keep _ _ _ hS), at_of e0 eu, m, u, _, _, rfl, rfl, upd_same, SqT.of (keep _ _ _ hu), ?_, ?_⟩
        · rw [List.length_append, nV_len, List.length_cons]
          exact Nat.le_trans (show (((Ge05.shown g).take i).flatMap row4).length + 1 + 2 + 2 ≤ 1000 by omega) (by decide)
        rw [upd_upd]
        refine ⟨⟨_, _, rfl⟩, fun b o z => keep b o _ z, ?_⟩
        rw [upd_same, row_more hsh, List.append_assoc]
        rfl
      · rintro σ H' ⟨⟨v6, v7, rfl⟩, sm, hL⟩
        rw [List.take_length] at hL
        have sf := s3.trans sm
        refine ⟨_, rfl, k _ F m rfl ?_ (Kept.of_same sf) ?_ (off_none (s3.free hm)) (fg.notin (s3.free hm))⟩
        · rw [p1]
          exact fg.same sf
        · rw [p2, zV_ints]
          exact hL
    | _ => cases hx
end
end FF
namespace FF
open PySem PySem.Spec PyProof.Rows L2
section
variable {P : Program} {w : World} {K : PySem.W.Frag} {mg : Str → Option Value} {base : Heap} {C : Cs}
/-- how many calls the tables know -/
def known : Nat := 11
def plainT : List V := [.int 2, .int 2, .int 3, .int 2, .int 1, .int 1, .int 0, .int 0, .int 1, .int 0, .int 0]
def rowT : List V := [.bl true, .bl false, .bl true, .bl false, .bl false, .bl false, .bl false, .bl false, .bl false, .bl false, .bl false]
theorem plain_at {x : Ge05.Call} (h : numOf x < known) : plainT[numOf x]? = some (.int (plainOf x).length) := by
  cases x with
  | _ => rfl
theorem row_at {x : Ge05.Call} (h : numOf x < known) : rowT[numOf x]? = some (.bl (hasRow x)) := by
  cases x with
  | _ => rfl
theorem all_known (x : Ge05.Call) : numOf x < known := by
  cases x <;> simp [numOf, known]
def spAnswers (K : PySem.W.Frag) : Sp := fun vs H Q _ => ∃ (a : Addr) (xs : List Ge05.Call), vs = [.ref a] ∧ SqL K H a (nV (xs.flatMap encN)) ∧ xs.length ≤ 40 ∧ (∀ x ∈ xs, (rowOf x).length ≤ 100 ∧ numOf x < known) ∧ (run Ge05.init xs).length ≤ 10000000 ∧
  ∀ H' l, H' l = some (.lst (zV (run Ge05.init xs))) → Q (.ref l) H'
theorem ans_end {F : Ft} {g : Ge05.House} {c : Ge05.Call} {done rest : List Ge05.Call} {out : List Int} {a x d pc q rr : Addr} {fs : List Addr} {z e5 : Int} {v8 v9 : Option V} {H : Hp} {D : Ends} (T : Txt K mg C) (hqc : ∀ H : Hp, SqT K H pc (fs.map V.ref)) (hfs : ∀ n, n < known → ∃ f, fs[n]? = some f) (hn : numOf c < known) (h100 : (rowOf c).length ≤ 100) (eFa : F.a = x) (hdx : d ∈ F.x) (wf : Wf g) (bd : Bd 40 g) (fg : FigAt C F H g)
    (ro : RdOnly K F H a (nV (done.flatMap encN ++ (encN c ++ rest.flatMap encN)))) (hgv : H d = some (.lst (zV out))) (hpl : SqL K H q (nV (plainOf c))) (hrw : SqL K H rr (nV (rowOf c))) (big : out.length + 1 + (Ge05.step g c).2.length ≤ 10000000) (he : e5 = (((done ++ [c]).flatMap encN).length : Int))
    (k : ∀ (σ' : L2.St) (H2 : Hp) (F2 : Ft) (w3 : Option V), F2.a = x → F2.x = F.x → FigAt C F2 H2 (Ge05.step g c).1 → RdOnly K F2 H2 a (nV (done.flatMap encN ++ (encN c ++ rest.flatMap encN))) → H2 d = some (.lst (zV (out ++ ((Ge05.step g c).2.length : Int) :: (Ge05.step g c).2))) →
      σ' = [some (.ref a), some (.ref x), some (.ref d), some (.int (((done ++ [c]).flatMap encN).length : Int)), some (.int (numOf c)), some (.int e5), some (.ref q), some (.ref rr), v8, w3] → D.nx σ' H2) :
    tSeq (tAsg (tCallE (fun f sp => ∃ n, n < known ∧ fs[n]? = some f ∧ sp = spAns K C n) (tOp (rIxT K) (tC (.ref pc)) (tVar 4)) (tCons (tVar 1) (tCons (tVar 6) (tCons (tVar 7) tNil)))) (gName 9))
      (tSeq (tDrop (tBM K "list" rAppend (tVar 2) (tCons (tCB (fun xs H Q => ∃ p ys, xs = [.ref p] ∧ (SqL K H p ys ∨ SqT K H p ys) ∧ Q (.int ys.length) H) (tCons (tVar 9) tNil)) tNil)))
      (tSeq (tDrop (tBM K "list" rExtend (tVar 2) (tCons (tVar 9) tNil))) (tAsg (tVar 5) (gName 3)))) D [some (.ref a), some (.ref x), some (.ref d), some (.int z), some (.int (numOf c)), some (.int e5), some (.ref q), some (.ref rr), v8, v9] H := by
  subst eFa
  obtain ⟨f, hf⟩ := hfs (numOf c) hn
  refine ⟨_, rfl, pc, _, _, .ref f, rfl, rfl, hqc H, atI_nat (by rw [List.getElem?_map, hf]; rfl), f, _, rfl, ⟨numOf c, hn, hf, rfl⟩, ?_⟩
  refine ⟨_, rfl, _, rfl, _, rfl, F, g, c, q, rr, rfl, rfl, fg, wf, bd, h100, hpl, hrw, fun H2 F2 l ea2 fg2 kp2 hl _ hln => ?_⟩
  have hdx2 : d ∈ F2.x := kp2.ex.symm ▸ hdx
  have hgv2 := kp2.own d hdx _ hgv
  have hld : l ≠ d := fun e => hln (e ▸ mem_x hdx2)
  refine ⟨_, rfl, .inl ⟨rfl, _, SqL.of hgv2⟩, _, rfl, l, _, rfl, .inl (SqL.of hl), d, _, _, rfl, rfl, hgv2, ?_, ?_⟩
  · unfold zV
    rw [List.length_map]
    exact Nat.lt_of_le_of_lt (show out.length ≤ 10000000 by omega) (by decide)
  refine ⟨_, rfl, .inl ⟨rfl, _, SqL.of upd_same⟩, _, rfl, d, l, _, _, rfl, rfl, upd_same, (upd_ne hld).trans hl, ?_, ?_⟩
  · unfold zV
    rw [List.length_append, List.length_map, List.length_map]
    exact Nat.le_trans (show out.length + 1 + (Ge05.step g c).2.length ≤ 10000000 by omega) (by decide)
  rw [upd_upd]
  refine ⟨_, rfl, k _ _ F2 _ ea2 kp2.ex (fg2.write hdx2) ((ro.kept kp2).write hdx2) ?_ (by rw [← he]; rfl)⟩
  rw [upd_same]
  unfold zV
  simp
theorem ok_answers {f0 : Addr} {fd0 : FuncData} (F0 : Fun K "answers" "answers" s_answers f0 fd0) (T : Txt K mg C) (cF : Mak P w K mg base 3 "Figure" C.fg (spIFigure C)) (tb : ∃ (pc : Addr) (fs : List Addr), mg "CALL_ANSWERS" = some (.ref pc) ∧ (∀ H : Hp, SqT K H pc (fs.map V.ref)) ∧
    ∀ n, n < known → ∃ f, fs[n]? = some f ∧ ∃ (j : Nat) (fd : FuncData) (ps : List Str), j ≤ 6 ∧ FnOk P w K mg base CX0 j f fd ps (spAns K C n) ∧ PySem.W.keepIn K (.ref f) = true ∧ Binds K fd ps []) : FnOk P w K mg base CX0 7 f0 fd0 ["calls"] (spAnswers K) := by
  refine F0.ok sc_answers (fun vs H Q E h => ?_) (fun cdv A outer s H vs Q E hr h => ?_)
  · obtain ⟨a, xs, rfl, _⟩ := h
    rfl
  · obtain ⟨a, xs, rfl, hS, h40, hok, hbig, k⟩ := h
    obtain ⟨pp, hmp, hqp⟩ := T.k_PLAIN_NUMBERS
    obtain ⟨pr, hmr, hqr⟩ := T.k_HAS_ROW
    obtain ⟨pc, fs, hmc, hqc, hfs⟩ := tb
    refine ⟨_, pss_cons (ps_set (i := 1) sc_answers.nd rfl (Or.inl rfl) (pe_mk0 cF hr))
      (pss_cons (ps_set (i := 2) sc_answers.nd rfl (Or.inl rfl) (pe_lst pa_nil))
      (pss_cons (ps_set (i := 3) sc_answers.nd rfl (Or.inl rfl) pe_int)
      (pss_cons (ps_while PassesOwn.never (pt_cmpR op_lt (pv 3) (pe_callB call_len_seq (by rfl) T.b_len PySem.boot_len (pa_cons (pv 0) pa_nil)) (nomark _))
        (pss_cons (ps_set (i := 4) sc_answers.nd rfl (Or.inl rfl) (pe_ix ix_list (pv 0) (pv 3) (fun _ _ => rfl)))
        (pss_cons (ps_set (i := 5) sc_answers.nd rfl (Or.inl rfl) (pe_op op_add (pe_op op_add (pv 3) pe_int) (pe_ix ix_tup (pe_glob (v := .ref pp) (by rfl) hmp rfl) (pv 4) (fun _ _ => rfl))))
        (pss_cons (ps_set (i := 6) sc_answers.nd rfl (Or.inl rfl) (pe_slice sl_list (pv 0) (po_some (pe_op op_add (pv 3) pe_int)) (po_some (pv 5))))
        (pss_cons (ps_set (i := 7) sc_answers.nd rfl (Or.inl rfl) (pe_lst pa_nil))
        (pss_cons (ps_if (pt_val (pe_ix ix_tup (pe_glob (v := .ref pr) (by rfl) hmr rfl) (pv 4) (fun _ _ => rfl)))
          (pss_cons (ps_set (i := 8) sc_answers.nd rfl (Or.inl rfl) (pe_op op_add (pv 5) pe_int))
          (pss_cons (ps_set (i := 5) sc_answers.nd rfl (Or.inl rfl) (pe_op op_add (pv 8) (pe_ix ix_list (pv 0) (pv 5) (fun _ _ => rfl))))
          (pss_one (ps_set (i := 7) sc_answers.nd rfl (Or.inl rfl) (pe_slice sl_list (pv 0) (po_some (pv 8)) (po_some (pv 5))))))) pss_nil)
        (pss_cons (ps_set (i := 9) sc_answers.nd rfl (Or.inl rfl) (pe_callE (S := fun f sp => ∃ n, n < known ∧ fs[n]? = some f ∧ sp = spAns K C n) (fun f sp ⟨n, hn, e1, e2⟩ => by
            obtain ⟨f', e3, q⟩ := hfs n hn
            obtain rfl : f = f' := Option.some.inj (e1.symm.trans e3)
            rw [e2]
            exact q) hr (pe_ix ix_tup (pe_glob (v := .ref pc) (by rfl) hmc rfl) (pv 4) (fun _ _ => rfl)) (pa_cons (pv 1) (pa_cons (pv 6) (pa_cons (pv 7) pa_nil)))))
        (pss_cons (ps_expr (pe_bm PySem.F.plainAttrs_list PySem.F.slot_list_append PySem.F.type_list_append mt_append (pv 2) (pa_cons (pe_callB call_len_seq (by rfl) T.b_len PySem.boot_len (pa_cons (pv 9) pa_nil)) pa_nil)))
        (pss_cons (ps_expr (pe_bm PySem.F.plainAttrs_list PySem.F.slot_list_extend PySem.F.type_list_extend mt_extend (pv 2) (pa_cons (pv 9) pa_nil)))
        (pss_one (ps_set (i := 3) sc_answers.nd rfl (Or.inl rfl) (pv 5))))))))))))
      (pss_one (ps_ret (pv 2)))))), ?_⟩
    -- figure = Figure()
    intro x dx nx ndx nex
    refine ⟨x, dx, rfl, upd_same, fun H1 F1 ea ex fg1 sx fr => ⟨rfl, ?_⟩⟩
    have s1 : Same H H1 := fun b o e => sx b o (ne_of_none e nx) (by rw [upd_ne (ne_of_none e nx), upd_ne (ne_of_none e ndx)]; exact e)
    have nin : ∀ o, H a = some o → a ∉ F1.l := fun o e m => by
      rcases List.mem_append.mp m with m | m
      · by_cases q : a = x
        · rw [q, nx] at e
          cases e
        · have := fr a m q
          have q2 := s1 a o e
          rw [upd_ne q] at this
          by_cases q3 : a = dx
          · rw [q3, ndx] at e
            cases e
          · rw [upd_ne q3, e] at this
            cases this
      · rw [ex] at m
        cases m
    have ro1 : RdOnly K F1 H1 a (nV (xs.flatMap encN)) := RdOnly.start hS s1 nin
    -- given = []
    refine ⟨Nat.zero_le _, fun d hd => ?_⟩
    have fg2 := fg1.hold (u := .lst []) hd
    have ro2 : RdOnly K { F1 with x := d :: F1.x } (upd H1 d (.lst [])) a (nV (xs.flatMap encN)) := by
      rcases ro1 with ⟨h, n⟩ | h
      · refine .inl ⟨?_, fun m => ?_⟩
        · rcases h with h | ⟨o, h⟩
          · exact .inl (same_new hd _ _ h)
          · exact .inr ⟨o, same_new hd _ _ h⟩
        · rcases List.mem_append.mp m with m | m
          · exact n (mem_l m)
          · rcases List.mem_cons.mp m with m | m
            · rcases h with h | ⟨o, h⟩
              · rw [m, hd] at h
                cases h
              · rw [m, hd] at h
                cases h
            · exact n (mem_x m)
      · exact .inr h
    -- the loop
    refine ⟨fun m σ H' => ∃ (F : Ft) (g : Ge05.House) (done rest : List Ge05.Call) (out : List Int) (v4 v5 v6 v7 v8 v9 : Option V), m = rest.length ∧ F.a = x ∧ F.x = [d] ∧ xs = done ++ rest ∧ run Ge05.init xs = out ++ run g rest ∧ Wf g ∧ Bd done.length g ∧ FigAt C F H' g ∧ RdOnly K F H' a (nV (xs.flatMap encN)) ∧
        H' d = some (.lst (zV out)) ∧ σ = [some (.ref a), some (.ref x), some (.ref d), some (.int ((done.flatMap encN).length : Int)), v4, v5, v6, v7, v8, v9],
      ⟨_, { F1 with x := d :: F1.x }, Ge05.init, [], xs, [], none, none, none, none, none, none, rfl, ea, by rw [ex], rfl, rfl, init_wf, ⟨Nat.zero_le _, Nat.zero_le _⟩, fg2, ro2, upd_same, rfl⟩, ?_⟩
    rintro m σ H' ⟨F, g, done, rest, out, v4, v5, v6, v7, v8, v9, rfl, eFa, eFx, exs, erun, wf, bd, fg, ro, hgv, rfl⟩
    refine ⟨_, rfl, _, rfl, a, _, rfl, .inl ro.seq, _, _, rfl, rfl, _, rfl, ?_⟩
    cases rest with
    | nil =>
      rw [List.append_nil] at exs
      subst exs
      refine ifF (decide_eq_false ?_) ⟨_, rfl, k H' d ?_⟩
      · rw [nV_len]
        omega
      · rw [hgv, erun]
        show some (HO.lst (zV out)) = some (HO.lst (zV (out ++ [])))
        rw [List.append_nil]
    | cons c rest =>
      have hc := hok c (exs ▸ List.mem_append_right _ List.mem_cons_self)
      have ell : xs.flatMap encN = done.flatMap encN ++ (encN c ++ rest.flatMap encN) := by
        rw [exs, List.flatMap_append, List.flatMap_cons]
      rw [ell] at ro ⊢
      have hd40 : done.length + 1 ≤ 40 := by
        rw [exs, List.length_append, List.length_cons] at h40
        omega
      have hdx : d ∈ F.x := eFx ▸ List.mem_cons_self
      have hpos : 1 ≤ (encN c).length := by unfold encN; simp
      refine ifT (decide_eq_true ?_) ⟨fun σ' H2 => ∃ (F : Ft) (v4 v5 v6 v7 v8 v9 : Option V), F.a = x ∧ F.x = [d] ∧ FigAt C F H2 (Ge05.step g c).1 ∧ RdOnly K F H2 a (nV (done.flatMap encN ++ (encN c ++ rest.flatMap encN))) ∧ H2 d = some (.lst (zV (out ++ ((Ge05.step g c).2.length : Int) :: (Ge05.step g c).2))) ∧
          σ' = [some (.ref a), some (.ref x), some (.ref d), some (.int ((((done ++ [c]).flatMap encN).length : Nat) : Int)), v4, v5, v6, v7, v8, v9],
        fun σ' H2 ⟨F2, w4, w5, w6, w7, w8, w9, q1, q2, q3, q4, q5, q6⟩ => ⟨rest.length, by simp, F2, (Ge05.step g c).1, done ++ [c], rest, _, w4, w5, w6, w7, w8, w9, rfl, q1, q2, by rw [exs]; simp, ?_, step_wf wf c, ?_, q3, q4, q5, q6⟩, ?_⟩
      · rw [nV_len, List.length_append, List.length_append]
        omega
      · rw [erun]
        simp [run]
      · rw [List.length_append]
        exact step_bd wf bd c
      -- one call
      refine ⟨_, rfl, _, rfl, a, _, _, .int (numOf c), rfl, rfl, ro.seq, atI_nat at_num, ?_⟩
      refine ⟨_, rfl, _, _, rfl, rfl, _, rfl, pp, _, _, .int (plainOf c).length, rfl, rfl, hqp H', atI_nat (plain_at hc.2), _, _, rfl, rfl, ?_⟩
      refine ⟨_, rfl, _, rfl, _, _, rfl, rfl, _, rfl, _, rfl, _, rfl, a, _, rfl, ro.seq, fun q hq => ?_⟩
      have hcut := cut_plain (L := done.flatMap encN) (R := rest.flatMap encN) (x := c)
      refine ⟨Nat.zero_le _, fun r0 hr0 => ?_⟩
      have sq := same_new (o := .lst (cutV (nV (done.flatMap encN ++ (encN c ++ rest.flatMap encN))) (some (((done.flatMap encN).length : Int) + 1)) (some (((done.flatMap encN).length : Int) + 1 + ((plainOf c).length : Int))))) hq
      have sr := same_new (o := .lst []) hr0
      have hq1 := (sr _ _ (upd_same (H := H') (a := q) (o := .lst (cutV (nV (done.flatMap encN ++ (encN c ++ rest.flatMap encN))) (some (((done.flatMap encN).length : Int) + 1)) (some (((done.flatMap encN).length : Int) + 1 + ((plainOf c).length : Int))))))).trans (congrArg (fun z => some (HO.lst z)) hcut)
      have bd40 : Bd 40 g := bd.mono (by omega)
      have elen : (((done ++ [c]).flatMap encN).length : Int) = ((done.flatMap encN).length : Int) + ((encN c).length : Int) := by
        rw [List.flatMap_append, List.length_append]
        simp
      refine ⟨_, rfl, pr, _, _, .bl (hasRow c), rfl, rfl, hqr _, atI_nat (row_at hc.2), _, rfl, ?_⟩
      have big : out.length + 1 + (Ge05.step g c).2.length ≤ 10000000 := by
        have := hbig
        rw [erun, List.length_append] at this
        simp only [run, List.length_cons, List.length_append] at this
        omega
      cases hrow : hasRow c with
      | false =>
        refine ifF rfl ?_
        have er := row_nil hrow
        refine ans_end (done := done) (c := c) (rest := rest) (fs := fs) T hqc (fun n hn => by obtain ⟨f, e, _⟩ := hfs n hn; exact ⟨f, e⟩) hc.2 hc.1 eFa hdx wf bd40 (fg.same (sq.trans sr)) (ro.same (sq.trans sr)) ((sq.trans sr) _ _ hgv) (.inl (.inl hq1)) (by rw [er]; exact .inl (.inl upd_same)) big ?_ ?_
        · rw [elen, enc_len, hrow]
          show _ = ((done.flatMap encN).length : Int) + ((1 + (plainOf c).length : Nat) : Int)
          omega
        · exact fun σ' H2 F2 w3 h1 h2 h3 h4 h5 h6 => ⟨F2, _, _, _, _, _, _, h1, h2.trans eFx, h3, h4, h5, h6⟩
      | true =>
        refine ifT rfl ?_
        refine ⟨_, rfl, _, _, rfl, rfl, ?_⟩
        refine ⟨_, rfl, _, rfl, _, rfl, a, _, _, .int (rowOf c).length, rfl, rfl, (ro.same (sq.trans sr)).seq, at_of (j := (done.flatMap encN).length + 1 + (plainOf c).length) (by omega) (at_row hrow), _, _, rfl, rfl, ?_⟩
        refine ⟨_, rfl, _, rfl, _, rfl, _, rfl, _, rfl, a, _, rfl, (ro.same (sq.trans sr)).seq, fun r1 hr1 => ?_⟩
        have hcut2 := cut_row (L := done.flatMap encN) (R := rest.flatMap encN) hrow
        have s3 := same_new (o := .lst (cutV (nV (done.flatMap encN ++ (encN c ++ rest.flatMap encN))) (some (((done.flatMap encN).length : Int) + 1 + ((plainOf c).length : Int) + 1)) (some (((done.flatMap encN).length : Int) + 1 + ((plainOf c).length : Int) + 1 + ((rowOf c).length : Int))))) hr1
        have st := sq.trans (sr.trans s3)
        refine ans_end (done := done) (c := c) (rest := rest) (fs := fs) T hqc (fun n hn => by obtain ⟨f, e, _⟩ := hfs n hn; exact ⟨f, e⟩) hc.2 hc.1 eFa hdx wf bd40 (fg.same st) (ro.same st) (st _ _ hgv) (.inl (.inl (s3 _ _ hq1))) (.inl (.inl (upd_same.trans (congrArg (fun z => some (HO.lst z)) hcut2)))) big ?_ ?_
        · rw [elen, enc_len, hrow]
          show _ = ((done.flatMap encN).length : Int) + ((1 + (plainOf c).length + 1 + (rowOf c).length : Nat) : Int)
          omega
        · exact fun σ' H2 F2 w3 h1 h2 h3 h4 h5 h6 => ⟨F2, _, _, _, _, _, _, h1, h2.trans eFx, h3, h4, h5, h6⟩
end
end FF
namespace FF
open PySem PySem.Spec PyProof.Rows L2
/-! ### the end: from what the top has written to the promise of answers -/
section
variable {K : PySem.W.Frag} {h : Heap} {mg : Str → Option Value}
theorem co_mk {x : Str} {v : Int} {t : Tok} (X : K.In h) (G : h.Ns mainGlobals mg) (a : PySem.W.nsIn K mainGlobals x = some (some (.int v t))) : ∃ u, mg x = some u ∧ RelV (.int v) u := ⟨_, PySem.W.mg_of X G a, ⟨t, rfl⟩⟩
theorem def_mk {x : Str} {st : Stmt} {ps : List Str} {f : Addr} {oc : Value} {od an : Option Addr} {sl : Array (Option Value)} {kV dc pm cd ct : Value} (X : K.In h) (G : h.Ns mainGlobals mg) (a : PySem.W.nsIn K mainGlobals x = some (some (.ref f)))
    (l : K.lookup f = some ⟨oc, od, .func (PySem.W.fnOf x x (defArgs st) (defBody st) (defScope st) .none kV dc pm an cd ct), sl⟩) (c : PySem.W.codeIn K cd x = true) (k : PySem.W.keepIn K (.ref f) = true)
    (hb : ∀ (kV doc pm : Value) (an : Option Addr) (cdv ct : Value) (us : List Value), us.length = ps.length → bindArgs (PySem.W.fnOf x x (defArgs st) (defBody st) (defScope st) .none kV doc pm an cdv ct) ⟨us, []⟩ = pure (ps.zip us)) : Def K mg x st ps :=
  ⟨f, _, fun_mk l c k, PySem.W.mg_of X G a, (fun_mk l c k).binds hb⟩
theorem defI_mk {x q : Str} {C : Addr} {st : Stmt} {ps : List Str} {f : Addr} {oc : Value} {od an : Option Addr} {sl : Array (Option Value)} {kV dc pm cd ct : Value} (X : K.In h) (G : h.Ns mainGlobals mg) (a : PySem.W.nsIn K mainGlobals x = some (some (.ref C)))
    (a1 : PySem.W.findIn K (.ref C) "__init__" = some (some (.ref f))) (i1 : PySem.W.isFn K (.ref f) = true) (l1 : K.lookup f = some ⟨oc, od, .func (PySem.W.fnOf "__init__" q (defArgs st) (defBody st) (defScope st) .none kV dc pm an cd ct), sl⟩) (c1 : PySem.W.codeIn K cd q = true) (k1 : PySem.W.keepIn K (.ref f) = true)
    (mk : PySem.W.makesIn K C = true) (kc : PySem.W.keepIn K (.ref C) = true)
    (hb : ∀ (kV doc pm : Value) (an : Option Addr) (cdv ct : Value) (us : List Value), us.length = ps.length → bindArgs (PySem.W.fnOf "__init__" q (defArgs st) (defBody st) (defScope st) .none kV doc pm an cdv ct) ⟨us, []⟩ = pure (ps.zip us)) : DefI K mg x q C st ps :=
  ⟨f, _, ⟨mk, a1, i1, kc⟩, fun_mk l1 c1 k1, PySem.W.mg_of X G a, (fun_mk l1 c1 k1).binds hb⟩
theorem cal_at {P : Program} {w : World} {base : Heap} {k j : Nat} {x : Str} {f : Addr} {sp : Sp} (c : Cal P w K mg base k x sp) (e : mg x = some (.ref f)) (h : k ≤ j) : ∃ (i : Nat) (fd : FuncData) (ps : List Str), i ≤ j ∧ FnOk P w K mg base CX0 i f fd ps sp ∧ PySem.W.keepIn K (.ref f) = true ∧ Binds K fd ps [] := by
  obtain ⟨f', fd, ps, F, hm, kp, b⟩ := c.ex
  obtain rfl : f' = f := by
    have := hm.symm.trans e
    injection this with z
    injection z
  exact ⟨k, fd, ps, h, F, kp, b⟩
theorem fin_mk {P : Program} {w : World} {fa cl st wy fd fg : Addr} (X : K.In h) (hfa : mg "answers" = some (.ref fa)) (I_Clip : DefI K mg "Clip" "Clip.__init__" cl s_IClip ["self", "pictures", "goes_round", "events"]) (I_State : DefI K mg "State" "State.__init__" st s_IState ["self", "clip", "speed"]) (I_Way : DefI K mg "Way" "Way.__init__" wy s_IWay ["self", "leads_from", "leads_to", "blend", "conditions"]) (I_Fade : DefI K mg "Fade" "Fade.__init__" fd s_IFade ["self", "state", "count", "had", "takes"]) (I_Figure : DefI K mg "Figure" "Figure.__init__" fg s_IFigure ["self"]) (D_clip_of : Def K mg "clip_of" s_clip_of ["figure", "state"]) (D_picture_at : Def K mg "picture_at" s_picture_at ["clip", "count"]) (D_is_over : Def K mg "is_over" s_is_over ["clip", "count"]) (D_events_at : Def K mg "events_at" s_events_at ["clip", "count"]) (D_clip_refusal : Def K mg "clip_refusal" s_clip_refusal ["figure", "pictures", "events"]) (D_state_refusal : Def K mg "state_refusal" s_state_refusal ["figure", "clip", "speed"]) (D_condition_refusal : Def K mg "condition_refusal" s_condition_refusal ["condition"]) (D_way_refusal : Def K mg "way_refusal" s_way_refusal ["figure", "leads_from", "leads_to", "blend", "conditions"]) (D_set_refusal : Def K mg "set_refusal" s_set_refusal ["value", "number"]) (D_signal_refusal : Def K mg "signal_refusal" s_signal_refusal ["which"]) (D_ticks_refusal : Def K mg "ticks_refusal" s_ticks_refusal ["many"]) (D_goto_refusal : Def K mg "goto_refusal" s_goto_refusal ["figure", "state"]) (D_common_divisor : Def K mg "common_divisor" s_common_divisor ["first", "second"]) (D_in_lowest_terms : Def K mg "in_lowest_terms" s_in_lowest_terms ["above", "below"]) (D_shares_of : Def K mg "shares_of" s_shares_of ["fades"]) (D_condition_holds : Def K mg "condition_holds" s_condition_holds ["figure", "condition"]) (D_may_be_taken : Def K mg "may_be_taken" s_may_be_taken ["figure", "way"]) (D_first_way : Def K mg "first_way" s_first_way ["figure"]) (D_count_on : Def K mg "count_on" s_count_on ["figure"]) (D_fade_on : Def K mg "fade_on" s_fade_on ["figure"]) (D_take_signals : Def K mg "take_signals" s_take_signals ["figure", "way"]) (D_take_way : Def K mg "take_way" s_take_way ["figure", "way"]) (D_tick : Def K mg "tick" s_tick ["figure"]) (D_event_pairs : Def K mg "event_pairs" s_event_pairs ["row"]) (D_split_conditions : Def K mg "split_conditions" s_split_conditions ["row"]) (D_clip_answer : Def K mg "clip_answer" s_clip_answer ["figure", "plain", "row"]) (D_state_answer : Def K mg "state_answer" s_state_answer ["figure", "plain", "row"]) (D_way_answer : Def K mg "way_answer" s_way_answer ["figure", "plain", "row"]) (D_set_answer : Def K mg "set_answer" s_set_answer ["figure", "plain", "row"]) (D_signal_answer : Def K mg "signal_answer" s_signal_answer ["figure", "plain", "row"]) (D_ticks_answer : Def K mg "ticks_answer" s_ticks_answer ["figure", "plain", "row"]) (D_shown_answer : Def K mg "shown_answer" s_shown_answer ["figure", "plain", "row"]) (D_may_answer : Def K mg "may_answer" s_may_answer ["figure", "plain", "row"]) (D_goto_answer : Def K mg "goto_answer" s_goto_answer ["figure", "plain", "row"]) (D_now_answer : Def K mg "now_answer" s_now_answer ["figure", "plain", "row"]) (D_values_answer : Def K mg "values_answer" s_values_answer ["figure", "plain", "row"]) (D_answers : Def K mg "answers" s_answers ["calls"]) (T : Txt K mg ⟨cl, st, wy, fd, fg⟩) :
    ∃ fd : FuncData, (∀ (s : Shared) (us : List Value), us.length = (["calls"] : List Str).length → BindsTo s fd ⟨us, []⟩ ((["calls"] : List Str).zip us)) ∧ ∀ base : Heap, K.In base → base.Ns mainGlobals mg → FnOk P w K mg base CX0 7 fa fd ["calls"] (spAnswers K) := by
  obtain ⟨f0, fd0, F0, hm, b⟩ := D_answers.ex
  obtain rfl : f0 = fa := by
    have := hm.symm.trans hfa
    injection this with z
    injection z
  refine ⟨fd0, ?_, fun base _ _ => ?_⟩
  · obtain ⟨oc, od, kV, doc, pm, an, cdv, ct, osl, rfl, _⟩ := F0.ex
    exact fun s us hu => match us, hu with | [_], _ => .of_eq rfl
  · have iC := ok_IClip (P := P) (w := w) (base := base) I_Clip T
    have iS := ok_IState (P := P) (w := w) (base := base) I_State T
    have iW := ok_IWay (P := P) (w := w) (base := base) I_Way T
    have iD := ok_IFade (P := P) (w := w) (base := base) I_Fade T
    have iF := ok_IFigure I_Figure T iC iS
    have cOf := ok_clip_of (P := P) (w := w) (base := base) D_clip_of T
    have cPic := ok_picture_at (P := P) (w := w) (base := base) D_picture_at T
    have cOv := ok_is_over (P := P) (w := w) (base := base) D_is_over T
    have cEv := ok_events_at D_events_at T cPic
    have rC := ok_clip_refusal (P := P) (w := w) (base := base) D_clip_refusal T
    have rS := ok_state_refusal (P := P) (w := w) (base := base) D_state_refusal T
    have rV := ok_set_refusal (P := P) (w := w) (base := base) D_set_refusal T
    have rG := ok_signal_refusal (P := P) (w := w) (base := base) D_signal_refusal T
    have rT := ok_ticks_refusal (P := P) (w := w) (base := base) D_ticks_refusal T
    have rCo := ok_condition_refusal D_condition_refusal T rV rG
    have rW := ok_way_refusal D_way_refusal T rCo
    have cH := ok_condition_holds D_condition_holds T cOf cOv
    have cM := ok_may_be_taken D_may_be_taken T cH
    have cFw := ok_first_way D_first_way T cM
    have cCo := ok_count_on D_count_on T cOf cEv
    have cFo := ok_fade_on D_fade_on T iD
    have cTs := ok_take_signals (P := P) (w := w) (base := base) D_take_signals T
    have cTw := ok_take_way D_take_way T cTs iD cEv cOf
    have cTi := ok_tick D_tick T cCo cFo cFw cTw
    have cEp := ok_event_pairs (P := P) (w := w) (base := base) D_event_pairs T
    have cSc := ok_split_conditions (P := P) (w := w) (base := base) D_split_conditions T
    have a0 := ok_clip_answer D_clip_answer T cEp rC iC
    have a1 := ok_state_answer D_state_answer T rS iS
    have a2 := ok_way_answer D_way_answer T cSc rW iW
    have a3 := ok_set_answer D_set_answer T rV
    have a4 := ok_signal_answer D_signal_answer T rG
    have a5 := ok_ticks_answer D_ticks_answer T rT cTi
    have rGo := ok_goto_refusal (P := P) (w := w) (base := base) D_goto_refusal T
    have cGc := ok_common_divisor (P := P) (w := w) (base := base) D_common_divisor T
    have cLo := ok_in_lowest_terms D_in_lowest_terms T cGc
    have cSh := ok_shares_of D_shares_of T cLo
    have a6 := ok_shown_answer D_shown_answer T cSh cOf cPic
    have a7 := ok_may_answer D_may_answer T cM
    have a8 := ok_goto_answer D_goto_answer T rGo
    have a9 := ok_now_answer D_now_answer T cOf cOv cPic
    have a10 := ok_values_answer (P := P) (w := w) (base := base) D_values_answer T
    obtain ⟨pc, f0', f1, f2, f3, f4, f5, f6, f7, f8, f9, f10, hmc, hq, e0, e1, e2, e3, e4, e5, e6, e7, e8, e9, e10⟩ := T.k_CALL_ANSWERS
    refine ok_answers F0 T iF ⟨pc, [f0', f1, f2, f3, f4, f5, f6, f7, f8, f9, f10], hmc, hq, fun n hn => ?_⟩
    match n, hn with
    | 0, _ => exact ⟨_, rfl, cal_at a0 e0 (by decide)⟩
    | 1, _ => exact ⟨_, rfl, cal_at a1 e1 (by decide)⟩
    | 2, _ => exact ⟨_, rfl, cal_at a2 e2 (by decide)⟩
    | 3, _ => exact ⟨_, rfl, cal_at a3 e3 (by decide)⟩
    | 4, _ => exact ⟨_, rfl, cal_at a4 e4 (by decide)⟩
    | 5, _ => exact ⟨_, rfl, cal_at a5 e5 (by decide)⟩
    | 6, _ => exact ⟨_, rfl, cal_at a6 e6 (by decide)⟩
    | 7, _ => exact ⟨_, rfl, cal_at a7 e7 (by decide)⟩
    | 8, _ => exact ⟨_, rfl, cal_at a8 e8 (by decide)⟩
    | 9, _ => exact ⟨_, rfl, cal_at a9 e9 (by decide)⟩
    | 10, _ => exact ⟨_, rfl, cal_at a10 e10 (by decide)⟩
    | n + 11, hn => exact absurd hn (by unfold known; omega)
end
end FF
namespace FF
open PySem PySem.Spec PyProof.Rows L2
section
variable {K : PySem.W.Frag} {h : Heap} {mg : Str → Option Value}
theorem bi_IClip : ∀ (kV doc pm : Value) (an : Option Addr) (cdv ct : Value) (us : List Value), us.length = (["self", "pictures", "goes_round", "events"] : List Str).length → bindArgs (PySem.W.fnOf "__init__" "Clip.__init__" (defArgs s_IClip) (defBody s_IClip) (defScope s_IClip) .none kV doc pm an cdv ct) ⟨us, []⟩ = pure ((["self", "pictures", "goes_round", "events"] : List Str).zip us) := fun _ _ _ _ _ _ us hl => match us, hl with | [_, _, _, _], _ => rfl
theorem bi_IState : ∀ (kV doc pm : Value) (an : Option Addr) (cdv ct : Value) (us : List Value), us.length = (["self", "clip", "speed"] : List Str).length → bindArgs (PySem.W.fnOf "__init__" "State.__init__" (defArgs s_IState) (defBody s_IState) (defScope s_IState) .none kV doc pm an cdv ct) ⟨us, []⟩ = pure ((["self", "clip", "speed"] : List Str).zip us) := fun _ _ _ _ _ _ us hl => match us, hl with | [_, _, _], _ => rfl
theorem bi_IWay : ∀ (kV doc pm : Value) (an : Option Addr) (cdv ct : Value) (us : List Value), us.length = (["self", "leads_from", "leads_to", "blend", "conditions"] : List Str).length → bindArgs (PySem.W.fnOf "__init__" "Way.__init__" (defArgs s_IWay) (defBody s_IWay) (defScope s_IWay) .none kV doc pm an cdv ct) ⟨us, []⟩ = pure ((["self", "leads_from", "leads_to", "blend", "conditions"] : List Str).zip us) := fun _ _ _ _ _ _ us hl => match us, hl with | [_, _, _, _, _], _ => rfl
theorem bi_IFade : ∀ (kV doc pm : Value) (an : Option Addr) (cdv ct : Value) (us : List Value), us.length = (["self", "state", "count", "had", "takes"] : List Str).length → bindArgs (PySem.W.fnOf "__init__" "Fade.__init__" (defArgs s_IFade) (defBody s_IFade) (defScope s_IFade) .none kV doc pm an cdv ct) ⟨us, []⟩ = pure ((["self", "state", "count", "had", "takes"] : List Str).zip us) := fun _ _ _ _ _ _ us hl => match us, hl with | [_, _, _, _, _], _ => rfl
theorem bi_IFigure : ∀ (kV doc pm : Value) (an : Option Addr) (cdv ct : Value) (us : List Value), us.length = (["self"] : List Str).length → bindArgs (PySem.W.fnOf "__init__" "Figure.__init__" (defArgs s_IFigure) (defBody s_IFigure) (defScope s_IFigure) .none kV doc pm an cdv ct) ⟨us, []⟩ = pure ((["self"] : List Str).zip us) := fun _ _ _ _ _ _ us hl => match us, hl with | [_], _ => rfl
theorem bi_clip_of : ∀ (kV doc pm : Value) (an : Option Addr) (cdv ct : Value) (us : List Value), us.length = (["figure", "state"] : List Str).length → bindArgs (PySem.W.fnOf "clip_of" "clip_of" (defArgs s_clip_of) (defBody s_clip_of) (defScope s_clip_of) .none kV doc pm an cdv ct) ⟨us, []⟩ = pure ((["figure", "state"] : List Str).zip us) := fun _ _ _ _ _ _ us hl => match us, hl with | [_, _], _ => rfl
theorem bi_picture_at : ∀ (kV doc pm : Value) (an : Option Addr) (cdv ct : Value) (us : List Value), us.length = (["clip", "count"] : List Str).length → bindArgs (PySem.W.fnOf "picture_at" "picture_at" (defArgs s_picture_at) (defBody s_picture_at) (defScope s_picture_at) .none kV doc pm an cdv ct) ⟨us, []⟩ = pure ((["clip", "count"] : List Str).zip us) := fun _ _ _ _ _ _ us hl => match us, hl with | [_, _], _ => rfl
theorem bi_is_over : ∀ (kV doc pm : Value) (an : Option Addr) (cdv ct : Value) (us : List Value), us.length = (["clip", "count"] : List Str).length → bindArgs (PySem.W.fnOf "is_over" "is_over" (defArgs s_is_over) (defBody s_is_over) (defScope s_is_over) .none kV doc pm an cdv ct) ⟨us, []⟩ = pure ((["clip", "count"] : List Str).zip us) := fun _ _ _ _ _ _ us hl => match us, hl with | [_, _], _ => rfl
theorem bi_events_at : ∀ (kV doc pm : Value) (an : Option Addr) (cdv ct : Value) (us : List Value), us.length = (["clip", "count"] : List Str).length → bindArgs (PySem.W.fnOf "events_at" "events_at" (defArgs s_events_at) (defBody s_events_at) (defScope s_events_at) .none kV doc pm an cdv ct) ⟨us, []⟩ = pure ((["clip", "count"] : List Str).zip us) := fun _ _ _ _ _ _ us hl => match us, hl with | [_, _], _ => rfl
theorem bi_clip_refusal : ∀ (kV doc pm : Value) (an : Option Addr) (cdv ct : Value) (us : List Value), us.length = (["figure", "pictures", "events"] : List Str).length → bindArgs (PySem.W.fnOf "clip_refusal" "clip_refusal" (defArgs s_clip_refusal) (defBody s_clip_refusal) (defScope s_clip_refusal) .none kV doc pm an cdv ct) ⟨us, []⟩ = pure ((["figure", "pictures", "events"] : List Str).zip us) := fun _ _ _ _ _ _ us hl => match us, hl with | [_, _, _], _ => rfl
theorem bi_state_refusal : ∀ (kV doc pm : Value) (an : Option Addr) (cdv ct : Value) (us : List Value), us.length = (["figure", "clip", "speed"] : List Str).length → bindArgs (PySem.W.fnOf "state_refusal" "state_refusal" (defArgs s_state_refusal) (defBody s_state_refusal) (defScope s_state_refusal) .none kV doc pm an cdv ct) ⟨us, []⟩ = pure ((["figure", "clip", "speed"] : List Str).zip us) := fun _ _ _ _ _ _ us hl => match us, hl with | [_, _, _], _ => rfl
theorem bi_condition_refusal : ∀ (kV doc pm : Value) (an : Option Addr) (cdv ct : Value) (us : List Value), us.length = (["condition"] : List Str).length → bindArgs (PySem.W.fnOf "condition_refusal" "condition_refusal" (defArgs s_condition_refusal) (defBody s_condition_refusal) (defScope s_condition_refusal) .none kV doc pm an cdv ct) ⟨us, []⟩ = pure ((["condition"] : List Str).zip us) := fun _ _ _ _ _ _ us hl => match us, hl with | [_], _ => rfl
theorem bi_way_refusal : ∀ (kV doc pm : Value) (an : Option Addr) (cdv ct : Value) (us : List Value), us.length = (["figure", "leads_from", "leads_to", "blend", "conditions"] : List Str).length → bindArgs (PySem.W.fnOf "way_refusal" "way_refusal" (defArgs s_way_refusal) (defBody s_way_refusal) (defScope s_way_refusal) .none kV doc pm an cdv ct) ⟨us, []⟩ = pure ((["figure", "leads_from", "leads_to", "blend", "conditions"] : List Str).zip us) := fun _ _ _ _ _ _ us hl => match us, hl with | [_, _, _, _, _], _ => rfl
theorem bi_set_refusal : ∀ (kV doc pm : Value) (an : Option Addr) (cdv ct : Value) (us : List Value), us.length = (["value", "number"] : List Str).length → bindArgs (PySem.W.fnOf "set_refusal" "set_refusal" (defArgs s_set_refusal) (defBody s_set_refusal) (defScope s_set_refusal) .none kV doc pm an cdv ct) ⟨us, []⟩ = pure ((["value", "number"] : List Str).zip us) := fun _ _ _ _ _ _ us hl => match us, hl with | [_, _], _ => rfl
theorem bi_signal_refusal : ∀ (kV doc pm : Value) (an : Option Addr) (cdv ct : Value) (us : List Value), us.length = (["which"] : List Str).length → bindArgs (PySem.W.fnOf "signal_refusal" "signal_refusal" (defArgs s_signal_refusal) (defBody s_signal_refusal) (defScope s_signal_refusal) .none kV doc pm an cdv ct) ⟨us, []⟩ = pure ((["which"] : List Str).zip us) := fun _ _ _ _ _ _ us hl => match us, hl with | [_], _ => rfl
theorem bi_ticks_refusal : ∀ (kV doc pm : Value) (an : Option Addr) (cdv ct : Value) (us : List Value), us.length = (["many"] : List Str).length → bindArgs (PySem.W.fnOf "ticks_refusal" "ticks_refusal" (defArgs s_ticks_refusal) (defBody s_ticks_refusal) (defScope s_ticks_refusal) .none kV doc pm an cdv ct) ⟨us, []⟩ = pure ((["many"] : List Str).zip us) := fun _ _ _ _ _ _ us hl => match us, hl with | [_], _ => rfl
theorem bi_goto_refusal : ∀ (kV doc pm : Value) (an : Option Addr) (cdv ct : Value) (us : List Value), us.length = (["figure", "state"] : List Str).length → bindArgs (PySem.W.fnOf "goto_refusal" "goto_refusal" (defArgs s_goto_refusal) (defBody s_goto_refusal) (defScope s_goto_refusal) .none kV doc pm an cdv ct) ⟨us, []⟩ = pure ((["figure", "state"] : List Str).zip us) := fun _ _ _ _ _ _ us hl => match us, hl with | [_, _], _ => rfl
theorem bi_common_divisor : ∀ (kV doc pm : Value) (an : Option Addr) (cdv ct : Value) (us : List Value), us.length = (["first", "second"] : List Str).length → bindArgs (PySem.W.fnOf "common_divisor" "common_divisor" (defArgs s_common_divisor) (defBody s_common_divisor) (defScope s_common_divisor) .none kV doc pm an cdv ct) ⟨us, []⟩ = pure ((["first", "second"] : List Str).zip us) := fun _ _ _ _ _ _ us hl => match us, hl with | [_, _], _ => rfl
theorem bi_in_lowest_terms : ∀ (kV doc pm : Value) (an : Option Addr) (cdv ct : Value) (us : List Value), us.length = (["above", "below"] : List Str).length → bindArgs (PySem.W.fnOf "in_lowest_terms" "in_lowest_terms" (defArgs s_in_lowest_terms) (defBody s_in_lowest_terms) (defScope s_in_lowest_terms) .none kV doc pm an cdv ct) ⟨us, []⟩ = pure ((["above", "below"] : List Str).zip us) := fun _ _ _ _ _ _ us hl => match us, hl with | [_, _], _ => rfl
theorem bi_shares_of : ∀ (kV doc pm : Value) (an : Option Addr) (cdv ct : Value) (us : List Value), us.length = (["fades"] : List Str).length → bindArgs (PySem.W.fnOf "shares_of" "shares_of" (defArgs s_shares_of) (defBody s_shares_of) (defScope s_shares_of) .none kV doc pm an cdv ct) ⟨us, []⟩ = pure ((["fades"] : List Str).zip us) := fun _ _ _ _ _ _ us hl => match us, hl with | [_], _ => rfl
theorem bi_condition_holds : ∀ (kV doc pm : Value) (an : Option Addr) (cdv ct : Value) (us : List Value), us.length = (["figure", "condition"] : List Str).length → bindArgs (PySem.W.fnOf "condition_holds" "condition_holds" (defArgs s_condition_holds) (defBody s_condition_holds) (defScope s_condition_holds) .none kV doc pm an cdv ct) ⟨us, []⟩ = pure ((["figure", "condition"] : List Str).zip us) := fun _ _ _ _ _ _ us hl => match us, hl with | [_, _], _ => rfl
theorem bi_may_be_taken : ∀ (kV doc pm : Value) (an : Option Addr) (cdv ct : Value) (us : List Value), us.length = (["figure", "way"] : List Str).length → bindArgs (PySem.W.fnOf "may_be_taken" "may_be_taken" (defArgs s_may_be_taken) (defBody s_may_be_taken) (defScope s_may_be_taken) .none kV doc pm an cdv ct) ⟨us, []⟩ = pure ((["figure", "way"] : List Str).zip us) := fun _ _ _ _ _ _ us hl => match us, hl with | [_, _], _ => rfl
theorem bi_first_way : ∀ (kV doc pm : Value) (an : Option Addr) (cdv ct : Value) (us : List Value), us.length = (["figure"] : List Str).length → bindArgs (PySem.W.fnOf "first_way" "first_way" (defArgs s_first_way) (defBody s_first_way) (defScope s_first_way) .none kV doc pm an cdv ct) ⟨us, []⟩ = pure ((["figure"] : List Str).zip us) := fun _ _ _ _ _ _ us hl => match us, hl with | [_], _ => rfl
theorem bi_count_on : ∀ (kV doc pm : Value) (an : Option Addr) (cdv ct : Value) (us : List Value), us.length = (["figure"] : List Str).length → bindArgs (PySem.W.fnOf "count_on" "count_on" (defArgs s_count_on) (defBody s_count_on) (defScope s_count_on) .none kV doc pm an cdv ct) ⟨us, []⟩ = pure ((["figure"] : List Str).zip us) := fun _ _ _ _ _ _ us hl => match us, hl with | [_], _ => rfl
theorem bi_fade_on : ∀ (kV doc pm : Value) (an : Option Addr) (cdv ct : Value) (us : List Value), us.length = (["figure"] : List Str).length → bindArgs (PySem.W.fnOf "fade_on" "fade_on" (defArgs s_fade_on) (defBody s_fade_on) (defScope s_fade_on) .none kV doc pm an cdv ct) ⟨us, []⟩ = pure ((["figure"] : List Str).zip us) := fun _ _ _ _ _ _ us hl => match us, hl with | [_], _ => rfl
theorem bi_take_signals : ∀ (kV doc pm : Value) (an : Option Addr) (cdv ct : Value) (us : List Value), us.length = (["figure", "way"] : List Str).length → bindArgs (PySem.W.fnOf "take_signals" "take_signals" (defArgs s_take_signals) (defBody s_take_signals) (defScope s_take_signals) .none kV doc pm an cdv ct) ⟨us, []⟩ = pure ((["figure", "way"] : List Str).zip us) := fun _ _ _ _ _ _ us hl => match us, hl with | [_, _], _ => rfl
theorem bi_take_way : ∀ (kV doc pm : Value) (an : Option Addr) (cdv ct : Value) (us : List Value), us.length = (["figure", "way"] : List Str).length → bindArgs (PySem.W.fnOf "take_way" "take_way" (defArgs s_take_way) (defBody s_take_way) (defScope s_take_way) .none kV doc pm an cdv ct) ⟨us, []⟩ = pure ((["figure", "way"] : List Str).zip us) := fun _ _ _ _ _ _ us hl => match us, hl with | [_, _], _ => rfl
theorem bi_tick : ∀ (kV doc pm : Value) (an : Option Addr) (cdv ct : Value) (us : List Value), us.length = (["figure"] : List Str).length → bindArgs (PySem.W.fnOf "tick" "tick" (defArgs s_tick) (defBody s_tick) (defScope s_tick) .none kV doc pm an cdv ct) ⟨us, []⟩ = pure ((["figure"] : List Str).zip us) := fun _ _ _ _ _ _ us hl => match us, hl with | [_], _ => rfl
theorem tu_PLAIN_NUMBERS {p : Addr} {od : Option Addr} {n : Nat} {sl : Array (Option Value)} {t0 t1 t2 t3 t4 t5 t6 t7 t8 t9 t10 : Tok} (X : K.In h) (G : h.Ns mainGlobals mg) (a : PySem.W.nsIn K mainGlobals "PLAIN_NUMBERS" = some (some (.ref p))) (l : K.lookup p = some ⟨.type "tuple", od, .seq #[.int 2 t0, .int 2 t1, .int 3 t2, .int 2 t3, .int 1 t4, .int 1 t5, .int 0 t6, .int 0 t7, .int 1 t8, .int 0 t9, .int 0 t10] n, sl⟩) : ∃ p, mg "PLAIN_NUMBERS" = some (.ref p) ∧ ∀ H : Hp, SqT K H p [.int 2, .int 2, .int 3, .int 2, .int 1, .int 1, .int 0, .int 0, .int 1, .int 0, .int 0] := ⟨p, PySem.W.mg_of X G a, fun H => .inr ⟨_, _, _, l, rfl, rfl, (by show 11 ≤ sizeLine; decide), .cons ⟨_, rfl⟩ (.cons ⟨_, rfl⟩ (.cons ⟨_, rfl⟩ (.cons ⟨_, rfl⟩ (.cons ⟨_, rfl⟩ (.cons ⟨_, rfl⟩ (.cons ⟨_, rfl⟩ (.cons ⟨_, rfl⟩ (.cons ⟨_, rfl⟩ (.cons ⟨_, rfl⟩ (.cons ⟨_, rfl⟩ (.nil)))))))))))⟩⟩
theorem tu_HAS_ROW {p : Addr} {od : Option Addr} {n : Nat} {sl : Array (Option Value)} (X : K.In h) (G : h.Ns mainGlobals mg) (a : PySem.W.nsIn K mainGlobals "HAS_ROW" = some (some (.ref p))) (l : K.lookup p = some ⟨.type "tuple", od, .seq #[.bool true, .bool false, .bool true, .bool false, .bool false, .bool false, .bool false, .bool false, .bool false, .bool false, .bool false] n, sl⟩) : ∃ p, mg "HAS_ROW" = some (.ref p) ∧ ∀ H : Hp, SqT K H p [.bl true, .bl false, .bl true, .bl false, .bl false, .bl false, .bl false, .bl false, .bl false, .bl false, .bl false] := ⟨p, PySem.W.mg_of X G a, fun H => .inr ⟨_, _, _, l, rfl, rfl, (by show 11 ≤ sizeLine; decide), .cons rfl (.cons rfl (.cons rfl (.cons rfl (.cons rfl (.cons rfl (.cons rfl (.cons rfl (.cons rfl (.cons rfl (.cons rfl (.nil)))))))))))⟩⟩
theorem tu_CONDITION_NUMBERS {p : Addr} {od : Option Addr} {n : Nat} {sl : Array (Option Value)} {t0 t1 t2 t3 : Tok} (X : K.In h) (G : h.Ns mainGlobals mg) (a : PySem.W.nsIn K mainGlobals "CONDITION_NUMBERS" = some (some (.ref p))) (l : K.lookup p = some ⟨.type "tuple", od, .seq #[.int 3 t0, .int 3 t1, .int 2 t2, .int 1 t3] n, sl⟩) : ∃ p, mg "CONDITION_NUMBERS" = some (.ref p) ∧ ∀ H : Hp, SqT K H p [.int 3, .int 3, .int 2, .int 1] := ⟨p, PySem.W.mg_of X G a, fun H => .inr ⟨_, _, _, l, rfl, rfl, (by show 4 ≤ sizeLine; decide), .cons ⟨_, rfl⟩ (.cons ⟨_, rfl⟩ (.cons ⟨_, rfl⟩ (.cons ⟨_, rfl⟩ (.nil))))⟩⟩
theorem bi_event_pairs : ∀ (kV doc pm : Value) (an : Option Addr) (cdv ct : Value) (us : List Value), us.length = (["row"] : List Str).length → bindArgs (PySem.W.fnOf "event_pairs" "event_pairs" (defArgs s_event_pairs) (defBody s_event_pairs) (defScope s_event_pairs) .none kV doc pm an cdv ct) ⟨us, []⟩ = pure ((["row"] : List Str).zip us) := fun _ _ _ _ _ _ us hl => match us, hl with | [_], _ => rfl
theorem bi_split_conditions : ∀ (kV doc pm : Value) (an : Option Addr) (cdv ct : Value) (us : List Value), us.length = (["row"] : List Str).length → bindArgs (PySem.W.fnOf "split_conditions" "split_conditions" (defArgs s_split_conditions) (defBody s_split_conditions) (defScope s_split_conditions) .none kV doc pm an cdv ct) ⟨us, []⟩ = pure ((["row"] : List Str).zip us) := fun _ _ _ _ _ _ us hl => match us, hl with | [_], _ => rfl
theorem bi_clip_answer : ∀ (kV doc pm : Value) (an : Option Addr) (cdv ct : Value) (us : List Value), us.length = (["figure", "plain", "row"] : List Str).length → bindArgs (PySem.W.fnOf "clip_answer" "clip_answer" (defArgs s_clip_answer) (defBody s_clip_answer) (defScope s_clip_answer) .none kV doc pm an cdv ct) ⟨us, []⟩ = pure ((["figure", "plain", "row"] : List Str).zip us) := fun _ _ _ _ _ _ us hl => match us, hl with | [_, _, _], _ => rfl
theorem bi_state_answer : ∀ (kV doc pm : Value) (an : Option Addr) (cdv ct : Value) (us : List Value), us.length = (["figure", "plain", "row"] : List Str).length → bindArgs (PySem.W.fnOf "state_answer" "state_answer" (defArgs s_state_answer) (defBody s_state_answer) (defScope s_state_answer) .none kV doc pm an cdv ct) ⟨us, []⟩ = pure ((["figure", "plain", "row"] : List Str).zip us) := fun _ _ _ _ _ _ us hl => match us, hl with | [_, _, _], _ => rfl
theorem bi_way_answer : ∀ (kV doc pm : Value) (an : Option Addr) (cdv ct : Value) (us : List Value), us.length = (["figure", "plain", "row"] : List Str).length → bindArgs (PySem.W.fnOf "way_answer" "way_answer" (defArgs s_way_answer) (defBody s_way_answer) (defScope s_way_answer) .none kV doc pm an cdv ct) ⟨us, []⟩ = pure ((["figure", "plain", "row"] : List Str).zip us) := fun _ _ _ _ _ _ us hl => match us, hl with | [_, _, _], _ => rfl
theorem bi_set_answer : ∀ (kV doc pm : Value) (an : Option Addr) (cdv ct : Value) (us : List Value), us.length = (["figure", "plain", "row"] : List Str).length → bindArgs (PySem.W.fnOf "set_answer" "set_answer" (defArgs s_set_answer) (defBody s_set_answer) (defScope s_set_answer) .none kV doc pm an cdv ct) ⟨us, []⟩ = pure ((["figure", "plain", "row"] : List Str).zip us) := fun _ _ _ _ _ _ us hl => match us, hl with | [_, _, _], _ => rfl
theorem bi_signal_answer : ∀ (kV doc pm : Value) (an : Option Addr) (cdv ct : Value) (us : List Value), us.length = (["figure", "plain", "row"] : List Str).length → bindArgs (PySem.W.fnOf "signal_answer" "signal_answer" (defArgs s_signal_answer) (defBody s_signal_answer) (defScope s_signal_answer) .none kV doc pm an cdv ct) ⟨us, []⟩ = pure ((["figure", "plain", "row"] : List Str).zip us) := fun _ _ _ _ _ _ us hl => match us, hl with | [_, _, _], _ => rfl
theorem bi_ticks_answer : ∀ (kV doc pm : Value) (an : Option Addr) (cdv ct : Value) (us : List Value), us.length = (["figure", "plain", "row"] : List Str).length → bindArgs (PySem.W.fnOf "ticks_answer" "ticks_answer" (defArgs s_ticks_answer) (defBody s_ticks_answer) (defScope s_ticks_answer) .none kV doc pm an cdv ct) ⟨us, []⟩ = pure ((["figure", "plain", "row"] : List Str).zip us) := fun _ _ _ _ _ _ us hl => match us, hl with | [_, _, _], _ => rfl
theorem bi_shown_answer : ∀ (kV doc pm : Value) (an : Option Addr) (cdv ct : Value) (us : List Value), us.length = (["figure", "plain", "row"] : List Str).length → bindArgs (PySem.W.fnOf "shown_answer" "shown_answer" (defArgs s_shown_answer) (defBody s_shown_answer) (defScope s_shown_answer) .none kV doc pm an cdv ct) ⟨us, []⟩ = pure ((["figure", "plain", "row"] : List Str).zip us) := fun _ _ _ _ _ _ us hl => match us, hl with | [_, _, _], _ => rfl
theorem bi_may_answer : ∀ (kV doc pm : Value) (an : Option Addr) (cdv ct : Value) (us : List Value), us.length = (["figure", "plain", "row"] : List Str).length → bindArgs (PySem.W.fnOf "may_answer" "may_answer" (defArgs s_may_answer) (defBody s_may_answer) (defScope s_may_answer) .none kV doc pm an cdv ct) ⟨us, []⟩ = pure ((["figure", "plain", "row"] : List Str).zip us) := fun _ _ _ _ _ _ us hl => match us, hl with | [_, _, _], _ => rfl
theorem bi_goto_answer : ∀ (kV doc pm : Value) (an : Option Addr) (cdv ct : Value) (us : List Value), us.length = (["figure", "plain", "row"] : List Str).length → bindArgs (PySem.W.fnOf "goto_answer" "goto_answer" (defArgs s_goto_answer) (defBody s_goto_answer) (defScope s_goto_answer) .none kV doc pm an cdv ct) ⟨us, []⟩ = pure ((["figure", "plain", "row"] : List Str).zip us) := fun _ _ _ _ _ _ us hl => match us, hl with | [_, _, _], _ => rfl
theorem bi_now_answer : ∀ (kV doc pm : Value) (an : Option Addr) (cdv ct : Value) (us : List Value), us.length = (["figure", "plain", "row"] : List Str).length → bindArgs (PySem.W.fnOf "now_answer" "now_answer" (defArgs s_now_answer) (defBody s_now_answer) (defScope s_now_answer) .none kV doc pm an cdv ct) ⟨us, []⟩ = pure ((["figure", "plain", "row"] : List Str).zip us) := fun _ _ _ _ _ _ us hl => match us, hl with | [_, _, _], _ => rfl
theorem bi_values_answer : ∀ (kV doc pm : Value) (an : Option Addr) (cdv ct : Value) (us : List Value), us.length = (["figure", "plain", "row"] : List Str).length → bindArgs (PySem.W.fnOf "values_answer" "values_answer" (defArgs s_values_answer) (defBody s_values_answer) (defScope s_values_answer) .none kV doc pm an cdv ct) ⟨us, []⟩ = pure ((["figure", "plain", "row"] : List Str).zip us) := fun _ _ _ _ _ _ us hl => match us, hl with | [_, _, _], _ => rfl
theorem tu_CALL_ANSWERS {p f0 f1 f2 f3 f4 f5 f6 f7 f8 f9 f10 : Addr} {od : Option Addr} {n : Nat} {sl : Array (Option Value)} (X : K.In h) (G : h.Ns mainGlobals mg) (a : PySem.W.nsIn K mainGlobals "CALL_ANSWERS" = some (some (.ref p))) (l : K.lookup p = some ⟨.type "tuple", od, .seq #[.ref f0, .ref f1, .ref f2, .ref f3, .ref f4, .ref f5, .ref f6, .ref f7, .ref f8, .ref f9, .ref f10] n, sl⟩) (a0 : PySem.W.nsIn K mainGlobals "clip_answer" = some (some (.ref f0))) (a1 : PySem.W.nsIn K mainGlobals "state_answer" = some (some (.ref f1))) (a2 : PySem.W.nsIn K mainGlobals "way_answer" = some (some (.ref f2))) (a3 : PySem.W.nsIn K mainGlobals "set_answer" = some (some (.ref f3))) (a4 : PySem.W.nsIn K mainGlobals "signal_answer" = some (some (.ref f4))) (a5 : PySem.W.nsIn K mainGlobals "ticks_answer" = some (some (.ref f5))) (a6 : PySem.W.nsIn K mainGlobals "shown_answer" = some (some (.ref f6))) (a7 : PySem.W.nsIn K mainGlobals "may_answer" = some (some (.ref f7))) (a8 : PySem.W.nsIn K mainGlobals "goto_answer" = some (some (.ref f8))) (a9 : PySem.W.nsIn K mainGlobals "now_answer" = some (some (.ref f9))) (a10 : PySem.W.nsIn K mainGlobals "values_answer" = some (some (.ref f10))) : ∃ p f0 f1 f2 f3 f4 f5 f6 f7 f8 f9 f10 : Addr, mg "CALL_ANSWERS" = some (.ref p) ∧ (∀ H : Hp, SqT K H p [.ref f0, .ref f1, .ref f2, .ref f3, .ref f4, .ref f5, .ref f6, .ref f7, .ref f8, .ref f9, .ref f10]) ∧ mg "clip_answer" = some (.ref f0) ∧ mg "state_answer" = some (.ref f1) ∧ mg "way_answer" = some (.ref f2) ∧ mg "set_answer" = some (.ref f3) ∧ mg "signal_answer" = some (.ref f4) ∧ mg "ticks_answer" = some (.ref f5) ∧ mg "shown_answer" = some (.ref f6) ∧ mg "may_answer" = some (.ref f7) ∧ mg "goto_answer" = some (.ref f8) ∧ mg "now_answer" = some (.ref f9) ∧ mg "values_answer" = some (.ref f10) := ⟨p, f0, f1, f2, f3, f4, f5, f6, f7, f8, f9, f10, PySem.W.mg_of X G a, fun H => .inr ⟨_, _, _, l, rfl, rfl, (by show 11 ≤ sizeLine; decide), .cons rfl (.cons rfl (.cons rfl (.cons rfl (.cons rfl (.cons rfl (.cons rfl (.cons rfl (.cons rfl (.cons rfl (.cons rfl (.nil)))))))))))⟩, PySem.W.mg_of X G a0, PySem.W.mg_of X G a1, PySem.W.mg_of X G a2, PySem.W.mg_of X G a3, PySem.W.mg_of X G a4, PySem.W.mg_of X G a5, PySem.W.mg_of X G a6, PySem.W.mg_of X G a7, PySem.W.mg_of X G a8, PySem.W.mg_of X G a9, PySem.W.mg_of X G a10⟩
theorem bi_answers : ∀ (kV doc pm : Value) (an : Option Addr) (cdv ct : Value) (us : List Value), us.length = (["calls"] : List Str).length → bindArgs (PySem.W.fnOf "answers" "answers" (defArgs s_answers) (defBody s_answers) (defScope s_answers) .none kV doc pm an cdv ct) ⟨us, []⟩ = pure ((["calls"] : List Str).zip us) := fun _ _ _ _ _ _ us hl => match us, hl with | [_], _ => rfl
end
end FF
open PySem PySem.W PyProof.Rows
set_option maxRecDepth 100000 in
set_option maxHeartbeats 8000000 in
theorem PySem.Challenge.cw_figurefades_s01_answers_holds : PySem.Challenge.rw_figurefades_s01_answers.Holds := by
  w_on; k_headS; (case hw => exact ⟨[.list [.int 9]], by decide +kernel, by decide +kernel⟩)
  k_fillS
  refine L2.walk_specK (r := PySem.Challenge.rw_figurefades_s01_answers) (k := 7) (CX := L2.CX0) (ps := ["calls"]) (sp := FF.spAnswers) (by decide +kernel) rfl rfl ⟨rfl, by decide, by decide⟩ (fun w h Y => PySem.W.kIn_of Y) ?F ?S (fun _ _ _ _ z => z)
  case F =>
    intro w mg fa h Y KX G hmg
    refine' FF.fin_mk KX hmg ?I_Clip ?I_State ?I_Way ?I_Fade ?I_Figure ?D_clip_of ?D_picture_at ?D_is_over ?D_events_at ?D_clip_refusal ?D_state_refusal ?D_condition_refusal ?D_way_refusal ?D_set_refusal ?D_signal_refusal ?D_ticks_refusal ?D_goto_refusal ?D_common_divisor ?D_in_lowest_terms ?D_shares_of ?D_condition_holds ?D_may_be_taken ?D_first_way ?D_count_on ?D_fade_on ?D_take_signals ?D_take_way ?D_tick ?D_event_pairs ?D_split_conditions ?D_clip_answer ?D_state_answer ?D_way_answer ?D_set_answer ?D_signal_answer ?D_ticks_answer ?D_shown_answer ?D_may_answer ?D_goto_answer ?D_now_answer ?D_values_answer ?D_answers ?T
    (case I_Clip => (refine' FF.defI_mk KX G ?a ?a1 ?i1 ?l1 ?c1 ?k1 ?mk ?kc FF.bi_IClip; (case a => k_is); (case a1 => k_is); (case i1 => k_is); (case l1 => k_is); (case c1 => k_is); (case k1 => k_is); (case mk => k_is); (case kc => k_is)))
    (case I_State => (refine' FF.defI_mk KX G ?a ?a1 ?i1 ?l1 ?c1 ?k1 ?mk ?kc FF.bi_IState; (case a => k_is); (case a1 => k_is); (case i1 => k_is); (case l1 => k_is); (case c1 => k_is); (case k1 => k_is); (case mk => k_is); (case kc => k_is)))
    (case I_Way => (refine' FF.defI_mk KX G ?a ?a1 ?i1 ?l1 ?c1 ?k1 ?mk ?kc FF.bi_IWay; (case a => k_is); (case a1 => k_is); (case i1 => k_is); (case l1 => k_is); (case c1 => k_is); (case k1 => k_is); (case mk => k_is); (case kc => k_is)))
    (case I_Fade => (refine' FF.defI_mk KX G ?a ?a1 ?i1 ?l1 ?c1 ?k1 ?mk ?kc FF.bi_IFade; (case a => k_is); (case a1 => k_is); (case i1 => k_is); (case l1 => k_is); (case c1 => k_is); (case k1 => k_is); (case mk => k_is); (case kc => k_is)))
    (case I_Figure => (refine' FF.defI_mk KX G ?a ?a1 ?i1 ?l1 ?c1 ?k1 ?mk ?kc FF.bi_IFigure; (case a => k_is); (case a1 => k_is); (case i1 => k_is); (case l1 => k_is); (case c1 => k_is); (case k1 => k_is); (case mk => k_is); (case kc => k_is)))
    (case D_clip_of => (refine' FF.def_mk KX G ?a ?l ?c ?k FF.bi_clip_of; (case a => k_is); (case l => k_is); (case c => k_is); (case k => k_is)))
    (case D_picture_at => (refine' FF.def_mk KX G ?a ?l ?c ?k FF.bi_picture_at; (case a => k_is); (case l => k_is); (case c => k_is); (case k => k_is)))
    (case D_is_over => (refine' FF.def_mk KX G ?a ?l ?c ?k FF.bi_is_over; (case a => k_is); (case l => k_is); (case c => k_is); (case k => k_is)))
    (case D_events_at => (refine' FF.def_mk KX G ?a ?l ?c ?k FF.bi_events_at; (case a => k_is); (case l => k_is); (case c => k_is); (case k => k_is)))
    (case D_clip_refusal => (refine' FF.def_mk KX G ?a ?l ?c ?k FF.bi_clip_refusal; (case a => k_is); (case l => k_is); (case c => k_is); (case k => k_is)))
    (case D_state_refusal => (refine' FF.def_mk KX G ?a ?l ?c ?k FF.bi_state_refusal; (case a => k_is); (case l => k_is); (case c => k_is); (case k => k_is)))
    (case D_condition_refusal => (refine' FF.def_mk KX G ?a ?l ?c ?k FF.bi_condition_refusal; (case a => k_is); (case l => k_is); (case c => k_is); (case k => k_is)))
    (case D_way_refusal => (refine' FF.def_mk KX G ?a ?l ?c ?k FF.bi_way_refusal; (case a => k_is); (case l => k_is); (case c => k_is); (case k => k_is)))
    (case D_set_refusal => (refine' FF.def_mk KX G ?a ?l ?c ?k FF.bi_set_refusal; (case a => k_is); (case l => k_is); (case c => k_is); (case k => k_is)))
    (case D_signal_refusal => (refine' FF.def_mk KX G ?a ?l ?c ?k FF.bi_signal_refusal; (case a => k_is); (case l => k_is); (case c => k_is); (case k => k_is)))
    (case D_ticks_refusal => (refine' FF.def_mk KX G ?a ?l ?c ?k FF.bi_ticks_refusal; (case a => k_is); (case l => k_is); (case c => k_is); (case k => k_is)))
    (case D_goto_refusal => (refine' FF.def_mk KX G ?a ?l ?c ?k FF.bi_goto_refusal; (case a => k_is); (case l => k_is); (case c => k_is); (case k => k_is)))
    (case D_common_divisor => (refine' FF.def_mk KX G ?a ?l ?c ?k FF.bi_common_divisor; (case a => k_is); (case l => k_is); (case c => k_is); (case k => k_is)))
    (case D_in_lowest_terms => (refine' FF.def_mk KX G ?a ?l ?c ?k FF.bi_in_lowest_terms; (case a => k_is); (case l => k_is); (case c => k_is); (case k => k_is)))
    (case D_shares_of => (refine' FF.def_mk KX G ?a ?l ?c ?k FF.bi_shares_of; (case a => k_is); (case l => k_is); (case c => k_is); (case k => k_is)))
    (case D_condition_holds => (refine' FF.def_mk KX G ?a ?l ?c ?k FF.bi_condition_holds; (case a => k_is); (case l => k_is); (case c => k_is); (case k => k_is)))
    (case D_may_be_taken => (refine' FF.def_mk KX G ?a ?l ?c ?k FF.bi_may_be_taken; (case a => k_is); (case l => k_is); (case c => k_is); (case k => k_is)))
    (case D_first_way => (refine' FF.def_mk KX G ?a ?l ?c ?k FF.bi_first_way; (case a => k_is); (case l => k_is); (case c => k_is); (case k => k_is)))
    (case D_count_on => (refine' FF.def_mk KX G ?a ?l ?c ?k FF.bi_count_on; (case a => k_is); (case l => k_is); (case c => k_is); (case k => k_is)))
    (case D_fade_on => (refine' FF.def_mk KX G ?a ?l ?c ?k FF.bi_fade_on; (case a => k_is); (case l => k_is); (case c => k_is); (case k => k_is)))
    (case D_take_signals => (refine' FF.def_mk KX G ?a ?l ?c ?k FF.bi_take_signals; (case a => k_is); (case l => k_is); (case c => k_is); (case k => k_is)))
    (case D_take_way => (refine' FF.def_mk KX G ?a ?l ?c ?k FF.bi_take_way; (case a => k_is); (case l => k_is); (case c => k_is); (case k => k_is)))
    (case D_tick => (refine' FF.def_mk KX G ?a ?l ?c ?k FF.bi_tick; (case a => k_is); (case l => k_is); (case c => k_is); (case k => k_is)))
    (case D_event_pairs => (refine' FF.def_mk KX G ?a ?l ?c ?k FF.bi_event_pairs; (case a => k_is); (case l => k_is); (case c => k_is); (case k => k_is)))
    (case D_split_conditions => (refine' FF.def_mk KX G ?a ?l ?c ?k FF.bi_split_conditions; (case a => k_is); (case l => k_is); (case c => k_is); (case k => k_is)))
    (case D_clip_answer => (refine' FF.def_mk KX G ?a ?l ?c ?k FF.bi_clip_answer; (case a => k_is); (case l => k_is); (case c => k_is); (case k => k_is)))
    (case D_state_answer => (refine' FF.def_mk KX G ?a ?l ?c ?k FF.bi_state_answer; (case a => k_is); (case l => k_is); (case c => k_is); (case k => k_is)))
    (case D_way_answer => (refine' FF.def_mk KX G ?a ?l ?c ?k FF.bi_way_answer; (case a => k_is); (case l => k_is); (case c => k_is); (case k => k_is)))
    (case D_set_answer => (refine' FF.def_mk KX G ?a ?l ?c ?k FF.bi_set_answer; (case a => k_is); (case l => k_is); (case c => k_is); (case k => k_is)))
    (case D_signal_answer => (refine' FF.def_mk KX G ?a ?l ?c ?k FF.bi_signal_answer; (case a => k_is); (case l => k_is); (case c => k_is); (case k => k_is)))
    (case D_ticks_answer => (refine' FF.def_mk KX G ?a ?l ?c ?k FF.bi_ticks_answer; (case a => k_is); (case l => k_is); (case c => k_is); (case k => k_is)))
    (case D_shown_answer => (refine' FF.def_mk KX G ?a ?l ?c ?k FF.bi_shown_answer; (case a => k_is); (case l => k_is); (case c => k_is); (case k => k_is)))
    (case D_may_answer => (refine' FF.def_mk KX G ?a ?l ?c ?k FF.bi_may_answer; (case a => k_is); (case l => k_is); (case c => k_is); (case k => k_is)))
    (case D_goto_answer => (refine' FF.def_mk KX G ?a ?l ?c ?k FF.bi_goto_answer; (case a => k_is); (case l => k_is); (case c => k_is); (case k => k_is)))
    (case D_now_answer => (refine' FF.def_mk KX G ?a ?l ?c ?k FF.bi_now_answer; (case a => k_is); (case l => k_is); (case c => k_is); (case k => k_is)))
    (case D_values_answer => (refine' FF.def_mk KX G ?a ?l ?c ?k FF.bi_values_answer; (case a => k_is); (case l => k_is); (case c => k_is); (case k => k_is)))
    (case D_answers => (refine' FF.def_mk KX G ?a ?l ?c ?k FF.bi_answers; (case a => k_is); (case l => k_is); (case c => k_is); (case k => k_is)))
    refine' FF.Txt.mk ?c_Clip ?n_Clip_events ?n_Clip_goes_round ?n_Clip_pictures ?c_State ?n_State_clip ?n_State_speed ?c_Way ?n_Way_blend ?n_Way_conditions ?n_Way_leads_from ?n_Way_leads_to ?c_Fade ?n_Fade_count ?n_Fade_had ?n_Fade_state ?n_Fade_takes ?c_Figure ?n_Figure_clips ?n_Figure_count ?n_Figure_fades ?n_Figure_plays ?n_Figure_settings ?n_Figure_signals ?n_Figure_states ?n_Figure_ticks ?n_Figure_ways ?k_GRANTED ?k_TOO_MUCH ?k_NOT_THERE ?k_FULL ?k_MOST_PICTURES ?k_MOST_EVENTS ?k_LAST_EVENT ?k_MOST_CLIPS ?k_MOST_SPEED ?k_MOST_STATES ?k_MOST_BLEND ?k_MOST_CONDITIONS ?k_MOST_WAYS ?k_LAST_VALUE ?k_MOST_NUMBER ?k_LAST_SIGNAL ?k_MOST_TICKS ?k_PLAIN_NUMBERS ?k_HAS_ROW ?k_CONDITION_NUMBERS ?k_CALL_ANSWERS ?b_min ?b_len ?b_range ?b_tuple
    (case c_Clip => (refine' ⟨?pg, ?hd, ?po, ?sa⟩; (case pg => k_is); (case hd => k_is); (case po => k_is); (case sa => k_is)))
    (case n_Clip_events => (show PySem.W.findIn _ _ _ = _; k_is))
    (case n_Clip_goes_round => (show PySem.W.findIn _ _ _ = _; k_is))
    (case n_Clip_pictures => (show PySem.W.findIn _ _ _ = _; k_is))
    (case c_State => (refine' ⟨?pg, ?hd, ?po, ?sa⟩; (case pg => k_is); (case hd => k_is); (case po => k_is); (case sa => k_is)))
    (case n_State_clip => (show PySem.W.findIn _ _ _ = _; k_is))
    (case n_State_speed => (show PySem.W.findIn _ _ _ = _; k_is))
    (case c_Way => (refine' ⟨?pg, ?hd, ?po, ?sa⟩; (case pg => k_is); (case hd => k_is); (case po => k_is); (case sa => k_is)))
    (case n_Way_blend => (show PySem.W.findIn _ _ _ = _; k_is))
    (case n_Way_conditions => (show PySem.W.findIn _ _ _ = _; k_is))
    (case n_Way_leads_from => (show PySem.W.findIn _ _ _ = _; k_is))
    (case n_Way_leads_to => (show PySem.W.findIn _ _ _ = _; k_is))
    (case c_Fade => (refine' ⟨?pg, ?hd, ?po, ?sa⟩; (case pg => k_is); (case hd => k_is); (case po => k_is); (case sa => k_is)))
    (case n_Fade_count => (show PySem.W.findIn _ _ _ = _; k_is))
    (case n_Fade_had => (show PySem.W.findIn _ _ _ = _; k_is))
    (case n_Fade_state => (show PySem.W.findIn _ _ _ = _; k_is))
    (case n_Fade_takes => (show PySem.W.findIn _ _ _ = _; k_is))
    (case c_Figure => (refine' ⟨?pg, ?hd, ?po, ?sa⟩; (case pg => k_is); (case hd => k_is); (case po => k_is); (case sa => k_is)))
    (case n_Figure_clips => (show PySem.W.findIn _ _ _ = _; k_is))
    (case n_Figure_count => (show PySem.W.findIn _ _ _ = _; k_is))
    (case n_Figure_fades => (show PySem.W.findIn _ _ _ = _; k_is))
    (case n_Figure_plays => (show PySem.W.findIn _ _ _ = _; k_is))
    (case n_Figure_settings => (show PySem.W.findIn _ _ _ = _; k_is))
    (case n_Figure_signals => (show PySem.W.findIn _ _ _ = _; k_is))
    (case n_Figure_states => (show PySem.W.findIn _ _ _ = _; k_is))
    (case n_Figure_ticks => (show PySem.W.findIn _ _ _ = _; k_is))
    (case n_Figure_ways => (show PySem.W.findIn _ _ _ = _; k_is))
    (case k_GRANTED => (refine' FF.co_mk KX G ?a; (case a => k_is)))
    (case k_TOO_MUCH => (refine' FF.co_mk KX G ?a; (case a => k_is)))
    (case k_NOT_THERE => (refine' FF.co_mk KX G ?a; (case a => k_is)))
    (case k_FULL => (refine' FF.co_mk KX G ?a; (case a => k_is)))
    (case k_MOST_PICTURES => (refine' FF.co_mk KX G ?a; (case a => k_is)))
    (case k_MOST_EVENTS => (refine' FF.co_mk KX G ?a; (case a => k_is)))
    (case k_LAST_EVENT => (refine' FF.co_mk KX G ?a; (case a => k_is)))
    (case k_MOST_CLIPS => (refine' FF.co_mk KX G ?a; (case a => k_is)))
    (case k_MOST_SPEED => (refine' FF.co_mk KX G ?a; (case a => k_is)))
    (case k_MOST_STATES => (refine' FF.co_mk KX G ?a; (case a => k_is)))
    (case k_MOST_BLEND => (refine' FF.co_mk KX G ?a; (case a => k_is)))
    (case k_MOST_CONDITIONS => (refine' FF.co_mk KX G ?a; (case a => k_is)))
    (case k_MOST_WAYS => (refine' FF.co_mk KX G ?a; (case a => k_is)))
    (case k_LAST_VALUE => (refine' FF.co_mk KX G ?a; (case a => k_is)))
    (case k_MOST_NUMBER => (refine' FF.co_mk KX G ?a; (case a => k_is)))
    (case k_LAST_SIGNAL => (refine' FF.co_mk KX G ?a; (case a => k_is)))
    (case k_MOST_TICKS => (refine' FF.co_mk KX G ?a; (case a => k_is)))
    (case k_PLAIN_NUMBERS => (refine' FF.tu_PLAIN_NUMBERS KX G ?a ?l; (case a => k_is); (case l => k_is)))
    (case k_HAS_ROW => (refine' FF.tu_HAS_ROW KX G ?a ?l; (case a => k_is); (case l => k_is)))
    (case k_CONDITION_NUMBERS => (refine' FF.tu_CONDITION_NUMBERS KX G ?a ?l; (case a => k_is); (case l => k_is)))
    (case k_CALL_ANSWERS => (refine' FF.tu_CALL_ANSWERS KX G ?a ?l ?a0 ?a1 ?a2 ?a3 ?a4 ?a5 ?a6 ?a7 ?a8 ?a9 ?a10; (case a => k_is); (case l => k_is); (case a0 => k_is); (case a1 => k_is); (case a2 => k_is); (case a3 => k_is); (case a4 => k_is); (case a5 => k_is); (case a6 => k_is); (case a7 => k_is); (case a8 => k_is); (case a9 => k_is); (case a10 => k_is)))
    (case b_min => (refine' PySem.W.mg_none_of KX G ?a; (case a => k_is)))
    (case b_len => (refine' PySem.W.mg_none_of KX G ?a; (case a => k_is)))
    (case b_range => (refine' PySem.W.mg_none_of KX G ?a; (case a => k_is)))
    (case b_tuple => (refine' PySem.W.mg_none_of KX G ?a; (case a => k_is)))
  case S =>
    intro K H xs a hO hwi hask hx
    cases hx with
    | cons h1 h2 =>
      cases h2
      cases h1 with
      | lst hs ha =>
        have e := L2.ints_dw a.1 _ ha
        subst e
        obtain ⟨cs, e1, e2, e3, e4, e5⟩ := FF.decode (ns := a.1) hask
        refine ⟨_, cs, rfl, ?_, e2, fun x hx => ⟨e3 x hx, FF.all_known x⟩, e5, fun H' l hl => ?_⟩
        · rw [← FF.toI_V, ← e1]
          exact hs
        · refine .lst (L2.SqL.of hl) ?_
          have q : PyGe05.answers a.1 = FF.run Ge05.init cs := e4
          show L2.DwAll K H' _ ((PyGe05.answers a.1).map WData.int)
          rw [q]
          exact L2.dw_ints _
#print axioms PySem.Challenge.cw_figurefades_s01_answers_holds
